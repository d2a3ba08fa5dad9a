/- Runs over unknown values, told by the kernel: part SymB. -/
import Derived.Test.YtgoppmcfidmgfaaSymA
set_option linter.unusedSimpArgs false
set_option linter.unusedVariables false
/- The operations, continued: slicing, append, copy, lengths. -/
namespace Go.Sim
open Go
noncomputable def optN (x:Option AV) (d:Nat):Option Nat:=
 match x with
 | none=>some d
 | some v=>natOf v
inductive VRo (ρ:Rho):Option AV->Option Value->Prop where
 | none:VRo ρ none none
 | some (v:AV) (v':Value):VR ρ v v'->VRo ρ (some v) (some v')
theorem run_sliceBound {P:Program} {w:World} {k:IntKind} {i y:Nat} {code:BoundsCode} (h:i<=y):(Instr.sliceBound (.int k (Int.ofNat i)) y code).run P w=.ok i w:=by
 simp only [Instr.sliceBound,asIntOf,Sem.run_bind,Sem.run_pure,Result.andThen_ok]
 rw [if_pos (by constructor<;>simp<;>omega)]
 simp
theorem run_sliceBounds {P:Program} {w:World} {ρ:Rho} {isSlice:Bool} {len cap l h m:Nat} {lo hi mx:Option AV} {lo' hi' mx':Option Value} (hlo:VRo ρ lo lo') (hhi:VRo ρ hi hi') (hmx:VRo ρ mx mx')
 (hl:optN lo 0=some l) (hh:optN hi len=some h) (hm:optN mx cap=some m) (h1:l<=h) (h2:h<=m) (h3:m<=cap) (hno:mx≠none->hi≠none) (hlen:hi=none->len<=cap) :
 (Instr.sliceBounds isSlice len cap lo' hi' mx').run P w=.ok (l,h,m) w:=by
 cases hmx with
 | none=>
   simp [optN] at hm;subst hm
   cases hhi with
   | none=>
     simp [optN] at hh;subst hh
     cases hlo with
     | none=>simp [optN] at hl;subst hl;simp [Instr.sliceBounds]
     | some v v' hv=>
       simp only [optN] at hl
       obtain ⟨k,rfl⟩:=natOf_VR hl hv
       have hb2:=fun c=>run_sliceBound (P:=P) (w:=w) (k:=k) (code:=c) h1
       simp only [Instr.sliceBounds,Sem.run_bind,Sem.run_pure,Result.andThen_ok,hb2]
   | some u u' hu=>
     simp only [optN] at hh
     obtain ⟨k,rfl⟩:=natOf_VR hh hu
     have hb1:=fun c=>run_sliceBound (P:=P) (w:=w) (k:=k) (code:=c) h2
     cases hlo with
     | none=>
       simp [optN] at hl;subst hl
       simp only [Instr.sliceBounds,Sem.run_bind,Sem.run_pure,Result.andThen_ok,hb1]
     | some v v' hv=>
       simp only [optN] at hl
       obtain ⟨k2,rfl⟩:=natOf_VR hl hv
       have hb2:=fun c=>run_sliceBound (P:=P) (w:=w) (k:=k2) (code:=c) h1
       simp only [Instr.sliceBounds,Sem.run_bind,Sem.run_pure,Result.andThen_ok,hb1,hb2]
 | some x x' hx=>
   simp only [optN] at hm
   obtain ⟨k3,rfl⟩:=natOf_VR hm hx
   have hb3:=fun c=>run_sliceBound (P:=P) (w:=w) (k:=k3) (code:=c) h3
   cases hhi with
   | none=>exact absurd rfl (hno (by simp))
   | some u u' hu=>
     simp only [optN] at hh
     obtain ⟨k,rfl⟩:=natOf_VR hh hu
     have hb1:=fun c=>run_sliceBound (P:=P) (w:=w) (k:=k) (code:=c) h2
     cases hlo with
     | none=>
       simp [optN] at hl;subst hl
       simp only [Instr.sliceBounds,Sem.run_bind,Sem.run_pure,Result.andThen_ok,hb3,hb1]
     | some v v' hv=>
       simp only [optN] at hl
       obtain ⟨k2,rfl⟩:=natOf_VR hl hv
       have hb2:=fun c=>run_sliceBound (P:=P) (w:=w) (k:=k2) (code:=c) h1
       simp only [Instr.sliceBounds,Sem.run_bind,Sem.run_pure,Result.andThen_ok,hb1,hb2,hb3]
noncomputable def cutA (A o sz cap l h m:Nat) (given ex:Bool):Option AV:=
 match given || ex with
 | true=>bif Nat.beq m l then some (.l A o (h-l) (m-l) sz true) else some (.l A (o+l*sz) (h-l) (m-l) sz true)
 | false=>bif Nat.blt l m then some (.l A (o+l*sz) (h-l) (m-l) sz false) else bif Nat.beq l 0 then some (.l A o (h-l) (m-l) sz false) else some .lz
theorem cutA_VR {ρ:Rho} {A o sz cap l h m:Nat} {given ex:Bool} {B d N cap':Nat} {r:AV} (hr:ρ A=some (B,d,N)) (hc:cap<=cap') (hex:ex=true->cap'=cap) (hN:d+o+cap'*sz<=N)
 (h1:l<=h) (h2:h<=m) (h3:m<=cap) (hg:given=false->m=cap) (hc0:cutA A o sz cap l h m given ex=some r) :
 VR ρ r (.slice (some (if (if given then m else cap')=l then ⟨B,d+o,none⟩ else (⟨B,d+o,none⟩:Addr).add (l*sz))) (h-l) ((if given then m else cap')-l)):=by
 unfold cutA at hc0
 have room:∀M,l<=M->M<=cap'->d+(o+l*sz)+(M-l)*sz<=N:=by
  intro M q1 q2
  have:M*sz<=cap'*sz:=Nat.mul_le_mul_right _ q2
  have e:(M-l)*sz=M*sz-l*sz:=Nat.sub_mul _ _ _
  have:l*sz<=M*sz:=Nat.mul_le_mul_right _ q1
  omega
 split at hc0
 · rename_i hb
   have hM:(if given=true then m else cap')=m:=by
    cases hg':given with
    | true=>simp
    | false=>
      rw [hg'] at hb;simp at hb
      simp [hex hb,hg hg']
   rw [hM]
   cases hml:Nat.beq m l with
   | true=>
     rw [hml] at hc0;simp at hc0;subst hc0
     have hml':=Nat.eq_of_beq_eq_true hml
     rw [if_pos hml']
     have:=room m (by omega) (by omega)
     exact .l A o (h-l) (m-l) sz true B d N (m-l) hr (Nat.le_refl _) (fun _=>rfl) (by rw [hml',Nat.sub_self,Nat.zero_mul];have:=Nat.zero_le (cap'*sz);omega) (by omega)
   | false=>
     rw [hml] at hc0;simp at hc0;subst hc0
     have hml':=Nat.ne_of_beq_eq_false hml
     rw [if_neg hml',addr_add]
     have:=room m (by omega) (by omega)
     have e:=VR.l (ρ:=ρ) A (o+l*sz) (h-l) (m-l) sz true B d N (m-l) hr (Nat.le_refl _) (fun _=>rfl) this (by omega)
     simpa [Nat.add_assoc] using e
 · rename_i hb
   have hg0:given=false:=by cases given<;>simp_all
   subst hg0
   have hm:m=cap:=hg rfl
   simp only [Bool.false_eq_true,if_false]
   cases hlt:Nat.blt l m with
   | true=>
     rw [hlt] at hc0;simp at hc0;subst hc0
     have hlt':l<m:=by simpa [Nat.blt_eq] using hlt
     rw [if_neg (by omega),addr_add]
     have:=room cap' (by omega) (by omega)
     have e:=VR.l (ρ:=ρ) A (o+l*sz) (h-l) (m-l) sz false B d N (cap'-l) hr (by omega) (fun q=>by simp at q) this (by omega)
     simpa [Nat.add_assoc] using e
   | false=>
     rw [hlt] at hc0
     cases hl0:Nat.beq l 0 with
     | false=>
       rw [hl0] at hc0;simp at hc0;subst hc0
       have hhl:h-l=0:=by
        have:¬l<m:=by intro q;rw [<-Nat.blt_eq] at q;rw [q] at hlt;simp at hlt
        omega
       rw [hhl]
       exact .lz _ _
     | true=>
       rw [hl0] at hc0;simp at hc0;subst hc0
       have hl0':=Nat.eq_of_beq_eq_true hl0
       subst hl0'
       have e:=VR.l (ρ:=ρ) A o (h-0) (m-0) sz false B d N (cap'-0) hr (by omega) (fun q=>by simp at q) (by simpa using hN) (by omega)
       simpa [addr_add] using e
noncomputable def optOk (hi mx:Option AV):Bool:=
 match mx,hi with
 | some _,none=>false
 | _,_=>true
noncomputable def oSlice (P:Program) (H:AH) (t:TypeId) (x:AV) (lo hi mx:Option AV):Option AV:=
 og (optOk hi mx) (match P.underlying t with
 | some (.slice e)=>ob (infoSize P e) fun sz=>match x with
   | .l A o len cap s ex=>og (Nat.beq s sz) (ob (optN lo 0) fun l=>ob (optN hi len) fun h=>ob (optN mx cap) fun m=>og (Nat.ble l h) (og (Nat.ble h m) (og (Nat.ble m cap) (cutA A o sz cap l h m mx.isSome ex))))
   | .l0=>ob (optN lo 0) fun l=>ob (optN hi 0) fun h=>ob (optN mx 0) fun m=>og (Nat.ble l h) (og (Nat.ble h m) (og (Nat.ble m 0) (some .l0)))
   | .lz=>og (!mx.isSome) (ob (optN lo 0) fun l=>ob (optN hi 0) fun h=>og (Nat.ble l h) (og (Nat.ble h 0) (some .lz)))
   | _=>none
 | some (.array n e)=>ob (infoSize P e) fun sz=>match x with
   | .p A o=>match H.get A with
     | some (.cells _ size _ _)=>og (Nat.ble (o+n*sz) size) (ob (optN lo 0) fun l=>ob (optN hi n) fun h=>ob (optN mx n) fun m=>og (Nat.ble l h) (og (Nat.ble h m) (og (Nat.ble m n) (cutA A o sz n l h m mx.isSome true))))
     | _=>none
   | _=>none
 | some .string=>match x with
   | .s s=>og (!mx.isSome) (ob (optN lo 0) fun l=>ob (optN hi s.length) fun h=>og (Nat.ble l h) (og (Nat.ble h s.length) (some (.s ((s.drop l).take (h-l))))))
   | _=>none
 | _=>none)
theorem oSlice_sound {P:Program} {H:AH} {t:TypeId} {x r:AV} {lo hi mx:Option AV} {x':Value} {lo' hi' mx':Option Value} {ρ:Rho} {w:World} (h:oSlice P H t x lo hi mx=some r) (hh:HR ρ H w)
 (hx:VR ρ x x') (hlo:VRo ρ lo lo') (hhi:VRo ρ hi hi') (hmx:VRo ρ mx mx'):GoesV P (Instr.sliceAt t x' lo' hi' mx') r H ρ H w:=by
 simp only [oSlice,og_some] at h
 obtain ⟨hok,h⟩:=h
 have hno:mx≠none->hi≠none:=by
  intro a b
  subst b
  cases mx with
  | none=>exact a rfl
  | some y=>simp [optOk] at hok
 split at h
 · rename_i e hu
   simp only [ob_some] at h
   obtain ⟨sz,hsz,h⟩:=h
   split at h
   · rename_i A o len cap s ex
     simp only [ob_some,og_some] at h
     obtain ⟨hs,l,hl,h0,hh0,m,hm,h1,h2,h3,h4⟩:=h
     have hs':=Nat.eq_of_beq_eq_true hs
     subst hs'
     have h1':=Nat.le_of_ble_eq_true h1
     have h2':=Nat.le_of_ble_eq_true h2
     have h3':=Nat.le_of_ble_eq_true h3
     cases hx with
     | l A o len cap s ex B d N cap' hr hc hex hN hlc=>
     have hm':optN mx cap'=some (if mx.isSome then m else cap'):=by
      cases mx with
      | none=>simp [optN]
      | some y=>simpa [optN] using hm
     have hgm:mx.isSome=false->m=cap:=by
      intro q
      cases mx with
      | none=>simp [optN] at hm;exact hm.symm
      | some y=>simp at q
     have hrun:=run_sliceBounds (P:=P) (w:=w) (isSlice:=true) hlo hhi hmx hl hh0 hm' h1' (by split<;>omega) (by split<;>omega) hno (fun q=>by omega)
     have hv:=cutA_VR hr hc hex hN h1' h2' h3' hgm h4
     refine GoesV.pure hh hv ?_
     simp only [Instr.sliceAt,Sem.run_bind,run_underlying' hu,Result.andThen_ok,Instr.slice,hrun,run_sizeOf' hsz,Sem.run_pure]
     congr 2
     repeat' split
     all_goals rfl
   · simp only [ob_some,og_some] at h
     obtain ⟨l,hl,h0,hh0,m,hm,h1,h2,h3,e'⟩:=h
     simp at e';subst e'
     have h1':=Nat.le_of_ble_eq_true h1
     have h2':=Nat.le_of_ble_eq_true h2
     have h3':=Nat.le_of_ble_eq_true h3
     cases hx with
     | l0=>
     have hrun:=run_sliceBounds (P:=P) (w:=w) (isSlice:=true) hlo hhi hmx hl hh0 hm h1' h2' h3' hno (fun q=>Nat.le_refl _)
     refine GoesV.pure hh .l0 ?_
     simp only [Instr.sliceAt,Sem.run_bind,run_underlying' hu,Result.andThen_ok,Instr.slice,hrun,run_sizeOf' hsz,Sem.run_pure]
     obtain rfl:m=0:=by omega
     obtain rfl:h0=0:=by omega
     obtain rfl:l=0:=by omega
     rfl
   · simp only [ob_some,og_some] at h
     obtain ⟨hms,l,hl,h0,hh0,h1,h2,e'⟩:=h
     simp at e';subst e'
     have h1':=Nat.le_of_ble_eq_true h1
     have h2':=Nat.le_of_ble_eq_true h2
     have hmn:mx=none:=by cases mx<;>simp_all
     subst hmn
     cases hmx
     cases hx with
     | lz a c=>
     have hrun:=run_sliceBounds (P:=P) (w:=w) (isSlice:=true) (len:=0) (cap:=c) hlo hhi (.none (ρ:=ρ)) hl hh0 rfl h1' (by omega) (Nat.le_refl _) hno (fun q=>by omega)
     obtain rfl:h0=0:=by omega
     obtain rfl:l=0:=by omega
     refine GoesV.pure (v':=.slice (some (if c=0 then a else a.add (0*sz))) (0-0) (c-0)) hh (.lz _ _) ?_
     simp only [Instr.sliceAt,Sem.run_bind,run_underlying' hu,Result.andThen_ok,Instr.slice,hrun,run_sizeOf' hsz,Sem.run_pure]
     congr 2
     split<;>rfl
   · simp at h
 · rename_i n e hu
   simp only [ob_some] at h
   obtain ⟨sz,hsz,h⟩:=h
   split at h
   · rename_i A o
     split at h
     · rename_i e2 size dflt cs hA
       simp only [ob_some,og_some] at h
       obtain ⟨hs,l,hl,h0,hh0,m,hm,h1,h2,h3,h4⟩:=h
       have hs':=Nat.le_of_ble_eq_true hs
       have h1':=Nat.le_of_ble_eq_true h1
       have h2':=Nat.le_of_ble_eq_true h2
       have h3':=Nat.le_of_ble_eq_true h3
       cases hx with
       | p A o B d N hr=>
       obtain ⟨c,fr,q1,q2,q3,q4,q5⟩:=hh.row hA hr
       have hm':optN mx n=some (if mx.isSome then m else n):=by
        cases mx with
        | none=>simp [optN]
        | some y=>simpa [optN] using hm
       have hgm:mx.isSome=false->m=n:=by
        intro q
        cases mx with
        | none=>simp [optN] at hm;exact hm.symm
        | some y=>simp at q
       have hrun:=run_sliceBounds (P:=P) (w:=w) (isSlice:=false) hlo hhi hmx hl hh0 hm' h1' (by split<;>omega) (by split<;>omega) hno (fun q=>Nat.le_refl _)
       have hv:=cutA_VR (cap':=n) hr (Nat.le_refl _) (fun _=>rfl) (by omega) h1' h2' h3' hgm h4
       refine GoesV.pure hh hv ?_
       simp only [Instr.sliceAt,Sem.run_bind,run_underlying' hu,Result.andThen_ok,Instr.sureAddr,hrun,run_sizeOf' hsz,Sem.run_pure]
     · simp at h
   · simp at h
 · rename_i hu
   split at h
   · rename_i s
     simp only [ob_some,og_some] at h
     obtain ⟨hms,l,hl,h0,hh0,h1,h2,e'⟩:=h
     simp at e';subst e'
     have h1':=Nat.le_of_ble_eq_true h1
     have h2':=Nat.le_of_ble_eq_true h2
     cases hx with
     | s _ s' hs=>
     have hmn:mx=none:=by cases mx<;>simp_all
     subst hmn
     cases hmx
     have hsz:s'.size=s.length:=by rw [<-hs];simp
     have hrun:=run_sliceBounds (P:=P) (w:=w) (isSlice:=false) (len:=s'.size) (cap:=s'.size) hlo hhi (.none (ρ:=ρ)) hl (by rw [hsz];exact hh0) rfl h1' (by omega) (Nat.le_refl _) hno (fun _=>Nat.le_refl _)
     refine GoesV.pure hh (.s _ (s'.extract l h0) ?_) ?_
     · rw [<-hs]
       simp [ByteArray.data_extract,List.extract_eq_take_drop]
     · simp only [Instr.sliceAt,Sem.run_bind,run_underlying' hu,Result.andThen_ok,Instr.slice,Option.isSome,Bool.false_eq_true,if_false,hrun,Sem.run_pure]
   · simp at h
 · simp at h
end Go.Sim
/- The operations, continued: append and copy. -/
namespace Go.Sim
open Go
theorem HR.drew {ρ:Rho} {H:AH} {w:World} (h:HR ρ H w):HR ρ H { w with drawn:=w.drawn+1}:=
 ⟨fun A o hA=>(h.live A o hA).imp (fun ⟨x,a,b⟩=>⟨x,a,b.congr rfl⟩) id,h.inj,h.range,h.ro,h.rox⟩
theorem Ext.drew {ρ:Rho} {H:AH} {w:World}:Ext ρ H w ρ H { w with drawn:=w.drawn+1}:=
 ⟨Nat.le_refl _,.refl _,fun _ _ h=>.inl h,Nat.le_refl _,fun _ _ _=>rfl,fun A o x h hx=>.inr ⟨A,o,x,h,hx,rfl⟩,fun _ _ _ h=>.inl h,rfl,rfl,rfl⟩
noncomputable def bytesA:List Nat->List AV
 | []=>[]
 | b :: r=>.i .u8 (.ofNat b) :: bytesA r
theorem bytesA_length:∀l,(bytesA l).length=l.length
 | []=>rfl
 | _ :: r=>by simp [bytesA,bytesA_length r]
theorem bytesA_one:∀l,allOne (bytesA l)=true
 | []=>rfl
 | _ :: r=>by simp [bytesA,allOne_cons,AV.one,bytesA_one r]
theorem bytesA_VRs {ρ:Rho}:∀(l:List UInt8),VRs ρ (bytesA (l.map UInt8.toNat)) (l.map fun b=>Value.int .u8 b.toNat)
 | []=>.nil
 | b :: r=>.cons _ _ _ _ (.i _ _) (bytesA_VRs r)
noncomputable def zerosB (P:Program) (u:TypeId):Option Bool:=
 match P.underlying u with
 | some (.int _)=>some true
 | some _=>some false
 | none=>none
noncomputable def srcCells (H:AH) (sz:Nat) (z:List AV) (zeros:Bool) (y:AV):Option (List AV×Nat):=
 match zeros with
 | true=>ob (natOf y) fun n=>og (Nat.ble n 1073741824) (some (rep z n,n))
 | false=>match y with
   | .l0=>some ([],0)
   | .lz=>some ([],0)
   | .l A o len _ s _=>og (Nat.beq s sz) (match H.get A with
     | some (.cells _ size dflt cs)=>ob (readN size dflt cs o (len*sz)) fun l=>some (l,len)
     | _=>none)
   | .s l=>og (Nat.beq sz 1) (some (bytesA l,l.length))
   | _=>none
theorem run_firstCells {P:Program} {H:AH} {sz:Nat} {z:List AV} {y:AV} {y':Value} {cs:List AV} {n:Nat} {ρ:Rho} {w:World} (h:srcCells H sz z false y=some (cs,n)) (hh:HR ρ H w) (hy:VR ρ y y') :
 (Builtin.lenOf y').run P w=.ok n w/\∃vs:List Value,(Builtin.firstCells sz n y').run P w=.ok vs.toArray w/\VRs ρ cs vs/\allOne cs=true:=by
 unfold srcCells at h
 split at h
 · simp at *
 · split at h
   · simp at h;obtain ⟨rfl,rfl⟩:=h
     cases hy
     exact ⟨by simp [Builtin.lenOf],[],by simp [Builtin.firstCells],.nil,rfl⟩
   · simp at h;obtain ⟨rfl,rfl⟩:=h
     cases hy
     exact ⟨by simp [Builtin.lenOf],[],by simp [Builtin.firstCells,loadCells,loadCellsFrom],.nil,rfl⟩
   · rename_i A o len cap s ex
     simp only [og_some] at h
     obtain ⟨hs,h⟩:=h
     split at h
     · rename_i e size dflt c hA
       simp only [ob_some] at h
       obtain ⟨l,hl,e'⟩:=h
       simp at e';obtain ⟨rfl,rfl⟩:=e'
       cases hy with
       | l A o len cap s ex B d N cap' hr=>
       obtain ⟨vs,g1,g2,g3⟩:=hh.readN (P:=P) hA hr hl
       exact ⟨by simp [Builtin.lenOf],vs,by simpa [Builtin.firstCells] using g3,g1,g2⟩
     · simp at h
   · rename_i l
     simp only [og_some] at h
     obtain ⟨hs,e'⟩:=h
     simp at e';obtain ⟨rfl,rfl⟩:=e'
     cases hy with
     | s _ s hs'=>
     have hsz:s.size=l.length:=by rw [<-hs'];simp
     refine ⟨by simp [Builtin.lenOf,hsz],s.data.toList.map fun b=>Value.int .u8 b.toNat,?_,?_,bytesA_one _⟩
     · simp only [Builtin.firstCells,Sem.run_pure]
       congr 1
       rw [<-hsz]
       apply Array.ext'
       simp [ByteArray.data_extract]
     · rw [<-hs'];exact bytesA_VRs _
   · simp at h
noncomputable def appObj (e:TypeId) (size:Nat) (dflt:List AV) (cs:T AV) (o sz len:Nat) (new:List AV):Option AObj:=
 og (Nat.ble (o+len*sz) size) (match o with
  | 0=>some (.cells e (len*sz+new.length) dflt (setAll cs (len*sz) new))
  | _+1=>ob (readN size dflt cs o (len*sz)) fun old=>some (.cells e (len*sz+new.length) [] (setAll .e 0 (old ++ new))))
theorem readN_get {size:Nat} {dflt:List AV} {cs:T AV}:∀(n o:Nat) (l:List AV),readN size dflt cs o n=some l->l.length=n/\∀(i:Nat) (v:AV),l[i]? =some v->cellAt size dflt cs (o+i)=some v
 | 0,o,l,h=>by simp [readN_0] at h;subst h;simp
 | n+1,o,l,h=>by
   simp only [readN_s,ob_some] at h
   obtain ⟨v,hv,r,hr,e⟩:=h
   simp at e;subst e
   obtain ⟨h1,h2⟩:=readN_get n (o+1) r hr
   refine ⟨by simp [h1],?_⟩
   intro i u hu
   cases i with
   | zero=>simp at hu;subst hu;simpa using hv
   | succ i=>
     simp at hu
     have:=h2 i u hu
     rwa [show o+(i+1)=o+1+i by omega]
theorem appObj_spec {e:TypeId} {size:Nat} {dflt:List AV} {cs:T AV} {o sz len:Nat} {new:List AV} {obj:AObj} (h:appObj e size dflt cs o sz len new=some obj) :
 o+len*sz<=size/\∃d' c',obj=.cells e (len*sz+new.length) d' c'/\∀(i:Nat) (v:AV),cellAt (len*sz+new.length) d' c' i=some v->
  (i<len*sz/\cellAt size dflt cs (o+i)=some v)\/(len*sz<=i/\new[i-len*sz]? =some v):=by
 simp only [appObj,og_some] at h
 obtain ⟨h0,h⟩:=h
 have h0':=Nat.le_of_ble_eq_true h0
 refine ⟨h0',?_⟩
 split at h
 · simp at h;subst h
   refine ⟨_,_,rfl,?_⟩
   intro i v hv
   unfold cellAt at hv
   cases hlt:Nat.blt i (len*sz+new.length) with
   | false=>rw [hlt] at hv;simp at hv
   | true=>
     rw [hlt,setAll_get] at hv
     have hlt':i<len*sz+new.length:=by simpa [Nat.blt_eq] using hlt
     by_cases hin:len*sz<=i
     · rw [if_pos ⟨hin,hlt'⟩] at hv
       right
       refine ⟨hin,?_⟩
       rw [List.getElem?_eq_getElem (by omega)] at hv⊢
       simpa using hv
     · rw [if_neg (by omega)] at hv
       left
       refine ⟨by omega,?_⟩
       unfold cellAt
       have:Nat.blt (0+i) size=true:=by simp [Nat.blt_eq];omega
       rw [this]
       simpa using hv
 · simp only [ob_some] at h
   obtain ⟨old,hold,e'⟩:=h
   simp at e';subst e'
   obtain ⟨g1,g2⟩:=readN_get _ _ _ hold
   refine ⟨_,_,rfl,?_⟩
   intro i v hv
   have hle:(old ++ new).length=len*sz+new.length:=by simp [g1]
   rw [<-hle] at hv
   have hg:=cellAt_list hv
   by_cases hin:i<len*sz
   · rw [List.getElem?_append_left (by omega)] at hg
     exact .inl ⟨hin,g2 _ _ hg⟩
   · rw [List.getElem?_append_right (by omega),g1] at hg
     exact .inr ⟨by omega,hg⟩
noncomputable def appendA (H:AH) (e:TypeId) (sz:Nat) (x:AV) (cs:List AV) (n:Nat):Option (AV×AH):=
 match x with
 | .lz=>match n with
   | 0=>some (.lz,H)
   | _+1=>none
 | .l0=>match n with
   | 0=>some (.l0,H)
   | _+1=>og (Nat.ble n 1073741824) (some (.l H.next 0 n n sz false,newList H e cs))
 | .l A o len cap s ex=>og (Nat.beq s sz) (og (Nat.ble (len+n) 1073741824) (match H.get A with
   | some (.cells e' size dflt c)=>match Nat.ble (len+n) cap with
     | true=>og (Nat.ble (o+len*sz+cs.length) size) (some (.l A o (len+n) cap sz ex,H.upd A (some (.cells e' size dflt (setAll c (o+len*sz) cs)))))
     | false=>ob (appObj e size dflt c o sz len cs) fun obj=>match ex with
       | true=>some (.l H.next 0 (len+n) (len+n) sz false,H.new obj)
       | false=>og (Nat.beq e' e) (some (.l H.next 0 (len+n) (len+n) sz false,(H.upd A none).new obj))
   | _=>none))
 | _=>none
noncomputable def oAppend (P:Program) (H:AH) (t u:TypeId) (x y:AV):Option (AV×AH):=
 match P.underlying t with
 | some (.slice e)=>match P.info? e with
   | some ie=>ob (zeroCellsOf P e) fun z=>ob (zerosB P u) fun zeros=>og (Nat.beq z.length ie.size) (og (Nat.blt 0 ie.size) (og (Nat.ble ie.bytes 65536)
      (ob (srcCells H ie.size z zeros y) fun p=>appendA H e ie.size x p.1 p.2)))
   | none=>none
 | _=>none
theorem growBy_le (newLen:Nat):∀(r c:Nat),2*c<=3*newLen+1536->2*Builtin.growBy newLen r c<=3*newLen+1536
 | 0,c,h=>by simpa [Builtin.growBy] using h
 | r+1,c,h=>by
   simp only [Builtin.growBy]
   split
   · exact h
   · exact growBy_le newLen r _ (by omega)
theorem nextslicecap_le {need old:Nat} (h:old<need):2*Builtin.nextslicecap need old<=3*need+1536:=by
 unfold Builtin.nextslicecap
 split
 · omega
 · split
   · omega
   · exact growBy_le _ _ _ (by omega)
end Go.Sim
/- The operations, continued: append's run. -/
namespace Go.Sim
open Go
noncomputable def appTail (e:TypeId) (size:Nat) (z:Value) (base:Option Addr) (sLen sCap n:Nat) (app:Sem (Array Value)):Sem Value:=
 if sLen+n<=sCap then app >>= fun new=>(match base with | some a=>storeCells (a.add (sLen*size)) new.toList | none=>pure ()) >>= fun _=>pure (.slice base (sLen+n) sCap)
 else choose (.appendCap (sLen+n) sCap e) >>= fun newCap=>Builtin.firstCells size sLen (.slice base sLen sCap) >>= fun old=>app >>= fun new=>
  newRow e (old ++ new ++ Builtin.zeroCells z.cells (newCap-(sLen+n))) >>= fun a=>pure (.slice (some a) (sLen+n) newCap)
theorem need_small {need:Nat} (h:need<=140737488355328):¬((need:Int)>IntKind.i64.max):=by
 have:IntKind.i64.max=9223372036854775807:=by simp [IntKind.max,IntKind.signed,IntKind.bits]
 rw [this];omega
theorem next_small {need cap bytes:Nat} (hb:(3*need+1536)*bytes<=562949953421312) (hc:¬need<=cap):¬(Builtin.nextslicecap need cap*bytes>2 ^ 48):=by
 have h1:=nextslicecap_le (need:=need) (old:=cap) (by omega)
 have h2:2*Builtin.nextslicecap need cap*bytes<=(3*need+1536)*bytes:=Nat.mul_le_mul_right _ h1
 rw [Nat.mul_assoc] at h2
 omega
theorem old_small {need bytes:Nat} (h:need<=1073741824) (hb:bytes<=65536):(3*need+1536)*bytes<=562949953421312:=by
 have h2:(3*need+1536)*bytes<=3221227008*65536:=Nat.mul_le_mul (by omega) hb
 omega
theorem run_append_plain {P:Program} {t u e:TypeId} {ie:TypeInfo} {y z:Value} {base:Option Addr} {sLen sCap n:Nat} {w:World} {ats:Array TypeId} {ty:TypeId} (h0:ats[0]? =some t) (h1:ats[1]? =some u)
 (hu:P.underlying t=some (.slice e)) (hie:P.info? e=some ie) (hz:zerosB P u=some false) (hl:(Builtin.lenOf y).run P w=.ok n w) (hzv:∀w,(zeroValue e).run P w=.ok z w)
 (hn:sLen+n<=140737488355328) (hb:(3*(sLen+n)+1536)*ie.bytes<=562949953421312) :
 (Builtin.append_ ats ty #[.slice base sLen sCap,y]).run P w=(appTail e ie.size z base sLen sCap n (Builtin.firstCells ie.size n y)).run P w:=by
 have hsz:infoSize P e=some ie.size:=by simp [infoSize,hie]
 obtain ⟨d,hd,hd2⟩:∃d,P.underlying u=some d/\∀k,d≠.int k:=by
  unfold zerosB at hz
  split at hz
  · simp at hz
  · rename_i d hd hh
    exact ⟨d,hh,fun k e=>hd k (by rw [<-e])⟩
  · simp at hz
 have c1:=need_small hn
 unfold Builtin.append_ appTail
 simp only [h0,h1,List.getElem?_toArray,List.getElem?_cons_zero,List.getElem?_cons_succ,Sem.run_bind,run_underlying' hu,run_underlying' hd,run_sizeOf' hsz,Result.andThen_ok,Sem.run_pure,run_typeInfo' hie,hl,Bool.not_false,if_true,Bool.false_eq_true,if_false,Bool.not_true,c1,false_and]
 cases d
 case int k=>exact absurd rfl (hd2 k)
 all_goals try simp only [Bool.not_false,if_true,Bool.false_eq_true,if_false,Bool.not_true,Sem.run_bind,Sem.run_pure,Result.andThen_ok,hl]
 all_goals by_cases hc:sLen+n<=sCap
 all_goals first
 | (simp only [hc,if_true,Sem.run_bind]
    congr 1
    funext new w1
    cases base<;>simp)
 | (have c2:=next_small hb hc
    simp only [hc,if_false,Sem.run_bind,c1,false_and,c2,run_typeInfo' hie,Result.andThen_ok,run_askRoom]
    congr 1
    funext newCap w1
    try simp only [Sem.run_bind,run_typeInfo' hie,Result.andThen_ok,run_askRoom]
    congr 1
    funext old w2
    congr 1
    funext new w3
    simp only [hzv,Result.andThen_ok])
theorem run_append_zeros {P:Program} {t u e:TypeId} {ie:TypeInfo} {z:Value} {k:IntKind} {base:Option Addr} {sLen sCap n:Nat} {w:World} {ats:Array TypeId} {ty:TypeId} (h0:ats[0]? =some t) (h1:ats[1]? =some u)
 (hu:P.underlying t=some (.slice e)) (hie:P.info? e=some ie) (hz:zerosB P u=some true) (hzv:∀w,(zeroValue e).run P w=.ok z w)
 (hn:sLen+n<=140737488355328) (hb:(3*(sLen+n)+1536)*ie.bytes<=562949953421312) :
 (Builtin.append_ ats ty #[.slice base sLen sCap,.int k (Int.ofNat n)]).run P w=(appTail e ie.size z base sLen sCap n (if n*ie.size=0 then pure #[] else pure (Builtin.zeroCells z.cells n))).run P w:=by
 have hsz:infoSize P e=some ie.size:=by simp [infoSize,hie]
 obtain ⟨dk,hd⟩:∃k,P.underlying u=some (.int k):=by
  unfold zerosB at hz
  split at hz
  · rename_i k hh
    exact ⟨_,hh⟩
  · simp at hz
  · simp at hz
 have c1:=need_small hn
 have c3:IntKind.i64.wrap (Int.ofNat n)=Int.ofNat n:=wrap_small (by omega)
 have c4:¬(Int.ofNat n<0):=by simp
 have c5:¬(Int.ofNat n*(ie.bytes:Int)>2 ^ 48):=by
  have h:3*n*ie.bytes<=(3*(sLen+n)+1536)*ie.bytes:=Nat.mul_le_mul_right _ (by omega)
  rw [Nat.mul_assoc] at h
  have:Int.ofNat n*(ie.bytes:Int)=((n*ie.bytes:Nat):Int):=by simp
  rw [this];omega
 have c6:(Int.ofNat n).toNat=n:=rfl
 have hap:∀w,(if n*ie.size=0 then (pure #[]:Sem (Array Value)) else (zeroValue e >>= fun a=>pure (Builtin.zeroCells a.cells n))).run P w=((if n*ie.size=0 then pure #[] else pure (Builtin.zeroCells z.cells n)):Sem (Array Value)).run P w:=by
  intro w
  by_cases h:n*ie.size=0
  · simp only [h,if_true]
  · simp only [h,if_false,Sem.run_bind,hzv,Result.andThen_ok]
 unfold Builtin.append_ appTail
 simp only [h0,h1,List.getElem?_toArray,List.getElem?_cons_zero,List.getElem?_cons_succ,Sem.run_bind,run_underlying' hu,run_underlying' hd,run_sizeOf' hsz,Result.andThen_ok,Sem.run_pure,run_typeInfo' hie,Bool.not_false,if_true,Bool.false_eq_true,if_false,Bool.not_true,c1,false_and,asInt,asIntOf,c3,c4,c5,c6]
 by_cases hc:sLen+n<=sCap
 · simp only [hc,if_true,Sem.run_bind,hap]
   congr 1
   funext new w1
   cases base<;>simp
 · have c2:=next_small hb hc
   simp only [hc,if_false,Sem.run_bind,c2,run_typeInfo' hie,Result.andThen_ok,run_askRoom,hap]
   congr 1
   funext newCap w1
   try simp only [Sem.run_bind,run_typeInfo' hie,Result.andThen_ok,run_askRoom,hap]
   congr 1
   funext old w2
   congr 1
   funext new w3
   simp only [hzv,Result.andThen_ok]
end Go.Sim
/- The operations, continued: append answers what the abstract append answers. -/
namespace Go.Sim
open Go
theorem srcCells_length {H:AH} {sz:Nat} {z:List AV} {zeros:Bool} {y:AV} {cs:List AV} {n:Nat} (h:srcCells H sz z zeros y=some (cs,n)) (hz:z.length=sz):cs.length=n*sz:=by
 unfold srcCells at h
 split at h
 · simp only [ob_some,og_some] at h
   obtain ⟨m,hm,h1,e⟩:=h
   simp at e;obtain ⟨rfl,rfl⟩:=e
   rw [rep_length,hz]
 · split at h
   · simp at h;obtain ⟨rfl,rfl⟩:=h;simp
   · simp at h;obtain ⟨rfl,rfl⟩:=h;simp
   · simp only [og_some] at h
     obtain ⟨hs,h⟩:=h
     split at h
     · simp only [ob_some] at h
       obtain ⟨l,hl,e⟩:=h
       simp at e;obtain ⟨rfl,rfl⟩:=e
       exact (readN_get _ _ _ hl).1
     · simp at h
   · simp only [og_some] at h
     obtain ⟨hs,e⟩:=h
     simp at e;obtain ⟨rfl,rfl⟩:=e
     rw [bytesA_length,Nat.eq_of_beq_eq_true hs,Nat.mul_one]
   · simp at h
theorem run_grow {H:AH} {ρ:Rho} {w:World} {e:TypeId} {size:Nat} {dflt:List AV} {cs:T AV} {c:Array Value} (hh:HR ρ H w) (hf:ρ H.next=none) (hs:size<=c.size)
 (hc:∀(i:Nat) (v:AV),cellAt size dflt cs i=some v->∃v':Value,c[i]? =some v'/\VR ρ v v'/\v.one=true) :
 HR (ρ.add H.next (w.heap.size,0,c.size)) (H.new (.cells e size dflt cs)) ({ w with drawn:=w.drawn+1,heap:=w.heap.push (.cells c e)}:World)/\
  Ext ρ H w (ρ.add H.next (w.heap.size,0,c.size)) (H.new (.cells e size dflt cs)) ({ w with drawn:=w.drawn+1,heap:=w.heap.push (.cells c e)}:World):=by
 obtain ⟨a,b⟩:=hh.drew.newCells (t:=e) (size:=size) (dflt:=dflt) (cs:=cs) (c:=c) hf hs hc
 exact ⟨a,Ext.drew.trans b⟩
theorem HR.sub {ρ:Rho} {H1 H2:AH} {w:World} (h:HR ρ H1 w) (hs:∀(B:Nat) (o:AObj),H2.get B=some o->H1.get B=some o):HR ρ H2 w:=
 ⟨fun A o hA=>h.live A o (hs _ _ hA),fun A A' o o' x x' a b=>h.inj A A' o o' x x' (hs _ _ a) (hs _ _ b),h.range,h.ro,fun B j v hv A o x hA hx=>h.rox B j v hv A o x (hs _ _ hA) hx⟩
theorem Ext.sub {ρ ρ':Rho} {H H1 H2:AH} {w w':World} (h:Ext ρ H w ρ' H1 w') (hs:∀(B:Nat) (o:AObj),H2.get B=some o->H1.get B=some o) (hn:H2.next=H1.next):Ext ρ H w ρ' H2 w':=
 ⟨hn▸h.next,h.ext,fun A x hx=>hn▸h.dom A x hx,h.size,h.frame,fun A o x hA hx=>h.img A o x (hs _ _ hA) hx,h.roimg,h.tape,h.os,h.output⟩
theorem zeroCells_size (z:Array Value) (n:Nat):(Builtin.zeroCells z n).size=n*z.size:=by simp [Builtin.zeroCells]
theorem appTail_sound {P:Program} {H H':AH} {e:TypeId} {sz n:Nat} {z:Value} {x r:AV} {cs:List AV} {base:Option Addr} {sLen sCap:Nat} {app:Sem (Array Value)} {ρ:Rho} {w:World}
 (h:appendA H e sz x cs n=some (r,H')) (hh:HR ρ H w) (hf:Fresh ρ H H'.next) (hx:VR ρ x (.slice base sLen sCap)) (hz:z.cells.size=sz)
 (hcs:cs.length=n*sz) (happ:∀w,HR ρ H w->∃vs:List Value,app.run P w=.ok vs.toArray w/\VRs ρ cs vs/\allOne cs=true) :
 GoesV P (appTail e sz z base sLen sCap n app) r H' ρ H w:=by
 unfold appendA at h
 split at h
 · split at h
   · simp at h;obtain ⟨rfl,rfl⟩:=h
     cases hx with
     | lz a c=>
     obtain ⟨vs,a1,a2,a3⟩:=happ w hh
     have hvs:vs=[]:=by
      have:=a2.length
      rw [hcs] at this
      simp at this
      exact List.eq_nil_of_length_eq_zero this.symm
     subst hvs
     exact ⟨.slice (some a) 0 sCap,ρ,w,by simp [appTail,a1,storeCells],.lz _ _,hh,Ext.refl _ _ _⟩
   · simp at h
 · -- nil
   cases hx with
   | l0=>
   split at h
   · simp at h;obtain ⟨rfl,rfl⟩:=h
     obtain ⟨vs,a1,a2,a3⟩:=happ w hh
     exact ⟨.slice none 0 0,ρ,w,by simp [appTail,a1],.l0,hh,Ext.refl _ _ _⟩
   · rename_i m
     simp only [og_some] at h
     obtain ⟨h1,e'⟩:=h
     simp at e';obtain ⟨rfl,rfl⟩:=e'
     have hdr:=hh.drew
     obtain ⟨vs,a1,a2,a3⟩:=happ _ hdr
     have hvl:=a2.length
     have hfr:ρ H.next=none:=hf _ (Nat.le_refl _) (Nat.lt_succ_self _)
     generalize hcap:(Question.appendCap (0+(m+1)) 0 e).cut (w.tape w.drawn (.appendCap (0+(m+1)) 0 e))=newCap
     have hge:m+1<=newCap:=by rw [<-hcap];simp [Question.cut]
     have hsz:(vs.toArray ++ Builtin.zeroCells z.cells (newCap-(m+1))).size=newCap*sz:=by
      simp only [Array.size_append,zeroCells_size,hz]
      simp only [List.size_toArray,<-hvl,hcs]
      rw [<-Nat.add_mul];congr 1;omega
     obtain ⟨g1,g2⟩:=run_grow (e:=e) (size:=cs.length) (dflt:=[]) (cs:=setAll .e 0 cs) (c:=vs.toArray ++ Builtin.zeroCells z.cells (newCap-(m+1))) hh hfr (by rw [hsz,hcs];exact Nat.mul_le_mul_right _ hge) (fun i v hi=>by
      have hg:=cellAt_list hi
      obtain ⟨v',b1,b2⟩:=a2.get? _ _ hg
      have hlt:i<vs.length:=(List.getElem?_eq_some_iff.1 b1).1
      exact ⟨v',by rw [Array.getElem?_append_left (by simpa using hlt)];simpa using b1,b2,allOne_mem a3 v (List.mem_of_getElem? hg)⟩)
     refine ⟨.slice (some ⟨w.heap.size,0,none⟩) (m+1) newCap,_,_,?_,?_,g1,g2⟩
     · have hnf:(Question.appendCap (0+(m+1)) 0 e).forced=false:=rfl
       simp only [appTail]
       rw [if_neg (by omega)]
       simp only [Sem.run_bind,run_choose,hnf,Bool.false_eq_true,if_false,Result.andThen_ok,hcap,Builtin.firstCells,Sem.run_pure,a1]
       simp [newRow,newObj,Sem.run]
       exact ⟨rfl,rfl,rfl⟩
     · have:=VR.l (ρ:=ρ.add H.next (w.heap.size,0,(vs.toArray ++ Builtin.zeroCells z.cells (newCap-(m+1))).size)) H.next 0 (m+1) (m+1) sz false w.heap.size 0 _ newCap (Rho.add_same _ _ _) hge (fun q=>by simp at q) (by rw [hsz];omega) (Nat.le_refl _)
       simpa using this
 · -- a slice of a row
   rename_i A o len cap s ex
   simp only [og_some] at h
   obtain ⟨hs,hsmall,h⟩:=h
   have hs':=Nat.eq_of_beq_eq_true hs
   subst hs'
   split at h
   · rename_i e' size dflt c hA
     cases hx with
     | l A o len cap s ex B d N cap' hr hc hex hN hlc=>
     obtain ⟨q,fr,q1,q2,q3,q4,q5⟩:=hh.row hA hr
     split at h
     · -- in place
       rename_i hin
       have hin':=Nat.le_of_ble_eq_true hin
       simp only [og_some] at h
       obtain ⟨h1,e''⟩:=h
       simp at e'';obtain ⟨rfl,rfl⟩:=e''
       have h1':=Nat.le_of_ble_eq_true h1
       obtain ⟨vs,a1,a2,a3⟩:=happ w hh
       obtain ⟨w',g1,g2,g3⟩:=hh.store (P:=P) (o:=o+sLen*s) hA hr a2 a3 h1'
       refine ⟨.slice (some ⟨B,d+o,none⟩) (sLen+n) sCap,ρ,w',?_,?_,g2,g3⟩
       · simp only [appTail]
         rw [if_pos (by omega)]
         simp only [Sem.run_bind,a1,Result.andThen_ok,addr_add]
         rw [Nat.add_assoc]
         simp [g1]
       · exact .l A o (sLen+n) cap s ex B d N sCap hr hc hex hN hin'
     · -- it grows,or may
       rename_i hin
       have hin':¬sLen+n<=cap:=by
        intro hle
        have:=Nat.ble_eq_true_of_le hle
        rw [this] at hin;simp at hin
       simp only [ob_some] at h
       obtain ⟨obj,hobj,h⟩:=h
       obtain ⟨hroom,d',c',rfl,hcell⟩:=appObj_spec hobj
       have hfr:ρ H.next=none:=hf _ (Nat.le_refl _) (by
        split at h
        · simp at h;obtain ⟨_,rfl⟩:=h;exact Nat.lt_succ_self _
        · simp only [og_some] at h
          obtain ⟨_,h⟩:=h
          simp at h;obtain ⟨_,rfl⟩:=h;exact Nat.lt_succ_self _)
       -- the arm that takes new memory
       have grows:¬sLen+n<=sCap->∃(w':World) (newCap N':Nat),sLen+n<=newCap/\N'=newCap*s/\(appTail e s z (some ⟨B,d+o,none⟩) sLen sCap n app).run P w=.ok (.slice (some ⟨w.heap.size,0,none⟩) (sLen+n) newCap) w'/\
        ∃cc:Array Value,w'=({ w with drawn:=w.drawn+1,heap:=w.heap.push (.cells cc e)}:World)/\cc.size=N'/\
         ∀(i:Nat) (v:AV),cellAt (sLen*s+cs.length) d' c' i=some v->∃v':Value,cc[i]? =some v'/\VR ρ v v'/\v.one=true:=by
        intro hno
        obtain ⟨vs,a1,a2,a3⟩:=happ _ hh.drew
        have hvl:=a2.length
        generalize hcap:(Question.appendCap (sLen+n) sCap e).cut (w.tape w.drawn (.appendCap (sLen+n) sCap e))=newCap
        have hge:sLen+n<=newCap:=by rw [<-hcap];simp [Question.cut]
        have hol:(q.extract (d+o) (d+o+sLen*s)).size=sLen*s:=by simp;omega
        refine ⟨_,newCap,newCap*s,hge,rfl,?_,q.extract (d+o) (d+o+sLen*s) ++ vs.toArray ++ Builtin.zeroCells z.cells (newCap-(sLen+n)),rfl,?_,?_⟩
        · have hnf:(Question.appendCap (sLen+n) sCap e).forced=false:=rfl
          have hload:(Builtin.firstCells s sLen (.slice (some ⟨B,d+o,none⟩) sLen sCap)).run P { w with drawn:=w.drawn+1}=.ok (q.extract (d+o) (d+o+sLen*s)) { w with drawn:=w.drawn+1}:=by
           simp only [Builtin.firstCells]
           exact run_loadCells (fr:=fr) (e:=e') (by exact q1) (by omega)
          simp only [appTail]
          rw [if_neg hno]
          simp only [Sem.run_bind,run_choose,hnf,Bool.false_eq_true,if_false,Result.andThen_ok,hcap,hload,a1]
          simp [newRow,newObj,Sem.run]
          exact ⟨rfl,rfl,rfl⟩
        · simp only [Array.size_append,zeroCells_size,hz,hol,List.size_toArray,<-hvl,hcs]
          rw [<-Nat.add_mul,<-Nat.add_mul];congr 1;omega
        · intro i v hi
          rcases hcell i v hi with ⟨hlt,hg⟩ | ⟨hge',hg⟩
          · obtain ⟨v',b1,b2,b3⟩:=q5 _ _ hg
            refine ⟨v',?_,b2,b3⟩
            rw [Array.append_assoc,Array.getElem?_append_left (by omega)]
            rw [Array.getElem?_extract]
            rw [if_pos (by omega),Nat.add_assoc];exact b1
          · obtain ⟨v',b1,b2⟩:=a2.get? _ _ hg
            have hlt:i-sLen*s<vs.length:=(List.getElem?_eq_some_iff.1 b1).1
            refine ⟨v',?_,b2,allOne_mem a3 v (List.mem_of_getElem? hg)⟩
            rw [Array.append_assoc,Array.getElem?_append_right (by omega),hol,Array.getElem?_append_left (by simpa using hlt)]
            simpa using b1
       split at h
       · -- its capacity is known:new memory for sure
         simp at h;obtain ⟨rfl,rfl⟩:=h
         have hcap0:sCap=cap:=hex rfl
         obtain ⟨w',newCap,N',k1,k2,k3,cc,k4,k5,k6⟩:=grows (by omega)
         obtain ⟨g1,g2⟩:=run_grow (e:=e) (size:=sLen*s+cs.length) (dflt:=d') (cs:=c') (c:=cc) hh hfr (by rw [k5,k2,hcs,<-Nat.add_mul];exact Nat.mul_le_mul_right _ k1) k6
         rw [<-k4] at g1 g2
         refine ⟨_,_,w',k3,?_,g1,g2⟩
         have:=VR.l (ρ:=ρ.add H.next (w.heap.size,0,cc.size)) H.next 0 (sLen+n) (sLen+n) s false w.heap.size 0 _ newCap (Rho.add_same _ _ _) k1 (fun q=>by simp at q) (by rw [k5,k2];omega) (Nat.le_refl _)
         simpa using this
       · -- it may be in place:the old name is consumed
         simp only [og_some] at h
         obtain ⟨he,e''⟩:=h
         simp at e'';obtain ⟨rfl,rfl⟩:=e''
         have he':=Nat.eq_of_beq_eq_true he
         subst he'
         by_cases hroom':sLen+n<=sCap
         · obtain ⟨vs,a1,a2,a3⟩:=happ w hh
           have hvl:=a2.length
           have hB:=hh.range _ _ hr
           simp at hB
           have hfit:d+(o+sLen*s)+0+vs.length<=q.size:=by
            have h2:(sLen+n)*s<=sCap*s:=Nat.mul_le_mul_right _ hroom'
            rw [Nat.add_mul] at h2
            omega
           have hrun:=run_storeCells (P:=P) vs 0 q w q1 q2 hfit (a2.mem_one a3)
           refine ⟨.slice (some ⟨B,d+o,none⟩) (sLen+n) sCap,_,World.putRow w B (.cells (setL q (d+(o+sLen*s)+0) vs) e' fr),?_,?_,HR.move (w':=World.putRow w B (.cells (setL q (d+(o+sLen*s)+0) vs) e' fr)) (x':=(B,d+o,N)) hh hA hr rfl hfr ?_ ?_ (by simp [World.putRow]) rfl rfl rfl⟩
           · simp only [appTail]
             rw [if_pos hroom']
             simp only [Sem.run_bind,a1,Result.andThen_ok,addr_add]
             rw [Nat.add_assoc]
             simp [hrun]
           · have:=VR.l (ρ:=ρ.add H.next (B,d+o,N)) H.next 0 (sLen+n) (sLen+n) s false B (d+o) N sCap (Rho.add_same _ _ _) hroom' (fun q=>by simp at q) (by omega) (Nat.le_refl _)
             simpa using this
           · refine ⟨setL q (d+(o+sLen*s)+0) vs,fr,by rw [putRow_get hB];simp,by simpa [setL_size] using q2,by simpa [setL_size] using q3,?_,?_⟩
             · simp only [setL_size]
               have h2:(sLen+n)*s<=sCap*s:=Nat.mul_le_mul_right _ hroom'
               rw [Nat.add_mul] at h2
               omega
             · intro i v hi
               show ∃v',(setL q (d+(o+sLen*s)+0) vs)[d+o+i]? =some v'/\VR _ v v'/\v.one=true
               rw [setL_get vs q _ _ (by omega)]
               rcases hcell i v hi with ⟨hlt,hg⟩ | ⟨hge',hg⟩
               · rw [if_neg (by omega)]
                 obtain ⟨v',b1,b2,b3⟩:=q5 _ _ hg
                 exact ⟨v',by rw [Nat.add_assoc];exact b1,b2.mono (Rho.add_le hfr),b3⟩
               · obtain ⟨v',b1,b2⟩:=a2.get? _ _ hg
                 have hlt:i-sLen*s<vs.length:=(List.getElem?_eq_some_iff.1 b1).1
                 rw [if_pos (by omega),show d+o+i-(d+(o+sLen*s)+0)=i-sLen*s by omega]
                 exact ⟨v',b1,b2.mono (Rho.add_le hfr),allOne_mem a3 v (List.mem_of_getElem? hg)⟩
           · intro C hC
             rw [putRow_get hB,if_neg hC]
         · obtain ⟨w',newCap,N',k1,k2,k3,cc,k4,k5,k6⟩:=grows hroom'
           obtain ⟨g1,g2⟩:=run_grow (e:=e') (size:=sLen*s+cs.length) (dflt:=d') (cs:=c') (c:=cc) hh hfr (by rw [k5,k2,hcs,<-Nat.add_mul];exact Nat.mul_le_mul_right _ k1) k6
           rw [<-k4] at g1 g2
           have hsub:∀(B:Nat) (o:AObj),((H.upd A none).new (.cells e' (sLen*s+cs.length) d' c')).get B=some o->(H.new (.cells e' (sLen*s+cs.length) d' c')).get B=some o:=by
            intro C o hC
            rw [AH.get_new] at hC⊢
            have hn:(H.upd A none).next=H.next:=rfl
            rw [hn] at hC
            split at hC
            · rename_i e1;rw [if_pos e1];exact hC
            · rename_i e1
              rw [if_neg e1]
              rw [AH.get_upd] at hC
              split at hC
              · simp at hC
              · exact hC
           refine ⟨_,ρ.add H.next (w.heap.size,0,cc.size),w',k3,?_,g1.sub hsub,g2.sub hsub rfl⟩
           · have:=VR.l (ρ:=ρ.add H.next (w.heap.size,0,cc.size)) H.next 0 (sLen+n) (sLen+n) s false w.heap.size 0 _ newCap (Rho.add_same _ _ _) k1 (fun q=>by simp at q) (by rw [k5,k2];omega) (Nat.le_refl _)
             simpa using this
   · simp at h
 · simp at h
theorem oAppend_sound {P:Program} {H H':AH} {t u:TypeId} {x y r:AV} {x' y':Value} {ats:Array TypeId} {ty:TypeId} {ρ:Rho} {w:World} (h:oAppend P H t u x y=some (r,H')) (hh:HR ρ H w) (hf:Fresh ρ H H'.next)
 (h0:ats[0]? =some t) (h1:ats[1]? =some u) (hx:VR ρ x x') (hy:VR ρ y y'):GoesV P (Builtin.append_ ats ty #[x',y']) r H' ρ H w:=by
 unfold oAppend at h
 split at h
 · rename_i e hu
   split at h
   · rename_i ie hie
     simp only [ob_some,og_some] at h
     obtain ⟨z,hz,zeros,hzs,g1,g2,g3,⟨cs,n⟩,hsrc,h⟩:=h
     have g1':=Nat.eq_of_beq_eq_true g1
     have g3':=Nat.le_of_ble_eq_true g3
     obtain ⟨zv,z1,z2,z3⟩:=run_zero' (ρ:=ρ) hz
     have hzl:=z2.length
     simp at hzl
     have hcs:=srcCells_length hsrc g1'
     have hsz:zv.cells.size=ie.size:=by omega
     -- the count that is added stays small
     have small:∀sLen sCap base,x'=.slice base sLen sCap->sLen+n<=1073741824:=by
      intro sLen sCap base e'
      subst e'
      unfold appendA at h
      split at h
      · cases hx
        split at h
        · omega
        · simp at h
      · cases hx
        split at h
        · omega
        · simp only [og_some] at h
          have:=Nat.le_of_ble_eq_true h.1
          omega
      · simp only [og_some] at h
        obtain ⟨_,hsm,_⟩:=h
        cases hx
        exact Nat.le_of_ble_eq_true hsm
      · simp at h
     obtain ⟨base,sLen,sCap,hx'⟩:∃base sLen sCap,x'=.slice base sLen sCap:=by
      unfold appendA at h
      split at h
      · cases hx;exact ⟨_,_,_,rfl⟩
      · cases hx;exact ⟨_,_,_,rfl⟩
      · cases hx;exact ⟨_,_,_,rfl⟩
      · simp at h
     have hsm:=small _ _ _ hx'
     subst hx'
     cases hzeros:zeros with
     | false=>
       rw [hzeros] at hsrc hzs
       have hlen:=(run_firstCells (P:=P) hsrc hh hy).1
       have hrun:=run_append_plain (ats:=ats) (ty:=ty) (base:=base) (sLen:=sLen) (sCap:=sCap) h0 h1 hu hie hzs hlen z1 (by omega) (old_small hsm g3')
       obtain ⟨v',ρ',w',k1,k2,k3,k4⟩:=appTail_sound (P:=P) (z:=zv) (app:=Builtin.firstCells ie.size n y') h hh hf hx hsz hcs (fun w1 hw1=>(run_firstCells (P:=P) hsrc hw1 hy).2)
       exact ⟨v',ρ',w',hrun.trans k1,k2,k3,k4⟩
     | true=>
       rw [hzeros] at hsrc hzs
       unfold srcCells at hsrc
       simp only [ob_some,og_some] at hsrc
       obtain ⟨m,hm,hle,e'⟩:=hsrc
       simp at e';obtain ⟨rfl,rfl⟩:=e'
       obtain ⟨k,rfl⟩:=natOf_VR hm hy
       have hrun:=run_append_zeros (w:=w) (k:=k) (ats:=ats) (ty:=ty) (base:=base) (sLen:=sLen) (sCap:=sCap) h0 h1 hu hie hzs z1 (by omega) (old_small hsm g3')
       obtain ⟨v',ρ',w',k1,k2,k3,k4⟩:=appTail_sound (P:=P) (z:=zv) (app:=if m*ie.size=0 then pure #[] else pure (Builtin.zeroCells zv.cells m)) h hh hf hx hsz hcs (fun w1 hw1=>by
        refine ⟨(Builtin.zeroCells zv.cells m).toList,?_,?_,rep_one z3 m⟩
        · by_cases h0:m*ie.size=0
          · rw [if_pos h0]
            have:Builtin.zeroCells zv.cells m=#[]:=by
             apply Array.eq_empty_of_size_eq_zero;rw [zeroCells_size,hsz,h0]
            simp [this]
          · rw [if_neg h0];simp
        · exact zeros_VRs z2 m)
       exact ⟨v',ρ',w',hrun.trans k1,k2,k3,k4⟩
   · simp at h
 · simp at h
noncomputable def lenA:AV->Option Nat
 | .l0=>some 0
 | .lz=>some 0
 | .l _ _ len _ _ _=>some len
 | .s l=>some l.length
 | _=>none
theorem run_lenOf {P:Program} {ρ:Rho} {v:AV} {v':Value} {n:Nat} {w:World} (h:lenA v=some n) (hv:VR ρ v v'):(Builtin.lenOf v').run P w=.ok n w:=by
 unfold lenA at h
 split at h<;>simp at h<;>subst h<;>cases hv
 · simp [Builtin.lenOf]
 · simp [Builtin.lenOf]
 · simp [Builtin.lenOf]
 · rename_i l s hs
   have:s.size=l.length:=by rw [<-hs];simp
   simp [Builtin.lenOf,this]
noncomputable def firstA (H:AH) (sz n:Nat) (y:AV):Option (List AV):=
 match y with
 | .l0=>some []
 | .lz=>og (Nat.beq n 0) (some [])
 | .l A o _ _ _ _=>match H.get A with
   | some (.cells _ size dflt cs)=>readN size dflt cs o (n*sz)
   | _=>none
 | .s l=>some (bytesA (l.take n))
 | _=>none
theorem run_firstA {P:Program} {H:AH} {sz n:Nat} {y:AV} {y':Value} {cs:List AV} {ρ:Rho} {w:World} (h:firstA H sz n y=some cs) (hh:HR ρ H w) (hy:VR ρ y y') :
 ∃vs:List Value,(Builtin.firstCells sz n y').run P w=.ok vs.toArray w/\VRs ρ cs vs/\allOne cs=true:=by
 unfold firstA at h
 split at h
 · simp at h;subst h
   cases hy
   exact ⟨[],by simp [Builtin.firstCells],.nil,rfl⟩
 · simp only [og_some] at h
   obtain ⟨h0,e⟩:=h
   simp at e;subst e
   have:=Nat.eq_of_beq_eq_true h0
   subst this
   cases hy
   exact ⟨[],by simp [Builtin.firstCells,loadCells,loadCellsFrom],.nil,rfl⟩
 · rename_i A o len cap s ex
   split at h
   · rename_i e size dflt c hA
     cases hy with
     | l A o len cap s ex B d N cap' hr=>
     obtain ⟨vs,g1,g2,g3⟩:=hh.readN (P:=P) hA hr h
     exact ⟨vs,by simpa [Builtin.firstCells] using g3,g1,g2⟩
   · simp at h
 · rename_i l
   simp at h;subst h
   cases hy with
   | s _ s hs'=>
   refine ⟨(s.data.toList.take n).map fun b=>Value.int .u8 b.toNat,?_,?_,bytesA_one _⟩
   · simp only [Builtin.firstCells,Sem.run_pure]
     congr 1
     apply Array.ext'
     simp [ByteArray.data_extract,List.extract_eq_take_drop]
   · rw [<-hs',<-List.map_take];exact bytesA_VRs _
 · simp at h
noncomputable def oCopy (P:Program) (H:AH) (t:TypeId) (x y:AV):Option (AV×AH):=
 match P.underlying t with
 | some (.slice e)=>ob (infoSize P e) fun sz=>ob (lenA y) fun m=>match x with
   | .l0=>ob (firstA H sz (Nat.min m 0) y) fun _=>some (.i .i64 0,H)
   | .l A o len _ s _=>og (Nat.beq s sz) (ob (firstA H sz (Nat.min m len) y) fun l=>match H.get A with
     | some (.cells e' size dflt c)=>og (Nat.ble (o+l.length) size) (some (.i .i64 (.ofNat (Nat.min m len)),H.upd A (some (.cells e' size dflt (setAll c o l)))))
     | _=>none)
   | _=>none
 | _=>none
theorem oCopy_sound {P:Program} {H H':AH} {t:TypeId} {x y r:AV} {x' y':Value} {ats:Array TypeId} {ty:TypeId} {ρ:Rho} {w:World} (h:oCopy P H t x y=some (r,H')) (hh:HR ρ H w)
 (h0:ats[0]? =some t) (hx:VR ρ x x') (hy:VR ρ y y'):GoesV P (Builtin.copy_ ats ty #[x',y']) r H' ρ H w:=by
 unfold oCopy at h
 split at h
 · rename_i e hu
   simp only [ob_some] at h
   obtain ⟨sz,hsz,m,hm,h⟩:=h
   split at h
   · simp only [ob_some] at h
     obtain ⟨l,hl,e'⟩:=h
     simp at e';obtain ⟨rfl,rfl⟩:=e'
     cases hx
     obtain ⟨vs,a1,a2,a3⟩:=run_firstA (P:=P) hl hh hy
     refine GoesV.pure hh (.i .i64 0) ?_
     simp only [Builtin.copy_,h0,List.getElem?_toArray,List.getElem?_cons_zero,List.getElem?_cons_succ,Sem.run_bind,run_underlying' hu,Result.andThen_ok,run_lenOf hm hy,run_sizeOf' hsz,a1]
     simp [goInt]
   · rename_i A o len cap s ex
     simp only [og_some,ob_some] at h
     obtain ⟨hs,l,hl,h⟩:=h
     have hs':=Nat.eq_of_beq_eq_true hs
     subst hs'
     split at h
     · rename_i e2 size dflt c hA
       simp only [og_some] at h
       obtain ⟨h1,e'⟩:=h
       simp at e';obtain ⟨rfl,rfl⟩:=e'
       cases hx with
       | l A o len cap s ex B d N cap' hr=>
       obtain ⟨vs,a1,a2,a3⟩:=run_firstA (P:=P) hl hh hy
       obtain ⟨w',g1,g2,g3⟩:=hh.store (P:=P) hA hr a2 a3 (Nat.le_of_ble_eq_true h1)
       refine ⟨.int .i64 (Int.ofNat (Nat.min m len)),ρ,w',?_,.i _ _,g2,g3⟩
       simp only [Builtin.copy_,h0,List.getElem?_toArray,List.getElem?_cons_zero,List.getElem?_cons_succ,Sem.run_bind,run_underlying' hu,Result.andThen_ok,run_lenOf hm hy,run_sizeOf' hsz,a1,g1]
       simp [goInt]
     · simp at h
   · simp at h
 · simp at h
noncomputable def oLen (P:Program) (H:AH) (t:TypeId) (x:AV):Option AV:=
 match P.underlying t,x with
 | some .string,.s l=>some (.i .i64 (.ofNat l.length))
 | some (.slice _),.l0=>some (.i .i64 0)
 | some (.slice _),.lz=>some (.i .i64 0)
 | some (.slice _),.l _ _ len _ _ _=>some (.i .i64 (.ofNat len))
 | some (.slice _),.sv _ n _=>some (.i .i64 (.ofNat n))
 | some (.slice _),.lr _ _ _ n _=>some (.i .i64 (.ofNat n))
 | some (.array n _),_=>some (.i .i64 (.ofNat n))
 | some (.map _ _),.m0=>some (.i .i64 0)
 | some (.map _ _),.m A=>match H.get A with
   | some (.map es _)=>some (.i .i64 (.ofNat es.length))
   | _=>none
 | _,_=>none
theorem oLen_sound {P:Program} {H:AH} {t:TypeId} {x r:AV} {x':Value} {ats:Array TypeId} {ty:TypeId} {ρ:Rho} {w:World} (h:oLen P H t x=some r) (hh:HR ρ H w)
 (h0:ats[0]? =some t) (hx:VR ρ x x'):GoesV P (Builtin.len_ ats ty #[x']) r H ρ H w:=by
 unfold oLen at h
 split at h
 · rename_i l hu
   simp at h;subst h
   cases hx with
   | s _ s hs=>
   have:s.size=l.length:=by rw [<-hs];simp
   refine GoesV.pure hh (.i _ _) ?_
   simp [Builtin.len_,h0,run_underlying' hu,this,goInt]
 · rename_i hu
   simp at h;subst h
   cases hx
   refine GoesV.pure hh (.i _ _) ?_
   simp [Builtin.len_,h0,run_underlying' hu,goInt]
 · rename_i hu
   simp at h;subst h
   cases hx
   refine GoesV.pure hh (.i _ _) ?_
   simp [Builtin.len_,h0,run_underlying' hu,goInt]
 · rename_i hu
   simp at h;subst h
   cases hx
   refine GoesV.pure hh (.i _ _) ?_
   simp [Builtin.len_,h0,run_underlying' hu,goInt]
 · rename_i hu
   simp at h;subst h
   cases hx with | sv _ _ _ _ hc=>
   cases hc<;>(refine GoesV.pure hh (.i _ _) ?_;simp [Builtin.len_,h0,run_underlying' hu,goInt])
 · rename_i hu
   simp at h;subst h
   cases hx<;>(refine GoesV.pure hh (.i _ _) ?_;simp [Builtin.len_,h0,run_underlying' hu,goInt])
 · rename_i hu
   simp at h;subst h
   refine GoesV.pure hh (.i _ _) ?_
   simp [Builtin.len_,h0,run_underlying' hu,goInt]
 · rename_i hu
   simp at h;subst h
   cases hx
   refine GoesV.pure hh (.i _ _) ?_
   simp [Builtin.len_,h0,run_underlying' hu,goInt]
 · rename_i A hu
   split at h
   · rename_i es clock hA
     simp at h;subst h
     cases hx with
     | m A B N hr=>
     have hb:BR ρ (.map es clock) (B,0,N) w:=by
      rcases hh.live _ _ hA with ⟨x,hx,hb⟩ | hv
      · rw [hr] at hx;simp at hx;subst hx;exact hb
      · exact hv.1.elim
     obtain ⟨es',b1,b2,b3,b4⟩:=hb
     refine GoesV.pure hh (.i _ _) ?_
     simp at b1
     have hlt:B<w.heap.size:=by have:=hh.range _ _ hr;simpa using this
     rw [Array.getElem?_eq_getElem hlt] at b1
     simp at b1
     simp [Builtin.len_,h0,run_underlying' hu,goInt,getObj,Sem.run,Array.getElem?_eq_getElem hlt,b1,b2]
   · simp at h
 · simp at h
noncomputable def oCap (P:Program) (t:TypeId) (x:AV):Option AV:=
 match P.underlying t,x with
 | some (.slice _),.l0=>some (.i .i64 0)
 | some (.slice _),.l _ _ _ cap _ true=>some (.i .i64 (.ofNat cap))
 | some (.array n _),_=>some (.i .i64 (.ofNat n))
 | _,_=>none
theorem oCap_sound {P:Program} {H:AH} {t:TypeId} {x r:AV} {x':Value} {ats:Array TypeId} {ty:TypeId} {ρ:Rho} {w:World} (h:oCap P t x=some r) (hh:HR ρ H w)
 (h0:ats[0]? =some t) (hx:VR ρ x x'):GoesV P (Builtin.cap_ ats ty #[x']) r H ρ H w:=by
 unfold oCap at h
 split at h
 · rename_i hu
   simp at h;subst h
   cases hx
   refine GoesV.pure hh (.i _ _) ?_
   simp [Builtin.cap_,h0,run_underlying' hu,goInt]
 · rename_i hu
   simp at h;subst h
   cases hx with
   | l A o len cap s ex B d N cap' hr h1 h2=>
   refine GoesV.pure hh (.i _ _) ?_
   simp [Builtin.cap_,h0,run_underlying' hu,goInt,h2 rfl]
 · rename_i hu
   simp at h;subst h
   refine GoesV.pure hh (.i _ _) ?_
   simp [Builtin.cap_,h0,run_underlying' hu,goInt]
 · simp at h
end Go.Sim
