/- Runs over unknown values, told by the kernel: part SymE. -/
import Derived.Test.YtgoppmcfidmgfaaSymD
set_option linter.unusedSimpArgs false
set_option linter.unusedVariables false
/- Operations over values that are not known, together. -/
namespace Go.Sim
open Go
theorem dstS_is {pos:Bool} {H:AH} {e:TypeId} {sz:Nat} {x:AV} {A:Option Nat} {f:Nat->Nat->CV} {len:Nat} {p:Prop} {ρ:Rho} {w:World} {x':Value} (h:dstS H e sz pos x=some (A,f,len,p)) (hp:p) (hh:HR ρ H w) (hx:VR ρ x x') :
 ∃base sCap,x'=.slice base len sCap/\DstIs pos ρ H w A e f sz base len sCap:=by
 unfold dstS at h
 split at h
 · simp only [Option.some.injEq,Prod.mk.injEq] at h
   obtain ⟨rfl,rfl,rfl,rfl⟩:=h
   cases hx
   exact ⟨none,0,rfl,.inl ⟨rfl,rfl,rfl⟩⟩
 · rename_i A s i n ex
   simp only [og_some] at h
   obtain ⟨h1,h⟩:=h
   have h1':=Nat.eq_of_beq_eq_true h1
   subst h1'
   split at h
   · rename_i e' s' m f' hA
     simp only [og_some,Option.some.injEq,Prod.mk.injEq] at h
     obtain ⟨he,h2,rfl,rfl,rfl,rfl⟩:=h
     have h2':=Nat.eq_of_beq_eq_true h2
     subst h2'
     have him:i+n<=m:=hp
     cases hx with
     | lr0=>exact ⟨none,0,rfl,.inl ⟨rfl,rfl,rfl⟩⟩
     | lr _ _ _ _ _ B d N cap' hr b1 b2 b3=>
       have hb:BR ρ (.rows e' s m f') (B,d,N) w:=by
        rcases hh.live _ _ hA with ⟨y,hy,hb⟩ | ⟨_,hv⟩
        · rw [hr] at hy;simp at hy;subst hy;exact hb
        · rw [hr] at hv;simp at hv
       obtain ⟨c,fr,k1,k2,k3,k4,k5⟩:=hb
       have hee:e'=e\/(cap'=n/\pos=true):=by
        rcases Bool.or_eq_true_iff.1 he with q | q
        · exact .inl (Nat.eq_of_beq_eq_true q)
        · simp only [Bool.and_eq_true] at q
          exact .inr ⟨b2 q.1,q.2⟩
       refine ⟨_,cap',rfl,.inr ⟨A,B,d+i*s,N,d,_,c,fr,rfl,rfl,hA,hr,⟨e',k1,hee⟩,k2,k3,b3,b1,?_⟩⟩
       intro a j ha hj
       obtain ⟨v,q1,q2⟩:=k5 (i+a) j (by omega) hj
       exact ⟨v,by rw [<-q1,Nat.add_mul];congr 1;simp only;omega,by rw [shiftF_eq];exact q2⟩
   · simp at h
 · rename_i A o len' cap s ex
   simp only [og_some] at h
   obtain ⟨h1,h⟩:=h
   have h1':=Nat.eq_of_beq_eq_true h1
   subst h1'
   split at h
   · rename_i e' size dflt cs hA
     simp only [og_some,ob_some,Option.some.injEq,Prod.mk.injEq] at h
     obtain ⟨he,l,hl,c,hc,rfl,rfl,rfl,rfl⟩:=h
     have he':=Nat.eq_of_beq_eq_true he
     subst he'
     cases hx with
     | l A o len' cap s ex B d N cap' hr b1 b2 b3 b4=>
     obtain ⟨q,fr,k1,k2,k3,k4,k5⟩:=hh.row hA hr
     refine ⟨_,cap',rfl,.inr ⟨A,B,d+o,N,d,_,q,fr,rfl,rfl,hA,hr,⟨_,k1,.inl rfl⟩,k2,k3,b3,by omega,?_⟩⟩
     obtain ⟨hll,hcell⟩:=readN_get _ _ _ hl
     have hcl:=(ofAVs_one (ρ:=ρ) hc).1
     intro i j hi hj
     have hlt:i*s+j<l.length:=by
      have:(i+1)*s<=len'*s:=Nat.mul_le_mul_right _ hi
      rw [Nat.add_mul] at this;omega
     obtain ⟨v,q1,q2,q3⟩:=k5 _ _ (hcell (i*s+j) l[i*s+j] (List.getElem?_eq_getElem hlt))
     refine ⟨v,by rw [<-q1];congr 1;omega,listF_CR _ _ _ _ _ hi hj ?_⟩
     have hlc:i*s+j<c.length:=by omega
     rw [List.getD_eq_getElem?_getD,List.getElem?_eq_getElem hlc]
     have:ofAV 1 l[i*s+j]=some c[i*s+j]:=by
      have key:∀(l:List AV) (c:List CV),ofAVs 1 l=some c->∀(k:Nat) (h1:k<l.length) (h2:k<c.length),ofAV 1 l[k]=some c[k]:=by
       intro l
       induction l with
       | nil=>intro c _ k h1;simp at h1
       | cons a l ih=>
         intro c h k h1 h2
         simp only [ofAVs_cons,ob_some] at h
         obtain ⟨c0,hc0,r,hr,e⟩:=h
         simp at e;subst e
         cases k with
         | zero=>simpa using hc0
         | succ k=>simpa using ih r hr k (by simpa using h1) (by simpa using h2)
      exact key l c hc _ hlt hlc
     exact ofAV_CR this q2
   · simp at h
 · simp at h
noncomputable def appZ (n:Nat) (f g:Nat->Nat->CV):Nat->Nat->CV:=Nat.rec (motive:=fun _=>Nat->Nat->CV) g (fun _ _=>appF n f g) n
theorem appZ_CR {ro:Nat->Nat->Option Value} {n:Nat} {f g:Nat->Nat->CV} {i j:Nat} {v:Value} (h1:i<n->CR ro (f i j) v) (h2:n<=i->CR ro (g (i-n) j) v):CR ro (appZ n f g i j) v:=by
 cases n with
 | zero=>exact h2 (Nat.zero_le _)
 | succ n=>exact appF_CR h1 h2
noncomputable def oAppendS (P:Program) (H:AH) (t u:TypeId) (x y:AV):Option (AV×AH×Prop):=
 match P.underlying t with
 | some (.slice e)=>match P.info? e with
   | some ie=>ob (zeroCellsOf P e) fun z=>ob (zerosB P u) fun zeros=>og (Nat.beq z.length ie.size) (og (Nat.blt 0 ie.size) (og (Nat.ble ie.bytes 65536)
      (ob (srcS H ie.size z zeros y) fun s=>ob (dstS H e ie.size (Nat.blt 0 s.2.1) x) fun d=>some (.lr H.next ie.size 0 (addN d.2.2.1 s.2.1) false,(goneA H d.1).new (.rows e ie.size (addN d.2.2.1 s.2.1) (appZ d.2.2.1 d.2.1 s.1)),d.2.2.2/\s.2.2/\d.2.2.1+s.2.1<=140737488355328/\(3*(d.2.2.1+s.2.1)+1536)*ie.bytes<=562949953421312))))
   | none=>none
 | _=>none
theorem oAppendS_sound {P:Program} {H H':AH} {t u:TypeId} {x y r:AV} {p:Prop} {x' y':Value} {ats:Array TypeId} {ty:TypeId} {ρ:Rho} {w:World} (h:oAppendS P H t u x y=some (r,H',p)) (hp:p) (hh:HR ρ H w) (hf:Fresh ρ H H'.next)
 (h0:ats[0]? =some t) (h1:ats[1]? =some u) (hx:VR ρ x x') (hy:VR ρ y y'):GoesV P (Builtin.append_ ats ty #[x',y']) r H' ρ H w:=by
 unfold oAppendS at h
 split at h
 · rename_i e hu
   split at h
   · rename_i ie hie
     simp only [ob_some,og_some,Option.some.injEq,Prod.mk.injEq] at h
     obtain ⟨z,hz,zeros,hzb,k1,k2,k3,⟨g,n,ps⟩,hs,⟨A,f,len,pd⟩,hd,rfl,rfl,rfl⟩:=h
     simp only at hp hf⊢
     obtain ⟨p1,p2,p3⟩:=hp
     have k1':=Nat.eq_of_beq_eq_true k1
     have k2':0<ie.size:=by simpa [Nat.blt_eq] using k2
     have k3':=Nat.le_of_ble_eq_true k3
     obtain ⟨zv,z1,z2,z3⟩:=run_zero' (ρ:=ρ) hz
     have hzl:=z2.length
     simp at hzl
     obtain ⟨base,sCap,rfl,hdst⟩:=dstS_is hd p1 hh hx
     have hfr:ρ H.next=none:=hf _ (Nat.le_refl _) (by cases A<;>exact Nat.lt_succ_self _)
     have hF1:∀i j v,i<len->CR ρ.ro (f i j) v->CR ρ.ro (appZ len f g i j) v:=fun i j v hi hv=>appZ_CR (fun _=>hv) (fun q=>by omega)
     have hF2:∀i j v,len<=i->CR ρ.ro (g (i-len) j) v->CR ρ.ro (appZ len f g i j) v:=fun i j v hi hv=>appZ_CR (fun q=>by omega) (fun _=>hv)
     rw [addN_eq]
     cases zeros with
     | false=>
       obtain ⟨l1,_⟩:=srcS_run (P:=P) hs p2 k2' hh hy
       have hrun:=run_append_plain (P:=P) (z:=zv) (base:=base) (sLen:=len) (sCap:=sCap) (w:=w) (ty:=ty) h0 h1 hu hie hzb l1 z1 p3.1 p3.2
       have:=appS (P:=P) (z:=zv) (app:=Builtin.firstCells ie.size n y') hh hfr (fun q=>by simpa [Nat.blt_eq] using q) hdst (by omega) (fun w hw=>(srcS_run (P:=P) hs p2 k2' hw hy).2) hF1 hF2
       obtain ⟨v',ρ',w',q1,q2⟩:=this
       exact ⟨v',ρ',w',by rw [hrun];exact q1,q2⟩
     | true=>
       unfold srcS at hs
       simp only at hs
       split at hs
       · rename_i k m
         simp only [ob_some,Option.some.injEq,Prod.mk.injEq] at hs
         obtain ⟨c,hc,rfl,rfl,rfl⟩:=hs
         have hm0:0<=m:=p2
         cases hy
         have hmn:m=Int.ofNat m.toNat:=by simp;omega
         have hrun:=run_append_zeros (P:=P) (z:=zv) (k:=k) (base:=base) (sLen:=len) (sCap:=sCap) (n:=m.toNat) (w:=w) (ty:=ty) h0 h1 hu hie hzb z1 p3.1 p3.2
         obtain ⟨c1,c2⟩:=ofAVs_CR hc z2
         have:=appS (P:=P) (z:=zv) (g:=fun _ j=>c.getD j .p0) (n:=m.toNat) (app:=if m.toNat*ie.size=0 then pure #[] else pure (Builtin.zeroCells zv.cells m.toNat)) hh hfr (fun q=>by simpa [Nat.blt_eq] using q) hdst (by omega) (fun w hw=>by
          refine ⟨(Builtin.zeroCells zv.cells m.toNat).toList,?_,rowsAre_of (by simp only [Array.length_toList,zeroCells_size];rw [<-hzl,k1']) ?_⟩
          · by_cases h00:m.toNat*ie.size=0
            · rw [if_pos h00]
              have:Builtin.zeroCells zv.cells m.toNat=#[]:=by
               apply Array.eq_empty_of_size_eq_zero
               rw [zeroCells_size,<-hzl,k1'];exact h00
              rw [this];rfl
            · rw [if_neg h00];rfl
          · intro i j hi hj
            have hjc:j<c.length:=by rw [c1];simp;omega
            obtain ⟨v,v1,v2⟩:=c2 j c[j] (List.getElem?_eq_getElem hjc)
            refine ⟨v,?_,by simp only [List.getD_eq_getElem?_getD,List.getElem?_eq_getElem hjc];exact v2⟩
            have hlt:i*ie.size+j<m.toNat*zv.cells.size:=by
             have:(i+1)*ie.size<=m.toNat*ie.size:=Nat.mul_le_mul_right _ hi
             rw [Nat.add_mul] at this
             rw [<-hzl,k1'];omega
            have hmod:(i*ie.size+j) % zv.cells.size=j:=by
             rw [<-hzl,k1',Nat.mul_comm,Nat.mul_add_mod,Nat.mod_eq_of_lt hj]
            simp only [Array.getElem?_toList] at v1⊢
            have hjs:j<zv.cells.size:=by omega
            simp [Builtin.zeroCells,hlt,hmod,getElem!_def,v1]) hF1 hF2
         obtain ⟨v',ρ',w',q1,q2⟩:=this
         rw [<-hmn] at hrun
         exact ⟨v',ρ',w',by rw [hrun];exact q1,q2⟩
       · simp at hs
   · simp at h
 · simp at h
noncomputable def oMakeSliceS (P:Program) (H:AH) (t:TypeId) (l c:AV):Option (AV×AH×Prop):=
 match P.underlying t with
 | some (.slice e)=>match P.info? e with
   | some ie=>match l with
     | .i _ n=>match c with
       | .i _ m=>ob (zeroCellsOf P e) fun z=>ob (ofAVs 1 z) fun cz=>og (Nat.beq z.length ie.size) (og (Nat.blt 0 ie.size) (og (Nat.ble ie.bytes 65536)
         (some (.lr H.next ie.size 0 n.toNat false,H.new (.rows e ie.size m.toNat fun _ j=>cz.getD j .p0),0<=n/\n<=m/\m<=1073741824))))
       | _=>none
     | _=>none
   | none=>none
 | _=>none
theorem oMakeSliceS_sound {P:Program} {H H':AH} {t:TypeId} {l c r:AV} {p:Prop} {l' c':Value} {ρ:Rho} {w:World} (h:oMakeSliceS P H t l c=some (r,H',p)) (hp:p) (hh:HR ρ H w) (hf:Fresh ρ H H'.next)
 (hl:VR ρ l l') (hc:VR ρ c c'):GoesV P (Instr.makeSlice t l' c') r H' ρ H w:=by
 unfold oMakeSliceS at h
 split at h
 · rename_i e hu
   split at h
   · rename_i ie hie
     split at h
     · rename_i k n
       split at h
       · rename_i k' m
         simp only [ob_some,og_some,Option.some.injEq,Prod.mk.injEq] at h
         obtain ⟨z,hz,cz,hcz,h1,h2,h5,rfl,rfl,rfl⟩:=h
         obtain ⟨p1,p2,p3⟩:0<=n/\n<=m/\m<=1073741824:=hp
         cases hl;cases hc
         obtain ⟨n',rfl⟩:=Int.eq_ofNat_of_zero_le p1
         obtain ⟨m',rfl⟩:=Int.eq_ofNat_of_zero_le (Int.le_trans p1 p2)
         simp only [Int.toNat_natCast]
         have p2':n'<=m':=by omega
         have p3':m'<=1073741824:=by omega
         have hbase:oMakeSlice P H t (.i k (Int.ofNat n')) (.i k' (Int.ofNat m'))=some (.l H.next 0 n' m' ie.size true,H.new (.cells e (m'*z.length) z .e)):=by
          simp [oMakeSlice,hu,hie,natOf,ob,hz,h1,h2,h5,og,Nat.ble_eq_true_of_le p2',Nat.ble_eq_true_of_le p3']
         obtain ⟨v',ρ',w',q1,q2,q3,q4⟩:=oMakeSlice_sound (P:=P) hbase hh hf (.i (ρ:=ρ) k _) (.i (ρ:=ρ) k' _)
         have h1':=Nat.eq_of_beq_eq_true h1
         have h2':0<ie.size:=by simpa [Nat.blt_eq] using h2
         -- the same block, told by rows
         have hget:(H.new (.cells e (m'*z.length) z .e)).get H.next=some (.cells e (m'*z.length) z .e):=by rw [AH.get_new,if_pos rfl]
         cases q2 with | l _ _ _ _ _ _ B d N cap' hr b1 b2 b3 b4=>
         have hcap:cap'=m':=b2 rfl
         subst hcap
         obtain ⟨cc,fr,r1,r2,r3,r4,r5⟩:=q3.row hget hr
         obtain ⟨zv,z1,z2,z3⟩:=run_zero' (ρ:=ρ') hz
         obtain ⟨c1,c2⟩:=ofAVs_CR (ρ:=ρ') hcz z2
         have hother:∀A o,(H.new (.rows e ie.size cap' fun _ j=>cz.getD j .p0)).get A=some o->A≠H.next->(H.new (.cells e (cap'*z.length) z .e)).get A=some o:=by
          intro A o hA hne
          rw [AH.get_new,if_neg hne] at hA⊢;exact hA
         have hdm:∀A o,(H.new (.rows e ie.size cap' fun _ j=>cz.getD j .p0)).get A=some o->∃o',(H.new (.cells e (cap'*z.length) z .e)).get A=some o':=by
          intro A o hA
          by_cases hne:A=H.next
          · exact ⟨_,by rw [AH.get_new,if_pos hne]⟩
          · exact ⟨o,hother A o hA hne⟩
         refine ⟨_,ρ',w',q1,?_,⟨?_,?_,q3.range,q3.ro,?_⟩,⟨q4.next,q4.ext,q4.dom,q4.size,q4.frame,?_,q4.roimg,q4.tape,q4.os,q4.output⟩⟩
         · have hd0:d+0=d+0*ie.size:=by simp
           rw [hd0]
           exact .lr _ _ _ _ _ B d N cap' hr p2' (fun q=>by simp at q) (by simpa using b3)
         · intro A o hA
           by_cases hne:A=H.next
           · subst hne
             rw [AH.get_new,if_pos rfl] at hA
             simp only [Option.some.injEq] at hA;subst hA
             refine .inl ⟨(B,d,N),hr,cc,fr,r1,r2,r3,by simp only;rw [<-h1'];exact r4,?_⟩
             intro i j hi hj
             have hlt:i*ie.size+j<cap'*z.length:=by
              have:(i+1)*ie.size<=cap'*ie.size:=Nat.mul_le_mul_right _ hi
              rw [Nat.add_mul] at this
              rw [h1'];omega
             have hjz:j<z.length:=by omega
             have hmod:(i*ie.size+j) % z.length=j:=by rw [h1',Nat.mul_comm,Nat.mul_add_mod,Nat.mod_eq_of_lt hj]
             have hcell:cellAt (cap'*z.length) z .e (i*ie.size+j)=some z[j]:=by
              rw [cellAt_some]
              refine ⟨hlt,?_⟩
              rw [T.get_e,hmod]
              simp [List.getElem?_eq_getElem hjz]
             obtain ⟨v,v1,v2,v3⟩:=r5 _ _ hcell
             refine ⟨v,by rw [<-v1];congr 1;simp only;omega,?_⟩
             have hjc:j<cz.length:=by rw [(ofAVs_one (ρ:=ρ') hcz).1];exact hjz
             have hof:ofAV 1 z[j]=some cz[j]:=by
              have key:∀(l:List AV) (c:List CV),ofAVs 1 l=some c->∀(k:Nat) (h1:k<l.length) (h2:k<c.length),ofAV 1 l[k]=some c[k]:=by
               intro l
               induction l with
               | nil=>intro c _ k h1;simp at h1
               | cons a l ih=>
                 intro c h k h1 h2
                 simp only [ofAVs_cons,ob_some] at h
                 obtain ⟨c0,hc0,r,hr,e⟩:=h
                 simp at e;subst e
                 cases k with
                 | zero=>simpa using hc0
                 | succ k=>simpa using ih r hr k (by simpa using h1) (by simpa using h2)
              exact key z cz hcz _ hjz hjc
             have:=ofAV_CR hof v2
             simpa [List.getD_eq_getElem?_getD,List.getElem?_eq_getElem hjc] using this
           · exact q3.live A o (hother A o hA hne)
         · intro A A' o o' x x' hA hA' hx hx' he
           obtain ⟨o1,ho1⟩:=hdm A o hA
           obtain ⟨o2,ho2⟩:=hdm A' o' hA'
           exact q3.inj A A' o1 o2 x x' ho1 ho2 hx hx' he
         · intro B' j v hv A o x hA hx
           obtain ⟨o1,ho1⟩:=hdm A o hA
           exact q3.rox B' j v hv A o1 x ho1 hx
         · intro A o x hA hx
           obtain ⟨o1,ho1⟩:=hdm A o hA
           exact q4.img A o1 x ho1 hx
       · simp at h
     · simp at h
   · simp at h
 · simp at h
end Go.Sim
/- Operations over values that are not known, together: the last of them, and all of them. -/
namespace Go.Sim
open Go
theorem HR.toRows {ρ ρ':Rho} {H0 H:AH} {w0 w':World} {e:TypeId} {size:Nat} {dflt:List AV} {cs:T AV} {sz n:Nat} {f:Nat->Nat->CV} (q3:HR ρ' (H.new (.cells e size dflt cs)) w') (q4:Ext ρ H0 w0 ρ' (H.new (.cells e size dflt cs)) w')
 (hsz:n*sz<=size) (hcell:∀i j,i<n->j<sz->∃a,cellAt size dflt cs (i*sz+j)=some a/\ofAV 1 a=some (f i j)):HR ρ' (H.new (.rows e sz n f)) w'/\Ext ρ H0 w0 ρ' (H.new (.rows e sz n f)) w':=by
 have hget:(H.new (.cells e size dflt cs)).get H.next=some (.cells e size dflt cs):=by rw [AH.get_new,if_pos rfl]
 have hother:∀A o,(H.new (.rows e sz n f)).get A=some o->A≠H.next->(H.new (.cells e size dflt cs)).get A=some o:=by
  intro A o hA hne
  rw [AH.get_new,if_neg hne] at hA⊢;exact hA
 have hdm:∀A o,(H.new (.rows e sz n f)).get A=some o->∃o',(H.new (.cells e size dflt cs)).get A=some o':=by
  intro A o hA
  by_cases hne:A=H.next
  · exact ⟨_,by rw [AH.get_new,if_pos hne]⟩
  · exact ⟨o,hother A o hA hne⟩
 refine ⟨⟨?_,?_,q3.range,q3.ro,?_⟩,⟨q4.next,q4.ext,q4.dom,q4.size,q4.frame,?_,q4.roimg,q4.tape,q4.os,q4.output⟩⟩
 · intro A o hA
   by_cases hne:A=H.next
   · subst hne
     rw [AH.get_new,if_pos rfl] at hA
     simp only [Option.some.injEq] at hA;subst hA
     rcases q3.live _ _ hget with ⟨⟨B,d,N⟩,hr,cc,fr,r1,r2,r3,r4,r5⟩ | hv
     · refine .inl ⟨(B,d,N),hr,cc,fr,r1,r2,r3,by simp only at r4⊢;omega,?_⟩
       intro i j hi hj
       obtain ⟨a,a1,a2⟩:=hcell i j hi hj
       obtain ⟨v,v1,v2,v3⟩:=r5 _ _ a1
       exact ⟨v,by rw [<-v1];congr 1;simp only;omega,ofAV_CR a2 v2⟩
     · exact hv.1.elim
   · exact q3.live A o (hother A o hA hne)
 · intro A A' o o' x x' hA hA' hx hx' he
   obtain ⟨o1,ho1⟩:=hdm A o hA
   obtain ⟨o2,ho2⟩:=hdm A' o' hA'
   exact q3.inj A A' o1 o2 x x' ho1 ho2 hx hx' he
 · intro B' j v hv A o x hA hx
   obtain ⟨o1,ho1⟩:=hdm A o hA
   exact q3.rox B' j v hv A o1 x ho1 hx
 · intro A o x hA hx
   obtain ⟨o1,ho1⟩:=hdm A o hA
   exact q4.img A o1 x ho1 hx
noncomputable def byteOf:CV->Nat
 | .i _ (.ofNat k)=>k % 256
 | _=>0
noncomputable def bytesF (n:Nat) (f:Nat->Nat->CV):List Nat:=(List.range n).map fun i=>byteOf (f i 0)
def U8s (n:Nat) (f:Nat->Nat->CV):Prop:=∀i,i<n->∃k:Nat,f i 0=.i .u8 (.ofNat k)
noncomputable def oConvertS (P:Program) (H:AH) (src dst:TypeId) (x:AV):Option (AV×AH×Prop):=
 match P.underlying src with
 | none=>none
 | some sd=>match P.underlying dst with
   | some (.int k)=>match x with
     | .i _ n=>match k.signed with
       | true=>some (.i k n,H,InR k n)
       | false=>some (.i k (wrapA k n),H,True)
     | _=>none
   | some .string=>match sd with
     | .slice e=>og (isU8 P e) (match x with
       | .sv sz n f=>og (Nat.beq sz 1) (some (.s (bytesF n f),H,U8s n f))
       | .lr A sz i n _=>og (Nat.beq sz 1) (match H.get A with
         | some (.rows _ sz' m f)=>og (Nat.beq sz' 1) (some (.s (bytesF n (shiftF i f)),H,U8s n (shiftF i f)/\i+n<=m))
         | _=>none)
       | _=>none)
     | _=>none
   | some (.slice e)=>match x with
     | .s l=>og (isU8 P e) (some (.lr H.next 1 0 l.length false,H.new (.rows e 1 l.length fun i _=>.i .u8 (.ofNat (l.getD i 0))),True))
     | _=>none
   | _=>none
theorem bytesF_run {ρ:Rho} {n:Nat} {f:Nat->Nat->CV} {vs:List Value} (h:RowsAre ρ.ro f n 1 vs) (hu:U8s n f):∃zs:List Nat,vs=zs.map (fun k=>Value.int .u8 (Int.ofNat k))/\bytesF n f=zs.map (· % 256):=by
 obtain ⟨h1,h2,h3⟩:=h
 have key:∀m,m<=n->∃zs:List Nat,vs.take m=zs.map (fun k=>Value.int .u8 (Int.ofNat k))/\(List.range m).map (fun i=>byteOf (f i 0))=zs.map (· % 256):=by
  intro m
  induction m with
  | zero=>intro _;exact ⟨[],by simp,by simp⟩
  | succ m ih=>
    intro hm
    obtain ⟨zs,a1,a2⟩:=ih (by omega)
    obtain ⟨k,hk⟩:=hu m (by omega)
    obtain ⟨v,v1,v2⟩:=h3 m 0 (by omega) (by omega)
    rw [hk] at v2
    cases v2
    refine ⟨zs ++ [k],?_,?_⟩
    · rw [List.take_add_one,a1]
      simp only [Nat.mul_one,Nat.add_zero] at v1
      rw [v1];simp
    · rw [List.range_succ,List.map_append,a2]
      simp [hk,byteOf]
 obtain ⟨zs,a1,a2⟩:=key n (Nat.le_refl _)
 refine ⟨zs,?_,a2⟩
 rw [<-a1,List.take_of_length_le (by omega)]
theorem oConvertS_sound {P:Program} {H H':AH} {src dst:TypeId} {x r:AV} {p:Prop} {x':Value} {ρ:Rho} {w:World} (h:oConvertS P H src dst x=some (r,H',p)) (hp:p) (hh:HR ρ H w) (hf:Fresh ρ H H'.next) (hx:VR ρ x x') :
 GoesV P (convert src dst x') r H' ρ H w:=by
 unfold oConvertS at h
 split at h
 · simp at h
 · rename_i sd hsd
   split at h
   · rename_i k hu
     split at h
     · rename_i k0 n
       cases hx
       split at h
       · simp only [Option.some.injEq,Prod.mk.injEq] at h;obtain ⟨rfl,rfl,rfl⟩:=h
         have hp':InR k n:=hp
         refine GoesV.pure hh (.i _ _) ?_
         simp [convert,run_underlying' hsd,run_underlying' hu,Conv.intToInt,hp'.wrap]
       · simp only [Option.some.injEq,Prod.mk.injEq] at h;obtain ⟨rfl,rfl,rfl⟩:=h
         refine GoesV.pure hh (.i _ _) ?_
         simp [convert,run_underlying' hsd,run_underlying' hu,Conv.intToInt,wrapA_eq]
     · simp at h
   · rename_i hu
     split at h
     · rename_i e
       simp only [og_some] at h
       obtain ⟨he,h⟩:=h
       have fin:∀(n:Nat) (f:Nat->Nat->CV) (a:Option Addr) (cap:Nat) (vs:List Value),U8s n f->RowsAre ρ.ro f n 1 vs->(∀B o,a=some ⟨B,o,none⟩->(loadCells ⟨B,o,none⟩ n).run P w=.ok vs.toArray w)->(a=none->n=0)->(∀y,a=some y->y.spot=none)->
        GoesV P (convert src dst (.slice a n cap)) (.s (bytesF n f)) H ρ H w:=by
        intro n f a cap vs hu8 hrows hload hnil hspot
        obtain ⟨zs,e1,e2⟩:=bytesF_run hrows hu8
        cases a with
        | none=>
          obtain rfl:=hnil rfl
          refine GoesV.pure hh (.s [] ByteArray.empty rfl) ?_
          rw [run_convert_bytes_string w src dst e none 0 cap hsd (isU8_run he) hu]
          simp [Conv.bytesToString]
        | some y=>
          obtain ⟨B,o,sp⟩:=y
          have hs:=hspot _ rfl
          simp only at hs
          subst hs
          refine GoesV.pure hh (.s _ ((zs.map Int.ofNat).foldl (fun r n=>r.push (UInt8.ofNat n.toNat)) ByteArray.empty) ?_) ?_
          · rw [foldl_push,e2];simp
          · rw [run_convert_bytes_string w src dst e _ _ _ hsd (isU8_run he) hu]
            exact run_bytesToString w _ _ cap (zs.map Int.ofNat) (by rw [hload B o rfl,e1];simp)
       split at h
       · rename_i sz n f
         simp only [og_some,Option.some.injEq,Prod.mk.injEq] at h
         obtain ⟨h1,rfl,rfl,rfl⟩:=h
         have h1':=Nat.eq_of_beq_eq_true h1
         subst h1'
         have hs:srcS H 1 [] false (.sv 1 n f)=some (f,n,True):=by simp [srcS,og]
         obtain ⟨_,vs,v1,v2⟩:=srcS_run (P:=P) hs trivial (by omega) hh hx
         obtain ⟨a,l,c,rfl⟩:=hx.sv_slice
         cases hx with | sv _ _ _ _ hc=>
         cases hc with
         | sv0=>exact fin 0 f none 0 vs hp v2 (fun B o e=>by simp at e) (fun _=>rfl) (fun y e=>by simp at e)
         | svz _ _ a c=>
           refine GoesV.pure hh (.s _ (([]:List Int).foldl (fun r n=>r.push (UInt8.ofNat n.toNat)) ByteArray.empty) (by simp [bytesF])) ?_
           rw [run_convert_bytes_string w src dst e _ _ _ hsd (isU8_run he) hu]
           exact run_bytesToString w _ _ c [] (by simp [loadCells,loadCellsFrom])
         | sv _ _ _ B o cap g a1 a2 a3=>
           refine fin n f _ c vs hp v2 (fun B' o' e=>?_) (fun e=>by simp at e) (fun y e=>by simp at e;subst e;rfl)
           simp at e;obtain ⟨rfl,rfl⟩:=e
           simpa [Builtin.firstCells] using v1
       · rename_i A sz i n ex
         simp only [og_some] at h
         obtain ⟨h1,h⟩:=h
         have h1':=Nat.eq_of_beq_eq_true h1
         subst h1'
         split at h
         · rename_i e' sz' m f hA
           simp only [og_some,Option.some.injEq,Prod.mk.injEq] at h
           obtain ⟨h2,rfl,rfl,rfl⟩:=h
           have h2':=Nat.eq_of_beq_eq_true h2
           subst h2'
           obtain ⟨p1,p2⟩:=hp
           have hs:srcS H 1 [] false (.lr A 1 i n ex)=some (shiftF i f,n,i+n<=m):=by simp [srcS,og,hA]
           obtain ⟨_,vs,v1,v2⟩:=srcS_run (P:=P) hs p2 (by omega) hh hx
           cases hx with
           | lr0=>exact fin 0 (shiftF i f) none 0 vs p1 v2 (fun B o e=>by simp at e) (fun _=>rfl) (fun y e=>by simp at e)
           | lr _ _ _ _ _ B d N cap' hr b1 b2 b3=>
             refine fin n (shiftF i f) _ cap' vs p1 v2 (fun B' o' e=>?_) (fun e=>by simp at e) (fun y e=>by simp at e;subst e;rfl)
             simp at e;obtain ⟨rfl,rfl⟩:=e
             simpa [Builtin.firstCells] using v1
         · simp at h
       · simp at h
     · simp at h
   · rename_i e hu
     split at h
     · rename_i l
       simp only [og_some,Option.some.injEq,Prod.mk.injEq] at h
       obtain ⟨he,rfl,rfl,rfl⟩:=h
       have hbase:oConvert P H src dst (.s l)=some (.l H.next 0 l.length l.length 1 false,newList H e (bytesA l)):=by
        simp [oConvert,hsd,hu,he,og]
       obtain ⟨v',ρ',w',q1,q2,q3,q4⟩:=oConvert_sound (P:=P) hbase hh hf hx
       have hbl:=bytesA_length l
       have hcell:∀i j,i<l.length->j<1->∃a,cellAt (bytesA l).length [] (setAll .e 0 (bytesA l)) (i*1+j)=some a/\ofAV 1 a=some (.i .u8 (.ofNat (l.getD i 0))):=by
        intro i j hi hj
        obtain rfl:j=0:=by omega
        have hget:∀(l:List Nat) (i:Nat),i<l.length->(bytesA l)[i]? =some (.i .u8 (.ofNat (l.getD i 0))):=by
         intro l
         induction l with
         | nil=>intro i h;simp at h
         | cons b r ih=>
           intro i h
           cases i with
           | zero=>simp [bytesA]
           | succ i=>simpa [bytesA] using ih i (by simpa using h)
        refine ⟨.i .u8 (.ofNat (l.getD i 0)),?_,rfl⟩
        rw [cellAt_some]
        refine ⟨by omega,?_⟩
        rw [setAll_get,if_pos (by omega)]
        simp only [Nat.mul_one,Nat.add_zero,Nat.sub_zero]
        rw [hget l i hi];rfl
       obtain ⟨r3,r4⟩:=HR.toRows (sz:=1) (n:=l.length) (f:=fun i _=>.i .u8 (.ofNat (l.getD i 0))) q3 q4 (by omega) hcell
       refine ⟨v',ρ',w',q1,?_,r3,r4⟩
       cases q2 with | l _ _ _ _ _ _ B d N cap' hr b1 b2 b3 b4=>
       have:=VR.lr (ρ:=ρ') H.next 1 0 l.length false B d N cap' hr b1 (fun q=>by simp at q) (by omega)
       simpa using this
     · simp at h
   · simp at h
noncomputable def strS (op:BinOp) (a b:List Nat):Option (AV×Prop):=
 match op with
 | .add=>some (.s (a ++ b),a.length+b.length<=1073741824)
 | op=>match strBin op a b with
   | some v=>some (v,True)
   | none=>none
theorem strS_sound {P:Program} {op:BinOp} {a b:List Nat} {x y:ByteArray} {r:AV} {p:Prop} {ρ:Rho} {w:World} (h:strS op a b=some (r,p)) (hp:p) (ha:x.data.toList.map UInt8.toNat=a) (hb:y.data.toList.map UInt8.toNat=b) :
 ∃v',(Op.stringOp op x y).run P w=.ok v' w/\VR ρ r v':=by
 unfold strS at h
 split at h
 · simp only [Option.some.injEq,Prod.mk.injEq] at h
   obtain ⟨rfl,rfl⟩:=h
   exact strBin_sound (by simp [strBin,og,Nat.ble_eq_true_of_le hp]) ha hb
 · split at h
   · rename_i v hv
     simp only [Option.some.injEq,Prod.mk.injEq] at h
     obtain ⟨rfl,rfl⟩:=h
     exact strBin_sound hv ha hb
   · simp at h
noncomputable def eqBinS (P:Program) (op:BinOp) (t:TypeId) (xo yo:Operand) (x y:AV):Option AV:=
 match op with
 | .eql=>og (eqGuardOk P t xo yo x y) (ob (eqTS P 20 t x y) fun r=>some (.b r))
 | .neq=>og (eqGuardOk P t xo yo x y) (ob (eqTS P 20 t x y) fun r=>some (.b !r))
 | _=>none
noncomputable def isGreat (o:Operand):Bool:=
 match o with
 | .const v=>match v with
   | .int _ n=>match n with
     | .ofNat m=>Nat.ble 4294967296 m
     | _=>false
   | _=>false
 | _=>false
noncomputable def isMul:BinOp->Bool
 | .mul=>true
 | _=>false
noncomputable def arithC (op:BinOp) (yo:Operand) (k:IntKind) (a b:Int):Option (AV×Prop):=
 match isMul op with
 | false=>arith op k a b
 | true=>match isGreat yo with
   | false=>arith op k a b
   | true=>some (.i k (wrapA k (a*b)),True)
theorem arithC_sound {P:Program} {op:BinOp} {t:TypeId} {yo:Operand} {k:IntKind} {a b:Int} {r:AV} {p:Prop} {ρ:Rho} {w:World} (hs:isShift op=false) (h:arithC op yo k a b=some (r,p)) (hp:p) :
 ∃v',(binOp op t (.int k a) (.int k b)).run P w=.ok v' w/\VR ρ r v':=by
 unfold arithC at h
 split at h
 · exact arith_sound hs h hp
 · rename_i hm
   split at h
   · exact arith_sound hs h hp
   · simp only [Option.some.injEq,Prod.mk.injEq] at h;obtain ⟨rfl,rfl⟩:=h
     have ho:op=.mul:=by cases op<;>first | rfl | cases hm
     subst ho
     exact intBin_sound rfl rfl
noncomputable def oBinS (P:Program) (op:BinOp) (t:TypeId) (xo yo:Operand) (x y:AV):Option (AV×Prop):=
 match isShift op with
 | true=>match x,y with
   | .i k a,.i _ b=>shiftS op k a b
   | _,_=>none
 | false=>match x with
   | .i k a=>match y with
     | .i k' b=>og (decide (k=k')) (arithC op yo k a b)
     | _=>none
   | .s a=>match y with
     | .s b=>strS op a b
     | _=>none
   | x=>match eqBinS P op t xo yo x y with
     | some v=>some (v,True)
     | none=>none
theorem eqBinS_sound {P:Program} {H:AH} {op:BinOp} {t:TypeId} {xo yo:Operand} {x y r:AV} {x' y':Value} {ρ:Rho} {w:World} (hs:isShift op=false) (h:eqBinS P op t xo yo x y=some r) (hh:HR ρ H w) (hx:VR ρ x x') (hy:VR ρ y y')
 (hni:∀k n,x≠.i k n) (hns:∀l,x≠.s l) :
 GoesV P (do eqGuard op t xo yo x' y';binOp op t x' y') r H ρ H w:=by
 have hbin:∀q:Bool,op=.eql\/op=.neq->(Op.equal t x' y').run P w=.ok q w->(binOp op t x' y').run P w=.ok (.bool (if op=.eql then q else !q)) w:=by
  intro q ho hq
  rcases ho with rfl | rfl
  · have:binOp .eql t x' y'=(do pure (.bool (<-Op.equal t x' y'))):=by
     cases hx<;>first
      | (exact absurd rfl (hni _ _))
      | (exact absurd rfl (hns _))
      | (cases y'<;>rfl)
      | (rename_i q;cases q<;>cases y'<;>rfl)
    rw [this];simp [hq]
  · have:binOp .neq t x' y'=(do pure (.bool (!(<-Op.equal t x' y')))):=by
     cases hx<;>first
      | (exact absurd rfl (hni _ _))
      | (exact absurd rfl (hns _))
      | (cases y'<;>rfl)
      | (rename_i q;cases q<;>cases y'<;>rfl)
    rw [this];simp [hq]
 unfold eqBinS at h
 split at h
 · simp only [og_some,ob_some] at h
   obtain ⟨hg,q,hq,e⟩:=h
   simp at e;subst e
   refine GoesV.pure hh (.b q) ?_
   have:=hbin q (.inl rfl) (eqTS_sound 20 10000 t x y q x' y' (by omega) hq hx hy)
   simp only [Sem.run_bind,run_eqGuard hg hx hy,Result.andThen_ok,this,if_true]
 · simp only [og_some,ob_some] at h
   obtain ⟨hg,q,hq,e⟩:=h
   simp at e;subst e
   refine GoesV.pure hh (.b (!q)) ?_
   have:=hbin q (.inr rfl) (eqTS_sound 20 10000 t x y q x' y' (by omega) hq hx hy)
   simp only [Sem.run_bind,run_eqGuard hg hx hy,Result.andThen_ok,this]
   simp
 · simp at h
theorem oBinS_sound {P:Program} {H:AH} {op:BinOp} {t:TypeId} {xo yo:Operand} {x y r:AV} {p:Prop} {x' y':Value} {ρ:Rho} {w:World} (h:oBinS P op t xo yo x y=some (r,p)) (hp:p) (hh:HR ρ H w) (hx:VR ρ x x') (hy:VR ρ y y') :
 GoesV P (do eqGuard op t xo yo x' y';binOp op t x' y') r H ρ H w:=by
 unfold oBinS at h
 split at h
 · rename_i hs
   split at h
   · cases hx;cases hy
     obtain ⟨v',a,b⟩:=shiftS_sound (P:=P) (t:=t) (ρ:=ρ) (w:=w) hs h hp
     refine GoesV.pure hh b ?_
     simp only [Sem.run_bind,eqGuard_int,Result.andThen_ok]
     exact a
   · simp at h
 · rename_i hs
   split at h
   · split at h
     · simp only [og_some] at h
       obtain ⟨hk,h⟩:=h
       simp at hk;subst hk
       cases hx;cases hy
       obtain ⟨v',a,b⟩:=arithC_sound (P:=P) (t:=t) (ρ:=ρ) (w:=w) hs h hp
       refine GoesV.pure hh b ?_
       simp only [Sem.run_bind,eqGuard_int,Result.andThen_ok,a]
     · simp at h
   · split at h
     · cases hx with | s _ s1 h1=>cases hy with | s _ s2 h2=>
       obtain ⟨v',a,b⟩:=strS_sound (P:=P) (ρ:=ρ) (w:=w) h hp h1 h2
       refine GoesV.pure hh b ?_
       have:binOp op t (.string s1) (.string s2)=Op.stringOp op s1 s2:=by cases op<;>rfl
       simp only [Sem.run_bind,eqGuard_str,Result.andThen_ok,this,a]
     · simp at h
   · rename_i h1 h2
     split at h
     · rename_i v hv
       simp only [Option.some.injEq,Prod.mk.injEq] at h
       obtain ⟨rfl,rfl⟩:=h
       exact eqBinS_sound hs hv hh hx hy h1 h2
     · simp at h
noncomputable def oUnS (op:UnOp) (x:AV):Option (AV×Prop):=
 match op with
 | .neg=>match x with
   | .i k n=>match k.signed with
     | true=>some (.i k (-n),InR k (-n))
     | false=>some (.i k (wrapA k (0-n)),True)
   | _=>none
 | op=>match oUn op x with
   | some v=>some (v,True)
   | none=>none
theorem oUnS_sound {P:Program} {H:AH} {op:UnOp} {x r:AV} {p:Prop} {x':Value} {ρ:Rho} {w:World} (h:oUnS op x=some (r,p)) (hp:p) (hh:HR ρ H w) (hx:VR ρ x x'):GoesV P (Op.unary op x') r H ρ H w:=by
 unfold oUnS at h
 split at h
 · split at h
   · rename_i k n
     split at h
     · simp only [Option.some.injEq,Prod.mk.injEq] at h
       obtain ⟨rfl,rfl⟩:=h
       have hp':InR k (-n):=hp
       refine oUn_sound (x:=.i k n) ?_ hh hx
       simp [oUn,wrapA_eq,hp'.wrap]
     · simp only [Option.some.injEq,Prod.mk.injEq] at h
       obtain ⟨rfl,rfl⟩:=h
       exact oUn_sound (x:=.i k n) rfl hh hx
   · simp at h
 · split at h
   · rename_i v hv
     simp only [Option.some.injEq,Prod.mk.injEq] at h
     obtain ⟨rfl,rfl⟩:=h
     exact oUn_sound hv hh hx
   · simp at h
end Go.Sim
/- Rows that nobody writes any more: their cells stay as they are, their names hold nothing. -/
namespace Go.Sim
open Go
inductive Frz where
 | rows (sz n:Nat) (f:Nat->Nat->CV)
 | cells (size:Nat) (cvs:List CV)
noncomputable def frzOf (H:AH) (A:Nat):Option Frz:=
 match H.get A with
 | some (.rows _ sz n f)=>some (.rows sz n f)
 | some (.cells _ size dflt cs)=>ob (readN size dflt cs 0 size) fun l=>ob (ofAVs 1 l) fun c=>some (.cells size c)
 | _=>none
mutual
noncomputable def frz (A:Nat) (z:Frz):AV->AV
 | .lr B sz i len ex=>match Nat.beq B A with
   | true=>match z with
     | .rows sz' n f=>.sv sz len (shiftF i f)
     | .cells _ _=>.lr B sz i len ex
   | false=>.lr B sz i len ex
 | .l B o len cap sz ex=>match Nat.beq B A with
   | true=>match z with
     | .rows _ _ _=>.l B o len cap sz ex
     | .cells size cvs=>.sv sz len (listF sz (cvs.drop o) len)
   | false=>.l B o len cap sz ex
 | .fn g f c=>.fn g (frzs A z f) (frzs A z c)
 | .ifc t v=>.ifc t (frz A z v)
 | .agg l=>.agg (frzs A z l)
 | .tup l=>.tup (frzs A z l)
 | .p B o=>.p B o
 | .m B=>.m B
 | .ps B o sz k i=>.ps B o sz k i
 | .pr B sz i o=>.pr B sz i o
 | .b x=>.b x
 | .i k n=>.i k n
 | .s l=>.s l
 | .p0=>.p0
 | .l0=>.l0
 | .lz=>.lz
 | .m0=>.m0
 | .f0=>.f0
 | .if0=>.if0
 | .sv sz n f=>.sv sz n f
 | .opv q0 sz f=>.opv q0 sz f
 | .pv sz f=>.pv sz f
 | .yf B=>.yf B
 | .mq b B=>.mq b B
noncomputable def frzs (A:Nat) (z:Frz):List AV->List AV
 | []=>[]
 | v :: r=>frz A z v :: frzs A z r
end
mutual
noncomputable def frzP (A:Nat) (z:Frz):AV->Prop
 | .lr B sz i len _=>match Nat.beq B A with
   | true=>match z with
     | .rows sz' n _=>sz=sz'/\i+len<=n
     | .cells _ _=>True
   | false=>True
 | .l B o len _ sz _=>match Nat.beq B A with
   | true=>match z with
     | .rows _ _ _=>True
     | .cells size _=>o+len*sz<=size
   | false=>True
 | .fn _ f c=>frzsP A z f/\frzsP A z c
 | .ifc _ v=>frzP A z v
 | .agg l=>frzsP A z l
 | .tup l=>frzsP A z l
 | .p _ _=>True
 | .m _=>True
 | .ps _ _ _ _ _=>True
 | .pr _ _ _ _=>True
 | .b _=>True
 | .i _ _=>True
 | .s _=>True
 | .p0=>True
 | .l0=>True
 | .lz=>True
 | .m0=>True
 | .f0=>True
 | .if0=>True
 | .sv _ _ _=>True
 | .opv _ _ _=>True
 | .pv _ _=>True
 | .yf _=>True
 | .mq _ _=>True
noncomputable def frzsP (A:Nat) (z:Frz):List AV->Prop
 | []=>True
 | v :: r=>frzP A z v/\frzsP A z r
end
def FrzIn (ro:Nat->Nat->Option Value) (B d:Nat):Frz->Prop
 | .rows sz n f=>∀i j,i<n->j<sz->∃v,ro B (d+i*sz+j)=some v/\CR ro (f i j) v
 | .cells size cvs=>size<=cvs.length/\∀j,j<size->∃v,ro B (d+j)=some v/\CR ro (cvs.getD j .p0) v
theorem sv_of {ro:Nat->Nat->Option Value} {sz len B o cap:Nat} {f:Nat->Nat->CV} (hc:len<=cap) (h:∀i j,i<len->j<sz->∃v,ro B (o+i*sz+j)=some v/\CR ro (f i j) v):CR ro (.sv sz len f) (.slice (some ⟨B,o,none⟩) len cap):=by
 refine .sv sz len f B o cap (fun i j=>(ro B (o+i*sz+j)).getD undef) hc ?_ ?_
 · intro i j hi hj
   obtain ⟨v,h1,h2⟩:=h i j hi hj
   rw [h1];rfl
 · intro i j hi hj
   obtain ⟨v,h1,h2⟩:=h i j hi hj
   rw [h1];exact h2
mutual
theorem frz_VR {ρ ρ':Rho} {A:Nat} {z:Frz} (hle:Rho.le ρ ρ') (hA:∀B d N,ρ A=some (B,d,N)->FrzIn ρ'.ro B d z):∀{v:AV} {v':Value},frzP A z v->VR ρ v v'->VR ρ' (frz A z v) v'
 | .lr B sz i len ex,v',hp,h=>by
   simp only [frz];simp only [frzP] at hp
   split
   · rename_i hb
     have hb':=Nat.eq_of_beq_eq_true hb
     subst hb'
     rw [hb] at hp
     cases z with
     | rows sz' n f=>
       obtain ⟨rfl,hn⟩:=hp
       cases h with
       | lr0=>exact .sv _ _ _ _ (.sv0 _ _)
       | lr _ _ _ _ _ B d N cap' e e1 e2 e3=>
         have:=hA B d N e
         refine .sv _ _ _ _ (sv_of e1 fun a j ha hj=>?_)
         obtain ⟨v,q1,q2⟩:=this (i+a) j (by omega) hj
         refine ⟨v,by rw [<-q1,Nat.add_mul];congr 1;omega,by rw [shiftF_eq];exact q2⟩
     | cells size cvs=>exact h.mono hle
   · exact h.mono hle
 | .l B o len cap sz ex,v',hp,h=>by
   simp only [frz];simp only [frzP] at hp
   split
   · rename_i hb
     have hb':=Nat.eq_of_beq_eq_true hb
     subst hb'
     rw [hb] at hp
     cases z with
     | rows sz' n f=>exact h.mono hle
     | cells size cvs=>
       cases h with
       | l _ _ _ _ _ _ B d N cap' e e1 e2 e3 e4=>
         obtain ⟨hl,this⟩:=hA B d N e
         refine .sv _ _ _ _ (sv_of (by omega) fun a j ha hj=>?_)
         have hlt:(a+1)*sz<=len*sz:=Nat.mul_le_mul_right _ ha
         rw [Nat.add_mul] at hlt
         obtain ⟨v,q1,q2⟩:=this (o+(a*sz+j)) (by omega)
         refine ⟨v,by rw [<-q1];congr 1;omega,listF_CR _ _ _ _ _ ha hj ?_⟩
         simpa [List.getD_eq_getElem?_getD,List.getElem?_drop] using q2
   · exact h.mono hle
 | .fn g f c,v',hp,h=>by simp only [frz];simp only [frzP] at hp;cases h with | fn _ _ _ f' c' a b=>exact .fn g _ _ f' c' (frzs_VR hle hA hp.1 a) (frzs_VR hle hA hp.2 b)
 | .ifc t v,v',hp,h=>by simp only [frz];simp only [frzP] at hp;cases h with | ifc _ _ v1 a=>exact .ifc t _ v1 (frz_VR hle hA hp a)
 | .agg l,v',hp,h=>by simp only [frz];simp only [frzP] at hp;cases h with | agg _ l' a=>exact .agg _ l' (frzs_VR hle hA hp a)
 | .tup l,v',hp,h=>by simp only [frz];simp only [frzP] at hp;cases h with | tup _ l' a=>exact .tup _ l' (frzs_VR hle hA hp a)
 | .p B o,v',hp,h=>by simp only [frz];exact h.mono hle
 | .m B,v',hp,h=>by simp only [frz];exact h.mono hle
 | .ps B o sz k i,v',hp,h=>by simp only [frz];exact h.mono hle
 | .pr B sz i o,v',hp,h=>by simp only [frz];exact h.mono hle
 | .yf B,v',hp,h=>by simp only [frz];exact h.mono hle
 | .mq b B,v',hp,h=>by simp only [frz];exact h.mono hle
 | .b x,v',hp,h=>by simp only [frz];exact h.mono hle
 | .i k n,v',hp,h=>by simp only [frz];exact h.mono hle
 | .s l,v',hp,h=>by simp only [frz];exact h.mono hle
 | .p0,v',hp,h=>by simp only [frz];exact h.mono hle
 | .l0,v',hp,h=>by simp only [frz];exact h.mono hle
 | .lz,v',hp,h=>by simp only [frz];exact h.mono hle
 | .m0,v',hp,h=>by simp only [frz];exact h.mono hle
 | .f0,v',hp,h=>by simp only [frz];exact h.mono hle
 | .if0,v',hp,h=>by simp only [frz];exact h.mono hle
 | .sv sz n f,v',hp,h=>by simp only [frz];exact h.mono hle
 | .opv q0 sz f,v',hp,h=>by simp only [frz];exact h.mono hle
 | .pv sz f,v',hp,h=>by simp only [frz];exact h.mono hle
theorem frzs_VR {ρ ρ':Rho} {A:Nat} {z:Frz} (hle:Rho.le ρ ρ') (hA:∀B d N,ρ A=some (B,d,N)->FrzIn ρ'.ro B d z):∀{v:List AV} {v':List Value},frzsP A z v->VRs ρ v v'->VRs ρ' (frzs A z v) v'
 | [],v',hp,h=>by cases h;simp only [frzs];exact .nil
 | v :: r,v',hp,h=>by
   simp only [frzs];simp only [frzsP] at hp
   cases h with | cons _ x _ xs a b=>exact .cons _ x _ xs (frz_VR hle hA hp.1 a) (frzs_VR hle hA hp.2 b)
end
theorem freeze_ok {ρ0 ρ:Rho} {H0 H:AH} {w0 w:World} {A:Nat} {z:Frz} (hz:frzOf H A=some z) (hh:HR ρ H w) (he:Ext ρ0 H0 w0 ρ H w) :
 ∃ρ',ρ'.nm=ρ.nm/\Rho.le ρ ρ'/\(∀B d N,ρ A=some (B,d,N)->FrzIn ρ'.ro B d z)/\HR ρ' (H.upd A none) w/\Ext ρ0 H0 w0 ρ' (H.upd A none) w:=by
 have hsub:∀(B:Nat) (o:AObj),(H.upd A none).get B=some o->H.get B=some o/\B≠A:=by
  intro B o hB
  rw [AH.get_upd] at hB
  split at hB
  · simp at hB
  · rename_i e;exact ⟨hB,e⟩
 have hsub1:∀(B:Nat) (o:AObj),(H.upd A none).get B=some o->H.get B=some o:=fun B o h=>(hsub B o h).1
 obtain ⟨obj,hA⟩:∃obj,H.get A=some obj:=by
  unfold frzOf at hz
  cases hg:H.get A with
  | none=>rw [hg] at hz;simp at hz
  | some o=>exact ⟨o,rfl⟩
 rcases hh.live A obj hA with ⟨⟨B,d,N⟩,hx,hb⟩ | ⟨hv,hn⟩
 · -- a real block
   obtain ⟨c,e,fr,h1,hall⟩:∃c e fr,w.heap[B]? =some (.cells c e fr)/\∀ro:Nat->Nat->Option Value,(∀B j v,ρ.ro B j=some v->ro B j=some v)->(∀j v,c[j]? =some v->ro B j=some v)->(∀v c,CR ρ.ro c v->CR ro c v)->FrzIn ro B d z:=by
    unfold frzOf at hz
    rw [hA] at hz
    split at hz
    · rename_i e sz n f heq
      simp at heq;subst heq
      simp at hz;subst hz
      obtain ⟨c,fr,h1,h2,h3,h4,h5⟩:=hb
      refine ⟨c,e,fr,h1,fun ro hro hc hm i j hi hj=>?_⟩
      obtain ⟨v,v1,v2⟩:=h5 i j hi hj
      exact ⟨v,hc _ _ v1,hm _ _ v2⟩
    · rename_i e size dflt cs heq
      simp at heq;subst heq
      simp only [ob_some] at hz
      obtain ⟨l,hl,cv,hcv,e1⟩:=hz
      simp at e1;subst e1
      obtain ⟨c,fr,h1,h2,h3,h4,h5⟩:=hb
      obtain ⟨q1,q2⟩:=readN_get _ _ _ hl
      have hcl:=(ofAVs_one (ρ:=ρ) hcv).1
      refine ⟨c,e,fr,h1,fun ro hro hc hm=>⟨by omega,fun j hj=>?_⟩⟩
      have hjl:j<l.length:=by omega
      obtain ⟨v,v1,v2,v3⟩:=h5 j l[j] (by have:=q2 j l[j] (List.getElem?_eq_getElem hjl);simpa using this)
      have hjc:j<cv.length:=by omega
      have hof:ofAV 1 l[j]=some cv[j]:=by
       have key:∀(l:List AV) (c:List CV),ofAVs 1 l=some c->∀(k:Nat) (h1:k<l.length) (h2:k<c.length),ofAV 1 l[k]=some c[k]:=by
        intro l
        induction l with
        | nil=>intro c _ k h1;simp at h1
        | cons a l ih=>
          intro c h k h1 h2
          simp only [ofAVs_cons,ob_some] at h
          obtain ⟨c0,hc0,r,hr,e⟩:=h
          simp at e;subst e
          cases k with
          | zero=>simpa using hc0
          | succ k=>simpa using ih r hr k (by simpa using h1) (by simpa using h2)
       exact key l cv hcv _ hjl hjc
      exact ⟨v,hc _ _ v1,by rw [List.getD_eq_getElem?_getD,List.getElem?_eq_getElem hjc];exact hm _ _ (ofAV_CR hof v2)⟩
    · simp at hz
   -- the cells of the block stay
   let ρ':Rho:=⟨ρ.nm,fun B' j=>if B'=B then c[j]? else ρ.ro B' j⟩
   have hnoro:∀j v,ρ.ro B j≠some v:=fun j v h=>hh.rox B j v h A obj _ hA hx rfl
   have hro:∀B' j v,ρ.ro B' j=some v->ρ'.ro B' j=some v:=by
    intro B' j v h
    show (if B'=B then c[j]? else ρ.ro B' j)=some v
    rw [if_neg (fun (q:B'=B)=>hnoro j v (q▸h))];exact h
   have hle:Rho.le ρ ρ':=⟨fun _ _ h=>h,hro⟩
   refine ⟨ρ',rfl,hle,?_,⟨?_,?_,hh.range,?_,?_⟩,⟨he.next,⟨he.ext.nm,fun B' j v h=>hro _ _ _ (he.ext.ro _ _ _ h)⟩,he.dom,he.size,he.frame,fun A1 o x hA1 hx1=>he.img A1 o x (hsub1 _ _ hA1) hx1,?_,he.tape,he.os,he.output⟩⟩
   · intro B' d' N' h'
     rw [hx] at h';simp at h';obtain ⟨rfl,rfl,rfl⟩:=h'
     exact hall ρ'.ro hro (fun j v h=>by show (if B=B then c[j]? else _)= _;rw [if_pos rfl];exact h) (fun v c h=>h.mono hro)
   · intro A1 o hA1
     rcases hh.live A1 o (hsub1 _ _ hA1) with ⟨x,hx1,hb1⟩ | hv
     · exact .inl ⟨x,hx1,hb1.mono hle⟩
     · exact .inr hv
   · intro A1 A2 o1 o2 x1 x2 a1 a2 r1 r2 he1
     exact hh.inj A1 A2 o1 o2 x1 x2 (hsub1 _ _ a1) (hsub1 _ _ a2) r1 r2 he1
   · intro B' j v hv
     have hv':(if B'=B then c[j]? else ρ.ro B' j)=some v:=hv
     split at hv'
     · rename_i e';subst e';exact ⟨c,e,fr,h1,hv'⟩
     · exact hh.ro B' j v hv'
   · intro B' j v hv A1 o x hA1 hx1
     have hv':(if B'=B then c[j]? else ρ.ro B' j)=some v:=hv
     split at hv'
     · rename_i e';subst e'
       intro e2
       obtain ⟨g1,g2⟩:=hsub _ _ hA1
       exact g2 (hh.inj A1 A o obj x _ g1 hA hx1 hx e2)
     · exact hh.rox B' j v hv' A1 o x (hsub1 _ _ hA1) hx1
   · intro B' j v hv
     have hv':(if B'=B then c[j]? else ρ.ro B' j)=some v:=hv
     split at hv'
     · rename_i e';subst e'
       exact .inr (he.img A obj _ hA hx)
     · exact he.roimg B' j v hv'
 · -- nothing there
   refine ⟨ρ,rfl,.refl _,fun B d N h=>by rw [hn] at h;simp at h,hh.sub hsub1,he.sub hsub1 rfl⟩
noncomputable def frzAll:List Nat->AH->AV->Option (AV×AH×Prop)
 | [],H,v=>some (v,H,True)
 | A :: r,H,v=>ob (frzOf H A) fun z=>ob (frzAll r (H.upd A none) (frz A z v)) fun x=>some (x.1,x.2.1,frzP A z v/\x.2.2)
theorem frzAll_ok:∀(l:List Nat) {ρ0 ρ:Rho} {H0 H H':AH} {w0 w:World} {v v2:AV} {p:Prop} {v':Value},frzAll l H v=some (v2,H',p)->p->HR ρ H w->Ext ρ0 H0 w0 ρ H w->VR ρ v v'->
 ∃ρ',ρ'.nm=ρ.nm/\VR ρ' v2 v'/\HR ρ' H' w/\Ext ρ0 H0 w0 ρ' H' w
 | [],ρ0,ρ,H0,H,H',w0,w,v,v2,p,v',h,hp,hh,he,hv=>by
   simp only [frzAll,Option.some.injEq,Prod.mk.injEq] at h
   obtain ⟨rfl,rfl,rfl⟩:=h
   exact ⟨ρ,rfl,hv,hh,he⟩
 | A :: r,ρ0,ρ,H0,H,H',w0,w,v,v2,p,v',h,hp,hh,he,hv=>by
   simp only [frzAll,ob_some,Option.some.injEq,Prod.mk.injEq] at h
   obtain ⟨z,hz,⟨v3,H3,p3⟩,hr,rfl,rfl,rfl⟩:=h
   obtain ⟨hp1,hp2⟩:=hp
   obtain ⟨ρ1,e1,e2,e3,e4,e5⟩:=freeze_ok hz hh he
   obtain ⟨ρ2,k1,k2,k3,k4⟩:=frzAll_ok r hr hp2 e4 e5 (frz_VR e2 e3 hp1 hv)
   exact ⟨ρ2,k1.trans e1,k2,k3,k4⟩
end Go.Sim
/- Maps told by functions: made, looked up, written, measured. -/
namespace Go.Sim
open Go
noncomputable def toAVs (l:List CV):List AV:=List.rec (motive:=fun _=>List AV) [] (fun c _ ih=>toAV c :: ih) l
theorem toAVs_VRs {ρ:Rho}:∀{l:List CV} {vs:List Value},CRs ρ.ro l vs->VRs ρ (toAVs l) vs
 | _,_,.nil=>.nil
 | _,_,.cons _ _ _ _ a b=>.cons _ _ _ _ (toAV_VR a) (toAVs_VRs b)
theorem CRs.of {ro:Nat->Nat->Option Value}:∀{l:List CV} {vs:List Value},l.length=vs.length->(∀(i:Nat) (c:CV),l[i]? =some c->∃v,vs[i]? =some v/\CR ro c v)->CRs ro l vs
 | [],[],_,_=>.nil
 | [],_ :: _,h,_=>by simp at h
 | _ :: _,[],h,_=>by simp at h
 | c :: l,v :: vs,h,k=>by
   obtain ⟨v',a,b⟩:=k 0 c (by simp)
   simp at a;subst a
   exact .cons _ _ _ _ b (CRs.of (by simpa using h) fun i c' hc=>by
    obtain ⟨v',a,b⟩:=k (i+1) c' (by simpa using hc)
    exact ⟨v',by simpa using a,b⟩)
noncomputable def zAgg (P:Program) (t:TypeId):Option (List AV):=
 match P.underlying t with
 | some (.map _ e)=>match P.info? e with
   | some i=>match i.zero with
     | some z=>match ofValue z with
       | some (.agg l)=>some l
       | _=>none
     | none=>none
   | none=>none
 | _=>none
noncomputable def cvEq:CV->CV->Bool
 | .b x,.b y=>match x,y with
   | true,true=>true
   | false,false=>true
   | _,_=>false
 | .i k n,.i k' n'=>decide (k=k') && decide (n=n')
 | .s [],.s []=>true
 | .p0,.p0=>true
 | .m0,.m0=>true
 | _,_=>false
theorem cvEq_eq {a b:CV} (h:cvEq a b=true):a=b:=by
 unfold cvEq at h
 split at h
 · split at h<;>simp_all
 · simp at h;rw [h.1,h.2]
 · rfl
 · rfl
 · rfl
 · simp at h
noncomputable def cvsEq:List CV->List CV->Bool
 | [],[]=>true
 | a :: l,b :: r=>cvEq a b && cvsEq l r
 | _,_=>false
theorem cvsEq_eq:∀{a b:List CV},cvsEq a b=true->a=b
 | [],[],_=>rfl
 | a :: l,b :: r,h=>by simp [cvsEq] at h;rw [cvEq_eq h.1,cvsEq_eq h.2]
 | [],_ :: _,h=>by simp [cvsEq] at h
 | _ :: _,[],h=>by simp [cvsEq] at h
noncomputable def zIs (P:Program) (t:TypeId) (z:List CV):Bool:=
 match zAgg P t with
 | some l=>match ofAVs 0 l with
   | some c=>cvsEq c z
   | none=>false
 | none=>false
theorem zIs_run {P:Program} {t k e:TypeId} {z:List CV} {ρ:Rho} (hu:P.underlying t=some (.map k e)) (h:zIs P t z=true):∃vs:List Value,(∀w,(zeroValue e).run P w=.ok (.agg vs.toArray) w)/\CRs ρ.ro z vs:=by
 unfold zIs at h
 split at h
 · rename_i l hl
   unfold zAgg at hl
   simp only [hu] at hl
   split at hl
   · rename_i i hi
     split at hl
     · rename_i zz hz
       split at hl
       · rename_i l' hv
         simp at hl;subst hl
         split at h
         · rename_i c hc
           obtain rfl:=cvsEq_eq h
           have hvr:VR ρ (.agg l') zz:=ofValue_VR hv
           cases hvr with | agg _ vs hvs=>
           obtain ⟨k1,k2⟩:=ofAVs_CR hc hvs
           exact ⟨vs,fun w=>by simp [zeroValue,run_typeInfo' hi,hz],CRs.of k1 k2⟩
         · simp at h
       · simp at hl
     · simp at hl
   · simp at hl
 · simp at h
noncomputable def isMq:AV->Bool
 | .mq _ _=>true
 | _=>false
noncomputable def oLookupM (P:Program) (H:AH) (t:TypeId) (m k:AV) (ok:Bool):Option (AV×Prop):=
 og (mapKey P t) (match m with
  | .mq b A=>match H.get A with
    | some (.mp b' k' z g f _)=>match k with
      | .i kk n=>og (decide (kk=k')) (og (zIs P t z) (match ok with
        | false=>some (.agg (toAVs (f n)),b=b')
        | true=>some (.tup [.agg (toAVs (f n)),.b (g n)],b=b')))
      | _=>none
    | _=>none
  | _=>none)
theorem findNow_ok {k d:IntKind} {n:Int}:∀(l:List MapEntry) (j:Nat),(∀e∈l,∃m,e.key=.int k m)->
 (∃e∈l,∃i,e.key=.int k n/\Instr.findNow (.int d) (.int k n) l j=some (some (j+i,e.val))/\l[i]? =some e)\/((∀e∈l,e.key≠.int k n)/\Instr.findNow (.int d) (.int k n) l j=some none)
 | [],j,_=>.inr ⟨fun e he=>by simp at he,rfl⟩
 | e :: l,j,h=>by
   obtain ⟨m,hm⟩:=h e (by simp)
   by_cases hn:n=m
   · subst hn
     exact .inl ⟨e,by simp,0,hm,by simp [Instr.findNow,hm,Instr.sameNow],by simp⟩
   · have hs:Instr.findNow (.int d) (.int k n) (e :: l) j=Instr.findNow (.int d) (.int k n) l (j+1):=by
      have:(n == m)=false:=by simpa using hn
      simp [Instr.findNow,hm,Instr.sameNow,this]
     rw [hs]
     rcases findNow_ok l (j+1) (fun e he=>h e (by simp [he])) with ⟨e',h1,i,h2,h3,h4⟩ | ⟨h1,h2⟩
     · exact .inl ⟨e',by simp [h1],i+1,h2,by rw [h3];congr 3;omega,by simpa using h4⟩
     · refine .inr ⟨fun e' he'=>?_,h2⟩
       rcases List.mem_cons.1 he' with rfl | h'
       · rw [hm];intro hh;cases hh;exact hn rfl
       · exact h1 e' h'
theorem MapOk.int {ro:Nat->Nat->Option Value} {k:IntKind} {z:List CV} {g:Int->Bool} {f:Int->List CV} {c:Nat} {es:Array MapEntry} (m:MapOk ro k z g f c es):∀e∈es.toList,∃n,e.key=.int k n:=fun e he=>by
 obtain ⟨_,n,vs,b1,_⟩:=m.ent e he;exact ⟨n,b1⟩
theorem HR.mpRow {ρ:Rho} {H:AH} {w:World} {A B N c:Nat} {b:Bool} {k:IntKind} {z:List CV} {g:Int->Bool} {f:Int->List CV} (hh:HR ρ H w) (hA:H.get A=some (.mp b k z g f c)) (hr:ρ A=some (B,0,N)) :
 b=true/\∃es:Array MapEntry,w.heap[B]? =some (.map es c)/\MapOk ρ.ro k z g f c es:=by
 rcases hh.live _ _ hA with ⟨x,hx,hb⟩ | hv
 · rw [hr] at hx;simp at hx;subst hx;obtain ⟨h0,_,es,h1,h2⟩:=hb;exact ⟨h0,es,h1,h2⟩
 · rw [hr] at hv;simp at hv
theorem HR.mpNil {ρ:Rho} {H:AH} {w:World} {A c:Nat} {k:IntKind} {z:List CV} {g:Int->Bool} {f:Int->List CV} (hh:HR ρ H w) (hA:H.get A=some (.mp false k z g f c)):∀n,g n=false/\f n=z:=by
 rcases hh.live _ _ hA with ⟨x,hx,hb⟩ | hv
 · exact absurd hb.1 (by simp)
 · exact hv.1.2
theorem lookup_one {P:Program} {t kt et:TypeId} {d k:IntKind} {n:Int} {ok:Bool} {x:Value} {es:Array MapEntry} {v:Value} {q:Bool} {w:World} (hu:P.underlying t=some (.map kt et)) (hku:P.underlying kt=some (.int d))
 (hx:(x=.map none/\es=#[])\/∃B c,x=.map (some B)/\w.heap[B]? =some (.map es c))
 (hf:(∃i,Instr.findNow (.int d) (.int k n) es.toList 0=some (some (i,v))/\q=true)\/(Instr.findNow (.int d) (.int k n) es.toList 0=some none/\q=false/\(zeroValue et).run P w=.ok v w)) :
 (Instr.lookup t x (.int k n) ok).run P w=.ok (if ok then .tuple #[v,.bool q] else v) w:=by
 rcases hx with ⟨rfl,rfl⟩ | ⟨B,c,rfl,hb⟩
 · rcases hf with ⟨i,hf,rfl⟩ | ⟨hf,rfl,hz⟩
   · simp only [Instr.lookup,Sem.run_bind,run_underlying' hu,Result.andThen_ok,Sem.run_pure,run_checkKeyI' hku,run_findKeyI hku hf]
   · simp only [Instr.lookup,Sem.run_bind,run_underlying' hu,Result.andThen_ok,Sem.run_pure,run_checkKeyI' hku,run_findKeyI hku hf,hz]
 · rcases hf with ⟨i,hf,rfl⟩ | ⟨hf,rfl,hz⟩
   · simp only [Instr.lookup,Sem.run_bind,run_underlying' hu,Result.andThen_ok,run_getMap hb,Sem.run_pure,run_checkKeyI' hku,run_findKeyI hku hf]
   · simp only [Instr.lookup,Sem.run_bind,run_underlying' hu,Result.andThen_ok,run_getMap hb,Sem.run_pure,run_checkKeyI' hku,run_findKeyI hku hf,hz]
theorem oLookupM_sound {P:Program} {H:AH} {t:TypeId} {m k r:AV} {ok:Bool} {p:Prop} {m' k':Value} {ρ:Rho} {w:World} (h:oLookupM P H t m k ok=some (r,p)) (hp:p) (hh:HR ρ H w) (hm:VR ρ m m') (hk:VR ρ k k') :
 GoesV P (Instr.lookup t m' k' ok) r H ρ H w:=by
 simp only [oLookupM,og_some] at h
 obtain ⟨hmk,h⟩:=h
 obtain ⟨kt,et,d,hu,hku⟩:=mapKey_run hmk
 split at h
 · rename_i b A
   split at h
   · rename_i b' kk' z g f c hA
     split at h
     · rename_i kk n
       simp only [og_some,decide_eq_true_eq] at h
       obtain ⟨rfl,hz,h⟩:=h
       cases hk
       obtain ⟨zs,hz1,hz2⟩:=zIs_run (ρ:=ρ) hu hz
       have hbb:b=b':=by cases ok<;>(simp at h;rw [<-h.2] at hp;exact hp)
       subst hbb
       obtain ⟨vs,q,hv,hq,hrun⟩:∃(vs:List Value) (q:Bool),CRs ρ.ro (f n) vs/\q=g n/\(Instr.lookup t m' (.int kk n) ok).run P w=.ok (if ok then .tuple #[.agg vs.toArray,.bool q] else .agg vs.toArray) w:=by
        cases hm with
        | mq1 _ B N hr=>
          obtain ⟨_,es,hb,mo⟩:=hh.mpRow hA hr
          rcases findNow_ok (d:=d) (n:=n) es.toList 0 mo.int with ⟨e,he,i,h1,h2,h3⟩ | ⟨h1,h2⟩
          · obtain ⟨_,n',vs,b1,b2,b3,b4⟩:=mo.ent e he
            rw [h1] at b1;cases b1
            refine ⟨vs.toList,true,b4,b2.symm,?_⟩
            refine lookup_one hu hku (.inr ⟨B,c,rfl,hb⟩) (.inl ⟨_,by rw [h2,b3],rfl⟩)
          · have hg:g n=false:=by
             cases hg:g n with
             | false=>rfl
             | true=>obtain ⟨e,he,hk⟩:=mo.has n hg;exact absurd hk (h1 e he)
            refine ⟨zs,false,by rw [mo.zer n hg];exact hz2,hg.symm,?_⟩
            exact lookup_one hu hku (.inr ⟨B,c,rfl,hb⟩) (.inr ⟨h2,rfl,hz1 w⟩)
        | mq0=>
          obtain ⟨hg,hf⟩:=hh.mpNil hA n
          refine ⟨zs,false,by rw [hf];exact hz2,hg.symm,?_⟩
          exact lookup_one (es:=#[]) hu hku (.inl ⟨rfl,rfl⟩) (.inr ⟨rfl,rfl,hz1 w⟩)
       cases ok with
       | false=>
         simp at h;obtain ⟨rfl,_⟩:=h
         exact GoesV.pure hh (.agg _ _ (toAVs_VRs hv)) (by simpa using hrun)
       | true=>
         simp at h;obtain ⟨rfl,_⟩:=h
         refine GoesV.pure hh (.tup _ [.agg vs.toArray,.bool (g n)] (.cons _ _ _ _ (.agg _ _ (toAVs_VRs hv)) (.cons _ _ _ _ (.b _) .nil))) ?_
         rw [<-hq]
         simpa using hrun
     · simp at h
   · simp at h
 · simp at h
noncomputable def mgSet (g:Int->Bool) (n:Int):Int->Bool:=fun x=>bif decide (x=n) then true else g x
noncomputable def mfSet (f:Int->List CV) (n:Int) (v:List CV):Int->List CV:=fun x=>bif decide (x=n) then v else f x
noncomputable def oUpdateM (P:Program) (H:AH) (t:TypeId) (m k x:AV):Option (AH×Prop):=
 og (mapKey P t) (match m with
  | .mq b A=>match H.get A with
    | some (.mp b' k' z g f c)=>match k,x with
      | .i kk n,.agg l=>og (decide (kk=k')) (ob (ofAVs 0 l) fun v=>some (H.upd A (some (.mp true k' z (mgSet g n) (mfSet f n v) (bif g n then c else c+1))),b=true))
      | _,_=>none
    | _=>none
  | _=>none)
theorem modify_map {α β:Type} (l:List α) (i:Nat) (h:α->α) (q:α->β) (hq:∀a,l[i]? =some a->q (h a)=q a):(l.modify i h).map q=l.map q:=by
 apply List.ext_getElem?
 intro j
 rw [List.getElem?_map,List.getElem?_map,List.getElem?_modify]
 by_cases e:i=j
 · subst e
   cases hl:l[i]? with
   | none=>simp
   | some a=>simp [hq a hl]
 · simp [e]
theorem keyStays {P:Program} {k:IntKind} {n:Int} {w:World}:(Instr.keyThatStays (.int k n) (.int k n)).run P w=.ok (.int k n) w:=by
 unfold Instr.keyThatStays
 have:Instr.sameBits 10000 (.int k n) (.int k n)=true:=by unfold Instr.sameBits;simp
 rw [this];rfl
theorem MapOk.upd {ro:Nat->Nat->Option Value} {k:IntKind} {z:List CV} {g:Int->Bool} {f:Int->List CV} {c:Nat} {es:Array MapEntry} {e:MapEntry} {i:Nat} {n:Int} {vs:List Value} {v:List CV} (m:MapOk ro k z g f c es)
 (hi:es.toList[i]? =some e) (hk:e.key=.int k n) (hv:CRs ro v vs):g n=true/\MapOk ro k z (mgSet g n) (mfSet f n v) c (es.modify i fun e=>{ e with key:=.int k n,val:=.agg vs.toArray}):=by
 have hem:e∈es.toList:=List.mem_of_getElem? hi
 have hgn:g n=true:=by
  obtain ⟨_,n',_,b1,b2,_⟩:=m.ent e hem
  rw [hk] at b1;cases b1;exact b2
 have inj:∀e'∈es.toList,∀j:Nat,es.toList[j]? =some e'->e'.key=.int k n->j=i:=by
  intro e' he' j hj hk'
  have h1:(es.toList.map (·.key))[j]? =some (Value.int k n):=by rw [List.getElem?_map,hj];simp [hk']
  have h2:(es.toList.map (·.key))[i]? =some (Value.int k n):=by rw [List.getElem?_map,hi];simp [hk]
  obtain ⟨q1,q2⟩:=List.getElem?_eq_some_iff.1 h1
  obtain ⟨q3,q4⟩:=List.getElem?_eq_some_iff.1 h2
  exact (List.getElem_inj m.keys).1 (q2.trans q4.symm)
 refine ⟨hgn,?_,?_,?_,?_,?_⟩
 · intro e' he'
   rw [Array.toList_modify] at he'
   obtain ⟨j,hj⟩:=List.mem_iff_getElem?.1 he'
   rw [List.getElem?_modify] at hj
   by_cases hij:i=j
   · subst hij
     rw [hi] at hj;simp at hj;subst hj
     exact ⟨(m.ent e hem).1,n,vs.toArray,rfl,by simp [mgSet],rfl,by simpa [mfSet] using hv⟩
   · replace hj:es.toList[j]? =some e':=by
      cases hq:es.toList[j]? with
      | none=>rw [hq] at hj;simp at hj
      | some q=>rw [hq] at hj;simpa [hij] using hj
     obtain ⟨a,n',vs',b1,b2,b3,b4⟩:=m.ent e' (List.mem_of_getElem? hj)
     have hne:n'≠n:=by
      rintro rfl
      exact hij (inj e' (List.mem_of_getElem? hj) j hj b1).symm
     exact ⟨a,n',vs',b1,by simp [mgSet,hne,b2],b3,by simpa [mfSet,hne] using b4⟩
 · intro n' hn'
   rw [Array.toList_modify]
   by_cases hne:n'=n
   · subst hne
     refine ⟨{ e with key:=.int k n',val:=.agg vs.toArray},?_,rfl⟩
     exact List.mem_iff_getElem?.2 ⟨i,by rw [List.getElem?_modify];simp [hi]⟩
   · simp [mgSet,hne] at hn'
     obtain ⟨e',he',hk'⟩:=m.has n' hn'
     obtain ⟨j,hj⟩:=List.mem_iff_getElem?.1 he'
     refine ⟨e',List.mem_iff_getElem?.2 ⟨j,?_⟩,hk'⟩
     rw [List.getElem?_modify]
     have:i≠j:=by
      rintro rfl
      rw [hi] at hj;simp at hj;subst hj
      rw [hk] at hk';cases hk';exact hne rfl
     simp [this,hj]
 · rw [Array.toList_modify,modify_map _ _ _ _ (fun a ha=>by rw [hi] at ha;simp at ha;subst ha;exact hk.symm)];exact m.keys
 · rw [Array.toList_modify,modify_map (h:=fun e=>{ e with key:=.int k n,val:=.agg vs.toArray}) es.toList i (·.born) (fun a ha=>rfl)];exact m.borns
 · intro n' hn'
   by_cases hne:n'=n
   · subst hne;simp [mgSet] at hn'
   · simp [mgSet,hne] at hn'
     simp [mfSet,hne,m.zer n' hn']
theorem MapOk.push {ro:Nat->Nat->Option Value} {k:IntKind} {z:List CV} {g:Int->Bool} {f:Int->List CV} {c:Nat} {es:Array MapEntry} {n:Int} {vs:List Value} {v:List CV} (m:MapOk ro k z g f c es)
 (hk:∀e∈es.toList,e.key≠.int k n) (hv:CRs ro v vs):g n=false/\MapOk ro k z (mgSet g n) (mfSet f n v) (c+1) (es.push { key:=.int k n,val:=.agg vs.toArray,born:=c}):=by
 have hgn:g n=false:=by
  cases hg:g n with
  | false=>rfl
  | true=>obtain ⟨e,he,hk'⟩:=m.has n hg;exact absurd hk' (hk e he)
 refine ⟨hgn,?_,?_,?_,?_,?_⟩
 · intro e' he'
   rw [Array.toList_push,List.mem_append] at he'
   rcases he' with he' | he'
   · obtain ⟨a,n',vs',b1,b2,b3,b4⟩:=m.ent e' he'
     have hne:n'≠n:=by rintro rfl;exact hk e' he' b1
     exact ⟨by omega,n',vs',b1,by simp [mgSet,hne,b2],b3,by simpa [mfSet,hne] using b4⟩
   · simp at he';subst he'
     exact ⟨by show c<c+1;omega,n,vs.toArray,rfl,by simp [mgSet],rfl,by simpa [mfSet] using hv⟩
 · intro n' hn'
   rw [Array.toList_push]
   by_cases hne:n'=n
   · subst hne
     exact ⟨_,List.mem_append.2 (.inr (by simp;rfl)),rfl⟩
   · simp [mgSet,hne] at hn'
     obtain ⟨e',he',hk'⟩:=m.has n' hn'
     exact ⟨e',List.mem_append.2 (.inl he'),hk'⟩
 · rw [Array.toList_push,List.map_append,List.nodup_append]
   refine ⟨m.keys,by simp,?_⟩
   intro a ha b hb
   simp at hb;subst hb
   obtain ⟨e,he,rfl⟩:=List.mem_map.1 ha
   exact hk e he
 · rw [Array.toList_push,List.map_append,List.nodup_append]
   refine ⟨m.borns,by simp,?_⟩
   intro a ha b hb
   simp at hb;subst hb
   obtain ⟨e,he,rfl⟩:=List.mem_map.1 ha
   have:=(m.ent e he).1
   omega
 · intro n' hn'
   by_cases hne:n'=n
   · subst hne;simp [mgSet] at hn'
   · simp [mgSet,hne] at hn'
     simp [mfSet,hne,m.zer n' hn']
theorem oUpdateM_sound {P:Program} {H H':AH} {t:TypeId} {m k x:AV} {p:Prop} {m' k' x':Value} {ρ:Rho} {w:World} (h:oUpdateM P H t m k x=some (H',p)) (hp:p) (hh:HR ρ H w) (hm:VR ρ m m') (hk:VR ρ k k') (hx:VR ρ x x') :
 GoesU P (Instr.mapUpdate t m' k' x') H' ρ H w:=by
 simp only [oUpdateM,og_some] at h
 obtain ⟨hmk,h⟩:=h
 obtain ⟨kt,et,d,hu,hku⟩:=mapKey_run hmk
 split at h
 · rename_i b A
   split at h
   · rename_i b' kk' z g f c hA
     split at h
     · rename_i kk n l
       simp only [og_some,decide_eq_true_eq,ob_some,Option.some.injEq,Prod.mk.injEq] at h
       obtain ⟨rfl,v,hv,rfl,rfl⟩:=h
       have hb1:b=true:=hp
       subst hb1
       cases hk
       cases hx with | agg _ vs hvs=>
       obtain ⟨k1,k2⟩:=ofAVs_CR hv hvs
       have hcr:=CRs.of k1 k2
       cases hm with
       | mq1 _ B N hr=>
         obtain ⟨_,es,hb,mo⟩:=hh.mpRow hA hr
         have hlt:B<w.heap.size:=by have:=hh.range _ _ hr;simpa using this
         rcases findNow_ok (d:=d) (n:=n) es.toList 0 mo.int with ⟨e,he,i,h1,h2,h3⟩ | ⟨h1,h2⟩
         · obtain ⟨hg,mo'⟩:=mo.upd h3 h1 hcr
           rw [Nat.zero_add] at h2
           obtain ⟨g1,g2⟩:=hh.upd hA hr (w':={ w with heap:=w.heap.setIfInBounds B (.map (es.modify i fun e=>{ e with key:=.int kk n,val:=.agg vs.toArray}) c)})
            (o':=.mp true kk z (mgSet g n) (mfSet f n v) (bif g n then c else c+1))
            ⟨rfl,rfl,_,by simp [Array.getElem?_setIfInBounds,hlt,hg];rfl,by rw [hg];exact mo'⟩
            (fun C hC=>by simp at hC;simp [Array.getElem?_setIfInBounds,Ne.symm hC]) (by simp) rfl rfl rfl
           refine ⟨ρ,_,?_,g1,g2⟩
           have hkey:((es[i]?).map (·.key)).getD (.int kk n)=.int kk n:=by
            have:es[i]? =some e:=by simpa using h3
            rw [this];exact h1
           simp only [Instr.mapUpdate,Sem.run_bind,run_underlying' hu,Result.andThen_ok,run_getMap hb,run_checkKeyI' hku,run_findKeyI hku h2,hkey,keyStays,run_setMap hb]
         · obtain ⟨hg,mo'⟩:=mo.push h1 hcr
           obtain ⟨g1,g2⟩:=hh.upd hA hr (w':={ w with heap:=w.heap.setIfInBounds B (.map (es.push { key:=.int kk n,val:=.agg vs.toArray,born:=c}) (c+1))})
            (o':=.mp true kk z (mgSet g n) (mfSet f n v) (bif g n then c else c+1))
            ⟨rfl,rfl,_,by simp [Array.getElem?_setIfInBounds,hlt,hg];rfl,by rw [hg];exact mo'⟩
            (fun C hC=>by simp at hC;simp [Array.getElem?_setIfInBounds,Ne.symm hC]) (by simp) rfl rfl rfl
           refine ⟨ρ,_,?_,g1,g2⟩
           simp only [Instr.mapUpdate,Sem.run_bind,run_underlying' hu,Result.andThen_ok,run_getMap hb,run_checkKeyI' hku,run_findKeyI hku h2,run_setMap hb]
     · simp at h
   · simp at h
 · simp at h
noncomputable def cntI (g:Int->Bool):Nat:=
 open Classical in if h:∃l:List Int,l.Nodup/\∀n,n∈l↔g n=true then (Classical.choose h).length else 0
theorem cntI_eq {g:Int->Bool} {l:List Int} (hn:l.Nodup) (hl:∀n,n∈l↔g n=true):cntI g=l.length:=by
 have h:∃l:List Int,l.Nodup/\∀n,n∈l↔g n=true:=⟨l,hn,hl⟩
 unfold cntI
 rw [dif_pos h]
 obtain ⟨c1,c2⟩:=Classical.choose_spec h
 exact ((List.perm_ext_iff_of_nodup c1 hn).2 fun a=>by rw [c2,hl]).length_eq
def keyZ:Value->Int
 | .int _ n=>n
 | _=>0
theorem MapOk.count {ro:Nat->Nat->Option Value} {k:IntKind} {z:List CV} {g:Int->Bool} {f:Int->List CV} {c:Nat} {es:Array MapEntry} (m:MapOk ro k z g f c es):cntI g=es.size:=by
 have h1:(es.toList.map fun e=>keyZ e.key).Nodup:=by
  have hk:=m.keys
  unfold List.Nodup at hk⊢
  rw [List.pairwise_map] at hk⊢
  refine hk.imp_of_mem ?_
  intro a b ha hb hne
  obtain ⟨x,hx⟩:=m.int a ha
  obtain ⟨y,hy⟩:=m.int b hb
  rw [hx,hy] at hne⊢
  intro e
  exact hne (by rw [show x=y from e])
 rw [cntI_eq h1]
 · simp
 · intro n
   constructor
   · intro hn
     obtain ⟨e,he,rfl⟩:=List.mem_map.1 hn
     obtain ⟨_,n',_,b1,b2,_⟩:=m.ent e he
     rw [b1];exact b2
   · intro hn
     obtain ⟨e,he,hk⟩:=m.has n hn
     exact List.mem_map.2 ⟨e,he,by rw [hk];rfl⟩
noncomputable def oLenM (P:Program) (H:AH) (t:TypeId) (x:AV):Option (AV×Prop):=
 match P.underlying t,x with
 | some (.map _ _),.mq b A=>match H.get A with
   | some (.mp b' _ _ g _ _)=>some (.i .i64 (.ofNat (cntI g)),b=b')
   | _=>none
 | _,_=>none
theorem oLenM_sound {P:Program} {H:AH} {t:TypeId} {x r:AV} {p:Prop} {x':Value} {ats:Array TypeId} {ty:TypeId} {ρ:Rho} {w:World} (h:oLenM P H t x=some (r,p)) (hp:p) (hh:HR ρ H w)
 (h0:ats[0]? =some t) (hx:VR ρ x x'):GoesV P (Builtin.len_ ats ty #[x']) r H ρ H w:=by
 unfold oLenM at h
 split at h
 · rename_i k e b A hu
   split at h
   · rename_i b' kk z g f c hA
     simp only [Option.some.injEq,Prod.mk.injEq] at h;obtain ⟨rfl,rfl⟩:=h
     have hbb:b=b':=hp
     subst hbb
     refine GoesV.pure hh (.i _ _) ?_
     cases hx with
     | mq1 _ B N hr=>
       obtain ⟨_,es,hb,mo⟩:=hh.mpRow hA hr
       rw [mo.count]
       simp [Builtin.len_,h0,run_underlying' hu,goInt,run_getMap hb]
     | mq0=>
       have hg:=hh.mpNil hA
       have:cntI g=0:=cntI_eq (l:=[]) (by simp) (fun n=>by simp [(hg n).1])
       rw [this]
       simp [Builtin.len_,h0,run_underlying' hu,goInt]
   · simp at h
 · simp at h
noncomputable def oMakeMapM (H:AH) (v:AV):Option (AV×AH):=
 match v with
 | .i _ _=>some (.mq true H.next,H.new (.map [] 0))
 | _=>none
theorem oMakeMapM_sound {P:Program} {H H':AH} {t:TypeId} {v r:AV} {v':Value} {ρ:Rho} {w:World} (h:oMakeMapM H v=some (r,H')) (hk:mapKey P t=true) (hh:HR ρ H w) (hf:ρ H.next=none) (hv:VR ρ v v') :
 GoesV P (Instr.makeMap t (some v')) r H' ρ H w:=by
 unfold oMakeMapM at h
 obtain ⟨kt,et,d,hu,hku⟩:=mapKey_run hk
 split at h
 · simp at h;obtain ⟨rfl,rfl⟩:=h
   cases hv
   obtain ⟨g1,g2⟩:=hh.new (o':=.map [] 0) (N:=0) (w':={ w with heap:=w.heap.push (.map #[] 0)}) hf
    ⟨#[],by simp,rfl,rfl,fun i k v n hi=>by simp at hi⟩
    (fun B hB=>by simp [Array.getElem?_push,Nat.ne_of_lt hB]) (by simp) rfl rfl rfl
   refine ⟨.map (some w.heap.size),_,_,?_,.mq1 _ _ 0 (Rho.add_same _ _ _),g1,g2⟩
   simp [Instr.makeMap,newObj,Sem.run,run_underlying' hu,asInt,asIntOf]
 · simp at h
end Go.Sim
/- All operations, over values that may not be known. -/
namespace Go.Sim
open Go
abbrev ORP:=Option (OR×Option Prop)
def Holds:Option Prop->Prop
 | none=>True
 | some p=>p
inductive XO2 where
 | one (r:ORP)
 | two (c s:ORP)
noncomputable def lv (H:AH):Option AV->ORP
 | some v=>some (.val v H,none)
 | none=>none
noncomputable def lvp (H:AH):Option (AV×Prop)->ORP
 | some (v,p)=>some (.val v H,some p)
 | none=>none
noncomputable def lvh:Option (AV×AH)->ORP
 | some (v,H)=>some (.val v H,none)
 | none=>none
noncomputable def lvhp:Option (AV×AH×Prop)->ORP
 | some (v,H,p)=>some (.val v H,some p)
 | none=>none
noncomputable def lor:Option OR->ORP
 | some r=>some (r,none)
 | none=>none
noncomputable def luh:Option AH->ORP
 | some H=>some (.val undefV H,none)
 | none=>none
noncomputable def luhp:Option (AH×Prop)->ORP
 | some (H,p)=>some (.val undefV H,some p)
 | none=>none
noncomputable def ob2 {α:Type}:Option α->(α->XO2)->XO2
 | none,_=>.one none
 | some a,f=>f a
noncomputable def plainP:AV->Bool
 | .p _ _=>true
 | .p0=>true
 | _=>false
noncomputable def rowsP:AV->Bool
 | .sv ..=>true
 | .lr ..=>true
 | _=>false
noncomputable def strP:AV->Bool
 | .s _=>true
 | _=>false
noncomputable def intP:AV->Bool
 | .i _ _=>true
 | _=>false
noncomputable def xAppend (P:Program) (H:AH) (t u:TypeId) (x y:AV):ORP:=
 match rowsP x || (rowsP y || (strP y || intP y)) with
 | true=>lvhp (oAppendS P H t u x y)
 | false=>lvh (oAppend P H t u x y)
noncomputable def copyF (i n:Nat) (g f:Nat->Nat->CV):Nat->Nat->CV:=fun a b=>zipCV (Nat.ble i a && Nat.blt a (i+n)) (g (a-i) b) (f a b)
noncomputable def oCopyS (P:Program) (H:AH) (t:TypeId) (x y:AV):Option (AV×AH×Prop):=
 match P.underlying t with
 | some (.slice e)=>ob (infoSize P e) fun sz=>og (Nat.blt 0 sz) (match x with
   | .lr A s i len _=>og (Nat.beq s sz) (match H.get A with
     | some (.rows e' s' m f)=>og (Nat.beq s s') (ob (srcS H sz [] false y) fun q=>some (.i .i64 (.ofNat q.2.1),H.upd A (some (.rows e' s m (copyF i q.2.1 q.1 f))),q.2.2/\0<len/\0<m/\q.2.1<=len/\i+len<=m))
     | _=>none)
   | _=>none)
 | _=>none
theorem oCopyS_sound {P:Program} {H H':AH} {t:TypeId} {x y r:AV} {p:Prop} {x' y':Value} {ats:Array TypeId} {ty:TypeId} {ρ:Rho} {w:World} (h:oCopyS P H t x y=some (r,H',p)) (hp:p) (hh:HR ρ H w)
 (h0:ats[0]? =some t) (hx:VR ρ x x') (hy:VR ρ y y'):GoesV P (Builtin.copy_ ats ty #[x',y']) r H' ρ H w:=by
 unfold oCopyS at h
 split at h
 · rename_i e hu
   simp only [ob_some,og_some] at h
   obtain ⟨sz,hsz,hz,h⟩:=h
   have hz':0<sz:=by simpa [Nat.blt_eq] using hz
   split at h
   · rename_i A s i len ex
     simp only [og_some] at h
     obtain ⟨hs,h⟩:=h
     have hs':=Nat.eq_of_beq_eq_true hs
     subst hs'
     split at h
     · rename_i e' s' m f hA
       simp only [og_some,ob_some,Option.some.injEq,Prod.mk.injEq] at h
       obtain ⟨h1,⟨g,n,q⟩,hq,rfl,rfl,rfl⟩:=h
       have h1':=Nat.eq_of_beq_eq_true h1
       subst h1'
       obtain ⟨p1,p2,p3,p4,p5⟩:=hp
       simp only at p1 p2 p3 p4 p5
       obtain ⟨a1,vs,a2,a3,a4,a5⟩:=srcS_run (P:=P) hq p1 hz' hh hy
       cases hx with
       | lr0=>omega
       | lr _ _ _ _ _ B d N cap' hr b1 b2 b3=>
       obtain ⟨c,fr,k1,k2,k3,k4,k5⟩:=hh.rows hA hr p3
       have hB:=hh.range _ _ hr
       simp at hB
       have hrow:i*s+n*s<=m*s:=by
        rw [<-Nat.add_mul]
        exact Nat.mul_le_mul_right _ (by omega)
       have hrun:=run_storeCells (P:=P) vs 0 c w (o:=d+i*s) k1 k2 (by omega) a4
       have hmin:Nat.min n len=n:=Nat.min_eq_left p4
       refine ⟨.int .i64 (Int.ofNat n),ρ,_,?_,.i _ _,(hh.upd (o':=.rows e' s m (copyF i n g f)) (w':=World.putRow w B (.cells (setL c (d+i*s+0) vs) e' fr)) hA hr ?_ ?_ (by simp [World.putRow]) rfl rfl rfl)⟩
       · simp only [Builtin.copy_,h0,List.getElem?_toArray,List.getElem?_cons_zero,List.getElem?_cons_succ,Sem.run_bind,run_underlying' hu,Result.andThen_ok,a1,run_sizeOf' hsz,hmin,a2,hrun]
         simp [goInt]
       · refine ⟨setL c (d+i*s+0) vs,fr,by rw [putRow_get hB];simp,by simpa [setL_size] using k2,by simpa [setL_size] using k3,by simpa [setL_size] using k4,?_⟩
         intro a b ha hb
         show ∃v',(setL c (d+i*s+0) vs)[d+a*s+b]? =some v'/\CR ρ.ro (copyF i n g f a b) v'
         rw [setL_get _ c _ _ (by omega)]
         obtain ⟨v0,v1,v2⟩:=k5 a b ha hb
         have r1:∀{u v:Nat},u<v->u*s+s<=v*s:=fun {u v} h=>by
          have:(u+1)*s<=v*s:=Nat.mul_le_mul_right _ h
          rw [Nat.add_mul] at this;omega
         by_cases hin:i<=a/\a<i+n
         · have hq1:(a-i)*s+i*s=a*s:=by rw [<-Nat.add_mul];congr 1;omega
           have hq2:=r1 (u:=a-i) (v:=n) (by omega)
           rw [if_pos (by omega)]
           obtain ⟨v,w1,w2⟩:=a5 (a-i) b (by omega) hb
           refine ⟨v,by rw [<-w1];congr 1;omega,zipCV_CR _ _ _ _ ?_⟩
           have hb':(Nat.ble i a && Nat.blt a (i+n))=true:=by
            rw [Bool.and_eq_true,Nat.ble_eq,Nat.blt_eq];exact hin
           rw [hb'];exact w2
         · have hfar:a*s+s<=i*s\/i*s+n*s<=a*s:=by
            rcases Nat.lt_or_ge a i with q | q
            · exact .inl (r1 q)
            · refine .inr ?_
              rw [<-Nat.add_mul]
              exact Nat.mul_le_mul_right _ (by omega)
           rw [if_neg (by omega)]
           refine ⟨v0,v1,zipCV_CR _ _ _ _ ?_⟩
           have hb':(Nat.ble i a && Nat.blt a (i+n))=false:=by
            rw [Bool.eq_false_iff,ne_eq,Bool.and_eq_true,Nat.ble_eq,Nat.blt_eq];exact hin
           rw [hb'];exact v2
       · intro C hC
         rw [putRow_get hB,if_neg hC]
     · simp at h
   · simp at h
 · simp at h
noncomputable def rowDst:AV->Bool
 | .lr _ _ _ _ _=>true
 | _=>false
noncomputable def xCopy (P:Program) (H:AH) (t:TypeId) (x y:AV):ORP:=
 match rowDst x with
 | true=>lvhp (oCopyS P H t x y)
 | false=>lvh (oCopy P H t x y)
noncomputable def xCall (P:Program) (tm:T AV) (H:AH) (c:Call):ORP:=
 match c.callee with
 | .builtin .append=>ob (evalOs tm c.args.toList) fun args=>match c.argTypes[0]?,c.argTypes[1]?,args with
   | some t,some u,[x,y]=>xAppend P H t u x y
   | _,_,_=>none
 | .builtin .copy=>ob (evalOs tm c.args.toList) fun args=>match c.argTypes[0]?,args with
   | some t,[x,y]=>xCopy P H t x y
   | _,_=>none
 | .builtin .len=>ob (evalOs tm c.args.toList) fun args=>match c.argTypes[0]?,args with
   | some t,[x]=>match isMq x with
     | true=>lvp H (oLenM P H t x)
     | false=>lor (oCall P tm H c)
   | _,_=>none
 | _=>lor (oCall P tm H c)
noncomputable def oAppendF (P:Program) (H:AH) (t u:TypeId) (x y:AV):Option (AV×AH×Prop):=
 ob (oAppendS P H t u x y) fun p=>ob (frzOf p.2.1 H.next) fun z=>some (frz H.next z p.1,p.2.1.upd H.next none,frzP H.next z p.1/\p.2.2)
noncomputable def xCallF (P:Program) (tm:T AV) (H:AH) (c:Call):ORP:=
 match c.callee with
 | .builtin .append=>ob (evalOs tm c.args.toList) fun args=>match c.argTypes[0]?,c.argTypes[1]?,args with
   | some t,some u,[x,y]=>lvhp (oAppendF P H t u x y)
   | _,_,_=>none
 | _=>none
noncomputable def oMakeSliceF (P:Program) (H:AH) (t:TypeId) (l c:AV):Option (AV×AH×Prop):=
 ob (oMakeSliceS P H t l c) fun p=>ob (frzOf p.2.1 H.next) fun z=>some (frz H.next z p.1,p.2.1.upd H.next none,frzP H.next z p.1/\p.2.2)
theorem oMakeSliceF_sound {P:Program} {H H':AH} {t:TypeId} {l c r:AV} {p:Prop} {l' c':Value} {ρ:Rho} {w:World} (h:oMakeSliceF P H t l c=some (r,H',p)) (hp:p) (hh:HR ρ H w) (hf:Fresh ρ H H'.next)
 (hl:VR ρ l l') (hc:VR ρ c c'):GoesV P (Instr.makeSlice t l' c') r H' ρ H w:=by
 simp only [oMakeSliceF,ob_some,Option.some.injEq,Prod.mk.injEq] at h
 obtain ⟨⟨r1,H1,q⟩,ha,z,hz,rfl,rfl,rfl⟩:=h
 obtain ⟨hp1,hp2⟩:=hp
 obtain ⟨v,ρ1,w1,k1,k2,k3,k4⟩:=oMakeSliceS_sound ha hp2 hh hf hl hc
 obtain ⟨ρ2,e1,e2,e3,e4,e5⟩:=freeze_ok hz k3 k4
 exact ⟨v,ρ2,w1,k1,frz_VR e2 e3 hp1 k2,e4,e5⟩
noncomputable def xopF (P:Program) (tm:T AV) (H:AH) (o:Op):ORP:=
 match o with
 | .makeSlice t l c=>ob (evalO tm l) fun v=>ob (evalO tm c) fun u=>lvhp (oMakeSliceF P H t v u)
 | _=>none
noncomputable def twoApp (tm:T AV) (c:Call):Bool:=
 match c.callee with
 | .builtin .append=>match evalOs tm c.args.toList with
   | some (.l _ _ len _ _ _ :: .sv _ _ _ :: _)=>Nat.beq len 0
   | _=>false
 | _=>false
noncomputable def isSliceT (P:Program) (t:TypeId):Bool:=
 match P.underlying t with
 | some (.slice _)=>true
 | _=>false
noncomputable def isL:AV->Bool
 | .l ..=>true
 | .l0=>true
 | .lz=>true
 | _=>false
noncomputable def xConvert (P:Program) (H:AH) (s d:TypeId) (v:AV):XO2:=
 match strP v with
 | true=>match isSliceT P d with
   | true=>.two (lvh (oConvert P H s d v)) (lvhp (oConvertS P H s d v))
   | false=>.one (lvh (oConvert P H s d v))
 | false=>match isL v with
   | true=>.one (lvh (oConvert P H s d v))
   | false=>.one (lvhp (oConvertS P H s d v))
noncomputable def isAgg:AV->Bool
 | .agg _=>true
 | _=>false
noncomputable def isCmp:BinOp->Bool
 | .eql=>true
 | .neq=>true
 | .lss=>true
 | .leq=>true
 | .gtr=>true
 | .geq=>true
 | _=>false
noncomputable def isNum:AV->Bool
 | .i _ _=>true
 | .s _=>true
 | _=>false
noncomputable def bigAgg:AV->Bool
 | .agg l=>Nat.ble 64 l.length
 | _=>false
noncomputable def oBoxF (H:AH) (t:TypeId) (v:AV):Option (AV×AH):=
 ob (oBox H t v) fun p=>ob (frzOf p.2 H.next) fun z=>match z with
 | .cells size cvs=>some (.pv size fun j=>cvs.getD j .p0,p.2.upd H.next none)
 | .rows _ _ _=>none
theorem oBoxF_sound {P:Program} {H H':AH} {t:TypeId} {v r:AV} {ρ:Rho} {w:World} {v':Value} (h:oBoxF H t v=some (r,H')) (hh:HR ρ H w) (hf:Fresh ρ H H'.next) (hv:VR ρ v v') :
 GoesV P (Instr.box t v') r H' ρ H w:=by
 simp only [oBoxF,ob_some] at h
 obtain ⟨⟨r1,H1⟩,hb,z,hz,h⟩:=h
 split at h
 · rename_i size cvs
   simp only [Option.some.injEq,Prod.mk.injEq] at h
   obtain ⟨rfl,rfl⟩:=h
   obtain ⟨u,ρ1,w1,k1,k2,k3,k4⟩:=oBox_sound (P:=P) hb hh hf hv
   have hr1:r1=.p H.next 0:=by
    simp only [oBox,og_some] at hb
    obtain ⟨_,e⟩:=hb
    simp at e;exact e.1.symm
   subst hr1
   obtain ⟨ρ2,e1,e2,e3,e4,e5⟩:=freeze_ok hz k3 k4
   cases k2 with | p _ _ B d N hr=>
   obtain ⟨q1,q2⟩:=e3 B d N hr
   refine ⟨_,ρ2,w1,k1,?_,e4,e5⟩
   refine .pv size _ B (d+0) (fun j=>(ρ2.ro B (d+j)).getD undef) ?_ ?_
   · intro j hj
     obtain ⟨x,x1,_⟩:=q2 j hj
     rw [Nat.add_zero,x1];rfl
   · intro j hj
     obtain ⟨x,x1,x2⟩:=q2 j hj
     rw [x1];exact x2
 · simp at h
noncomputable def oArrAtS (P:Program) (t:TypeId) (x:AV):Option (AV×Prop):=
 match P.underlying t with
 | some (.array k _)=>match x with
   | .sv sz n f=>og (Nat.beq sz 1) (some (.pv k (fun j=>f j 0),k<=n/\0<n))
   | .lr A sz i len _=>some (.pr A sz i 0,k<=len/\0<len)
   | _=>none
 | _=>none
theorem oArrAtS_sound {P:Program} {H:AH} {t:TypeId} {x r:AV} {p:Prop} {x':Value} {ρ:Rho} {w:World} (h:oArrAtS P t x=some (r,p)) (hp:p) (hh:HR ρ H w) (hx:VR ρ x x'):GoesV P (Instr.arrayAt t x') r H ρ H w:=by
 unfold oArrAtS at h
 split at h
 · rename_i k e hu
   split at h
   · rename_i sz n f
     simp only [og_some,Option.some.injEq,Prod.mk.injEq] at h
     obtain ⟨h1,rfl,rfl⟩:=h
     have h1':=Nat.eq_of_beq_eq_true h1
     subst h1'
     obtain ⟨p1,p2⟩:k<=n/\0<n:=hp
     cases hx with | sv _ _ _ _ hc=>
     cases hc with
     | sv0=>omega
     | svz=>omega
     | sv _ _ _ B o cap g a1 a2 a3=>
       refine GoesV.pure hh (.pv k _ B o (fun j=>g j 0) (fun j hj=>by rw [<-a2 j 0 (by omega) (by omega)];congr 1;omega) (fun j hj=>a3 j 0 (by omega) (by omega))) ?_
       simp only [Instr.arrayAt,Sem.run_bind,run_underlying' hu,Result.andThen_ok]
       rw [if_neg (by omega)]
       rfl
   · rename_i A sz i len ex
     simp only [Option.some.injEq,Prod.mk.injEq] at h
     obtain ⟨rfl,rfl⟩:=h
     obtain ⟨p1,p2⟩:k<=len/\0<len:=hp
     cases hx with
     | lr _ _ _ _ _ B d N cap' hr=>
       refine GoesV.pure hh (.pr A sz i 0 B d N hr) ?_
       simp only [Instr.arrayAt,Sem.run_bind,run_underlying' hu,Result.andThen_ok]
       rw [if_neg (by omega)]
       rfl
     | lr0=>omega
   · simp at h
 · simp at h
noncomputable def segAt (H:AH) (v:AV):Bool:=
 match v with
 | .p A _=>match H.get A with
   | some (.segs _ _ _ _)=>true
   | _=>false
 | .ps A _ _ _ _=>match H.get A with
   | some (.segs _ _ _ _)=>true
   | _=>false
 | _=>false
noncomputable def plainQ (H:AH) (v:AV):Bool:=
 match plainP v with
 | true=>match segAt H v with
   | true=>false
   | false=>true
 | false=>false
noncomputable def xop2 (P:Program) (tm:T AV) (H:AH) (o:Op):XO2:=
 match o with
 | .pick c x y=>.two (lor (oPick tm H c x y)) (ob (evalO tm c) fun v=>match v with
   | .b b=>ob (evalO tm x) fun vx=>ob (evalO tm y) fun vy=>lv H (zipAV b vx vy)
   | _=>none)
 | .load t x=>.one (ob (evalO tm x) fun v=>match plainQ H v with
   | true=>lv H (oLoad P H t v)
   | false=>lvp H (oLoadS P H t v))
 | .store t x y=>.one (ob (evalO tm x) fun v=>ob (evalO tm y) fun u=>match plainQ H v with
   | true=>luh (oStore P H t v u)
   | false=>match segAt H v with
     | true=>luhp (oStoreG P H t v u)
     | false=>luhp (oStoreS P H t v u))
 | .binOp op t x y _=>.one (ob (evalO tm x) fun v=>ob (evalO tm y) fun u=>match isCmp op && isNum v with
   | true=>lv H (oBin P op t x y v u)
   | false=>lvp H (oBinS P op t x y v u))
 | .unOp op _ x=>.one (ob (evalO tm x) fun v=>lvp H (oUnS op v))
 | .convert s d x=>ob2 (evalO tm x) fun v=>xConvert P H s d v
 | .makeSlice t l c=>.two (lor (oMakeSliceX P tm H t l c)) (ob (evalO tm l) fun v=>ob (evalO tm c) fun u=>lvhp (oMakeSliceS P H t v u))
 | .slice t x lo hi mx=>.one (ob (evalO tm x) fun v=>match rowsP v || strP v with
   | true=>match mx with
     | none=>ob (optE tm lo) fun l=>ob (optE tm hi) fun h=>lvp H (oSliceS P t v l h)
     | some _=>none
   | false=>lor (oSliceX P tm H t x lo hi mx))
 | .fieldAddr t x f=>.one (ob (evalO tm x) fun v=>lvp H (oFieldAddrS P t v f))
 | .indexAddr t x i=>ob2 (evalO tm x) fun v=>match rowsP v with
   | true=>.one (ob (evalO tm i) fun u=>lvp H (oIndexAddrS P t v u))
   | false=>.two (ob (evalO tm i) fun u=>lv H (oIndexAddr P t v u)) (ob (evalO tm i) fun u=>lvp H (oIndexAddrS P t v u))
 | .index t x i=>ob2 (evalO tm x) fun v=>match isAgg v with
   | false=>.one (ob (evalO tm i) fun u=>lvp H (oIndexS P t v u))
   | true=>.two (ob (evalO tm i) fun u=>lv H (oIndex P t v u)) (ob (evalO tm i) fun u=>lvp H (oIndexS P t v u))
 | .call c=>match twoApp tm c with
   | false=>.one (xCall P tm H c)
   | true=>.two (xCall P tm H c) (xCallF P tm H c)
 | .sliceToArrayPointer t x=>.one (ob (evalO tm x) fun v=>match rowsP v with
   | true=>lvp H (oArrAtS P t v)
   | false=>lor (oArrAtX P tm H t x))
 | .box t x=>ob2 (evalO tm x) fun v=>match bigAgg v with
   | false=>.one (lor (oBoxX tm H t x))
   | true=>.two (lor (oBoxX tm H t x)) (lvh (oBoxF H t v))
 | .nilCheck x=>.one (ob (evalO tm x) fun v=>match v with
   | .opv b sz f=>lvp H (some (.pv sz f,b=true))
   | .pv sz f=>lv H (some (.pv sz f))
   | _=>lor (oNil tm H x))
 | .lookup t m k ok=>.one (ob (evalO tm m) fun a=>ob (evalO tm k) fun b=>match isMq a with
   | true=>lvp H (oLookupM P H t a b ok)
   | false=>lor (oLookupX P tm H t m k ok))
 | .mapUpdate t m k x=>.one (ob (evalO tm m) fun a=>ob (evalO tm k) fun b=>ob (evalO tm x) fun c=>match isMq a with
   | true=>luhp (oUpdateM P H t a b c)
   | false=>lor (oInsertX P tm H t m k x))
 | .makeMap t (some x)=>.one (ob (evalO tm x) fun v=>match mapKey P t with
   | true=>lvh (oMakeMapM H v)
   | false=>none)
 | o=>.one (lor (xop P tm H o))
noncomputable def XO2.pick (x:XO2):Bool->ORP
 | false=>match x with
   | .one r=>r
   | .two c _=>c
 | true=>match x with
   | .one r=>r
   | .two _ s=>s
theorem lv_some {H:AH} {x:Option AV} {r:OR} {p:Option Prop}:lv H x=some (r,p)↔∃v,x=some v/\r=.val v H/\p=none:=by
 cases x<;>simp [lv,eq_comm]
theorem lvp_some {H:AH} {x:Option (AV×Prop)} {r:OR} {p:Option Prop}:lvp H x=some (r,p)↔∃v q,x=some (v,q)/\r=.val v H/\p=some q:=by
 cases x with
 | none=>simp [lvp]
 | some y=>
   obtain ⟨v,q⟩:=y
   simp only [lvp,Option.some.injEq,Prod.mk.injEq]
   constructor
   · rintro ⟨rfl,rfl⟩;exact ⟨v,q,⟨rfl,rfl⟩,rfl,rfl⟩
   · rintro ⟨v',q',⟨rfl,rfl⟩,rfl,rfl⟩;exact ⟨rfl,rfl⟩
theorem lvh_some {x:Option (AV×AH)} {r:OR} {p:Option Prop}:lvh x=some (r,p)↔∃v H,x=some (v,H)/\r=.val v H/\p=none:=by
 cases x with
 | none=>simp [lvh]
 | some y=>
   obtain ⟨v,q⟩:=y
   simp only [lvh,Option.some.injEq,Prod.mk.injEq]
   constructor
   · rintro ⟨rfl,rfl⟩;exact ⟨v,q,⟨rfl,rfl⟩,rfl,rfl⟩
   · rintro ⟨v',q',⟨rfl,rfl⟩,rfl,rfl⟩;exact ⟨rfl,rfl⟩
theorem lvhp_some {x:Option (AV×AH×Prop)} {r:OR} {p:Option Prop}:lvhp x=some (r,p)↔∃v H q,x=some (v,H,q)/\r=.val v H/\p=some q:=by
 cases x with
 | none=>simp [lvhp]
 | some y=>
   obtain ⟨v,H,q⟩:=y
   simp only [lvhp,Option.some.injEq,Prod.mk.injEq]
   constructor
   · rintro ⟨rfl,rfl⟩;exact ⟨v,H,q,⟨rfl,rfl,rfl⟩,rfl,rfl⟩
   · rintro ⟨v',H',q',⟨rfl,rfl,rfl⟩,rfl,rfl⟩;exact ⟨rfl,rfl⟩
theorem lor_some {x:Option OR} {r:OR} {p:Option Prop}:lor x=some (r,p)↔x=some r/\p=none:=by
 cases x<;>simp [lor,eq_comm]
theorem luh_some {x:Option AH} {r:OR} {p:Option Prop}:luh x=some (r,p)↔∃H,x=some H/\r=.val undefV H/\p=none:=by
 cases x<;>simp [luh,eq_comm]
theorem luhp_some {x:Option (AH×Prop)} {r:OR} {p:Option Prop}:luhp x=some (r,p)↔∃H q,x=some (H,q)/\r=.val undefV H/\p=some q:=by
 cases x with
 | none=>simp [luhp]
 | some y=>
   obtain ⟨v,q⟩:=y
   simp only [luhp,Option.some.injEq,Prod.mk.injEq]
   constructor
   · rintro ⟨rfl,rfl⟩;exact ⟨v,q,⟨rfl,rfl⟩,rfl,rfl⟩
   · rintro ⟨v',q',⟨rfl,rfl⟩,rfl,rfl⟩;exact ⟨rfl,rfl⟩
theorem ob2_pick {α:Type} {x:Option α} {f:α->XO2} {b:Bool} {r:OR×Option Prop}:(ob2 x f).pick b=some r↔∃a,x=some a/\(f a).pick b=some r:=by
 cases x with
 | none=>cases b<;>simp [ob2,XO2.pick]
 | some a=>simp [ob2]
theorem xAppend_sound {P:Program} {H:AH} {t u:TypeId} {x y:AV} {r:OR} {p:Option Prop} {x' y':Value} {ats:Array TypeId} {ty:TypeId} {ρ:Rho} {w:World} (h:xAppend P H t u x y=some (r,p)) (hp:Holds p) (hh:HR ρ H w) (hf:Fresh ρ H (r.next H))
 (h0:ats[0]? =some t) (h1:ats[1]? =some u) (hx:VR ρ x x') (hy:VR ρ y y'):Goes P (Builtin.append_ ats ty #[x',y'] >>= fun v=>Pure.pure (Next.value v)) ρ H w r:=by
 unfold xAppend at h
 split at h
 · rw [lvhp_some] at h
   obtain ⟨v,H',q,h,rfl,rfl⟩:=h
   exact (oAppendS_sound h hp hh hf h0 h1 hx hy).goes
 · rw [lvh_some] at h
   obtain ⟨v,H',h,rfl,rfl⟩:=h
   exact (oAppend_sound h hh hf h0 h1 hx hy).goes
theorem xCall_sound {P:Program} {H:AH} {tm:T AV} {n:Nat} {a:Act} {c:Call} {ty:TypeId} {r:OR} {p:Option Prop} {ρ:Rho} {w:World} (ht:TR ρ tm n a.tmps) (h:xCall P tm H c=some (r,p)) (hp:Holds p)
 (hh:HR ρ H w) (hf:Fresh ρ H (r.next H)):Goes P (do let d <-resolve a.eval c ty;invoke d.target d.args) ρ H w r:=by
 unfold xCall at h
 split at h
 · rename_i hcal
   simp only [ob_some] at h
   obtain ⟨args,hargs,h⟩:=h
   have ha':=evalOs_VR ht hargs
   split at h
   · rename_i t u x y h0 h1
     obtain ⟨x',y',e,hx,hy⟩:=ha'.two
     have hh2:=xAppend_sound (ty:=ty) h hp hh hf h0 h1 hx hy
     have hr:(do let d <-resolve a.eval c ty;invoke d.target d.args)=builtin .append c.argTypes ty (c.args.map fun | .const _=>true | _=>false) (c.args.map a.eval):=by
      simp only [resolve,hcal];rfl
     have he:c.args.map a.eval=#[x',y']:=by
      apply Array.ext'
      simpa using e
     rw [hr,he]
     exact hh2
   · simp at h
 · rename_i hcal
   simp only [ob_some] at h
   obtain ⟨args,hargs,h⟩:=h
   have ha':=evalOs_VR ht hargs
   split at h
   · rename_i t x y h0
     obtain ⟨x',y',e,hx,hy⟩:=ha'.two
     have hh2:Goes P (Builtin.copy_ c.argTypes ty #[x',y'] >>= fun v=>Pure.pure (Next.value v)) ρ H w r:=by
      unfold xCopy at h
      split at h
      · rw [lvhp_some] at h
        obtain ⟨v,H',q,h,rfl,rfl⟩:=h
        exact (oCopyS_sound h hp hh h0 hx hy).goes
      · rw [lvh_some] at h
        obtain ⟨v,H',h,rfl,rfl⟩:=h
        exact (oCopy_sound h hh h0 hx hy).goes
     have hr:(do let d <-resolve a.eval c ty;invoke d.target d.args)=builtin .copy c.argTypes ty (c.args.map fun | .const _=>true | _=>false) (c.args.map a.eval):=by
      simp only [resolve,hcal];rfl
     have he:c.args.map a.eval=#[x',y']:=by
      apply Array.ext'
      simpa using e
     rw [hr,he]
     exact hh2
   · simp at h
 · rename_i hcal
   simp only [ob_some] at h
   obtain ⟨args,hargs,h⟩:=h
   have ha':=evalOs_VR ht hargs
   split at h
   · rename_i t x h0
     split at h
     · rw [lvp_some] at h
       obtain ⟨v,q,h,rfl,rfl⟩:=h
       obtain ⟨x',e,hx⟩:=ha'.one
       have hr:(do let d <-resolve a.eval c ty;invoke d.target d.args)=builtin .len c.argTypes ty (c.args.map fun | .const _=>true | _=>false) (c.args.map a.eval):=by
        simp only [resolve,hcal];rfl
       have he:c.args.map a.eval=#[x']:=by
        apply Array.ext'
        simpa using e
       rw [hr,he]
       exact (oLenM_sound (ty:=ty) h hp hh h0 hx).goes
     · rw [lor_some] at h
       exact oCall_sound ht h.1 hh hf
   · simp at h
 · rw [lor_some] at h
   obtain ⟨h,_⟩:=h
   exact oCall_sound ht h hh hf
theorem oAppendF_sound {P:Program} {H H':AH} {t u:TypeId} {x y r:AV} {p:Prop} {x' y':Value} {ats:Array TypeId} {ty:TypeId} {ρ:Rho} {w:World} (h:oAppendF P H t u x y=some (r,H',p)) (hp:p) (hh:HR ρ H w) (hf:Fresh ρ H H'.next)
 (h0:ats[0]? =some t) (h1:ats[1]? =some u) (hx:VR ρ x x') (hy:VR ρ y y'):GoesV P (Builtin.append_ ats ty #[x',y']) r H' ρ H w:=by
 simp only [oAppendF,ob_some,Option.some.injEq,Prod.mk.injEq] at h
 obtain ⟨⟨r1,H1,q⟩,ha,z,hz,rfl,rfl,rfl⟩:=h
 obtain ⟨hp1,hp2⟩:=hp
 obtain ⟨v,ρ1,w1,k1,k2,k3,k4⟩:=oAppendS_sound (ty:=ty) ha hp2 hh hf h0 h1 hx hy
 obtain ⟨ρ2,e1,e2,e3,e4,e5⟩:=freeze_ok hz k3 k4
 exact ⟨v,ρ2,w1,k1,frz_VR e2 e3 hp1 k2,e4,e5⟩
theorem xCallF_sound {P:Program} {H:AH} {tm:T AV} {n:Nat} {a:Act} {c:Call} {ty:TypeId} {r:OR} {p:Option Prop} {ρ:Rho} {w:World} (ht:TR ρ tm n a.tmps) (h:xCallF P tm H c=some (r,p)) (hp:Holds p)
 (hh:HR ρ H w) (hf:Fresh ρ H (r.next H)):Goes P (do let d <-resolve a.eval c ty;invoke d.target d.args) ρ H w r:=by
 unfold xCallF at h
 split at h
 · rename_i hcal
   simp only [ob_some] at h
   obtain ⟨args,hargs,h⟩:=h
   have ha':=evalOs_VR ht hargs
   split at h
   · rename_i t u x y h0 h1
     obtain ⟨x',y',e,hx,hy⟩:=ha'.two
     rw [lvhp_some] at h
     obtain ⟨v,H',q,h,rfl,rfl⟩:=h
     have hh2:=(oAppendF_sound (ty:=ty) h hp hh hf h0 h1 hx hy).goes
     have hr:(do let d <-resolve a.eval c ty;invoke d.target d.args)=builtin .append c.argTypes ty (c.args.map fun | .const _=>true | _=>false) (c.args.map a.eval):=by
      simp only [resolve,hcal];rfl
     have he:c.args.map a.eval=#[x',y']:=by
      apply Array.ext'
      simpa using e
     rw [hr,he]
     exact hh2
   · simp at h
 · simp at h
theorem xop2_sound {P:Program} {H:AH} {tm:T AV} {n:Nat} {a:Act} {o:Oper} {b:Bool} {r:OR} {p:Option Prop} {ρ:Rho} {w:World} (ht:TR ρ tm n a.tmps) (h:(xop2 P tm H o.op).pick b=some (r,p)) (hp:Holds p) (hh:HR ρ H w) (hf:Fresh ρ H (r.next H)) :
 Goes P (execOp a.eval o) ρ H w r:=by
 have base:∀r',xop P tm H o.op=some r'->r=r'->Goes P (execOp a.eval o) ρ H w r:=fun r' h' e=>by subst e;exact xop_sound ht h' hh hf
 have onep:∀{x:ORP},(XO2.one x).pick b=x:=fun {x}=>by cases b<;>rfl
 unfold xop2 at h
 split at h
 · -- pick
   rename_i c x y hop
   cases b with
   | false=>
     simp only [XO2.pick] at h
     rw [lor_some] at h
     exact base r (by rw [hop];exact h.1) rfl
   | true=>
     simp only [XO2.pick,ob_some] at h
     obtain ⟨v,hv,h⟩:=h
     split at h
     · rename_i q
       simp only [ob_some] at h
       obtain ⟨vx,hx,vy,hy,h⟩:=h
       rw [lv_some] at h
       obtain ⟨u,hu,rfl,rfl⟩:=h
       have hv':=evalO_VR ht hv
       have hx':=evalO_VR ht hx
       have hy':=evalO_VR ht hy
       have:(execOp a.eval o).run P w=.ok (.value (bif q then a.eval x else a.eval y)) w:=by
        unfold execOp
        simp only [hop]
        generalize a.eval c=cv at hv'
        cases hv'
        cases q<;>simp [asBool]
       exact Goes.value hh (zipAV_VR hu (by cases q<;>assumption)).1 this
     · simp at h
 · -- load
   rename_i t x hop
   rw [onep] at h
   simp only [ob_some] at h
   obtain ⟨v,hv,h⟩:=h
   split at h
   · rw [lv_some] at h
     obtain ⟨u,hu,rfl,rfl⟩:=h
     exact base (.val u H) (by rw [hop];simp [xop,oLoadX,hv,ob,hu,toORv]) rfl
   · rw [lvp_some] at h
     obtain ⟨u,q,hu,rfl,rfl⟩:=h
     unfold execOp;simp only [hop]
     exact (oLoadS_sound hu hp hh (evalO_VR ht hv)).goes
 · -- store
   rename_i t x y hop
   rw [onep] at h
   simp only [ob_some] at h
   obtain ⟨v,hv,u,hu,h⟩:=h
   split at h
   · rw [luh_some] at h
     obtain ⟨H',hH,rfl,rfl⟩:=h
     exact base (.val undefV H') (by rw [hop];simp [xop,oStoreX,hv,hu,ob,hH]) rfl
   · split at h
     · rw [luhp_some] at h
       obtain ⟨H',q,hH,rfl,rfl⟩:=h
       unfold execOp;simp only [hop]
       exact (oStoreG_sound hH hp hh (evalO_VR ht hv) (evalO_VR ht hu)).goes
     · rw [luhp_some] at h
       obtain ⟨H',q,hH,rfl,rfl⟩:=h
       unfold execOp;simp only [hop]
       exact (oStoreS_sound hH hp hh (evalO_VR ht hv) (evalO_VR ht hu)).goes
 · -- binOp
   rename_i op t x y _ hop
   rw [onep] at h
   simp only [ob_some] at h
   obtain ⟨v,hv,u,hu,h⟩:=h
   split at h
   · rw [lv_some] at h
     obtain ⟨q,hq,rfl,rfl⟩:=h
     unfold execOp;simp only [hop]
     exact (oBin_sound hq hh (evalO_VR ht hv) (evalO_VR ht hu)).goes
   rw [lvp_some] at h
   obtain ⟨q,pp,hq,rfl,rfl⟩:=h
   unfold execOp;simp only [hop]
   exact (oBinS_sound hq hp hh (evalO_VR ht hv) (evalO_VR ht hu)).goes
 · -- unOp
   rename_i op _ x hop
   rw [onep] at h
   simp only [ob_some] at h
   obtain ⟨v,hv,h⟩:=h
   rw [lvp_some] at h
   obtain ⟨q,pp,hq,rfl,rfl⟩:=h
   unfold execOp;simp only [hop]
   exact (oUnS_sound hq hp hh (evalO_VR ht hv)).goes
 · -- convert
   rename_i s d x hop
   rw [ob2_pick] at h
   obtain ⟨v,hv,h⟩:=h
   have cb:∀{r p},lvh (oConvert P H s d v)=some (r,p)->xop P tm H o.op=some r:=by
    intro r p h
    rw [lvh_some] at h
    obtain ⟨u,H',hu,rfl,rfl⟩:=h
    rw [hop];simp [xop,oConvertX,hv,ob,hu,toOR]
   have cs:lvhp (oConvertS P H s d v)=some (r,p)->Goes P (execOp a.eval o) ρ H w r:=by
    intro h
    rw [lvhp_some] at h
    obtain ⟨u,H',pp,hu,rfl,rfl⟩:=h
    unfold execOp;simp only [hop]
    exact (oConvertS_sound hu hp hh hf (evalO_VR ht hv)).goes
   unfold xConvert at h
   split at h
   · split at h
     · cases b with
       | false=>exact base r (cb (by simpa [XO2.pick] using h)) rfl
       | true=>exact cs (by simpa [XO2.pick] using h)
     · rw [onep] at h;exact base r (cb h) rfl
   · split at h
     · rw [onep] at h;exact base r (cb h) rfl
     · rw [onep] at h;exact cs h
 · -- makeSlice
   rename_i t l c hop
   cases b with
   | false=>
     simp only [XO2.pick] at h
     rw [lor_some] at h
     exact base r (by rw [hop];exact h.1) rfl
   | true=>
     simp only [XO2.pick,ob_some] at h
     obtain ⟨v,hv,u,hu,h⟩:=h
     rw [lvhp_some] at h
     obtain ⟨q,H',pp,hq,rfl,rfl⟩:=h
     unfold execOp;simp only [hop]
     exact (oMakeSliceS_sound hq hp hh hf (evalO_VR ht hv) (evalO_VR ht hu)).goes
 · -- slice
   rename_i t x lo hi mx hop
   rw [onep] at h
   simp only [ob_some] at h
   obtain ⟨v,hv,h⟩:=h
   split at h
   · split at h
     · simp only [ob_some] at h
       obtain ⟨l,hl,hI,hh',h⟩:=h
       rw [lvp_some] at h
       obtain ⟨q,pp,hq,rfl,rfl⟩:=h
       unfold execOp;simp only [hop]
       exact (oSliceS_sound hq hp hh (evalO_VR ht hv) (optE_VRo ht hl) (optE_VRo ht hh')).goes
     · simp at h
   · rw [lor_some] at h
     exact base r (by rw [hop];exact h.1) rfl
 · -- fieldAddr
   rename_i t x f hop
   rw [onep] at h
   simp only [ob_some] at h
   obtain ⟨v,hv,h⟩:=h
   rw [lvp_some] at h
   obtain ⟨q,pp,hq,rfl,rfl⟩:=h
   unfold execOp;simp only [hop]
   exact (oFieldAddrS_sound hq hh (evalO_VR ht hv)).goes
 · -- indexAddr
   rename_i t x i hop
   rw [ob2_pick] at h
   obtain ⟨v,hv,h⟩:=h
   have cb:(ob (evalO tm i) fun u=>lv H (oIndexAddr P t v u))=some (r,p)->Goes P (execOp a.eval o) ρ H w r:=by
    intro h
    simp only [ob_some] at h
    obtain ⟨u,hu,h⟩:=h
    rw [lv_some] at h
    obtain ⟨q,hq,rfl,rfl⟩:=h
    exact base (.val q H) (by rw [hop];simp [xop,oIndexAddrX,hv,hu,ob,hq,toORv]) rfl
   have cs:(ob (evalO tm i) fun u=>lvp H (oIndexAddrS P t v u))=some (r,p)->Goes P (execOp a.eval o) ρ H w r:=by
    intro h
    simp only [ob_some] at h
    obtain ⟨u,hu,h⟩:=h
    rw [lvp_some] at h
    obtain ⟨q,pp,hq,rfl,rfl⟩:=h
    unfold execOp;simp only [hop]
    exact (oIndexAddrS_sound hq hp hh (evalO_VR ht hv) (evalO_VR ht hu)).goes
   split at h
   · rw [onep] at h;exact cs h
   · cases b with
     | false=>exact cb (by simpa [XO2.pick] using h)
     | true=>exact cs (by simpa [XO2.pick] using h)
 · -- index
   rename_i t x i hop
   rw [ob2_pick] at h
   obtain ⟨v,hv,h⟩:=h
   have cb:(ob (evalO tm i) fun u=>lv H (oIndex P t v u))=some (r,p)->Goes P (execOp a.eval o) ρ H w r:=by
    intro h
    simp only [ob_some] at h
    obtain ⟨u,hu,h⟩:=h
    rw [lv_some] at h
    obtain ⟨q,hq,rfl,rfl⟩:=h
    exact base (.val q H) (by rw [hop];simp [xop,oIndexX,hv,hu,ob,hq,toORv]) rfl
   have cs:(ob (evalO tm i) fun u=>lvp H (oIndexS P t v u))=some (r,p)->Goes P (execOp a.eval o) ρ H w r:=by
    intro h
    simp only [ob_some] at h
    obtain ⟨u,hu,h⟩:=h
    rw [lvp_some] at h
    obtain ⟨q,pp,hq,rfl,rfl⟩:=h
    unfold execOp;simp only [hop]
    exact (oIndexS_sound hq hp hh (evalO_VR ht hv) (evalO_VR ht hu)).goes
   split at h
   · rw [onep] at h;exact cs h
   · cases b with
     | false=>exact cb (by simpa [XO2.pick] using h)
     | true=>exact cs (by simpa [XO2.pick] using h)
 · -- call
   rename_i c hop
   unfold execOp;simp only [hop]
   split at h
   · rw [onep] at h
     exact xCall_sound ht h hp hh hf
   · cases b with
     | false=>exact xCall_sound ht (by simpa [XO2.pick] using h) hp hh hf
     | true=>exact xCallF_sound ht (by simpa [XO2.pick] using h) hp hh hf
 · -- sliceToArrayPointer
   rename_i t x hop
   rw [onep] at h
   simp only [ob_some] at h
   obtain ⟨v,hv,h⟩:=h
   split at h
   · rw [lvp_some] at h
     obtain ⟨u,q,hu,rfl,rfl⟩:=h
     unfold execOp;simp only [hop]
     exact (oArrAtS_sound hu hp hh (evalO_VR ht hv)).goes
   · rw [lor_some] at h
     exact base r (by rw [hop];exact h.1) rfl
 · -- box
   rename_i t x hop
   rw [ob2_pick] at h
   obtain ⟨v,hv,h⟩:=h
   split at h
   · rw [onep,lor_some] at h
     exact base r (by rw [hop];exact h.1) rfl
   · cases b with
     | false=>
       simp only [XO2.pick] at h
       rw [lor_some] at h
       exact base r (by rw [hop];exact h.1) rfl
     | true=>
       simp only [XO2.pick] at h
       rw [lvh_some] at h
       obtain ⟨u,H',hu,rfl,rfl⟩:=h
       unfold execOp;simp only [hop]
       exact (oBoxF_sound hu hh hf (evalO_VR ht hv)).goes
 · -- nilCheck
   rename_i x hop
   rw [onep] at h
   simp only [ob_some] at h
   obtain ⟨v,hv,h⟩:=h
   have hv':=evalO_VR ht hv
   split at h
   · rw [lvp_some] at h
     obtain ⟨u,q,hu,rfl,rfl⟩:=h
     simp only [Option.some.injEq,Prod.mk.injEq] at hu
     obtain ⟨rfl,rfl⟩:=hu
     have hq:_=true:=hp
     subst hq
     unfold execOp;simp only [hop]
     generalize a.eval x=xv at hv'
     cases hv' with | opv _ _ _ _ hc=>
     cases hc with | op1 _ _ B o g a1 a2=>
     exact Goes.value hh (.pv _ _ B o g a1 a2) rfl
   · rw [lv_some] at h
     obtain ⟨u,hu,rfl,rfl⟩:=h
     simp only [Option.some.injEq] at hu
     subst hu
     unfold execOp;simp only [hop]
     generalize a.eval x=xv at hv'
     cases hv' with | pv _ _ B o g a1 a2=>
     exact Goes.value hh (.pv _ _ B o g a1 a2) rfl
   · rw [lor_some] at h
     exact base r (by rw [hop];exact h.1) rfl
 · -- lookup
   rename_i t m k ok hop
   rw [onep] at h
   simp only [ob_some] at h
   obtain ⟨u,hu,v,hv,h⟩:=h
   split at h
   · rw [lvp_some] at h
     obtain ⟨q,pp,h,rfl,rfl⟩:=h
     unfold execOp;simp only [hop]
     exact (oLookupM_sound h hp hh (evalO_VR ht hu) (evalO_VR ht hv)).goes
   · rw [lor_some] at h
     exact base r (by rw [hop];exact h.1) rfl
 · -- mapUpdate
   rename_i t m k x hop
   rw [onep] at h
   simp only [ob_some] at h
   obtain ⟨u,hu,v,hv,c,hc,h⟩:=h
   split at h
   · rw [luhp_some] at h
     obtain ⟨H',pp,h,rfl,rfl⟩:=h
     unfold execOp;simp only [hop]
     exact (oUpdateM_sound h hp hh (evalO_VR ht hu) (evalO_VR ht hv) (evalO_VR ht hc)).goes
   · rw [lor_some] at h
     exact base r (by rw [hop];exact h.1) rfl
 · -- makeMap
   rename_i t x hop
   rw [onep] at h
   simp only [ob_some] at h
   obtain ⟨v,hv,h⟩:=h
   split at h
   · rename_i hk
     rw [lvh_some] at h
     obtain ⟨q,H',h,rfl,rfl⟩:=h
     unfold execOp;simp only [hop]
     exact (oMakeMapM_sound h hk hh (by
      have h':=h
      unfold oMakeMapM at h'
      split at h'
      · simp at h';obtain ⟨_,rfl⟩:=h'
        exact hf _ (Nat.le_refl _) (Nat.lt_succ_self _)
      · simp at h') (evalO_VR ht hv)).goes
   · simp at h
 · rw [onep,lor_some] at h
   exact base r h.1 rfl
theorem xopF_sound {P:Program} {H:AH} {tm:T AV} {n:Nat} {a:Act} {o:Oper} {r:OR} {p:Option Prop} {ρ:Rho} {w:World} (ht:TR ρ tm n a.tmps) (h:xopF P tm H o.op=some (r,p)) (hp:Holds p) (hh:HR ρ H w) (hf:Fresh ρ H (r.next H)) :
 Goes P (execOp a.eval o) ρ H w r:=by
 unfold xopF at h
 split at h
 · rename_i t l c hop
   simp only [ob_some] at h
   obtain ⟨v,hv,u,hu,h⟩:=h
   rw [lvhp_some] at h
   obtain ⟨q,H',pp,hq,rfl,rfl⟩:=h
   unfold execOp;simp only [hop]
   exact (oMakeSliceF_sound hq hp hh hf (evalO_VR ht hv) (evalO_VR ht hu)).goes
 · simp at h
end Go.Sim
