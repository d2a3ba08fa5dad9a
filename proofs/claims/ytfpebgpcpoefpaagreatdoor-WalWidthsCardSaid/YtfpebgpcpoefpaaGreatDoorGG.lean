/- Runs over unknown values, told by the kernel: part GG. -/
import Derived.Test.YtfpebgpcpoefpaaGreatDoorGF
import Derived.Shelf.Strings.Builder1
import Derived.WalkKit
import Derived.BigCall
set_option linter.unusedSimpArgs false
set_option linter.unusedVariables false
set_option maxRecDepth 20000
set_option maxHeartbeats 4000000
namespace Go.Proofs.Ly
open Go Go.Sim Go.Proofs Go.Proofs.Cd Go.Proofs.St Go.Proofs.Cl Go.Proofs.YtfpebgpcpoefpaaGreatDoor
theorem app_by (a b:List Nat) (i:Nat):appZ a.length (byF (tB a)) (byF (tB b)) i 0=byF (tB (a ++ b)) i 0:=by
 rw [appZ_i (f:=byF (tB a)) (g:=byF (tB b)) (n:=a.length) (i:=i) (j:=0) (k:=.u8) (a:=Int.ofNat (tB a i)) (b:=Int.ofNat (tB b (i-a.length))) rfl rfl]
 show CV.i .u8 _=CV.i .u8 (Int.ofNat (tB (a ++ b) i))
 split
 · rw [tB_lo (by assumption)]
 · rw [tB_hi (by omega)]
noncomputable def fourL (x:Nat):List Nat:=[fourB x 0,fourB x 1,fourB x 2,fourB x 3]
theorem four_tB (x i:Nat) (hi:i<4):tB (fourL x) i=fourB x i:=by
 rcases i with _ | _ | _ | _ | i<;>first | rfl | omega
theorem four_byt (x:Nat):Byt (fourL x):=by
 intro y hy
 unfold fourL at hy
 simp only [List.mem_cons,List.not_mem_nil,or_false] at hy
 rcases hy with rfl | rfl | rfl | rfl<;>exact fourB_lt _ _
noncomputable def slL (bs:List Nat):List Nat:=bs ++ fourL (sumN (tB bs) bs.length)
theorem slL_len (bs:List Nat):(slL bs).length=bs.length+4:=by unfold slL;rw [List.length_append];rfl
theorem slL_byt {bs:List Nat} (h:Byt bs):Byt (slL bs):=h.app (four_byt _)
theorem tB_lt {bs:List Nat} (h:Byt bs) (k:Nat):tB bs k<256:=by
 unfold tB
 rw [List.getD_eq_getElem?_getD]
 rcases Nat.lt_or_ge k bs.length with q | q
 · rw [List.getElem?_eq_getElem q];exact h _ (List.getElem_mem q)
 · rw [List.getElem?_eq_none q];exact (by decide:0<256)
theorem seal_con (bs:List Nat) (h:Byt bs) (hl:bs.length<=1000000):Con Tryz.prog 56 [.sv 1 bs.length (byF (tB bs))] [] (.sv 1 (slL bs).length (byF (tB (slL bs)))) []:=by
 have q:=sl_con bs.length (tB bs) (decide_eq_true (by simp<;>omega)) (sumN (tB bs) bs.length) (fourB (sumN (tB bs) bs.length)) (by omega) (sum_con bs.length (tB bs) (by omega) (tB_lt h)) (four0_con _)
 rw [slL_len,<-addN_eq]
 refine q.post (.svW fun i j hi hj=>.of ?_) (OVL.refl _)
 obtain rfl:j=0:=by omega
 rw [addN_eq] at hi
 show appZ bs.length (byF (tB bs)) (byF (fourB (sumN (tB bs) bs.length))) i 0=CV.i .u8 (Int.ofNat (tB (slL bs) i))
 rw [appZ_i (f:=byF (tB bs)) (g:=byF (fourB (sumN (tB bs) bs.length))) (n:=bs.length) (i:=i) (j:=0) (k:=.u8) (a:=Int.ofNat (tB bs i)) (b:=Int.ofNat (fourB (sumN (tB bs) bs.length) (i-bs.length))) rfl rfl]
 unfold slL
 split
 · rw [tB_lo (by assumption)]
 · rw [tB_hi (by omega),four_tB _ _ (by omega)]
noncomputable def rcT (n:Nat) (B V:Nat->Int) (D:Nat->List Nat):List Nat:=slL (upL n B V D n)
noncomputable def encB (n:Nat) (B V:Nat->Int) (D:Nat->List Nat):Bool:=mbB n B V D && !decide ((540:Int)<Int.ofNat (rcT n B V D).length)
noncomputable def encT (n:Nat) (B V:Nat->Int) (D:Nat->List Nat):List Nat:=bif encB n B V D then rcT n B V D else []
noncomputable def encE (n:Nat) (B V:Nat->Int) (D:Nat->List Nat):Int:=bif encB n B V D then 0 else 2
theorem rcT_byt {n:Nat} {B V:Nat->Int} {D:Nat->List Nat} (h:UOk n B V D):Byt (rcT n B V D):=slL_byt (upL_byt h n (Nat.le_refl _))
theorem mb_ok {n:Nat} {B V:Nat->Int} {D:Nat->List Nat} (h:mbB n B V D=true) (hb:∀i,i<n->Byt (D i)):UOk n B V D:=by
 unfold mbB at h
 rw [Bool.and_eq_true] at h
 exact u_ok h.1 hb
theorem enc_con (n:Nat) (B V:Nat->Int) (D:Nat->List Nat) (hn:n<=281474976710656) (hb:∀i,i<n->Byt (D i)):Con Tryz.prog 30 [.sv 3 n (uF B V D)] [] (.tup [.s (encT n B V D),.i .i64 (encE n B V D)]) []:=by
 unfold encT encE encB
 cases h0:mbB n B V D with
 | false=>exact enA_con n B V D h0 hn
 | true=>
   have ok:=mb_ok h0 hb
   have h8:=ok.1
   have hle:=upL_le ok n (Nat.le_refl _)
   have hby:=upL_byt ok n (Nat.le_refl _)
   have k1:=wnF_con n (by omega)
   have k2:=e_lp n B V D ok
   have k3:=wb_con (upL n B V D n).length (tB (upL n B V D n)) (by omega)
   have k4:=seal_con (upL n B V D n) hby (by omega)
   cases h1:decide ((540:Int)<Int.ofNat (rcT n B V D).length) with
   | true=>exact enB_con n B V D _ _ _ _ _ _ hn k1 k2 k3 k4 h0 h1
   | false=>
     have q:=enC_con n B V D _ _ _ _ _ _ hn k1 k2 k3 k4 h0 h1 (u8_of _)
     rw [bts_eq (slL_byt hby)] at q
     exact q
end Go.Proofs.Ly
set_option maxRecDepth 100000
namespace Go.Proofs.Ly
open Go Go.Sim Go.Proofs Go.Proofs.Cl Go.Proofs.YtfpebgpcpoefpaaGreatDoor Go.RowKit
def renB:Go.Shelf.Ren:=⟨fun | 166=>111 | 240=>151 | 276=>170 | _=>112,fun | 0=>0 | 3=>3 | 4=>4 | 5=>5 | 9=>9 | 20=>20 | 37=>101 | 70=>188 | 72=>190 | 75=>192 | 80=>195 | 127=>217 | _=>233,fun x=>x⟩
theorem lays166:Lays.n166 Tryz.prog renB:=by
 constructor<;>first | kernel_rfl | (intro w;kernel_rfl)
theorem lays169:Lays.n169 Tryz.prog renB:=by
 constructor<;>first | kernel_rfl | (intro w;kernel_rfl)
theorem bldX:Builder.Extra Tryz.prog renB where
 sizeBuilder:=by kernel_rfl
 liesBuilder:=by kernel_rfl
 t5:=by kernel_rfl
 a5:=by intro w;kernel_rfl
 z5:=by intro w;kernel_rfl
 v5:=by intro w;kernel_rfl
 infoByte:=by kernel_rfl
 cellsByte:=by kernel_rfl
 sizeByte:=by kernel_rfl
 neB5:=by decide
theorem bld_write (B b:Nat) (bs:List Value) (s:ByteArray) (w:World) (h:Lib.IsBuilder 190 5 B b bs w) (hlen:bs.length+s.size<=140737488355328) (hBw:B<=w.heap.size) :
 Calls Tryz.prog 111 #[.pointer (some ⟨b,0,none⟩),.string s] w fun e w'=>e=.returned (.tuple #[.int .i64 s.size,.nilIface])/\(Lib.BuilderAt 190 5 B b (.pointer (some ⟨b,0,none⟩)) (bs ++ Lib.strCells s) w'/\Below B w w'):=
 Any.Builder_WriteString (ρ:=renB) lays166 bldX B b bs s w h hlen hBw
theorem bld_string (B b:Nat) (l:List UInt8) (w:World) (h:Lib.IsBuilder 190 5 B b (Lib.byteCells l) w) (h0:l≠[]) :
 Calls Tryz.prog 112 #[.pointer (some ⟨b,0,none⟩)] w fun e w'=>e=.returned (.string ⟨l.toArray⟩)/\Below B w w':=Any.Builder_String (ρ:=renB) lays169 bldX B b l w h h0
theorem bld_kept {T e:TypeId} {B b:Nat} {p:Value} {bs:List Value} {w w':World} (h:Lib.BuilderAt T e B b p bs w) (k:Below w.heap.size w w'):Lib.BuilderAt T e B b p bs w':=by
 obtain ⟨hB,v,hb,hown,hne⟩:=h
 have lt:∀{k:Nat} {o:Obj},w.heap[k]? =some o->k<w.heap.size:=fun h=>(Array.getElem?_eq_some_iff.1 h).1
 refine ⟨hB,v,(k.block b (lt hb)).trans hb,⟨hown.1,?_⟩,hne⟩
 rcases hown.2 with q | ⟨g,cap,cur,q1,q2,q3,q4⟩
 · exact .inl q
 · exact .inr ⟨g,cap,cur,q1,q2,(k.block g (lt q3)).trans q3,q4⟩
theorem isb_kept {T e:TypeId} {B b:Nat} {bs:List Value} {w w':World} (h:Lib.IsBuilder T e B b bs w) (k:Below w.heap.size w w'):Lib.IsBuilder T e B b bs w':=by
 rcases h with h | h
 · exact .inl (bld_kept h k)
 · exact .inr (bld_kept h k)
theorem con_calls {P:Program} {g:FuncId} {args:List AV} {v:AV} (h:Con P g args [] v []) (w:World) (args':List Value) (ha:VRs Rho.nil args args') :
 Calls P g args'.toArray w fun e w'=>(∃ρ' v',e=.returned v'/\VR ρ' v v')/\Below w.heap.size w w':=by
 have e0:∀A (o:AObj),AH.get (mkH []) A=some o->False:=fun A o h=>by rw [mkH_get] at h;simp at h
 have hr:HR Rho.nil (mkH []) w:=⟨fun A o h=>(e0 A o h).elim,fun A A' o o' x x' h=>(e0 A o h).elim,fun A x hx=>(by cases hx),fun B j v hv=>(by cases hv),fun B j v hv=>(by cases hv)⟩
 refine (h Rho.nil w args' ha hr (fun A _=>rfl)).mono ?_
 rintro e w' ⟨v',ρ',rfl,h1,h2,h3⟩
 exact ⟨⟨ρ',v',rfl,h1⟩,⟨h3.os,h3.tape,h3.output,h3.size,fun k hk=>h3.frame k hk fun A o x hA=>(e0 A o hA).elim⟩⟩
theorem wwi_calls (n a b:Int) (w:World):Calls Tryz.prog 25 #[.int .i64 n,.int .i64 a,.int .i64 b] w fun e w'=>e=.returned (.bool (wq n a b))/\Below w.heap.size w w':=by
 refine (con_calls (wwi_con n a b) w [.int .i64 n,.int .i64 a,.int .i64 b] (.cons _ _ _ _ (.i _ _) (.cons _ _ _ _ (.i _ _) (.cons _ _ _ _ (.i _ _) .nil)))).mono ?_
 rintro e w' ⟨⟨ρ',v',rfl,h1⟩,hb⟩
 cases h1
 exact ⟨rfl,hb⟩
theorem piece_calls {t p:List Nat} {c:Int} (h:Con Tryz.prog 110 [.s t] [] (.tup [.i .i64 c,.s p]) []) (s:ByteArray) (hs:s.data.toList.map UInt8.toNat=t) (w:World) :
 Calls Tryz.prog 110 #[.string s] w fun e w'=>(∃q:ByteArray,e=.returned (.tuple #[.int .i64 c,.string q])/\q.data.toList.map UInt8.toNat=p)/\Below w.heap.size w w':=by
 refine (con_calls h w [.string s] (.cons _ _ _ _ (.s _ _ hs) .nil)).mono ?_
 rintro e w' ⟨⟨ρ',v',rfl,h1⟩,hb⟩
 cases h1 with
 | tup cs cs' h2=>
   cases h2 with
   | cons a a' r r' a1 r1=>
     cases a1
     cases r1 with
     | cons a a' r r' a2 r2=>
       cases r2
       cases a2 with
       | s _ q hq=>exact ⟨⟨q,rfl,hq⟩,hb⟩
def catL (Pz:Nat->List Nat):Nat->List Nat
 | 0=>[]
 | k+1=>catL Pz k ++ Pz k
theorem catL_le {Pz:Nat->List Nat} {n:Nat} (h:∀k,k<n->(Pz k).length<=1000):∀k,k<=n->(catL Pz k).length<=1000*k
 | 0,_=>Nat.le_refl _
 | k+1,hk=>by
   have:=catL_le h k (by omega)
   have:=h k (by omega)
   show (catL Pz k ++ Pz k).length<=_
   rw [List.length_append];omega
set_option maxHeartbeats 1000000 in
set_option maxRecDepth 1000000 in
theorem joined_walk (n cap m:Nat) (b off:Nat) (S:Nat->ByteArray) (C:Nat->Int) (Pz:Nat->List Nat) (w:World) (hn:n<=1000) (hm0:1<=m) (hm:m<=n) (hcap:n<=cap)
 (hc:∀k,k<n->w.cell? ⟨b,off+k,none⟩=some (.string (S k))) (hbB:b<w.heap.size) (hC:C 0=Int.ofNat m) (hl:∀k,k<n->(Pz k).length<=1000) (hne:catL Pz m≠[])
 (hp:∀k,k<n->∀w1:World,Calls Tryz.prog 110 #[.string (S k)] w1 fun e w'=>(∃q:ByteArray,e=.returned (.tuple #[.int .i64 (C k),.string q])/\q.data.toList.map UInt8.toNat=Pz k)/\Below w1.heap.size w1 w') :
 Calls Tryz.prog 79 #[.slice (some ⟨b,off,none⟩) n cap] w fun e w'=>(∃q:ByteArray,e=.returned (.string q)/\q.data.toList.map UInt8.toNat=catL Pz m)/\Below w.heap.size w w':=by
 have c0:w.cell? ⟨b,off,none⟩=some (.string (S 0)):=hc 0 (by omega)
 go_enter Tryz.func79,Tryz.ntmps79
 go_wp2_with (go_at_call 110;refine (hp 0 (by omega) _).mono ?_)
 rintro e w1 ⟨⟨q0,rfl,hq0⟩,b1⟩
 have hw:wq (m:Int) 1 (n:Int)=true:=by
  unfold wq
  rw [Bool.and_eq_true]
  exact ⟨decide_eq_true (by omega),decide_eq_true (by omega)⟩
 go_wp2_with (go_at_call 25;refine (wwi_calls m 1 n _).mono ?_)
 rintro e w2 ⟨rfl,b2⟩
 rw [hw]
 go_wp2
 go_loopw [29] (fun i wr=>∃(k:Nat) (acc:List UInt8),k<=m/\i=.int .i64 k/\acc.map UInt8.toNat=catL Pz k/\Lib.IsBuilder 190 5 w2.heap.size w2.heap.size (Lib.byteCells acc) wr/\Below w2.heap.size w2 wr)
  (fun i _=>m-(intOf i).toNat)
 case atStart=>exact ⟨0,[],Nat.zero_le _,rfl,rfl,Lib.fresh_isBuilder 190 5 w2,(Below.refl _ w2).alloc (Nat.le_refl _) _⟩
 case round=>
  obtain ⟨k,acc,hk,rfl,hacc,hI,hbw⟩:=hrel
  have hsz:w2.heap.size<=wr.heap.size:=hbw.size
  by_cases hlt:k<m
  · have ck:wr.cell? ⟨b,off+k,none⟩=some (.string (S k)):=by
     have hb2:b<w2.heap.size:=by have:=b1.size;have:=b2.size;omega
     rw [hbw.cell (p:=⟨b,off+k,none⟩) hb2,b2.cell (p:=⟨b,off+k,none⟩) (by have:=b1.size;show b<_;omega),b1.cell (p:=⟨b,off+k,none⟩) hbB]
     exact hc k (by omega)
    go_wp2_with (go_at_call 110;refine (hp k (by omega) _).mono ?_)
    rintro e W1 ⟨⟨q,rfl,hq⟩,hb3⟩
    have hql:q.size<=1000:=by
     rw [Go.Lib.size_eq]
     have:=congrArg List.length hq
     simp only [List.length_map] at this
     have:=hl k (by omega)
     omega
    have hal:acc.length<=1000*k:=by
     have:=catL_le hl k (by omega)
     rw [<-hacc,List.length_map] at this
     exact this
    have hI3:=isb_kept hI hb3
    go_wp2_with (go_at_call 111;refine (bld_write w2.heap.size w2.heap.size _ q _ hI3 (by rw [Lib.byteCells_length];omega) (by have:=hb3.size;omega)).mono ?_)
    rintro e W2 ⟨rfl,h4,hb4⟩
    go_wp2
    go_roundw
    case rel=>
     refine ⟨k+1,acc ++ q.data.toList,by omega,by go_num,?_,?_,?_⟩
     · rw [List.map_append,hacc,hq];rfl
     · rw [Lib.byteCells_append,<-Lib.strCells_eq];exact .inr h4
     · exact hbw.trans ((hb3.mono hsz).trans hb4)
    case measure=>simp [intOf];omega
  · obtain rfl:k=m:=by omega
    go_wp2_with (go_at_call 112;refine (bld_string w2.heap.size w2.heap.size acc _ hI (by rintro rfl;exact hne hacc.symm)).mono ?_)
    rintro e W1 ⟨rfl,hb3⟩
    go_wp2
    go_ret
    have s1:=b1.size
    have s2:=b2.size
    exact ⟨⟨_,rfl,hacc⟩,((b1.trans (b2.mono s1)).trans (hbw.mono (by omega))).trans (hb3.mono (by omega))⟩
theorem joined_con (n m:Nat) (f:Nat->List Nat) (C:Nat->Int) (Pz:Nat->List Nat) (hn:n<=1000) (hm0:1<=m) (hm:m<=n) (hC:C 0=Int.ofNat m) (hl:∀k,k<n->(Pz k).length<=1000) (hne:catL Pz m≠[])
 (hp:∀k,k<n->Con Tryz.prog 110 [.s (f k)] [] (.tup [.i .i64 (C k),.s (Pz k)]) []):Con Tryz.prog 79 [.sv 1 n (fun i _=>.s (f i))] [] (.s (catL Pz m)) []:=by
 intro ρ w args' ha hr hno
 cases ha with
 | cons v v' r r' h1 h2=>
   cases h2
   cases h1 with
   | sv _ _ _ _ hc=>
     cases hc with
     | sv0=>omega
     | svz=>omega
     | sv _ _ _ B o cap g a1 a2 a3=>
       have e0:∀A (o:AObj),AH.get (mkH []) A=some o->False:=fun A o h=>by rw [mkH_get] at h;simp at h
       have hs:∀k,k<n->∃s:ByteArray,g k 0=.string s/\s.data.toList.map UInt8.toNat=f k:=fun k hk=>by
        have:=a3 k 0 hk (by omega)
        cases h:g k 0<;>rw [h] at this<;>cases this
        exact ⟨_,rfl,by assumption⟩
       let S:Nat->ByteArray:=fun k=>match g k 0 with | .string s=>s | _=>.empty
       have hS:∀k,k<n->g k 0=.string (S k)/\(S k).data.toList.map UInt8.toNat=f k:=fun k hk=>by
        obtain ⟨s,h1,h2⟩:=hs k hk
        have:S k=s:=by show (match g k 0 with | .string s=>s | _=>.empty)=s;rw [h1]
        rw [this];exact ⟨h1,h2⟩
       have hcell:∀k,k<n->w.cell? ⟨B,o+k,none⟩=some (.string (S k)):=fun k hk=>by
        obtain ⟨c,e,fr,q1,q2⟩:=hr.ro B _ _ (a2 k 0 hk (by omega))
        rw [Lib.cell_of_heap (fr:=fr) (T:=e) (cs:=c) q1]
        have q3:c[o+k*1+0]? =some (g k 0):=q2
        rw [Nat.mul_one,Nat.add_zero] at q3
        rw [q3,(hS k hk).1]
       have hB:B<w.heap.size:=hr.rolt (a2 0 0 (by omega) (by omega))
       refine (joined_walk n cap m B o S C Pz w hn hm0 hm a1 hcell hB hC hl hne (fun k hk w1=>piece_calls (hp k hk) (S k) (hS k hk).2 w1)).mono ?_
       rintro e w' ⟨⟨q,rfl,hq⟩,hb⟩
       refine ⟨_,ρ,rfl,.s _ q hq,⟨fun A o h=>(e0 A o h).elim,fun A A' o o' x x' h=>(e0 A o h).elim,fun A x hx=>Nat.lt_of_lt_of_le (hr.range A x hx) hb.size,?_,fun B j v hv A o x h=>(e0 A o h).elim⟩,⟨Nat.le_refl _,.refl _,fun A x hx=>.inl hx,hb.size,fun B hB _=>hb.block B hB,fun A o x h=>(e0 A o h).elim,fun B j v hv=>.inl hv,hb.tape,hb.os,hb.output⟩⟩
       intro B j v hv
       obtain ⟨c,e,fr,h1,h2⟩:=hr.ro B j v hv
       exact ⟨c,e,fr,(hb.block B (hr.rolt hv)).trans h1,h2⟩
end Go.Proofs.Ly
namespace Go.Proofs.Ly
open Go Go.Sim Go.Proofs Go.Proofs.Cd Go.Proofs.St Go.Proofs.Cl Go.Proofs.YtfpebgpcpoefpaaGreatDoor
noncomputable def r3O (c:CS) (r:Bool):AObj:=.segs 177 772 [⟨1,1,1,oneF (.i .i64 (Int.ofNat c.n))⟩,⟨2,3,256,cellF c.q c.d c.sp⟩,⟨770,1,1,oneF (.b c.dead)⟩,⟨771,1,1,oneF (.b r)⟩] [(0,.p 3 0)]
noncomputable def chO:AObj:=cellsO 54 [.l 1 0 1 1 1 true]
noncomputable def nsO:AObj:=cellsD 55 [.p0] [.p 2 0]
noncomputable def noO:AObj:=cellsO 81 [.p 3 0,.p 4 0]
noncomputable def cfA:AV:=.agg [.i .i64 1,.sv 1 1 (listF 1 [.i .i64 0] 1),.sv 1 1 (listF 1 [.i .i64 1] 1)]
noncomputable def lgO (o w g start recs used:Int) (h:List Nat):AObj:=cellsO 69 [.p 0 0,.i .i64 o,.i .i64 w,.i .i64 g,.i .i64 start,.i .i64 recs,.i .i64 used,.s h]
def d38:List Nat:=[49,50,51,52,53,54,55,56,57,48,49,50,51,52,53,54,55,56,57,48,49,50,51,52,53,54,55,56,57,48,49,50,51,52,53,54,55,56]
def r46:List Nat:=[1,5,1,38,49,50,51,52,53,54,55,56,57,48,49,50,51,52,53,54,55,56,57,48,49,50,51,52,53,54,55,56,57,48,49,50,51,52,53,54,55,56,232,202,101,143]
theorem wr0_fq (c:CS) (s:SS) (q:Int->Nat) (t:Int->List Nat) (hd:Int):VF Tryz.prog 26 [.p 0 0,cfA,.i .i64 hd] [some chO,some nsO,some noO,some s.o,some (r3O
 c false)] (Orc.c (Orc.inl (Orc.c (Orc.cal [0,1,2,3,4] (.tup [.agg [.i .i64 (Int.ofNat (q (hd+0))),.s (t (hd+0))],.i .i64 0]) [.keep,.keep,.keep,.keep,.keep] (oc
 2 (Orc.inl (Orc.c (Orc.cal [0,1,2,3,4] (.tup [.agg [.i .i64 (Int.ofNat (q (hd+1))),.s (t (hd+1))],.i .i64 0]) [.keep,.keep,.keep,.keep,.keep] (oc 2 (Orc.inl
 (Orc.c (Orc.cal [0,1,2,3,4] (.tup [.agg [.i .i64 (Int.ofNat (q (hd+2))),.s (t (hd+2))],.i .i64 0]) [.keep,.keep,.keep,.keep,.keep] (oc 2 (Orc.inl (Orc.c
 (Orc.cal [0,1,2,3,4] (.tup [.agg [.i .i64 (Int.ofNat (q (hd+3))),.s (t (hd+3))],.i .i64 0]) [.keep,.keep,.keep,.keep,.keep] (oc 2 (Orc.inl (Orc.c (Orc.cal [0,
 1,2,3,4] (.tup [.agg [.i .i64 (Int.ofNat (q (hd+4))),.s (t (hd+4))],.i .i64 0]) [.keep,.keep,.keep,.keep,.keep] (oc 2 (Orc.inl (Orc.c (Orc.cal [0,1,2,3,4]
 (.tup [.agg [.i .i64 (Int.ofNat (q (hd+5))),.s (t (hd+5))],.i .i64 0]) [.keep,.keep,.keep,.keep,.keep] (oc 2 (Orc.inl (Orc.c (Orc.cal [0,1,2,3,4] (.tup [.agg
 [.i .i64 (Int.ofNat (q (hd+6))),.s (t (hd+6))],.i .i64 0]) [.keep,.keep,.keep,.keep,.keep] (oc 2 (Orc.inl (Orc.c (Orc.cal [0,1,2,3,4] (.tup [.agg [.i .i64
 (Int.ofNat (q (hd+7))),.s (t (hd+7))],.i .i64 0]) [.keep,.keep,.keep,.keep,.keep] (oc 2 (Orc.inl (Orc.c (Orc.cal [0,1,2,3,4] (.tup [.agg [.i .i64 (Int.ofNat (q
 (hd+8))),.s (t (hd+8))],.i .i64 0]) [.keep,.keep,.keep,.keep,.keep] (oc 2 (Orc.inl (Orc.c (Orc.cal [0,1,2,3,4] (.tup [.agg [.i .i64 (Int.ofNat (q (hd+9))),.s
 (t (hd+9))],.i .i64 0]) [.keep,.keep,.keep,.keep,.keep] (oc 2 (Orc.inl (Orc.c (Orc.cal [0,1,2,3,4] (.tup [.agg [.i .i64 (Int.ofNat (q (hd+10))),.s (t (hd +
 10))],.i .i64 0]) [.keep,.keep,.keep,.keep,.keep] (oc 2 (Orc.inl (Orc.c (Orc.cal [0,1,2,3,4] (.tup [.agg [.i .i64 (Int.ofNat (q (hd+11))),.s (t (hd+11))],.i
 .i64 0]) [.keep,.keep,.keep,.keep,.keep] (oc 2 (Orc.inl (Orc.c (Orc.cal [0,1,2,3,4] (.tup [.agg [.i .i64 (Int.ofNat (q (hd+12))),.s (t (hd+12))],.i .i64 0])
 [.keep,.keep,.keep,.keep,.keep] (oc 2 (Orc.inl (Orc.c (Orc.cal [0,1,2,3,4] (.tup [.agg [.i .i64 (Int.ofNat (q (hd+13))),.s (t (hd+13))],.i .i64 0]) [.keep,
 .keep,.keep,.keep,.keep] (oc 2 (Orc.inl (Orc.c (Orc.cal [0,1,2,3,4] (.tup [.agg [.i .i64 (Int.ofNat (q (hd+14))),.s (t (hd+14))],.i .i64 0]) [.keep,.keep,
 .keep,.keep,.keep] (oc 2 (Orc.inl (Orc.c (Orc.cal [0,1,2,3,4] (.tup [.agg [.i .i64 (Int.ofNat (q (hd+15))),.s (t (hd+15))],.i .i64 0]) [.keep,.keep,.keep,
 .keep,.keep] (oc 2 (Orc.inl (Orc.c Orc.z))))))))))))))))))))))))))))))))))))))))))))))))))))))))))))))))))) ((.tup [.sv 1 16 (listF 1 [.s (t (hd+0)),.s (t (hd+1)),.s
 (t (hd+2)),.s (t (hd+3)),.s (t (hd+4)),.s (t (hd+5)),.s (t (hd+6)),.s (t (hd+7)),.s (t (hd+8)),.s (t (hd+9)),.s (t (hd+10)),.s (t (hd+11)),.s (t
 (hd+12)),.s (t (hd+13)),.s (t (hd+14)),.s (t (hd+15))] 16),.i .i64 0])) [.keep,.keep,.keep,.keep,.keep] [6] [] (((0+16*1<=16/\(True/\True))/\True)) 23
 (fun Lf=>rg (hd+0)/\Con Tryz.prog 49 [.p 0 0,cfA,.i .i64 (hd+0)] [some chO,some nsO,some noO,some (SS.o s),some (r3O c false)] (.tup [.agg [.i .i64 (Int.ofNat (q
 (hd+0))),.s (t (hd+0))],.i .i64 0]) [.keep,.keep,.keep,.keep,.keep]/\True/\rg (1)/\rg (hd+1)/\Con Tryz.prog 49 [.p 0 0,cfA,.i .i64 (hd+1)] [some chO,some
 nsO,some noO,some (SS.o s),some (r3O c false)] (.tup [.agg [.i .i64 (Int.ofNat (q (hd+1))),.s (t (hd+1))],.i .i64 0]) [.keep,.keep,.keep,.keep,.keep]/\True/\rg
 (2)/\rg (hd+2)/\Con Tryz.prog 49 [.p 0 0,cfA,.i .i64 (hd+2)] [some chO,some nsO,some noO,some (SS.o s),some (r3O c false)] (.tup [.agg [.i .i64 (Int.ofNat (q (hd
 +2))),.s (t (hd+2))],.i .i64 0]) [.keep,.keep,.keep,.keep,.keep]/\True/\rg (3)/\rg (hd+3)/\Con Tryz.prog 49 [.p 0 0,cfA,.i .i64 (hd+3)] [some chO,some
 nsO,some noO,some (SS.o s),some (r3O c false)] (.tup [.agg [.i .i64 (Int.ofNat (q (hd+3))),.s (t (hd+3))],.i .i64 0]) [.keep,.keep,.keep,.keep,.keep]/\True/\rg
 (4)/\rg (hd+4)/\Con Tryz.prog 49 [.p 0 0,cfA,.i .i64 (hd+4)] [some chO,some nsO,some noO,some (SS.o s),some (r3O c false)] (.tup [.agg [.i .i64 (Int.ofNat (q (hd
 +4))),.s (t (hd+4))],.i .i64 0]) [.keep,.keep,.keep,.keep,.keep]/\True/\rg (5)/\rg (hd+5)/\Con Tryz.prog 49 [.p 0 0,cfA,.i .i64 (hd+5)] [some chO,some
 nsO,some noO,some (SS.o s),some (r3O c false)] (.tup [.agg [.i .i64 (Int.ofNat (q (hd+5))),.s (t (hd+5))],.i .i64 0]) [.keep,.keep,.keep,.keep,.keep]/\True/\rg
 (6)/\rg (hd+6)/\Con Tryz.prog 49 [.p 0 0,cfA,.i .i64 (hd+6)] [some chO,some nsO,some noO,some (SS.o s),some (r3O c false)] (.tup [.agg [.i .i64 (Int.ofNat (q (hd
 +6))),.s (t (hd+6))],.i .i64 0]) [.keep,.keep,.keep,.keep,.keep]/\True/\rg (7)/\rg (hd+7)/\Con Tryz.prog 49 [.p 0 0,cfA,.i .i64 (hd+7)] [some chO,some
 nsO,some noO,some (SS.o s),some (r3O c false)] (.tup [.agg [.i .i64 (Int.ofNat (q (hd+7))),.s (t (hd+7))],.i .i64 0]) [.keep,.keep,.keep,.keep,.keep]/\True/\rg
 (8)/\rg (hd+8)/\Con Tryz.prog 49 [.p 0 0,cfA,.i .i64 (hd+8)] [some chO,some nsO,some noO,some (SS.o s),some (r3O c false)] (.tup [.agg [.i .i64 (Int.ofNat (q (hd
 +8))),.s (t (hd+8))],.i .i64 0]) [.keep,.keep,.keep,.keep,.keep]/\True/\rg (9)/\rg (hd+9)/\Con Tryz.prog 49 [.p 0 0,cfA,.i .i64 (hd+9)] [some chO,some
 nsO,some noO,some (SS.o s),some (r3O c false)] (.tup [.agg [.i .i64 (Int.ofNat (q (hd+9))),.s (t (hd+9))],.i .i64 0]) [.keep,.keep,.keep,.keep,.keep]/\True/\rg
 (10)/\rg (hd+10)/\Con Tryz.prog 49 [.p 0 0,cfA,.i .i64 (hd+10)] [some chO,some nsO,some noO,some (SS.o s),some (r3O c false)] (.tup [.agg [.i .i64 (Int.ofNat (q
 (hd+10))),.s (t (hd+10))],.i .i64 0]) [.keep,.keep,.keep,.keep,.keep]/\True/\rg (11)/\rg (hd+11)/\Con Tryz.prog 49 [.p 0 0,cfA,.i .i64 (hd+11)] [some chO,
 some nsO,some noO,some (SS.o s),some (r3O c false)] (.tup [.agg [.i .i64 (Int.ofNat (q (hd+11))),.s (t (hd+11))],.i .i64 0]) [.keep,.keep,.keep,.keep,.keep]/\
 True/\rg (12)/\rg (hd+12)/\Con Tryz.prog 49 [.p 0 0,cfA,.i .i64 (hd+12)] [some chO,some nsO,some noO,some (SS.o s),some (r3O c false)] (.tup [.agg [.i .i64
 (Int.ofNat (q (hd+12))),.s (t (hd+12))],.i .i64 0]) [.keep,.keep,.keep,.keep,.keep]/\True/\rg (13)/\rg (hd+13)/\Con Tryz.prog 49 [.p 0 0,cfA,.i .i64 (hd +
 13)] [some chO,some nsO,some noO,some (SS.o s),some (r3O c false)] (.tup [.agg [.i .i64 (Int.ofNat (q (hd+13))),.s (t (hd+13))],.i .i64 0]) [.keep,.keep,.keep,
 .keep,.keep]/\True/\rg (14)/\rg (hd+14)/\Con Tryz.prog 49 [.p 0 0,cfA,.i .i64 (hd+14)] [some chO,some nsO,some noO,some (SS.o s),some (r3O c false)] (.tup
 [.agg [.i .i64 (Int.ofNat (q (hd+14))),.s (t (hd+14))],.i .i64 0]) [.keep,.keep,.keep,.keep,.keep]/\True/\rg (15)/\rg (hd+15)/\Con Tryz.prog 49 [.p 0 0,cfA,
 .i .i64 (hd+15)] [some chO,some nsO,some noO,some (SS.o s),some (r3O c false)] (.tup [.agg [.i .i64 (Int.ofNat (q (hd+15))),.s (t (hd+15))],.i .i64 0]) [.keep,
 .keep,.keep,.keep,.keep]/\True/\rg (16)/\Lf):=by unfold VF;kernel_rfl
theorem wr_con (hd:Int) (c:CS) (s:SS) (q:Int->Nat) (t:Int->List Nat) (h0:0<=hd) (h1:hd<=112) (hrd:∀b:Int,0<=b->b<=127->Con Tryz.prog 49 [.p 0 0,cfA,.i .i64 b] [some chO,some nsO,some noO,some s.o,some (r3O c false)] (.tup [.agg [.i .i64 (Int.ofNat (q b)),.s (t b)],.i .i64 0]) [.keep,.keep,.keep,.keep,.keep]):Con Tryz.prog 26 [.p 0 0,cfA,.i .i64 hd] [some chO,some nsO,some noO,some s.o,some (r3O c false)] (.tup [.sv 1 16 (listF 1 [.s (t (hd+0)),.s (t (hd+1)),.s (t (hd+2)),.s (t (hd+3)),.s (t (hd+4)),.s (t (hd+5)),.s (t (hd+6)),.s (t (hd+7)),.s (t (hd+8)),.s (t (hd+9)),.s (t (hd+10)),.s (t (hd+11)),.s (t (hd+12)),.s (t (hd+13)),.s (t (hd+14)),.s (t (hd+15))] 16),.i .i64 0]) [.keep,.keep,.keep,.keep,.keep]:=by
 exact con_f (wr0_fq (c:=c) (s:=s) (q:=q) (t:=t) (hd:=hd)) (by simp) (by repeat' first | exact trivial | assumption | exact rfl | exact nT (by assumption) | exact nF (by assumption) | exact hrd _ (by omega) (by omega) | (unfold rg;omega) | omega | apply And.intro | decide)
theorem pc10_vq:VD Tryz.prog 110 [.s [1,0,1,1,5,1,1,97,186,152,74,254]] [] (Orc.inl (Orc.c (Orc.inl (Orc.inl (Orc.c (Orc.inl (Orc.inl (oc 2 (Orc.inl (Orc.inl (oc
 10 (Orc.inl (Orc.inl (oc 2 (Orc.inl (Orc.inl (oc 10 (Orc.inl (Orc.inl (oc 2 (Orc.inl (Orc.inl (oc 10 (Orc.inl (Orc.c Orc.z))))))))))))))))))))))))) (.tup [.i .i64 1,.s [1,
 5,1,1,97,186,152,74,254]]) [] [] 4 (fun Lf=>True/\True/\True/\True/\True/\rg (1)/\rg (0)/\(0:Int)<=(0:Int)/\True/\rg (1)/\True/\True/\True/\True/\
 True/\True/\True/\rg (0)/\rg (0)/\(0:Int)<=(0:Int)/\True/\rg (1)/\True/\True/\True/\True/\True/\True/\True/\rg (1)/\rg (0)/\(0:Int)<=(0:Int)/\True
 /\rg (1)/\True/\True/\True/\True/\True/\rg (3)/\((0:Int)<=(3:Int)/\True/\3<=12/\12<=12)/\Lf):=by unfold VD VQ;kernel_rfl
theorem pc1_con:Con Tryz.prog 110 [.s [1,0,1,1,5,1,1,97,186,152,74,254]] [] (.tup [.i .i64 1,.s [1,5,1,1,97,186,152,74,254]]) []:=by
 exact con_d (pc10_vq) (by repeat' first | exact trivial | assumption | exact rfl | exact nT (by assumption) | exact nF (by assumption) | apply And.intro | decide)
theorem pc00_vq:VD Tryz.prog 110 [.s []] [] (Orc.inl (Orc.c (Orc.inl (Orc.inl (Orc.c (Orc.inl (Orc.inl (oc 2 (Orc.inl (Orc.inl (oc 2 (Orc.inl (Orc.inl (oc 2 (Orc.inl (Orc.inl
 (oc 2 (Orc.inl (Orc.c Orc.z))))))))))))))))))) (.tup [.i .i64 0,.s []]) [] [] 3 (fun Lf=>True/\True/\True/\True/\True/\True/\True/\True/\True/\True/\True/\True
 /\True/\rg (0)/\((0:Int)<=(0:Int)/\True/\0<=0/\0<=0)/\Lf):=by unfold VD VQ;kernel_rfl
theorem pc0_con:Con Tryz.prog 110 [.s []] [] (.tup [.i .i64 0,.s []]) []:=by
 exact con_d (pc00_vq) (by repeat' first | exact trivial | assumption | exact rfl | exact nT (by assumption) | exact nF (by assumption) | apply And.intro | decide)
theorem fi10_vq (S:Nat) (h:decide (4266301626=Int.ofNat S)=true):VD Tryz.prog 52 [.sv 1 15 (shiftF 1 (listF 1 [.s [],.s [1,0,1,1,5,1,1,97,186,152,74,254],
 .s [],.s [],.s [],.s [],.s [],.s [],.s [],.s [],.s [],.s [],.s [],.s [],.s [],.s []] 16)),.i .i64 1] [] (Orc.cal [] (.s [1,5,1,1,97,186,152,74,254]) []
 (Orc.inl (Orc.c (Orc.inl (Orc.c (Orc.inl (oc 5 (Orc.cal [0] (.i .u32 (Int.ofNat S)) [.keep] (Orc.f (Orc.inl (Orc.c (Orc.inl (Orc.inl (Orc.c (Orc.inl (Orc.inl (oc 2 (Orc.inl
 (Orc.inl (oc 10 (Orc.inl (oc 2 (Orc.inl (oc 4 (Orc.inl (Orc.inl (oc 2 (Orc.inl (Orc.inl (oc 10 (Orc.inl (Orc.inl (oc 2 (Orc.inl (Orc.inl (oc 10 (Orc.inl (Orc.inl (oc 2
 (Orc.inl (Orc.inl (Orc.inl (oc 13 (Orc.inl (oc 5 (Orc.cal [7] (.tup [.s [1,5,1,1,97,186,152,74,254],.i .i64 0]) [.keep] (oc 4 (Orc.inl (oc 8 (Orc.inl (Orc.c (Orc.inl
 (Orc.inl (Orc.inl (Orc.inl (Orc.inl (Orc.c (Orc.cal [12] (.s [1,0,1]) [.keep] (Orc.c (Orc.inl (oc 5 (Orc.inl (Orc.c (Orc.inl (oc 3 (Orc.inl (oc 4
 Orc.z))))))))))))))))))))))))))))))))))))))))))))))))))))))))))))))))))) (.tup [.l 0 0 1 1 3 false,.i .i64 1]) [.set (cellsO 47 [.i .i64 5,.i .i64 1,.s [97]])] [7] 15 (fun
 Lf=>Con Tryz.prog 79 [.sv 1 15 (shiftF 1 (listF 1 [CV.s [],CV.s [1,0,1,1,5,1,1,97,186,152,74,254],CV.s [],CV.s [],CV.s [],CV.s [],CV.s [],CV.s [],CV.s
 [],CV.s [],CV.s [],CV.s [],CV.s [],CV.s [],CV.s [],CV.s []] 16))] [] (.s [1,5,1,1,97,186,152,74,254]) []/\rg (5)/\True/\True/\(0:Int)<=(8:Int)/\True
 /\True/\(0:Int)<=(16:Int)/\True/\True/\(0:Int)<=(24:Int)/\True/\Con Tryz.prog 87 [.l 0 0 5 9 1 false] [some (cellsO 5 [.i .u8 1,.i .u8 5,.i .u8 1,.i .u8 1,
 .i .u8 97,.i .u8 186,.i .u8 152,.i .u8 74,.i .u8 254])] (.i .u32 (Int.ofNat S)) [.keep]/\(!decide (4266301626=Int.ofNat S))=false/\True/\True/\True/\True/\True
 /\True/\rg (1)/\rg (0)/\(0:Int)<=(0:Int)/\True/\rg (1)/\True/\True/\True/\True/\True/\True/\True/\True/\True/\rg (5)/\rg (0)/\(0:Int)<=(0:Int)/\
 True/\rg (1)/\True/\True/\True/\True/\True/\True/\True/\rg (1)/\rg (0)/\(0:Int)<=(0:Int)/\True/\rg (1)/\True/\True/\True/\True/\True/\True/\True/\rg
 (1)/\rg (0)/\(0:Int)<=(0:Int)/\True/\rg (1)/\rg (1)/\rg (2)/\rg (2)/\True/\True/\True/\Con Tryz.prog 30 [.l 0 0 1 1 3 false] [some (cellsO 47 [.i .i64 5,.i
 .i64 1,.s [97]])] (.tup [.s [1,5,1,1,97,186,152,74,254],.i .i64 0]) [.keep]/\rg (45)/\rg (44)/\((36:Int)≠(0:Int)/\(-9223372036854775808:Int)<=(1:Int)
 /\(1:Int)<=(9223372036854775807:Int))/\True/\rg (45)/\rg (44)/\((36:Int)≠(0:Int)/\(-9223372036854775808:Int)<=(1:Int)/\(1:Int)<=(9223372036854775807
 :Int))/\rg (0)/\rg (1)/\rg (36)/\((0:Int)<=(0:Int)/\(0:Int)<=(9:Int)/\0<=9/\9<=9)/\Con Tryz.prog 34 [.l 0 0 3 3 1 true] [some (cellsO 3 [.i .i64 1,.i
 .i64 0,.i .i64 1])] (.s [1,0,1]) [.keep]/\12<=1073741824/\True/\rg (1)/\(True/\(0:Int)<=(1:Int)/\0<=1/\1<=15)/\((0:Int)<=(0:Int)/\(0:Int)<(1 :
 Int))/\True/\rg (1)/\True/\Lf):=by unfold VD VQ;kernel_rfl
theorem fi1_con (S:Nat) (ksum:Con Tryz.prog 87 [.l 0 0 5 9 1 false] [some (cellsO 5 [.i .u8 1,.i .u8 5,.i .u8 1,.i .u8 1,.i .u8 97,.i .u8 186,.i .u8 152,.i .u8 74,.i .u8 254])] (.i .u32 (Int.ofNat S)) [.keep]) (kenc:Con Tryz.prog 30 [.l 0 0 1 1 3 false] [some (cellsO 47 [.i .i64 5,.i .i64 1,.s [97]])] (.tup [.s [1,5,1,1,97,186,152,74,254],.i .i64 0]) [.keep]) (kf3:Con Tryz.prog 34 [.l 0 0 3 3 1 true] [some (cellsO 3 [.i .i64 1,.i .i64 0,.i .i64 1])] (.s [1,0,1]) [.keep]) (h:decide (4266301626=Int.ofNat S)=true) (kjn:Con Tryz.prog 79 [.sv 1 15 (shiftF 1 (listF 1 [.s [],.s [1,0,1,1,5,1,1,97,186,152,74,254],.s [],.s [],.s [],.s [],.s [],.s [],.s [],.s [],.s [],.s [],.s [],.s [],.s [],.s []] 16))] [] (.s [1,5,1,1,97,186,152,74,254]) []):Con Tryz.prog 52 [.sv 1 15 (shiftF 1 (listF 1 [.s [],.s [1,0,1,1,5,1,1,97,186,152,74,254],.s [],.s [],.s [],.s [],.s [],.s [],.s [],.s [],.s [],.s [],.s [],.s [],.s [],.s []] 16)),.i .i64 1] [] (.tup [.l 0 0 1 1 3 false,.i .i64 1]) [.set (cellsO 47 [.i .i64 5,.i .i64 1,.s [97]])]:=by
 exact con_d (fi10_vq (S:=S) (h:=h)) (by repeat' first | exact trivial | assumption | exact rfl | exact nT (by assumption) | exact nF (by assumption) | assumption | assumption | assumption | assumption | apply And.intro | decide)
theorem fi00_vq:VD Tryz.prog 52 [.sv 1 15 (shiftF 1 (listF 1 [.s [],.s [],.s [],.s [],.s [],.s [],.s [],.s [],.s [],.s [],.s [],.s [],.s [],.s [],.s [],.s []]
 16)),.i .i64 1] [] (Orc.inl (Orc.c (Orc.inl (Orc.inl (Orc.c (Orc.inl (Orc.inl (Orc.c (Orc.inl (Orc.inl (oc 2 (Orc.inl (Orc.inl (oc 2 (Orc.inl (Orc.inl (oc 2 (Orc.inl
 (Orc.inl (oc 2 (Orc.inl (Orc.c (Orc.inl (oc 5 (Orc.inl (Orc.c (Orc.inl (Orc.c (Orc.inl (Orc.inl (Orc.c (Orc.inl (Orc.inl (oc 2 (Orc.inl (Orc.inl (oc 2 (Orc.inl (oc 5 (Orc.cal
 [] (.tup [.s [],.i .i64 2]) [] (oc 4 (Orc.inl (oc 16 Orc.z))))))))))))))))))))))))))))))))))))))))))) (.tup [.l0,.i .i64 0]) [] [] 5 (fun Lf=>((0:Int)<=(0:Int)/\(0
 :Int)<(15:Int))/\True/\True/\True/\True/\True/\True/\True/\True/\True/\True/\True/\True/\True/\True/\rg (0)/\((0:Int)<=(0:Int)/\True/\0<=0/\0<=
 0)/\True/\rg ((-4))/\True/\True/\True/\True/\True/\True/\True/\Con Tryz.prog 30 [.l0] [] (.tup [.s [],.i .i64 2]) []/\rg (36)/\rg (35)/\((36:Int)≠(0:Int)
 /\(-9223372036854775808:Int)<=(0:Int)/\(0:Int)<=(9223372036854775807:Int))/\True/\Lf):=by unfold VD VQ;kernel_rfl
theorem fi0_con (kenc:Con Tryz.prog 30 [.l0] [] (.tup [.s [],.i .i64 2]) []):Con Tryz.prog 52 [.sv 1 15 (shiftF 1 (listF 1 [.s [],.s [],.s [],.s [],.s [],.s [],.s [],.s [],.s [],.s [],.s [],.s [],.s [],.s [],.s [],.s []] 16)),.i .i64 1] [] (.tup [.l0,.i .i64 0]) []:=by
 exact con_d (fi00_vq) (by repeat' first | exact trivial | assumption | exact rfl | exact nT (by assumption) | exact nF (by assumption) | assumption | apply And.intro | decide)
theorem fi20_vq:VD Tryz.prog 52 [.sv 1 14 (shiftF 1 (shiftF 1 (listF 1 [.s [],.s [1,0,1,1,5,1,1,97,186,152,74,254],.s [],.s [],.s [],.s [],.s [],.s [],.s
 [],.s [],.s [],.s [],.s [],.s [],.s [],.s []] 16))),.i .i64 2] [] (Orc.inl (Orc.c (Orc.inl (Orc.inl (Orc.c (Orc.inl (Orc.inl (Orc.c (Orc.inl (Orc.inl (oc 2 (Orc.inl
 (Orc.inl (oc 2 (Orc.inl (Orc.inl (oc 2 (Orc.inl (Orc.inl (oc 2 (Orc.inl (Orc.c (Orc.inl (oc 5 (Orc.inl (Orc.c (Orc.inl (Orc.c (Orc.inl (Orc.inl (Orc.c (Orc.inl (Orc.inl (oc 2
 (Orc.inl (Orc.inl (oc 2 (Orc.inl (oc 5 (Orc.cal [] (.tup [.s [],.i .i64 2]) [] (oc 4 (Orc.inl (oc 16 Orc.z))))))))))))))))))))))))))))))))))))))))))) (.tup [.l0,.i .i64 0])
 [] [] 5 (fun Lf=>((0:Int)<=(0:Int)/\(0:Int)<(14:Int))/\True/\True/\True/\True/\True/\True/\True/\True/\True/\True/\True/\True/\True/\True/\rg (0)
 /\((0:Int)<=(0:Int)/\True/\0<=0/\0<=0)/\True/\rg ((-4))/\True/\True/\True/\True/\True/\True/\True/\Con Tryz.prog 30 [.l0] [] (.tup [.s [],.i .i64 2]) []
 /\rg (36)/\rg (35)/\((36:Int)≠(0:Int)/\(-9223372036854775808:Int)<=(0:Int)/\(0:Int)<=(9223372036854775807:Int))/\True/\Lf)
 :=by unfold VD VQ;kernel_rfl
theorem fi2_con (kenc:Con Tryz.prog 30 [.l0] [] (.tup [.s [],.i .i64 2]) []):Con Tryz.prog 52 [.sv 1 14 (shiftF 1 (shiftF 1 (listF 1 [.s [],.s [1,0,1,1,5,1,1,97,186,152,74,254],.s [],.s [],.s [],.s [],.s [],.s [],.s [],.s [],.s [],.s [],.s [],.s [],.s [],.s []] 16))),.i .i64 2] [] (.tup [.l0,.i .i64 0]) []:=by
 exact con_d (fi20_vq) (by repeat' first | exact trivial | assumption | exact rfl | exact nT (by assumption) | exact nF (by assumption) | assumption | apply And.intro | decide)
theorem op00_vq (c:CS) (s:SS) (ow:Int) (wr:Int) (gn:Int) (o1:decide (0<=ow)=true) (o2:decide (ow<=2)=true) (o3:decide (0<=wr)=true) (o4:decide (wr<=
 2)=true) (o5:decide (1<=gn)=true) (o6:decide (gn<=1099511627776)=true):VD Tryz.prog 8 [.p 0 0,cfA,.i .i64 ow,.i .i64 wr,.i .i64 gn] [some chO,some nsO,
 some noO,some s.o,some (r3O c false)] (Orc.c (Orc.inl (Orc.inl (Orc.t (Orc.t (Orc.t (Orc.t (Orc.t (Orc.t (Orc.inl (Orc.inl (Orc.t (Orc.t (Orc.t (Orc.t (Orc.t (Orc.f (Orc.t
 (Orc.t (Orc.inl (Orc.t (Orc.t (Orc.t (Orc.t (Orc.t (Orc.f (Orc.f (Orc.inl (Orc.cal [0,1,2,3,4] (.tup [.sv 1 16 (listF 1 [CV.s [],CV.s [],CV.s [],CV.s [],CV.s [],CV.s
 [],CV.s [],CV.s [],CV.s [],CV.s [],CV.s [],CV.s [],CV.s [],CV.s [],CV.s [],CV.s []] 16),.i .i64 0]) [.keep,.keep,.keep,.keep,.keep] (Orc.c (Orc.inl (oc 2
 (Orc.inl (Orc.inl (Orc.cal [] (.tup [.l0,.i .i64 0]) [] (Orc.c Orc.z)))))))))))))))))))))))))))))))))))) (.tup [.p 5 0,.l0,.i .i64 0]) [.keep,.keep,.keep,.keep,.keep,
 .set (lgO ow wr gn 1 0 0 [])] [6] 7 (fun Lf=>True/\decide (0<=ow)=true/\decide (0<=ow)=true/\decide (0<=ow)=true/\decide (0<=ow)=true/\True/\(!!decide (ow
 <=2))=true/\(!!decide (ow<=2))=true/\decide (0<=wr)=true/\decide (0<=wr)=true/\decide (0<=wr)=true/\decide (0<=wr)=true/\(!!decide (ow<=2))=true/\
 True/\(!decide (ow<=2))=false/\(!!decide (wr<=2))=true/\(!!decide (wr<=2))=true/\decide (1<=gn)=true/\decide (1<=gn)=true/\decide (1<=gn)=true/\
 decide (1<=gn)=true/\(!!decide (wr<=2))=true/\True/\(!decide (wr<=2))=false/\(!decide (gn<=1099511627776))=false/\rg (16*ow)/\rg ((80:Int)+(16:Int)
 *ow)/\Con Tryz.prog 26 [.p 0 0,cfA,.i .i64 ((80:Int)+(16:Int)*ow)] [some chO,some nsO,some noO,some (SS.o s),some (r3O c false)] (.tup [.sv 1 16 (listF 1
 [CV.s [],CV.s [],CV.s [],CV.s [],CV.s [],CV.s [],CV.s [],CV.s [],CV.s [],CV.s [],CV.s [],CV.s [],CV.s [],CV.s [],CV.s [],CV.s []] 16),.i .i64 0]) [.keep,
 .keep,.keep,.keep,.keep]/\((0:Int)<=(0:Int)/\(0:Int)<(16:Int))/\True/\((0:Int)<=(1:Int)/\True/\1<=16/\16<=16)/\((0:Int)<=(0:Int)/\True/\0
 <=15/\15<=15)/\rg (1)/\Con Tryz.prog 52 [.sv 1 15 (shiftF 1 (listF 1 [CV.s [],CV.s [],CV.s [],CV.s [],CV.s [],CV.s [],CV.s [],CV.s [],CV.s [],CV.s [],CV.s [],
 CV.s [],CV.s [],CV.s [],CV.s [],CV.s []] 16)),.i .i64 1] [] (.tup [.l0,.i .i64 0]) []/\Lf):=by unfold VD VQ;kernel_rfl
theorem op0_con (c:CS) (s:SS) (ow wr gn:Int) (kwrN:Con Tryz.prog 26 [.p 0 0,cfA,.i .i64 (80+16*ow)] [some chO,some nsO,some noO,some s.o,some (r3O c false)] (.tup [.sv 1 16 (listF 1 [.s [],.s [],.s [],.s [],.s [],.s [],.s [],.s [],.s [],.s [],.s [],.s [],.s [],.s [],.s [],.s []] 16),.i .i64 0]) [.keep,.keep,.keep,.keep,.keep]) (kc0:Con Tryz.prog 52 [.sv 1 15 (shiftF 1 (listF 1 [.s [],.s [],.s [],.s [],.s [],.s [],.s [],.s [],.s [],.s [],.s [],.s [],.s [],.s [],.s [],.s []] 16)),.i .i64 1] [] (.tup [.l0,.i .i64 0]) []) (o1:decide (0<=ow)=true) (o2:decide (ow<=2)=true) (o3:decide (0<=wr)=true) (o4:decide (wr<=2)=true) (o5:decide (1<=gn)=true) (o6:decide (gn<=1099511627776)=true):Con Tryz.prog 8 [.p 0 0,cfA,.i .i64 ow,.i .i64 wr,.i .i64 gn] [some chO,some nsO,some noO,some s.o,some (r3O c false)] (.tup [.p 5 0,.l0,.i .i64 0]) [.keep,.keep,.keep,.keep,.keep,.set (lgO ow wr gn 1 0 0 [])]:=by
 have q1:=of_decide_eq_true o1
 have q2:=of_decide_eq_true o2
 exact con_d (op00_vq (c:=c) (s:=s) (ow:=ow) (wr:=wr) (gn:=gn) (o1:=o1) (o2:=o2) (o3:=o3) (o4:=o4) (o5:=o5) (o6:=o6)) (by repeat' first | exact trivial | assumption | exact rfl | exact nT (by assumption) | exact nF (by assumption) | assumption | assumption | exact nnT (by assumption) | exact nnF (by assumption) | (unfold rg;omega) | omega | apply And.intro | decide)
theorem op10_vq (c:CS) (s:SS) (ow:Int) (wr:Int) (gn:Int) (o1:decide (0<=ow)=true) (o2:decide (ow<=2)=true) (o3:decide (0<=wr)=true) (o4:decide (wr<=
 2)=true) (o5:decide (1<=gn)=true) (o6:decide (gn<=1099511627776)=true):VD Tryz.prog 8 [.p 0 0,cfA,.i .i64 ow,.i .i64 wr,.i .i64 gn] [some chO,some nsO,
 some noO,some s.o,some (r3O c false)] (Orc.c (Orc.inl (Orc.inl (Orc.t (Orc.t (Orc.t (Orc.t (Orc.t (Orc.t (Orc.inl (Orc.inl (Orc.t (Orc.t (Orc.t (Orc.t (Orc.t (Orc.f (Orc.t
 (Orc.t (Orc.inl (Orc.t (Orc.t (Orc.t (Orc.t (Orc.t (Orc.f (Orc.f (Orc.inl (Orc.cal [0,1,2,3,4] (.tup [.sv 1 16 (listF 1 [CV.s [],CV.s [1,0,1,1,5,1,1,97,186,152,
 74,254],CV.s [],CV.s [],CV.s [],CV.s [],CV.s [],CV.s [],CV.s [],CV.s [],CV.s [],CV.s [],CV.s [],CV.s [],CV.s [],CV.s []] 16),.i .i64 0]) [.keep,.keep,.keep,
 .keep,.keep] (Orc.c (Orc.inl (oc 2 (Orc.inl (Orc.inl (Orc.cal [] (.tup [.l 0 0 1 1 3 false,.i .i64 1]) [.set (cellsO 47 [.i .i64 5,.i .i64 1,.s [97]])] (Orc.c (Orc.inl
 (Orc.cal [] (.tup [.l0,.i .i64 0]) [] (Orc.c Orc.z))))))))))))))))))))))))))))))))))))))) (.tup [.p 5 0,.l 6 0 1 1 1 false,.i .i64 0]) [.keep,.keep,.keep,.keep,.keep,
 .set (lgO ow wr gn 1 1 1 []),.set (cellsO 39 [.l 7 0 1 1 3 false]),.set (cellsO 47 [.i .i64 5,.i .i64 1,.s [97]])] [9,8,6] 10 (fun Lf=>True/\decide (0<=ow)=true/\
 decide (0<=ow)=true/\decide (0<=ow)=true/\decide (0<=ow)=true/\True/\(!!decide (ow<=2))=true/\(!!decide (ow<=2))=true/\decide (0<=wr)=true/\decide (0
 <=wr)=true/\decide (0<=wr)=true/\decide (0<=wr)=true/\(!!decide (ow<=2))=true/\True/\(!decide (ow<=2))=false/\(!!decide (wr<=2))=true/\(!!decide (wr<=
 2))=true/\decide (1<=gn)=true/\decide (1<=gn)=true/\decide (1<=gn)=true/\decide (1<=gn)=true/\(!!decide (wr<=2))=true/\True/\(!decide (wr<=2)) =
 false/\(!decide (gn<=1099511627776))=false/\rg (16*ow)/\rg ((80:Int)+(16:Int)*ow)/\Con Tryz.prog 26 [.p 0 0,cfA,.i .i64 ((80:Int)+(16:Int)*ow)]
 [some chO,some nsO,some noO,some (SS.o s),some (r3O c false)] (.tup [.sv 1 16 (listF 1 [CV.s [],CV.s [1,0,1,1,5,1,1,97,186,152,74,254],CV.s [],CV.s [],CV.s
 [],CV.s [],CV.s [],CV.s [],CV.s [],CV.s [],CV.s [],CV.s [],CV.s [],CV.s [],CV.s [],CV.s []] 16),.i .i64 0]) [.keep,.keep,.keep,.keep,.keep]/\((0:Int)<=(0
 :Int)/\(0:Int)<(16:Int))/\True/\((0:Int)<=(1:Int)/\True/\1<=16/\16<=16)/\((0:Int)<=(0:Int)/\True/\0<=15/\15<=15)/\rg (1)/\Con Tryz.prog 52
 [.sv 1 15 (shiftF 1 (listF 1 [CV.s [],CV.s [1,0,1,1,5,1,1,97,186,152,74,254],CV.s [],CV.s [],CV.s [],CV.s [],CV.s [],CV.s [],CV.s [],CV.s [],CV.s [],
 CV.s [],CV.s [],CV.s [],CV.s [],CV.s []] 16)),.i .i64 1] [] (.tup [.l 0 0 1 1 3 false,.i .i64 1]) [.set (cellsO 47 [.i .i64 5,.i .i64 1,.s [97]])]/\rg (1)/\((0 :
 Int)<=(1:Int)/\True/\1<=15/\15<=15)/\rg (2)/\Con Tryz.prog 52 [.sv 1 14 (shiftF 1 (shiftF 1 (listF 1 [CV.s [],CV.s [1,0,1,1,5,1,1,97,186,152,74,254],
 CV.s [],CV.s [],CV.s [],CV.s [],CV.s [],CV.s [],CV.s [],CV.s [],CV.s [],CV.s [],CV.s [],CV.s [],CV.s [],CV.s []] 16))),.i .i64 2] [] (.tup [.l0,.i .i64 0]) []
 /\Lf):=by unfold VD VQ;kernel_rfl
theorem op1_con (c:CS) (s:SS) (ow wr gn:Int) (kwrO:Con Tryz.prog 26 [.p 0 0,cfA,.i .i64 (80+16*ow)] [some chO,some nsO,some noO,some s.o,some (r3O c false)] (.tup [.sv 1 16 (listF 1 [.s [],.s [1,0,1,1,5,1,1,97,186,152,74,254],.s [],.s [],.s [],.s [],.s [],.s [],.s [],.s [],.s [],.s [],.s [],.s [],.s [],.s []] 16),.i .i64 0]) [.keep,.keep,.keep,.keep,.keep]) (kc1:Con Tryz.prog 52 [.sv 1 15 (shiftF 1 (listF 1 [.s [],.s [1,0,1,1,5,1,1,97,186,152,74,254],.s [],.s [],.s [],.s [],.s [],.s [],.s [],.s [],.s [],.s [],.s [],.s [],.s [],.s []] 16)),.i .i64 1] [] (.tup [.l 0 0 1 1 3 false,.i .i64 1]) [.set (cellsO 47 [.i .i64 5,.i .i64 1,.s [97]])]) (kc2:Con Tryz.prog 52 [.sv 1 14 (shiftF 1 (shiftF 1 (listF 1 [.s [],.s [1,0,1,1,5,1,1,97,186,152,74,254],.s [],.s [],.s [],.s [],.s [],.s [],.s [],.s [],.s [],.s [],.s [],.s [],.s [],.s []] 16))),.i .i64 2] [] (.tup [.l0,.i .i64 0]) []) (o1:decide (0<=ow)=true) (o2:decide (ow<=2)=true) (o3:decide (0<=wr)=true) (o4:decide (wr<=2)=true) (o5:decide (1<=gn)=true) (o6:decide (gn<=1099511627776)=true):Con Tryz.prog 8 [.p 0 0,cfA,.i .i64 ow,.i .i64 wr,.i .i64 gn] [some chO,some nsO,some noO,some s.o,some (r3O c false)] (.tup [.p 5 0,.l 6 0 1 1 1 false,.i .i64 0]) [.keep,.keep,.keep,.keep,.keep,.set (lgO ow wr gn 1 1 1 []),.set (cellsO 39 [.l 7 0 1 1 3 false]),.set (cellsO 47 [.i .i64 5,.i .i64 1,.s [97]])]:=by
 have q1:=of_decide_eq_true o1
 have q2:=of_decide_eq_true o2
 exact con_d (op10_vq (c:=c) (s:=s) (ow:=ow) (wr:=wr) (gn:=gn) (o1:=o1) (o2:=o2) (o3:=o3) (o4:=o4) (o5:=o5) (o6:=o6)) (by repeat' first | exact trivial | assumption | exact rfl | exact nT (by assumption) | exact nF (by assumption) | assumption | assumption | assumption | exact nnT (by assumption) | exact nnF (by assumption) | (unfold rg;omega) | omega | apply And.intro | decide)
theorem aw0_vq (c:CS) (s:SS) (cc:CS) (ss:SS) (c4:CS) (s4:SS):VD Tryz.prog 9 [] [] (Orc.cal [] (.tup [.p 0 0,.i .i64 0]) [.set chO,.set nsO,.set noO,.set (SS.o
 s),.set (r3O c false)] (Orc.cal [] (.tup [cfA,.i .i64 0]) [] (Orc.cal [0,1,2,3,4] (.tup [.p 5 0,.l0,.i .i64 0]) [.keep,.keep,.keep,.keep,.keep,.set (lgO 0 0 1 1
 0 0 [])] (oc 9 (Orc.inl (oc 5 (Orc.inl (oc 4 (Orc.inl (Orc.c (Orc.cal [7] (.tup [.s [1,5,1,1,97,186,152,74,254],.i .i64 0]) [.keep] (Orc.c (Orc.inl (oc 8 (Orc.inl
 (oc 2 (Orc.inl (oc 2 (Orc.inl (Orc.inl (Orc.inl (Orc.c (Orc.inl (Orc.inl (Orc.inl (Orc.inl (Orc.c (Orc.cal [16] (.s [1,0,1]) [.keep] (Orc.inl (Orc.cal [0,1,2,3,4] (.i
 .i64 0) [.keep,.keep,.keep,.set (SS.o ss),.set (r3O cc false)] (oc 2 (Orc.inl (oc 4 (Orc.inl (oc 5 (Orc.inl (oc 5 (Orc.inl (oc 4 (Orc.cal [0,1,2,3,4] (.tup [.p 5 0,
 .l 6 0 1 1 1 false,.i .i64 0]) [.keep,.keep,.keep,.keep,.keep,.set (lgO 0 1 1 1 1 1 []),.set (cellsO 39 [.l 7 0 1 1 3 false]),.set (cellsO 47 [.i .i64 5,.i .i64 1,
 .s [97]])] (Orc.inl (Orc.cal [21] (.tup [.s r46,.i .i64 0]) [.keep] (Orc.c (Orc.inl (oc 10 (Orc.inl (Orc.c (Orc.inl (oc 4 (Orc.inl (oc 5 (Orc.inl (Orc.c (Orc.inl (oc 2
 (Orc.inl (Orc.cal [23] (.s [3]) [.keep] (Orc.inl (Orc.cal [0,1,2,3,4] (.i .i64 0) [.keep,.keep,.keep,.set (SS.o s4),.set (r3O c4 false)] (oc 5 (Orc.inl (oc 5 (Orc.inl
 (oc 9 Orc.z)))))))))))))))))))))))))))))))))))))))))))))))))))))))))))))))) (.b true) [] [] 25 (fun Lf=>Con Tryz.prog 6 [.i .i64 1] [] (.tup [.p 0 0,.i .i64 0]) [.set chO,
 .set nsO,.set noO,.set (SS.o s),.set (r3O c false)]/\Con Tryz.prog 7 [.i .i64 1] [] (.tup [cfA,.i .i64 0]) []/\Con Tryz.prog 8 [.p 0 0,cfA,.i .i64 0,.i .i64 0,.i
 .i64 1] [some chO,some nsO,some noO,some (SS.o s),some (r3O c false)] (.tup [.p 5 0,.l0,.i .i64 0]) [.keep,.keep,.keep,.keep,.keep,.set (lgO 0 0 1 1 0 0 [])]/\
 True/\True/\True/\rg (15)/\True/\True/\True/\rg (1)/\True/\Con Tryz.prog 30 [.l 0 0 1 1 3 true] [some (cellsO 47 [.i .i64 5,.i .i64 1,.s [97]])] (.tup [.s [1,5,
 1,1,97,186,152,74,254],.i .i64 0]) [.keep]/\rg (45)/\rg (44)/\((36:Int)≠(0:Int)/\(-9223372036854775808:Int)<=(1:Int)/\(1:Int)<=(9223372036854775807
 :Int))/\True/\True/\True/\rg (15)/\True/\True/\True/\rg (1)/\True/\rg (0)/\rg (80)/\rg (81)/\True/\rg (81)/\True/\True/\True/\rg (1)/\rg (45)/\rg (44)/\
 ((36:Int)≠(0:Int)/\(-9223372036854775808:Int)<=(1:Int)/\(1:Int)<=(9223372036854775807:Int))/\rg (0)/\rg (1)/\rg (36)/\((0:Int)<=(0:Int)/\(0:Int)
 <=(9:Int)/\0<=9/\9<=9)/\Con Tryz.prog 34 [.l 0 0 3 3 1 true] [some (cellsO 3 [.i .i64 1,.i .i64 0,.i .i64 1])] (.s [1,0,1]) [.keep]/\12<=1073741824/\True/\True
 /\True/\Con Tryz.prog 59 [.p 0 0,cfA,.i .i64 81,.s [1,0,1,1,5,1,1,97,186,152,74,254],.i .i64 0,.i .i64 1] [some chO,some nsO,some noO,some (SS.o s),some
 (r3O c false)] (.i .i64 0) [.keep,.keep,.keep,.set (SS.o ss),.set (r3O cc false)]/\rg (82)/\True/\rg (1)/\True/\rg (1)/\True/\True/\rg (1)/\True/\True/\True/\
 True/\True/\True/\rg (14)/\True/\True/\True/\rg (2)/\Con Tryz.prog 8 [.p 0 0,cfA,.i .i64 0,.i .i64 1,.i .i64 1] [some chO,some nsO,some noO,some (SS.o ss),
 some (r3O cc false)] (.tup [.p 5 0,.l 6 0 1 1 1 false,.i .i64 0]) [.keep,.keep,.keep,.keep,.keep,.set (lgO 0 1 1 1 1 1 []),.set (cellsO 39 [.l 7 0 1 1 3 false]),.set
 (cellsO 47 [.i .i64 5,.i .i64 1,.s [97]])]/\Con Tryz.prog 30 [.l 0 0 1 1 3 true] [some (cellsO 47 [.i .i64 5,.i .i64 1,.s d38])] (.tup [.s r46,.i .i64 0]) [.keep]/\rg
 (82)/\rg (81)/\((36:Int)≠(0:Int)/\(-9223372036854775808:Int)<=(2:Int)/\(2:Int)<=(9223372036854775807:Int))/\True/\rg (1)/\True/\True/\True/\True/\
 rg (2)/\rg (3)/\True/\rg (0)/\rg (80)/\Con Tryz.prog 34 [.l 0 0 1 1 1 true] [some (cellsO 3 [.i .i64 3])] (.s [3]) [.keep]/\True/\True/\True/\Con Tryz.prog 59 [.p 0
 0,cfA,.i .i64 80,.s [3],.i .i64 0,.i .i64 1] [some chO,some nsO,some noO,some (SS.o ss),some (r3O cc false)] (.i .i64 0) [.keep,.keep,.keep,.set (SS.o s4),.set
 (r3O c4 false)]/\True/\True/\True/\True/\True/\True/\True/\True/\True/\rg (3)/\Lf):=by unfold VD VQ;kernel_rfl
theorem aw_con (c cc c4:CS) (s ss s4:SS) (knwc:Con Tryz.prog 6 [.i .i64 1] [] (.tup [.p 0 0,.i .i64 0]) [.set chO,.set nsO,.set noO,.set s.o,.set (r3O c false)]) (kfsc:Con Tryz.prog 7 [.i .i64 1] [] (.tup [cfA,.i .i64 0]) []) (kopN:Con Tryz.prog 8 [.p 0 0,cfA,.i .i64 0,.i .i64 0,.i .i64 1] [some chO,some nsO,some noO,some s.o,some (r3O c false)] (.tup [.p 5 0,.l0,.i .i64 0]) [.keep,.keep,.keep,.keep,.keep,.set (lgO 0 0 1 1 0 0 [])]) (kopO:Con Tryz.prog 8 [.p 0 0,cfA,.i .i64 0,.i .i64 1,.i .i64 1] [some chO,some nsO,some noO,some ss.o,some (r3O cc false)] (.tup [.p 5 0,.l 6 0 1 1 1 false,.i .i64 0]) [.keep,.keep,.keep,.keep,.keep,.set (lgO 0 1 1 1 1 1 []),.set (cellsO 39 [.l 7 0 1 1 3 false]),.set (cellsO 47 [.i .i64 5,.i .i64 1,.s [97]])]) (kenA:Con Tryz.prog 30 [.l 0 0 1 1 3 true] [some (cellsO 47 [.i .i64 5,.i .i64 1,.s [97]])] (.tup [.s [1,5,1,1,97,186,152,74,254],.i .i64 0]) [.keep]) (kenW:Con Tryz.prog 30 [.l 0 0 1 1 3 true] [some (cellsO 47 [.i .i64 5,.i .i64 1,.s d38])] (.tup [.s r46,.i .i64 0]) [.keep]) (kf3:Con Tryz.prog 34 [.l 0 0 3 3 1 true] [some (cellsO 3 [.i .i64 1,.i .i64 0,.i .i64 1])] (.s [1,0,1]) [.keep]) (kf1:Con Tryz.prog 34 [.l 0 0 1 1 1 true] [some (cellsO 3 [.i .i64 3])] (.s [3]) [.keep]) (kwrA:Con Tryz.prog 59 [.p 0 0,cfA,.i .i64 81,.s [1,0,1,1,5,1,1,97,186,152,74,254],.i .i64 0,.i .i64 1] [some chO,some nsO,some noO,some s.o,some (r3O c false)] (.i .i64 0) [.keep,.keep,.keep,.set ss.o,.set (r3O cc false)]) (kwrB:Con Tryz.prog 59 [.p 0 0,cfA,.i .i64 80,.s [3],.i .i64 0,.i .i64 1] [some chO,some nsO,some noO,some ss.o,some (r3O cc false)] (.i .i64 0) [.keep,.keep,.keep,.set s4.o,.set (r3O c4 false)]):Con Tryz.prog 9 [] [] (.b true) []:=by
 exact con_d (aw0_vq (c:=c) (s:=s) (cc:=cc) (ss:=ss) (c4:=c4) (s4:=s4)) (by repeat' first | exact trivial | assumption | exact rfl | exact nT (by assumption) | exact nF (by assumption) | assumption | assumption | assumption | assumption | assumption | assumption | assumption | assumption | assumption | assumption | apply And.intro | decide)
end Go.Proofs.Ly
namespace Go.Proofs.Cl
open Go Go.Sim Go.Proofs Go.Proofs.Cd Go.Proofs.St Go.Proofs.Ly Go.Proofs.YtfpebgpcpoefpaaGreatDoor
noncomputable abbrev obL (c:CS) (s:SS):List (Option AObj):=[some chO,some nsO,some noO,some s.o,some (r3O c false)]
theorem bq_at {k:Nat} {c:CS} {s:SS} (h:LV k c s) (b:Nat) (hb:b<128):bQ c (Int.ofNat b)=blkQ (c.d b)/\bD c (Int.ofNat b)=blkD (c.d b):=
 bQ_at (c:=c) h.L.R.n (b:=Int.ofNat b) ⟨by simp,by simp;omega⟩
theorem LV.kbl {k:Nat} {c:CS} {s:SS} (h:LV k c s) (b:Nat) (hb:b<128):Con Tryz.prog 75 [.p 0 0,.i .i64 (Int.ofNat b)] [some (c.ro false),some s.o] (.agg [.i .i64 (Int.ofNat (blkQ (c.d b))),.s (blkD (c.d b))]) [.keep,.keep]:=by
 have q:=block_con c false s (Int.ofNat b) h.L.T
 rw [(bq_at h b hb).1,(bq_at h b hb).2] at q
 exact q
theorem LV.read {k:Nat} {c:CS} {s:SS} (h:LV k c s) (b:Nat) (hb:b<128):Con Tryz.prog 49 [.p 0 0,cfA,.i .i64 (Int.ofNat b)] (obL c s) (.tup [.agg [.i .i64 (Int.ofNat (blkQ (c.d b))),.s (blkD (c.d b))],.i .i64 0]) [.keep,.keep,.keep,.keep,.keep]:=
 rdK_con c s 0 0 0 _ _ (Int.ofNat b) h.kme h.kad (h.kbl b hb) (decide_eq_true (by simp)) (decide_eq_true (by simp;omega))
theorem apW {c:CS} {b x:Int} {d:List Nat} {v g:Int} (hm:mayA b x d v g=true) (hf:decide (g<fnc c v)=false) (hx:Int.ofNat (bQ c b)<x):applyW c false b x d v g=-1:=by
 unfold applyW
 rw [hm,hf,decide_eq_false (show ¬x=Int.ofNat (bQ c b) by omega),decide_eq_false (show ¬x<=Int.ofNat (bQ c b) by omega)]
 rfl
theorem wl_six {n:Nat} (hn:n<=1099511627776):wl n<=6:=by
 obtain ⟨_,h,_⟩:=mR_ok (n:=n) (by omega)
 unfold wl
 rcases Nat.lt_or_ge 5 (mR n) with q | q
 · have a:=h 5 q
   have b:128 ^ 5=34359738368:=by decide
   rw [b] at a
   have:128*34359738368<=n:=by omega
   omega
 · omega
theorem btx_len {n:Nat} {d:List Nat} (hn:n<=1099511627776) (hd:d.length<=44):(btx n d).length<=51:=by
 unfold btx
 cases decide (Int.ofNat n=(0:Int)) && (natsEq d [] && true) with
 | true=>exact Nat.zero_le _
 | false=>
   show (bytesF (wl n) (Cl.iF (wB n)) ++ d).length<=51
   rw [List.length_append,bytesF_len]
   have:=wl_six hn
   omega
theorem LV.write {k:Nat} {c:CS} {s:SS} (h:LV k c s) (hk:k<1001) (b:Nat) (hb:b<128) (d:List Nat) (hd:∀y∈d,y<256) (hl:d.length<=44) (hq:blkQ (c.d b)<1099511627776) (v g:Int) (hv:0<=v/\v<=2) (hg:1<=g/\g<=1099511627776) :
 ∃C S,Con Tryz.prog 59 [.p 0 0,cfA,.i .i64 (Int.ofNat b),.s d,.i .i64 v,.i .i64 g] (obL c s) (.i .i64 0) [.keep,.keep,.keep,.set S.o,.set (r3O C false)]/\LV (k+1) C S/\C.d b=btx (blkQ (c.d b)+1) d/\∀j,j≠b->C.d j=c.d j:=by
 have hkk:=h.L.R.hk
 have qb:=bq_at h b hb
 have hm:mayA (Int.ofNat b) (Int.ofNat (blkQ (c.d b))+1) d v g=true:=by
  unfold mayA
  simp only [Bool.and_eq_true]
  exact ⟨decide_eq_true (by simp),decide_eq_true (by simp;omega),decide_eq_true (by simp;omega),decide_eq_true (by simp;omega),decide_eq_true (by simp;omega),decide_eq_true hv.1,decide_eq_true hv.2,decide_eq_true hg.1,decide_eq_true hg.2⟩
 have hf:decide (g<fnc c v)=false:=by
  obtain ⟨_,_,e2,e3,e4⟩:=h.mv5
  rw [fnc_at c hv]
  refine decide_eq_false ?_
  have:v.toNat=0\/v.toNat=1\/v.toNat=2:=by omega
  rcases this with e | e | e<;>rw [e]<;>simp only [e2,e3,e4,Nat.add_zero,show 2+1=3 from rfl,show 2+2=4 from rfl]<;>simp<;>omega
 have w:=apW (c:=c) (b:=Int.ofNat b) (x:=Int.ofNat (blkQ (c.d b))+1) (d:=d) hm hf (by rw [qb.1];omega)
 have a:=apply_con h.L.R.inv h.L.T (by omega) false (Int.ofNat b) (Int.ofNat (blkQ (c.d b))+1) d v g hd
 rw [w] at a
 have tn:(Int.ofNat (blkQ (c.d b))+1).toNat=blkQ (c.d b)+1:=by simp<;>omega
 rw [tn] at a
 obtain ⟨p1,p2,p3,p4⟩:=h.L.put hk b (by omega) (btx (blkQ (c.d b)+1) d) (btx_lt (by omega) hd) (btx_len (by omega) hl)
 obtain ⟨e1,e2,e3,e4⟩:=act_yes c false s (Int.ofNat b) (btx (blkQ (c.d b)+1) d)
 unfold Act at a
 rw [e1,e2,e3,e4,p1] at a
 refine ⟨c.putC s (Int.ofNat b) (btx (blkQ (c.d b)+1) d),c.putS s (Int.ofNat b) (btx (blkQ (c.d b)+1) d),?_,⟨p2,by rw [p4 128 (by omega)];exact h.m⟩,p3,p4⟩
 exact wrO_con c s 0 0 0 _ _ (Int.ofNat b) d v g 0 _ _ false h.kme h.kad (h.kbl b hb) a (decide_eq_true (by simp)) (decide_eq_true (by simp;omega)) (decide_eq_true (by simp;omega)) (decide_eq_true hv.1) (decide_eq_true hv.2) (decide_eq_true hg.1) (decide_eq_true hg.2) (decide_eq_false (by simp;omega)) rfl rfl
theorem LV.new:∃c s,Con Tryz.prog 6 [.i .i64 1] [] (.tup [.p 0 0,.i .i64 0]) [.set chO,.set nsO,.set noO,.set s.o,.set (r3O c false)]/\LV 2 c s/\∀j,j<128->c.d j=[]:=by
 have L0:=LI.new
 have m0:∀j,mV (opened (SS.new 258) 129) j=mtV [] j:=fun j=>by
  rw [opened_mV,(op_new (j:=128) (by decide)).2]
 have e0:∀j,j<5->mV (opened (SS.new 258) 129) j=0:=fun j hj=>by
  rw [m0]
  rcases j with _ | _ | _ | _ | _ | j<;>first | kernel_rfl | omega
 obtain ⟨p1,p2,p3,p4⟩:=L0.put (by decide) 128 (by decide) [1,0,0,0,0] (fun y hy=>by simp at hy;omega) (by decide)
 have a1:=adoptI_con L0.R.inv L0.T (by decide) false 1
 have t1:adoptT (opened (SS.new 258) 129) (1:Int).toNat=[1,0,0,0,0]:=by
  unfold adoptT
  rw [e0 1 (by decide),e0 2 (by decide),e0 3 (by decide),e0 4 (by decide)];kernel_rfl
 have w1:adoptI (opened (SS.new 258) 129) false 1=-1:=by
  unfold adoptI adoptW
  rw [e0 0 (by decide)];rfl
 have k1:=act_put a1 w1 t1 p1
 have m1:∀j,mV ((opened (SS.new 258) 129).putC (SS.new 258) (Int.ofNat 128) [1,0,0,0,0]) j=mtV [1,0,0,0,0] j:=fun j=>by rw [mV_eq p2.R.n,p3]
 obtain ⟨r1,r2,r3,r4⟩:=p2.put (by decide) 128 (by decide) [1,1,0,0,0] (fun y hy=>by simp at hy;omega) (by decide)
 have a2:=joinI_con p2.R.inv p2.T (by decide) false 1
 have t2:joinT ((opened (SS.new 258) 129).putC (SS.new 258) (Int.ofNat 128) [1,0,0,0,0]) (1:Int).toNat=[1,1,0,0,0]:=by
  unfold joinT
  rw [m1,m1,m1,m1];kernel_rfl
 have w2:joinI ((opened (SS.new 258) 129).putC (SS.new 258) (Int.ofNat 128) [1,0,0,0,0]) false 1=-1:=by
  unfold joinI joinW
  rw [m1];kernel_rfl
 have k2:=act_put a2 w2 t2 r1
 refine ⟨_,_,nw_con _ _ _ _ _ _ (new_con 258 (by decide) (by decide)) (ropen_con (SS.new 258) (by decide) (by decide) rfl (Byt.new 258)) k1 k2,⟨r2,r3⟩,fun j hj=>?_⟩
 exact (r4 j (by omega)).trans ((p4 j (by omega)).trans ((opened_at (SS.new 258) (j:=j) (by omega)).2.1.trans (op_new (j:=j) (by omega)).2))
end Go.Proofs.Cl
namespace Go.Proofs.Ly
open Go Go.Sim Go.Proofs Go.Proofs.Cd Go.Proofs.St Go.Proofs.Cl Go.Proofs.YtfpebgpcpoefpaaGreatDoor
theorem VR_si {l:List Nat} {k:IntKind} {n:Int} (ρ ρ':Rho) (x:Value) (h:VR ρ (.tup [.s l,.i k n]) x):VR ρ' (.tup [.s l,.i k n]) x:=by
 cases h with
 | tup cs cs' h2=>
   cases h2 with
   | cons a a' r r' a1 r1=>
     cases r1 with
     | cons a a' r r' a2 r2=>
       cases r2
       cases a2
       cases a1 with
       | s _ s hs=>exact .tup _ _ (.cons _ _ _ _ (.s _ _ hs) (.cons _ _ _ _ (.i _ _) .nil))
theorem enc1_con (d r:List Nat) (ex:Bool) (hd:Byt d) (h:encT 1 (fun _=>5) (fun _=>1) (fun _=>d)=r) (he:encE 1 (fun _=>5) (fun _=>1) (fun _=>d)=0) :
 Con Tryz.prog 30 [.l 0 0 1 1 3 ex] [some (cellsO 47 [.i .i64 5,.i .i64 1,.s d])] (.tup [.s r,.i .i64 0]) [.keep]:=by
 have q:=enc_con 1 (fun _=>5) (fun _=>1) (fun _=>d) (by decide) (fun _ _=>hd)
 rw [h,he] at q
 exact (q.pre (pargs':=[.sv 3 1 (listF 3 [.i .i64 5,.i .i64 1,.s d] 1)]) ⟨by
  refine .sv fun i j hi hj=>?_
  obtain rfl:i=0:=by omega
  rcases j with _ | _ | _ | j<;>first | rfl | omega,trivial⟩).borrow (pargs0:=[.l 0 0 1 1 3 ex]) (objs:=[some (cellsO 47 [.i .i64 5,.i .i64 1,.s d])]) [0] (frzP 0 (.cells 3 [.i .i64 5,.i .i64 1,.s d]) (.tup [.l 0 0 1 1 3 ex])/\True)
  (by cases ex<;>kernel_rfl) (by cases ex<;>kernel_rfl) (by cases ex<;>kernel_rfl) ⟨by simp [frzP,frzsP],trivial⟩ (by kernel_rfl) (by kernel_rfl) VR_si
theorem enc0_con:Con Tryz.prog 30 [.l0] [] (.tup [.s [],.i .i64 2]) []:=by
 have q:=enc_con 0 (fun _=>0) (fun _=>0) (fun _=>[]) (by decide) (fun i hi=>by omega)
 rw [show encT 0 (fun _=>0) (fun _=>0) (fun _=>[])=[] by kernel_rfl,show encE 0 (fun _=>0) (fun _=>0) (fun _=>[])=2 by kernel_rfl] at q
 intro ρ w args' ha hr hno
 refine q ρ w args' ?_ hr hno
 cases ha with
 | cons v v' r r' h1 h2=>
   cases h1
   exact .cons _ _ _ _ (.sv _ _ _ _ (.sv0 _ _)) h2
theorem forms3_con (a b d:Int) (ha:0<=a/\a<=1099511627776) (hb:0<=b/\b<=1099511627776) (hd:0<=d/\d<=1099511627776) :
 Con Tryz.prog 34 [.l 0 0 3 3 1 true] [some (cellsO 3 [.i .i64 a,.i .i64 b,.i .i64 d])] (.s (fN a.toNat ++ fN b.toNat ++ fN d.toNat)) [.keep]:=by
 have l1:=fN_le (n:=a.toNat) (by omega)
 have l2:=fN_le (n:=b.toNat) (by omega)
 have l3:=fN_le (n:=d.toNat) (by omega)
 have k0:=wnF_con a.toNat (by omega)
 rw [show Int.ofNat a.toNat=a by simp;omega] at k0
 have k1:=wnJ_con (fN a.toNat) b hb.1 hb.2 (by omega)
 have k2:=wnJ_con (fN a.toNat ++ fN b.toNat) d hd.1 hd.2 (by rw [List.length_append];omega)
 have k3:=wb_con (fN a.toNat ++ fN b.toNat ++ fN d.toNat).length (tB (fN a.toNat ++ fN b.toNat ++ fN d.toNat)) (by rw [List.length_append,List.length_append];omega)
 have q:=f3_con a b d _ _ _ _ _ _ k0 k1 k2 k3 (u8_of _)
 rw [bts_eq (((fN_byt (by omega)).app (fN_byt (by omega))).app (fN_byt (by omega)))] at q
 exact q
theorem forms1_con (a:Int) (ha:0<=a/\a<=1099511627776):Con Tryz.prog 34 [.l 0 0 1 1 1 true] [some (cellsO 3 [.i .i64 a])] (.s (fN a.toNat)) [.keep]:=by
 have l1:=fN_le (n:=a.toNat) (by omega)
 have k0:=wnF_con a.toNat (by omega)
 rw [show Int.ofNat a.toNat=a by simp;omega] at k0
 have q:=f1_con a _ _ k0 (wb_con _ _ (by omega)) (u8_of _)
 rw [bts_eq (fN_byt (by omega))] at q
 exact q
def frm1:List Nat:=[1,0,1,1,5,1,1,97,186,152,74,254]
def rec1:List Nat:=[1,5,1,1,97,186,152,74,254]
theorem sum1_con:Con Tryz.prog 87 [.l 0 0 5 9 1 false] [some (cellsO 5 [.i .u8 1,.i .u8 5,.i .u8 1,.i .u8 1,.i .u8 97,.i .u8 186,.i .u8 152,.i .u8 74,.i .u8 254])] (.i .u32 (Int.ofNat (sumN (tB [1,5,1,1,97]) 5))) [.keep]:=
 ((sum_con 5 (tB [1,5,1,1,97]) (by decide) (tB_lt (by intro y hy;simp at hy;omega))).pre (pargs':=[.sv 1 5 (listF 1 [.i .u8 1,.i .u8 5,.i .u8 1,.i .u8 1,.i .u8 97,.i .u8 186,.i .u8 152,.i .u8 74,.i .u8 254] 5)]) ⟨by
   refine .sv fun i j hi hj=>?_
   obtain rfl:j=0:=by omega
   rcases i with _ | _ | _ | _ | _ | i<;>first | rfl | omega,trivial⟩).borrow (pargs0:=[.l 0 0 5 9 1 false]) (objs:=[some (cellsO 5 [.i .u8 1,.i .u8 5,.i .u8 1,.i .u8 1,.i .u8 97,.i .u8 186,.i .u8 152,.i .u8 74,.i .u8 254])]) [0] (frzP 0 (.cells 9 [.i .u8 1,.i .u8 5,.i .u8 1,.i .u8 1,.i .u8 97,.i .u8 186,.i .u8 152,.i .u8 74,.i .u8 254]) (.tup [.l 0 0 5 9 1 false])/\True)
   (by kernel_rfl) (by kernel_rfl) (by kernel_rfl) ⟨by simp [frzP,frzsP],trivial⟩ (by kernel_rfl) (by kernel_rfl) VR_i
theorem jn1_con:Con Tryz.prog 79 [.sv 1 15 (shiftF 1 (listF 1 [.s [],.s frm1,.s [],.s [],.s [],.s [],.s [],.s [],.s [],.s [],.s [],.s [],.s [],.s [],.s [],.s []] 16))] [] (.s rec1) []:=
 (joined_con 15 1 (fun i=>bif Nat.beq i 0 then frm1 else []) (fun i=>bif Nat.beq i 0 then 1 else 0) (fun i=>bif Nat.beq i 0 then rec1 else []) (by decide) (by decide) (by decide) rfl (fun k _=>by cases Nat.beq k 0<;>simp [rec1]) (by decide)
   (fun k _=>by cases Nat.beq k 0 with | true=>exact pc1_con | false=>exact pc0_con)).pre (pargs':=[.sv 1 15 (shiftF 1 (listF 1 [.s [],.s frm1,.s [],.s [],.s [],.s [],.s [],.s [],.s [],.s [],.s [],.s [],.s [],.s [],.s [],.s []] 16))]) ⟨by
   refine .sv fun i j hi hj=>?_
   obtain rfl:j=0:=by omega
   rcases i with _ | _ | _ | _ | _ | _ | _ | _ | _ | _ | _ | _ | _ | _ | _ | i<;>first | rfl | omega,trivial⟩
theorem f3_lit:Con Tryz.prog 34 [.l 0 0 3 3 1 true] [some (cellsO 3 [.i .i64 1,.i .i64 0,.i .i64 1])] (.s [1,0,1]) [.keep]:=by
 have q:=forms3_con 1 0 1 (by decide) (by decide) (by decide)
 rw [show fN (1:Int).toNat ++ fN (0:Int).toNat ++ fN (1:Int).toNat=[1,0,1] by kernel_rfl] at q
 exact q
theorem f1_lit:Con Tryz.prog 34 [.l 0 0 1 1 1 true] [some (cellsO 3 [.i .i64 3])] (.s [3]) [.keep]:=by
 have q:=forms1_con 3 (by decide)
 rw [show fN (3:Int).toNat=[3] by kernel_rfl] at q
 exact q
theorem encA_con (ex:Bool):Con Tryz.prog 30 [.l 0 0 1 1 3 ex] [some (cellsO 47 [.i .i64 5,.i .i64 1,.s [97]])] (.tup [.s rec1,.i .i64 0]) [.keep]:=
 enc1_con [97] rec1 ex (by intro y hy;simp at hy;omega) (by kernel_rfl) (by kernel_rfl)
theorem encW_con:Con Tryz.prog 30 [.l 0 0 1 1 3 true] [some (cellsO 47 [.i .i64 5,.i .i64 1,.s d38])] (.tup [.s r46,.i .i64 0]) [.keep]:=
 enc1_con d38 r46 true (by intro y hy;simp [d38] at hy;omega) (by kernel_rfl) (by kernel_rfl)
theorem LV.blocks {k:Nat} {c:CS} {s:SS} (h:LV k c s) (hd:Int) (h0:0<=hd) (h1:hd<=112) (T:Int->List Nat) (hT:∀b:Int,hd<=b->b<=hd+15->blkD (c.d b.toNat)=T b) :
 Con Tryz.prog 26 [.p 0 0,cfA,.i .i64 hd] (obL c s) (.tup [.sv 1 16 (listF 1 [.s (T (hd+0)),.s (T (hd+1)),.s (T (hd+2)),.s (T (hd+3)),.s (T (hd+4)),.s (T (hd+5)),.s (T (hd+6)),.s (T (hd+7)),.s (T (hd+8)),.s (T (hd+9)),.s (T (hd+10)),.s (T (hd+11)),.s (T (hd+12)),.s (T (hd+13)),.s (T (hd+14)),.s (T (hd+15))] 16),.i .i64 0]) [.keep,.keep,.keep,.keep,.keep]:=by
 have q:=wr_con hd c s (fun b=>blkQ (c.d b.toNat)) (fun b=>blkD (c.d b.toNat)) h0 h1 (fun b b0 b1=>by
  have r:=Go.Proofs.Cl.LV.read h b.toNat (by omega)
  rw [show Int.ofNat b.toNat=b by simp;omega] at r
  exact r)
 rw [hT _ (by omega) (by omega),hT _ (by omega) (by omega),hT _ (by omega) (by omega),hT _ (by omega) (by omega),hT _ (by omega) (by omega),hT _ (by omega) (by omega),hT _ (by omega) (by omega),hT _ (by omega) (by omega),hT _ (by omega) (by omega),hT _ (by omega) (by omega),hT _ (by omega) (by omega),hT _ (by omega) (by omega),hT _ (by omega) (by omega),hT _ (by omega) (by omega),hT _ (by omega) (by omega),hT _ (by omega) (by omega)] at q
 exact q
theorem LV.openN {k:Nat} {c:CS} {s:SS} (h:LV k c s) (ow wr gn:Int) (ho:0<=ow/\ow<=2) (hw:0<=wr/\wr<=2) (hg:1<=gn/\gn<=1099511627776) (hT:∀b:Int,80+16*ow<=b->b<=80+16*ow+15->blkD (c.d b.toNat)=[]) :
 Con Tryz.prog 8 [.p 0 0,cfA,.i .i64 ow,.i .i64 wr,.i .i64 gn] (obL c s) (.tup [.p 5 0,.l0,.i .i64 0]) [.keep,.keep,.keep,.keep,.keep,.set (lgO ow wr gn 1 0 0 [])]:=
 op0_con c s ow wr gn (LV.blocks h (80+16*ow) (by omega) (by omega) (fun _=>[]) hT) (fi0_con enc0_con) (decide_eq_true ho.1) (decide_eq_true ho.2) (decide_eq_true hw.1) (decide_eq_true hw.2) (decide_eq_true hg.1) (decide_eq_true hg.2)
theorem awake_con:Con Tryz.prog 9 [] [] (.b true) []:=by
 obtain ⟨c,s,kn,l0,z0⟩:=LV.new
 have y0:∀j,j<128->blkD (c.d j)=[]/\blkQ (c.d j)=0:=fun j hj=>by rw [z0 j hj];exact ⟨by kernel_rfl,by kernel_rfl⟩
 obtain ⟨cc,ss,ka,l1,a1,a2⟩:=Go.Proofs.Cl.LV.write l0 (by decide) 81 (by decide) frm1 (fun y hy=>by simp [frm1] at hy;omega) (by decide) (by rw [(y0 81 (by decide)).2];decide) 0 1 (by decide) (by decide)
 obtain ⟨c4,s4,kb,l2,b1,b2⟩:=Go.Proofs.Cl.LV.write l1 (by decide) 80 (by decide) [3] (fun y hy=>by simp at hy;omega) (by decide) (by rw [a2 80 (by decide),(y0 80 (by decide)).2];decide) 0 1 (by decide) (by decide)
 have e1:blkD (cc.d 81)=frm1:=by
  rw [a1,(y0 81 (by decide)).2];kernel_rfl
 have kO:Con Tryz.prog 26 [.p 0 0,cfA,.i .i64 (80+16*0)] (obL cc ss) (.tup [.sv 1 16 (listF 1 [.s [],.s frm1,.s [],.s [],.s [],.s [],.s [],.s [],.s [],.s [],.s [],.s [],.s [],.s [],.s [],.s []] 16),.i .i64 0]) [.keep,.keep,.keep,.keep,.keep]:=
  LV.blocks l1 (80+16*0) (by decide) (by decide) (fun b=>bif decide (b=81) then frm1 else []) (fun b h0 h1=>by
   by_cases e:b=81
   · subst e;exact e1
   · rw [a2 b.toNat (by omega),(y0 b.toNat (by omega)).1,decide_eq_false e];rfl)
 have hs:decide ((4266301626:Int)=Int.ofNat (sumN (tB [1,5,1,1,97]) 5))=true:=by kernel_rfl
 exact aw_con c cc c4 s ss s4 kn fs_con (LV.openN l0 0 0 1 (by decide) (by decide) (by decide) (fun b h0 h1=>(y0 b.toNat (by omega)).1))
  (op1_con cc ss 0 1 1 kO (fi1_con _ sum1_con (encA_con false) f3_lit hs jn1_con) (fi2_con enc0_con) rfl rfl rfl rfl rfl rfl) (encA_con true) encW_con f3_lit f1_lit ka kb
end Go.Proofs.Ly
namespace Go.Proofs.Cd
open Go Go.Sim Go.Proofs Go.Proofs.YtfpebgpcpoefpaaGreatDoor
noncomputable def rstep (x b k:Nat):Nat:=bif Nat.beq (Nat.land (Nat.shiftRight b k) 1) (Nat.land x 1) then Nat.shiftRight x 1 else Nat.xor (Nat.shiftRight x 1) 2197175160
noncomputable def rsteps (b:Nat):Nat->Nat->Nat
 | 0,x=>x
 | k+1,x=>rstep (rsteps b k x) b k
theorem land1_or (x:Nat):Nat.land x 1=0\/Nat.land x 1=1:=by have:=land1 x;omega
theorem rstep_step (x b k:Nat):stepN (Nat.xor x (Nat.shiftRight b k))=Nat.xor (rstep x b k) (Nat.shiftRight b (k+1)):=by
 have e1:Nat.shiftRight (Nat.xor x (Nat.shiftRight b k)) 1=Nat.xor (Nat.shiftRight x 1) (Nat.shiftRight b (k+1)):=by
  show (x ^^^ (b >>>k)) >>>1=(x >>>1) ^^^ (b >>>(k+1))
  rw [Nat.shiftRight_xor_distrib,Nat.shiftRight_add]
 have e2:Nat.land (Nat.xor x (Nat.shiftRight b k)) 1=Nat.xor (Nat.land x 1) (Nat.land (Nat.shiftRight b k) 1):=by
  show (x ^^^ (b >>>k)) &&& 1=(x &&& 1) ^^^ ((b >>>k) &&& 1)
  rw [Nat.and_xor_distrib_right]
 unfold stepN rstep
 rw [e1,e2]
 rcases land1_or x with h1 | h1<;>rcases land1_or (Nat.shiftRight b k) with h2 | h2<;>rw [h1,h2]
 · show ((x >>>1) ^^^ (b >>>(k+1))) ^^^ 0=(x >>>1) ^^^ (b >>>(k+1))
   rw [Nat.xor_zero]
 · show ((x >>>1) ^^^ (b >>>(k+1))) ^^^ 2197175160=((x >>>1) ^^^ 2197175160) ^^^ (b >>>(k+1))
   rw [Nat.xor_assoc,Nat.xor_comm (b >>>(k+1)),Nat.xor_assoc]
 · show ((x >>>1) ^^^ (b >>>(k+1))) ^^^ 2197175160=((x >>>1) ^^^ 2197175160) ^^^ (b >>>(k+1))
   rw [Nat.xor_assoc,Nat.xor_comm (b >>>(k+1)),Nat.xor_assoc]
 · show ((x >>>1) ^^^ (b >>>(k+1))) ^^^ 0=(x >>>1) ^^^ (b >>>(k+1))
   rw [Nat.xor_zero]
theorem stepsN_s (r:Nat):∀n,stepsN (n+1) r=stepN (stepsN n r):=fun n=>by
 induction n generalizing r with
 | zero=>rfl
 | succ n ih=>rw [stepsN_add,ih (stepN r)];rfl
theorem rsteps_steps (b x:Nat):∀k,stepsN k (Nat.xor x b)=Nat.xor (rsteps b k x) (Nat.shiftRight b k)
 | 0=>by
   show x ^^^ b=x ^^^ (b >>>0)
   rw [Nat.shiftRight_zero]
 | k+1=>by
   rw [stepsN_s,rsteps_steps b x k,rstep_step];rfl
theorem rsteps8 {b:Nat} (x:Nat) (hb:b<256):rsteps b 8 x=stepsN 8 (Nat.xor x b):=by
 rw [rsteps_steps]
 have e:Nat.shiftRight b 8=0:=by
  show b >>>8=0
  rw [Nat.shiftRight_eq_div_pow];omega
 rw [e]
 show _=rsteps b 8 x ^^^ 0
 rw [Nat.xor_zero]
theorem rstep_lt {x:Nat} (h:x<4294967296) (b k:Nat):rstep x b k<4294967296:=by
 have h1:Nat.shiftRight x 1<4294967296:=by
  show x >>>1<_
  rw [Nat.shiftRight_eq_div_pow];omega
 unfold rstep
 cases Nat.beq (Nat.land (Nat.shiftRight b k) 1) (Nat.land x 1) with
 | true=>exact h1
 | false=>exact Nat.xor_lt_two_pow (n:=32) h1 (by decide)
theorem rsteps_lt {x:Nat} (h:x<4294967296) (b:Nat):∀k,rsteps b k x<4294967296
 | 0=>h
 | k+1=>rstep_lt (rsteps_lt h b k) b k
theorem rsumi_vc (L i k:Nat) (b:Nat->Nat) (x:Nat) (K:Res->Orc->Prop):runK Tryz.prog 1000000 (.code (loopAt Tryz.prog 124 1) 38 (mkT [(0,.sv 1 L (byF b)),(3,.i .u32 (Int.ofNat x)),(4,.i .i64 (Int.ofNat i)),(5,.i .i64 (Int.ofNat k))]) (mkH [])) (Orc.s (Orc.s Orc.z Orc.z) Orc.z) K=((decide (Int.ofNat k<8)=true->(0<=Int.ofNat i/\Int.ofNat i<↑L)/\True/\True/\True/\0<=wrapA .u64 (Int.ofNat k)/\True/\True/\(0:Int)<=(1:Int)/\((!decide (wrapA .u32 ↑(BitVec.toNat (BitVec.ofInt 32 (Int.fdiv (wrapA .u32 (Int.ofNat (b i))) (2 ^ min (Int.toNat (wrapA .u64 (Int.ofNat k))) 32)) &&& BitVec.ofInt 32 1))=wrapA .u32 ↑(BitVec.toNat (BitVec.ofInt 32 (Int.ofNat x) &&& BitVec.ofInt 32 1))))=true->True/\((-9223372036854775808)<=Int.ofNat k+1/\Int.ofNat k+(1:Int)<=(9223372036854775807:Int))/\K (Res.st XO.nrm (T.n (some (AV.sv 1 L (byF b))) (T.n none
 (T.n (some (AV.i .u32 (wrapA .u32 ↑(BitVec.toNat (BitVec.ofInt 32 (Int.fdiv (Int.ofNat x) 2) ^^^ BitVec.ofInt 32 2197175160))))) (T.n (some (AV.i .u32 (wrapA .u32 ↑(BitVec.toNat (BitVec.ofInt 32 (Int.ofNat x) &&& BitVec.ofInt 32 1))))) (T.n (some (AV.b (decide (Int.ofNat k<8)))) (T.n (some (AV.i .u32 (wrapA .u32 ↑(BitVec.toNat (BitVec.ofInt 32 (Int.fdiv (wrapA .u32 (Int.ofNat (b i))) (2 ^ min (Int.toNat (wrapA .u64 (Int.ofNat k))) 32)) &&& BitVec.ofInt 32 1))))) T.e T.e) T.e) (T.n (some (AV.i .i64 (Int.ofNat k))) T.e T.e)) (T.n none (T.n (some (AV.i .i64 (Int.ofNat i))) (T.n (some (AV.i .u32 (wrapA .u32 ↑(BitVec.toNat (BitVec.ofInt 32 (Int.fdiv (Int.ofNat x) 2) ^^^ BitVec.ofInt 32 2197175160))))) T.e T.e) T.e) (T.n (some (AV.i .u32 (Int.ofNat x))) T.e T.e))) (T.n (some (AV.i .i64 (Int.ofNat k+1))) (T.n none (T.n (some (AV.i .i64 (Int.ofNat k+1))) (T.n (some (AV.b !decide (wrapA
 .u32 ↑(BitVec.toNat (BitVec.ofInt 32 (Int.fdiv (wrapA .u32 (Int.ofNat (b i))) (2 ^ min (Int.toNat (wrapA .u64 (Int.ofNat k))) 32)) &&& BitVec.ofInt 32 1))=wrapA .u32 ↑(BitVec.toNat (BitVec.ofInt 32 (Int.ofNat x) &&& BitVec.ofInt 32 1))))) T.e T.e) T.e) (T.n (some (AV.i .u32 (Int.fdiv (wrapA .u32 (Int.ofNat (b i))) (2 ^ min (Int.toNat (wrapA .u64 (Int.ofNat k))) 32)))) T.e T.e)) (T.n none (T.n (some (AV.i .u8 (Int.ofNat (b i)))) T.e T.e) (T.n (some (AV.i .u32 (Int.ofNat x))) T.e T.e)))) (T.n none (T.n (some (AV.i .i64 (Int.ofNat i))) (T.n none (T.n (some (AV.i .i64 (Int.ofNat k))) (T.n (some (AV.i .u32 (wrapA .u32 ↑(BitVec.toNat (BitVec.ofInt 32 (Int.ofNat x) &&& BitVec.ofInt 32 1))))) T.e T.e) T.e) (T.n (some (AV.i .u64 (wrapA .u64 (Int.ofNat k)))) T.e T.e)) (T.n none (T.n (some (AV.pv 1 (byF b i))) T.e T.e) (T.n (some (AV.i .u32 (wrapA .u32 ↑(BitVec.toNat (BitVec.ofInt 32 (Int.ofNat
 x) &&& BitVec.ofInt 32 1))))) T.e T.e))) (T.n (some (AV.i .u32 (wrapA .u32 ↑(BitVec.toNat (BitVec.ofInt 32 (Int.fdiv (wrapA .u32 (Int.ofNat (b i))) (2 ^ min (Int.toNat (wrapA .u64 (Int.ofNat k))) 32)) &&& BitVec.ofInt 32 1))))) (T.n none (T.n (some (AV.sv 1 L (byF b))) (T.n (some (AV.i .u32 (Int.fdiv (Int.ofNat x) 2))) T.e T.e) T.e) (T.n (some (AV.i .u32 (wrapA .u32 ↑(BitVec.toNat (BitVec.ofInt 32 (Int.fdiv (wrapA .u32 (Int.ofNat (b i))) (2 ^ min (Int.toNat (wrapA .u64 (Int.ofNat k))) 32)) &&& BitVec.ofInt 32 1))))) T.e T.e)) (T.n (some (AV.i .i64 (Int.ofNat k))) (T.n (some (AV.i .u32 (wrapA .u32 (Int.ofNat (b i))))) T.e T.e) (T.n (some (AV.i .u32 (Int.fdiv (Int.ofNat x) 2))) T.e T.e))))) ⟨T.e,0,[]⟩) Orc.z)/\((!decide (wrapA .u32 ↑(BitVec.toNat (BitVec.ofInt 32 (Int.fdiv (wrapA .u32 (Int.ofNat (b i))) (2 ^ min (Int.toNat (wrapA .u64 (Int.ofNat k))) 32)) &&& BitVec.ofInt 32 1)) =
 wrapA .u32 ↑(BitVec.toNat (BitVec.ofInt 32 (Int.ofNat x) &&& BitVec.ofInt 32 1))))=false->((-9223372036854775808)<=Int.ofNat k+1/\Int.ofNat k+(1:Int)<=(9223372036854775807:Int))/\K (Res.st XO.nrm (T.n (some (AV.sv 1 L (byF b))) (T.n none (T.n (some (AV.i .u32 (Int.fdiv (Int.ofNat x) 2))) (T.n (some (AV.i .u32 (wrapA .u32 ↑(BitVec.toNat (BitVec.ofInt 32 (Int.ofNat x) &&& BitVec.ofInt 32 1))))) (T.n (some (AV.b (decide (Int.ofNat k<8)))) (T.n (some (AV.i .u32 (wrapA .u32 ↑(BitVec.toNat (BitVec.ofInt 32 (Int.fdiv (wrapA .u32 (Int.ofNat (b i))) (2 ^ min (Int.toNat (wrapA .u64 (Int.ofNat k))) 32)) &&& BitVec.ofInt 32 1))))) T.e T.e) T.e) (T.n (some (AV.i .i64 (Int.ofNat k))) T.e T.e)) (T.n none (T.n (some (AV.i .i64 (Int.ofNat i))) T.e T.e) (T.n (some (AV.i .u32 (Int.ofNat x))) T.e T.e))) (T.n (some (AV.i .i64 (Int.ofNat k+1))) (T.n none (T.n (some (AV.i .i64 (Int.ofNat k
 +1))) (T.n (some (AV.b !decide (wrapA .u32 ↑(BitVec.toNat (BitVec.ofInt 32 (Int.fdiv (wrapA .u32 (Int.ofNat (b i))) (2 ^ min (Int.toNat (wrapA .u64 (Int.ofNat k))) 32)) &&& BitVec.ofInt 32 1))=wrapA .u32 ↑(BitVec.toNat (BitVec.ofInt 32 (Int.ofNat x) &&& BitVec.ofInt 32 1))))) T.e T.e) T.e) (T.n (some (AV.i .u32 (Int.fdiv (wrapA .u32 (Int.ofNat (b i))) (2 ^ min (Int.toNat (wrapA .u64 (Int.ofNat k))) 32)))) T.e T.e)) (T.n none (T.n (some (AV.i .u8 (Int.ofNat (b i)))) T.e T.e) (T.n (some (AV.i .u32 (Int.ofNat x))) T.e T.e)))) (T.n none (T.n (some (AV.i .i64 (Int.ofNat i))) (T.n none (T.n (some (AV.i .i64 (Int.ofNat k))) (T.n (some (AV.i .u32 (wrapA .u32 ↑(BitVec.toNat (BitVec.ofInt 32 (Int.ofNat x) &&& BitVec.ofInt 32 1))))) T.e T.e) T.e) (T.n (some (AV.i .u64 (wrapA .u64 (Int.ofNat k)))) T.e T.e)) (T.n none (T.n (some (AV.pv 1 (byF b i))) T.e T.e) (T.n (some (AV.i .u32 (wrapA .u32
 ↑(BitVec.toNat (BitVec.ofInt 32 (Int.ofNat x) &&& BitVec.ofInt 32 1))))) T.e T.e))) (T.n (some (AV.i .u32 (wrapA .u32 ↑(BitVec.toNat (BitVec.ofInt 32 (Int.fdiv (wrapA .u32 (Int.ofNat (b i))) (2 ^ min (Int.toNat (wrapA .u64 (Int.ofNat k))) 32)) &&& BitVec.ofInt 32 1))))) (T.n none (T.n (some (AV.sv 1 L (byF b))) T.e T.e) (T.n (some (AV.i .u32 (wrapA .u32 ↑(BitVec.toNat (BitVec.ofInt 32 (Int.fdiv (wrapA .u32 (Int.ofNat (b i))) (2 ^ min (Int.toNat (wrapA .u64 (Int.ofNat k))) 32)) &&& BitVec.ofInt 32 1))))) T.e T.e)) (T.n (some (AV.i .i64 (Int.ofNat k))) (T.n (some (AV.i .u32 (wrapA .u32 (Int.ofNat (b i))))) T.e T.e) (T.n (some (AV.i .u32 (Int.fdiv (Int.ofNat x) 2))) T.e T.e))))) ⟨T.e,0,[]⟩) Orc.z))/\(decide (Int.ofNat k<8)=false->K (Res.st (XO.exit 2) (T.n (some (AV.sv 1 L (byF b))) (T.n none (T.n (some (AV.i .u32 (Int.ofNat x))) (T.n none (T.n (some (AV.b (decide (Int.ofNat k <
 8)))) T.e T.e) T.e) T.e) (T.n (some (AV.i .i64 (Int.ofNat k))) T.e T.e)) (T.n none (T.n (some (AV.i .i64 (Int.ofNat i))) T.e T.e) (T.n none T.e (T.n (some (AV.i .i64 (Int.ofNat k))) T.e T.e)))) ⟨T.e,0,[]⟩) Orc.z)):=by kernel_rfl
theorem rsumo_vc (L i y:Nat) (b:Nat->Nat) (x:Nat) (K:Res->Orc->Prop):runK Tryz.prog 1000000 (.code (loopAt Tryz.prog 124 0) 38 (mkT [(0,.sv 1 L (byF b)),(3,.i .u32 (Int.ofNat x)),(4,.i .i64 (Int.ofNat i))]) (mkH [])) (Orc.s (Orc.lop [] [0,3,4,5] 0 (XO.exit 2) [(0,AV.sv 1 L (byF b)),(3,AV.i .u32 (Int.ofNat y)),(4,AV.i .i64 (Int.ofNat i))] [] Orc.z) Orc.z) K=((decide (Int.ofNat i<Int.ofNat L)=true->LDoes Tryz.prog (loopAt Tryz.prog 124 1) 38 0 (mkT [(0,AV.sv 1 L (byF b)),(3,AV.i .u32 (Int.ofNat x)),(4,AV.i .i64 (Int.ofNat i)),(5,AV.i .i64 0)]) [] (XO.exit 2) (mkT [(0,AV.sv 1 L (byF b)),(3,AV.i .u32 (Int.ofNat y)),(4,AV.i .i64 (Int.ofNat i))]) []/\((-9223372036854775808)<=Int.ofNat i+1/\Int.ofNat i+(1:Int)<=(9223372036854775807:Int))/\K (Res.st XO.nrm (T.n (some (AV.sv 1 L (byF b))) (T.n none (T.n (some (AV.i .u32 (Int.ofNat y))) T.e
 T.e) (T.n none T.e (T.n (some (AV.i .i64 (Int.ofNat i+1))) T.e T.e))) (T.n none (T.n (some (AV.i .i64 (Int.ofNat i+1))) T.e (T.n (some (AV.i .i64 (Int.ofNat i))) T.e T.e)) T.e)) ⟨T.e,0,[]⟩) Orc.z)/\(decide (Int.ofNat i<Int.ofNat L)=false->K (Res.st (XO.exit 0) (T.n (some (AV.sv 1 L (byF b))) (T.n none (T.n (some (AV.i .u32 (Int.ofNat x))) T.e (T.n (some (AV.b (decide (Int.ofNat i<Int.ofNat L)))) T.e T.e)) (T.n none (T.n (some (AV.sv 1 L (byF b))) T.e T.e) T.e)) (T.n none (T.n (some (AV.i .i64 (Int.ofNat i))) (T.n (some (AV.i .i64 (Int.ofNat i))) T.e T.e) T.e) (T.n none (T.n (some (AV.i .i64 (Int.ofNat L))) T.e T.e) T.e))) ⟨T.e,0,[]⟩) Orc.z)):=by kernel_rfl
theorem rsum_vc (L y:Nat) (b:Nat->Nat) (K:Res->Orc->Prop):runK Tryz.prog 1000000 (.call 124 [.sv 1 L (byF b)] (mkH [])) (Orc.lop [] [0,3,4] 0 (XO.exit 0) [(3,AV.i .u32 (Int.ofNat y))] [] Orc.z) K=(LDoes Tryz.prog (loopAt Tryz.prog 124 0) 38 0 (mkT [(0,AV.sv 1 L (byF b)),(3,AV.i .u32 4294967295),(4,AV.i .i64 0)]) [] (XO.exit 0) (mkT [(3,AV.i .u32 (Int.ofNat y))]) []/\True/\K (Res.rv (AV.i .u32 (wrapA .u32 ↑(BitVec.toNat (BitVec.ofInt 32 (Int.ofNat y) ^^^ BitVec.ofInt 32 4294967295)))) ⟨T.e,0,[]⟩) Orc.z):=by kernel_rfl
theorem fdivN (m k:Nat):Int.fdiv (Int.ofNat m) ((2:Int) ^ k)=Int.ofNat (Nat.shiftRight m k):=by
 have e:((2:Int) ^ k)=Int.ofNat (2 ^ k):=by
  show ((2:Int) ^ k)=((2 ^ k:Nat):Int)
  simp
 have h0:(0:Int)<=Int.ofNat (2 ^ k):=Int.natCast_nonneg (2 ^ k)
 rw [e,Int.fdiv_eq_ediv_of_nonneg (Int.ofNat m) h0]
 show Int.ofNat (m / 2 ^ k)=Int.ofNat (m >>>k)
 rw [Nat.shiftRight_eq_div_pow]
theorem bitE {c k:Nat} (hc:c<256) (hk:k<8):wrapA IntKind.u32 ↑(BitVec.toNat (BitVec.ofInt 32 (Int.fdiv (wrapA IntKind.u32 (Int.ofNat c)) ((2:Int) ^ min (Int.toNat (wrapA IntKind.u64 (Int.ofNat k))) 32)) &&& BitVec.ofInt 32 (1:Int)))=Int.ofNat (Nat.land (Nat.shiftRight c k) 1):=by
 have e1:wrapA IntKind.u32 (Int.ofNat c)=Int.ofNat c:=wrap32 (by omega)
 have e2:wrapA IntKind.u64 (Int.ofNat k)=Int.ofNat k:=by
  show Int.ofNat (k % 18446744073709551616)= _
  rw [Nat.mod_eq_of_lt (by omega)]
 have e3:min (Int.toNat (Int.ofNat k)) 32=k:=by simp;omega
 rw [e1,e2,e3,fdivN]
 refine andE (b:=1) ?_ (by omega)
 show c >>>k<_
 rw [Nat.shiftRight_eq_div_pow]
 exact Nat.lt_of_le_of_lt (Nat.div_le_self _ _) (by omega)
theorem lowE {x:Nat} (hx:x<4294967296):wrapA IntKind.u32 ↑(BitVec.toNat (BitVec.ofInt 32 (Int.ofNat x) &&& BitVec.ofInt 32 (1:Int)))=Int.ofNat (Nat.land x 1):=andE (b:=1) hx (by omega)
theorem flipE {x:Nat} (hx:x<4294967296):wrapA IntKind.u32 ↑(BitVec.toNat (BitVec.ofInt 32 (Int.fdiv (Int.ofNat x) (2:Int)) ^^^ BitVec.ofInt 32 (2197175160:Int)))=Int.ofNat (Nat.xor (Nat.shiftRight x 1) 2197175160):=by
 rw [shrE]
 refine xorE (b:=2197175160) ?_ (by decide)
 show x >>>1<_
 rw [Nat.shiftRight_eq_div_pow];omega
theorem rsumi_lp (L i:Nat) (b:Nat->Nat) (x0:Nat) (hb:b i<256) (h0:x0<4294967296) (hi:i<L) :
 LDoes Tryz.prog (loopAt Tryz.prog 124 1) 38 0 (mkT [(0,.sv 1 L (byF b)),(3,.i .u32 (Int.ofNat x0)),(4,.i .i64 (Int.ofNat i)),(5,.i .i64 0)]) [] (.exit 2) (mkT [(0,.sv 1 L (byF b)),(3,.i .u32 (Int.ofNat (stepsN 8 (Nat.xor x0 (b i))))),(4,.i .i64 (Int.ofNat i))]) []:=by
 refine loop_ind (D:=Nat) (l':=[(0,.sv 1 L (byF b)),(3,.i .u32 (Int.ofNat (stepsN 8 (Nat.xor x0 (b i))))),(4,.i .i64 (Int.ofNat i))])
  (fun k=>([(0,.sv 1 L (byF b)),(3,.i .u32 (Int.ofNat (rsteps (b i) k x0))),(4,.i .i64 (Int.ofNat i)),(5,.i .i64 (Int.ofNat k))],[])) (fun k=>8-k) (fun k=>k<=8) ?_ 0 (Nat.zero_le 8)
 intro k hk
 have hk:k<=8:=hk
 have hx:=rsteps_lt h0 (b i) k
 have hs:rsteps (b i) (k+1) x0=rstep (rsteps (b i) k x0) (b i) k:=rfl
 generalize hg:rsteps (b i) k x0=x at hx hs
 refine ⟨Nat.le_refl _,1000000,?_⟩
 refine ⟨_,(rsumi_vc L i k b x _).mpr ⟨fun hlt=>?_,fun hge=>?_⟩⟩
 · have hk8:k<8:=by have:=of_decide_eq_true hlt;simp at this;omega
   have rg:(-9223372036854775808:Int)<=Int.ofNat k+(1:Int)/\Int.ofNat k+(1:Int)<=(9223372036854775807:Int):=by simp<;>omega
   have w:(0:Int)<=wrapA IntKind.u64 (Int.ofNat k):=by show (0:Int)<=Int.ofNat (k % 18446744073709551616);exact Int.natCast_nonneg _
   have mu:(fun k=>8-k) (k+1)<(fun k=>8-k) k:=by show 8-(k+1)<8-k;omega
   rw [bitE hb hk8,lowE hx,flipE hx,shrE]
   refine ⟨⟨by simp,by simp;omega⟩,trivial,trivial,trivial,w,trivial,trivial,by decide,fun hne=>⟨trivial,rg,?_⟩,fun he=>⟨rg,?_⟩⟩
   · have e:rsteps (b i) (k+1) x0=Nat.xor (Nat.shiftRight x 1) 2197175160:=by
      rw [hs];unfold rstep
      have hn:Nat.land (Nat.shiftRight (b i) k) 1≠Nat.land x 1:=fun q=>by rw [q] at hne;simp at hne
      rw [show Nat.beq (Nat.land (Nat.shiftRight (b i) k) 1) (Nat.land x 1)=false from Bool.eq_false_iff.2 fun q=>hn (Nat.eq_of_beq_eq_true q)]
      rfl
     exact .inl ⟨k+1,[],[],_,_,hk8,mu,rfl,by simp only [e];exact st_k [] (by kernel_rfl)⟩
   · have e:rsteps (b i) (k+1) x0=Nat.shiftRight x 1:=by
      rw [hs];unfold rstep
      have hn:Nat.land (Nat.shiftRight (b i) k) 1=Nat.land x 1:=by
       rw [Bool.not_eq_false'] at he
       exact Int.ofNat.inj (of_decide_eq_true he)
      rw [hn,Nat.beq_refl];rfl
     exact .inl ⟨k+1,[],[],_,_,hk8,mu,rfl,by simp only [e];exact st_k [] (by kernel_rfl)⟩
 · have:k=8:=by have:=of_decide_eq_false hge;simp at this;omega
   subst this
   have e:rsteps (b i) 8 x0=stepsN 8 (Nat.xor x0 (b i)):=rsteps8 x0 hb
   rw [<-hg,e]
   exact .inr ⟨[],[],_,_,rfl,by simp,st_k [] (by kernel_rfl)⟩
theorem rsumo_lp (L:Nat) (b:Nat->Nat) (hL:L<4611686018427387904) (hb:∀k,b k<256):LDoes Tryz.prog (loopAt Tryz.prog 124 0) 38 0 (mkT [(0,.sv 1 L (byF b)),(3,.i .u32 4294967295),(4,.i .i64 0)]) [] (.exit 0) (mkT [(3,.i .u32 (Int.ofNat (regN b L 0 4294967295)))]) []:=by
 refine loop_ind (D:=Nat×Nat) (l':=[(3,.i .u32 (Int.ofNat (regN b L 0 4294967295)))])
  (fun d=>([(0,.sv 1 L (byF b)),(3,.i .u32 (Int.ofNat d.2)),(4,.i .i64 (Int.ofNat d.1))],[])) (fun d=>L-d.1)
  (fun d=>d.1<=L/\d.2<4294967296/\regN b (L-d.1) d.1 d.2=regN b L 0 4294967295) ?_ (0,4294967295) ⟨by simp,by simp,rfl⟩
 rintro ⟨k,r⟩ ⟨hk,hr,he⟩
 simp only at hk hr he
 have hx:=Nat.xor_lt_two_pow (n:=32) hr (Nat.lt_trans (hb k) (by decide))
 refine ⟨Nat.le_refl _,_,_,(rsumo_vc L k (stepsN 8 (Nat.xor r (b k))) b r _).mpr ⟨fun hlt=>?_,fun hge=>?_⟩⟩
 · have hlt:k<L:=by simpa using hlt
   refine ⟨rsumi_lp L k b r (hb k) hr hlt,⟨by simp;omega,by simp;omega⟩,.inl ⟨(k+1,stepsN 8 (Nat.xor r (b k))),[],[],_,_,⟨hlt,stepsN_lt 8 hx,?_⟩,by simp only;omega,rfl,st_k [] (by kernel_rfl)⟩⟩
   simp only
   rw [<-he,show L-k=(L-(k+1))+1 by omega]
   rfl
 · have:k=L:=by simp at hge;omega
   subst this
   have he':r=regN b k 0 4294967295:=by rw [Nat.sub_self] at he;exact he
   subst he'
   exact .inr ⟨[],[],_,_,rfl,by simp,st_k [] (by kernel_rfl)⟩
theorem rsum_con (L:Nat) (b:Nat->Nat) (hL:L<4611686018427387904) (hb:∀k,b k<256):Con Tryz.prog 124 [.sv 1 L (byF b)] [] (.i .u32 (Int.ofNat (sumN b L))) []:=by
 refine con_plain rfl ((rsum_vc L (regN b L 0 4294967295) b _).mpr ⟨rsumo_lp L b hL hb,trivial,_,_,rfl,?_⟩)
 have hr:=regN_lt hb L 0 (r:=4294967295) (by decide)
 have e:wrapA IntKind.u32 ↑(BitVec.toNat (BitVec.ofInt 32 (Int.ofNat (regN b L 0 4294967295)) ^^^ BitVec.ofInt 32 (4294967295:Int)))=Int.ofNat (Nat.xor (regN b L 0 4294967295) 4294967295):=xorE (b:=4294967295) hr (by decide)
 rw [e]
 have e2:Nat.xor (regN b L 0 4294967295) 4294967295=Nat.xor 4294967295 (regN b L 0 4294967295):=Nat.xor_comm _ _
 rw [e2,notE hr];rfl
theorem rfour_vc (x:Nat) (K:Res->Orc->Prop):runK Tryz.prog 1000000 (.call 125 [.i .u32 (Int.ofNat x)] (mkH [])) (Orc.inl (Orc.c (Orc.inl (Orc.c (Orc.inl (Orc.c (Orc.inl (Orc.c (Orc.inl (Orc.c Orc.z)))))))))) K=((256:Int)≠(0:Int)/\True/\((256:Int)≠(0:Int)/\0<=Int.tdiv (Int.ofNat x) 256/\Int.tdiv (Int.ofNat x) (256:Int)<=(4294967295:Int))/\((-9223372036854775808:Int)<=(1:Int)/\(1:Int)<=(9223372036854775807:Int))/\(256:Int)≠(0:Int)/\True/\((256:Int)≠(0:Int)/\0<=Int.tdiv (Int.tdiv (Int.ofNat x) 256) 256/\Int.tdiv (Int.tdiv (Int.ofNat x) 256) (256:Int)<=(4294967295:Int))/\((-9223372036854775808:Int)<=(2:Int)/\(2:Int)<=(9223372036854775807:Int))/\(256:Int)≠(0:Int)/\True/\((256:Int)≠(0:Int)/\0<=Int.tdiv (Int.tdiv (Int.tdiv (Int.ofNat x) 256) 256) 256/\Int.tdiv (Int.tdiv (Int.tdiv (Int.ofNat x) 256)
 256) (256:Int)<=(4294967295:Int))/\((-9223372036854775808:Int)<=(3:Int)/\(3:Int)<=(9223372036854775807:Int))/\(256:Int)≠(0:Int)/\True/\((256:Int)≠(0:Int)/\0<=Int.tdiv (Int.tdiv (Int.tdiv (Int.tdiv (Int.ofNat x) 256) 256) 256) 256/\Int.tdiv (Int.tdiv (Int.tdiv (Int.tdiv (Int.ofNat x) 256) 256) 256) (256:Int)<=(4294967295:Int))/\((-9223372036854775808:Int)<=(4:Int)/\(4:Int)<=(9223372036854775807:Int))/\K (Res.rv (AV.l 7 0 4 4 1 false) ⟨T.n (some (AObj.cells 5 1 [] (T.n (some (AV.i .u8 (wrapA .u8 (Int.tmod (Int.ofNat x) 256)))) T.e T.e))) (T.n none (T.n none (T.n (some (AObj.cells 5 4 [] (T.n (some (AV.i .u8 (wrapA .u8 (Int.tmod (Int.ofNat x) 256)))) (T.n (some (AV.i .u8 (wrapA .u8 (Int.tmod (Int.tdiv (Int.ofNat x) 256) 256)))) (T.n (some (AV.i .u8 (wrapA .u8 (Int.tmod (Int.tdiv (Int.tdiv (Int.tdiv (Int.ofNat x) 256) 256) 256) 256))))
 T.e T.e) T.e) (T.n (some (AV.i .u8 (wrapA .u8 (Int.tmod (Int.tdiv (Int.tdiv (Int.ofNat x) 256) 256) 256)))) T.e T.e)))) T.e T.e) T.e) (T.n none T.e T.e)) (T.n (some (AObj.cells 5 1 [] (T.n (some (AV.i .u8 (wrapA .u8 (Int.tmod (Int.tdiv (Int.ofNat x) 256) 256)))) T.e T.e))) (T.n (some (AObj.cells 5 1 [] (T.n (some (AV.i .u8 (wrapA .u8 (Int.tmod (Int.tdiv (Int.tdiv (Int.ofNat x) 256) 256) 256)))) T.e T.e))) T.e T.e) (T.n (some (AObj.cells 5 1 [] (T.n (some (AV.i .u8 (wrapA .u8 (Int.tmod (Int.tdiv (Int.tdiv (Int.tdiv (Int.ofNat x) 256) 256) 256) 256)))) T.e T.e))) T.e T.e)),8,[7,5,6,5,3,4,3,1,2,1,0]⟩) Orc.z):=by kernel_rfl
theorem td256 (x:Nat):Int.tdiv (Int.ofNat x) 256=Int.ofNat (x / 256):=rfl
theorem tm256 (x:Nat):wrapA IntKind.u8 (Int.tmod (Int.ofNat x) 256)=Int.ofNat (x % 256):=by
 show Int.ofNat ((x % 256) % 256)=Int.ofNat (x % 256)
 rw [Nat.mod_mod]
theorem le32 {x:Nat} (h:x<4294967296):(0:Int)<=Int.ofNat x/\Int.ofNat x<=(4294967295:Int):=⟨Int.natCast_nonneg x,by simp;omega⟩
theorem rfour_con (x:Nat) (hx:x<4294967296):Con Tryz.prog 125 [.i .u32 (Int.ofNat x)] [] (.lr 0 1 0 4 false) [.set (.rows 5 1 4 (byF (fourB x)))]:=by
 have h:Con Tryz.prog 125 [.i .u32 (Int.ofNat x)] [] (.l 0 0 4 4 1 false) [.set (cellsO 5 [.i .u8 (Int.ofNat (fourB x 0)),.i .u8 (Int.ofNat (fourB x 1)),.i .u8 (Int.ofNat (fourB x 2)),.i .u8 (Int.ofNat (fourB x 3))])]:=by
  refine con_of_run [] [7] ((rfour_vc x _).mpr ?_)
  have e1:x / 256 / 256=x / 65536:=by rw [Nat.div_div_eq_div_mul]
  have e2:x / 256 / 256 / 256=x / 16777216:=by rw [Nat.div_div_eq_div_mul,Nat.div_div_eq_div_mul]
  have f0:x % 256=fourB x 0:=by show x % 256=x / 256 ^ 0 % 256;simp
  have f1:x / 256 % 256=fourB x 1:=by show x / 256 % 256=x / 256 ^ 1 % 256;simp
  have f2:x / 256 / 256 % 256=fourB x 2:=by rw [e1];rfl
  have f3:x / 256 / 256 / 256 % 256=fourB x 3:=by rw [e2];rfl
  simp only [td256,tm256,f0,f1,f2,f3]
  have z:(256:Int)≠0:=by decide
  exact ⟨z,trivial,⟨z,le32 (by omega)⟩,by decide,z,trivial,⟨z,le32 (by omega)⟩,by decide,z,trivial,⟨z,le32 (by omega)⟩,by decide,z,trivial,⟨z,le32 (by omega)⟩,by decide,_,_,rfl,ret_k (by kernel_rfl)⟩
 exact h.post .l_lr ⟨.x (OX.cellsRows rfl fun i hi=>by
  have:i=0\/i=1\/i=2\/i=3:=by omega
  rcases this with rfl | rfl | rfl | rfl<;>exact ⟨_,rfl,fun ρ x hx=>by cases hx;exact .i _ _⟩),trivial⟩
end Go.Proofs.Cd
