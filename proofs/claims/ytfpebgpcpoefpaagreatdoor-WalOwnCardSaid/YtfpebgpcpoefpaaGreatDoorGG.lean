/- Runs over unknown values, told by the kernel: part GG. -/
import Derived.Test.YtfpebgpcpoefpaaGreatDoorGF
import Derived.Shelf.Strings.Builder1
import Derived.WalkKit
import Derived.BigCall
noncomputable section
open Int (ofNat)
set_option linter.unusedSimpArgs false
set_option linter.unusedVariables false
set_option maxRecDepth 20000
set_option maxHeartbeats 4000000
namespace Go.Proofs.Ly
open Go Go.Sim Go.Proofs Go.Proofs.Cd Go.Proofs.St Go.Proofs.Cl Go.Proofs.YtfpebgpcpoefpaaGreatDoor
def fourL (x:Nat):List Nat:=[fourB x 0,fourB x 1,fourB x 2,fourB x 3]
theorem four_tB (x i:Nat) (hi:i<4):tB (fourL x) i=fourB x i:=by
 rcases i with _ | _ | _ | _ | i<;>first | rfl | omega
theorem four_byt (x:Nat):Byt (fourL x):=by
 intro y hy
 unfold fourL at hy
 simp only [List.mem_cons,List.not_mem_nil,or_false] at hy
 rcases hy with rfl | rfl | rfl | rfl<;>exact fourB_lt _ _
def slL (bs:List Nat):List Nat:=bs ++ fourL (sumN (tB bs) bs.length)
theorem slL_len (bs:List Nat):(slL bs).length=bs.length+4:=by unfold slL;rw [List.length_append];rfl
theorem slL_byt {bs:List Nat} (h:Byt bs):Byt (slL bs):=h.app (four_byt _)
theorem tB_lt {bs:List Nat} (h:Byt bs) (k:Nat):tB bs k<256:=by
 unfold tB
 rw [List.getD_eq_getElem?_getD]
 rcases Nat.lt_or_ge k bs.length with q | q
 · rw [List.getElem?_eq_getElem q];exact h _ (List.getElem_mem q)
 · rw [List.getElem?_eq_none q];exact (by decide:0<256)
theorem seal_con (bs:List Nat) (h:Byt bs) (hl:bs.length<=1000000):Con Tryz.prog 56 [.sv 1 bs.length (byF (tB bs))] [] (.sv 1 (slL bs).length (byF (tB (slL bs)))) []:=by
 have q:=sl_con bs.length (tB bs) (decide_eq_true (by simp<;>omega)) (sumN (tB bs) bs.length) (fourB (sumN (tB bs) bs.length)) (by omega) (sum_con bs.length (tB bs) (by omega) (tB_lt h)) (four0_con _)
 rw [slL_len,<-addN_eq]
 refine q.post (.svW fun i j hi hj=>.of ?_) (OVL.refl _)
 obtain rfl:j=0:=by omega
 rw [addN_eq] at hi
 show appZ bs.length (byF (tB bs)) (byF (fourB (sumN (tB bs) bs.length))) i 0=CV.i .u8 (ofNat (tB (slL bs) i))
 rw [appZ_i (f:=byF (tB bs)) (g:=byF (fourB (sumN (tB bs) bs.length))) (n:=bs.length) (i:=i) (j:=0) (k:=.u8) (a:=ofNat (tB bs i)) (b:=ofNat (fourB (sumN (tB bs) bs.length) (i-bs.length))) rfl rfl]
 unfold slL
 split
 · rw [tB_lo (by assumption)]
 · rw [tB_hi (by omega),four_tB _ _ (by omega)]
def rcT (n:Nat) (B V:Nat->Int) (D:Nat->List Nat):List Nat:=slL (upL n B V D n)
def encB (n:Nat) (B V:Nat->Int) (D:Nat->List Nat):Bool:=mbB n B V D && !decide ((540:Int)<ofNat (rcT n B V D).length)
def encT (n:Nat) (B V:Nat->Int) (D:Nat->List Nat):List Nat:=bif encB n B V D then rcT n B V D else []
def encE (n:Nat) (B V:Nat->Int) (D:Nat->List Nat):Int:=bif encB n B V D then 0 else 2
theorem rcT_byt {n:Nat} {B V:Nat->Int} {D:Nat->List Nat} (h:UOk n B V D):Byt (rcT n B V D):=slL_byt (upL_byt h n (Nat.le_refl _))
theorem mb_ok {n:Nat} {B V:Nat->Int} {D:Nat->List Nat} (h:mbB n B V D=true) (hb:∀i,i<n->Byt (D i)):UOk n B V D:=by
 unfold mbB at h
 rw [Bool.and_eq_true] at h
 exact u_ok h.1 hb
theorem enc_con (n:Nat) (B V:Nat->Int) (D:Nat->List Nat) (hn:n<=281474976710656) (hb:∀i,i<n->Byt (D i)):Con Tryz.prog 30 [.sv 3 n (uF B V D)] [] (.tup [.s (encT n B V D),.i .i64 (encE n B V D)]) []:=by
 unfold encT encE encB
 cases h0:mbB n B V D with
 | false=>exact enA_con n B V D h0 hn
 | true=>
   have ok:=mb_ok h0 hb
   have h8:=ok.1
   have hle:=upL_le ok n (Nat.le_refl _)
   have hby:=upL_byt ok n (Nat.le_refl _)
   have k1:=wnF_con n (by omega)
   have k2:=e_lp n B V D ok
   have k3:=wb_con (upL n B V D n).length (tB (upL n B V D n)) (by omega)
   have k4:=seal_con (upL n B V D n) hby (by omega)
   cases h1:decide ((540:Int)<ofNat (rcT n B V D).length) with
   | true=>exact enB_con n B V D _ _ _ _ _ _ hn k1 k2 k3 k4 h0 h1
   | false=>
     have q:=enC_con n B V D _ _ _ _ _ _ hn k1 k2 k3 k4 h0 h1 (u8_of _)
     rw [bts_eq (slL_byt hby)] at q
     exact q
end Go.Proofs.Ly
set_option maxRecDepth 100000
namespace Go.Proofs.Ly
open Go Go.Sim Go.Proofs Go.Proofs.Cl Go.Proofs.YtfpebgpcpoefpaaGreatDoor Go.RowKit
def renB:Go.Shelf.Ren:=⟨fun | 166=>111 | 240=>151 | 276=>170 | _=>112,fun | 0=>0 | 3=>3 | 4=>4 | 5=>5 | 9=>9 | 20=>20 | 37=>101 | 70=>188 | 72=>190 | 75=>192 | 80=>195 | 127=>217 | _=>233,fun x=>x⟩
theorem lays166:Lays.n166 Tryz.prog renB:=by
 constructor<;>first | kernel_rfl | (intro w;kernel_rfl)
theorem lays169:Lays.n169 Tryz.prog renB:=by
 constructor<;>first | kernel_rfl | (intro w;kernel_rfl)
theorem bldX:Builder.Extra Tryz.prog renB where
 sizeBuilder:=by kernel_rfl
 liesBuilder:=by kernel_rfl
 t5:=by kernel_rfl
 a5:=by intro w;kernel_rfl
 z5:=by intro w;kernel_rfl
 v5:=by intro w;kernel_rfl
 infoByte:=by kernel_rfl
 cellsByte:=by kernel_rfl
 sizeByte:=by kernel_rfl
 neB5:=by decide
theorem bld_write (B b:Nat) (bs:List Value) (s:ByteArray) (w:World) (h:Lib.IsBuilder 190 5 B b bs w) (hlen:bs.length+s.size<=140737488355328) (hBw:B<=w.heap.size) :
 Calls Tryz.prog 111 #[.pointer (some ⟨b,0,none⟩),.string s] w fun e w'=>e=.returned (.tuple #[.int .i64 s.size,.nilIface])/\(Lib.BuilderAt 190 5 B b (.pointer (some ⟨b,0,none⟩)) (bs ++ Lib.strCells s) w'/\Below B w w'):=
 Any.Builder_WriteString (ρ:=renB) lays166 bldX B b bs s w h hlen hBw
theorem bld_string (B b:Nat) (l:List UInt8) (w:World) (h:Lib.IsBuilder 190 5 B b (Lib.byteCells l) w) (h0:l≠[]) :
 Calls Tryz.prog 112 #[.pointer (some ⟨b,0,none⟩)] w fun e w'=>e=.returned (.string ⟨l.toArray⟩)/\Below B w w':=Any.Builder_String (ρ:=renB) lays169 bldX B b l w h h0
theorem bld_kept {T e:TypeId} {B b:Nat} {p:Value} {bs:List Value} {w w':World} (h:Lib.BuilderAt T e B b p bs w) (k:Below w.heap.size w w'):Lib.BuilderAt T e B b p bs w':=by
 obtain ⟨hB,v,hb,hown,hne⟩:=h
 have lt:∀{k:Nat} {o:Obj},w.heap[k]? =some o->k<w.heap.size:=fun h=>(Array.getElem?_eq_some_iff.1 h).1
 refine ⟨hB,v,(k.block b (lt hb)).trans hb,⟨hown.1,?_⟩,hne⟩
 rcases hown.2 with q | ⟨g,cap,cur,q1,q2,q3,q4⟩
 · exact .inl q
 · exact .inr ⟨g,cap,cur,q1,q2,(k.block g (lt q3)).trans q3,q4⟩
theorem isb_kept {T e:TypeId} {B b:Nat} {bs:List Value} {w w':World} (h:Lib.IsBuilder T e B b bs w) (k:Below w.heap.size w w'):Lib.IsBuilder T e B b bs w':=by
 rcases h with h | h
 · exact .inl (bld_kept h k)
 · exact .inr (bld_kept h k)
theorem con_calls {P:Program} {g:FuncId} {args:List AV} {v:AV} (h:Con P g args [] v []) (w:World) (args':List Value) (ha:VRs Rho.nil args args') :
 Calls P g args'.toArray w fun e w'=>(∃ρ' v',e=.returned v'/\VR ρ' v v')/\Below w.heap.size w w':=by
 have e0:∀A (o:AObj),AH.get (mkH []) A=some o->False:=fun A o h=>by rw [mkH_get] at h;simp at h
 have hr:HR Rho.nil (mkH []) w:=⟨fun A o h=>(e0 A o h).elim,fun A A' o o' x x' h=>(e0 A o h).elim,fun A x hx=>(by cases hx),fun B j v hv=>(by cases hv),fun B j v hv=>(by cases hv)⟩
 refine (h Rho.nil w args' ha hr (fun A _=>rfl)).mono ?_
 rintro e w' ⟨v',ρ',rfl,h1,h2,h3⟩
 exact ⟨⟨ρ',v',rfl,h1⟩,⟨h3.os,h3.tape,h3.output,h3.size,fun k hk=>h3.frame k hk fun A o x hA=>(e0 A o hA).elim⟩⟩
theorem wwi_calls (n a b:Int) (w:World):Calls Tryz.prog 25 #[.int .i64 n,.int .i64 a,.int .i64 b] w fun e w'=>e=.returned (.bool (wq n a b))/\Below w.heap.size w w':=by
 refine (con_calls (wwi_con n a b) w [.int .i64 n,.int .i64 a,.int .i64 b] (.cons _ _ _ _ (.i _ _) (.cons _ _ _ _ (.i _ _) (.cons _ _ _ _ (.i _ _) .nil)))).mono ?_
 rintro e w' ⟨⟨ρ',v',rfl,h1⟩,hb⟩
 cases h1
 exact ⟨rfl,hb⟩
theorem piece_calls {t p:List Nat} {c:Int} (h:Con Tryz.prog 110 [.s t] [] (.tup [.i .i64 c,.s p]) []) (s:ByteArray) (hs:s.data.toList.map UInt8.toNat=t) (w:World) :
 Calls Tryz.prog 110 #[.string s] w fun e w'=>(∃q:ByteArray,e=.returned (.tuple #[.int .i64 c,.string q])/\q.data.toList.map UInt8.toNat=p)/\Below w.heap.size w w':=by
 refine (con_calls h w [.string s] (.cons _ _ _ _ (.s _ _ hs) .nil)).mono ?_
 rintro e w' ⟨⟨ρ',v',rfl,h1⟩,hb⟩
 cases h1 with
 | tup cs cs' h2=>
   cases h2 with
   | cons a a' r r' a1 r1=>
     cases a1
     cases r1 with
     | cons a a' r r' a2 r2=>
       cases r2
       cases a2 with
       | s _ q hq=>exact ⟨⟨q,rfl,hq⟩,hb⟩
def catL (Pz:Nat->List Nat):Nat->List Nat
 | 0=>[]
 | k+1=>catL Pz k ++ Pz k
theorem catL_le {Pz:Nat->List Nat} {n:Nat} (h:∀k,k<n->(Pz k).length<=1000):∀k,k<=n->(catL Pz k).length<=1000*k
 | 0,_=>Nat.le_refl _
 | k+1,hk=>by
   have:=catL_le h k (by omega)
   have:=h k (by omega)
   show (catL Pz k ++ Pz k).length<=_
   rw [List.length_append];omega
set_option maxHeartbeats 1000000 in
set_option maxRecDepth 1000000 in
theorem joined_walk (n cap m:Nat) (b off:Nat) (S:Nat->ByteArray) (C:Nat->Int) (Pz:Nat->List Nat) (w:World) (hn:n<=1000) (hm0:1<=m) (hm:m<=n) (hcap:n<=cap)
 (hc:∀k,k<n->w.cell? ⟨b,off+k,none⟩=some (.string (S k))) (hbB:b<w.heap.size) (hC:C 0=ofNat m) (hl:∀k,k<m->(Pz k).length<=1000) (hne:catL Pz m≠[])
 (hp:∀k,k<m->∀w1:World,Calls Tryz.prog 110 #[.string (S k)] w1 fun e w'=>(∃q:ByteArray,e=.returned (.tuple #[.int .i64 (C k),.string q])/\q.data.toList.map UInt8.toNat=Pz k)/\Below w1.heap.size w1 w') :
 Calls Tryz.prog 79 #[.slice (some ⟨b,off,none⟩) n cap] w fun e w'=>(∃q:ByteArray,e=.returned (.string q)/\q.data.toList.map UInt8.toNat=catL Pz m)/\Below w.heap.size w w':=by
 have c0:w.cell? ⟨b,off,none⟩=some (.string (S 0)):=hc 0 (by omega)
 go_enter Tryz.func79,Tryz.ntmps79
 go_wp2_with (go_at_call 110;refine (hp 0 (by omega) _).mono ?_)
 rintro e w1 ⟨⟨q0,rfl,hq0⟩,b1⟩
 have hw:wq (m:Int) 1 (n:Int)=true:=by
  unfold wq
  rw [Bool.and_eq_true]
  exact ⟨decide_eq_true (by omega),decide_eq_true (by omega)⟩
 go_wp2_with (go_at_call 25;refine (wwi_calls m 1 n _).mono ?_)
 rintro e w2 ⟨rfl,b2⟩
 rw [hw]
 go_wp2
 go_loopw [29] (fun i wr=>∃(k:Nat) (acc:List UInt8),k<=m/\i=.int .i64 k/\acc.map UInt8.toNat=catL Pz k/\Lib.IsBuilder 190 5 w2.heap.size w2.heap.size (Lib.byteCells acc) wr/\Below w2.heap.size w2 wr)
  (fun i _=>m-(intOf i).toNat)
 case atStart=>exact ⟨0,[],Nat.zero_le _,rfl,rfl,Lib.fresh_isBuilder 190 5 w2,(Below.refl _ w2).alloc (Nat.le_refl _) _⟩
 case round=>
  obtain ⟨k,acc,hk,rfl,hacc,hI,hbw⟩:=hrel
  have hsz:w2.heap.size<=wr.heap.size:=hbw.size
  by_cases hlt:k<m
  · have ck:wr.cell? ⟨b,off+k,none⟩=some (.string (S k)):=by
     have hb2:b<w2.heap.size:=by have:=b1.size;have:=b2.size;omega
     rw [hbw.cell (p:=⟨b,off+k,none⟩) hb2,b2.cell (p:=⟨b,off+k,none⟩) (by have:=b1.size;show b<_;omega),b1.cell (p:=⟨b,off+k,none⟩) hbB]
     exact hc k (by omega)
    go_wp2_with (go_at_call 110;refine (hp k (by omega) _).mono ?_)
    rintro e W1 ⟨⟨q,rfl,hq⟩,hb3⟩
    have hql:q.size<=1000:=by
     rw [Go.Lib.size_eq]
     have:=congrArg List.length hq
     simp only [List.length_map] at this
     have:=hl k (by omega)
     omega
    have hal:acc.length<=1000*k:=by
     have:=catL_le hl k (by omega)
     rw [<-hacc,List.length_map] at this
     exact this
    have hI3:=isb_kept hI hb3
    go_wp2_with (go_at_call 111;refine (bld_write w2.heap.size w2.heap.size _ q _ hI3 (by rw [Lib.byteCells_length];omega) (by have:=hb3.size;omega)).mono ?_)
    rintro e W2 ⟨rfl,h4,hb4⟩
    go_wp2
    go_roundw
    case rel=>
     refine ⟨k+1,acc ++ q.data.toList,by omega,by go_num,?_,?_,?_⟩
     · rw [List.map_append,hacc,hq];rfl
     · rw [Lib.byteCells_append,<-Lib.strCells_eq];exact .inr h4
     · exact hbw.trans ((hb3.mono hsz).trans hb4)
    case measure=>simp [intOf];omega
  · obtain rfl:k=m:=by omega
    go_wp2_with (go_at_call 112;refine (bld_string w2.heap.size w2.heap.size acc _ hI (by rintro rfl;exact hne hacc.symm)).mono ?_)
    rintro e W1 ⟨rfl,hb3⟩
    go_wp2
    go_ret
    have s1:=b1.size
    have s2:=b2.size
    exact ⟨⟨_,rfl,hacc⟩,((b1.trans (b2.mono s1)).trans (hbw.mono (by omega))).trans (hb3.mono (by omega))⟩
theorem joined_con (n m:Nat) (f:Nat->List Nat) (C:Nat->Int) (Pz:Nat->List Nat) (hn:n<=1000) (hm0:1<=m) (hm:m<=n) (hC:C 0=ofNat m) (hl:∀k,k<m->(Pz k).length<=1000) (hne:catL Pz m≠[])
 (hp:∀k,k<m->Con Tryz.prog 110 [.s (f k)] [] (.tup [.i .i64 (C k),.s (Pz k)]) []):Con Tryz.prog 79 [.sv 1 n (fun i _=>.s (f i))] [] (.s (catL Pz m)) []:=by
 intro ρ w args' ha hr hno
 cases ha with
 | cons v v' r r' h1 h2=>
   cases h2
   cases h1 with
   | sv _ _ _ _ hc=>
     cases hc with
     | sv0=>omega
     | svz=>omega
     | sv _ _ _ B o cap g a1 a2 a3=>
       have e0:∀A (o:AObj),AH.get (mkH []) A=some o->False:=fun A o h=>by rw [mkH_get] at h;simp at h
       have hs:∀k,k<n->∃s:ByteArray,g k 0=.string s/\s.data.toList.map UInt8.toNat=f k:=fun k hk=>by
        have:=a3 k 0 hk (by omega)
        cases h:g k 0<;>rw [h] at this<;>cases this
        exact ⟨_,rfl,by assumption⟩
       let S:Nat->ByteArray:=fun k=>match g k 0 with | .string s=>s | _=>.empty
       have hS:∀k,k<n->g k 0=.string (S k)/\(S k).data.toList.map UInt8.toNat=f k:=fun k hk=>by
        obtain ⟨s,h1,h2⟩:=hs k hk
        have:S k=s:=by show (match g k 0 with | .string s=>s | _=>.empty)=s;rw [h1]
        rw [this];exact ⟨h1,h2⟩
       have hcell:∀k,k<n->w.cell? ⟨B,o+k,none⟩=some (.string (S k)):=fun k hk=>by
        obtain ⟨c,e,fr,q1,q2⟩:=hr.ro B _ _ (a2 k 0 hk (by omega))
        rw [Lib.cell_of_heap (fr:=fr) (T:=e) (cs:=c) q1]
        have q3:c[o+k*1+0]? =some (g k 0):=q2
        rw [Nat.mul_one,Nat.add_zero] at q3
        rw [q3,(hS k hk).1]
       have hB:B<w.heap.size:=hr.rolt (a2 0 0 (by omega) (by omega))
       refine (joined_walk n cap m B o S C Pz w hn hm0 hm a1 hcell hB hC hl hne (fun k hk w1=>piece_calls (hp k hk) (S k) (hS k (by omega)).2 w1)).mono ?_
       rintro e w' ⟨⟨q,rfl,hq⟩,hb⟩
       refine ⟨_,ρ,rfl,.s _ q hq,⟨fun A o h=>(e0 A o h).elim,fun A A' o o' x x' h=>(e0 A o h).elim,fun A x hx=>Nat.lt_of_lt_of_le (hr.range A x hx) hb.size,?_,fun B j v hv A o x h=>(e0 A o h).elim⟩,⟨Nat.le_refl _,.refl _,fun A x hx=>.inl hx,hb.size,fun B hB _=>hb.block B hB,fun A o x h=>(e0 A o h).elim,fun B j v hv=>.inl hv,hb.tape,hb.os,hb.output⟩⟩
       intro B j v hv
       obtain ⟨c,e,fr,h1,h2⟩:=hr.ro B j v hv
       exact ⟨c,e,fr,(hb.block B (hr.rolt hv)).trans h1,h2⟩
end Go.Proofs.Ly
namespace Go.Proofs.Ly
open Go Go.Sim Go.Proofs Go.Proofs.Cd Go.Proofs.St Go.Proofs.Cl Go.Proofs.YtfpebgpcpoefpaaGreatDoor
def r3O (c:CS) (r:Bool):AObj:=.segs 177 772 [⟨1,1,1,oneF (.i .i64 (ofNat c.n))⟩,⟨2,3,256,cellF c.q c.d c.sp⟩,⟨770,1,1,oneF (.b c.dead)⟩,⟨771,1,1,oneF (.b r)⟩] [(0,.p 3 0)]
def chO:AObj:=cellsO 54 [.l 1 0 1 1 1 true]
def nsO:AObj:=cellsD 55 [.p0] [.p 2 0]
def noO:AObj:=cellsO 81 [.p 3 0,.p 4 0]
def cfA:AV:=.agg [.i .i64 1,.sv 1 1 (listF 1 [.i .i64 0] 1),.sv 1 1 (listF 1 [.i .i64 1] 1)]
def lgO (o w g start recs used:Int) (h:List Nat):AObj:=cellsO 69 [.p 0 0,.i .i64 o,.i .i64 w,.i .i64 g,.i .i64 start,.i .i64 recs,.i .i64 used,.s h]
def d38:List Nat:=[49,50,51,52,53,54,55,56,57,48,49,50,51,52,53,54,55,56,57,48,49,50,51,52,53,54,55,56,57,48,49,50,51,52,53,54,55,56]
def r46:List Nat:=[1,5,1,38,49,50,51,52,53,54,55,56,57,48,49,50,51,52,53,54,55,56,57,48,49,50,51,52,53,54,55,56,57,48,49,50,51,52,53,54,55,56,232,202,101,143]
theorem wr0_fq (c:CS) (s:SS) (q:Int->Nat) (t:Int->List Nat) (hd:Int):VF Tryz.prog 26 [.p 0 0,cfA,.i .i64 hd] [some chO,some nsO,some noO,some s.o,some (r3O
 c false)] (Orc.c (Orc.inl (Orc.c (Orc.cal [0,1,2,3,4] (.tup [.agg [.i .i64 (ofNat (q (hd+0))),.s (t (hd+0))],.i .i64 0]) [.keep,.keep,.keep,.keep,.keep] (oc
 2 (Orc.inl (Orc.c (Orc.cal [0,1,2,3,4] (.tup [.agg [.i .i64 (ofNat (q (hd+1))),.s (t (hd+1))],.i .i64 0]) [.keep,.keep,.keep,.keep,.keep] (oc 2 (Orc.inl
 (Orc.c (Orc.cal [0,1,2,3,4] (.tup [.agg [.i .i64 (ofNat (q (hd+2))),.s (t (hd+2))],.i .i64 0]) [.keep,.keep,.keep,.keep,.keep] (oc 2 (Orc.inl (Orc.c
 (Orc.cal [0,1,2,3,4] (.tup [.agg [.i .i64 (ofNat (q (hd+3))),.s (t (hd+3))],.i .i64 0]) [.keep,.keep,.keep,.keep,.keep] (oc 2 (Orc.inl (Orc.c (Orc.cal [0,
 1,2,3,4] (.tup [.agg [.i .i64 (ofNat (q (hd+4))),.s (t (hd+4))],.i .i64 0]) [.keep,.keep,.keep,.keep,.keep] (oc 2 (Orc.inl (Orc.c (Orc.cal [0,1,2,3,4]
 (.tup [.agg [.i .i64 (ofNat (q (hd+5))),.s (t (hd+5))],.i .i64 0]) [.keep,.keep,.keep,.keep,.keep] (oc 2 (Orc.inl (Orc.c (Orc.cal [0,1,2,3,4] (.tup [.agg
 [.i .i64 (ofNat (q (hd+6))),.s (t (hd+6))],.i .i64 0]) [.keep,.keep,.keep,.keep,.keep] (oc 2 (Orc.inl (Orc.c (Orc.cal [0,1,2,3,4] (.tup [.agg [.i .i64
 (ofNat (q (hd+7))),.s (t (hd+7))],.i .i64 0]) [.keep,.keep,.keep,.keep,.keep] (oc 2 (Orc.inl (Orc.c (Orc.cal [0,1,2,3,4] (.tup [.agg [.i .i64 (ofNat (q
 (hd+8))),.s (t (hd+8))],.i .i64 0]) [.keep,.keep,.keep,.keep,.keep] (oc 2 (Orc.inl (Orc.c (Orc.cal [0,1,2,3,4] (.tup [.agg [.i .i64 (ofNat (q (hd+9))),.s
 (t (hd+9))],.i .i64 0]) [.keep,.keep,.keep,.keep,.keep] (oc 2 (Orc.inl (Orc.c (Orc.cal [0,1,2,3,4] (.tup [.agg [.i .i64 (ofNat (q (hd+10))),.s (t (hd +
 10))],.i .i64 0]) [.keep,.keep,.keep,.keep,.keep] (oc 2 (Orc.inl (Orc.c (Orc.cal [0,1,2,3,4] (.tup [.agg [.i .i64 (ofNat (q (hd+11))),.s (t (hd+11))],.i
 .i64 0]) [.keep,.keep,.keep,.keep,.keep] (oc 2 (Orc.inl (Orc.c (Orc.cal [0,1,2,3,4] (.tup [.agg [.i .i64 (ofNat (q (hd+12))),.s (t (hd+12))],.i .i64 0])
 [.keep,.keep,.keep,.keep,.keep] (oc 2 (Orc.inl (Orc.c (Orc.cal [0,1,2,3,4] (.tup [.agg [.i .i64 (ofNat (q (hd+13))),.s (t (hd+13))],.i .i64 0]) [.keep,
 .keep,.keep,.keep,.keep] (oc 2 (Orc.inl (Orc.c (Orc.cal [0,1,2,3,4] (.tup [.agg [.i .i64 (ofNat (q (hd+14))),.s (t (hd+14))],.i .i64 0]) [.keep,.keep,
 .keep,.keep,.keep] (oc 2 (Orc.inl (Orc.c (Orc.cal [0,1,2,3,4] (.tup [.agg [.i .i64 (ofNat (q (hd+15))),.s (t (hd+15))],.i .i64 0]) [.keep,.keep,.keep,
 .keep,.keep] (oc 2 (Orc.inl (Orc.c Orc.z))))))))))))))))))))))))))))))))))))))))))))))))))))))))))))))))))) ((.tup [.sv 1 16 (listF 1 [.s (t (hd+0)),.s (t (hd+1)),.s
 (t (hd+2)),.s (t (hd+3)),.s (t (hd+4)),.s (t (hd+5)),.s (t (hd+6)),.s (t (hd+7)),.s (t (hd+8)),.s (t (hd+9)),.s (t (hd+10)),.s (t (hd+11)),.s (t
 (hd+12)),.s (t (hd+13)),.s (t (hd+14)),.s (t (hd+15))] 16),.i .i64 0])) [.keep,.keep,.keep,.keep,.keep] [6] [] (((0+16*1<=16/\(True/\True))/\True)) 23
 (fun Lf=>rg (hd+0)/\Con Tryz.prog 49 [.p 0 0,cfA,.i .i64 (hd+0)] [some chO,some nsO,some noO,some (SS.o s),some (r3O c false)] (.tup [.agg [.i .i64 (ofNat (q
 (hd+0))),.s (t (hd+0))],.i .i64 0]) [.keep,.keep,.keep,.keep,.keep]/\True/\rg (1)/\rg (hd+1)/\Con Tryz.prog 49 [.p 0 0,cfA,.i .i64 (hd+1)] [some chO,some
 nsO,some noO,some (SS.o s),some (r3O c false)] (.tup [.agg [.i .i64 (ofNat (q (hd+1))),.s (t (hd+1))],.i .i64 0]) [.keep,.keep,.keep,.keep,.keep]/\True/\rg
 (2)/\rg (hd+2)/\Con Tryz.prog 49 [.p 0 0,cfA,.i .i64 (hd+2)] [some chO,some nsO,some noO,some (SS.o s),some (r3O c false)] (.tup [.agg [.i .i64 (ofNat (q (hd
 +2))),.s (t (hd+2))],.i .i64 0]) [.keep,.keep,.keep,.keep,.keep]/\True/\rg (3)/\rg (hd+3)/\Con Tryz.prog 49 [.p 0 0,cfA,.i .i64 (hd+3)] [some chO,some
 nsO,some noO,some (SS.o s),some (r3O c false)] (.tup [.agg [.i .i64 (ofNat (q (hd+3))),.s (t (hd+3))],.i .i64 0]) [.keep,.keep,.keep,.keep,.keep]/\True/\rg
 (4)/\rg (hd+4)/\Con Tryz.prog 49 [.p 0 0,cfA,.i .i64 (hd+4)] [some chO,some nsO,some noO,some (SS.o s),some (r3O c false)] (.tup [.agg [.i .i64 (ofNat (q (hd
 +4))),.s (t (hd+4))],.i .i64 0]) [.keep,.keep,.keep,.keep,.keep]/\True/\rg (5)/\rg (hd+5)/\Con Tryz.prog 49 [.p 0 0,cfA,.i .i64 (hd+5)] [some chO,some
 nsO,some noO,some (SS.o s),some (r3O c false)] (.tup [.agg [.i .i64 (ofNat (q (hd+5))),.s (t (hd+5))],.i .i64 0]) [.keep,.keep,.keep,.keep,.keep]/\True/\rg
 (6)/\rg (hd+6)/\Con Tryz.prog 49 [.p 0 0,cfA,.i .i64 (hd+6)] [some chO,some nsO,some noO,some (SS.o s),some (r3O c false)] (.tup [.agg [.i .i64 (ofNat (q (hd
 +6))),.s (t (hd+6))],.i .i64 0]) [.keep,.keep,.keep,.keep,.keep]/\True/\rg (7)/\rg (hd+7)/\Con Tryz.prog 49 [.p 0 0,cfA,.i .i64 (hd+7)] [some chO,some
 nsO,some noO,some (SS.o s),some (r3O c false)] (.tup [.agg [.i .i64 (ofNat (q (hd+7))),.s (t (hd+7))],.i .i64 0]) [.keep,.keep,.keep,.keep,.keep]/\True/\rg
 (8)/\rg (hd+8)/\Con Tryz.prog 49 [.p 0 0,cfA,.i .i64 (hd+8)] [some chO,some nsO,some noO,some (SS.o s),some (r3O c false)] (.tup [.agg [.i .i64 (ofNat (q (hd
 +8))),.s (t (hd+8))],.i .i64 0]) [.keep,.keep,.keep,.keep,.keep]/\True/\rg (9)/\rg (hd+9)/\Con Tryz.prog 49 [.p 0 0,cfA,.i .i64 (hd+9)] [some chO,some
 nsO,some noO,some (SS.o s),some (r3O c false)] (.tup [.agg [.i .i64 (ofNat (q (hd+9))),.s (t (hd+9))],.i .i64 0]) [.keep,.keep,.keep,.keep,.keep]/\True/\rg
 (10)/\rg (hd+10)/\Con Tryz.prog 49 [.p 0 0,cfA,.i .i64 (hd+10)] [some chO,some nsO,some noO,some (SS.o s),some (r3O c false)] (.tup [.agg [.i .i64 (ofNat (q
 (hd+10))),.s (t (hd+10))],.i .i64 0]) [.keep,.keep,.keep,.keep,.keep]/\True/\rg (11)/\rg (hd+11)/\Con Tryz.prog 49 [.p 0 0,cfA,.i .i64 (hd+11)] [some chO,
 some nsO,some noO,some (SS.o s),some (r3O c false)] (.tup [.agg [.i .i64 (ofNat (q (hd+11))),.s (t (hd+11))],.i .i64 0]) [.keep,.keep,.keep,.keep,.keep]/\
 True/\rg (12)/\rg (hd+12)/\Con Tryz.prog 49 [.p 0 0,cfA,.i .i64 (hd+12)] [some chO,some nsO,some noO,some (SS.o s),some (r3O c false)] (.tup [.agg [.i .i64
 (ofNat (q (hd+12))),.s (t (hd+12))],.i .i64 0]) [.keep,.keep,.keep,.keep,.keep]/\True/\rg (13)/\rg (hd+13)/\Con Tryz.prog 49 [.p 0 0,cfA,.i .i64 (hd +
 13)] [some chO,some nsO,some noO,some (SS.o s),some (r3O c false)] (.tup [.agg [.i .i64 (ofNat (q (hd+13))),.s (t (hd+13))],.i .i64 0]) [.keep,.keep,.keep,
 .keep,.keep]/\True/\rg (14)/\rg (hd+14)/\Con Tryz.prog 49 [.p 0 0,cfA,.i .i64 (hd+14)] [some chO,some nsO,some noO,some (SS.o s),some (r3O c false)] (.tup
 [.agg [.i .i64 (ofNat (q (hd+14))),.s (t (hd+14))],.i .i64 0]) [.keep,.keep,.keep,.keep,.keep]/\True/\rg (15)/\rg (hd+15)/\Con Tryz.prog 49 [.p 0 0,cfA,
 .i .i64 (hd+15)] [some chO,some nsO,some noO,some (SS.o s),some (r3O c false)] (.tup [.agg [.i .i64 (ofNat (q (hd+15))),.s (t (hd+15))],.i .i64 0]) [.keep,
 .keep,.keep,.keep,.keep]/\True/\rg (16)/\Lf):=by unfold VF;kernel_rfl
theorem wr_con (hd:Int) (c:CS) (s:SS) (q:Int->Nat) (t:Int->List Nat) (h0:0<=hd) (h1:hd<=112) (hrd:∀b:Int,0<=b->b<=127->Con Tryz.prog 49 [.p 0 0,cfA,.i .i64 b] [some chO,some nsO,some noO,some s.o,some (r3O c false)] (.tup [.agg [.i .i64 (ofNat (q b)),.s (t b)],.i .i64 0]) [.keep,.keep,.keep,.keep,.keep]):Con Tryz.prog 26 [.p 0 0,cfA,.i .i64 hd] [some chO,some nsO,some noO,some s.o,some (r3O c false)] (.tup [.sv 1 16 (listF 1 [.s (t (hd+0)),.s (t (hd+1)),.s (t (hd+2)),.s (t (hd+3)),.s (t (hd+4)),.s (t (hd+5)),.s (t (hd+6)),.s (t (hd+7)),.s (t (hd+8)),.s (t (hd+9)),.s (t (hd+10)),.s (t (hd+11)),.s (t (hd+12)),.s (t (hd+13)),.s (t (hd+14)),.s (t (hd+15))] 16),.i .i64 0]) [.keep,.keep,.keep,.keep,.keep]:=by
 exact con_f (wr0_fq (c:=c) (s:=s) (q:=q) (t:=t) (hd:=hd)) (by simp) (by repeat' first | exact trivial | assumption | exact rfl | exact nT (by assumption) | exact nF (by assumption) | exact hrd _ (by omega) (by omega) | (unfold rg;omega) | omega | apply And.intro | decide)
theorem pc10_vq:VD Tryz.prog 110 [.s [1,0,1,1,5,1,1,97,186,152,74,254]] [] (.inl (.c (.inl (.inl (.c (.inl (.inl (oc 2 (.inl (.inl (oc 10 (.inl (.inl (oc 2 (.inl (.inl (oc 10 (.inl (.inl (oc 2 (.inl (.inl (oc 10 (.inl (.c .z))))))))))))))))))))))))) (.tup [.i .i64 1,.s [1,5,1,1,97,186,152,74,254]]) [] [] 4 (fun Lf=>True/\True/\True/\True/\True/\rg (1)/\rg (0)/\(0:Int)<=(0:Int)/\True/\rg (1)/\True/\True/\True/\True/\True/\True/\True/\rg (0)/\rg (0)/\(0:Int)<=(0:Int)/\True/\rg (1)/\True/\True/\True/\True/\True/\True/\True/\rg (1)/\rg (0)/\(0:Int)<=(0:Int)/\True/\rg (1)/\True/\True/\True/\True/\True/\rg (3)/\((0:Int)<=(3:Int)/\True/\3<=12/\12<=12)/\Lf):=by unfold VD VQ;kernel_rfl
theorem pc1_con:Con Tryz.prog 110 [.s [1,0,1,1,5,1,1,97,186,152,74,254]] [] (.tup [.i .i64 1,.s [1,5,1,1,97,186,152,74,254]]) []:=by
 exact con_d (pc10_vq) (by repeat' first | exact trivial | assumption | exact rfl | exact nT (by assumption) | exact nF (by assumption) | apply And.intro | decide)
theorem pc00_vq:VD Tryz.prog 110 [.s []] [] (.inl (.c (.inl (.inl (.c (.inl (.inl (oc 2 (.inl (.inl (oc 2 (.inl (.inl (oc 2 (.inl (.inl (oc 2 (.inl (.c .z))))))))))))))))))) (.tup [.i .i64 0,.s []]) [] [] 3 (fun Lf=>True/\True/\True/\True/\True/\True/\True/\True/\True/\True/\True/\True/\True/\rg (0)/\((0:Int)<=(0:Int)/\True/\0<=0/\0<=0)/\Lf):=by unfold VD VQ;kernel_rfl
theorem pc0_con:Con Tryz.prog 110 [.s []] [] (.tup [.i .i64 0,.s []]) []:=by
 exact con_d (pc00_vq) (by repeat' first | exact trivial | assumption | exact rfl | exact nT (by assumption) | exact nF (by assumption) | apply And.intro | decide)
theorem fi10_vq (S:Nat) (h:decide (4266301626=ofNat S)=true):VD Tryz.prog 52 [.sv 1 15 (shiftF 1 (listF 1 [.s [],.s [1,0,1,1,5,1,1,97,186,152,74,254],.s [],.s [],.s [],.s [],.s [],.s [],.s [],.s [],.s [],.s [],.s [],.s [],.s [],.s []] 16)),.i .i64 1] [] (.cal [] (.s [1,5,1,1,97,186,152,74,254]) [] (.inl (.c (.inl (.c (.inl (oc 5 (.cal [0] (.i .u32 (ofNat S)) [.keep] (.f (.inl (.c (.inl (.inl (.c (.inl (.inl (oc 2 (.inl (.inl (oc 10 (.inl (oc 2 (.inl (oc 4 (.inl (.inl (oc 2 (.inl (.inl (oc 10 (.inl (.inl (oc 2 (.inl (.inl (oc 10 (.inl (.inl (oc 2 (.inl (.inl (.inl (oc 13 (.inl (oc 5 (.cal [7] (.tup [.s [1,5,1,1,97,186,152,74,254],.i .i64 0]) [.keep] (oc 4 (.inl (oc 8 (.inl (.c (.inl (.inl (.inl (.inl (.inl (.c (.cal [12] (.s [1,0,1]) [.keep] (.c (.inl (oc 5 (.inl (.c (.inl (oc 3 (.inl (oc 4 .z))))))))))))))))))))))))))))))))))))))))))))))))))))))))))))))))))) (.tup [.l 0 0 1 1 3 false,.i .i64 1]) [.set (cellsO 47 [.i .i64 5,.i .i64 1,.s [97]])] [7] 15 (fun Lf=>Con Tryz.prog 79 [.sv 1 15 (shiftF 1 (listF 1 [CV.s [],CV.s [1,0,1,1,5,1,1,97,186,152,74,254],CV.s [],CV.s [],CV.s [],CV.s [],CV.s [],CV.s [],CV.s [],CV.s [],CV.s [],CV.s [],CV.s [],CV.s [],CV.s [],CV.s []] 16))] [] (.s [1,5,1,1,97,186,152,74,254]) []/\rg (5)/\True/\True/\(0:Int)<=(8:Int)/\True/\True/\(0:Int)<=(16:Int)/\True/\True/\(0:Int)<=(24:Int)/\True/\Con Tryz.prog 87 [.l 0 0 5 9 1 false] [some (cellsO 5 [.i .u8 1,.i .u8 5,.i .u8 1,.i .u8 1,.i .u8 97,.i .u8 186,.i .u8 152,.i .u8 74,.i .u8 254])] (.i .u32 (ofNat S)) [.keep]/\(!decide (4266301626=ofNat S))=false/\True/\True/\True/\True/\True/\True/\rg (1)/\rg (0)/\(0:Int)<=(0:Int)/\True/\rg (1)/\True/\True/\True/\True/\True/\True/\True/\True/\True/\rg (5)/\rg (0)/\(0:Int)<=(0:Int)/\True/\rg (1)/\True/\True/\True/\True/\True/\True/\True/\rg (1)/\rg (0)/\(0:Int)<=(0:Int)/\True/\rg (1)/\True/\True/\True/\True/\True/\True/\True/\rg (1)/\rg (0)/\(0:Int)<=(0:Int)/\True/\rg (1)/\rg (1)/\rg (2)/\rg (2)/\True/\True/\True/\Con Tryz.prog 30 [.l 0 0 1 1 3 false] [some (cellsO 47 [.i .i64 5,.i .i64 1,.s [97]])] (.tup [.s [1,5,1,1,97,186,152,74,254],.i .i64 0]) [.keep]/\rg (45)/\rg (44)/\((36:Int)≠(0:Int)/\(-9223372036854775808:Int)<=(1:Int)/\(1:Int)<=(9223372036854775807:Int))/\True/\rg (45)/\rg (44)/\((36:Int)≠(0:Int)/\(-9223372036854775808:Int)<=(1:Int)/\(1:Int)<=(9223372036854775807:Int))/\rg (0)/\rg (1)/\rg (36)/\((0:Int)<=(0:Int)/\(0:Int)<=(9:Int)/\0<=9/\9<=9)/\Con Tryz.prog 34 [.l 0 0 3 3 1 true] [some (cellsO 3 [.i .i64 1,.i .i64 0,.i .i64 1])] (.s [1,0,1]) [.keep]/\12<=1073741824/\True/\rg (1)/\(True/\(0:Int)<=(1:Int)/\0<=1/\1<=15)/\((0:Int)<=(0:Int)/\(0:Int)<(1:Int))/\True/\rg (1)/\True/\Lf):=by unfold VD VQ;kernel_rfl
theorem fi1_con (S:Nat) (ksum:Con Tryz.prog 87 [.l 0 0 5 9 1 false] [some (cellsO 5 [.i .u8 1,.i .u8 5,.i .u8 1,.i .u8 1,.i .u8 97,.i .u8 186,.i .u8 152,.i .u8 74,.i .u8 254])] (.i .u32 (ofNat S)) [.keep]) (kenc:Con Tryz.prog 30 [.l 0 0 1 1 3 false] [some (cellsO 47 [.i .i64 5,.i .i64 1,.s [97]])] (.tup [.s [1,5,1,1,97,186,152,74,254],.i .i64 0]) [.keep]) (kf3:Con Tryz.prog 34 [.l 0 0 3 3 1 true] [some (cellsO 3 [.i .i64 1,.i .i64 0,.i .i64 1])] (.s [1,0,1]) [.keep]) (h:decide (4266301626=ofNat S)=true) (kjn:Con Tryz.prog 79 [.sv 1 15 (shiftF 1 (listF 1 [.s [],.s [1,0,1,1,5,1,1,97,186,152,74,254],.s [],.s [],.s [],.s [],.s [],.s [],.s [],.s [],.s [],.s [],.s [],.s [],.s [],.s []] 16))] [] (.s [1,5,1,1,97,186,152,74,254]) []):Con Tryz.prog 52 [.sv 1 15 (shiftF 1 (listF 1 [.s [],.s [1,0,1,1,5,1,1,97,186,152,74,254],.s [],.s [],.s [],.s [],.s [],.s [],.s [],.s [],.s [],.s [],.s [],.s [],.s [],.s []] 16)),.i .i64 1] [] (.tup [.l 0 0 1 1 3 false,.i .i64 1]) [.set (cellsO 47 [.i .i64 5,.i .i64 1,.s [97]])]:=by
 exact con_d (fi10_vq (S:=S) (h:=h)) (by repeat' first | exact trivial | assumption | exact rfl | exact nT (by assumption) | exact nF (by assumption) | assumption | assumption | assumption | assumption | apply And.intro | decide)
theorem fi00_vq:VD Tryz.prog 52 [.sv 1 15 (shiftF 1 (listF 1 [.s [],.s [],.s [],.s [],.s [],.s [],.s [],.s [],.s [],.s [],.s [],.s [],.s [],.s [],.s [],.s []] 16)),.i .i64 1] [] (.inl (.c (.inl (.inl (.c (.inl (.inl (.c (.inl (.inl (oc 2 (.inl (.inl (oc 2 (.inl (.inl (oc 2 (.inl (.inl (oc 2 (.inl (.c (.inl (oc 5 (.inl (.c (.inl (.c (.inl (.inl (.c (.inl (.inl (oc 2 (.inl (.inl (oc 2 (.inl (oc 5 (.cal [] (.tup [.s [],.i .i64 2]) [] (oc 4 (.inl (oc 16 .z))))))))))))))))))))))))))))))))))))))))))) (.tup [.l0,.i .i64 0]) [] [] 5 (fun Lf=>((0:Int)<=(0:Int)/\(0:Int)<(15:Int))/\True/\True/\True/\True/\True/\True/\True/\True/\True/\True/\True/\True/\True/\True/\rg (0)/\((0:Int)<=(0:Int)/\True/\0<=0/\0<=0)/\True/\rg ((-4))/\True/\True/\True/\True/\True/\True/\True/\Con Tryz.prog 30 [.l0] [] (.tup [.s [],.i .i64 2]) []/\rg (36)/\rg (35)/\((36:Int)≠(0:Int)/\(-9223372036854775808:Int)<=(0:Int)/\(0:Int)<=(9223372036854775807:Int))/\True/\Lf):=by unfold VD VQ;kernel_rfl
theorem fi0_con (kenc:Con Tryz.prog 30 [.l0] [] (.tup [.s [],.i .i64 2]) []):Con Tryz.prog 52 [.sv 1 15 (shiftF 1 (listF 1 [.s [],.s [],.s [],.s [],.s [],.s [],.s [],.s [],.s [],.s [],.s [],.s [],.s [],.s [],.s [],.s []] 16)),.i .i64 1] [] (.tup [.l0,.i .i64 0]) []:=by
 exact con_d (fi00_vq) (by repeat' first | exact trivial | assumption | exact rfl | exact nT (by assumption) | exact nF (by assumption) | assumption | apply And.intro | decide)
theorem fi20_vq:VD Tryz.prog 52 [.sv 1 14 (shiftF 1 (shiftF 1 (listF 1 [.s [],.s [1,0,1,1,5,1,1,97,186,152,74,254],.s [],.s [],.s [],.s [],.s [],.s [],.s [],.s [],.s [],.s [],.s [],.s [],.s [],.s []] 16))),.i .i64 2] [] (.inl (.c (.inl (.inl (.c (.inl (.inl (.c (.inl (.inl (oc 2 (.inl (.inl (oc 2 (.inl (.inl (oc 2 (.inl (.inl (oc 2 (.inl (.c (.inl (oc 5 (.inl (.c (.inl (.c (.inl (.inl (.c (.inl (.inl (oc 2 (.inl (.inl (oc 2 (.inl (oc 5 (.cal [] (.tup [.s [],.i .i64 2]) [] (oc 4 (.inl (oc 16 .z))))))))))))))))))))))))))))))))))))))))))) (.tup [.l0,.i .i64 0]) [] [] 5 (fun Lf=>((0:Int)<=(0:Int)/\(0:Int)<(14:Int))/\True/\True/\True/\True/\True/\True/\True/\True/\True/\True/\True/\True/\True/\True/\rg (0)/\((0:Int)<=(0:Int)/\True/\0<=0/\0<=0)/\True/\rg ((-4))/\True/\True/\True/\True/\True/\True/\True/\Con Tryz.prog 30 [.l0] [] (.tup [.s [],.i .i64 2]) []/\rg (36)/\rg (35)/\((36:Int)≠(0:Int)/\(-9223372036854775808:Int)<=(0:Int)/\(0:Int)<=(9223372036854775807:Int))/\True/\Lf):=by unfold VD VQ;kernel_rfl
theorem fi2_con (kenc:Con Tryz.prog 30 [.l0] [] (.tup [.s [],.i .i64 2]) []):Con Tryz.prog 52 [.sv 1 14 (shiftF 1 (shiftF 1 (listF 1 [.s [],.s [1,0,1,1,5,1,1,97,186,152,74,254],.s [],.s [],.s [],.s [],.s [],.s [],.s [],.s [],.s [],.s [],.s [],.s [],.s [],.s []] 16))),.i .i64 2] [] (.tup [.l0,.i .i64 0]) []:=by
 exact con_d (fi20_vq) (by repeat' first | exact trivial | assumption | exact rfl | exact nT (by assumption) | exact nF (by assumption) | assumption | apply And.intro | decide)
theorem op00_vq (c:CS) (s:SS) (ow wr gn:Int) (o1:decide (0<=ow)=true) (o2:decide (ow<=2)=true) (o3:decide (0<=wr)=true) (o4:decide (wr<=2)=true) (o5:decide (1<=gn)=true) (o6:decide (gn<=1099511627776)=true):VD Tryz.prog 8 [.p 0 0,cfA,.i .i64 ow,.i .i64 wr,.i .i64 gn] [some chO,some nsO,some noO,some s.o,some (r3O c false)] (.c (.inl (.inl (ot 6 (.inl (.inl (ot 5 (.f (.t (.t (.inl (ot 5 (.f (.f (.inl (.cal [0,1,2,3,4] (.tup [.sv 1 16 (listF 1 [CV.s [],CV.s [],CV.s [],CV.s [],CV.s [],CV.s [],CV.s [],CV.s [],CV.s [],CV.s [],CV.s [],CV.s [],CV.s [],CV.s [],CV.s [],CV.s []] 16),.i .i64 0]) [.keep,.keep,.keep,.keep,.keep] (.c (.inl (oc 2 (.inl (.inl (.cal [] (.tup [.l0,.i .i64 0]) [] (.c .z))))))))))))))))))))))) (.tup [.p 5 0,.l0,.i .i64 0]) [.keep,.keep,.keep,.keep,.keep,.set (lgO ow wr gn 1 0 0 [])] [6] 7 (fun Lf=>True/\r4 (decide (0<=ow)=true) (True/\r2 ((!!decide (ow<=2))=true) (r4 (decide (0<=wr)=true) ((!!decide (ow<=2))=true/\True/\(!decide (ow<=2))=false/\r2 ((!!decide (wr<=2))=true) (r4 (decide (1<=gn)=true) ((!!decide (wr<=2))=true/\True/\(!decide (wr<=2))=false/\(!decide (gn<=1099511627776))=false/\rg (16*ow)/\rg ((80:Int)+(16:Int)*ow)/\Con Tryz.prog 26 [.p 0 0,cfA,.i .i64 ((80:Int)+(16:Int)*ow)] [some chO,some nsO,some noO,some (SS.o s),some (r3O c false)] (.tup [.sv 1 16 (listF 1 [CV.s [],CV.s [],CV.s [],CV.s [],CV.s [],CV.s [],CV.s [],CV.s [],CV.s [],CV.s [],CV.s [],CV.s [],CV.s [],CV.s [],CV.s [],CV.s []] 16),.i .i64 0]) [.keep,.keep,.keep,.keep,.keep]/\((0:Int)<=(0:Int)/\(0:Int)<(16:Int))/\True/\((0:Int)<=(1:Int)/\True/\1<=16/\16<=16)/\((0:Int)<=(0:Int)/\True/\0<=15/\15<=15)/\rg (1)/\Con Tryz.prog 52 [.sv 1 15 (shiftF 1 (listF 1 [CV.s [],CV.s [],CV.s [],CV.s [],CV.s [],CV.s [],CV.s [],CV.s [],CV.s [],CV.s [],CV.s [],CV.s [],CV.s [],CV.s [],CV.s [],CV.s []] 16)),.i .i64 1] [] (.tup [.l0,.i .i64 0]) []/\Lf)))))):=by unfold VD VQ;kernel_rfl
theorem op0_con (c:CS) (s:SS) (ow wr gn:Int) (kwrN:Con Tryz.prog 26 [.p 0 0,cfA,.i .i64 (80+16*ow)] [some chO,some nsO,some noO,some s.o,some (r3O c false)] (.tup [.sv 1 16 (listF 1 [.s [],.s [],.s [],.s [],.s [],.s [],.s [],.s [],.s [],.s [],.s [],.s [],.s [],.s [],.s [],.s []] 16),.i .i64 0]) [.keep,.keep,.keep,.keep,.keep]) (kc0:Con Tryz.prog 52 [.sv 1 15 (shiftF 1 (listF 1 [.s [],.s [],.s [],.s [],.s [],.s [],.s [],.s [],.s [],.s [],.s [],.s [],.s [],.s [],.s [],.s []] 16)),.i .i64 1] [] (.tup [.l0,.i .i64 0]) []) (o1:decide (0<=ow)=true) (o2:decide (ow<=2)=true) (o3:decide (0<=wr)=true) (o4:decide (wr<=2)=true) (o5:decide (1<=gn)=true) (o6:decide (gn<=1099511627776)=true):Con Tryz.prog 8 [.p 0 0,cfA,.i .i64 ow,.i .i64 wr,.i .i64 gn] [some chO,some nsO,some noO,some s.o,some (r3O c false)] (.tup [.p 5 0,.l0,.i .i64 0]) [.keep,.keep,.keep,.keep,.keep,.set (lgO ow wr gn 1 0 0 [])]:=by
 have q1:=of_decide_eq_true o1
 have q2:=of_decide_eq_true o2
 exact con_d (op00_vq (c:=c) (s:=s) (ow:=ow) (wr:=wr) (gn:=gn) (o1:=o1) (o2:=o2) (o3:=o3) (o4:=o4) (o5:=o5) (o6:=o6)) (by repeat' first | exact trivial | assumption | exact rfl | exact nT (by assumption) | exact nF (by assumption) | assumption | assumption | exact nnT (by assumption) | exact nnF (by assumption) | (unfold rg;omega) | omega | apply And.intro | decide)
theorem op10_vq (c:CS) (s:SS) (ow wr gn:Int) (o1:decide (0<=ow)=true) (o2:decide (ow<=2)=true) (o3:decide (0<=wr)=true) (o4:decide (wr<=2)=true) (o5:decide (1<=gn)=true) (o6:decide (gn<=1099511627776)=true):VD Tryz.prog 8 [.p 0 0,cfA,.i .i64 ow,.i .i64 wr,.i .i64 gn] [some chO,some nsO,some noO,some s.o,some (r3O c false)] (.c (.inl (.inl (ot 6 (.inl (.inl (ot 5 (.f (.t (.t (.inl (ot 5 (.f (.f (.inl (.cal [0,1,2,3,4] (.tup [.sv 1 16 (listF 1 [CV.s [],CV.s [1,0,1,1,5,1,1,97,186,152,74,254],CV.s [],CV.s [],CV.s [],CV.s [],CV.s [],CV.s [],CV.s [],CV.s [],CV.s [],CV.s [],CV.s [],CV.s [],CV.s [],CV.s []] 16),.i .i64 0]) [.keep,.keep,.keep,.keep,.keep] (.c (.inl (oc 2 (.inl (.inl (.cal [] (.tup [.l 0 0 1 1 3 false,.i .i64 1]) [.set (cellsO 47 [.i .i64 5,.i .i64 1,.s [97]])] (.c (.inl (.cal [] (.tup [.l0,.i .i64 0]) [] (.c .z)))))))))))))))))))))))))) (.tup [.p 5 0,.l 6 0 1 1 1 false,.i .i64 0]) [.keep,.keep,.keep,.keep,.keep,.set (lgO ow wr gn 1 1 1 []),.set (cellsO 39 [.l 7 0 1 1 3 false]),.set (cellsO 47 [.i .i64 5,.i .i64 1,.s [97]])] [9,8,6] 10 (fun Lf=>True/\r4 (decide (0<=ow)=true) (True/\r2 ((!!decide (ow<=2))=true) (r4 (decide (0<=wr)=true) ((!!decide (ow<=2))=true/\True/\(!decide (ow<=2))=false/\r2 ((!!decide (wr<=2))=true) (r4 (decide (1<=gn)=true) ((!!decide (wr<=2))=true/\True/\(!decide (wr<=2))=false/\(!decide (gn<=1099511627776))=false/\rg (16*ow)/\rg ((80:Int)+(16:Int)*ow)/\Con Tryz.prog 26 [.p 0 0,cfA,.i .i64 ((80:Int)+(16:Int)*ow)] [some chO,some nsO,some noO,some (SS.o s),some (r3O c false)] (.tup [.sv 1 16 (listF 1 [CV.s [],CV.s [1,0,1,1,5,1,1,97,186,152,74,254],CV.s [],CV.s [],CV.s [],CV.s [],CV.s [],CV.s [],CV.s [],CV.s [],CV.s [],CV.s [],CV.s [],CV.s [],CV.s [],CV.s []] 16),.i .i64 0]) [.keep,.keep,.keep,.keep,.keep]/\((0:Int)<=(0:Int)/\(0:Int)<(16:Int))/\True/\((0:Int)<=(1:Int)/\True/\1<=16/\16<=16)/\((0:Int)<=(0:Int)/\True/\0<=15/\15<=15)/\rg (1)/\Con Tryz.prog 52 [.sv 1 15 (shiftF 1 (listF 1 [CV.s [],CV.s [1,0,1,1,5,1,1,97,186,152,74,254],CV.s [],CV.s [],CV.s [],CV.s [],CV.s [],CV.s [],CV.s [],CV.s [],CV.s [],CV.s [],CV.s [],CV.s [],CV.s [],CV.s []] 16)),.i .i64 1] [] (.tup [.l 0 0 1 1 3 false,.i .i64 1]) [.set (cellsO 47 [.i .i64 5,.i .i64 1,.s [97]])]/\rg (1)/\((0:Int)<=(1:Int)/\True/\1<=15/\15<=15)/\rg (2)/\Con Tryz.prog 52 [.sv 1 14 (shiftF 1 (shiftF 1 (listF 1 [CV.s [],CV.s [1,0,1,1,5,1,1,97,186,152,74,254],CV.s [],CV.s [],CV.s [],CV.s [],CV.s [],CV.s [],CV.s [],CV.s [],CV.s [],CV.s [],CV.s [],CV.s [],CV.s [],CV.s []] 16))),.i .i64 2] [] (.tup [.l0,.i .i64 0]) []/\Lf)))))):=by unfold VD VQ;kernel_rfl
theorem op1_con (c:CS) (s:SS) (ow wr gn:Int) (kwrO:Con Tryz.prog 26 [.p 0 0,cfA,.i .i64 (80+16*ow)] [some chO,some nsO,some noO,some s.o,some (r3O c false)] (.tup [.sv 1 16 (listF 1 [.s [],.s [1,0,1,1,5,1,1,97,186,152,74,254],.s [],.s [],.s [],.s [],.s [],.s [],.s [],.s [],.s [],.s [],.s [],.s [],.s [],.s []] 16),.i .i64 0]) [.keep,.keep,.keep,.keep,.keep]) (kc1:Con Tryz.prog 52 [.sv 1 15 (shiftF 1 (listF 1 [.s [],.s [1,0,1,1,5,1,1,97,186,152,74,254],.s [],.s [],.s [],.s [],.s [],.s [],.s [],.s [],.s [],.s [],.s [],.s [],.s [],.s []] 16)),.i .i64 1] [] (.tup [.l 0 0 1 1 3 false,.i .i64 1]) [.set (cellsO 47 [.i .i64 5,.i .i64 1,.s [97]])]) (kc2:Con Tryz.prog 52 [.sv 1 14 (shiftF 1 (shiftF 1 (listF 1 [.s [],.s [1,0,1,1,5,1,1,97,186,152,74,254],.s [],.s [],.s [],.s [],.s [],.s [],.s [],.s [],.s [],.s [],.s [],.s [],.s [],.s []] 16))),.i .i64 2] [] (.tup [.l0,.i .i64 0]) []) (o1:decide (0<=ow)=true) (o2:decide (ow<=2)=true) (o3:decide (0<=wr)=true) (o4:decide (wr<=2)=true) (o5:decide (1<=gn)=true) (o6:decide (gn<=1099511627776)=true):Con Tryz.prog 8 [.p 0 0,cfA,.i .i64 ow,.i .i64 wr,.i .i64 gn] [some chO,some nsO,some noO,some s.o,some (r3O c false)] (.tup [.p 5 0,.l 6 0 1 1 1 false,.i .i64 0]) [.keep,.keep,.keep,.keep,.keep,.set (lgO ow wr gn 1 1 1 []),.set (cellsO 39 [.l 7 0 1 1 3 false]),.set (cellsO 47 [.i .i64 5,.i .i64 1,.s [97]])]:=by
 have q1:=of_decide_eq_true o1
 have q2:=of_decide_eq_true o2
 exact con_d (op10_vq (c:=c) (s:=s) (ow:=ow) (wr:=wr) (gn:=gn) (o1:=o1) (o2:=o2) (o3:=o3) (o4:=o4) (o5:=o5) (o6:=o6)) (by repeat' first | exact trivial | assumption | exact rfl | exact nT (by assumption) | exact nF (by assumption) | assumption | assumption | assumption | exact nnT (by assumption) | exact nnF (by assumption) | (unfold rg;omega) | omega | apply And.intro | decide)
theorem aw0_vq (c:CS) (s:SS) (cc:CS) (ss:SS) (c4:CS) (s4:SS):VD Tryz.prog 9 [] [] (.cal [] (.tup [.p 0 0,.i .i64 0]) [.set chO,.set nsO,.set noO,.set (SS.o s),.set (r3O c false)] (.cal [] (.tup [cfA,.i .i64 0]) [] (.cal [0,1,2,3,4] (.tup [.p 5 0,.l0,.i .i64 0]) [.keep,.keep,.keep,.keep,.keep,.set (lgO 0 0 1 1 0 0 [])] (oc 9 (.inl (oc 5 (.inl (oc 4 (.inl (.c (.cal [7] (.tup [.s [1,5,1,1,97,186,152,74,254],.i .i64 0]) [.keep] (.c (.inl (oc 8 (.inl (oc 2 (.inl (oc 2 (.inl (.inl (.inl (.c (.inl (.inl (.inl (.inl (.c (.cal [16] (.s [1,0,1]) [.keep] (.inl (.cal [0,1,2,3,4] (.i .i64 0) [.keep,.keep,.keep,.set (SS.o ss),.set (r3O cc false)] (oc 2 (.inl (oc 4 (.inl (oc 5 (.inl (oc 5 (.inl (oc 4 (.cal [0,1,2,3,4] (.tup [.p 5 0,.l 6 0 1 1 1 false,.i .i64 0]) [.keep,.keep,.keep,.keep,.keep,.set (lgO 0 1 1 1 1 1 []),.set (cellsO 39 [.l 7 0 1 1 3 false]),.set (cellsO 47 [.i .i64 5,.i .i64 1,.s [97]])] (.inl (.cal [21] (.tup [.s r46,.i .i64 0]) [.keep] (.c (.inl (oc 10 (.inl (.c (.inl (oc 4 (.inl (oc 5 (.inl (.c (.inl (oc 2 (.inl (.cal [23] (.s [3]) [.keep] (.inl (.cal [0,1,2,3,4] (.i .i64 0) [.keep,.keep,.keep,.set (SS.o s4),.set (r3O c4 false)] (oc 5 (.inl (oc 5 (.inl (oc 9 .z)))))))))))))))))))))))))))))))))))))))))))))))))))))))))))))))) (.b true) [] [] 25 (fun Lf=>Con Tryz.prog 6 [.i .i64 1] [] (.tup [.p 0 0,.i .i64 0]) [.set chO,.set nsO,.set noO,.set (SS.o s),.set (r3O c false)]/\Con Tryz.prog 7 [.i .i64 1] [] (.tup [cfA,.i .i64 0]) []/\Con Tryz.prog 8 [.p 0 0,cfA,.i .i64 0,.i .i64 0,.i .i64 1] [some chO,some nsO,some noO,some (SS.o s),some (r3O c false)] (.tup [.p 5 0,.l0,.i .i64 0]) [.keep,.keep,.keep,.keep,.keep,.set (lgO 0 0 1 1 0 0 [])]/\True/\True/\True/\rg (15)/\True/\True/\True/\rg (1)/\True/\Con Tryz.prog 30 [.l 0 0 1 1 3 true] [some (cellsO 47 [.i .i64 5,.i .i64 1,.s [97]])] (.tup [.s [1,5,1,1,97,186,152,74,254],.i .i64 0]) [.keep]/\rg (45)/\rg (44)/\((36:Int)≠(0:Int)/\(-9223372036854775808:Int)<=(1:Int)/\(1:Int)<=(9223372036854775807:Int))/\True/\True/\True/\rg (15)/\True/\True/\True/\rg (1)/\True/\rg (0)/\rg (80)/\rg (81)/\True/\rg (81)/\True/\True/\True/\rg (1)/\rg (45)/\rg (44)/\((36:Int)≠(0:Int)/\(-9223372036854775808:Int)<=(1:Int)/\(1:Int)<=(9223372036854775807:Int))/\rg (0)/\rg (1)/\rg (36)/\((0:Int)<=(0:Int)/\(0:Int)<=(9:Int)/\0<=9/\9<=9)/\Con Tryz.prog 34 [.l 0 0 3 3 1 true] [some (cellsO 3 [.i .i64 1,.i .i64 0,.i .i64 1])] (.s [1,0,1]) [.keep]/\12<=1073741824/\True/\True/\True/\Con Tryz.prog 59 [.p 0 0,cfA,.i .i64 81,.s [1,0,1,1,5,1,1,97,186,152,74,254],.i .i64 0,.i .i64 1] [some chO,some nsO,some noO,some (SS.o s),some (r3O c false)] (.i .i64 0) [.keep,.keep,.keep,.set (SS.o ss),.set (r3O cc false)]/\rg (82)/\True/\rg (1)/\True/\rg (1)/\True/\True/\rg (1)/\True/\True/\True/\True/\True/\True/\rg (14)/\True/\True/\True/\rg (2)/\Con Tryz.prog 8 [.p 0 0,cfA,.i .i64 0,.i .i64 1,.i .i64 1] [some chO,some nsO,some noO,some (SS.o ss),some (r3O cc false)] (.tup [.p 5 0,.l 6 0 1 1 1 false,.i .i64 0]) [.keep,.keep,.keep,.keep,.keep,.set (lgO 0 1 1 1 1 1 []),.set (cellsO 39 [.l 7 0 1 1 3 false]),.set (cellsO 47 [.i .i64 5,.i .i64 1,.s [97]])]/\Con Tryz.prog 30 [.l 0 0 1 1 3 true] [some (cellsO 47 [.i .i64 5,.i .i64 1,.s d38])] (.tup [.s r46,.i .i64 0]) [.keep]/\rg (82)/\rg (81)/\((36:Int)≠(0:Int)/\(-9223372036854775808:Int)<=(2:Int)/\(2:Int)<=(9223372036854775807:Int))/\True/\rg (1)/\True/\True/\True/\True/\rg (2)/\rg (3)/\True/\rg (0)/\rg (80)/\Con Tryz.prog 34 [.l 0 0 1 1 1 true] [some (cellsO 3 [.i .i64 3])] (.s [3]) [.keep]/\True/\True/\True/\Con Tryz.prog 59 [.p 0 0,cfA,.i .i64 80,.s [3],.i .i64 0,.i .i64 1] [some chO,some nsO,some noO,some (SS.o ss),some (r3O cc false)] (.i .i64 0) [.keep,.keep,.keep,.set (SS.o s4),.set (r3O c4 false)]/\True/\True/\True/\True/\True/\True/\True/\True/\True/\rg (3)/\Lf):=by unfold VD VQ;kernel_rfl
theorem aw_con (c cc c4:CS) (s ss s4:SS) (knwc:Con Tryz.prog 6 [.i .i64 1] [] (.tup [.p 0 0,.i .i64 0]) [.set chO,.set nsO,.set noO,.set s.o,.set (r3O c false)]) (kfsc:Con Tryz.prog 7 [.i .i64 1] [] (.tup [cfA,.i .i64 0]) []) (kopN:Con Tryz.prog 8 [.p 0 0,cfA,.i .i64 0,.i .i64 0,.i .i64 1] [some chO,some nsO,some noO,some s.o,some (r3O c false)] (.tup [.p 5 0,.l0,.i .i64 0]) [.keep,.keep,.keep,.keep,.keep,.set (lgO 0 0 1 1 0 0 [])]) (kopO:Con Tryz.prog 8 [.p 0 0,cfA,.i .i64 0,.i .i64 1,.i .i64 1] [some chO,some nsO,some noO,some ss.o,some (r3O cc false)] (.tup [.p 5 0,.l 6 0 1 1 1 false,.i .i64 0]) [.keep,.keep,.keep,.keep,.keep,.set (lgO 0 1 1 1 1 1 []),.set (cellsO 39 [.l 7 0 1 1 3 false]),.set (cellsO 47 [.i .i64 5,.i .i64 1,.s [97]])]) (kenA:Con Tryz.prog 30 [.l 0 0 1 1 3 true] [some (cellsO 47 [.i .i64 5,.i .i64 1,.s [97]])] (.tup [.s [1,5,1,1,97,186,152,74,254],.i .i64 0]) [.keep]) (kenW:Con Tryz.prog 30 [.l 0 0 1 1 3 true] [some (cellsO 47 [.i .i64 5,.i .i64 1,.s d38])] (.tup [.s r46,.i .i64 0]) [.keep]) (kf3:Con Tryz.prog 34 [.l 0 0 3 3 1 true] [some (cellsO 3 [.i .i64 1,.i .i64 0,.i .i64 1])] (.s [1,0,1]) [.keep]) (kf1:Con Tryz.prog 34 [.l 0 0 1 1 1 true] [some (cellsO 3 [.i .i64 3])] (.s [3]) [.keep]) (kwrA:Con Tryz.prog 59 [.p 0 0,cfA,.i .i64 81,.s [1,0,1,1,5,1,1,97,186,152,74,254],.i .i64 0,.i .i64 1] [some chO,some nsO,some noO,some s.o,some (r3O c false)] (.i .i64 0) [.keep,.keep,.keep,.set ss.o,.set (r3O cc false)]) (kwrB:Con Tryz.prog 59 [.p 0 0,cfA,.i .i64 80,.s [3],.i .i64 0,.i .i64 1] [some chO,some nsO,some noO,some ss.o,some (r3O cc false)] (.i .i64 0) [.keep,.keep,.keep,.set s4.o,.set (r3O c4 false)]):Con Tryz.prog 9 [] [] (.b true) []:=by
 exact con_d (aw0_vq (c:=c) (s:=s) (cc:=cc) (ss:=ss) (c4:=c4) (s4:=s4)) (by repeat' first | exact trivial | assumption | exact rfl | exact nT (by assumption) | exact nF (by assumption) | assumption | assumption | assumption | assumption | assumption | assumption | assumption | assumption | assumption | assumption | apply And.intro | decide)
end Go.Proofs.Ly
namespace Go.Proofs.Cl
open Go Go.Sim Go.Proofs Go.Proofs.Cd Go.Proofs.St Go.Proofs.Ly Go.Proofs.YtfpebgpcpoefpaaGreatDoor
abbrev obL (c:CS) (s:SS):List (Option AObj):=[some chO,some nsO,some noO,some s.o,some (r3O c false)]
theorem bq_at {k:Nat} {c:CS} {s:SS} (h:LV k c s) (b:Nat) (hb:b<128):bQ c (ofNat b)=blkQ (c.d b)/\bD c (ofNat b)=blkD (c.d b):=
 bQ_at (c:=c) h.L.R.n (b:=ofNat b) ⟨by simp,by simp;omega⟩
theorem LV.kbl {k:Nat} {c:CS} {s:SS} (h:LV k c s) (b:Nat) (hb:b<128):Con Tryz.prog 75 [.p 0 0,.i .i64 (ofNat b)] [some (c.ro false),some s.o] (.agg [.i .i64 (ofNat (blkQ (c.d b))),.s (blkD (c.d b))]) [.keep,.keep]:=by
 have q:=block_con c false s (ofNat b) h.L.T
 rw [(bq_at h b hb).1,(bq_at h b hb).2] at q
 exact q
theorem LV.read {k:Nat} {c:CS} {s:SS} (h:LV k c s) (b:Nat) (hb:b<128):Con Tryz.prog 49 [.p 0 0,cfA,.i .i64 (ofNat b)] (obL c s) (.tup [.agg [.i .i64 (ofNat (blkQ (c.d b))),.s (blkD (c.d b))],.i .i64 0]) [.keep,.keep,.keep,.keep,.keep]:=
 rdK_con c s 0 0 0 _ _ (ofNat b) h.kme h.kad (h.kbl b hb) (decide_eq_true (by simp)) (decide_eq_true (by simp;omega))
theorem apW {c:CS} {b x:Int} {d:List Nat} {v g:Int} (hm:mayA b x d v g=true) (hf:decide (g<fnc c v)=false) (hx:ofNat (bQ c b)<x):applyW c false b x d v g=-1:=by
 unfold applyW
 rw [hm,hf,decide_eq_false (show ¬x=ofNat (bQ c b) by omega),decide_eq_false (show ¬x<=ofNat (bQ c b) by omega)]
 rfl
theorem wl_six {n:Nat} (hn:n<=1099511627776):wl n<=6:=by
 obtain ⟨_,h,_⟩:=mR_ok (n:=n) (by omega)
 unfold wl
 rcases Nat.lt_or_ge 5 (mR n) with q | q
 · have a:=h 5 q
   have b:128 ^ 5=34359738368:=by decide
   rw [b] at a
   have:128*34359738368<=n:=by omega
   omega
 · omega
theorem btx_len {n:Nat} {d:List Nat} (hn:n<=1099511627776) (hd:d.length<=44):(btx n d).length<=51:=by
 unfold btx
 cases decide (ofNat n=(0:Int)) && (natsEq d [] && true) with
 | true=>exact Nat.zero_le _
 | false=>
   show (bytesF (wl n) (Cl.iF (wB n)) ++ d).length<=51
   rw [List.length_append,bytesF_len]
   have:=wl_six hn
   omega
theorem LV.write {k:Nat} {c:CS} {s:SS} (h:LV k c s) (hk:k<1001) (b:Nat) (hb:b<128) (d:List Nat) (hd:∀y∈d,y<256) (hl:d.length<=44) (hq:blkQ (c.d b)<1099511627776) (v g:Int) (hv:0<=v/\v<=2) (hg:1<=g/\g<=1099511627776) :
 ∃C S,Con Tryz.prog 59 [.p 0 0,cfA,.i .i64 (ofNat b),.s d,.i .i64 v,.i .i64 g] (obL c s) (.i .i64 0) [.keep,.keep,.keep,.set S.o,.set (r3O C false)]/\LV (k+1) C S/\C.d b=btx (blkQ (c.d b)+1) d/\∀j,j≠b->C.d j=c.d j:=by
 have hkk:=h.L.R.hk
 have qb:=bq_at h b hb
 have hm:mayA (ofNat b) (ofNat (blkQ (c.d b))+1) d v g=true:=by
  unfold mayA
  simp only [Bool.and_eq_true]
  exact ⟨decide_eq_true (by simp),decide_eq_true (by simp;omega),decide_eq_true (by simp;omega),decide_eq_true (by simp;omega),decide_eq_true (by simp;omega),decide_eq_true hv.1,decide_eq_true hv.2,decide_eq_true hg.1,decide_eq_true hg.2⟩
 have hf:decide (g<fnc c v)=false:=by
  obtain ⟨_,_,e2,e3,e4⟩:=h.mv5
  rw [fnc_at c hv]
  refine decide_eq_false ?_
  have:v.toNat=0\/v.toNat=1\/v.toNat=2:=by omega
  rcases this with e | e | e<;>rw [e]<;>simp only [e2,e3,e4,Nat.add_zero,show 2+1=3 from rfl,show 2+2=4 from rfl]<;>simp<;>omega
 have w:=apW (c:=c) (b:=ofNat b) (x:=ofNat (blkQ (c.d b))+1) (d:=d) hm hf (by rw [qb.1];omega)
 have a:=apply_con h.L.R.inv h.L.T (by omega) false (ofNat b) (ofNat (blkQ (c.d b))+1) d v g hd
 rw [w] at a
 have tn:(ofNat (blkQ (c.d b))+1).toNat=blkQ (c.d b)+1:=by simp<;>omega
 rw [tn] at a
 obtain ⟨p1,p2,p3,p4⟩:=h.L.put hk b (by omega) (btx (blkQ (c.d b)+1) d) (btx_lt (by omega) hd) (btx_len (by omega) hl)
 obtain ⟨e1,e2,e3,e4⟩:=act_yes c false s (ofNat b) (btx (blkQ (c.d b)+1) d)
 unfold Act at a
 rw [e1,e2,e3,e4,p1] at a
 refine ⟨c.putC s (ofNat b) (btx (blkQ (c.d b)+1) d),c.putS s (ofNat b) (btx (blkQ (c.d b)+1) d),?_,⟨p2,by rw [p4 128 (by omega)];exact h.m⟩,p3,p4⟩
 exact wrO_con c s 0 0 0 _ _ (ofNat b) d v g 0 _ _ false h.kme h.kad (h.kbl b hb) a (decide_eq_true (by simp)) (decide_eq_true (by simp;omega)) (decide_eq_true (by simp;omega)) (decide_eq_true hv.1) (decide_eq_true hv.2) (decide_eq_true hg.1) (decide_eq_true hg.2) (decide_eq_false (by simp;omega)) rfl rfl
theorem LV.new:∃c s,Con Tryz.prog 6 [.i .i64 1] [] (.tup [.p 0 0,.i .i64 0]) [.set chO,.set nsO,.set noO,.set s.o,.set (r3O c false)]/\LV 2 c s/\∀j,j<128->c.d j=[]:=by
 have L0:=LI.new
 have m0:∀j,mV (opened (SS.new 258) 129) j=mtV [] j:=fun j=>by
  rw [opened_mV,(op_new (j:=128) (by decide)).2]
 have e0:∀j,j<5->mV (opened (SS.new 258) 129) j=0:=fun j hj=>by
  rw [m0]
  rcases j with _ | _ | _ | _ | _ | j<;>first | kernel_rfl | omega
 obtain ⟨p1,p2,p3,p4⟩:=L0.put (by decide) 128 (by decide) [1,0,0,0,0] (fun y hy=>by simp at hy;omega) (by decide)
 have a1:=adoptI_con L0.R.inv L0.T (by decide) false 1
 have t1:adoptT (opened (SS.new 258) 129) (1:Int).toNat=[1,0,0,0,0]:=by
  unfold adoptT
  rw [e0 1 (by decide),e0 2 (by decide),e0 3 (by decide),e0 4 (by decide)];kernel_rfl
 have w1:adoptI (opened (SS.new 258) 129) false 1=-1:=by
  unfold adoptI adoptW
  rw [e0 0 (by decide)];rfl
 have k1:=act_put a1 w1 t1 p1
 have m1:∀j,mV ((opened (SS.new 258) 129).putC (SS.new 258) (ofNat 128) [1,0,0,0,0]) j=mtV [1,0,0,0,0] j:=fun j=>by rw [mV_eq p2.R.n,p3]
 obtain ⟨r1,r2,r3,r4⟩:=p2.put (by decide) 128 (by decide) [1,1,0,0,0] (fun y hy=>by simp at hy;omega) (by decide)
 have a2:=joinI_con p2.R.inv p2.T (by decide) false 1
 have t2:joinT ((opened (SS.new 258) 129).putC (SS.new 258) (ofNat 128) [1,0,0,0,0]) (1:Int).toNat=[1,1,0,0,0]:=by
  unfold joinT
  rw [m1,m1,m1,m1];kernel_rfl
 have w2:joinI ((opened (SS.new 258) 129).putC (SS.new 258) (ofNat 128) [1,0,0,0,0]) false 1=-1:=by
  unfold joinI joinW
  rw [m1];kernel_rfl
 have k2:=act_put a2 w2 t2 r1
 refine ⟨_,_,nw_con _ _ _ _ _ _ (new_con 258 (by decide) (by decide)) (ropen_con (SS.new 258) (by decide) (by decide) rfl (Byt.new 258)) k1 k2,⟨r2,r3⟩,fun j hj=>?_⟩
 exact (r4 j (by omega)).trans ((p4 j (by omega)).trans ((opened_at (SS.new 258) (j:=j) (by omega)).2.1.trans (op_new (j:=j) (by omega)).2))
end Go.Proofs.Cl
namespace Go.Proofs.Ly
open Go Go.Sim Go.Proofs Go.Proofs.Cd Go.Proofs.St Go.Proofs.Cl Go.Proofs.YtfpebgpcpoefpaaGreatDoor
theorem VR_si {l:List Nat} {k:IntKind} {n:Int} (ρ ρ':Rho) (x:Value) (h:VR ρ (.tup [.s l,.i k n]) x):VR ρ' (.tup [.s l,.i k n]) x:=by
 cases h with
 | tup cs cs' h2=>
   cases h2 with
   | cons a a' r r' a1 r1=>
     cases r1 with
     | cons a a' r r' a2 r2=>
       cases r2
       cases a2
       cases a1 with
       | s _ s hs=>exact .tup _ _ (.cons _ _ _ _ (.s _ _ hs) (.cons _ _ _ _ (.i _ _) .nil))
theorem enc1_con (d r:List Nat) (ex:Bool) (hd:Byt d) (h:encT 1 (fun _=>5) (fun _=>1) (fun _=>d)=r) (he:encE 1 (fun _=>5) (fun _=>1) (fun _=>d)=0) :
 Con Tryz.prog 30 [.l 0 0 1 1 3 ex] [some (cellsO 47 [.i .i64 5,.i .i64 1,.s d])] (.tup [.s r,.i .i64 0]) [.keep]:=by
 have q:=enc_con 1 (fun _=>5) (fun _=>1) (fun _=>d) (by decide) (fun _ _=>hd)
 rw [h,he] at q
 exact (q.pre (pargs':=[.sv 3 1 (listF 3 [.i .i64 5,.i .i64 1,.s d] 1)]) ⟨by
  refine .sv fun i j hi hj=>?_
  obtain rfl:i=0:=by omega
  rcases j with _ | _ | _ | j<;>first | rfl | omega,trivial⟩).borrow (pargs0:=[.l 0 0 1 1 3 ex]) (objs:=[some (cellsO 47 [.i .i64 5,.i .i64 1,.s d])]) [0] (frzP 0 (.cells 3 [.i .i64 5,.i .i64 1,.s d]) (.tup [.l 0 0 1 1 3 ex])/\True)
  (by cases ex<;>kernel_rfl) (by cases ex<;>kernel_rfl) (by cases ex<;>kernel_rfl) ⟨by simp [frzP,frzsP],trivial⟩ (by kernel_rfl) (by kernel_rfl) VR_si
theorem enc0_con:Con Tryz.prog 30 [.l0] [] (.tup [.s [],.i .i64 2]) []:=by
 have q:=enc_con 0 (fun _=>0) (fun _=>0) (fun _=>[]) (by decide) (fun i hi=>by omega)
 rw [show encT 0 (fun _=>0) (fun _=>0) (fun _=>[])=[] by kernel_rfl,show encE 0 (fun _=>0) (fun _=>0) (fun _=>[])=2 by kernel_rfl] at q
 intro ρ w args' ha hr hno
 refine q ρ w args' ?_ hr hno
 cases ha with
 | cons v v' r r' h1 h2=>
   cases h1
   exact .cons _ _ _ _ (.sv _ _ _ _ (.sv0 _ _)) h2
theorem forms3_con (a b d:Int) (ha:0<=a/\a<=1099511627776) (hb:0<=b/\b<=1099511627776) (hd:0<=d/\d<=1099511627776) :
 Con Tryz.prog 34 [.l 0 0 3 3 1 true] [some (cellsO 3 [.i .i64 a,.i .i64 b,.i .i64 d])] (.s (fN a.toNat ++ fN b.toNat ++ fN d.toNat)) [.keep]:=by
 have l1:=fN_le (n:=a.toNat) (by omega)
 have l2:=fN_le (n:=b.toNat) (by omega)
 have l3:=fN_le (n:=d.toNat) (by omega)
 have k0:=wnF_con a.toNat (by omega)
 rw [show ofNat a.toNat=a by simp;omega] at k0
 have k1:=wnJ_con (fN a.toNat) b hb.1 hb.2 (by omega)
 have k2:=wnJ_con (fN a.toNat ++ fN b.toNat) d hd.1 hd.2 (by rw [List.length_append];omega)
 have k3:=wb_con (fN a.toNat ++ fN b.toNat ++ fN d.toNat).length (tB (fN a.toNat ++ fN b.toNat ++ fN d.toNat)) (by rw [List.length_append,List.length_append];omega)
 have q:=f3_con a b d _ _ _ _ _ _ k0 k1 k2 k3 (u8_of _)
 rw [bts_eq (((fN_byt (by omega)).app (fN_byt (by omega))).app (fN_byt (by omega)))] at q
 exact q
theorem forms1_con (a:Int) (ha:0<=a/\a<=1099511627776):Con Tryz.prog 34 [.l 0 0 1 1 1 true] [some (cellsO 3 [.i .i64 a])] (.s (fN a.toNat)) [.keep]:=by
 have l1:=fN_le (n:=a.toNat) (by omega)
 have k0:=wnF_con a.toNat (by omega)
 rw [show ofNat a.toNat=a by simp;omega] at k0
 have q:=f1_con a _ _ k0 (wb_con _ _ (by omega)) (u8_of _)
 rw [bts_eq (fN_byt (by omega))] at q
 exact q
def frm1:List Nat:=[1,0,1,1,5,1,1,97,186,152,74,254]
def rec1:List Nat:=[1,5,1,1,97,186,152,74,254]
theorem sum1_con:Con Tryz.prog 87 [.l 0 0 5 9 1 false] [some (cellsO 5 [.i .u8 1,.i .u8 5,.i .u8 1,.i .u8 1,.i .u8 97,.i .u8 186,.i .u8 152,.i .u8 74,.i .u8 254])] (.i .u32 (ofNat (sumN (tB [1,5,1,1,97]) 5))) [.keep]:=
 ((sum_con 5 (tB [1,5,1,1,97]) (by decide) (tB_lt (by intro y hy;simp at hy;omega))).pre (pargs':=[.sv 1 5 (listF 1 [.i .u8 1,.i .u8 5,.i .u8 1,.i .u8 1,.i .u8 97,.i .u8 186,.i .u8 152,.i .u8 74,.i .u8 254] 5)]) ⟨by
   refine .sv fun i j hi hj=>?_
   obtain rfl:j=0:=by omega
   rcases i with _ | _ | _ | _ | _ | i<;>first | rfl | omega,trivial⟩).borrow (pargs0:=[.l 0 0 5 9 1 false]) (objs:=[some (cellsO 5 [.i .u8 1,.i .u8 5,.i .u8 1,.i .u8 1,.i .u8 97,.i .u8 186,.i .u8 152,.i .u8 74,.i .u8 254])]) [0] (frzP 0 (.cells 9 [.i .u8 1,.i .u8 5,.i .u8 1,.i .u8 1,.i .u8 97,.i .u8 186,.i .u8 152,.i .u8 74,.i .u8 254]) (.tup [.l 0 0 5 9 1 false])/\True)
   (by kernel_rfl) (by kernel_rfl) (by kernel_rfl) ⟨by simp [frzP,frzsP],trivial⟩ (by kernel_rfl) (by kernel_rfl) VR_i
theorem jn1_con:Con Tryz.prog 79 [.sv 1 15 (shiftF 1 (listF 1 [.s [],.s frm1,.s [],.s [],.s [],.s [],.s [],.s [],.s [],.s [],.s [],.s [],.s [],.s [],.s [],.s []] 16))] [] (.s rec1) []:=
 (joined_con 15 1 (fun i=>bif Nat.beq i 0 then frm1 else []) (fun i=>bif Nat.beq i 0 then 1 else 0) (fun i=>bif Nat.beq i 0 then rec1 else []) (by decide) (by decide) (by decide) rfl (fun k _=>by cases Nat.beq k 0<;>simp [rec1]) (by decide)
   (fun k _=>by cases Nat.beq k 0 with | true=>exact pc1_con | false=>exact pc0_con)).pre (pargs':=[.sv 1 15 (shiftF 1 (listF 1 [.s [],.s frm1,.s [],.s [],.s [],.s [],.s [],.s [],.s [],.s [],.s [],.s [],.s [],.s [],.s [],.s []] 16))]) ⟨by
   refine .sv fun i j hi hj=>?_
   obtain rfl:j=0:=by omega
   rcases i with _ | _ | _ | _ | _ | _ | _ | _ | _ | _ | _ | _ | _ | _ | _ | i<;>first | rfl | omega,trivial⟩
theorem f3_lit:Con Tryz.prog 34 [.l 0 0 3 3 1 true] [some (cellsO 3 [.i .i64 1,.i .i64 0,.i .i64 1])] (.s [1,0,1]) [.keep]:=by
 have q:=forms3_con 1 0 1 (by decide) (by decide) (by decide)
 rw [show fN (1:Int).toNat ++ fN (0:Int).toNat ++ fN (1:Int).toNat=[1,0,1] by kernel_rfl] at q
 exact q
theorem f1_lit:Con Tryz.prog 34 [.l 0 0 1 1 1 true] [some (cellsO 3 [.i .i64 3])] (.s [3]) [.keep]:=by
 have q:=forms1_con 3 (by decide)
 rw [show fN (3:Int).toNat=[3] by kernel_rfl] at q
 exact q
theorem encA_con (ex:Bool):Con Tryz.prog 30 [.l 0 0 1 1 3 ex] [some (cellsO 47 [.i .i64 5,.i .i64 1,.s [97]])] (.tup [.s rec1,.i .i64 0]) [.keep]:=
 enc1_con [97] rec1 ex (by intro y hy;simp at hy;omega) (by kernel_rfl) (by kernel_rfl)
theorem encW_con:Con Tryz.prog 30 [.l 0 0 1 1 3 true] [some (cellsO 47 [.i .i64 5,.i .i64 1,.s d38])] (.tup [.s r46,.i .i64 0]) [.keep]:=
 enc1_con d38 r46 true (by intro y hy;simp [d38] at hy;omega) (by kernel_rfl) (by kernel_rfl)
theorem LV.blocks {k:Nat} {c:CS} {s:SS} (h:LV k c s) (hd:Int) (h0:0<=hd) (h1:hd<=112) (T:Int->List Nat) (hT:∀b:Int,hd<=b->b<=hd+15->blkD (c.d b.toNat)=T b) :
 Con Tryz.prog 26 [.p 0 0,cfA,.i .i64 hd] (obL c s) (.tup [.sv 1 16 (listF 1 [.s (T (hd+0)),.s (T (hd+1)),.s (T (hd+2)),.s (T (hd+3)),.s (T (hd+4)),.s (T (hd+5)),.s (T (hd+6)),.s (T (hd+7)),.s (T (hd+8)),.s (T (hd+9)),.s (T (hd+10)),.s (T (hd+11)),.s (T (hd+12)),.s (T (hd+13)),.s (T (hd+14)),.s (T (hd+15))] 16),.i .i64 0]) [.keep,.keep,.keep,.keep,.keep]:=by
 have q:=wr_con hd c s (fun b=>blkQ (c.d b.toNat)) (fun b=>blkD (c.d b.toNat)) h0 h1 (fun b b0 b1=>by
  have r:=Go.Proofs.Cl.LV.read h b.toNat (by omega)
  rw [show ofNat b.toNat=b by simp;omega] at r
  exact r)
 rw [hT _ (by omega) (by omega),hT _ (by omega) (by omega),hT _ (by omega) (by omega),hT _ (by omega) (by omega),hT _ (by omega) (by omega),hT _ (by omega) (by omega),hT _ (by omega) (by omega),hT _ (by omega) (by omega),hT _ (by omega) (by omega),hT _ (by omega) (by omega),hT _ (by omega) (by omega),hT _ (by omega) (by omega),hT _ (by omega) (by omega),hT _ (by omega) (by omega),hT _ (by omega) (by omega),hT _ (by omega) (by omega)] at q
 exact q
theorem LV.openN {k:Nat} {c:CS} {s:SS} (h:LV k c s) (ow wr gn:Int) (ho:0<=ow/\ow<=2) (hw:0<=wr/\wr<=2) (hg:1<=gn/\gn<=1099511627776) (hT:∀b:Int,80+16*ow<=b->b<=80+16*ow+15->blkD (c.d b.toNat)=[]) :
 Con Tryz.prog 8 [.p 0 0,cfA,.i .i64 ow,.i .i64 wr,.i .i64 gn] (obL c s) (.tup [.p 5 0,.l0,.i .i64 0]) [.keep,.keep,.keep,.keep,.keep,.set (lgO ow wr gn 1 0 0 [])]:=
 op0_con c s ow wr gn (LV.blocks h (80+16*ow) (by omega) (by omega) (fun _=>[]) hT) (fi0_con enc0_con) (decide_eq_true ho.1) (decide_eq_true ho.2) (decide_eq_true hw.1) (decide_eq_true hw.2) (decide_eq_true hg.1) (decide_eq_true hg.2)
theorem awake_con:Con Tryz.prog 9 [] [] (.b true) []:=by
 obtain ⟨c,s,kn,l0,z0⟩:=LV.new
 have y0:∀j,j<128->blkD (c.d j)=[]/\blkQ (c.d j)=0:=fun j hj=>by rw [z0 j hj];exact ⟨by kernel_rfl,by kernel_rfl⟩
 obtain ⟨cc,ss,ka,l1,a1,a2⟩:=Go.Proofs.Cl.LV.write l0 (by decide) 81 (by decide) frm1 (fun y hy=>by simp [frm1] at hy;omega) (by decide) (by rw [(y0 81 (by decide)).2];decide) 0 1 (by decide) (by decide)
 obtain ⟨c4,s4,kb,l2,b1,b2⟩:=Go.Proofs.Cl.LV.write l1 (by decide) 80 (by decide) [3] (fun y hy=>by simp at hy;omega) (by decide) (by rw [a2 80 (by decide),(y0 80 (by decide)).2];decide) 0 1 (by decide) (by decide)
 have e1:blkD (cc.d 81)=frm1:=by
  rw [a1,(y0 81 (by decide)).2];kernel_rfl
 have kO:Con Tryz.prog 26 [.p 0 0,cfA,.i .i64 (80+16*0)] (obL cc ss) (.tup [.sv 1 16 (listF 1 [.s [],.s frm1,.s [],.s [],.s [],.s [],.s [],.s [],.s [],.s [],.s [],.s [],.s [],.s [],.s [],.s []] 16),.i .i64 0]) [.keep,.keep,.keep,.keep,.keep]:=
  LV.blocks l1 (80+16*0) (by decide) (by decide) (fun b=>bif decide (b=81) then frm1 else []) (fun b h0 h1=>by
   by_cases e:b=81
   · subst e;exact e1
   · rw [a2 b.toNat (by omega),(y0 b.toNat (by omega)).1,decide_eq_false e];rfl)
 have hs:decide ((4266301626:Int)=ofNat (sumN (tB [1,5,1,1,97]) 5))=true:=by kernel_rfl
 exact aw_con c cc c4 s ss s4 kn fs_con (LV.openN l0 0 0 1 (by decide) (by decide) (by decide) (fun b h0 h1=>(y0 b.toNat (by omega)).1))
  (op1_con cc ss 0 1 1 kO (fi1_con _ sum1_con (encA_con false) f3_lit hs jn1_con) (fi2_con enc0_con) rfl rfl rfl rfl rfl rfl) (encA_con true) encW_con f3_lit f1_lit ka kb
def lyB:Code:=rfBody Tryz.prog 32 0
theorem td_bd {t:List Nat} (h:t.length<=1000000):0<=Int.tdiv (ofNat (List.length t)+36-1) 36/\Int.tdiv (ofNat (List.length t)+36-1) 36<=1000036:=by
 have e:Int.tdiv (ofNat (List.length t)+36-1) 36=ofNat ((t.length+35) / 36):=by
  rw [show ofNat t.length+(36:Int)-(1:Int)=ofNat (t.length+35) from by simp;omega];exact Eq.refl _
 rw [e]
 have h2:(t.length+35) / 36<=1000036:=Nat.le_trans (Nat.div_le_self (t.length+35) 36) (by omega)
 exact ⟨Int.natCast_nonneg _,Int.ofNat_le.2 h2⟩
theorem apE0_vq (c:CS) (s:SS) (ow wr gn:Int) (rc:List Nat) (ec:Int) (n:Nat) (B V:Nat->Int) (D:Nat->List Nat) (h:decide (ec=0)=false):VD Tryz.prog 10 [.p 5 0,cfA,.sv 3 n (uF B V D)] [some chO,some nsO,some noO,some s.o,some (r3O c false),some (lgO ow wr gn 1 0 0 [])] (.c (.cal [] (.tup [.s rc,.i .i64 ec]) [] (.t .z))) (.i .i64 ec) [.keep,.keep,.keep,.keep,.keep,.keep] [] 7 (fun Lf=>True/\Con Tryz.prog 30 [.sv 3 n (uF B V D)] [] (.tup [.s rc,.i .i64 ec]) []/\(!decide (ec=0))=true/\Lf):=by unfold VD VQ;kernel_rfl
theorem apE_con (n:Nat) (B V:Nat->Int) (D:Nat->List Nat) (c cc:CS) (s ss:SS) (ow wr gn:Int) (rc:List Nat) (ec aE:Int) (kenc:Con Tryz.prog 30 [.sv 3 n (uF B V D)] [] (.tup [.s rc,.i .i64 ec]) []) (hrc:rc.length<=1000000) (ho:0<=ow/\ow<=2) (h:decide (ec=0)=false):Con Tryz.prog 10 [.p 5 0,cfA,.sv 3 n (uF B V D)] [some chO,some nsO,some noO,some s.o,some (r3O c false),some (lgO ow wr gn 1 0 0 [])] (.i .i64 ec) [.keep,.keep,.keep,.keep,.keep,.keep]:=by
 have hz:0<=Int.tdiv (ofNat (List.length rc)+36-1) 36/\Int.tdiv (ofNat (List.length rc)+36-1) 36<=1000036:=td_bd hrc
 exact con_d (apE0_vq (c:=c) (s:=s) (ow:=ow) (wr:=wr) (gn:=gn) (rc:=rc) (ec:=ec) (n:=n) (B:=B) (V:=V) (D:=D) (h:=h)) (by repeat' first | exact trivial | assumption | exact rfl | exact nT (by assumption) | exact nF (by assumption) | assumption | exact nnT (by assumption) | exact nnF (by assumption) | (unfold rg;simp;omega) | (unfold rg;omega) | (simp;omega) | omega | apply And.intro | decide)
set_option maxRecDepth 200000
theorem wl_one {n:Nat} (hn:n<128):wl n=1:=by
 obtain ⟨_,h,_⟩:=mR_ok (n:=n) (by omega)
 unfold wl
 rcases Nat.lt_or_ge 0 (mR n) with q | q
 · have a:=h 0 q
   rw [Nat.pow_zero,Nat.div_one] at a
   omega
 · omega
def atI (base:Int):Nat->Int
 | 0=>base
 | i+1=>atI base i+1
theorem atI_eq (base:Int):∀i,atI base i=base+ofNat i
 | 0=>by simp [atI]
 | i+1=>by
   have:=atI_eq base i
   show atI base i+1= _
   rw [this]
   have e:ofNat (i+1)=ofNat i+1:=rfl
   omega
def pcE (t:List Nat) (i:Nat):List Nat:=
 List.take (Int.toNat (if ofNat (List.length t)<(ofNat i+1)*36 then ofNat (List.length t) else (ofNat i+1)*36)-Int.toNat (ofNat i*36)) (List.drop (Int.toNat (ofNat i*36)) t)
theorem pcE_len (t:List Nat) (i:Nat):(pcE t i).length<=36:=by
 unfold pcE
 refine Nat.le_trans (List.length_take_le _ _) ?_
 split<;>simp only [Int.ofNat_eq_natCast] at*<;>omega
theorem pcE_byt {t:List Nat} (h:Byt t) (i:Nat):Byt (pcE t i):=fun y hy=>h y (List.mem_of_mem_drop (List.mem_of_mem_take hy))
theorem td_eq (t:List Nat):Int.tdiv (ofNat (List.length t)+36-1) 36=ofNat ((t.length+35) / 36):=by
 rw [show ofNat t.length+(36:Int)-(1:Int)=ofNat (t.length+35) from by simp;omega];exact Eq.refl _
def nfr (t:List Nat):Nat:=(t.length+35) / 36
theorem rx0_vq (nv nz L:Nat) (b:Nat->Nat) (h1:decide (38<ofNat nv)=false) (h2:decide (ofNat L-ofNat nz<ofNat nv)=false):VD Tryz.prog 114 [.p 0 0,.i .i64 38] [some (rdO L b 0)] (.inl (oc 2 (.inl (.cal [] (.tup [.i .i64 (ofNat nv),.i .i64 (ofNat nz),.i .i64 0]) [] (.c (.f (.f .z))))))) (.s (bytesF (Int.toNat (ofNat nz+ofNat nv)-nz) (shiftF nz (byF b)))) [.set (.cells 142 2 [] (setAll .e 0 [.sv 1 (L-(Int.toNat (ofNat nz+ofNat nv))) (shiftF (Int.toNat (ofNat nz+ofNat nv)) (byF b)),.i .i64 0]))] [] 1 (fun Lf=>True/\True/\True/\Con Tryz.prog 78 [.sv 1 L (byF b)] [] (.tup [.i .i64 (ofNat nv),.i .i64 (ofNat nz),.i .i64 0]) []/\decide (38<ofNat nv)=false/\rg (ofNat L-ofNat nz)/\decide (ofNat L-ofNat nz<ofNat nv)=false/\rg (ofNat nz+ofNat nv)/\(0<=ofNat nz/\0<=ofNat nz+ofNat nv/\nz<=Int.toNat (ofNat nz+ofNat nv)/\Int.toNat (ofNat nz+ofNat nv)<=L)/\U8s (Int.toNat (ofNat nz+ofNat nv)-nz) (shiftF nz (byF b))/\rg (ofNat nz+ofNat nv)/\True/\True/\(0<=ofNat nz+ofNat nv/\True/\Int.toNat (ofNat nz+ofNat nv)<=L/\L<=L)/\True/\Lf):=by unfold VD VQ;kernel_rfl
theorem rx_con (L:Nat) (b:Nat->Nat) (nv nz:Nat) (hL:L<=1073741824) (hz:nz+nv<=L) (h1:decide (38<ofNat nv)=false) (h2:decide (ofNat L-ofNat nz<ofNat nv)=false) (k1:Con Tryz.prog 78 [.sv 1 L (byF b)] [] (.tup [.i .i64 (ofNat nv),.i .i64 (ofNat nz),.i .i64 0]) []) (hu:U8s ((Int.toNat (ofNat nz+ofNat nv))-nz) (shiftF nz (byF b))):Con Tryz.prog 114 [.p 0 0,.i .i64 38] [some (rdO L b 0)] (.s (bytesF ((Int.toNat (ofNat nz+ofNat nv))-nz) (shiftF nz (byF b)))) [.set (.cells 142 2 [] (setAll .e 0 [.sv 1 (L-(Int.toNat (ofNat nz+ofNat nv))) (shiftF (Int.toNat (ofNat nz+ofNat nv)) (byF b)),.i .i64 0]))]:=by
 have eP:(Int.toNat (ofNat nz+ofNat nv))=nz+nv:=by simp only [Int.ofNat_eq_natCast];omega
 exact con_d (rx0_vq (nv:=nv) (nz:=nz) (L:=L) (b:=b) (h1:=h1) (h2:=h2)) (by repeat' first | exact trivial | assumption | exact rfl | exact nT (by assumption) | exact nF (by assumption) | assumption | exact hu | (unfold rg;simp only [Int.ofNat_eq_natCast];omega) | (simp only [Int.ofNat_eq_natCast];omega) | omega | apply And.intro | decide)
theorem opn0_vq (SU L:Nat) (b:Nat->Nat) (h0:decide (ofNat L-4<0)=false):VD Tryz.prog 113 [.sv 1 L (byF b)] [] (.f (.cal [] (.tup [.i .u32 (ofNat SU),.b true]) [] (.cal [] (.i .u32 (ofNat SU)) [] (.f (.cal [] (.sv 1 (Int.toNat (ofNat L-4)) (byF b)) [] .z))))) (.tup [.sv 1 (Int.toNat (ofNat L-4)) (byF b),.b true]) [] [] 0 (fun Lf=>rg (ofNat L-4)/\decide (ofNat L-(4:Int)<(0:Int))=false/\(0<=ofNat L-4/\True/\Int.toNat (ofNat L-4)<=L/\L<=L)/\Con Tryz.prog 152 [.sv 1 (L-Int.toNat (ofNat L-4)) (shiftF (Int.toNat (ofNat L-4)) (byF b))] [] (.tup [.i .u32 (ofNat SU),.b true]) []/\(True/\0<=ofNat L-4/\0<=Int.toNat (ofNat L-4)/\Int.toNat (ofNat L-4)<=L)/\Con Tryz.prog 87 [.sv 1 (Int.toNat (ofNat L-4)) (byF b)] [] (.i .u32 (ofNat SU)) []/\(!decide (ofNat SU=ofNat SU))=false/\(True/\0<=ofNat L-4/\0<=Int.toNat (ofNat L-4)/\Int.toNat (ofNat L-4)<=L)/\Con Tryz.prog 88 [.sv 1 (Int.toNat (ofNat L-4)) (byF b)] [] (.sv 1 (Int.toNat (ofNat L-4)) (byF b)) []/\Lf):=by unfold VD VQ;kernel_rfl
theorem opn_con (L:Nat) (b:Nat->Nat) (SU:Nat) (hL:L<=1073741824) (h0:decide (ofNat L-4<0)=false) (k1:Con Tryz.prog 152 [.sv 1 (L-(Int.toNat (ofNat L-4))) (shiftF (Int.toNat (ofNat L-4)) (byF b))] [] (.tup [.i .u32 (ofNat SU),.b true]) []) (k2:Con Tryz.prog 87 [.sv 1 (Int.toNat (ofNat L-4)) (byF b)] [] (.i .u32 (ofNat SU)) []) (k3:Con Tryz.prog 88 [.sv 1 (Int.toNat (ofNat L-4)) (byF b)] [] (.sv 1 (Int.toNat (ofNat L-4)) (byF b)) []):Con Tryz.prog 113 [.sv 1 L (byF b)] [] (.tup [.sv 1 (Int.toNat (ofNat L-4)) (byF b),.b true]) []:=by
 have q0:=of_decide_eq_false h0
 simp only [Int.ofNat_eq_natCast] at q0
 exact con_d (opn0_vq (SU:=SU) (L:=L) (b:=b) (h0:=h0)) (by repeat' first | exact trivial | assumption | exact rfl | exact nT (by assumption) | exact nF (by assumption) | assumption | assumption | assumption | (simp;done) | (unfold rg;simp only [Int.ofNat_eq_natCast];omega) | (simp only [Int.ofNat_eq_natCast];omega) | omega | apply And.intro | decide)
theorem dR_lq (L1:Nat) (B1:Nat->Nat) (k0:Nat) (g0:Nat->Nat) (L3:Nat) (B3:Nat->Nat) (L4:Nat) (B4:Nat->Nat) (n0:Nat) (n1 n2:Int) (t3 tt:List Nat) (i:Nat) (G:Nat->Nat->CV) (h0:decide (ofNat i<ofNat n0)=true):LD Tryz.prog (loopAt Tryz.prog 80 0) 53 1 [(0,.s tt),(6,.p 0 0),(7,.lr 1 3 0 i false),(8,.i .i64 (ofNat n0))] [some (rdO k0 g0 0),some (.rows 47 3 i G)] (.t (.t (.inl (.c (.t (.t (.c (.cal [0] (.i .i64 n1) [.set (rdO L1 B1 0)] (.cal [0] (.i .i64 n2) [.set (rdO L3 B3 0)] (.cal [0] (.s t3) [.set (rdO L4 B4 0)] .z)))))))))) .nrm [0,3] [(0,.s tt),(6,.p 0 0),(7,.lr 1 3 0 (addN i 1) false),(8,.i .i64 (ofNat n0))] [some (rdO L4 B4 0),some (.rows 47 3 (addN i 1) (appZ i G (listF 3 [.i .i64 n1,.i .i64 n2,.s t3] 1)))] 4 (fun Lf=>r2 (decide (ofNat i<ofNat n0)=true) (True/\True/\r2 (decide (ofNat i<ofNat n0)=true) (Con Tryz.prog 51 [.p 0 0] [some (rdO k0 g0 0)] (.i .i64 n1) [.set (rdO L1 B1 0)]/\Con Tryz.prog 51 [.p 0 0] [some (rdO L1 B1 0)] (.i .i64 n2) [.set (rdO L3 B3 0)]/\Con Tryz.prog 114 [.p 0 0,.i .i64 38] [some (rdO L3 B3 0)] (.s t3) [.set (rdO L4 B4 0)]/\(0+i<=i/\True/\i+1<=140737488355328/\(3*(i+1)+1536)*32<=562949953421312)/\Lf))):=by unfold LD LQ;kernel_rfl
theorem dE_lq (k0:Nat) (g0:Nat->Nat) (n0:Nat) (tt:List Nat) (i:Nat) (G:Nat->Nat->CV) (h0:decide (ofNat i<ofNat n0)=false):LD Tryz.prog (loopAt Tryz.prog 80 0) 53 1 [(0,.s tt),(6,.p 0 0),(7,.lr 1 3 0 i false),(8,.i .i64 (ofNat n0))] [some (rdO k0 g0 0),some (.rows 47 3 i G)] (of_ 4 (.c .z)) (.exit 0) [0,1] [(0,.s tt),(7,.lr 1 3 0 i false)] [some (rdO k0 g0 0),some (.rows 47 3 i G)] 2 (fun Lf=>r4 (decide (ofNat i<ofNat n0)=false) (Lf)):=by unfold LD LQ;kernel_rfl
theorem pce0_vq (L1 L2:Nat) (B1 B2:Nat->Nat) (k0:Nat) (g0:Nat->Nat) (L3:Nat) (B3:Nat->Nat) (n0:Nat) (n1 n2:Int) (tt:List Nat):VD Tryz.prog 110 [.s tt] [] (.inl (.s (.cal [0] (.p 1 0) [.gone,.set (rdO L2 B2 0)] (.cal [1] (.i .i64 (ofNat n0)) [.set (rdO k0 g0 0)] (.cal [1] (.i .i64 n1) [.set (rdO L1 B1 0)] (.cal [1] (.i .i64 n2) [.set (rdO L3 B3 0)] (.inl (.c .z)))))) .z)) (.tup [.i .i64 n2,.s (List.take (List.length tt-Int.toNat (ofNat (List.length tt)-ofNat L3)) (List.drop (Int.toNat (ofNat (List.length tt)-ofNat L3)) tt))]) [] [] 2 (fun Lf=>True/\Con Tryz.prog 76 [.lr 0 1 0 (List.length tt) false] [some (AObj.rows 5 1 (List.length tt) fun i x=>CV.i .u8 (ofNat (List.getD tt i 0)))] (.p 1 0) [.gone,.set (rdO L2 B2 0)]/\Con Tryz.prog 51 [.p 0 0] [some (rdO L2 B2 0)] (.i .i64 (ofNat n0)) [.set (rdO k0 g0 0)]/\Con Tryz.prog 51 [.p 0 0] [some (rdO k0 g0 0)] (.i .i64 n1) [.set (rdO L1 B1 0)]/\Con Tryz.prog 51 [.p 0 0] [some (rdO L1 B1 0)] (.i .i64 n2) [.set (rdO L3 B3 0)]/\True/\True/\rg (ofNat (List.length tt)-ofNat L3)/\(0<=ofNat (List.length tt)-ofNat L3/\True/\Int.toNat (ofNat (List.length tt)-ofNat L3)<=List.length tt/\List.length tt<=List.length tt)/\Lf):=by unfold VD VQ;kernel_rfl
theorem pce_con (tt:List Nat) (L2 k0 L1 L3 n0:Nat) (B2 g0 B1 B3:Nat->Nat) (n1 n2:Int) (h1:tt.length<=1000000) (h2:L3<=tt.length) (knwR:Con Tryz.prog 76 [.lr 0 1 0 tt.length false] [some (.rows 5 1 tt.length (byF (tB tt)))] (.p 1 0) [.gone,.set (rdO L2 B2 0)]) (km0:Con Tryz.prog 51 [.p 0 0] [some (rdO L2 B2 0)] (.i .i64 (ofNat n0)) [.set (rdO k0 g0 0)]) (km1:Con Tryz.prog 51 [.p 0 0] [some (rdO k0 g0 0)] (.i .i64 n1) [.set (rdO L1 B1 0)]) (km2:Con Tryz.prog 51 [.p 0 0] [some (rdO L1 B1 0)] (.i .i64 n2) [.set (rdO L3 B3 0)]):Con Tryz.prog 110 [.s tt] [] (.tup [.i .i64 n2,.s (List.take (List.length tt-Int.toNat (ofNat (List.length tt)-ofNat L3)) (List.drop (Int.toNat (ofNat (List.length tt)-ofNat L3)) tt))]) []:=by
 exact con_d (pce0_vq (L1:=L1) (L2:=L2) (B1:=B1) (B2:=B2) (k0:=k0) (g0:=g0) (L3:=L3) (B3:=B3) (n0:=n0) (n1:=n1) (n2:=n2) (tt:=tt)) (by repeat' first | exact trivial | assumption | exact rfl | exact nT (by assumption) | exact nF (by assumption) | assumption | assumption | assumption | assumption | (unfold rg;simp only [Int.ofNat_eq_natCast];omega) | (simp only [Int.ofNat_eq_natCast];omega) | omega | apply And.intro | decide)
theorem de0_vq (L2:Nat) (B2:Nat->Nat) (k0:Nat) (g0:Nat->Nat) (L4:Nat) (B4:Nat->Nat) (n0:Nat) (tt:List Nat) (Bq Vq:Nat->Int) (Dq:Nat->List Nat) (hq:natsEq tt tt=true):VD Tryz.prog 80 [.s tt] [] (.s (.cal [0] (.tup [.sv 1 L2 (byF B2),.b true]) [.gone] (.cal [] (.p 0 0) [.set (rdO L2 B2 0)] (.cal [1] (.i .i64 (ofNat n0)) [.set (rdO k0 g0 0)] (.lop [1] [0,6,7,8] 1 (.exit 0) [(0,.s tt),(7,.lr 1 3 0 n0 false)] [some (rdO L4 B4 0),some (AObj.rows 47 3 n0 (uF Bq Vq Dq))] (.cal [2] (.tup [.s tt,.i .i64 0]) [.keep] (oc 4 .z)))))) .z) (.tup [.lr 0 3 0 n0 false,.b (natsEq tt tt)]) [.set (.rows 47 3 n0 (uF Bq Vq Dq))] [2] 3 (fun Lf=>True/\Con Tryz.prog 113 [.lr 0 1 0 (List.length tt) false] [some (AObj.rows 5 1 (List.length tt) fun i x=>CV.i .u8 (ofNat (List.getD tt i 0)))] (.tup [.sv 1 L2 (byF B2),.b true]) [.gone]/\Con Tryz.prog 76 [.sv 1 L2 (byF B2)] [] (.p 0 0) [.set (rdO L2 B2 0)]/\Con Tryz.prog 51 [.p 0 0] [some (rdO L2 B2 0)] (.i .i64 (ofNat n0)) [.set (rdO k0 g0 0)]/\LDoes Tryz.prog (loopAt Tryz.prog 80 0) 53 1 (mkT [(0,.s tt),(6,.p 0 0),(7,.l0),(8,.i .i64 (ofNat n0))]) [some (rdO k0 g0 0)] (.exit 0) (mkT [(0,.s tt),(7,.lr 1 3 0 n0 false)]) [some (rdO L4 B4 0),some (AObj.rows 47 3 n0 (uF Bq Vq Dq))]/\Con Tryz.prog 30 [.lr 0 3 0 n0 false] [some (AObj.rows 47 3 n0 (uF Bq Vq Dq))] (.tup [.s tt,.i .i64 0]) [.keep]/\Lf):=by unfold VD VQ;kernel_rfl
theorem de_con (tt:List Nat) (L2 k0 L4 n0:Nat) (B2 g0 B4:Nat->Nat) (Bq Vq:Nat->Int) (Dq:Nat->List Nat) (h1:tt.length<=1000000) (hq:natsEq tt tt=true) (kopr:Con Tryz.prog 113 [.lr 0 1 0 tt.length false] [some (.rows 5 1 tt.length (byF (tB tt)))] (.tup [.sv 1 L2 (byF B2),.b true]) [.gone]) (knw:Con Tryz.prog 76 [.sv 1 L2 (byF B2)] [] (.p 0 0) [.set (rdO L2 B2 0)]) (km0:Con Tryz.prog 51 [.p 0 0] [some (rdO L2 B2 0)] (.i .i64 (ofNat n0)) [.set (rdO k0 g0 0)]) (kdl:LDoes Tryz.prog (loopAt Tryz.prog 80 0) 53 1 (mkT [(0,.s tt),(6,.p 0 0),(7,.l0),(8,.i .i64 (ofNat n0))]) [some (rdO k0 g0 0)] (.exit 0) (mkT [(0,.s tt),(7,.lr 1 3 0 n0 false)]) [some (rdO L4 B4 0),some (.rows 47 3 n0 (uF Bq Vq Dq))]) (kenR:Con Tryz.prog 30 [.lr 0 3 0 n0 false] [some (.rows 47 3 n0 (uF Bq Vq Dq))] (.tup [.s tt,.i .i64 0]) [.keep]):Con Tryz.prog 80 [.s tt] [] (.tup [.lr 0 3 0 n0 false,.b (natsEq tt tt)]) [.set (.rows 47 3 n0 (uF Bq Vq Dq))]:=by
 exact con_d (de0_vq (L2:=L2) (B2:=B2) (k0:=k0) (g0:=g0) (L4:=L4) (B4:=B4) (n0:=n0) (tt:=tt) (Bq:=Bq) (Vq:=Vq) (Dq:=Dq) (hq:=hq)) (by repeat' first | exact trivial | assumption | exact rfl | exact nT (by assumption) | exact nF (by assumption) | assumption | assumption | assumption | assumption | assumption | assumption | (unfold rg;simp only [Int.ofNat_eq_natCast];omega) | (simp only [Int.ofNat_eq_natCast];omega) | omega | apply And.intro | decide)
set_option maxHeartbeats 1000000
abbrev rL (l:List Nat):AObj:=rdO l.length (tB l) 0
theorem shB_app (a b:List Nat):shB a.length (tB (a ++ b))=tB b:=by
 funext k
 unfold shB
 rw [tB_hi (by omega),Nat.add_sub_cancel_left]
theorem form_app (n:Nat) (hn:n<9223372036854775808) (rest:List Nat):Go.Proofs.Cl.Form n (tB (fN n ++ rest)):=by
 intro i hi
 rw [tB_lo (by rw [fN_len];exact hi)]
 unfold tB
 rw [fN_get hi]
theorem rd_num (n:Nat) (rest:List Nat) (hn:n<9223372036854775808) (hb:Byt rest):Con Tryz.prog 51 [.p 0 0] [some (rL (fN n ++ rest))] (.i .i64 (ofNat n)) [.set (rL rest)]:=by
 have h:=rdNum_con (fN n ++ rest).length (tB (fN n ++ rest)) (tB_lt ((fN_byt hn).app hb))
 obtain ⟨e1,e2,e3⟩:=Go.Proofs.Cl.Form.reads (L:=(fN n ++ rest).length) (form_app n hn rest) hn (by rw [List.length_append,fN_len];omega)
 rw [e1,e2,e3,<-fN_len,shB_app,List.length_append,Nat.add_sub_cancel_left] at h
 rw [<-List.length_append] at h
 exact h
theorem rd_text (t rest:List Nat) (ht:t.length<=38) (hbt:Byt t) (hb:Byt rest) (hl:(tN t ++ rest).length<=1000000):Con Tryz.prog 114 [.p 0 0,.i .i64 38] [some (rL (tN t ++ rest))] (.s t) [.set (rL rest)]:=by
 have hB:Byt (tN t ++ rest):=Byt.app (Byt.app (fN_byt (by omega)) hbt) hb
 have e0:tN t ++ rest=fN t.length ++ (t ++ rest):=by unfold tN;rw [List.append_assoc]
 have ll:(tN t ++ rest).length=wl t.length+t.length+rest.length:=by
  rw [e0,List.length_append,List.length_append,fN_len];omega
 have nu:=num_con (tB (tN t ++ rest)) (tN t ++ rest).length (tB_lt hB)
 obtain ⟨e1,e2,e3⟩:=Go.Proofs.Cl.Form.reads (L:=(tN t ++ rest).length) (n:=t.length) (b:=tB (tN t ++ rest)) (by rw [e0];exact form_app t.length (by omega) (t ++ rest)) (by omega) (by omega)
 rw [e1,e2,e3] at nu
 have eP:Int.toNat (ofNat (wl t.length)+ofNat t.length)=wl t.length+t.length:=by simp only [Int.ofNat_eq_natCast];omega
 have sh:∀k,tB (tN t ++ rest) (wl t.length+k)=tB (t ++ rest) k:=fun k=>by
  rw [e0,tB_hi (by rw [fN_len];omega),fN_len,Nat.add_sub_cancel_left]
 have q:=rx_con (tN t ++ rest).length (tB (tN t ++ rest)) t.length (wl t.length) (by omega) (by omega) (decide_eq_false (by simp only [Int.ofNat_eq_natCast];omega)) (decide_eq_false (by simp only [Int.ofNat_eq_natCast];omega)) nu (fun i hi=>⟨_,rfl⟩)
 rw [eP] at q
 have s1:shiftF (wl t.length+t.length) (byF (tB (tN t ++ rest)))=byF (tB rest):=by
  funext i j
  rw [shiftF_eq]
  show CV.i .u8 (ofNat (tB (tN t ++ rest) (wl t.length+t.length+i)))=CV.i .u8 (ofNat (tB rest i))
  rw [Nat.add_assoc,sh,tB_hi (by omega),Nat.add_sub_cancel_left]
 have s2:bytesF (wl t.length+t.length-wl t.length) (shiftF (wl t.length) (byF (tB (tN t ++ rest))))=t:=by
  rw [Nat.add_sub_cancel_left]
  refine bytesF_eq rfl hbt fun i hi=>?_
  rw [shiftF_eq]
  show CV.i .u8 (ofNat (tB (tN t ++ rest) (wl t.length+i)))= _
  rw [sh,tB_lo hi];rfl
 rw [s1,s2,ll,show wl t.length+t.length+rest.length-(wl t.length+t.length)=rest.length by omega,<-ll] at q
 exact q
theorem four1_fourB (x:Nat) (hx:x<4294967296):four1 (fourB x)=x:=by
 show Nat.mod (Nat.div x (Nat.pow 256 0)) 256+Nat.mod (Nat.div x (Nat.pow 256 1)) 256*256+Nat.mod (Nat.div x (Nat.pow 256 2)) 256*65536+Nat.mod (Nat.div x (Nat.pow 256 3)) 256*16777216=x
 rw [show Nat.pow 256 0=1 by decide,show Nat.pow 256 1=256 by decide,show Nat.pow 256 2=65536 by decide,show Nat.pow 256 3=16777216 by decide]
 show x / 1 % 256+x / 256 % 256*256+x / 65536 % 256*65536+x / 16777216 % 256*16777216=x
 omega
theorem openL_con (bs:List Nat) (h:Byt bs) (hl:bs.length<=1000000):Con Tryz.prog 113 [.sv 1 (slL bs).length (byF (tB (slL bs)))] [] (.tup [.sv 1 bs.length (byF (tB bs)),.b true]) []:=by
 have ll:=slL_len bs
 have eN:Int.toNat (ofNat (slL bs).length-4)=bs.length:=by rw [ll];simp only [Int.ofNat_eq_natCast];omega
 have sx:=sumN_lt (tB bs) bs.length
 have lo:∀k,k<bs.length->tB (slL bs) k=tB bs k:=fun k hk=>tB_lo hk
 have hi:∀k,k<4->tB (slL bs) (bs.length+k)=fourB (sumN (tB bs) bs.length) k:=fun k hk=>by
  unfold slL
  rw [tB_hi (by omega),Nat.add_sub_cancel_left,four_tB _ _ hk]
 have k1:=ofFour1_con ((slL bs).length-bs.length) (fun k=>tB (slL bs) (bs.length+k)) (by omega) (fun k _=>tB_lt (slL_byt h) _)
 rw [four1_congr (fun k hk=>hi k hk),four1_fourB _ sx] at k1
 have e1:shiftF bs.length (byF (tB (slL bs)))=byF (fun k=>tB (slL bs) (bs.length+k)):=by
  funext i j;rw [shiftF_eq];rfl
 have k2:=sum_con bs.length (tB (slL bs)) (by omega) (tB_lt (slL_byt h))
 rw [sumN_congr lo] at k2
 have k3:=cloneB_con bs.length (tB (slL bs)) (by omega)
 have q:=opn_con (slL bs).length (tB (slL bs)) (sumN (tB bs) bs.length) (by omega) (decide_eq_false (by rw [ll];simp only [Int.ofNat_eq_natCast];omega)) (by rw [eN,e1];exact k1) (by rw [eN];exact k2) (by rw [eN];exact k3)
 rw [eN] at q
 refine q.post (.tup ⟨.svW fun i j hi hj=>.of ?_,.refl _,trivial⟩) (OVL.refl _)
 obtain rfl:j=0:=by omega
 show CV.i .u8 (ofNat (tB (slL bs) i))=CV.i .u8 (ofNat (tB bs i))
 rw [lo i hi]
set_option maxRecDepth 200000
set_option maxHeartbeats 1000000
def tlU (B V:Nat->Int) (D:Nat->List Nat):Nat->Nat->List Nat
 | _,0=>[]
 | i,k+1=>fN (B i).toNat ++ (fN (V i).toNat ++ (tN (D i) ++ tlU B V D (i+1) k))
theorem upL_tl (n:Nat) (B V:Nat->Int) (D:Nat->List Nat):∀k i,upL n B V D (i+k)=upL n B V D i ++ tlU B V D i k
 | 0,i=>by simp [tlU]
 | k+1,i=>by
   have h:=upL_tl n B V D k (i+1)
   rw [show i+(k+1)=i+1+k by omega,h]
   show (((upL n B V D i ++ fN (B i).toNat) ++ fN (V i).toNat) ++ tN (D i)) ++ tlU B V D (i+1) k=upL n B V D i ++ (fN (B i).toNat ++ (fN (V i).toNat ++ (tN (D i) ++ tlU B V D (i+1) k)))
   simp only [List.append_assoc]
theorem tlU_byt {n:Nat} {B V:Nat->Int} {D:Nat->List Nat} (h:UOk n B V D):∀k i,i+k<=n->Byt (tlU B V D i k)
 | 0,_,_=>Byt.nil
 | k+1,i,hi=>by
   obtain ⟨a,b,c,d⟩:=h.2 i (by omega)
   have e:Byt (tN (D i)):=Byt.app (fN_byt (by omega)) d
   exact Byt.app (fN_byt (by omega)) (Byt.app (fN_byt (by omega)) (Byt.app e (tlU_byt h k (i+1) (by omega))))
theorem tlU_len {n:Nat} {B V:Nat->Int} {D:Nat->List Nat} (h:UOk n B V D):∀k i,i+k<=n->(tlU B V D i k).length<=80*k
 | 0,_,_=>Nat.le_refl _
 | k+1,i,hi=>by
   obtain ⟨a,b,c,d⟩:=h.2 i (by omega)
   have:=tlU_len h k (i+1) (by omega)
   have:=tN_le' c
   have:=fN_le (n:=(B i).toNat) (by omega)
   have:=fN_le (n:=(V i).toNat) (by omega)
   show (fN (B i).toNat ++ (fN (V i).toNat ++ (tN (D i) ++ tlU B V D (i+1) k))).length<=_
   rw [List.length_append,List.length_append,List.length_append]
   omega
theorem up_rows {B V:Nat->Int} {D:Nat->List Nat} (i j z:Nat) (hj:j<i+1) (hz:z<3):appZ i (uF B V D) (listF 3 [.i .i64 (B i),.i .i64 (V i),.s (D i)] 1) j z=uF B V D j z:=by
 rcases z with _ | _ | _ | z
 · rw [appZ_i (f:=uF B V D) (g:=listF 3 [.i .i64 (B i),.i .i64 (V i),.s (D i)] 1) (n:=i) (i:=j) (j:=0) (k:=.i64) (a:=B j) (b:=B i) rfl (by rw [show j-i=0 by omega];rfl)]
   split
   · rfl
   · obtain rfl:j=i:=by omega
     rfl
 · rw [appZ_i (f:=uF B V D) (g:=listF 3 [.i .i64 (B i),.i .i64 (V i),.s (D i)] 1) (n:=i) (i:=j) (j:=1) (k:=.i64) (a:=V j) (b:=V i) rfl (by rw [show j-i=0 by omega];rfl)]
   split
   · rfl
   · obtain rfl:j=i:=by omega
     rfl
 · rw [appZ_s (f:=uF B V D) (g:=listF 3 [.i .i64 (B i),.i .i64 (V i),.s (D i)] 1) (n:=i) (i:=j) (j:=2) (a:=D j) (b:=D i) rfl (by rw [show j-i=0 by omega];rfl)]
   split
   · rfl
   · obtain rfl:j=i:=by omega
     rfl
 · omega
theorem d_lp (t:List Nat) (n:Nat) (B V:Nat->Int) (D:Nat->List Nat) (h:UOk n B V D):LDoes Tryz.prog (loopAt Tryz.prog 80 0) 53 1 (mkT [(0,.s t),(6,.p 0 0),(7,.l0),(8,.i .i64 (ofNat n))]) [some (rL (tlU B V D 0 n))] (.exit 0) (mkT [(0,.s t),(7,.lr 1 3 0 n false)]) [some (rL []),some (.rows 47 3 n (uF B V D))]:=by
 have h8:=h.1
 have key:=loop_q (P:=Tryz.prog) (c:=loopAt Tryz.prog 80 0) (n:=53) (b:=1) (x:=.exit 0) (l':=[(0,.s t),(7,.lr 1 3 0 n false)]) (objs':=[some (rL []),some (.rows 47 3 n (uF B V D))]) (D:=Nat)
  (fun i:Nat=>([(0,.s t),(6,.p 0 0),(7,.lr 1 3 0 i false),(8,.i .i64 (ofNat n))],[some (rL (tlU B V D i (n-i))),some (.rows 47 3 i (uF B V D))])) (fun i=>n-i) (fun i=>i<=n) (fun _=>by simp) ?_ 0 (Nat.zero_le _)
 · refine key.weak ⟨rfl,.inl rfl,rfl,.inl rfl,rfl,.inr ⟨rfl,.inl ⟨1,3,0,false,rfl⟩⟩,rfl,.inl rfl,trivial⟩ ⟨OW.refl _,?_⟩
   intro o ho
   simp at ho;subst ho
   exact ⟨_,rfl,rfl⟩
 intro i hi
 rcases Nat.lt_or_ge i n with hlt | q
 · have h1:decide (ofNat i<ofNat n)=true:=decide_eq_true (by simp;omega)
   obtain ⟨a,b,c,d⟩:=h.2 i hlt
   obtain ⟨k,hk⟩:∃k,n-i=k+1:=⟨n-i-1,by omega⟩
   have tb:=tlU_byt h k (i+1) (by omega)
   have tl:=tlU_len h k (i+1) (by omega)
   have td:Byt (tN (D i)):=Byt.app (fN_byt (by omega)) d
   have tdl:=tN_le' c
   have m1:=rd_num (B i).toNat (fN (V i).toNat ++ (tN (D i) ++ tlU B V D (i+1) k)) (by omega) (Byt.app (fN_byt (by omega)) (Byt.app td tb))
   have m2:=rd_num (V i).toNat (tN (D i) ++ tlU B V D (i+1) k) (by omega) (Byt.app td tb)
   have m3:=rd_text (D i) (tlU B V D (i+1) k) c d tb (by rw [List.length_append];omega)
   rw [show ofNat (B i).toNat=B i by simp;omega] at m1
   rw [show ofNat (V i).toNat=V i by simp;omega] at m2
   have e0:tlU B V D i (n-i)=fN (B i).toNat ++ (fN (V i).toNat ++ (tN (D i) ++ tlU B V D (i+1) k)):=by rw [hk];rfl
   have e1:tlU B V D (i+1) (n-(i+1))=tlU B V D (i+1) k:=by rw [show n-(i+1)=k by omega]
   rw [<-e0] at m1
   refine rd_nrm (dR_lq (L1:=(fN (V i).toNat ++ (tN (D i) ++ tlU B V D (i+1) k)).length) (B1:=tB (fN (V i).toNat ++ (tN (D i) ++ tlU B V D (i+1) k))) (L3:=(tN (D i) ++ tlU B V D (i+1) k).length) (B3:=tB (tN (D i) ++ tlU B V D (i+1) k)) (L4:=(tlU B V D (i+1) k).length) (B4:=tB (tlU B V D (i+1) k)) (k0:=(tlU B V D i (n-i)).length) (g0:=tB (tlU B V D i (n-i))) (n0:=n) (n1:=B i) (n2:=V i) (t3:=D i) (tt:=t) i (uF B V D) h1) (by
    repeat' first | exact trivial | exact h1 | exact m1 | exact m2 | exact m3 | apply And.intro | omega | exact ⟨by simp<;>omega,by simp<;>omega⟩ | exact rfl) (i+1) hlt (by show n-(i+1)<n-i;omega) rfl ?_ ?_
   · rw [addN_eq];exact .refl _
   · rw [addN_eq,e1]
     exact ⟨.refl _,.rowsW fun j z hj hz=>.of (up_rows i j z hj hz),trivial⟩
 · obtain rfl:i=n:=Nat.le_antisymm hi q
   have h1:decide (ofNat i<ofNat i)=false:=decide_eq_false (by simp)
   have e:tlU B V D i (i-i)=[]:=by rw [Nat.sub_self];rfl
   refine rd_out (dE_lq (tlU B V D i (i-i)).length (tB (tlU B V D i (i-i))) i t i (uF B V D) h1) (by repeat' first | exact trivial | exact h1 | apply And.intro | exact rfl) rfl rfl (.refl _) ?_
   rw [e];exact .refl _
theorem rc_540' {n:Nat} {B V:Nat->Int} {D:Nat->List Nat} (h:encB n B V D=true):(rcT n B V D).length<=540:=by
 unfold encB at h
 rw [Bool.and_eq_true,Bool.not_eq_true'] at h
 have:=of_decide_eq_false h.2
 simp at this;omega
theorem encR_con (n:Nat) (B V:Nat->Int) (D:Nat->List Nat) (hn:n<=281474976710656) (hb:∀i,i<n->Byt (D i)):Con Tryz.prog 30 [.lr 0 3 0 n false] [some (.rows 47 3 n (uF B V D))] (.tup [.s (encT n B V D),.i .i64 (encE n B V D)]) [.keep]:=
 (enc_con n B V D hn hb).borrow (pargs0:=[.lr 0 3 0 n false]) (objs:=[some (.rows 47 3 n (uF B V D))]) [0] (frzP 0 (.rows 3 n (uF B V D)) (.tup [.lr 0 3 0 n false])/\True)
   (by kernel_rfl) (by kernel_rfl) (by kernel_rfl) ⟨by simp [frzP,frzsP],trivial⟩ (by kernel_rfl) (by kernel_rfl) VR_si
theorem openR_con (bs:List Nat) (h:Byt bs) (hl:bs.length<=1000000):Con Tryz.prog 113 [.lr 0 1 0 (slL bs).length false] [some (.rows 5 1 (slL bs).length (byF (tB (slL bs))))] (.tup [.sv 1 bs.length (byF (tB bs)),.b true]) [.gone]:=
 ((openL_con bs h hl).slot rfl (by kernel_rfl) (by kernel_rfl)).thaw (us0:=[.gone]) 0 (e:=5) (sz:=1) (n:=(slL bs).length) (f:=byF (tB (slL bs))) rfl ⟨rfl,trivial⟩ ⟨.inr ⟨by kernel_rfl,⟨rfl,by omega⟩,rfl⟩,trivial⟩ rfl
theorem nats_rfl:∀l:List Nat,natsEq l l=true
 | []=>rfl
 | a :: l=>by
   show (match Nat.beq a a with | true=>natsEq l l | false=>false)=true
   rw [Nat.beq_refl];exact nats_rfl l
theorem decode_con {n:Nat} {B V:Nat->Int} {D:Nat->List Nat} (h:encB n B V D=true) (hb:∀i,i<n->Byt (D i)) :
 Con Tryz.prog 80 [.s (rcT n B V D)] [] (.tup [.lr 0 3 0 n false,.b true]) [.set (.rows 47 3 n (uF B V D))]:=by
 have hl:=rc_540' h
 have h2:=h
 unfold encB at h2
 rw [Bool.and_eq_true] at h2
 have ok:=mb_ok h2.1 hb
 have h8:=ok.1
 have ub:=upL_byt ok n (Nat.le_refl _)
 have ul:=upL_le ok n (Nat.le_refl _)
 have e:upL n B V D n=fN n ++ tlU B V D 0 n:=by
  have:=upL_tl n B V D n 0
  rw [Nat.zero_add] at this
  exact this
 have m0:=rd_num n (tlU B V D 0 n) (by omega) (tlU_byt ok n 0 (by omega))
 rw [<-e] at m0
 have en:=encR_con n B V D (by omega) hb
 rw [show encE n B V D=0 by unfold encE;rw [h];rfl,show encT n B V D=rcT n B V D by unfold encT;rw [h];rfl] at en
 have q:=de_con (rcT n B V D) _ _ _ n _ _ _ B V D (by omega) (nats_rfl _) (openR_con (upL n B V D n) ub (by omega)) (newR_con _ _ (by omega)) m0 (d_lp _ n B V D ok) en
 rw [nats_rfl] at q
 exact q
theorem pcE_eq (t:List Nat) (i:Nat) (h:i*36<=t.length):pcE t i=List.take (min t.length ((i+1)*36)-i*36) (List.drop (i*36) t):=by
 unfold pcE
 have e1:Int.toNat (ofNat i*36)=i*36:=by simp only [Int.ofNat_eq_natCast];omega
 have e2:Int.toNat (if ofNat (List.length t)<(ofNat i+1)*36 then ofNat (List.length t) else (ofNat i+1)*36)=min t.length ((i+1)*36):=by
  simp only [Int.ofNat_eq_natCast]
  split<;>omega
 rw [e1,e2]
theorem cat_take (t:List Nat):∀m,m<=nfr t->catL (pcE t) m=List.take (m*36) t
 | 0,_=>by simp [catL]
 | m+1,h=>by
   have ih:=cat_take t m (by omega)
   have hl:m*36<=t.length:=by unfold nfr at h;omega
   show catL (pcE t) m ++ pcE t m= _
   rw [ih,pcE_eq t m hl]
   have e:List.take (m*36) t ++ List.take (min t.length ((m+1)*36)-m*36) (List.drop (m*36) t)=List.take (m*36+(min t.length ((m+1)*36)-m*36)) t:=(List.take_add).symm
   rw [e,show m*36+(min t.length ((m+1)*36)-m*36)=min t.length ((m+1)*36) by omega]
   rcases Nat.le_total t.length ((m+1)*36) with q | q
   · rw [Nat.min_eq_left q,List.take_length,List.take_of_length_le q]
   · rw [Nat.min_eq_right q]
theorem cat_all (t:List Nat):catL (pcE t) (nfr t)=t:=by
 rw [cat_take t _ (Nat.le_refl _)]
 exact List.take_of_length_le (by unfold nfr;omega)
end Go.Proofs.Ly
