/- Runs over unknown values, told by the kernel: part SymA. -/
import Derived.Calls
import Derived.Laws.Sem
import Derived.Laws.World
import Derived.Laws.Strings
import Derived.Laws.StructEq
import Derived.IntWalk
set_option linter.unusedSimpArgs false
set_option linter.unusedVariables false
/- The tree that abstract heaps and frames are kept in, abstract values, and what it means that they stand for a world. -/
namespace Go.Sim
inductive T (α:Type) where
 | e
 | n (v:Option α) (l r:T α)
noncomputable def sel {α:Type} (b:Bool) (x y:α):α:=Bool.rec (motive:=fun _=>α) y x b
theorem sel_eq {α:Type} (b:Bool) (x y:α):sel b x y=bif b then x else y:=by cases b<;>rfl
noncomputable def T.get {α:Type} (t:T α):Nat->Option α:=
 T.rec (motive:=fun _=>Nat->Option α) (fun _=>none)
  (fun v _ _ gl gr k=>Nat.rec (motive:=fun _=>Option α) v (fun k _=>sel (Nat.beq (Nat.mod k 2) 0) (gl (Nat.div k 2)) (gr (Nat.div k 2))) k) t
theorem T.get_0 {α:Type} (v:Option α) (l r:T α):(T.n v l r).get 0=v:=rfl
theorem T.get_s {α:Type} (v:Option α) (l r:T α) (k:Nat):(T.n v l r).get (k+1)=bif Nat.beq (k % 2) 0 then l.get (k / 2) else r.get (k / 2):=by
 exact sel_eq _ _ _
noncomputable def T.setF {α:Type} (f:Nat):T α->Nat->Option α->T α:=
 Nat.rec (motive:=fun _=>T α->Nat->Option α->T α) (fun t _ _=>t) (fun _ ih t k a=>
  T.rec (motive:=fun _=>T α)
   (Nat.rec (motive:=fun _=>T α) (T.n a .e .e) (fun k _=>sel (Nat.beq (Nat.mod k 2) 0) (T.n none (ih .e (Nat.div k 2) a) .e) (T.n none .e (ih .e (Nat.div k 2) a))) k)
   (fun v l r _ _=>Nat.rec (motive:=fun _=>T α) (T.n a l r) (fun k _=>sel (Nat.beq (Nat.mod k 2) 0) (T.n v (ih l (Nat.div k 2) a) r) (T.n v l (ih r (Nat.div k 2) a))) k) t) f
theorem T.setF_e0 {α:Type} (f:Nat) (a:Option α):T.setF (f+1) .e 0 a=.n a .e .e:=rfl
theorem T.setF_n0 {α:Type} (f:Nat) (v:Option α) (l r:T α) (a:Option α):T.setF (f+1) (.n v l r) 0 a=.n a l r:=rfl
theorem T.setF_es {α:Type} (f k:Nat) (a:Option α):T.setF (f+1) .e (k+1) a=bif Nat.beq (k % 2) 0 then .n none (T.setF f .e (k / 2) a) .e else .n none .e (T.setF f .e (k / 2) a):=by
 exact sel_eq _ _ _
theorem T.setF_ns {α:Type} (f k:Nat) (v:Option α) (l r:T α) (a:Option α):T.setF (f+1) (.n v l r) (k+1) a=bif Nat.beq (k % 2) 0 then .n v (T.setF f l (k / 2) a) r else .n v l (T.setF f r (k / 2) a):=by
 exact sel_eq _ _ _
noncomputable def T.set {α:Type} (t:T α) (k:Nat) (a:Option α):T α:=T.setF (Nat.succ k) t k a
theorem T.get_e {α:Type} (k:Nat):(T.e:T α).get k=none:=rfl
theorem T.get_setF {α:Type}:∀(f:Nat) (t:T α) (k:Nat) (a:Option α) (j:Nat),k<f->(T.setF f t k a).get j=if j=k then a else t.get j:=by
 intro f
 induction f with
 | zero=>intro t k a j h;omega
 | succ f ih=>
   intro t k a j h
   have kk:∀k j:Nat,Nat.beq (k % 2) 0=Nat.beq (j % 2) 0->(j / 2=k / 2↔j=k):=by
    intro k j he
    cases hb:Nat.beq (k % 2) 0 with
    | true=>
      rw [hb] at he
      have h1:=Nat.eq_of_beq_eq_true hb
      have h2:=Nat.eq_of_beq_eq_true he.symm
      omega
    | false=>
      rw [hb] at he
      have h1:=Nat.ne_of_beq_eq_false hb
      have h2:=Nat.ne_of_beq_eq_false he.symm
      omega
   have kn:∀k j:Nat,Nat.beq (k % 2) 0≠Nat.beq (j % 2) 0->j≠k:=fun k j hne e=>hne (by rw [e])
   cases t with
   | e=>
     cases k with
     | zero=>cases j with
       | zero=>simp [T.setF_e0,T.setF_n0,T.setF_es,T.setF_ns,T.get_0,T.get_s,T.get_e]
       | succ j=>simp [T.setF_e0,T.setF_n0,T.setF_es,T.setF_ns,T.get_0,T.get_s,T.get_e,T.get_e]
     | succ k=>
       have hk:k / 2<f:=by omega
       cases hb:Nat.beq (k % 2) 0 with
       | true=>
         cases j with
         | zero=>simp [T.setF_e0,T.setF_n0,T.setF_es,T.setF_ns,T.get_0,T.get_s,T.get_e,hb]
         | succ j=>cases hj:Nat.beq (j % 2) 0 with
           | true=>simp [T.setF_e0,T.setF_n0,T.setF_es,T.setF_ns,T.get_0,T.get_s,T.get_e,hb,hj,T.get_e,ih _ _ _ _ hk,kk k j (by rw [hb,hj])]
           | false=>simp [T.setF_e0,T.setF_n0,T.setF_es,T.setF_ns,T.get_0,T.get_s,T.get_e,hb,hj,T.get_e,kn k j (by rw [hb,hj];simp)]
       | false=>
         cases j with
         | zero=>simp [T.setF_e0,T.setF_n0,T.setF_es,T.setF_ns,T.get_0,T.get_s,T.get_e,hb]
         | succ j=>cases hj:Nat.beq (j % 2) 0 with
           | true=>simp [T.setF_e0,T.setF_n0,T.setF_es,T.setF_ns,T.get_0,T.get_s,T.get_e,hb,hj,T.get_e,kn k j (by rw [hb,hj];simp)]
           | false=>simp [T.setF_e0,T.setF_n0,T.setF_es,T.setF_ns,T.get_0,T.get_s,T.get_e,hb,hj,T.get_e,ih _ _ _ _ hk,kk k j (by rw [hb,hj])]
   | n v l r=>
     cases k with
     | zero=>cases j with
       | zero=>simp [T.setF_e0,T.setF_n0,T.setF_es,T.setF_ns,T.get_0,T.get_s,T.get_e]
       | succ j=>simp [T.setF_e0,T.setF_n0,T.setF_es,T.setF_ns,T.get_0,T.get_s,T.get_e]
     | succ k=>
       have hk:k / 2<f:=by omega
       cases hb:Nat.beq (k % 2) 0 with
       | true=>
         cases j with
         | zero=>simp [T.setF_e0,T.setF_n0,T.setF_es,T.setF_ns,T.get_0,T.get_s,T.get_e,hb]
         | succ j=>cases hj:Nat.beq (j % 2) 0 with
           | true=>simp [T.setF_e0,T.setF_n0,T.setF_es,T.setF_ns,T.get_0,T.get_s,T.get_e,hb,hj,ih _ _ _ _ hk,kk k j (by rw [hb,hj])]
           | false=>simp [T.setF_e0,T.setF_n0,T.setF_es,T.setF_ns,T.get_0,T.get_s,T.get_e,hb,hj,kn k j (by rw [hb,hj];simp)]
       | false=>
         cases j with
         | zero=>simp [T.setF_e0,T.setF_n0,T.setF_es,T.setF_ns,T.get_0,T.get_s,T.get_e,hb]
         | succ j=>cases hj:Nat.beq (j % 2) 0 with
           | true=>simp [T.setF_e0,T.setF_n0,T.setF_es,T.setF_ns,T.get_0,T.get_s,T.get_e,hb,hj,kn k j (by rw [hb,hj];simp)]
           | false=>simp [T.setF_e0,T.setF_n0,T.setF_es,T.setF_ns,T.get_0,T.get_s,T.get_e,hb,hj,ih _ _ _ _ hk,kk k j (by rw [hb,hj])]
theorem T.get_set {α:Type} (t:T α) (k:Nat) (a:Option α) (j:Nat):(t.set k a).get j=if j=k then a else t.get j:=
 T.get_setF _ _ _ _ _ (Nat.lt_succ_self k)
inductive CV where
 | b (x:Bool) | i (k:IntKind) (n:Int) | s (l:List Nat)
 | p0 | m0 | f0 | if0
 | ifc (t:TypeId) (v:CV)
 | sv (sz n:Nat) (f:Nat->Nat->CV)
 | opv (b:Bool) (sz:Nat) (f:Nat->CV)
inductive AV where
 | b (x:Bool) | i (k:IntKind) (n:Int) | s (l:List Nat)
 | p0 | p (A o:Nat) | l0 | lz | l (A o len cap sz:Nat) (ex:Bool)
 | m0 | m (A:Nat)
 | fn (g:Fn) (first cap:List AV) | f0
 | if0 | ifc (t:TypeId) (v:AV)
 | agg (cs:List AV) | tup (cs:List AV)
 | sv (sz n:Nat) (f:Nat->Nat->CV)
 | pv (sz:Nat) (f:Nat->CV)
 | opv (b:Bool) (sz:Nat) (f:Nat->CV)
 | ps (A o sz k i:Nat)
 | pr (A sz i o:Nat) | lr (A sz i len:Nat) (ex:Bool)
 | yf (A:Nat)
 | mq (b:Bool) (A:Nat)
def undefV:AV:=.tup []
structure Seg where
 st:Nat
 sz:Nat
 n:Nat
 f:Nat->Nat->CV
inductive AObj where
 | cells (elem:TypeId) (size:Nat) (dflt:List AV) (cs:T AV)
 | map (es:List (AV×AV×Nat)) (clock:Nat)
 | rows (elem:TypeId) (sz n:Nat) (f:Nat->Nat->CV)
 | segs (elem:TypeId) (size:Nat) (l:List Seg) (ps:List (Nat×AV):=[])
 | lp (st n:Nat) (prm:Array Tmp) (asg body:Code) (tm:T AV)
 | mp (b:Bool) (k:IntKind) (z:List CV) (g:Int->Bool) (f:Int->List CV) (c:Nat)
structure AH where
 tree:T AObj
 next:Nat
 log:List Nat
noncomputable def AH.get (H:AH) (A:Nat):Option AObj:=H.tree.get A
noncomputable def AH.upd (H:AH) (A:Nat) (o:Option AObj):AH:={ tree:=H.tree.set A o,next:=H.next,log:=A :: H.log}
noncomputable def AH.new (H:AH) (o:AObj):AH:={ tree:=H.tree.set H.next (some o),next:=H.next+1,log:=H.next :: H.log}
theorem AH.get_upd (H:AH) (A:Nat) (o:Option AObj) (B:Nat):(H.upd A o).get B=if B=A then o else H.get B:=T.get_set _ _ _ _
theorem AH.get_new (H:AH) (o:AObj) (B:Nat):(H.new o).get B=if B=H.next then some o else H.get B:=T.get_set _ _ _ _
noncomputable def cellAt (size:Nat) (dflt:List AV) (cs:T AV) (i:Nat):Option AV:=
 bif Nat.blt i size then
  match cs.get i with
  | some v=>some v
  | none=>dflt[i % dflt.length]?
 else none
structure Rho where
 nm:Nat->Option (Nat×Nat×Nat)
 ro:Nat->Nat->Option Value
instance:CoeFun Rho (fun _=>Nat->Option (Nat×Nat×Nat)):=⟨Rho.nm⟩
inductive CR (ro:Nat->Nat->Option Value):CV->Value->Prop where
 | b (x:Bool):CR ro (.b x) (.bool x)
 | i (k:IntKind) (n:Int):CR ro (.i k n) (.int k n)
 | s (l:List Nat) (s:ByteArray):s.data.toList.map UInt8.toNat=l->CR ro (.s l) (.string s)
 | p0:CR ro .p0 (.pointer none)
 | m0:CR ro .m0 (.map none)
 | f0:CR ro .f0 .nilFunc
 | if0:CR ro .if0 .nilIface
 | ifc (t:TypeId) (v:CV) (v':Value):CR ro v v'->CR ro (.ifc t v) (.iface t v')
 | sv0 (sz:Nat) (f:Nat->Nat->CV):CR ro (.sv sz 0 f) (.slice none 0 0)
 | svz (sz:Nat) (f:Nat->Nat->CV) (a:Addr) (c:Nat):CR ro (.sv sz 0 f) (.slice (some a) 0 c)
 | sv (sz n:Nat) (f:Nat->Nat->CV) (B o cap:Nat) (g:Nat->Nat->Value):n<=cap->(∀i j,i<n->j<sz->ro B (o+i*sz+j)=some (g i j))->(∀i j,i<n->j<sz->CR ro (f i j) (g i j))->
    CR ro (.sv sz n f) (.slice (some ⟨B,o,none⟩) n cap)
 | op0 (sz:Nat) (f:Nat->CV):CR ro (.opv false sz f) (.pointer none)
 | op1 (sz:Nat) (f:Nat->CV) (B o:Nat) (g:Nat->Value):(∀j,j<sz->ro B (o+j)=some (g j))->(∀j,j<sz->CR ro (f j) (g j))->CR ro (.opv true sz f) (.pointer (some ⟨B,o,none⟩))
mutual
inductive VR (ρ:Rho):AV->Value->Prop where
 | b (x:Bool):VR ρ (.b x) (.bool x)
 | i (k:IntKind) (n:Int):VR ρ (.i k n) (.int k n)
 | s (l:List Nat) (s:ByteArray):s.data.toList.map UInt8.toNat=l->VR ρ (.s l) (.string s)
 | p0:VR ρ .p0 (.pointer none)
 | p (A o B d N:Nat):ρ A=some (B,d,N)->VR ρ (.p A o) (.pointer (some ⟨B,d+o,none⟩))
 | l0:VR ρ .l0 (.slice none 0 0)
 | lz (a:Addr) (c:Nat):VR ρ .lz (.slice (some a) 0 c)
 | l (A o len cap sz:Nat) (ex:Bool) (B d N cap':Nat):ρ A=some (B,d,N)->cap<=cap'->(ex=true->cap'=cap)->d+o+cap'*sz<=N->len<=cap->
     VR ρ (.l A o len cap sz ex) (.slice (some ⟨B,d+o,none⟩) len cap')
 | m0:VR ρ .m0 (.map none)
 | m (A B N:Nat):ρ A=some (B,0,N)->VR ρ (.m A) (.map (some B))
 | fn (g:Fn) (fs cs:List AV) (fs' cs':List Value):VRs ρ fs fs'->VRs ρ cs cs'->VR ρ (.fn g fs cs) (.func g fs'.toArray cs'.toArray)
 | f0:VR ρ .f0 .nilFunc
 | if0:VR ρ .if0 .nilIface
 | ifc (t:TypeId) (v:AV) (v':Value):VR ρ v v'->VR ρ (.ifc t v) (.iface t v')
 | agg (cs:List AV) (cs':List Value):VRs ρ cs cs'->VR ρ (.agg cs) (.agg cs'.toArray)
 | tup (cs:List AV) (cs':List Value):VRs ρ cs cs'->VR ρ (.tup cs) (.tuple cs'.toArray)
 | sv (sz n:Nat) (f:Nat->Nat->CV) (v':Value):CR ρ.ro (.sv sz n f) v'->VR ρ (.sv sz n f) v'
 | opv (b:Bool) (sz:Nat) (f:Nat->CV) (v':Value):CR ρ.ro (.opv b sz f) v'->VR ρ (.opv b sz f) v'
 | pv (sz:Nat) (f:Nat->CV) (B o:Nat) (g:Nat->Value):(∀j,j<sz->ρ.ro B (o+j)=some (g j))->(∀j,j<sz->CR ρ.ro (f j) (g j))->VR ρ (.pv sz f) (.pointer (some ⟨B,o,none⟩))
 | pr (A sz i o B d N:Nat):ρ A=some (B,d,N)->VR ρ (.pr A sz i o) (.pointer (some ⟨B,d+i*sz+o,none⟩))
 | lr (A sz i len:Nat) (ex:Bool) (B d N cap':Nat):ρ A=some (B,d,N)->len<=cap'->(ex=true->cap'=len)->d+i*sz+cap'*sz<=N->
    VR ρ (.lr A sz i len ex) (.slice (some ⟨B,d+i*sz,none⟩) len cap')
 | lr0 (A sz i:Nat) (ex:Bool):VR ρ (.lr A sz i 0 ex) (.slice none 0 0)
 | ps (A o sz k i B d N:Nat):ρ A=some (B,d,N)->VR ρ (.ps A o sz k i) (.pointer (some ⟨B,d+o+i*sz,none⟩))
 | yf (A B d N:Nat):ρ A=some (B,d,N)->VR ρ (.yf A) (.func (.yield B) #[] #[])
 | mq1 (A B N:Nat):ρ A=some (B,0,N)->VR ρ (.mq true A) (.map (some B))
 | mq0 (A:Nat):VR ρ (.mq false A) (.map none)
inductive VRs (ρ:Rho):List AV->List Value->Prop where
 | nil:VRs ρ [] []
 | cons (v:AV) (v':Value) (r:List AV) (r':List Value):VR ρ v v'->VRs ρ r r'->VRs ρ (v :: r) (v' :: r')
end
structure Rho.le (ρ ρ':Rho):Prop where
 nm:∀A x,ρ A=some x->ρ' A=some x
 ro:∀B j v,ρ.ro B j=some v->ρ'.ro B j=some v
theorem Rho.le.refl (ρ:Rho):Rho.le ρ ρ:=⟨fun _ _ h=>h,fun _ _ _ h=>h⟩
theorem Rho.le.trans {a b c:Rho} (h:Rho.le a b) (k:Rho.le b c):Rho.le a c:=⟨fun _ _ q=>k.nm _ _ (h.nm _ _ q),fun _ _ _ q=>k.ro _ _ _ (h.ro _ _ _ q)⟩
theorem CR.mono {ro ro':Nat->Nat->Option Value} (h:∀B j v,ro B j=some v->ro' B j=some v):∀{c:CV} {v:Value},CR ro c v->CR ro' c v
 | _,_,.b x=>.b x
 | _,_,.i k n=>.i k n
 | _,_,.s l s1 e1=>.s l s1 e1
 | _,_,.p0=>.p0
 | _,_,.m0=>.m0
 | _,_,.f0=>.f0
 | _,_,.if0=>.if0
 | _,_,.ifc t v v' a=>.ifc t v v' (CR.mono h a)
 | _,_,.sv0 sz f=>.sv0 sz f
 | _,_,.svz sz f a c=>.svz sz f a c
 | _,_,.sv sz n f B o cap g h0 h1 h2=>.sv sz n f B o cap g h0 (fun i j a b=>h _ _ _ (h1 i j a b)) (fun i j a b=>CR.mono h (h2 i j a b))
 | _,_,.op0 sz f=>.op0 sz f
 | _,_,.op1 sz f B o g a1 a2=>.op1 sz f B o g (fun j q=>h _ _ _ (a1 j q)) (fun j q=>CR.mono h (a2 j q))
mutual
theorem VR.mono {ρ ρ':Rho} (h:Rho.le ρ ρ'):∀{v:AV} {v':Value},VR ρ v v'->VR ρ' v v'
 | _,_,.b x=>.b x
 | _,_,.i k n=>.i k n
 | _,_,.s l s e=>.s l s e
 | _,_,.p0=>.p0
 | _,_,.p A o B d N e=>.p A o B d N (h.nm _ _ e)
 | _,_,.l0=>.l0
 | _,_,.lz a c=>.lz a c
 | _,_,.l A o len cap sz ex B d N cap' e e1 e2 e3 e4=>.l A o len cap sz ex B d N cap' (h.nm _ _ e) e1 e2 e3 e4
 | _,_,.m0=>.m0
 | _,_,.m A B N e=>.m A B N (h.nm _ _ e)
 | _,_,.fn g fs cs fs' cs' a b=>.fn g fs cs fs' cs' (VRs.mono h a) (VRs.mono h b)
 | _,_,.f0=>.f0
 | _,_,.if0=>.if0
 | _,_,.ifc t v v' a=>.ifc t v v' (VR.mono h a)
 | _,_,.agg cs cs' a=>.agg cs cs' (VRs.mono h a)
 | _,_,.tup cs cs' a=>.tup cs cs' (VRs.mono h a)
 | _,_,.sv sz n f v' a=>.sv sz n f v' (a.mono h.ro)
 | _,_,.opv q0 sz f v' a=>.opv q0 sz f v' (a.mono h.ro)
 | _,_,.pv sz f B o g a b=>.pv sz f B o g (fun j q=>h.ro _ _ _ (a j q)) (fun j q=>(b j q).mono h.ro)
 | _,_,.pr A sz i o B d N e=>.pr A sz i o B d N (h.nm _ _ e)
 | _,_,.lr A sz i len ex B d N cap' e e1 e2 e3=>.lr A sz i len ex B d N cap' (h.nm _ _ e) e1 e2 e3
 | _,_,.lr0 A sz i ex=>.lr0 A sz i ex
 | _,_,.ps A o sz k i B d N e=>.ps A o sz k i B d N (h.nm _ _ e)
 | _,_,.yf A B d N e=>.yf A B d N (h.nm _ _ e)
 | _,_,.mq1 A B N e=>.mq1 A B N (h.nm _ _ e)
 | _,_,.mq0 A=>.mq0 A
theorem VRs.mono {ρ ρ':Rho} (h:Rho.le ρ ρ'):∀{v:List AV} {v':List Value},VRs ρ v v'->VRs ρ' v v'
 | _,_,.nil=>.nil
 | _,_,.cons v v' r r' a b=>.cons v v' r r' (VR.mono h a) (VRs.mono h b)
end
theorem VRs.length {ρ:Rho}:∀{v:List AV} {v':List Value},VRs ρ v v'->v.length=v'.length
 | _,_,.nil=>rfl
 | _,_,.cons _ _ _ _ _ b=>by simp [VRs.length b]
theorem VRs.append {ρ:Rho}:∀{a:List AV} {a':List Value} {b:List AV} {b':List Value},VRs ρ a a'->VRs ρ b b'->VRs ρ (a ++ b) (a' ++ b')
 | _,_,_,_,.nil,h=>h
 | _,_,_,_,.cons v v' r r' x y,h=>.cons v v' _ _ x (VRs.append y h)
theorem VRs.get? {ρ:Rho}:∀{a:List AV} {a':List Value} (i:Nat) (v:AV),VRs ρ a a'->a[i]? =some v->∃v',a'[i]? =some v'/\VR ρ v v'
 | _,_,i,v,.nil,h=>by simp at h
 | _,_,0,v,.cons x x' r r' hx hr,h=>by simp at h;subst h;exact ⟨x',by simp,hx⟩
 | _,_,i+1,v,.cons x x' r r' hx hr,h=>by
   simp at h
   obtain ⟨v',h1,h2⟩:=VRs.get? i v hr h
   exact ⟨v',by simpa using h1,h2⟩
theorem VRs.drop {ρ:Rho}:∀{a:List AV} {a':List Value} (i:Nat),VRs ρ a a'->VRs ρ (a.drop i) (a'.drop i)
 | _,_,_,.nil=>by simp;exact .nil
 | _,_,0,h@(.cons ..)=>by simpa using h
 | _,_,i+1,.cons _ _ _ _ _ hr=>by simpa using VRs.drop i hr
theorem VRs.take {ρ:Rho}:∀{a:List AV} {a':List Value} (i:Nat),VRs ρ a a'->VRs ρ (a.take i) (a'.take i)
 | _,_,_,.nil=>by simp;exact .nil
 | _,_,0,.cons ..=>by simp;exact .nil
 | _,_,i+1,.cons _ _ _ _ hx hr=>by simpa using .cons _ _ _ _ hx (VRs.take i hr)
def AV.cells:AV->List AV
 | .agg cs=>cs
 | v=>[v]
def AV.one:AV->Bool
 | .agg _ | .tup _=>false
 | _=>true
noncomputable def allOne (l:List AV):Bool:=
 List.rec (motive:=fun _=>Bool) true (fun v _ ih=>sel v.one ih false) l
theorem allOne_cons (v:AV) (r:List AV):allOne (v :: r)=match v.one with | true=>allOne r | false=>false:=by
 show sel _ _ _= _
 rw [sel_eq]
 cases v.one<;>rfl
theorem allOne_mem:∀{l:List AV},allOne l=true->∀v∈l,v.one=true
 | [],_,v,h=>by simp at h
 | x :: r,h,v,hv=>by
   rw [allOne_cons] at h
   split at h
   · rename_i hx
     cases hv with
     | head=>exact hx
     | tail _ hm=>exact allOne_mem h v hm
   · simp at h
theorem VR.one {ρ:Rho} {v:AV} {v':Value} (h:VR ρ v v') (ho:v.one=true):v'.oneCell'=true:=by
 cases h<;>simp [AV.one] at ho<;>first | rfl | (rename_i h;cases h<;>rfl)
theorem CR.nonagg {ro:Nat->Nat->Option Value} {c:CV} {v:Value} (h:CR ro c v):v.cells=#[v]/\v.oneCell'=true:=by
 cases h<;>exact ⟨rfl,rfl⟩
theorem VR.cells {ρ:Rho} {v:AV} {v':Value} (h:VR ρ v v'):VRs ρ v.cells v'.cells.toList:=by
 cases h<;>first
  | (simp only [AV.cells,Value.cells];assumption)
  | (simp only [AV.cells,Value.cells];exact .cons _ _ _ _ (by constructor<;>assumption) .nil)
  | (rename_i h;rw [h.nonagg.1];exact .cons _ _ _ _ (.sv _ _ _ _ h) .nil)
  | (rename_i h;rw [h.nonagg.1];exact .cons _ _ _ _ (.opv _ _ _ _ h) .nil)
def lpAt (st:Nat) (r:Loop):Prop:=
 match st with
 | 0=>r.state=.ready/\r.pending=none
 | 1=>r.state=.done/\r.pending=some .ret
 | id+2=>r.state=.done/\r.pending=some (.exit id)
def FrOk (fr:Nat×Nat) (n:Nat):Prop:=fr.1=fr.2\/n<=fr.1
theorem FrOk.not {fr:Nat×Nat} {n:Nat} (h:FrOk fr n):∀j,j<n->¬(fr.1<=j/\j<fr.2):=by
 intro j hj
 unfold FrOk at h
 omega
inductive CRs (ro:Nat->Nat->Option Value):List CV->List Value->Prop where
 | nil:CRs ro [] []
 | cons (v:CV) (v':Value) (r:List CV) (r':List Value):CR ro v v'->CRs ro r r'->CRs ro (v :: r) (v' :: r')
theorem CRs.mono {ro ro':Nat->Nat->Option Value} (h:∀B j v,ro B j=some v->ro' B j=some v):∀{c:List CV} {v:List Value},CRs ro c v->CRs ro' c v
 | _,_,.nil=>.nil
 | _,_,.cons v v' r r' a b=>.cons v v' r r' (a.mono h) (CRs.mono h b)
structure MapOk (ro:Nat->Nat->Option Value) (k:IntKind) (z:List CV) (g:Int->Bool) (f:Int->List CV) (c:Nat) (es:Array MapEntry):Prop where
 ent:∀e∈es.toList,e.born<c/\∃n vs,e.key=.int k n/\g n=true/\e.val=.agg vs/\CRs ro (f n) vs.toList
 has:∀n,g n=true->∃e∈es.toList,e.key=.int k n
 keys:(es.toList.map (·.key)).Nodup
 borns:(es.toList.map (·.born)).Nodup
 zer:∀n,g n=false->f n=z
theorem MapOk.mono {ro ro':Nat->Nat->Option Value} {k:IntKind} {z:List CV} {g:Int->Bool} {f:Int->List CV} {c:Nat} {es:Array MapEntry} (h:∀B j v,ro B j=some v->ro' B j=some v) (m:MapOk ro k z g f c es):MapOk ro' k z g f c es:=
 ⟨fun e he=>by obtain ⟨a,n,vs,b1,b2,b3,b4⟩:=m.ent e he;exact ⟨a,n,vs,b1,b2,b3,b4.mono h⟩,m.has,m.keys,m.borns,m.zer⟩
def BR (ρ:Rho) (o:AObj) (x:Nat×Nat×Nat) (w:World):Prop:=
 match o with
 | .cells elem size dflt cs=>∃c fr,w.heap[x.1]? =some (.cells c elem fr)/\FrOk fr c.size/\c.size=x.2.2/\x.2.1+size<=c.size/\(∀(i:Nat) (v:AV),cellAt size dflt cs i=some v->∃v':Value,c[x.2.1+i]? =some v'/\VR ρ v v'/\v.one=true)
 | .map es clock=>∃es',w.heap[x.1]? =some (.map es' clock)/\es.length=es'.size/\x.2.1=0/\
    ∀(i:Nat) (k v:AV) (n:Nat),es[i]? =some (k,v,n)->∃e':MapEntry,es'[i]? =some e'/\VR ρ k e'.key/\VR ρ v e'.val/\e'.born=n
 | .rows elem sz n f=>∃c fr,w.heap[x.1]? =some (.cells c elem fr)/\FrOk fr c.size/\c.size=x.2.2/\x.2.1+n*sz<=c.size/\
    (∀(i j:Nat),i<n->j<sz->∃v':Value,c[x.2.1+i*sz+j]? =some v'/\CR ρ.ro (f i j) v')
 | .segs elem size l ps=>∃c fr,w.heap[x.1]? =some (.cells c elem fr)/\FrOk fr c.size/\c.size=x.2.2/\x.2.1+size<=c.size/\
    (∀g∈l,g.st+g.n*g.sz<=size/\∀(i j:Nat),i<g.n->j<g.sz->∃v':Value,c[x.2.1+g.st+i*g.sz+j]? =some v'/\CR ρ.ro (g.f i j) v')/\
    (∀y∈ps,y.2.one=true/\∃v':Value,c[x.2.1+y.1]? =some v'/\VR ρ y.2 v')
 | .mp b k z g f c=>b=true/\x.2.1=0/\∃es,w.heap[x.1]? =some (.map es c)/\MapOk ρ.ro k z g f c es
 | .lp st n prm asg body tm=>∃r,w.heap[x.1]? =some (.loop r)/\lpAt st r/\r.params=prm/\r.assign=asg/\r.body=body/\r.tmps.size=n/\∀t v,tm.get t=some v->VR ρ v (r.tmps.getD t undef)
def AObj.void:AObj->Prop
 | .rows _ _ n _=>n=0
 | .mp b _ z g f _=>b=false/\∀n,g n=false/\f n=z
 | _=>False
structure HR (ρ:Rho) (H:AH) (w:World):Prop where
 live:∀A o,H.get A=some o->(∃x,ρ A=some x/\BR ρ o x w)\/(o.void/\ρ A=none)
 inj:∀A A' o o' x x',H.get A=some o->H.get A'=some o'->ρ A=some x->ρ A'=some x'->x.1=x'.1->A=A'
 range:∀A x,ρ A=some x->x.1<w.heap.size
 ro:∀B j v,ρ.ro B j=some v->∃c e fr,w.heap[B]? =some (.cells c e fr)/\c[j]? =some v
 rox:∀B j v,ρ.ro B j=some v->∀A o x,H.get A=some o->ρ A=some x->x.1≠B
theorem HR.rolt {ρ:Rho} {H:AH} {w:World} (h:HR ρ H w) {B j:Nat} {v:Value} (hr:ρ.ro B j=some v):B<w.heap.size:=by
 obtain ⟨c,e,fr,h1,_⟩:=h.ro B j v hr
 rcases Nat.lt_or_ge B w.heap.size with q | q
 · exact q
 · rw [Array.getElem?_eq_none q] at h1;simp at h1
structure Ext (ρ:Rho) (H:AH) (w:World) (ρ':Rho) (H':AH) (w':World):Prop where
 next:H.next<=H'.next
 ext:Rho.le ρ ρ'
 dom:∀A x,ρ' A=some x->ρ A=some x\/(H.next<=A/\A<H'.next)
 size:w.heap.size<=w'.heap.size
 frame:∀B,B<w.heap.size->(∀A o x,H.get A=some o->ρ A=some x->x.1≠B)->w'.heap[B]? =w.heap[B]?
 img:∀A o x,H'.get A=some o->ρ' A=some x->w.heap.size<=x.1\/∃A0 o0 x0,H.get A0=some o0/\ρ A0=some x0/\x0.1=x.1
 roimg:∀B j v,ρ'.ro B j=some v->ρ.ro B j=some v\/w.heap.size<=B\/∃A0 o0 x0,H.get A0=some o0/\ρ A0=some x0/\x0.1=B
 tape:w'.tape=w.tape
 os:w'.os=w.os
 output:w'.output=w.output
theorem Ext.refl (ρ:Rho) (H:AH) (w:World):Ext ρ H w ρ H w where
 next:=Nat.le_refl _
 ext:=.refl _
 dom:=fun _ _ h=>.inl h
 size:=Nat.le_refl _
 frame:=fun _ _ _=>rfl
 img:=fun A o x h hx=>.inr ⟨A,o,x,h,hx,rfl⟩
 roimg:=fun _ _ _ h=>.inl h
 tape:=rfl
 os:=rfl
 output:=rfl
theorem Ext.trans {ρ ρ1 ρ2:Rho} {H H1 H2:AH} {w w1 w2:World} (h1:Ext ρ H w ρ1 H1 w1) (h2:Ext ρ1 H1 w1 ρ2 H2 w2):Ext ρ H w ρ2 H2 w2 where
 next:=Nat.le_trans h1.next h2.next
 ext:=h1.ext.trans h2.ext
 dom:=fun A x h=>by
  rcases h2.dom A x h with h | ⟨a,b⟩
  · rcases h1.dom A x h with h | ⟨a,b⟩
    · exact .inl h
    · exact .inr ⟨a,Nat.lt_of_lt_of_le b h2.next⟩
  · exact .inr ⟨Nat.le_trans h1.next a,b⟩
 size:=Nat.le_trans h1.size h2.size
 frame:=fun B hB hn=>by
  rw [h2.frame B (Nat.lt_of_lt_of_le hB h1.size) ?_,h1.frame B hB hn]
  intro A o x hA hx he
  rcases h1.img A o x hA hx with hge | ⟨A0,o0,x0,g0,r0,e0⟩
  · omega
  · exact hn A0 o0 x0 g0 r0 (e0.trans he)
 img:=fun A o x hA hx=>by
  rcases h2.img A o x hA hx with hge | ⟨A0,o0,x0,g0,r0,e0⟩
  · exact .inl (Nat.le_trans h1.size hge)
  · rcases h1.img A0 o0 x0 g0 r0 with hge | ⟨A1,o1,x1,g1,r1,e1⟩
    · exact .inl (e0▸hge)
    · exact .inr ⟨A1,o1,x1,g1,r1,e1.trans e0⟩
 roimg:=fun B j v hv=>by
  rcases h2.roimg B j v hv with h | h | ⟨A0,o0,x0,g0,r0,e0⟩
  · exact h1.roimg B j v h
  · exact .inr (.inl (Nat.le_trans h1.size h))
  · rcases h1.img A0 o0 x0 g0 r0 with hge | ⟨A1,o1,x1,g1,r1,e1⟩
    · exact .inr (.inl (e0▸hge))
    · exact .inr (.inr ⟨A1,o1,x1,g1,r1,e1.trans e0⟩)
 tape:=h2.tape.trans h1.tape
 os:=h2.os.trans h1.os
 output:=h2.output.trans h1.output
def Fresh (ρ:Rho) (H:AH) (N:Nat):Prop:=∀A,H.next<=A->A<N->ρ A=none
theorem Fresh.left {ρ:Rho} {H:AH} {N M:Nat} (h:Fresh ρ H N) (hm:M<=N):Fresh ρ H M:=fun A a b=>h A a (by omega)
theorem Fresh.right {ρ ρ1:Rho} {H H1:AH} {w w1:World} {N:Nat} (h:Fresh ρ H N) (e:Ext ρ H w ρ1 H1 w1):Fresh ρ1 H1 N:=by
 intro A a b
 cases hr:ρ1 A with
 | none=>rfl
 | some x=>
   rcases e.dom A x hr with h1 | ⟨_,h2⟩
   · rw [h A (Nat.le_trans e.next a) b] at h1;simp at h1
   · omega
structure TR (ρ:Rho) (tm:T AV) (n:Nat) (ts:Array Value):Prop where
 size:ts.size=n
 get:∀t v,tm.get t=some v->VR ρ v (ts.getD t undef)
theorem TR.mono {ρ ρ':Rho} {tm:T AV} {n:Nat} {ts:Array Value} (h:TR ρ tm n ts) (hle:Rho.le ρ ρ'):TR ρ' tm n ts:=
 ⟨h.size,fun t v hv=>(h.get t v hv).mono hle⟩
theorem undef_VR (ρ:Rho):VR ρ undefV undef:=.tup [] [] .nil
end Go.Sim
/- Reading, writing and making rows of a world, in the words of the abstract heap. -/
namespace Go.Sim
open Go
theorem BR.congr {ρ:Rho} {o:AObj} {x:Nat×Nat×Nat} {w w':World} (h:BR ρ o x w) (he:w'.heap[x.1]? =w.heap[x.1]?):BR ρ o x w':=by
 cases o<;>simpa [BR,he] using h
theorem BR.mono {ρ ρ':Rho} {o:AObj} {x:Nat×Nat×Nat} {w:World} (h:BR ρ o x w) (hle:Rho.le ρ ρ'):BR ρ' o x w:=by
 cases o with
 | cells elem size dflt cs=>
   obtain ⟨c,fr,h1,h2,h3,hs,h4⟩:=h
   exact ⟨c,fr,h1,h2,h3,hs,fun i v hv=>let ⟨v',a,b,c⟩:=h4 i v hv;⟨v',a,b.mono hle,c⟩⟩
 | map es clock=>
   obtain ⟨es',h1,h2,h3,h4⟩:=h
   exact ⟨es',h1,h2,h3,fun i k v n hv=>let ⟨e',a,b,c,d⟩:=h4 i k v n hv;⟨e',a,b.mono hle,c.mono hle,d⟩⟩
 | rows elem sz n f=>
   obtain ⟨c,fr,h1,h2,h3,hs,h4⟩:=h
   exact ⟨c,fr,h1,h2,h3,hs,fun i j hi hj=>let ⟨v',a,b⟩:=h4 i j hi hj;⟨v',a,b.mono hle.ro⟩⟩
 | segs elem size l ps=>
   obtain ⟨c,fr,h1,h2,h3,hs,h4,h5⟩:=h
   exact ⟨c,fr,h1,h2,h3,hs,fun g hg=>⟨(h4 g hg).1,fun i j hi hj=>let ⟨v',a,b⟩:=(h4 g hg).2 i j hi hj;⟨v',a,b.mono hle.ro⟩⟩,
    fun y hy=>⟨(h5 y hy).1,let ⟨v',a,b⟩:=(h5 y hy).2;⟨v',a,b.mono hle⟩⟩⟩
 | lp st n prm asg body tm=>
   obtain ⟨r,h1,h2,h3,h4,h5,h6,h7⟩:=h
   exact ⟨r,h1,h2,h3,h4,h5,h6,fun t v hv=>(h7 t v hv).mono hle⟩
 | mp b k z g f c=>
   obtain ⟨h0,h1,es,h2,h3⟩:=h
   exact ⟨h0,h1,es,h2,h3.mono hle.ro⟩
theorem HR.ro_keep {ρ:Rho} {H:AH} {w w':World} (h:HR ρ H w) (hk:∀B j v,ρ.ro B j=some v->w'.heap[B]? =w.heap[B]?):∀B j v,ρ.ro B j=some v->∃c e fr,w'.heap[B]? =some (.cells c e fr)/\c[j]? =some v:=by
 intro B j v hv
 rw [hk B j v hv]
 exact h.ro B j v hv
theorem HR.upd {ρ:Rho} {H:AH} {w w':World} {A:Nat} {o o':AObj} {x:Nat×Nat×Nat} (h:HR ρ H w) (hA:H.get A=some o) (hx:ρ A=some x) (hb:BR ρ o' x w')
 (hother:∀B,B≠x.1->w'.heap[B]? =w.heap[B]?) (hsize:w'.heap.size=w.heap.size) (ht:w'.tape=w.tape) (ho:w'.os=w.os) (hout:w'.output=w.output) :
 HR ρ (H.upd A (some o')) w'/\Ext ρ H w ρ (H.upd A (some o')) w':=by
 refine ⟨⟨?_,?_,?_,h.ro_keep fun B j v hv=>hother B fun e=>h.rox B j v hv A o x hA hx e.symm,?_⟩,⟨Nat.le_refl _,.refl _,fun _ _ h=>.inl h,by omega,?_,?_,fun _ _ _ h=>.inl h,ht,ho,hout⟩⟩
 · intro A1 o1 h1
   rw [AH.get_upd] at h1
   split at h1
   · rename_i e;subst e;simp at h1;subst h1;exact .inl ⟨x,hx,hb⟩
   · rename_i e
     rcases h.live A1 o1 h1 with ⟨x1,hx1,b1⟩ | hv
     · exact .inl ⟨x1,hx1,b1.congr (hother _ fun he=>e (h.inj _ _ _ _ _ _ h1 hA hx1 hx he))⟩
     · exact .inr hv
 · intro A1 A2 o1 o2 x1 x2 h1 h2 r1 r2 he
   rw [AH.get_upd] at h1 h2
   have g1:∃o,H.get A1=some o:=by
    by_cases e:A1=A
    · exact ⟨o,e▸hA⟩
    · rw [if_neg e] at h1;exact ⟨_,h1⟩
   have g2:∃o,H.get A2=some o:=by
    by_cases e:A2=A
    · exact ⟨o,e▸hA⟩
    · rw [if_neg e] at h2;exact ⟨_,h2⟩
   obtain ⟨_,g1⟩:=g1
   obtain ⟨_,g2⟩:=g2
   exact h.inj _ _ _ _ _ _ g1 g2 r1 r2 he
 · intro A1 x1 h1;rw [hsize];exact h.range A1 x1 h1
 · intro B j v hv A1 o1 x1 h1 r1
   rw [AH.get_upd] at h1
   by_cases e:A1=A
   · subst e;rw [hx] at r1;simp at r1;subst r1;exact h.rox B j v hv _ _ _ hA hx
   · rw [if_neg e] at h1;exact h.rox B j v hv _ _ _ h1 r1
 · intro B hB hn;exact hother B fun e=>hn A o x hA hx e.symm
 · intro A1 o1 x1 h1 r1
   rw [AH.get_upd] at h1
   by_cases e:A1=A
   · subst e;exact .inr ⟨A1,o,x1,hA,r1,rfl⟩
   · rw [if_neg e] at h1;exact .inr ⟨A1,o1,x1,h1,r1,rfl⟩
def Rho.add (ρ:Rho) (A:Nat) (x:Nat×Nat×Nat):Rho:=⟨fun B=>if B=A then some x else ρ B,ρ.ro⟩
theorem Rho.add_nm (ρ:Rho) (A:Nat) (x:Nat×Nat×Nat) (B:Nat):ρ.add A x B=if B=A then some x else ρ B:=rfl
theorem Rho.add_le {ρ:Rho} {A:Nat} {x:Nat×Nat×Nat} (h:ρ A=none):Rho.le ρ (ρ.add A x):=by
 refine ⟨?_,fun _ _ _ h=>h⟩
 intro B y hB
 rw [Rho.add_nm]
 split
 · rename_i e;subst e;rw [h] at hB;simp at hB
 · exact hB
theorem Rho.add_same (ρ:Rho) (A:Nat) (x:Nat×Nat×Nat):ρ.add A x A=some x:=by simp [Rho.add]
theorem HR.new {ρ:Rho} {H:AH} {w w':World} {o':AObj} {N:Nat} (h:HR ρ H w) (hf:ρ H.next=none) (hb:BR (ρ.add H.next (w.heap.size,0,N)) o' (w.heap.size,0,N) w')
 (hother:∀B,B<w.heap.size->w'.heap[B]? =w.heap[B]?) (hsize:w'.heap.size=w.heap.size+1) (ht:w'.tape=w.tape) (ho:w'.os=w.os) (hout:w'.output=w.output) :
 HR (ρ.add H.next (w.heap.size,0,N)) (H.new o') w'/\Ext ρ H w (ρ.add H.next (w.heap.size,0,N)) (H.new o') w':=by
 have hle:Rho.le ρ (ρ.add H.next (w.heap.size,0,N)):=Rho.add_le hf
 refine ⟨⟨?_,?_,?_,?_,?_⟩,⟨Nat.le_succ _,hle,?_,by omega,?_,?_,fun _ _ _ h=>.inl h,ht,ho,hout⟩⟩
 · intro A1 o1 h1
   rw [AH.get_new] at h1
   split at h1
   · rename_i e;subst e;simp at h1;subst h1;exact .inl ⟨_,Rho.add_same _ _ _,hb⟩
   · rename_i e
     rcases h.live A1 o1 h1 with ⟨x1,hx1,b1⟩ | hv
     · exact .inl ⟨x1,hle.nm _ _ hx1,(b1.congr (hother _ (h.range _ _ hx1))).mono hle⟩
     · exact .inr ⟨hv.1,by rw [Rho.add_nm,if_neg e];exact hv.2⟩
 · intro A1 A2 o1 o2 x1 x2 h1 h2 r1 r2 he
   rw [AH.get_new] at h1 h2
   rw [Rho.add_nm] at r1;rw [Rho.add_nm] at r2
   split at h1
   · rename_i e1
     rw [if_pos e1] at r1
     split at h2
     · rename_i e2;rw [e1,e2]
     · rename_i e2
       rw [if_neg e2] at r2
       have:=h.range _ _ r2
       simp at r1;subst r1;simp at he;omega
   · rename_i e1
     rw [if_neg e1] at r1
     split at h2
     · rename_i e2
       rw [if_pos e2] at r2
       have:=h.range _ _ r1
       simp at r2;subst r2;simp at he;omega
     · rename_i e2
       rw [if_neg e2] at r2
       exact h.inj _ _ _ _ _ _ h1 h2 r1 r2 he
 · intro A1 x1 h1
   rw [Rho.add_nm] at h1
   split at h1
   · simp at h1;subst h1;simp;omega
   · have:=h.range _ _ h1;omega
 · intro B j v hv
   obtain ⟨c,e,fr,q1,q2⟩:=h.ro B j v hv
   exact ⟨c,e,fr,by rw [hother _ (h.rolt hv)];exact q1,q2⟩
 · intro B j v hv A1 o1 x1 h1 r1
   have hlt:=h.rolt (B:=B) (j:=j) (v:=v) hv
   rw [AH.get_new] at h1
   rw [Rho.add_nm] at r1
   split at h1
   · rename_i e;rw [if_pos e] at r1;simp at r1;subst r1;simp;omega
   · rename_i e;rw [if_neg e] at r1;exact h.rox B j v hv _ _ _ h1 r1
 · intro A1 x1 h1
   rw [Rho.add_nm] at h1
   split at h1
   · rename_i e;subst e;exact .inr ⟨Nat.le_refl _,Nat.lt_succ_self _⟩
   · exact .inl h1
 · intro B hB _;exact hother B hB
 · intro A1 o1 x1 h1 r1
   rw [AH.get_new] at h1
   rw [Rho.add_nm] at r1
   split at h1
   · rename_i e;rw [if_pos e] at r1;simp at r1;subst r1;exact .inl (Nat.le_refl _)
   · rename_i e;rw [if_neg e] at r1;exact .inr ⟨A1,o1,x1,h1,r1,rfl⟩
theorem HR.move {ρ:Rho} {H:AH} {w w':World} {A:Nat} {o o':AObj} {x x':Nat×Nat×Nat} (h:HR ρ H w) (hA:H.get A=some o) (hx:ρ A=some x) (hx1:x'.1=x.1) (hf:ρ H.next=none)
 (hb:BR (ρ.add H.next x') o' x' w') (hother:∀B,B≠x.1->w'.heap[B]? =w.heap[B]?) (hsize:w'.heap.size=w.heap.size) (ht:w'.tape=w.tape) (ho:w'.os=w.os) (hout:w'.output=w.output) :
 HR (ρ.add H.next x') ((H.upd A none).new o') w'/\Ext ρ H w (ρ.add H.next x') ((H.upd A none).new o') w':=by
 have hle:Rho.le ρ (ρ.add H.next x'):=Rho.add_le hf
 have hnA:A≠H.next:=fun e=>by rw [<-e,hx] at hf;simp at hf
 have hget:∀B,((H.upd A none).new o').get B=if B=H.next then some o' else if B=A then none else H.get B:=by
  intro B;rw [AH.get_new,AH.get_upd];rfl
 refine ⟨⟨?_,?_,?_,?_,?_⟩,⟨Nat.le_succ _,hle,?_,by omega,?_,?_,fun _ _ _ h=>.inl h,ht,ho,hout⟩⟩
 · intro A1 o1 h1
   rw [hget] at h1
   split at h1
   · rename_i e;subst e;simp at h1;subst h1;exact .inl ⟨_,Rho.add_same _ _ _,hb⟩
   · rename_i e0
     split at h1
     · simp at h1
     · rename_i e
       rcases h.live A1 o1 h1 with ⟨x1,hx1',b1⟩ | hv
       · exact .inl ⟨x1,hle.nm _ _ hx1',(b1.congr (hother _ fun he=>e (h.inj _ _ _ _ _ _ h1 hA hx1' hx he))).mono hle⟩
       · exact .inr ⟨hv.1,by rw [Rho.add_nm,if_neg e0];exact hv.2⟩
 · intro A1 A2 o1 o2 x1 x2 h1 h2 r1 r2 he
   rw [hget] at h1 h2
   rw [Rho.add_nm] at r1;rw [Rho.add_nm] at r2
   split at h1
   · rename_i e1
     rw [if_pos e1] at r1
     split at h2
     · rename_i e2;rw [e1,e2]
     · rename_i e2
       rw [if_neg e2] at r2
       split at h2
       · simp at h2
       · rename_i e3
         simp at r1;subst r1
         exact absurd (h.inj _ _ _ _ _ _ hA h2 hx r2 (hx1.symm.trans he)) fun e=>e3 e.symm
   · rename_i e1
     rw [if_neg e1] at r1
     split at h1
     · simp at h1
     · rename_i e3
       split at h2
       · rename_i e2
         rw [if_pos e2] at r2
         simp at r2;subst r2
         exact absurd (h.inj _ _ _ _ _ _ h1 hA r1 hx (he.trans hx1)) e3
       · rename_i e2
         rw [if_neg e2] at r2
         split at h2
         · simp at h2
         · exact h.inj _ _ _ _ _ _ h1 h2 r1 r2 he
 · intro A1 x1 h1
   rw [Rho.add_nm] at h1
   split at h1
   · simp at h1;subst h1;rw [hsize,hx1];exact h.range _ _ hx
   · rw [hsize];exact h.range _ _ h1
 · intro B j v hv
   obtain ⟨c,e,fr,q1,q2⟩:=h.ro B j v hv
   exact ⟨c,e,fr,by rw [hother _ fun e=>h.rox B j v hv A o x hA hx e.symm];exact q1,q2⟩
 · intro B j v hv A1 o1 x1 h1 r1
   rw [hget] at h1
   rw [Rho.add_nm] at r1
   split at h1
   · rename_i e;rw [if_pos e] at r1;simp at r1;subst r1;rw [hx1];exact h.rox B j v hv _ _ _ hA hx
   · rename_i e
     rw [if_neg e] at r1
     split at h1
     · simp at h1
     · exact h.rox B j v hv _ _ _ h1 r1
 · intro A1 x1 h1
   rw [Rho.add_nm] at h1
   split at h1
   · rename_i e;subst e;exact .inr ⟨Nat.le_refl _,Nat.lt_succ_self _⟩
   · exact .inl h1
 · intro B hB hn;exact hother B fun e=>hn A o x hA hx e.symm
 · intro A1 o1 x1 h1 r1
   rw [hget] at h1
   rw [Rho.add_nm] at r1
   split at h1
   · rename_i e;rw [if_pos e] at r1;simp at r1;subst r1;exact .inr ⟨A,o,x,hA,hx,hx1.symm⟩
   · rename_i e
     rw [if_neg e] at r1
     split at h1
     · simp at h1
     · exact .inr ⟨A1,o1,x1,h1,r1,rfl⟩
theorem addr_add (B o n:Nat):(⟨B,o,none⟩:Addr).add n=⟨B,o+n,none⟩:=by
 unfold Addr.add;split<;>simp_all
theorem cell?_of_heap {w:World} {B o:Nat} {c:Array Value} {e:TypeId} {fr:Nat×Nat} (h:w.heap[B]? =some (.cells c e fr)):w.cell? ⟨B,o,none⟩=c[o]?:=by
 simp [World.cell?,h]
theorem frozen?_of_heap {w:World} {B o:Nat} {c:Array Value} {e:TypeId} {fr:Nat×Nat} (h:w.heap[B]? =some (.cells c e fr)):w.frozen? ⟨B,o,none⟩=(decide (fr.1<=o) && decide (o<fr.2)):=by
 obtain ⟨lo,hi⟩:=fr
 simp [World.frozen?,h]
theorem run_loadCellsFrom {P:Program} {w:World} {B o:Nat} {c:Array Value} {e:TypeId} {fr:Nat×Nat} (h:w.heap[B]? =some (.cells c e fr)) :
 ∀(n i:Nat) (acc:Array Value),o+i+n<=c.size->(loadCellsFrom ⟨B,o,none⟩ i n acc).run P w=.ok (acc ++ c.extract (o+i) (o+i+n)) w:=by
 intro n
 induction n with
 | zero=>intro i acc hn;simp [loadCellsFrom];omega
 | succ n ih=>
   intro i acc hn
   have hlt:o+i<c.size:=by omega
   simp only [loadCellsFrom,addr_add,Sem.run_bind,run_load,cell?_of_heap h,Array.getElem?_eq_getElem hlt,Result.andThen_ok]
   rw [ih (i+1) (acc.push c[o+i]) (by omega)]
   congr 1
   apply Array.ext'
   simp only [Array.toList_append,Array.toList_push,Array.toList_extract,List.append_assoc]
   congr 1
   rw [show o+i+(n+1)=(o+i)+1+n by omega,show o+(i+1)=o+i+1 by omega]
   simp only [List.extract_eq_take_drop,show o+i+1+n-(o+i)=n+1 by omega,show o+i+1+n-(o+i+1)=n by omega]
   rw [List.drop_eq_getElem_cons (i:=o+i) (l:=c.toList) (by simpa using hlt),List.take_succ_cons]
   simp
theorem run_loadCells {P:Program} {w:World} {B o n:Nat} {c:Array Value} {e:TypeId} {fr:Nat×Nat} (h:w.heap[B]? =some (.cells c e fr)) (hn:o+n<=c.size) :
 (loadCells ⟨B,o,none⟩ n).run P w=.ok (c.extract o (o+n)) w:=by
 unfold loadCells
 rw [run_loadCellsFrom h n 0 #[] (by omega)]
 simp
def setL (c:Array Value) (o:Nat):List Value->Array Value
 | []=>c
 | v :: r=>setL (c.setIfInBounds o v) (o+1) r
theorem setL_size:∀(l:List Value) (c:Array Value) (o:Nat),(setL c o l).size=c.size
 | [],_,_=>rfl
 | v :: r,c,o=>by simp [setL,setL_size r]
theorem setL_get:∀(l:List Value) (c:Array Value) (o j:Nat),o+l.length<=c.size->(setL c o l)[j]? =if o<=j/\j<o+l.length then l[j-o]? else c[j]?
 | [],c,o,j,_=>by simp [setL];intro h;omega
 | v :: r,c,o,j,h=>by
   simp only [List.length_cons] at h
   have hs:o+1+r.length<=(c.setIfInBounds o v).size:=by simp;omega
   simp only [setL]
   rw [setL_get r (c.setIfInBounds o v) (o+1) j hs]
   simp only [List.length_cons]
   by_cases hj:o=j
   · subst hj
     have hlt:o<c.size:=by omega
     simp [hlt];omega
   · by_cases h1:o+1<=j/\j<o+1+r.length
     · rw [if_pos h1,if_pos (by omega)]
       rw [show j-o=(j-(o+1))+1 by omega];simp
     · rw [if_neg h1,if_neg (by omega)]
       simp [Array.getElem?_setIfInBounds,hj]
def World.putRow (w:World) (B:Nat) (o:Obj):World:={ w with heap:=w.heap.setIfInBounds B o}
theorem putRow_get {w:World} {B:Nat} {o:Obj} (h:B<w.heap.size) (C:Nat):(World.putRow w B o).heap[C]? =if C=B then some o else w.heap[C]?:=by
 simp only [World.putRow,Array.getElem?_setIfInBounds]
 by_cases e:B=C
 · subst e;simp [h]
 · simp [e,Ne.symm e]
theorem setCell_putRow {w:World} {B o:Nat} {c:Array Value} {e:TypeId} {fr:Nat×Nat} {v:Value} (h:w.heap[B]? =some (.cells c e fr)) :
 w.setCell ⟨B,o,none⟩ v=World.putRow w B (.cells (c.setIfInBounds o v) e fr):=by
 have hlt:B<w.heap.size:=by
  rcases Nat.lt_or_ge B w.heap.size with h1 | h1
  · exact h1
  · rw [Array.getElem?_eq_none h1] at h;simp at h
 unfold World.setCell World.putRow
 congr 1
 apply Array.ext_getElem?
 intro i
 simp only [Array.getElem?_modify,Array.getElem?_setIfInBounds]
 by_cases hi:B=i
 · subst hi
   rw [Array.getElem?_eq_getElem hlt] at h⊢
   simp at h
   simp [h,hlt]
 · simp [hi]
theorem putRow_putRow (w:World) (B:Nat) (o o':Obj):World.putRow (World.putRow w B o) B o'=World.putRow w B o':=by
 simp [World.putRow,Array.setIfInBounds_setIfInBounds]
theorem putRow_same {w:World} {B:Nat} {o:Obj} (h:w.heap[B]? =some o):World.putRow w B o=w:=by
 unfold World.putRow
 have:w.heap.setIfInBounds B o=w.heap:=by
  apply Array.ext_getElem?
  intro i
  rw [Array.getElem?_setIfInBounds]
  by_cases hi:B=i
  · subst hi
    have hlt:B<w.heap.size:=by
     rcases Nat.lt_or_ge B w.heap.size with h1 | h1
     · exact h1
     · rw [Array.getElem?_eq_none h1] at h;simp at h
    simp [hlt,<-h]
  · simp [hi]
 rw [this]
theorem run_storeCells {P:Program} {B o:Nat} {e:TypeId} {fr:Nat×Nat}:∀(l:List Value) (i:Nat) (c:Array Value) (w:World),w.heap[B]? =some (.cells c e fr)->
 FrOk fr c.size->o+i+l.length<=c.size->(∀v∈l,v.oneCell'=true)->
 (storeCells ⟨B,o,none⟩ l i).run P w=.ok () (World.putRow w B (.cells (setL c (o+i) l) e fr))
 | [],i,c,w,h,_,_,_=>by
   simp only [storeCells,Sem.run_pure,setL]
   rw [putRow_same h]
 | v :: r,i,c,w,h,hfr,hn,ho=>by
   simp only [List.length_cons] at hn
   have hlt:o+i<c.size:=by omega
   have hB:B<w.heap.size:=by
    rcases Nat.lt_or_ge B w.heap.size with h1 | h1
    · exact h1
    · rw [Array.getElem?_eq_none h1] at h;simp at h
   have hnf:w.frozen? ⟨B,o+i,none⟩=false:=by
    rw [frozen?_of_heap h]
    have:=hfr.not _ hlt
    simp only [Bool.and_eq_false_iff,decide_eq_false_iff_not]
    omega
   simp only [storeCells,addr_add,Sem.run_bind]
   rw [run_store P w _ v _ (ho v (by simp))]
   simp only [cell?_of_heap h,Array.getElem?_eq_getElem hlt,hnf,Bool.false_eq_true,if_false,Result.andThen_ok]
   rw [setCell_putRow h]
   have h2:(World.putRow w B (.cells (c.setIfInBounds (o+i) v) e fr)).heap[B]? =some (.cells (c.setIfInBounds (o+i) v) e fr):=by rw [putRow_get hB];simp
   rw [run_storeCells r (i+1) (c.setIfInBounds (o+i) v) _ h2 (by simpa using hfr) (by simp;omega) (fun u hu=>ho u (by simp [hu]))]
   simp only [putRow_putRow,setL]
   rfl
end Go.Sim
/- The operations, on abstract values: what each answers, and that the model's own operation answers what that stands for. -/
namespace Go.Sim
open Go
def ob {α β:Type}:Option α->(α->Option β)->Option β
 | none,_=>none
 | some a,f=>f a
def og {β:Type}:Bool->Option β->Option β
 | false,_=>none
 | true,e=>e
theorem ob_some {α β:Type} {x:Option α} {f:α->Option β} {b:β}:ob x f=some b↔∃a,x=some a/\f a=some b:=by
 cases x<;>simp [ob]
theorem og_some {β:Type} {c:Bool} {e:Option β} {b:β}:og c e=some b↔c=true/\e=some b:=by
 cases c<;>simp [og]
noncomputable def ofScalar:Value->Option AV
 | .bool b=>some (.b b)
 | .int k n=>some (.i k n)
 | .string s=>some (.s (s.data.toList.map UInt8.toNat))
 | .pointer none=>some .p0
 | .slice none 0 0=>some .l0
 | .map none=>some .m0
 | .nilFunc=>some .f0
 | .nilIface=>some .if0
 | _=>none
noncomputable def ofScalars:List Value->Option (List AV)
 | []=>some []
 | v :: r=>ob (ofScalar v) fun a=>ob (ofScalars r) fun l=>some (a :: l)
noncomputable def ofValue:Value->Option AV
 | .agg cs=>ob (ofScalars cs.toList) fun l=>some (.agg l)
 | .tuple vs=>match vs.toList with
   | []=>some (.tup [])
   | _=>none
 | v=>ofScalar v
theorem ofScalar_VR {ρ:Rho} {v:Value} {a:AV} (h:ofScalar v=some a):VR ρ a v:=by
 unfold ofScalar at h
 split at h<;>simp at h<;>subst h<;>constructor
 rfl
theorem ofScalars_VR {ρ:Rho}:∀{l:List Value} {r:List AV},ofScalars l=some r->VRs ρ r l
 | [],r,h=>by simp [ofScalars] at h;subst h;exact .nil
 | v :: l,r,h=>by
   simp only [ofScalars,ob_some] at h
   obtain ⟨a,ha,r',hr,e⟩:=h
   simp at e;subst e
   exact .cons _ _ _ _ (ofScalar_VR ha) (ofScalars_VR hr)
theorem ofValue_VR {ρ:Rho} {v:Value} {a:AV} (h:ofValue v=some a):VR ρ a v:=by
 unfold ofValue at h
 split at h
 · rename_i cs
   simp only [ob_some] at h
   obtain ⟨l,hl,e⟩:=h
   simp at e;subst e
   have:=VR.agg _ _ (ofScalars_VR (ρ:=ρ) hl)
   simpa using this
 · rename_i vs
   split at h
   · rename_i e
     simp at h;subst h
     have:vs=#[]:=by cases vs;simp_all
     subst this
     exact undef_VR ρ
   · simp at h
 · exact ofScalar_VR h
noncomputable def evalO (tm:T AV):Operand->Option AV
 | .tmp t=>tm.get t
 | .const v=>ofValue v
 | .func f=>some (.fn (.func f) [] [])
 | .global _=>none
noncomputable def evalOs (tm:T AV) (l:List Operand):Option (List AV):=
 List.rec (motive:=fun _=>Option (List AV)) (some []) (fun o _ ih=>ob (evalO tm o) fun v=>ob ih fun l=>some (v :: l)) l
theorem evalOs_nil (tm:T AV):evalOs tm []=some []:=rfl
theorem evalOs_cons (tm:T AV) (o:Operand) (r:List Operand):evalOs tm (o :: r)=ob (evalO tm o) fun v=>ob (evalOs tm r) fun l=>some (v :: l):=rfl
theorem evalO_VR {ρ:Rho} {tm:T AV} {n:Nat} {a:Act} (ht:TR ρ tm n a.tmps) {x:Operand} {v:AV} (h:evalO tm x=some v):VR ρ v (a.eval x):=by
 cases x with
 | tmp t=>
   simp only [evalO] at h
   exact ht.get t v h
 | const c=>exact ofValue_VR h
 | global g=>simp [evalO] at h
 | func f=>simp [evalO] at h;subst h;exact .fn _ [] [] [] [] .nil .nil
theorem evalOs_VR {ρ:Rho} {tm:T AV} {n:Nat} {a:Act} (ht:TR ρ tm n a.tmps):∀{x:List Operand} {v:List AV},evalOs tm x=some v->VRs ρ v (x.map a.eval)
 | [],v,h=>by simp [evalOs_nil] at h;subst h;exact .nil
 | x :: r,v,h=>by
   simp only [evalOs_cons,ob_some] at h
   obtain ⟨u,hu,l,hl,e⟩:=h
   simp at e;subst e
   exact .cons _ _ _ _ (evalO_VR ht hu) (evalOs_VR ht hl)
def GoesV (P:Program) (s:Sem Value) (v:AV) (H':AH) (ρ:Rho) (H:AH) (w:World):Prop:=
 ∃v' ρ' w',s.run P w=.ok v' w'/\VR ρ' v v'/\HR ρ' H' w'/\Ext ρ H w ρ' H' w'
def GoesU (P:Program) (s:Sem Unit) (H':AH) (ρ:Rho) (H:AH) (w:World):Prop:=
 ∃ρ' w',s.run P w=.ok () w'/\HR ρ' H' w'/\Ext ρ H w ρ' H' w'
theorem GoesV.pure {P:Program} {s:Sem Value} {v:AV} {v':Value} {ρ:Rho} {H:AH} {w:World} (hh:HR ρ H w) (hv:VR ρ v v') (hr:s.run P w=.ok v' w):GoesV P s v H ρ H w:=
 ⟨v',ρ,w,hr,hv,hh,Ext.refl _ _ _⟩
def aggB (P:Program) (t:TypeId):Option Bool:=
 match P.underlying t with
 | some (.struct _)=>some true
 | some (.array _ _)=>some true
 | some _=>some false
 | none=>none
def infoSize (P:Program) (t:TypeId):Option Nat:=
 match P.info? t with
 | some i=>some i.size
 | none=>none
noncomputable def zeroCellsOf (P:Program) (t:TypeId):Option (List AV):=
 match P.info? t with
 | some i=>match i.zero with
   | some z=>match ofValue z with
     | some v=>match allOne v.cells with
       | true=>some v.cells
       | false=>none
     | none=>none
   | none=>none
 | none=>none
theorem run_underlying' {P:Program} {t:TypeId} {d:TypeDesc} {w:World} (h:P.underlying t=some d):(underlying t).run P w=.ok d w:=by
 simp [underlying,h]
theorem run_typeInfo' {P:Program} {t:TypeId} {i:TypeInfo} {w:World} (h:P.info? t=some i):(typeInfo t).run P w=.ok i w:=by
 simp [typeInfo,h]
theorem run_sizeOf' {P:Program} {t:TypeId} {n:Nat} {w:World} (h:infoSize P t=some n):(sizeOf t).run P w=.ok n w:=by
 unfold infoSize at h
 split at h
 · rename_i i hi;simp at h;subst h;simp [sizeOf,run_typeInfo' hi]
 · simp at h
theorem run_isAgg' {P:Program} {t:TypeId} {b:Bool} {w:World} (h:aggB P t=some b):(isAgg t).run P w=.ok b w:=by
 unfold aggB at h
 split at h
 · rename_i hi;simp at h;subst h;simp [isAgg,run_underlying' hi]
 · rename_i hi;simp at h;subst h;simp [isAgg,run_underlying' hi]
 · rename_i d h1 h2 hi
   simp at h;subst h
   simp only [isAgg,Sem.run_bind,run_underlying' hi,Result.andThen_ok]
   cases d<;>first | rfl | simp_all
 · simp at h
theorem run_zero' {P:Program} {ρ:Rho} {t:TypeId} {l:List AV} (h:zeroCellsOf P t=some l):∃z:Value,(∀w,(zeroValue t).run P w=.ok z w)/\VRs ρ l z.cells.toList/\allOne l=true:=by
 unfold zeroCellsOf at h
 split at h
 · rename_i i hi
   split at h
   · rename_i z hz
     split at h
     · rename_i v hv
       split at h
       · rename_i ho
         simp at h;subst h
         exact ⟨z,fun w=>by simp [zeroValue,run_typeInfo' hi,hz],(ofValue_VR hv).cells,ho⟩
       · simp at h
     · simp at h
   · simp at h
 · simp at h
theorem run_zero {P:Program} {ρ:Rho} {t:TypeId} {l:List AV} {w:World} (h:zeroCellsOf P t=some l):∃z,(zeroValue t).run P w=.ok z w/\VRs ρ l z.cells.toList/\allOne l=true:=
 let ⟨z,a,b,c⟩:=run_zero' (ρ:=ρ) h
 ⟨z,a w,b,c⟩
noncomputable def readN (size:Nat) (dflt:List AV) (cs:T AV) (o n:Nat):Option (List AV):=
 Nat.rec (motive:=fun _=>Nat->Option (List AV)) (fun _=>some []) (fun _ ih o=>ob (cellAt size dflt cs o) fun v=>ob (ih (Nat.succ o)) fun r=>some (v :: r)) n o
theorem readN_0 (size:Nat) (dflt:List AV) (cs:T AV) (o:Nat):readN size dflt cs o 0=some []:=rfl
theorem readN_s (size:Nat) (dflt:List AV) (cs:T AV) (o n:Nat):readN size dflt cs o (n+1)=ob (cellAt size dflt cs o) fun v=>ob (readN size dflt cs (o+1) n) fun r=>some (v :: r):=rfl
theorem run_readN {P:Program} {ρ:Rho} {w:World} {B d:Nat} {c:Array Value} {e:TypeId} {fr:Nat×Nat} {size:Nat} {dflt:List AV} {cs:T AV} (h:w.heap[B]? =some (.cells c e fr))
 (hb:∀(i:Nat) (v:AV),cellAt size dflt cs i=some v->∃v':Value,c[d+i]? =some v'/\VR ρ v v'/\v.one=true) :
 ∀(n o i:Nat) (acc:Array Value) (l:List AV),readN size dflt cs (o+i) n=some l->
  ∃vs:List Value,VRs ρ l vs/\allOne l=true/\(loadCellsFrom ⟨B,d+o,none⟩ i n acc).run P w=.ok (acc ++ vs.toArray) w:=by
 intro n
 induction n with
 | zero=>intro o i acc l hr;simp [readN_0] at hr;subst hr;exact ⟨[],.nil,rfl,by simp [loadCellsFrom]⟩
 | succ n ih=>
   intro o i acc l hr
   simp only [readN_s,ob_some] at hr
   obtain ⟨v,hv,r,hr,e⟩:=hr
   simp at e;subst e
   obtain ⟨v',h1,h2,h3⟩:=hb _ _ hv
   obtain ⟨vs,g1,g2,g3⟩:=ih o (i+1) (acc.push v') r hr
   refine ⟨v' :: vs,.cons _ _ _ _ h2 g1,by simp [allOne_cons,h3,g2],?_⟩
   rw [<-Nat.add_assoc] at h1
   simp only [loadCellsFrom,addr_add,Sem.run_bind,run_load,cell?_of_heap h,h1,Result.andThen_ok,g3]
   congr 1
   apply Array.ext';simp
theorem HR.row {ρ:Rho} {H:AH} {w:World} {A:Nat} {e:TypeId} {size:Nat} {dflt:List AV} {cs:T AV} {B d N:Nat} (h:HR ρ H w) (hA:H.get A=some (.cells e size dflt cs)) (hx:ρ A=some (B,d,N)) :
 ∃c fr,w.heap[B]? =some (.cells c e fr)/\FrOk fr c.size/\c.size=N/\d+size<=c.size/\
  (∀(i:Nat) (v:AV),cellAt size dflt cs i=some v->∃v':Value,c[d+i]? =some v'/\VR ρ v v'/\v.one=true):=by
 rcases h.live _ _ hA with ⟨x,hx',hb⟩ | hv
 · rw [hx] at hx';simp at hx';subst hx'
   exact hb
 · exact hv.1.elim
theorem HR.readN {P:Program} {ρ:Rho} {H:AH} {w:World} {A o n:Nat} {e:TypeId} {size:Nat} {dflt:List AV} {cs:T AV} {B d N:Nat} {l:List AV} (h:HR ρ H w) (hA:H.get A=some (.cells e size dflt cs))
 (hx:ρ A=some (B,d,N)) (hr:readN size dflt cs o n=some l):∃vs:List Value,VRs ρ l vs/\allOne l=true/\(loadCells ⟨B,d+o,none⟩ n).run P w=.ok vs.toArray w:=by
 obtain ⟨c,fr,h1,_,_,_,h4⟩:=h.row hA hx
 obtain ⟨vs,g1,g2,g3⟩:=run_readN (P:=P) h1 h4 n o 0 #[] l hr
 exact ⟨vs,g1,g2,by simpa [loadCells] using g3⟩
noncomputable def oLoad (P:Program) (H:AH) (t:TypeId) (a:AV):Option AV:=
 match a with
 | .p A o=>match H.get A with
   | some (.cells _ size dflt cs)=>match aggB P t with
     | some true=>ob (infoSize P t) fun n=>ob (readN size dflt cs o n) fun l=>some (.agg l)
     | some false=>cellAt size dflt cs o
     | none=>none
   | _=>none
 | _=>none
theorem oLoad_sound {P:Program} {H:AH} {t:TypeId} {a v:AV} {ρ:Rho} {w:World} {a':Value} (h:oLoad P H t a=some v) (hh:HR ρ H w) (ha:VR ρ a a'):GoesV P (Instr.loadAt t a') v H ρ H w:=by
 unfold oLoad at h
 split at h
 · rename_i A o
   split at h
   · rename_i e size dflt cs hA
     cases ha with
     | p A o B d N hx=>
     split at h
     · rename_i hg
       simp only [ob_some] at h
       obtain ⟨n,hn,l,hl,e⟩:=h
       simp at e;subst e
       obtain ⟨vs,g1,g2,g3⟩:=hh.readN (P:=P) hA hx hl
       refine GoesV.pure hh (.agg _ _ g1) ?_
       simp [Instr.loadAt,Instr.sureAddr,loadVar,run_isAgg' hg,run_sizeOf' hn,g3]
     · rename_i hg
       obtain ⟨c,fr,h1,_,_,_,h4⟩:=hh.row hA hx
       obtain ⟨v',k1,k2,k3⟩:=h4 _ _ h
       refine GoesV.pure hh k2 ?_
       simp [Instr.loadAt,Instr.sureAddr,loadVar,run_isAgg' hg,cell?_of_heap h1,k1]
     · simp at h
   · simp at h
 · simp at h
noncomputable def setAll (cs:T AV) (o:Nat) (l:List AV):T AV:=
 List.rec (motive:=fun _=>T AV->Nat->T AV) (fun cs _=>cs) (fun v _ ih cs o=>ih (cs.set o (some v)) (Nat.succ o)) l cs o
theorem setAll_nil (cs:T AV) (o:Nat):setAll cs o []=cs:=rfl
theorem setAll_cons (cs:T AV) (o:Nat) (v:AV) (r:List AV):setAll cs o (v :: r)=setAll (cs.set o (some v)) (o+1) r:=rfl
theorem setAll_get:∀(l:List AV) (cs:T AV) (o j:Nat),(setAll cs o l).get j=if o<=j/\j<o+l.length then l[j-o]? else cs.get j
 | [],cs,o,j=>by simp [setAll_nil];intro h;omega
 | v :: r,cs,o,j=>by
   simp only [setAll_cons]
   rw [setAll_get r _ (o+1) j,T.get_set]
   simp only [List.length_cons]
   by_cases hj:j=o
   · subst hj;simp;omega
   · by_cases h1:o+1<=j/\j<o+1+r.length
     · rw [if_pos h1,if_pos (by omega),show j-o=(j-(o+1))+1 by omega];simp
     · rw [if_neg h1,if_neg hj,if_neg (by omega)]
theorem VRs.mem_one {ρ:Rho}:∀{l:List AV} {vs:List Value},VRs ρ l vs->allOne l=true->∀v∈vs,v.oneCell'=true
 | _,_,.nil,_,v,hv=>by simp at hv
 | _,_,.cons x x' r r' hx hr,ho,v,hv=>by
   have h1:x.one=true:=allOne_mem ho x (by simp)
   have h2:allOne r=true:=by simpa [allOne_cons,h1] using ho
   cases hv with
   | head=>exact hx.one h1
   | tail _ hm=>exact VRs.mem_one hr h2 v hm
theorem HR.store {P:Program} {ρ:Rho} {H:AH} {w:World} {A o:Nat} {e:TypeId} {size:Nat} {dflt:List AV} {cs:T AV} {B d N:Nat} {l:List AV} {vs:List Value} (h:HR ρ H w)
 (hA:H.get A=some (.cells e size dflt cs)) (hx:ρ A=some (B,d,N)) (hv:VRs ρ l vs) (ho:allOne l=true) (hn:o+l.length<=size) :
 ∃w',(storeCells ⟨B,d+o,none⟩ vs).run P w=.ok () w'/\HR ρ (H.upd A (some (.cells e size dflt (setAll cs o l)))) w'/\Ext ρ H w ρ (H.upd A (some (.cells e size dflt (setAll cs o l)))) w':=by
 obtain ⟨c,fr,h1,h2,h3,hs,h4⟩:=h.row hA hx
 have hB:=h.range _ _ hx
 simp at hB
 have hl:=hv.length
 refine ⟨_,run_storeCells (P:=P) vs 0 c w h1 h2 (by omega) (hv.mem_one ho),?_⟩
 refine h.upd hA hx ?_ ?_ (by simp [World.putRow]) rfl rfl rfl
 · refine ⟨setL c (d+o+0) vs,fr,by rw [putRow_get hB];simp,by simpa [setL_size] using h2,by simpa [setL_size] using h3,by simpa [setL_size] using hs,?_⟩
   intro i v hi
   have hsz:(c.size)=N:=h3
   unfold cellAt at hi
   rw [setAll_get] at hi
   cases hlt:Nat.blt i size with
   | false=>rw [hlt] at hi;simp at hi
   | true=>
     have hlt':i<size:=by simpa [Nat.blt_eq] using hlt
     rw [hlt] at hi
     show ∃v',(setL c (d+o+0) vs)[d+i]? =some v'/\VR ρ v v'/\v.one=true
     rw [setL_get vs c _ _ (by omega)]
     by_cases hin:o<=i/\i<o+l.length
     · rw [if_pos hin] at hi
       rw [if_pos (by omega),show d+i-(d+o+0)=i-o by omega]
       have hg:l[i-o]? =some v:=by
        rw [List.getElem?_eq_getElem (by omega)] at hi⊢
        simpa using hi
       obtain ⟨v',k1,k2⟩:=hv.get? _ _ hg
       exact ⟨v',k1,k2,allOne_mem ho v (List.mem_of_getElem? hg)⟩
     · rw [if_neg hin] at hi
       rw [if_neg (by omega)]
       exact h4 i v (by unfold cellAt;rw [hlt];exact hi)
 · intro C hC
   rw [putRow_get hB,if_neg hC]
noncomputable def oStore (P:Program) (H:AH) (t:TypeId) (a x:AV):Option AH:=
 match a with
 | .p A o=>match H.get A with
   | some (.cells e size dflt cs)=>ob (infoSize P t) fun n=>
      og (Nat.beq x.cells.length n) (og (allOne x.cells) (og (Nat.ble (o+x.cells.length) size) (some (H.upd A (some (.cells e size dflt (setAll cs o x.cells)))))))
   | _=>none
 | _=>none
theorem oStore_sound {P:Program} {H H':AH} {t:TypeId} {a x:AV} {ρ:Rho} {w:World} {a' x':Value} (h:oStore P H t a x=some H') (hh:HR ρ H w) (ha:VR ρ a a') (hx:VR ρ x x') :
 GoesU P (Instr.storeAt t a' x') H' ρ H w:=by
 unfold oStore at h
 split at h
 · rename_i A o
   split at h
   · rename_i e size dflt cs hA
     cases ha with
     | p A o B d N hr=>
     simp only [ob_some,og_some] at h
     obtain ⟨n,hn,h1,h2,h3,e⟩:=h
     simp at e;subst e
     have hc:=hx.cells
     have hl:=hc.length
     have h1':=Nat.eq_of_beq_eq_true h1
     obtain ⟨w',g1,g2,g3⟩:=hh.store (P:=P) hA hr hc h2 (Nat.le_of_ble_eq_true h3)
     refine ⟨ρ,w',?_,g2,g3⟩
     have hsz:x'.cells.size=n:=by rw [<-h1',hl];simp
     simp [Instr.storeAt,Instr.sureAddr,storeVar,run_sizeOf' hn,hsz,g1]
   · simp at h
 · simp at h
end Go.Sim
/- The operations, continued: making rows, addresses, parts, comparisons, sums. -/
namespace Go.Sim
open Go
theorem HR.newCells {ρ:Rho} {H:AH} {w:World} {t:TypeId} {size:Nat} {dflt:List AV} {cs:T AV} {c:Array Value} (h:HR ρ H w) (hf:ρ H.next=none) (hs:size<=c.size)
 (hc:∀(i:Nat) (v:AV),cellAt size dflt cs i=some v->∃v':Value,c[i]? =some v'/\VR ρ v v'/\v.one=true) :
 HR (ρ.add H.next (w.heap.size,0,c.size)) (H.new (.cells t size dflt cs)) { w with heap:=w.heap.push (.cells c t)}/\
  Ext ρ H w (ρ.add H.next (w.heap.size,0,c.size)) (H.new (.cells t size dflt cs)) { w with heap:=w.heap.push (.cells c t)}:=by
 refine h.new hf ?_ ?_ (by simp) rfl rfl rfl
 · refine ⟨c,(0,0),by simp,.inl rfl,rfl,by simpa using hs,?_⟩
   intro i v hv
   obtain ⟨v',a,b,c⟩:=hc i v hv
   exact ⟨v',by simpa using a,b.mono (Rho.add_le hf),c⟩
 · intro B hB
   simp [Array.getElem?_push,Nat.ne_of_lt hB]
theorem cellAt_list {l:List AV} {i:Nat} {v:AV} (h:cellAt l.length [] (setAll .e 0 l) i=some v):l[i]? =some v:=by
 unfold cellAt at h
 cases hlt:Nat.blt i l.length with
 | false=>rw [hlt] at h;simp at h
 | true=>
   have hlt':i<l.length:=by simpa [Nat.blt_eq] using hlt
   rw [hlt,setAll_get] at h
   simp only [Nat.zero_le,true_and,Nat.zero_add,Nat.sub_zero,hlt',if_true] at h
   rw [List.getElem?_eq_getElem hlt'] at h⊢
   simpa using h
theorem HR.newList {ρ:Rho} {H:AH} {w:World} {t:TypeId} {l:List AV} {vs:List Value} (h:HR ρ H w) (hf:ρ H.next=none) (hv:VRs ρ l vs) (ho:allOne l=true) :
 HR (ρ.add H.next (w.heap.size,0,l.length)) (H.new (.cells t l.length [] (setAll .e 0 l))) { w with heap:=w.heap.push (.cells vs.toArray t)}/\
  Ext ρ H w (ρ.add H.next (w.heap.size,0,l.length)) (H.new (.cells t l.length [] (setAll .e 0 l))) { w with heap:=w.heap.push (.cells vs.toArray t)}:=by
 have hl:=hv.length
 have:=h.newCells (t:=t) (size:=l.length) (dflt:=[]) (cs:=setAll .e 0 l) (c:=vs.toArray) hf (by simp [hl]) (fun i v hi=>by
  have:=cellAt_list hi
  obtain ⟨v',a,b⟩:=hv.get? _ _ this
  exact ⟨v',by simpa using a,b,allOne_mem ho v (List.mem_of_getElem? this)⟩)
 simpa [hl] using this
noncomputable def newList (H:AH) (t:TypeId) (l:List AV):AH:=H.new (.cells t l.length [] (setAll .e 0 l))
noncomputable def oBox (H:AH) (t:TypeId) (v:AV):Option (AV×AH):=
 og (allOne v.cells) (some (.p H.next 0,newList H t v.cells))
theorem oBox_sound {P:Program} {H H':AH} {t:TypeId} {v r:AV} {ρ:Rho} {w:World} {v':Value} (h:oBox H t v=some (r,H')) (hh:HR ρ H w) (hf:Fresh ρ H H'.next) (hv:VR ρ v v') :
 GoesV P (Instr.box t v') r H' ρ H w:=by
 simp only [oBox,og_some] at h
 obtain ⟨ho,e⟩:=h
 simp at e;obtain ⟨rfl,rfl⟩:=e
 obtain ⟨g1,g2⟩:=hh.newList (t:=t) (hf _ (Nat.le_refl _) (Nat.lt_succ_self _)) hv.cells ho
 refine ⟨.pointer (some ⟨w.heap.size,0,none⟩),_,_,?_,?_,g1,g2⟩
 · simp [Instr.box,newVar,newRow,newObj,Sem.run]
 · have:=VR.p (ρ:=ρ.add H.next (w.heap.size,0,v.cells.length)) H.next 0 w.heap.size 0 _ (Rho.add_same _ _ _)
   simpa using this
noncomputable def oAlloc (P:Program) (H:AH) (t:TypeId):Option (AV×AH):=
 ob (zeroCellsOf P t) fun z=>some (.p H.next 0,H.new (.cells t z.length z .e))
theorem cellAt_pat {n:Nat} {z:List AV} {i:Nat} {v:AV} (h:cellAt n z .e i=some v):i<n/\z[i % z.length]? =some v:=by
 unfold cellAt at h
 cases hlt:Nat.blt i n with
 | false=>rw [hlt] at h;simp at h
 | true=>rw [hlt] at h;simp [T.get_e] at h;exact ⟨by simpa [Nat.blt_eq] using hlt,h⟩
theorem oAlloc_sound {P:Program} {H H':AH} {t:TypeId} {r:AV} {ρ:Rho} {w:World} (h:oAlloc P H t=some (r,H')) (hh:HR ρ H w) (hf:Fresh ρ H H'.next) :
 GoesV P (Instr.alloc t true (.tuple #[])) r H' ρ H w:=by
 simp only [oAlloc,ob_some] at h
 obtain ⟨z,hz,e⟩:=h
 simp at e;obtain ⟨rfl,rfl⟩:=e
 obtain ⟨zv,h1,h2,h3⟩:=run_zero (ρ:=ρ) (w:=w) hz
 obtain ⟨g1,g2⟩:=hh.newCells (t:=t) (size:=z.length) (dflt:=z) (cs:=.e) (c:=zv.cells) (hf _ (Nat.le_refl _) (Nat.lt_succ_self _)) (by have:=h2.length;simp at this;omega) (fun i v hi=>by
  obtain ⟨a,b⟩:=cellAt_pat hi
  rw [Nat.mod_eq_of_lt a] at b
  obtain ⟨v',c,d⟩:=h2.get? _ _ b
  exact ⟨v',by simpa using c,d,allOne_mem h3 v (List.mem_of_getElem? b)⟩)
 refine ⟨.pointer (some ⟨w.heap.size,0,none⟩),_,_,?_,?_,g1,g2⟩
 · simp [Instr.alloc,newVar,newRow,newObj,Sem.run,h1]
 · have:=VR.p (ρ:=ρ.add H.next (w.heap.size,0,zv.cells.size)) H.next 0 w.heap.size 0 _ (Rho.add_same _ _ _)
   simpa using this
noncomputable def putAt:List AV->Nat->List AV->List AV
 | cs,_,[]=>cs
 | [],_,_ :: _=>[]
 | _ :: cs,0,v :: vs=>v :: putAt cs 0 vs
 | c :: cs,o+1,v :: vs=>c :: putAt cs o (v :: vs)
theorem putAt_get:∀(cs:List AV) (o:Nat) (l:List AV) (j:Nat),(putAt cs o l)[j]? =if o<=j/\j<o+l.length/\j<cs.length then l[j-o]? else cs[j]?
 | cs,o,[],j=>by simp [putAt];intro h1 h2;omega
 | [],o,v :: vs,j=>by simp [putAt]
 | c :: cs,0,v :: vs,j=>by
   cases j with
   | zero=>simp [putAt]
   | succ j=>simp [putAt,putAt_get cs 0 vs j]
 | c :: cs,o+1,v :: vs,j=>by
   cases j with
   | zero=>simp [putAt]
   | succ j=>
     simp only [putAt,List.getElem?_cons_succ,putAt_get cs o (v :: vs) j,List.length_cons]
     by_cases h:o<=j/\j<o+(vs.length+1)/\j<cs.length
     · rw [if_pos h,if_pos (by omega),show j+1-(o+1)=j-o by omega]
     · rw [if_neg h,if_neg (by omega)]
theorem putAt_length:∀(cs:List AV) (o:Nat) (l:List AV),(putAt cs o l).length=cs.length
 | cs,o,[]=>by cases cs<;>simp [putAt]
 | [],o,v :: vs=>rfl
 | c :: cs,0,v :: vs=>by simp [putAt,putAt_length cs 0 vs]
 | c :: cs,o+1,v :: vs=>by simp [putAt,putAt_length cs o (v :: vs)]
theorem VRs.of_get {ρ:Rho}:∀{l:List AV} {vs:List Value},l.length=vs.length->(∀(i:Nat) (v:AV),l[i]? =some v->∃v':Value,vs[i]? =some v'/\VR ρ v v')->VRs ρ l vs
 | [],[],_,_=>.nil
 | [],_ :: _,h,_=>by simp at h
 | _ :: _,[],h,_=>by simp at h
 | v :: l,v' :: vs,h,hg=>by
   obtain ⟨u,h1,h2⟩:=hg 0 v (by simp)
   simp at h1;subst h1
   exact .cons _ _ _ _ h2 (VRs.of_get (by simpa using h) fun i x hx=>by
    obtain ⟨y,a,b⟩:=hg (i+1) x (by simpa using hx)
    exact ⟨y,by simpa using a,b⟩)
theorem zipIdx_setL:∀(l:List Value) (k o:Nat) (c:Array Value),(l.zipIdx k).foldl (fun (cs:Array Value) (p:Value×Nat)=>cs.setIfInBounds (o+p.2) p.1) c=setL c (o+k) l
 | [],_,_,_=>rfl
 | v :: r,k,o,c=>by
   simp only [List.zipIdx_cons,List.foldl_cons,setL]
   rw [zipIdx_setL r (k+1) o]
   rfl
noncomputable def fillA (place:Nat->Option (Nat×Nat)) (tm:T AV):List AV->List (Nat×Operand)->Option (List AV)
 | cs,[]=>some cs
 | cs,(i,x) :: r=>ob (evalO tm x) fun v=>ob (place i) fun p=>
    og (Nat.beq v.cells.length p.2) (og (Nat.ble (p.1+v.cells.length) cs.length) (og (allOne v.cells) (fillA place tm (putAt cs p.1 v.cells) r)))
theorem fillA_sound {ρ:Rho} {tm:T AV} {n:Nat} {a:Act} (ht:TR ρ tm n a.tmps) {place:Nat->Option (Nat×Nat)}:∀(parts:List (Nat×Operand)) (cs l:List AV) (c:Array Value),VRs ρ cs c.toList->allOne cs=true->
 fillA place tm cs parts=some l->∃c',Instr.fill place c (parts.map fun p=>(p.1,a.eval p.2))=some c'/\VRs ρ l c'.toList/\allOne l=true
 | [],cs,l,c,hv,ho,h=>by simp [fillA] at h;subst h;exact ⟨c,rfl,hv,ho⟩
 | (i,x) :: r,cs,l,c,hv,ho,h=>by
   simp only [fillA,ob_some,og_some] at h
   obtain ⟨v,hx,p,hp,h1,h2,h3,h4⟩:=h
   have hxv:=evalO_VR ht hx
   have hc:=hxv.cells
   have hl:=hc.length
   have hcl:=hv.length
   have h1':=Nat.eq_of_beq_eq_true h1
   have h2':=Nat.le_of_ble_eq_true h2
   have hsz:(a.eval x).cells.size=v.cells.length:=by simp at hl;omega
   have hcsz:c.size=cs.length:=by simp at hcl;omega
   obtain ⟨c',g1,g2,g3⟩:=fillA_sound ht r (putAt cs p.1 v.cells) l (setL c p.1 (a.eval x).cells.toList) (by
    refine VRs.of_get (by simp [putAt_length,setL_size,hcl]) ?_
    intro j u hj
    rw [putAt_get] at hj
    have:=setL_get (a.eval x).cells.toList c p.1 j (by simp;omega)
    simp only [Array.getElem?_toList]
    rw [this]
    by_cases hin:p.1<=j/\j<p.1+v.cells.length/\j<cs.length
    · rw [if_pos hin] at hj
      rw [if_pos (by simp;omega)]
      exact hc.get? _ _ hj
    · rw [if_neg hin] at hj
      rw [if_neg (by simp;omega)]
      have:=hv.get? _ _ hj
      simpa using this) (by
    have key:∀u∈putAt cs p.1 v.cells,u.one=true:=by
     intro u hu
     obtain ⟨j,hj⟩:=List.getElem?_of_mem hu
     rw [putAt_get] at hj
     split at hj
     · exact allOne_mem h3 u (List.mem_of_getElem? hj)
     · exact allOne_mem ho u (List.mem_of_getElem? hj)
    have mk:∀l:List AV,(∀u∈l,u.one=true)->allOne l=true:=by
     intro l
     induction l with
     | nil=>intro _;rfl
     | cons y ys ih=>intro hm;simp [allOne_cons,hm y (by simp),ih fun u hu=>hm u (by simp [hu])]
    exact mk _ key) h4
   refine ⟨c',?_,g2,g3⟩
   simp only [List.map_cons,Instr.fill,hp]
   rw [if_neg (by simp only [Bool.or_eq_true,bne_iff_ne,decide_eq_true_eq];omega)]
   rw [<-Array.foldl_toList,Array.toList_zipIdx,zipIdx_setL]
   simpa using g1
noncomputable def structPlace (P:Program) (fs:Array Field) (i:Nat):Option (Nat×Nat):=
 match fs[i]? with
 | some f=>ob (infoSize P f.type) fun n=>some (f.offset,n)
 | none=>none
noncomputable def allInfo (P:Program):List Field->Bool
 | []=>true
 | f :: r=>match infoSize P f.type with
   | some _=>allInfo P r
   | none=>false
theorem run_places {P:Program} {w:World}:∀(fs:List Field),allInfo P fs=true->
 ∃l:List (Nat×Nat),(fs.mapM fun f=>do pure (f.offset,<-sizeOf f.type):Sem (List (Nat×Nat))).run P w=.ok l w/\∀i,l[i]? =structPlace P fs.toArray i
 | [],_=>⟨[],by simp,fun i=>by simp [structPlace]⟩
 | f :: r,h=>by
   unfold allInfo at h
   split at h
   · rename_i n hn
     obtain ⟨l,h1,h2⟩:=run_places (w:=w) r h
     refine ⟨(f.offset,n) :: l,?_,?_⟩
     · rw [List.mapM_cons]
       simp only [Sem.run_bind,run_sizeOf' hn,Result.andThen_ok,Sem.run_pure,h1]
     · intro i
       cases i with
       | zero=>simp [structPlace,hn,ob]
       | succ i=>simpa [structPlace] using h2 i
   · simp at h
noncomputable def oBuild (P:Program) (tm:T AV) (t:TypeId) (parts:Array (Nat×Operand)):Option AV:=
 match P.underlying t with
 | some (.struct fs)=>og (allInfo P fs.toList) (ob (zeroCellsOf P t) fun z=>ob (fillA (structPlace P fs) tm z parts.toList) fun l=>some (.agg l))
 | some (.array _ e)=>ob (infoSize P e) fun n=>ob (zeroCellsOf P t) fun z=>ob (fillA (fun i=>some (i*n,n)) tm z parts.toList) fun l=>some (.agg l)
 | _=>none
theorem oBuild_sound {P:Program} {H:AH} {tm:T AV} {n:Nat} {a:Act} {t:TypeId} {parts:Array (Nat×Operand)} {r:AV} {ρ:Rho} {w:World} (ht:TR ρ tm n a.tmps) (h:oBuild P tm t parts=some r) (hh:HR ρ H w) :
 GoesV P (Instr.build t (parts.map fun (i,x)=>(i,a.eval x))) r H ρ H w:=by
 unfold oBuild at h
 split at h
 · rename_i fs hu
   simp only [og_some,ob_some] at h
   obtain ⟨h0,z,hz,l,hl,e⟩:=h
   simp at e;subst e
   obtain ⟨zv,z1,z2,z3⟩:=run_zero (ρ:=ρ) (w:=w) hz
   obtain ⟨c',g1,g2,g3⟩:=fillA_sound ht parts.toList z l zv.cells z2 z3 hl
   obtain ⟨pl,p1,p2⟩:=run_places (P:=P) (w:=w) fs.toList h0
   refine GoesV.pure hh (.agg _ _ g2) ?_
   have hp:(fun i=>pl.toArray[i]?)=structPlace P fs:=by funext i;simpa using p2 i
   have hm:(parts.map fun (i,x)=>(i,a.eval x)).toList=parts.toList.map fun p=>(p.1,a.eval p.2):=by simp
   simp only [Instr.build,Sem.run_bind,z1,Result.andThen_ok,run_underlying' hu,Array.mapM_eq_mapM_toList,Sem.run_map,p1,hm]
   simp only [hp,g1,Sem.run_pure]
 · rename_i k e hu
   simp only [og_some,ob_some] at h
   obtain ⟨m,hm',z,hz,l,hl,e⟩:=h
   simp at e;subst e
   obtain ⟨zv,z1,z2,z3⟩:=run_zero (ρ:=ρ) (w:=w) hz
   obtain ⟨c',g1,g2,g3⟩:=fillA_sound ht parts.toList z l zv.cells z2 z3 hl
   refine GoesV.pure hh (.agg _ _ g2) ?_
   have hm:(parts.map fun (i,x)=>(i,a.eval x)).toList=parts.toList.map fun p=>(p.1,a.eval p.2):=by simp
   simp only [Instr.build,Sem.run_bind,z1,Result.andThen_ok,run_underlying' hu,run_sizeOf' hm',hm,g1,Sem.run_pure]
 · simp at h
end Go.Sim
/- The operations, continued: slices, addresses and parts. -/
namespace Go.Sim
open Go
theorem allOne_of {l:List AV} (h:∀u∈l,u.one=true):allOne l=true:=by
 induction l with
 | nil=>rfl
 | cons y ys ih=>simp [allOne_cons,h y (by simp),ih fun u hu=>h u (by simp [hu])]
theorem allOne_append {a b:List AV} (ha:allOne a=true) (hb:allOne b=true):allOne (a ++ b)=true:=
 allOne_of fun u hu=>by
  rcases List.mem_append.1 hu with h | h
  · exact allOne_mem ha u h
  · exact allOne_mem hb u h
noncomputable def rep (z:List AV):Nat->List AV
 | 0=>[]
 | n+1=>z ++ rep z n
theorem rep_length (z:List AV):∀n,(rep z n).length=n*z.length
 | 0=>by simp [rep]
 | n+1=>by simp [rep,rep_length z n,Nat.add_mul,Nat.add_comm]
theorem rep_one {z:List AV} (h:allOne z=true):∀n,allOne (rep z n)=true
 | 0=>rfl
 | n+1=>allOne_append h (rep_one h n)
theorem rep_get (z:List AV):∀(n i:Nat),i<n*z.length->(rep z n)[i]? =z[i % z.length]?
 | 0,i,h=>by simp at h
 | n+1,i,h=>by
   simp only [rep]
   by_cases hi:i<z.length
   · rw [List.getElem?_append_left hi,Nat.mod_eq_of_lt hi]
   · have hz:0<z.length:=by
      rcases Nat.eq_zero_or_pos z.length with h0 | h0
      · rw [h0] at h;simp at h
      · exact h0
     rw [List.getElem?_append_right (by omega),rep_get z n (i-z.length) (by rw [Nat.add_mul] at h;omega)]
     rw [<-Nat.mod_eq_sub_mod (by omega)]
theorem zeros_get {ρ:Rho} {z:List AV} {zv:Array Value} (hz:VRs ρ z zv.toList) (n i:Nat) (v:AV) (hi:i<n) (h:z[i % z.length]? =some v) :
 ∃v':Value,((Array.range n).map (zv[· % zv.size]!))[i]? =some v'/\VR ρ v v':=by
 have hl:=hz.length
 simp at hl
 obtain ⟨v',a,b⟩:=hz.get? _ _ h
 refine ⟨v',?_,b⟩
 rw [hl] at a
 simp only [Array.getElem?_toList] at a
 simp [hi,getElem!_def,a]
theorem zeros_VRs {ρ:Rho} {z:List AV} {zv:Array Value} (hz:VRs ρ z zv.toList) (n:Nat):VRs ρ (rep z n) ((Array.range (n*zv.size)).map (zv[· % zv.size]!)).toList:=by
 have hl:=hz.length
 simp at hl
 refine VRs.of_get (by simp [rep_length,hl]) ?_
 intro i v hi
 have hlt:i<n*z.length:=by
  have:=(List.getElem?_eq_some_iff.1 hi).1
  simpa [rep_length] using this
 rw [rep_get z n i hlt] at hi
 rw [hl] at hlt
 obtain ⟨v',a,b⟩:=zeros_get hz (n*zv.size) i v hlt hi
 exact ⟨v',by rw [Array.getElem?_toList];exact a,b⟩
noncomputable def oBuildSlice (P:Program) (H:AH) (tm:T AV) (t:TypeId) (len:Nat) (parts:Array (Nat×Operand)):Option (AV×AH):=
 match P.underlying t with
 | some (.slice e)=>ob (zeroCellsOf P e) fun z=>ob (infoSize P e) fun n=>og (Nat.beq z.length n) (og (Nat.ble (len*n) 16777216) (og (Nat.blt 0 n)
    (ob (fillA (fun i=>some (i*n,n)) tm (rep z len) parts.toList) fun l=>some (.l H.next 0 len len n true,newList H e l))))
 | _=>none
theorem VR.slice0 {ρ:Rho} {A B N len cap sz:Nat} (ex:Bool) (h:ρ A=some (B,0,N)) (hl:len<=cap) (hn:cap*sz<=N):VR ρ (.l A 0 len cap sz ex) (.slice (some ⟨B,0,none⟩) len cap):=by
 have:=VR.l (ρ:=ρ) A 0 len cap sz ex B 0 N cap h (Nat.le_refl _) (fun _=>rfl) (by omega) hl
 simpa using this
theorem fillA_length {place:Nat->Option (Nat×Nat)} {tm:T AV}:∀(parts:List (Nat×Operand)) (cs l:List AV),fillA place tm cs parts=some l->l.length=cs.length
 | [],cs,l,h=>by simp [fillA] at h;subst h;rfl
 | (i,x) :: r,cs,l,h=>by
   simp only [fillA,ob_some,og_some] at h
   obtain ⟨v,hx,p,hp,h1,h2,h3,h4⟩:=h
   rw [fillA_length r _ _ h4,putAt_length]
theorem oBuildSlice_sound {P:Program} {H H':AH} {tm:T AV} {n:Nat} {a:Act} {t:TypeId} {len:Nat} {parts:Array (Nat×Operand)} {r:AV} {ρ:Rho} {w:World} (ht:TR ρ tm n a.tmps)
 (h:oBuildSlice P H tm t len parts=some (r,H')) (hh:HR ρ H w) (hf:Fresh ρ H H'.next) :
 GoesV P (Instr.buildSlice t len (parts.map fun (i,x)=>(i,a.eval x))) r H' ρ H w:=by
 unfold oBuildSlice at h
 split at h
 · rename_i e hu
   simp only [ob_some,og_some] at h
   obtain ⟨z,hz,m,hm,h1,h2,h3,l,hl,e'⟩:=h
   simp at e';obtain ⟨rfl,rfl⟩:=e'
   have h1':=Nat.eq_of_beq_eq_true h1
   have h2':=Nat.le_of_ble_eq_true h2
   have h3':0<m:=by simpa [Nat.blt_eq] using h3
   obtain ⟨zv,z1,z2,z3⟩:=run_zero (ρ:=ρ) (w:=w) hz
   have hzl:=z2.length
   simp at hzl
   have hrep:=zeros_VRs z2 len
   obtain ⟨c',g1,g2,g3⟩:=fillA_sound ht parts.toList (rep z len) l _ hrep (rep_one z3 len) hl
   have hlen:=fillA_length _ _ _ hl
   rw [rep_length] at hlen
   obtain ⟨k1,k2⟩:=hh.newList (t:=e) (hf _ (Nat.le_refl _) (Nat.lt_succ_self _)) g2 g3
   refine ⟨.slice (some ⟨w.heap.size,0,none⟩) len len,_,_,?_,?_,k1,k2⟩
   · have hmm:(parts.map fun (i,x)=>(i,a.eval x)).toList=parts.toList.map fun p=>(p.1,a.eval p.2):=by simp
     simp only [Instr.buildSlice,Sem.run_bind,run_underlying' hu,Result.andThen_ok,run_sizeOf' hm,hmm]
     have hzm:zv.cells.size=m:=by omega
     rw [hzm] at g1
     rw [if_neg (by omega)]
     by_cases h0:len*m=0
     · rw [if_pos h0]
       have hlen0:len=0:=by
        rcases Nat.eq_zero_or_pos len with h | h
        · exact h
        · exact absurd h0 (Nat.ne_of_gt (Nat.mul_pos h h3'))
       subst hlen0
       simp only [Sem.run_bind,Sem.run_pure,Result.andThen_ok]
       simp only [Nat.zero_mul,hzm] at g1⊢
       have hr0:((Array.range 0).map (fun x=>(#[]:Array Value)[x % (#[]:Array Value).size]!))=(Array.range 0).map (fun x=>zv.cells[x % m]!):=by simp
       simp only [hr0,g1]
       simp [newRow,newObj,Sem.run]
     · rw [if_neg h0]
       simp only [Sem.run_bind,z1,Result.andThen_ok,Sem.run_pure,hzm,g1]
       simp [newRow,newObj,Sem.run]
   · exact VR.slice0 true (Rho.add_same _ _ _) (Nat.le_refl _) (by rw [hlen,h1'];exact Nat.le_refl _)
 · simp at h
noncomputable def natOf:AV->Option Nat
 | .i _ (.ofNat n)=>some n
 | _=>none
theorem natOf_VR {ρ:Rho} {v:AV} {n:Nat} {v':Value} (h:natOf v=some n) (hv:VR ρ v v'):∃k,v'=.int k (Int.ofNat n):=by
 unfold natOf at h
 split at h
 · simp at h;subst h;cases hv;exact ⟨_,rfl⟩
 · simp at h
noncomputable def oMakeSlice (P:Program) (H:AH) (t:TypeId) (l c:AV):Option (AV×AH):=
 match P.underlying t with
 | some (.slice e)=>match P.info? e with
   | some ie=>ob (natOf l) fun n=>ob (natOf c) fun m=>ob (zeroCellsOf P e) fun z=>og (Nat.beq z.length ie.size) (og (Nat.blt 0 ie.size) (og (Nat.ble n m) (og (Nat.ble m 1073741824) (og (Nat.ble ie.bytes 65536)
      (some (.l H.next 0 n m ie.size true,H.new (.cells e (m*z.length) z .e)))))))
   | none=>none
 | _=>none
theorem wrap_small {n:Nat} (h:n<=4611686018427387904):IntKind.i64.wrap (Int.ofNat n)=Int.ofNat n:=by
 rw [IntWalk.i64_in];constructor<;>simp<;>omega
theorem oMakeSlice_sound {P:Program} {H H':AH} {t:TypeId} {l c r:AV} {l' c':Value} {ρ:Rho} {w:World} (h:oMakeSlice P H t l c=some (r,H')) (hh:HR ρ H w) (hf:Fresh ρ H H'.next)
 (hl:VR ρ l l') (hc:VR ρ c c'):GoesV P (Instr.makeSlice t l' c') r H' ρ H w:=by
 unfold oMakeSlice at h
 split at h
 · rename_i e hu
   split at h
   · rename_i ie hie
     simp only [ob_some,og_some] at h
     obtain ⟨n,hn,m,hm,z,hz,h1,h2,h3,h4,h5,e'⟩:=h
     simp at e';obtain ⟨rfl,rfl⟩:=e'
     obtain ⟨k,rfl⟩:=natOf_VR hn hl
     obtain ⟨k',rfl⟩:=natOf_VR hm hc
     have h1':=Nat.eq_of_beq_eq_true h1
     have h2':0<ie.size:=by simpa [Nat.blt_eq] using h2
     have h3':=Nat.le_of_ble_eq_true h3
     have h4':=Nat.le_of_ble_eq_true h4
     have h5':=Nat.le_of_ble_eq_true h5
     obtain ⟨zv,z1,z2,z3⟩:=run_zero (ρ:=ρ) (w:=w) hz
     have hzl:=z2.length
     simp at hzl
     have hprod:ie.bytes*m<=65536*1073741824:=Nat.mul_le_mul h5' h4'
     obtain ⟨g1,g2⟩:=hh.newCells (t:=e) (size:=m*z.length) (dflt:=z) (cs:=.e) (c:=(Array.range (m*ie.size)).map (zv.cells[· % zv.cells.size]!)) (hf _ (Nat.le_refl _) (Nat.lt_succ_self _)) (by simp [h1']) (fun i v hi=>by
      obtain ⟨a,b⟩:=cellAt_pat hi
      obtain ⟨v',c,d⟩:=zeros_get z2 (m*ie.size) i v (by rw [<-h1'];exact a) b
      exact ⟨v',c,d,allOne_mem z3 v (List.mem_of_getElem? b)⟩)
     refine ⟨.slice (some ⟨w.heap.size,0,none⟩) n m,_,_,?_,?_,g1,g2⟩
     · have e1:IntKind.i64.wrap (Int.ofNat m)=Int.ofNat m:=wrap_small (by omega)
       have e2:IntKind.i64.wrap (Int.ofNat n)=Int.ofNat n:=wrap_small (by omega)
       have hb:¬((ie.bytes:Int)*Int.ofNat m>2 ^ 48):=by
        have:(ie.bytes:Int)*Int.ofNat m=((ie.bytes*m:Nat):Int):=by simp
        rw [this];simp;omega
       have hcond:((decide (Int.ofNat m<0) || decide ((ie.bytes:Int)*Int.ofNat m>2 ^ 48)) || decide (Int.ofNat n<0) || decide (Int.ofNat n>Int.ofNat m))=false:=by
        simp only [Bool.or_eq_false_iff,decide_eq_false_iff_not]
        refine ⟨⟨⟨?_,hb⟩,?_⟩,?_⟩<;>simp<;>omega
       simp only [Instr.makeSlice,Sem.run_bind,run_underlying' hu,Result.andThen_ok,asInt,asIntOf,Sem.run_pure,run_typeInfo' hie,e1,e2,hcond,run_askRoom]
       have hsz:infoSize P e=some ie.size:=by simp [infoSize,hie]
       simp only [run_sizeOf' hsz,Result.andThen_ok,Bool.false_eq_true,if_false,Sem.run_pure,run_askRoom]
       have ht1:(Int.ofNat m).toNat=m:=rfl
       have ht2:(Int.ofNat n).toNat=n:=rfl
       rw [ht1,ht2]
       simp only [Sem.run_bind,run_askRoom,run_sizeOf' hsz,Result.andThen_ok]
       by_cases h0:m*ie.size=0
       · rw [if_pos h0]
         simp only [Sem.run_bind,Sem.run_pure,Result.andThen_ok]
         have hr0:Array.range 0=#[]:=rfl
         simp [newRow,newObj,Sem.run,h0,hr0]
       · rw [if_neg h0]
         simp only [Sem.run_bind,z1,Result.andThen_ok,Sem.run_pure]
         simp [newRow,newObj,Sem.run]
     · exact VR.slice0 true (Rho.add_same _ _ _) h3' (by simp)
   · simp at h
 · simp at h
noncomputable def oFieldAddr (P:Program) (t:TypeId) (x:AV) (f:Nat):Option AV:=
 match P.underlying t with
 | some (.struct fs)=>match fs[f]? with
   | some fd=>ob (infoSize P fd.type) fun n=>og (Nat.blt 0 n) (match x with
     | .p A o=>some (.p A (o+fd.offset))
     | _=>none)
   | none=>none
 | _=>none
theorem oFieldAddr_sound {P:Program} {H:AH} {t:TypeId} {x r:AV} {f:Nat} {x':Value} {ρ:Rho} {w:World} (h:oFieldAddr P t x f=some r) (hh:HR ρ H w) (hx:VR ρ x x') :
 GoesV P (Instr.fieldAt t x' f) r H ρ H w:=by
 unfold oFieldAddr at h
 split at h
 · rename_i fs hu
   split at h
   · rename_i fd hfd
     simp only [ob_some,og_some] at h
     obtain ⟨n,hn,h1,h2⟩:=h
     have h1':0<n:=by simpa [Nat.blt_eq] using h1
     split at h2
     · rename_i A o
       simp at h2;subst h2
       cases hx with
       | p A o B d N hr=>
       refine GoesV.pure hh (.p A (o+fd.offset) B d N hr) ?_
       simp only [Instr.fieldAt,Sem.run_bind,run_underlying' hu,Result.andThen_ok,hfd,Instr.sureAddr,Sem.run_pure,fieldPlace,run_sizeOf' hn]
       rw [if_neg (by omega)]
       simp [addr_add,Nat.add_assoc]
     · simp at h2
   · simp at h
 · simp at h
noncomputable def partA (P:Program) (t:TypeId) (cs:List AV) (off:Nat):Option AV:=
 match aggB P t with
 | some true=>ob (infoSize P t) fun n=>some (.agg ((cs.drop off).take n))
 | some false=>cs[off]?
 | none=>none
theorem run_part {P:Program} {t:TypeId} {cs:List AV} {cs':List Value} {off:Nat} {v:AV} {ρ:Rho} {w:World} (h:partA P t cs off=some v) (hv:VRs ρ cs cs') :
 ∃v',(part t cs'.toArray off).run P w=.ok v' w/\VR ρ v v':=by
 unfold partA at h
 split at h
 · rename_i hg
   simp only [ob_some] at h
   obtain ⟨n,hn,e⟩:=h
   simp at e;subst e
   refine ⟨.agg ((cs'.drop off).take n).toArray,?_,.agg _ _ (VRs.take n (VRs.drop off hv))⟩
   simp only [part,Sem.run_bind,run_isAgg' hg,Result.andThen_ok,if_true,run_sizeOf' hn,Sem.run_pure]
   congr 2
   apply Array.ext'
   simp [List.extract_eq_take_drop]
 · rename_i hg
   obtain ⟨v',a,b⟩:=hv.get? _ _ h
   refine ⟨v',?_,b⟩
   simp [part,run_isAgg' hg,a]
 · simp at h
noncomputable def oField (P:Program) (t:TypeId) (x:AV) (f:Nat):Option AV:=
 match P.underlying t with
 | some (.struct fs)=>match fs[f]? with
   | some fd=>match x with
     | .agg cs=>partA P fd.type cs fd.offset
     | _=>none
   | none=>none
 | _=>none
theorem oField_sound {P:Program} {H:AH} {t:TypeId} {x r:AV} {f:Nat} {x':Value} {ρ:Rho} {w:World} (h:oField P t x f=some r) (hh:HR ρ H w) (hx:VR ρ x x') :
 GoesV P (Instr.field t x' f) r H ρ H w:=by
 unfold oField at h
 split at h
 · rename_i fs hu
   split at h
   · rename_i fd hfd
     split at h
     · rename_i cs
       cases hx with
       | agg _ cs' hcs=>
       obtain ⟨v',a,b⟩:=run_part (w:=w) h hcs
       refine GoesV.pure hh b ?_
       simp only [Instr.field,Sem.run_bind,run_underlying' hu,Result.andThen_ok,hfd,asAgg,Sem.run_pure,a]
     · simp at h
   · simp at h
 · simp at h
noncomputable def oIndexAddr (P:Program) (t:TypeId) (x ix:AV):Option AV:=
 ob (natOf ix) fun i=>match P.underlying t with
 | some (.slice e)=>ob (infoSize P e) fun n=>match x with
   | .l A o len _ _ _=>og (Nat.blt i len) (some (.p A (o+i*n)))
   | _=>none
 | some (.array k e)=>ob (infoSize P e) fun n=>match x with
   | .p A o=>og (Nat.blt i k) (some (.p A (o+i*n)))
   | .ps A o sz k0 i0=>og (Nat.blt i k) (some (.ps A (o+i*n) sz k0 i0))
   | _=>none
 | _=>none
theorem oIndexAddr_sound {P:Program} {H:AH} {t:TypeId} {x ix r:AV} {x' ix':Value} {ρ:Rho} {w:World} (h:oIndexAddr P t x ix=some r) (hh:HR ρ H w) (hx:VR ρ x x') (hi:VR ρ ix ix') :
 GoesV P (Instr.indexAt t x' ix') r H ρ H w:=by
 simp only [oIndexAddr,ob_some] at h
 obtain ⟨i,hi',h⟩:=h
 obtain ⟨k,rfl⟩:=natOf_VR hi' hi
 split at h
 · rename_i e hu
   simp only [ob_some] at h
   obtain ⟨n,hn,h⟩:=h
   split at h
   · rename_i A o len cap sz ex
     simp only [og_some] at h
     obtain ⟨h1,e'⟩:=h
     simp at e';subst e'
     have h1':i<len:=by simpa [Nat.blt_eq] using h1
     cases hx with
     | l A o len cap sz ex B d N cap' hr=>
     refine GoesV.pure hh (.p A (o+i*n) B d N hr) ?_
     simp only [Instr.indexAt,asIntOf,Sem.run_bind,Sem.run_pure,Result.andThen_ok,run_underlying' hu]
     rw [if_pos (by constructor<;>simp<;>omega)]
     simp [run_sizeOf' hn,addr_add,Nat.add_assoc]
   · simp at h
 · rename_i len e hu
   simp only [ob_some] at h
   obtain ⟨n,hn,h⟩:=h
   split at h
   · rename_i A o
     simp only [og_some] at h
     obtain ⟨h1,e'⟩:=h
     simp at e';subst e'
     have h1':i<len:=by simpa [Nat.blt_eq] using h1
     cases hx with
     | p A o B d N hr=>
     refine GoesV.pure hh (.p A (o+i*n) B d N hr) ?_
     simp only [Instr.indexAt,asIntOf,Sem.run_bind,Sem.run_pure,Result.andThen_ok,run_underlying' hu,Instr.sureAddr]
     rw [if_pos (by constructor<;>simp<;>omega)]
     simp [run_sizeOf' hn,addr_add,Nat.add_assoc]
   · rename_i A o sz k0 i0
     simp only [og_some] at h
     obtain ⟨h1,e'⟩:=h
     simp at e';subst e'
     have h1':i<len:=by simpa [Nat.blt_eq] using h1
     cases hx with
     | ps A o sz k0 i0 B d N hr=>
     refine GoesV.pure hh (.ps A (o+i*n) sz k0 i0 B d N hr) ?_
     simp only [Instr.indexAt,asIntOf,Sem.run_bind,Sem.run_pure,Result.andThen_ok,run_underlying' hu,Instr.sureAddr]
     rw [if_pos (by constructor<;>simp<;>omega)]
     simp [run_sizeOf' hn,addr_add]
     omega
   · simp at h
 · simp at h
noncomputable def oIndex (P:Program) (t:TypeId) (x ix:AV):Option AV:=
 ob (natOf ix) fun i=>match P.underlying t with
 | some (.array k e)=>ob (infoSize P e) fun n=>match x with
   | .agg cs=>og (Nat.blt i k) (partA P e cs (i*n))
   | _=>none
 | some .string=>match x with
   | .s l=>match l[i]? with
     | some b=>some (.i .u8 (.ofNat b))
     | none=>none
   | _=>none
 | _=>none
theorem oIndex_sound {P:Program} {H:AH} {t:TypeId} {x ix r:AV} {x' ix':Value} {ρ:Rho} {w:World} (h:oIndex P t x ix=some r) (hh:HR ρ H w) (hx:VR ρ x x') (hi:VR ρ ix ix') :
 GoesV P (Instr.index t x' ix') r H ρ H w:=by
 simp only [oIndex,ob_some] at h
 obtain ⟨i,hi',h⟩:=h
 obtain ⟨k,rfl⟩:=natOf_VR hi' hi
 split at h
 · rename_i len e hu
   simp only [ob_some] at h
   obtain ⟨n,hn,h⟩:=h
   split at h
   · rename_i cs
     simp only [og_some] at h
     obtain ⟨h1,h2⟩:=h
     have h1':i<len:=by simpa [Nat.blt_eq] using h1
     cases hx with
     | agg _ cs' hcs=>
     obtain ⟨v',a,b⟩:=run_part (w:=w) h2 hcs
     refine GoesV.pure hh b ?_
     simp only [Instr.index,asIntOf,Sem.run_bind,Sem.run_pure,Result.andThen_ok,run_underlying' hu]
     rw [if_pos (by constructor<;>simp<;>omega)]
     simpa [run_sizeOf' hn] using a
   · simp at h
 · rename_i hu
   split at h
   · rename_i l
     split at h
     · rename_i b hb
       simp at h;subst h
       cases hx with
       | s _ s hs=>
       have hg:s[i]? =some (UInt8.ofNat b)/\(UInt8.ofNat b).toNat=b:=by
        rw [<-hs] at hb
        simp only [List.getElem?_map,Option.map_eq_some_iff] at hb
        obtain ⟨u,hu1,hu2⟩:=hb
        subst hu2
        have hlt:=(List.getElem?_eq_some_iff.1 hu1)
        obtain ⟨q1,q2⟩:=hlt
        have hsz:i<s.size:=by simpa using q1
        refine ⟨?_,by simp⟩
        rw [getElem?_pos s i hsz]
        simp only [Option.some.injEq,UInt8.ofNat_toNat]
        rw [<-q2];rfl
       refine GoesV.pure hh (.i .u8 (Int.ofNat b)) ?_
       simp only [Instr.index,asIntOf,Sem.run_bind,Sem.run_pure,Result.andThen_ok,run_underlying' hu]
       rw [if_pos (by simp)]
       have:(Int.ofNat i).toNat=i:=rfl
       rw [this,hg.1]
       simp [hg.2]
     · simp at h
   · simp at h
 · simp at h
noncomputable def oExtract (t:AV) (ix:Nat):Option AV:=
 match t with
 | .tup vs=>vs[ix]?
 | _=>none
theorem oExtract_sound {P:Program} {H:AH} {t r:AV} {ix:Nat} {t':Value} {ρ:Rho} {w:World} (h:oExtract t ix=some r) (hh:HR ρ H w) (ht:VR ρ t t') :
 GoesV P (Instr.extract t' ix) r H ρ H w:=by
 unfold oExtract at h
 split at h
 · cases ht with
   | tup _ vs' hvs=>
   obtain ⟨v',a,b⟩:=hvs.get? _ _ h
   refine GoesV.pure hh b ?_
   simp [Instr.extract,a]
 · simp at h
noncomputable def oMakeInterface (P:Program) (t:TypeId) (x:AV):Option AV:=
 match P.underlying t with
 | some (.interface _)=>none
 | some _=>some (.ifc t x)
 | none=>none
theorem oMakeInterface_sound {P:Program} {H:AH} {t:TypeId} {x r:AV} {x':Value} {ρ:Rho} {w:World} (h:oMakeInterface P t x=some r) (hh:HR ρ H w) (hx:VR ρ x x') :
 GoesV P (Instr.makeInterface t x') r H ρ H w:=by
 unfold oMakeInterface at h
 split at h
 · simp at h
 · rename_i d hd hu
   simp at h;subst h
   refine GoesV.pure hh (.ifc t x x' hx) ?_
   simp only [Instr.makeInterface,Sem.run_bind,run_underlying' hu,Result.andThen_ok]
   try (cases d<;>first | rfl | simp_all)
 · simp at h
end Go.Sim
