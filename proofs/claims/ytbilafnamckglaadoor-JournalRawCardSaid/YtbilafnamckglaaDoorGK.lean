/- Runs over unknown values, told by the kernel: part GK. -/
import Derived.Test.YtbilafnamckglaaDoorGJ
noncomputable section
open Int (ofNat)
set_option linter.unusedSimpArgs false
set_option linter.unusedVariables false
set_option maxRecDepth 20000
namespace Go.Proofs.Jn
open Go Go.Sim Go.Proofs Go.Proofs.Cd Go.Proofs.St Go.Proofs.Cl Go.Proofs.YtbilafnamckglaaDoor
theorem smzE_lq:LD PG (loopAt PG 33 0) 28 0 [(0,.l0),(1,.l0),(5,.i .i64 0)] [] (.c .z) (.exit 0) [] [] [] 0 (fun Lf=>Lf):=by unfold LD LQ;kernel_rfl
theorem smz_vq:VD PG 33 [.l0,.l0] [] (.c (.lop [] [0,1,5] 0 (.exit 0) [] [] .z)) (.b true) [] [] 0 (fun Lf=>LDoes PG (loopAt PG 33 0) 28 0 (mkT [(0,.l0),(1,.l0),(5,.i .i64 0)]) [] (.exit 0) (mkT []) []∧Lf):=by unfold VD VQ;kernel_rfl
theorem sm0_vq:VD PG 23 [.l0,.l0] [] (.cal [] (.b true) [] .z) (.b true) [] [] 0 (fun Lf=>Con PG 33 [.l0,.l0] [] (.b true) []∧Lf):=by unfold VD VQ;kernel_rfl
theorem jwX_vq (m:Nat) (ll:Nat→Nat) (bb:Nat→Nat→Nat) (L:Nat) (bs:Nat→Nat):VD PG 5 [.sv 1 m (imF ll bb),.sv 1 L (byF bs)] [] (.cal [] (.b true) [] (.c (.cal [] (.sv 1 m (imF ll bb)) [.gone] (.cal [] (.tup [.p0,.i .i64 2]) [] (.cal [] (.tup [.p0,.i .i64 2]) [] (oc 2 .z)))))) (.b true) [] [] 1 (fun Lf=>Con PG 11 [] [] (.b true) []∧True∧Con PG 15 [.sv 1 m (imF ll bb)] [] (.sv 1 m (imF ll bb)) [.gone]∧Con PG 35 [.sv 1 m (imF ll bb)] [] (.tup [.p0,.i .i64 2]) []∧Con PG 36 [.sv 1 m (imF ll bb)] [] (.tup [.p0,.i .i64 2]) []∧True∧True∧Lf):=by unfold VD VQ;kernel_rfl
theorem jwF_vq (s:SS) (m:Nat) (ll:Nat→Nat) (bb:Nat→Nat→Nat) (L:Nat) (bs:Nat→Nat):VD PG 5 [.sv 1 m (imF ll bb),.sv 1 L (byF bs)] [] (.cal [] (.b true) [] (.c (.cal [] (.sv 1 m (imF ll bb)) [.gone] (.cal [] (.tup [.p 0 0,.i .i64 0]) [.set (SS.o s)] (.cal [] (.tup [.p 0 0,.i .i64 0]) [.set (rsA 2 s),.set (rsR s),.set (rsP s)] (oc 2 (.cal [1] (.tup [.p0,.l0,.i .i64 12]) [.keep] (.cal [2,3,4] (.tup [.p0,.l0,.i .i64 12]) [.keep,.keep,.keep] (oc 9 (.cal [] (.b true) [] (oc 4 .z))))))))))) (.b true) [] [] 5 (fun Lf=>Con PG 11 [] [] (.b true) []∧True∧Con PG 15 [.sv 1 m (imF ll bb)] [] (.sv 1 m (imF ll bb)) [.gone]∧Con PG 35 [.sv 1 m (imF ll bb)] [] (.tup [.p 0 0,.i .i64 0]) [.set (SS.o s)]∧Con PG 36 [.sv 1 m (imF ll bb)] [] (.tup [.p 0 0,.i .i64 0]) [.set (rsA 2 s),.set (rsR s),.set (rsP s)]∧True∧Con PG 10 [.p 0 0] [some (SS.o s)] (.tup [.p0,.l0,.i .i64 12]) [.keep]∧Con PG 13 [.p 0 0] [some (rsA 2 s),some (rsR s),some (rsP s)] (.tup [.p0,.l0,.i .i64 12]) [.keep,.keep,.keep]∧True∧True∧True∧Con PG 23 [.l0,.l0] [] (.b true) []∧True∧True∧Lf):=by unfold VD VQ;kernel_rfl
abbrev tt2 (x:Int):Prop:=decide (x=x)=true
section
variable (s V S1 S2 T1 T2:SS) (J J1 J2:JS) (u u1 u2:Nat) (E1 E2:Int) (c:Nat) (F:Nat→Nat→CV) (m:Nat) (ll:Nat→Nat) (bb:Nat→Nat→Nat) (L:Nat) (bs:Nat→Nat)
abbrev jwQ (ro aP aR wP wR:List Upd) (p q x nx:Nat):Prop:=VD PG 5 [.sv 1 m (imF ll bb),.sv 1 L (byF bs)] [] (Orc.cal [] (.b true) [] (Orc.c (Orc.cal [] (.sv 1 m
 (imF ll bb)) [.gone] (Orc.cal [] (.tup [.p 0 0,.i .i64 0]) [.set (SS.o s)] (Orc.cal [] (.tup [.p 0 0,.i .i64 0]) [.set (rsA 2 s),.set (rsR s),.set (rsP s)] (oc 2 (Orc.cal
 [1] (.tup [.p 1 0,.sv 1 c F,.i .i64 0]) [.set (SS.o V),.set (JS.o J)] (Orc.cal [2,3,4] (.tup [.p 3 0,.sv 1 c F,.i .i64 0]) ro (oc 9 (Orc.cal [] (.b true) [] (oc 4
 (Orc.cal [1,5] (.i .i64 (ofNat (JS.gen J))) [.keep,.keep] (Orc.t (Orc.t (Orc.cal [1,5] (.i .i64 (JS.room J)) [.keep,.keep] (Orc.t (Orc.t (Orc.cal [2,3,6,p] (.i
 .i64 (JS.room J)) [.keep,.keep,.keep,.keep] (Orc.t (Orc.f (Orc.t (Orc.t (Orc.t (Orc.cal [] (.sv 1 L (byF bs)) [] (Orc.t (Orc.cal [1,5] (.i .i64 E1) aP (Orc.t (Orc.t
 (Orc.t (Orc.cal [2,3,6,p] (.i .i64 E1) aR (Orc.t (Orc.f (Orc.t (Orc.t (Orc.t (Orc.cal [] (.sv 1 L (byF bs)) [] (Orc.t (Orc.t (Orc.cal [1,5,x] (.i .i64 E2) wP (Orc.t
 (Orc.t (Orc.t (Orc.t (Orc.cal [2,3,6,q,x+1] (.i .i64 E2) wR (Orc.t (Orc.f (Orc.f (Orc.cal [1,5] (.i .i64 (ofNat (JS.gen J2))) [.keep,.keep] (Orc.t (Orc.t (Orc.cal
 [1,5] (.i .i64 (ofNat (JS.recs J2))) [.keep,.keep] (Orc.t (Orc.t (Orc.t (Orc.t (Orc.t (Orc.t (Orc.t (Orc.t (Orc.cal [1] (.sv 1 (SS.n T2) (imgF T2)) [.keep] (Orc.t
 (Orc.t (Orc.t (Orc.t (Orc.t (Orc.cal [3] (.b true) [.gone] (Orc.t Orc.z))))))))))))))))))))))))))))))))))))))))))))))))))))))))))))))))))) (.b true) [] [] nx (fun Lf=>Con
 PG 11 [] [] (.b true) []∧True∧Con PG 15 [.sv 1 m (imF ll bb)] [] (.sv 1 m (imF ll bb)) [.gone]∧Con PG 35 [.sv 1 m (imF ll bb)] [] (.tup [.p 0 0,.i
 .i64 0]) [.set (SS.o s)]∧Con PG 36 [.sv 1 m (imF ll bb)] [] (.tup [.p 0 0,.i .i64 0]) [.set (rsA 2 s),.set (rsR s),.set (rsP s)]∧True∧Con PG 10 [.p 0
 0] [some (SS.o s)] (.tup [.p 1 0,.sv 1 c F,.i .i64 0]) [.set (SS.o V),.set (JS.o J)]∧Con PG 13 [.p 0 0] [some (rsA 2 s),some (rsR s),some (rsP s)] (.tup [.p 3
 0,.sv 1 c F,.i .i64 0]) ro∧True∧True∧True∧Con PG 23 [.sv 1 c F,.sv 1 c F] [] (.b true) []∧True∧True∧Con PG 30 [.p 1 0] [some (SS.o V),some
 (JS.o J)] (.i .i64 (ofNat (JS.gen J))) [.keep,.keep]∧True∧tt1 (ofNat (JS.gen J))∧tt1 (ofNat (JS.gen J))∧Con PG 28 [.p 1 0] [some (SS.o V),some
 (JS.o J)] (.i .i64 (JS.room J)) [.keep,.keep]∧tt1 (ofNat (JS.gen J))∧tt1 (ofNat (JS.gen J))∧Con PG 29 [.p 2 0] [some (rsA 3 V),some (rsR V),some (rjJ
 J u),some (rsP V)] (.i .i64 (JS.room J)) [.keep,.keep,.keep,.keep]∧tt1 (ofNat (JS.gen J))∧tt0 (ofNat (JS.gen J))∧tt1 (JS.room J)∧tt1 (JS.room J)∧tt1
 (JS.room J)∧Con PG 25 [.sv 1 L (byF bs)] [] (.sv 1 L (byF bs)) []∧tt1 (JS.room J)∧Con PG 24 [.p 1 0,.sv 1 L (byF bs)] [some (SS.o V),some (JS.o J)] (.i
 .i64 E1) aP∧tt1 (JS.room J)∧tt1 (JS.room J)∧tt1 (JS.room J)∧Con PG 26 [.p 2 0,.sv 1 L (byF bs)] [some (rsA 3 V),some (rsR V),some (rjJ J u),some (rsP V)]
 (.i .i64 E1) aR∧tt1 (JS.room J)∧tt0 (JS.room J)∧tt1 (E1)∧tt1 (E1)∧tt1 (E1)∧Con PG 25 [.sv 1 L (byF bs)] [] (.sv 1 L (byF bs)) []∧tt1 (E1)∧tt1 (E1)∧
 Con PG 14 [.p 1 0,.l 2 0 1 1 1 true] [some (SS.o T1),some (JS.o J1),some (cellsO 38 [.sv 1 L (byF bs)])] (.i .i64 E2) wP∧tt1 (E1)∧tt1 (E1)∧tt1 (E1)∧tt1 (E1)
 ∧Con PG 16 [.p 2 0,.l 4 0 1 1 1 true] [some (rsA 3 T1),some (rsR T1),some (rjJ J1 u1),some (rsP T1),some (cellsO 38 [.sv 1 L (byF bs)])] (.i .i64 E2) wR∧tt1
 (E1)∧tt0 (E1)∧tt0 (E2)∧Con PG 30 [.p 1 0] [some (SS.o T2),some (JS.o J2)] (.i .i64 (ofNat (JS.gen J2))) [.keep,.keep]∧True∧tt2 (ofNat (JS.gen J2))
 ∧tt2 (ofNat (JS.gen J2))∧Con PG 27 [.p 1 0] [some (SS.o T2),some (JS.o J2)] (.i .i64 (ofNat (JS.recs J2))) [.keep,.keep]∧tt2 (ofNat (JS.gen J2))∧
 tt2 (ofNat (JS.gen J2))∧tt2 (ofNat (JS.gen J2))∧True∧tt2 (ofNat (JS.gen J2))∧tt2 (ofNat (JS.gen J2))∧tt2 (ofNat (JS.gen J2))∧tt2 (ofNat
 (JS.recs J2))∧tt2 (ofNat (JS.recs J2))∧Con PG 34 [.p 0 0] [some (SS.o T2)] (.sv 1 (SS.n T2) (imgF T2)) [.keep]∧tt2 (ofNat (JS.recs J2))∧tt2 (ofNat
 (JS.recs J2))∧tt2 (ofNat (JS.recs J2))∧True∧tt2 (ofNat (JS.recs J2))∧tt2 (ofNat (JS.recs J2))∧Con PG 33 [.sv 1 (SS.n T2) (imgF T2),.lr 0 1 0
 (SS.n T2) false] [some (rsR T2)] (.b true) [.gone]∧tt2 (ofNat (JS.recs J2))∧Lf)
theorem jwASS_vq:jwQ s V S1 S2 J J1 J2 u u1 E1 E2 c F m ll bb L bs [.set (rsA 2 V),.set (rsR V),.set (rsP V),.set (rjJ J u)] [.set S1.o,.set J1.o] [.set (rsA 4 S1),.set (rsR S1),.set (rjJ J1 u1),.gone,.set (rsP S1)] [.set S2.o,.set J2.o,.gone] [.set (rsA 5 S2),.set (rsR S2),.set (rjJ J2 u2),.gone,.gone,.set (rsP S2)] 4 7 8 11:=by unfold jwQ VD VQ;kernel_rfl
theorem jwASK_vq:jwQ s V S1 S1 J J1 J2 u u1 E1 E2 c F m ll bb L bs [.set (rsA 2 V),.set (rsR V),.set (rsP V),.set (rjJ J u)] [.set S1.o,.set J1.o] [.set (rsA 4 S1),.set (rsR S1),.set (rjJ J1 u1),.gone,.set (rsP S1)] [.keep,.set J2.o,.gone] [.keep,.keep,.set (rjJ J2 u2),.keep,.gone] 4 7 8 10:=by unfold jwQ VD VQ;kernel_rfl
theorem jwAKS_vq:jwQ s V V S2 J J1 J2 u u1 E1 E2 c F m ll bb L bs [.set (rsA 2 V),.set (rsR V),.set (rsP V),.set (rjJ J u)] [.keep,.set J1.o] [.keep,.keep,.set (rjJ J1 u1),.keep] [.set S2.o,.set J2.o,.gone] [.set (rsA 5 S2),.set (rsR S2),.set (rjJ J2 u2),.gone,.gone,.set (rsP S2)] 4 4 7 10:=by unfold jwQ VD VQ;kernel_rfl
theorem jwAKK_vq:jwQ s V V V J J1 J2 u u1 E1 E2 c F m ll bb L bs [.set (rsA 2 V),.set (rsR V),.set (rsP V),.set (rjJ J u)] [.keep,.set J1.o] [.keep,.keep,.set (rjJ J1 u1),.keep] [.keep,.set J2.o,.gone] [.keep,.keep,.set (rjJ J2 u2),.keep,.gone] 4 4 7 9:=by unfold jwQ VD VQ;kernel_rfl
theorem jwBSS_vq:jwQ s V S1 S2 J J1 J2 u u1 E1 E2 c F m ll bb L bs [.set (rsA 4 V),.set (rsR V),.gone,.set (rjJ J u),.set (rsP V)] [.set S1.o,.set J1.o] [.set (rsA 4 S1),.set (rsR S1),.set (rjJ J1 u1),.gone,.set (rsP S1)] [.set S2.o,.set J2.o,.gone] [.set (rsA 5 S2),.set (rsR S2),.set (rjJ J2 u2),.gone,.gone,.set (rsP S2)] 7 8 9 12:=by unfold jwQ VD VQ;kernel_rfl
theorem jwBSK_vq:jwQ s V S1 S1 J J1 J2 u u1 E1 E2 c F m ll bb L bs [.set (rsA 4 V),.set (rsR V),.gone,.set (rjJ J u),.set (rsP V)] [.set S1.o,.set J1.o] [.set (rsA 4 S1),.set (rsR S1),.set (rjJ J1 u1),.gone,.set (rsP S1)] [.keep,.set J2.o,.gone] [.keep,.keep,.set (rjJ J2 u2),.keep,.gone] 7 8 9 11:=by unfold jwQ VD VQ;kernel_rfl
theorem jwBKS_vq:jwQ s V V S2 J J1 J2 u u1 E1 E2 c F m ll bb L bs [.set (rsA 4 V),.set (rsR V),.gone,.set (rjJ J u),.set (rsP V)] [.keep,.set J1.o] [.keep,.keep,.set (rjJ J1 u1),.keep] [.set S2.o,.set J2.o,.gone] [.set (rsA 5 S2),.set (rsR S2),.set (rjJ J2 u2),.gone,.gone,.set (rsP S2)] 7 7 8 11:=by unfold jwQ VD VQ;kernel_rfl
theorem jwBKK_vq:jwQ s V V V J J1 J2 u u1 E1 E2 c F m ll bb L bs [.set (rsA 4 V),.set (rsR V),.gone,.set (rjJ J u),.set (rsP V)] [.keep,.set J1.o] [.keep,.keep,.set (rjJ J1 u1),.keep] [.keep,.set J2.o,.gone] [.keep,.keep,.set (rjJ J2 u2),.keep,.gone] 7 7 8 10:=by unfold jwQ VD VQ;kernel_rfl
end
theorem sm0_con:Con PG 23 [.l0,.l0] [] (.b true) []:=by
 have lp:LDoes PG (loopAt PG 33 0) 28 0 (mkT [(0,.l0),(1,.l0),(5,.i .i64 0)]) [] (.exit 0) (mkT []) []:=
  loop_q (D:=Unit) (fun _=>([(0,.l0),(1,.l0),(5,.i .i64 0)],[])) (fun _=>0) (fun _=>True) (fun _=>Nat.zero_le _) (fun _ _=>rd_out smzE_lq rfl rfl rfl trivial (.refl _)) () trivial
 exact con_d sm0_vq ⟨con_d smz_vq ⟨lp,rfl⟩,rfl⟩
theorem dt (x:Int):decide (x=x)=true:=decide_eq_true rfl
theorem raw_law (m L:Nat) (ll bs:Nat→Nat) (bb:Nat→Nat→Nat) (hm:m≤5864062014634) (hl:∀i,i<m→ll i≤140737488351232) (hb:∀i k,bb i k<256) (hL:L≤140737488351232) (hbs:∀t,bs t<256):Con PG 5 [.sv 1 m (imF ll bb),.sv 1 L (byF bs)] [] (.b true) []:=by
 have aw:=awake_con
 have oa:Con PG 15 [.sv 1 m (imF ll bb)] [] (.sv 1 m (imF ll bb)) [.gone]:=oaF_con m ll bb hm hl
 have ow:=jown_con L (byF bs) hL
 have bad:(m<1∨512<m∨∃q,q<m∧(∀i,i<q→ll i=64∨ll i=0)∧ll q≠64∧ll q≠0)→Con PG 5 [.sv 1 m (imF ll bb),.sv 1 L (byF bs)] [] (.b true) []:=fun b=>by
  have f1:=fromBad_con m ll bb b
  have f2:=rfromBad_con m ll bb b
  refine con_d (jwX_vq m ll bb L bs) ?_
  repeat' first | exact trivial | assumption | exact rfl | apply And.intro
 by_cases h1:m<1
 · exact bad (.inl h1)
 by_cases h2:512<m
 · exact bad (.inr (.inl h2))
 rcases good_or ll m with ok | b
 rotate_left
 · exact bad (.inr (.inr b))
 have f1:Con PG 35 [.sv 1 m (imF ll bb)] [] (.tup [.p 0 0,.i .i64 0]) [.set (fr m ll bb).o]:=from_con m ll bb (by omega) (by omega) ok
 have f2:=rfrom2_con m ll bb (by omega) (by omega) ok
 have okS:=fr_ok m ll bb (by omega)
 have bS:=fr_byt m ll bb hb
 have cS:Calm (fr m ll bb):=⟨rfl,rfl⟩
 have Sn:(fr m ll bb).n=m:=rfl
 generalize fr m ll bb=S at *
 by_cases h3:m<122
 · have o1:=openS_con S (by omega)
   have o2:=ropenS_con S (by omega)
   have sm:=sm0_con
   refine con_d (jwF_vq S m ll bb L bs) ?_
   repeat' first | exact trivial | assumption | exact rfl | apply And.intro
 obtain ⟨V,J,hP,cV,hd,c,F,o1,o2,sm⟩:=pjc_open (T:=S) (M:=0) (by omega) okS (by decide) bS cS
 obtain ⟨S1,J1,hP1,cS1,hd1,a⟩:=pjc_append (L:=L) (bs:=bs) hP cV hd (by decide) hbs
 obtain ⟨S2,J2,hP2,w⟩:=pjc_rewrite (n:=1) (m:=fun _=>L) (b:=fun _=>bs) hP1 cS1 hd1 (by decide) (by decide) fun _=>hbs
 have g0:=gen_con J V
 have r0:=room_con J V
 have q0:=rroomJ_con hP
 have g2:=gen_con J2 S2
 have r2:=recs_con J2 S2
 have i2:=image_con S2 hP2.ok.n
 have s2:=same2_con S2 hP2.ok.n hP2.byt
 rcases o2 with ⟨_,rfl,o2⟩ | ⟨_,o2⟩
 · rcases a with ⟨E,a1,a2⟩ | ⟨rfl,E,a1,a2⟩
   · rcases w with ⟨E2,w1,w2⟩ | ⟨rfl,E2,w1,w2⟩
     · have w1:=rwLitS w1
       have w2:=rrLitS w2
       refine con_d (jwASS_vq V V S1 S2 J J1 J2 J.u J1.u J2.u E E2 c F m ll bb L bs) ?_
       repeat' first | exact trivial | assumption | exact tt1_ _ | exact tt0_ _ | exact dt _ | exact rfl | apply And.intro
     · have w1:=rwLitK w1
       have w2:=rrLitK w2
       refine con_d (jwASK_vq V V S2 J J1 J2 J.u J1.u J2.u E E2 c F m ll bb L bs) ?_
       repeat' first | exact trivial | assumption | exact tt1_ _ | exact tt0_ _ | exact dt _ | exact rfl | apply And.intro
   · rcases w with ⟨E2,w1,w2⟩ | ⟨rfl,E2,w1,w2⟩
     · have w1:=rwLitS w1
       have w2:=rrLitS w2
       refine con_d (jwAKS_vq S1 S1 S2 J J1 J2 J.u J1.u J2.u E E2 c F m ll bb L bs) ?_
       repeat' first | exact trivial | assumption | exact tt1_ _ | exact tt0_ _ | exact dt _ | exact rfl | apply And.intro
     · have w1:=rwLitK w1
       have w2:=rrLitK w2
       refine con_d (jwAKK_vq S2 S2 J J1 J2 J.u J1.u J2.u E E2 c F m ll bb L bs) ?_
       repeat' first | exact trivial | assumption | exact tt1_ _ | exact tt0_ _ | exact dt _ | exact rfl | apply And.intro
 · rcases a with ⟨E,a1,a2⟩ | ⟨rfl,E,a1,a2⟩
   · rcases w with ⟨E2,w1,w2⟩ | ⟨rfl,E2,w1,w2⟩
     · have w1:=rwLitS w1
       have w2:=rrLitS w2
       refine con_d (jwBSS_vq S V S1 S2 J J1 J2 J.u J1.u J2.u E E2 c F m ll bb L bs) ?_
       repeat' first | exact trivial | assumption | exact tt1_ _ | exact tt0_ _ | exact dt _ | exact rfl | apply And.intro
     · have w1:=rwLitK w1
       have w2:=rrLitK w2
       refine con_d (jwBSK_vq S V S2 J J1 J2 J.u J1.u J2.u E E2 c F m ll bb L bs) ?_
       repeat' first | exact trivial | assumption | exact tt1_ _ | exact tt0_ _ | exact dt _ | exact rfl | apply And.intro
   · rcases w with ⟨E2,w1,w2⟩ | ⟨rfl,E2,w1,w2⟩
     · have w1:=rwLitS w1
       have w2:=rrLitS w2
       refine con_d (jwBKS_vq S S1 S2 J J1 J2 J.u J1.u J2.u E E2 c F m ll bb L bs) ?_
       repeat' first | exact trivial | assumption | exact tt1_ _ | exact tt0_ _ | exact dt _ | exact rfl | apply And.intro
     · have w1:=rwLitK w1
       have w2:=rrLitK w2
       refine con_d (jwBKK_vq S S2 J J1 J2 J.u J1.u J2.u E E2 c F m ll bb L bs) ?_
       repeat' first | exact trivial | assumption | exact tt1_ _ | exact tt0_ _ | exact dt _ | exact rfl | apply And.intro
end Go.Proofs.Jn
