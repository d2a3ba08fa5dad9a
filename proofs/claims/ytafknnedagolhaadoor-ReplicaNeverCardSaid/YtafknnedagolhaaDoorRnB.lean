/- Runs over unknown values, told by the kernel: part RnB. -/
import Derived.Test.YtafknnedagolhaaDoorRnA
set_option linter.unusedSimpArgs false
set_option linter.unusedVariables false
set_option maxRecDepth 20000
namespace Go.Proofs.Cl
open Go Go.Sim Go.Proofs Go.Proofs.Cd Go.Proofs.St Go.Proofs.YtafknnedagolhaaDoor
noncomputable def i6 (x : Int) : AV := .i .i64 x
theorem begin_vc (K : Res → Orc → Prop) : runK Tryd.prog 1000000 (.call 29 [] (mkH [])) (Orc.cal [] (AV.tup [AV.p 0 0, i6 0]) [Upd.set (SS.o nw0)] (Orc.cal [0] (AV.tup [AV.p 1 0, i6 0]) [Upd.keep, Upd.set (CS.roa nk0 false)] (Orc.c Orc.z))) K = (Con Tryd.prog 8 [i6 258] [] (AV.tup [AV.p 0 0, i6 0]) [Upd.set (SS.o nw0)] ∧ Con Tryd.prog 33 [AV.p 0 0] [some (SS.o nw0)] (AV.tup [AV.p 1 0, i6 0]) [Upd.keep, Upd.set (CS.roa nk0 false)] ∧ K (Res.rv (AV.tup [AV.p 0 0, AV.p 1 0]) ⟨z1 (SS.o nw0) (zl (CS.roa nk0 false)) T.e, 2, [1, 0]⟩) Orc.z) := by kernel_rfl
theorem vQ_new (n a : Nat) : vQ (SS.new n) a = 0 := by
  have e : vQ (SS.new n) a = vQ (SS.new 258) 0 := rfl
  have z : vQ (SS.new 258) 0 = 0 := by kernel_rfl
  rw [e, z]
theorem op_new {j : Nat} (hj : j < 129) : opQ (SS.new 258) j = 0 ∧ opD (SS.new 258) j = [] := by
  obtain ⟨a1, a2, _⟩ := op_v (s := SS.new 258) rfl rfl (i := j) (by show 2 * j + 1 < 258; omega)
  rw [vQ_new, vQ_new] at a1
  rw [vQ_new, vQ_new, v_zero _ _ (vQ_new 258 (2 * j)), v_zero _ _ (vQ_new 258 (2 * j + 1))] at a2
  exact ⟨a1, a2⟩
theorem FI.new : FI 0 nk0 false nw0 := by
  have R : RvI 0 nk0 nw0 := .opened (by decide) (OkM.new (by decide)) (Byt.new 258) rfl rfl rfl fun j hj => Nat.le_of_eq (op_new hj).1
  exact ⟨by decide, R.inv, .opened fun j hj => (by
    show (∀ b ∈ opD (SS.new 258) j, b < 256) ∧ (opD (SS.new 258) j).length ≤ 51
    rw [(op_new hj).2]; exact ⟨fun b hb => (by cases hb), by decide⟩), rfl, fun _ => R, fun e => by cases e⟩
theorem begin_con : Con Tryd.prog 29 [] [] (.tup [.p 0 0, .p 1 0]) [.set nw0.o, .set (nk0.roa false)] :=
  con_of_run [] [0, 1] ((begin_vc _).mpr ⟨new_con 258 (by decide) (by decide), ropen_con nw0 (by decide) (by decide) rfl (Byt.new 258), _, _, rfl,
    ret_k (by kernel_rfl)⟩)
theorem awk_vc (nk0 nk1 nk2 nk3 nk4 nk5 nk6 nk7 : CS) (nw0 nw1 nw2 nw3 nw4 nw5 nw6 nw7 : SS) (K : Res → Orc → Prop) : runK Tryd.prog 1000000 (.call 28 [] (mkH [])) (Orc.cal [] (AV.tup [AV.p 0 0, AV.p 1 0]) [Upd.set (SS.o nw0), Upd.set (CS.roa nk0 false)] (oc 2 (Orc.cal [1, 0] (AV.agg [AV.i .i64 0, AV.s []]) [Upd.keep, Upd.keep] (oc 6 (Orc.cal [1, 0] (AV.i .i64 0) [Upd.set (CS.ro nk1 false), Upd.set (SS.o nw1)] (oc 4 (Orc.cal [0] (AV.i .i64 1) [Upd.keep] (oc 5 (Orc.cal [1, 0] (AV.i .i64 0) [Upd.set (CS.ro nk1 false), Upd.set (SS.o nw1)] (oc 4 (Orc.cal [0] (AV.i .i64 1) [Upd.keep] (oc 3 (Orc.cal [1, 0] (AV.i .i64 25) [Upd.set (CS.ro nk1 false), Upd.set (SS.o nw1)] (oc 3 (Orc.cal [1, 0] (AV.i .i64 0) [Upd.set (CS.ro nk2 false), Upd.set (SS.o nw2)] (oc 4 (Orc.cal [1, 0] (AV.i .i64 0) [Upd.set (CS.ro nk3 false), Upd.set (SS.o nw3)] (oc 5 (Orc.cal [1, 0] (AV.i .i64 22) [Upd.set (CS.ro nk3
  false), Upd.set (SS.o nw3)] (oc 5 (Orc.cal [1, 0] (AV.i .i64 0) [Upd.set (CS.ro nk4 false), Upd.set (SS.o nw4)] (oc 3 (Orc.cal [1, 0] (AV.i .i64 0) [Upd.set (CS.ro nk5 false), Upd.set (SS.o nw5)] (oc 2 (Orc.cal [1, 0] (AV.agg [AV.i .i64 2, AV.s [122]]) [Upd.keep, Upd.keep] (oc 5 (Orc.cal [1, 0] (AV.i .i64 0) [Upd.set (CS.ro nk6 false), Upd.set (SS.o nw6)] (oc 4 (Orc.cal [1, 0] (AV.i .i64 21) [Upd.set (CS.ro nk6 false), Upd.set (SS.o nw6)] (oc 4 (Orc.cal [1, 0] (AV.i .i64 0) [Upd.set (CS.ro nk7 false), Upd.set (SS.o nw7)] (oc 4 (Orc.cal [1, 0] (AV.agg [AV.i .i64 3, AV.i .i64 3, AV.i .i64 2, AV.i .i64 0, AV.i .i64 0]) [Upd.keep, Upd.keep] (oc 4 Orc.z)))))))))))))))))))))))))))))))))) K = (Con Tryd.prog 29 [] [] (AV.tup [AV.p 0 0, AV.p 1 0]) [Upd.set (SS.o nw0), Upd.set (CS.roa nk0 false)] ∧ True ∧ Con Tryd.prog 34 [AV.p 0 0, AV.i .i64 3] [some (CS.ro nk0 false), some (SS.o nw0)] (AV.agg
  [AV.i .i64 0, AV.s []]) [Upd.keep, Upd.keep] ∧ True ∧ Con Tryd.prog 35 [AV.p 0 0, AV.i .i64 3, AV.agg [AV.i .i64 1, AV.s [97]], AV.i .i64 0, AV.i .i64 1] [some (CS.ro nk0 false), some (SS.o nw0)] (AV.i .i64 0) [Upd.set (CS.ro nk1 false), Upd.set (SS.o nw1)] ∧ Con Tryd.prog 22 [AV.p 0 0] [some (SS.o nw1)] (AV.i .i64 1) [Upd.keep] ∧ Con Tryd.prog 35 [AV.p 0 0, AV.i .i64 3, AV.agg [AV.i .i64 1, AV.s [97]], AV.i .i64 0, AV.i .i64 1] [some (CS.ro nk1 false), some (SS.o nw1)] (AV.i .i64 0) [Upd.set (CS.ro nk1 false), Upd.set (SS.o nw1)] ∧ Con Tryd.prog 22 [AV.p 0 0] [some (SS.o nw1)] (AV.i .i64 1) [Upd.keep] ∧ Con Tryd.prog 35 [AV.p 0 0, AV.i .i64 3, AV.agg [AV.i .i64 1, AV.s [98]], AV.i .i64 0, AV.i .i64 1] [some (CS.ro nk1 false), some (SS.o nw1)] (AV.i .i64 25) [Upd.set (CS.ro nk1 false), Upd.set (SS.o nw1)] ∧ Con Tryd.prog 35 [AV.p 0 0, AV.i .i64 3, AV.agg [AV.i .i64 5, AV.s [98]], AV.i
  .i64 0, AV.i .i64 1] [some (CS.ro nk1 false), some (SS.o nw1)] (AV.i .i64 0) [Upd.set (CS.ro nk2 false), Upd.set (SS.o nw2)] ∧ Con Tryd.prog 31 [AV.p 0 0, AV.i .i64 0, AV.i .i64 2] [some (CS.ro nk2 false), some (SS.o nw2)] (AV.i .i64 0) [Upd.set (CS.ro nk3 false), Upd.set (SS.o nw3)] ∧ Con Tryd.prog 35 [AV.p 0 0, AV.i .i64 3, AV.agg [AV.i .i64 6, AV.s [99]], AV.i .i64 0, AV.i .i64 1] [some (CS.ro nk3 false), some (SS.o nw3)] (AV.i .i64 22) [Upd.set (CS.ro nk3 false), Upd.set (SS.o nw3)] ∧ Con Tryd.prog 35 [AV.p 0 0, AV.i .i64 3, AV.agg [AV.i .i64 6, AV.s [99]], AV.i .i64 1, AV.i .i64 1] [some (CS.ro nk3 false), some (SS.o nw3)] (AV.i .i64 0) [Upd.set (CS.ro nk4 false), Upd.set (SS.o nw4)] ∧ Con Tryd.prog 30 [AV.p 0 0, AV.i .i64 3, AV.agg [AV.i .i64 2, AV.s [122]]] [some (CS.ro nk4 false), some (SS.o nw4)] (AV.i .i64 0) [Upd.set (CS.ro nk5 false), Upd.set (SS.o nw5)] ∧ Con Tryd.prog 34
  [AV.p 0 0, AV.i .i64 3] [some (CS.ro nk5 false), some (SS.o nw5)] (AV.agg [AV.i .i64 2, AV.s [122]]) [Upd.keep, Upd.keep] ∧ True ∧ Con Tryd.prog 32 [AV.p 0 0, AV.i .i64 3] [some (CS.ro nk5 false), some (SS.o nw5)] (AV.i .i64 0) [Upd.set (CS.ro nk6 false), Upd.set (SS.o nw6)] ∧ Con Tryd.prog 32 [AV.p 0 0, AV.i .i64 2] [some (CS.ro nk6 false), some (SS.o nw6)] (AV.i .i64 21) [Upd.set (CS.ro nk6 false), Upd.set (SS.o nw6)] ∧ Con Tryd.prog 55 [AV.p 0 0, AV.i .i64 3] [some (CS.ro nk6 false), some (SS.o nw6)] (AV.i .i64 0) [Upd.set (CS.ro nk7 false), Upd.set (SS.o nw7)] ∧ Con Tryd.prog 36 [AV.p 0 0] [some (CS.ro nk7 false), some (SS.o nw7)] (AV.agg [AV.i .i64 3, AV.i .i64 3, AV.i .i64 2, AV.i .i64 0, AV.i .i64 0]) [Upd.keep, Upd.keep] ∧ True ∧ K (Res.rv (AV.b true) ⟨z1 (AObj.segs 89 33799 [⟨0, 1, 1, oneF (CV.i .i64 (Int.ofNat (SS.n nw7)))⟩, ⟨1, 65, 512, durF (SS.dur nw7) (SS.torn nw7)⟩,
  ⟨33281, 1, 1, oneF (CV.opv (pB (SS.P nw7)) 66 (pW (SS.P nw7)))⟩, ⟨33282, 1, 512, latF (lB (SS.P nw7)) (lW (SS.P nw7))⟩, ⟨33794, 5, 1, tailF (Int.ofNat (List.length (SS.P nw7))) (Int.ofNat (SS.wr nw7)) (SS.off nw7) (SS.armed nw7) (Int.ofNat (SS.left nw7))⟩]) (zl (AObj.segs 126 772 [⟨1, 1, 1, oneF (CV.i .i64 (Int.ofNat (CS.n nk7)))⟩, ⟨2, 3, 256, cellF (CS.q nk7) (CS.d nk7) (CS.sp nk7)⟩, ⟨770, 1, 1, oneF (CV.b (CS.dead nk7))⟩, ⟨771, 1, 1, oneF (CV.b false)⟩] [(0, AV.p 0 0)])) T.e, 2, [0, 1, 0, 1, 0, 1, 0, 1, 0, 1, 0, 1, 0, 1, 0, 1, 0, 1, 0, 1, 0, 1, 1, 0]⟩) Orc.z) := by kernel_rfl
theorem act_put {F : FuncId} {args : List AV} {c : CS} {s : SS} {i w : Int} {x y : List Nat} (h : Act F args w c false s i x) (hw : w = -1) (hx : x = y) (he : c.putE s i y = 0) :
    Con Tryd.prog F args [some (c.ro false), some s.o] (.i .i64 0) [.set ((c.putC s i y).ro false), .set (c.putS s i y).o] := by
  subst hw hx
  obtain ⟨e1, e2, e3, e4⟩ := act_yes c false s i x
  unfold Act at h
  rw [e1, e2, e3, e4, he] at h
  exact h
theorem act_same {F : FuncId} {args : List AV} {c : CS} {s : SS} {i w v : Int} {x : List Nat} (h : Act F args w c false s i x) (hw : w = v) (hv : v ≠ -1) :
    Con Tryd.prog F args [some (c.ro false), some s.o] (.i .i64 v) [.set (c.ro false), .set s.o] := by
  subst hw
  obtain ⟨e1, e2, e3, e4⟩ := act_no hv c false s i x
  unfold Act at h
  rw [e1, e2, e3, e4] at h
  exact h
theorem by1 {a : Nat} (ha : a < 256) : ∀ x ∈ [a], x < 256 := fun x hx => by simp at hx; omega
theorem by2 {a b : Nat} (ha : a < 256) (hb : b < 256) : ∀ x ∈ [a, b], x < 256 := fun x hx => by
  simp at hx; omega
theorem by5 {a b c d e : Nat} (ha : a < 256) (hb : b < 256) (hc : c < 256) (hd : d < 256) (he : e < 256) : ∀ x ∈ [a, b, c, d, e], x < 256 := fun x hx => by
  simp at hx; omega
theorem ni1 : Inv nk1 nw1 1 := FI.new.inv.put 3 [1, 97] (by2 (by decide) (by decide))
theorem ni2 : Inv nk2 nw2 2 := ni1.put 3 [5, 98] (by2 (by decide) (by decide))
theorem ni3 : Inv nk3 nw3 3 := ni2.put 128 [0, 0, 2, 0, 0] (by5 (by decide) (by decide) (by decide) (by decide) (by decide))
theorem ni4 : Inv nk4 nw4 4 := ni3.put 3 [6, 99] (by2 (by decide) (by decide))
theorem ni5 : Inv nk5 nw5 5 := ni4.put 3 [2, 122] (by2 (by decide) (by decide))
theorem ni6 : Inv nk6 nw6 6 := ni5.put 128 [3, 0, 2, 0, 0] (by5 (by decide) (by decide) (by decide) (by decide) (by decide))
theorem tx1 : Txt nk1 := FI.new.txt.put nw0 3 (by2 (by decide) (by decide))
theorem tx2 : Txt nk2 := tx1.put nw1 3 (by2 (by decide) (by decide))
theorem tx3 : Txt nk3 := tx2.put nw2 128 (by5 (by decide) (by decide) (by decide) (by decide) (by decide))
theorem tx4 : Txt nk4 := tx3.put nw3 3 (by2 (by decide) (by decide))
theorem tx5 : Txt nk5 := tx4.put nw4 3 (by2 (by decide) (by decide))
theorem tx6 : Txt nk6 := tx5.put nw5 128 (by5 (by decide) (by decide) (by decide) (by decide) (by decide))
theorem tx7 : Txt nk7 := tx6.put nw6 128 (by5 (by decide) (by decide) (by decide) (by decide) (by decide))
theorem blk_lit {c : CS} {s : SS} {b : Int} {n : Nat} {d : List Nat} (h : Txt c) (hn : bQ c b = n) (hd : bD c b = d) : Con Tryd.prog 34 [.p 0 0, .i .i64 b] [some (c.ro false), some s.o] (.agg [.i .i64 (Int.ofNat n), .s d]) [.keep, .keep] := by
  subst hn hd; exact block_con c false s b h
theorem rawake_con : Con Tryd.prog 28 [] [] (.b true) [] := by
  have w1 : Con Tryd.prog 22 [.p 0 0] [some nw1.o] (.i .i64 1) [.keep] := by
    have h := writes2_con nw1
    rw [show nw1.wr = 1 by kernel_rfl] at h; exact h
  have m7 := meta_con nk7 false nw7 tx7
  rw [show mV nk7 0 = 3 by kernel_rfl, show mV nk7 1 = 3 by kernel_rfl, show mV nk7 2 = 2 by kernel_rfl, show mV nk7 3 = 0 by kernel_rfl, show mV nk7 4 = 0 by kernel_rfl] at m7
  exact con_plain rfl ((awk_vc nk0 nk1 nk2 nk3 nk4 nk5 nk6 nk7 nw0 nw1 nw2 nw3 nw4 nw5 nw6 nw7 _).mpr ⟨begin_con, trivial, blk_lit (n := 0) (d := []) FI.new.txt (by kernel_rfl) (by kernel_rfl), trivial,
    act_put (apply_con FI.new.inv FI.new.txt (by decide) false 3 1 [97] 0 1 (by1 (by decide))) (by kernel_rfl) (by kernel_rfl) (by kernel_rfl), w1,
    act_same (apply_con ni1 tx1 (by decide) false 3 1 [97] 0 1 (by1 (by decide))) (v := 0) (by kernel_rfl) (by decide), w1,
    act_same (apply_con ni1 tx1 (by decide) false 3 1 [98] 0 1 (by1 (by decide))) (v := 25) (by kernel_rfl) (by decide),
    act_put (apply_con ni1 tx1 (by decide) false 3 5 [98] 0 1 (by1 (by decide))) (by kernel_rfl) (by kernel_rfl) (by kernel_rfl),
    act_put (fence_con ni2 tx2 (by decide) false 0 2) (by kernel_rfl) (by kernel_rfl) (by kernel_rfl),
    act_same (apply_con ni3 tx3 (by decide) false 3 6 [99] 0 1 (by1 (by decide))) (v := 22) (by kernel_rfl) (by decide),
    act_put (apply_con ni3 tx3 (by decide) false 3 6 [99] 1 1 (by1 (by decide))) (by kernel_rfl) (by kernel_rfl) (by kernel_rfl),
    act_put (load_con ni4 tx4 (by decide) false 3 2 [122] (by1 (by decide))) (by kernel_rfl) (by kernel_rfl) (by kernel_rfl),
    blk_lit (n := 2) (d := [122]) tx5 (by kernel_rfl) (by kernel_rfl), trivial,
    act_put (adoptI_con ni5 tx5 (by decide) false 3) (by kernel_rfl) (by kernel_rfl) (by kernel_rfl),
    act_same (adoptI_con ni6 tx6 (by decide) false 2) (v := 21) (by kernel_rfl) (by decide),
    act_put (join_con ni6 tx6 (by decide) false 3) (by kernel_rfl) (by kernel_rfl) (by kernel_rfl), m7, trivial, _, _, rfl, rfl⟩)
end Go.Proofs.Cl
