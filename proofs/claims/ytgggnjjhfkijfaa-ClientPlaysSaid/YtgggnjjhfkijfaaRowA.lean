/- Runs over unknown values, told by the kernel: part RowA. -/
import Derived.Test.YtgggnjjhfkijfaaGD
import Derived.Test.YtgggnjjhfkijfaaRows
set_option linter.unusedSimpArgs false
set_option linter.unusedVariables false
set_option maxRecDepth 20000
namespace Go.Proofs.Ck
open Go Go.Sim Go.Proofs Go.Proofs.Lk Go.Proofs.Sv Go.Proofs.Ytgggnjjhfkijfaa
theorem u3 : Try.prog.underlying 3 = some (.int .i64) := by kernel_rfl
theorem u9 : Try.prog.underlying 9 = some .string := by kernel_rfl
theorem u23 : Try.prog.underlying 23 = some (.int .i64) := by kernel_rfl
theorem u29 : Try.prog.underlying 29 = some (.int .i64) := by kernel_rfl
theorem u30 : Try.prog.underlying 30 = some (.int .i64) := by kernel_rfl
theorem u43 : Try.prog.underlying 43 = some (.int .i64) := by kernel_rfl
def CLs (f : Nat → CV) : Nat → List CV → Prop
  | _, [] => True
  | k, a :: l => CLe (f k) a ∧ CLs f (k + 1) l
theorem CLs.app {f : Nat → CV} : ∀ {k : Nat} {a b : List CV}, CLs f k a → CLs f (k + a.length) b → CLs f k (a ++ b)
  | _, [], _, _, h => h
  | k, x :: a, b, ⟨h1, h2⟩, h => ⟨h1, CLs.app h2 (by rw [show k + 1 + a.length = k + (x :: a).length by simp; omega]; exact h)⟩
theorem CLs.get {f : Nat → CV} : ∀ {l : List CV} {k : Nat}, CLs f k l → ∀ j, j < l.length → CLe (f (k + j)) (l.getD j .p0)
  | [], _, _, j, h => absurd h (by simp)
  | a :: l, k, ⟨h1, h2⟩, 0, _ => h1
  | a :: l, k, ⟨h1, h2⟩, j + 1, h => by
    have := CLs.get h2 j (by simpa using h)
    rw [show k + 1 + j = k + (j + 1) by omega] at this
    exact this
theorem shpInts {d : Nat} {f : Nat → CV} (h : Shp Try.prog (d + 2) 31 f) : ∃ (n : Nat) (g : Nat → Int), CLe (f 0) (isC n g) ∧ n * 8 ≤ reachBytes := by
  have us : Try.prog.underlying 31 = some (.slice 3) := by kernel_rfl
  have b : Try.prog.bytesOf 3 = 8 := by kernel_rfl
  have c : Try.prog.cellsOf 3 = 1 := by kernel_rfl
  obtain ⟨n, g, hg, _, hb, hi⟩ := Shp.slice (d + 1) rfl h us
  rw [c] at hg
  rw [b] at hb
  obtain ⟨W, hW⟩ := Classical.axiomOfChoice (r := fun (i : Nat) (q : Int) => i < n → g i 0 = .i .i64 q) (fun i => by
    by_cases q : i < n
    · obtain ⟨x, hx, _⟩ := Shp.int d rfl (hi i q) u3
      exact ⟨x, fun _ => hx⟩
    · exact ⟨0, fun h => absurd h q⟩)
  refine ⟨n, W, ?_, hb⟩
  rw [hg]
  refine CLe.sv fun i j a b => ?_
  obtain rfl : j = 0 := by omega
  exact .of (hW i a)
theorem shpThree {d : Nat} {f : Nat → CV} {t e e1 e2 : TypeId} (us : Try.prog.underlying t = some (.slice e)) (b : Try.prog.bytesOf e = 24) (c : Try.prog.cellsOf e = 3) (f0 : fld Try.prog e 0 = some (3, 0)) (f1 : fld Try.prog e 1 = some (e1, 1)) (f2 : fld Try.prog e 2 = some (e2, 2))
    (u1 : Try.prog.underlying e1 = some (.int .i64)) (u2 : Try.prog.underlying e2 = some (.int .i64)) (h : Shp Try.prog (d + 3) t f) : ∃ (n : Nat) (A M W : Nat → Int), CLe (f 0) (svC n A M W) ∧ n * 24 ≤ reachBytes := by
  obtain ⟨n, g, hg, _, hb, hi⟩ := Shp.slice (d + 2) rfl h us
  rw [c] at hg
  rw [b] at hb
  obtain ⟨W, hW⟩ := Classical.axiomOfChoice (r := fun (i : Nat) (q : Int × Int × Int) => i < n → g i 0 = .i .i64 q.1 ∧ g i 1 = .i .i64 q.2.1 ∧ g i 2 = .i .i64 q.2.2) (fun i => by
    by_cases q : i < n
    · obtain ⟨x, hx, _⟩ := Shp.int d rfl (Shp.field (d + 1) rfl (hi i q) f0) u3
      obtain ⟨y, hy, _⟩ := Shp.int d rfl (Shp.field (d + 1) rfl (hi i q) f1) u1
      obtain ⟨z, hz, _⟩ := Shp.int d rfl (Shp.field (d + 1) rfl (hi i q) f2) u2
      exact ⟨(x, y, z), fun _ => ⟨by simpa using hx, by simpa using hy, by simpa using hz⟩⟩
    · exact ⟨(0, 0, 0), fun h => absurd h q⟩)
  refine ⟨n, fun i => (W i).1, fun i => (W i).2.1, fun i => (W i).2.2, ?_, hb⟩
  rw [hg]
  refine CLe.sv fun i j a b => ?_
  match j, b with
  | 0, _ => exact .of (hW i a).1
  | 1, _ => exact .of (hW i a).2.1
  | 2, _ => exact .of (hW i a).2.2
theorem shpHolds {d : Nat} {f : Nat → CV} (h : Shp Try.prog (d + 3) 37 f) : ∃ (n : Nat) (A M W : Nat → Int), CLe (f 0) (svC n A M W) ∧ n * 24 ≤ reachBytes :=
  shpThree (e := 73) (e1 := 30) (e2 := 30) (by kernel_rfl) (by kernel_rfl) (by kernel_rfl) (by kernel_rfl) (by kernel_rfl) (by kernel_rfl) u30 u30 h
theorem shpDead {d : Nat} {f : Nat → CV} (h : Shp Try.prog (d + 3) 38 f) : ∃ (n : Nat) (A M W : Nat → Int), CLe (f 0) (svC n A M W) ∧ n * 24 ≤ reachBytes :=
  shpThree (e := 92) (e1 := 3) (e2 := 3) (by kernel_rfl) (by kernel_rfl) (by kernel_rfl) (by kernel_rfl) (by kernel_rfl) (by kernel_rfl) u3 u3 h
theorem shpConfig {d : Nat} {f : Nat → CV} (h : Shp Try.prog (d + 3) 36 f) : ∃ (e : Int) (mn : Nat) (mf : Nat → Int) (sn : Nat) (sf : Nat → Int), f 0 = .i .i64 e ∧ CLe (f 1) (isC mn mf) ∧ CLe (f 2) (isC sn sf) ∧ mn * 8 ≤ reachBytes ∧ sn * 8 ≤ reachBytes := by
  obtain ⟨e, he, _⟩ := Shp.int (d + 1) rfl (Shp.field (i := 0) (e := 3) (o := 0) (d + 2) rfl h (by kernel_rfl)) u3
  obtain ⟨mn, mf, hm, bm⟩ := shpInts (Shp.field (i := 1) (e := 31) (o := 1) (d + 2) rfl h (by kernel_rfl))
  obtain ⟨sn, sf, hs, bs⟩ := shpInts (Shp.field (i := 2) (e := 31) (o := 2) (d + 2) rfl h (by kernel_rfl))
  exact ⟨e, mn, mf, sn, sf, he, hm, hs, bm, bs⟩
theorem CLs.shift {f : Nat → CV} {o : Nat} : ∀ {l : List CV} {k : Nat}, CLs (fun j => f (o + j)) k l → CLs f (o + k) l
  | [], _, _ => trivial
  | a :: l, k, ⟨h1, h2⟩ => ⟨h1, CLs.shift (k := k + 1) h2⟩
noncomputable def vwC (b : Mb) : List CV := [.i .i64 (b.x 6), .i .i64 (b.x 7), .i .i64 (b.x 8), isC b.mn b.mf, isC b.sn b.sf, svC b.hn b.hA b.hM b.hW, svC b.dn b.dA b.dM b.dW]
noncomputable def cmC (c : Cm) : List CV := [.i .i64 c.k, .i .i64 c.sv, .i .i64 c.bt, .i .i64 c.sq, .i .i64 c.gn, .i .i64 c.lk, .i .i64 c.md, .i .i64 c.ot, isC c.mn c.mf, .i .i64 c.d]
theorem shpView {d : Nat} {f : Nat → CV} (h : Shp Try.prog (d + 4) 40 f) : ∃ b : Mb, CLs f 0 (vwC b) ∧ b.mn * 8 ≤ reachBytes ∧ b.sn * 8 ≤ reachBytes ∧ b.hn * 24 ≤ reachBytes ∧ b.dn * 24 ≤ reachBytes := by
  obtain ⟨x6, h6, _⟩ := Shp.int (d + 2) rfl (Shp.field (i := 0) (e := 23) (o := 0) (d + 3) rfl h (by kernel_rfl)) u23
  obtain ⟨x7, h7, _⟩ := Shp.int (d + 2) rfl (Shp.field (i := 1) (e := 3) (o := 1) (d + 3) rfl h (by kernel_rfl)) u3
  obtain ⟨x8, mn, mf, sn, sf, h8, h9, h10, b1, b2⟩ := shpConfig (d := d) (Shp.field (i := 2) (e := 36) (o := 2) (d + 3) rfl h (by kernel_rfl))
  obtain ⟨hn, hA, hM, hW, h11, b3⟩ := shpHolds (d := d) (Shp.field (i := 3) (e := 37) (o := 5) (d + 3) rfl h (by kernel_rfl))
  obtain ⟨dn, dA, dM, dW, h12, b4⟩ := shpDead (d := d) (Shp.field (i := 4) (e := 38) (o := 6) (d + 3) rfl h (by kernel_rfl))
  exact ⟨⟨fun i => [0, 0, 0, 0, 0, 0, x6, x7, x8].getD i 0, mn, mf, sn, sf, hn, hA, hM, hW, dn, dA, dM, dW⟩, ⟨.of h6, .of h7, .of h8, h9, h10, h11, h12, trivial⟩, b1, b2, b3, b4⟩
theorem shpCmd {d : Nat} {f : Nat → CV} (h : Shp Try.prog (d + 3) 33 f) : ∃ c : Cm, CLs f 0 (cmC c) ∧ c.mn * 8 ≤ reachBytes := by
  obtain ⟨x0, h0, _⟩ := Shp.int (d + 1) rfl (Shp.field (i := 0) (e := 29) (o := 0) (d + 2) rfl h (by kernel_rfl)) u29
  obtain ⟨x1, h1, _⟩ := Shp.int (d + 1) rfl (Shp.field (i := 1) (e := 3) (o := 1) (d + 2) rfl h (by kernel_rfl)) u3
  obtain ⟨x2, h2, _⟩ := Shp.int (d + 1) rfl (Shp.field (i := 2) (e := 3) (o := 2) (d + 2) rfl h (by kernel_rfl)) u3
  obtain ⟨x3, h3, _⟩ := Shp.int (d + 1) rfl (Shp.field (i := 3) (e := 3) (o := 3) (d + 2) rfl h (by kernel_rfl)) u3
  obtain ⟨x4, h4, _⟩ := Shp.int (d + 1) rfl (Shp.field (i := 4) (e := 3) (o := 4) (d + 2) rfl h (by kernel_rfl)) u3
  obtain ⟨x5, h5, _⟩ := Shp.int (d + 1) rfl (Shp.field (i := 5) (e := 3) (o := 5) (d + 2) rfl h (by kernel_rfl)) u3
  obtain ⟨x6, h6, _⟩ := Shp.int (d + 1) rfl (Shp.field (i := 6) (e := 30) (o := 6) (d + 2) rfl h (by kernel_rfl)) u30
  obtain ⟨x7, h7, _⟩ := Shp.int (d + 1) rfl (Shp.field (i := 7) (e := 3) (o := 7) (d + 2) rfl h (by kernel_rfl)) u3
  obtain ⟨mn, mf, h8, b⟩ := shpInts (d := d) (Shp.field (i := 8) (e := 31) (o := 8) (d + 2) rfl h (by kernel_rfl))
  obtain ⟨x9, h9, _⟩ := Shp.int (d + 1) rfl (Shp.field (i := 9) (e := 3) (o := 9) (d + 2) rfl h (by kernel_rfl)) u3
  exact ⟨⟨x0, x1, x2, x3, x4, x5, x6, x7, mn, mf, x9⟩, ⟨.of h0, .of h1, .of h2, .of h3, .of h4, .of h5, .of h6, .of h7, h8, .of h9, trivial⟩, b⟩
theorem shpMsg {d : Nat} {f : Nat → CV} (h : Shp Try.prog (d + 5) 47 f) : ∃ m : Mg, CLs f 0 (mgC m) ∧ m.c.mn ≤ 17592186044416 ∧ m.v.mn ≤ 17592186044416 ∧ m.v.sn ≤ 17592186044416 ∧ m.v.hn ≤ 5864062014805 ∧ m.v.dn ≤ 5864062014805 := by
  obtain ⟨x0, h0, _⟩ := Shp.int (d + 3) rfl (Shp.field (i := 0) (e := 43) (o := 0) (d + 4) rfl h (by kernel_rfl)) u43
  obtain ⟨x1, h1, _⟩ := Shp.int (d + 3) rfl (Shp.field (i := 1) (e := 3) (o := 1) (d + 4) rfl h (by kernel_rfl)) u3
  obtain ⟨x2, h2, _⟩ := Shp.int (d + 3) rfl (Shp.field (i := 2) (e := 3) (o := 2) (d + 4) rfl h (by kernel_rfl)) u3
  obtain ⟨x3, h3, _⟩ := Shp.int (d + 3) rfl (Shp.field (i := 3) (e := 3) (o := 3) (d + 4) rfl h (by kernel_rfl)) u3
  obtain ⟨x4, h4, _⟩ := Shp.int (d + 3) rfl (Shp.field (i := 4) (e := 3) (o := 4) (d + 4) rfl h (by kernel_rfl)) u3
  have ha := Shp.field (i := 5) (e := 45) (o := 5) (d + 4) rfl h (by kernel_rfl)
  obtain ⟨x5, h5, _⟩ := Shp.int (d + 2) rfl (Shp.field (i := 0) (e := 3) (o := 0) (d + 3) rfl ha (by kernel_rfl)) u3
  obtain ⟨x6, h6, _⟩ := Shp.string (d + 2) rfl (Shp.field (i := 1) (e := 9) (o := 1) (d + 3) rfl ha (by kernel_rfl)) u9
  obtain ⟨x7, h7, _⟩ := Shp.string (d + 3) rfl (Shp.field (i := 6) (e := 9) (o := 7) (d + 4) rfl h (by kernel_rfl)) u9
  obtain ⟨c, hc, b0⟩ := shpCmd (d := d + 1) (Shp.field (i := 7) (e := 33) (o := 8) (d + 4) rfl h (by kernel_rfl))
  obtain ⟨v, hv, b1, b2, b3, b4⟩ := shpView (d := d) (Shp.field (i := 8) (e := 40) (o := 18) (d + 4) rfl h (by kernel_rfl))
  have hr : reachBytes = 140737488351232 := rfl
  have hc' := CLs.shift (k := 0) hc
  have hv' := CLs.shift (k := 0) hv
  refine ⟨⟨x0, x1, x2, x3, x4, x5, x6, x7, c, v⟩, CLs.app (k := 0) (a := [.i .i64 x0, .i .i64 x1, .i .i64 x2, .i .i64 x3, .i .i64 x4, .i .i64 x5, .s x6, .s x7]) (b := cmC c ++ vwC v) ⟨.of h0, .of h1, .of h2, .of h3, .of h4, .of h5, .of h6, .of h7, trivial⟩ (CLs.app (k := 8) (a := cmC c) hc' hv'), (by show c.mn ≤ _; omega), (by show v.mn ≤ _; omega), (by show v.sn ≤ _; omega), (by show v.hn ≤ _; omega), (by show v.dn ≤ _; omega)⟩
theorem shpOp {d : Nat} {f : Nat → CV} (h : Shp Try.prog (d + 6) 58 f) : ∃ o : Opx, CLs f 0 (oxC o) ∧ o.m.c.mn ≤ 17592186044416 ∧ o.m.v.mn ≤ 17592186044416 ∧ o.m.v.sn ≤ 17592186044416 ∧ o.m.v.hn ≤ 5864062014805 ∧ o.m.v.dn ≤ 5864062014805 := by
  obtain ⟨x0, h0, _⟩ := Shp.int (d + 4) rfl (Shp.field (i := 0) (e := 3) (o := 0) (d + 5) rfl h (by kernel_rfl)) u3
  obtain ⟨x1, h1, _⟩ := Shp.int (d + 4) rfl (Shp.field (i := 1) (e := 3) (o := 1) (d + 5) rfl h (by kernel_rfl)) u3
  obtain ⟨m, hm, b⟩ := shpMsg (d := d) (Shp.field (i := 2) (e := 47) (o := 2) (d + 5) rfl h (by kernel_rfl))
  exact ⟨⟨x0, x1, m⟩, CLs.app (k := 0) (a := [.i .i64 x0, .i .i64 x1]) (b := mgC m) ⟨.of h0, .of h1, trivial⟩ (CLs.shift (k := 0) hm), b⟩
theorem shpOps {f : Nat → CV} (h : Shp Try.prog 7 52 f) : ∃ (n : Nat) (O : Nat → Opx), CLe (f 0) (.sv 27 n (oxF O)) ∧ (∀ i, (O i).m.c.mn ≤ 17592186044416 ∧ (O i).m.v.mn ≤ 17592186044416 ∧ (O i).m.v.sn ≤ 17592186044416 ∧ (O i).m.v.hn ≤ 5864062014805 ∧ (O i).m.v.dn ≤ 5864062014805) ∧ n * 312 ≤ reachBytes := by
  have us : Try.prog.underlying 52 = some (.slice 58) := by kernel_rfl
  have b : Try.prog.bytesOf 58 = 312 := by kernel_rfl
  have c : Try.prog.cellsOf 58 = 27 := by kernel_rfl
  obtain ⟨n, g, hg, _, hb, hi⟩ := Shp.slice 6 rfl h us
  rw [c] at hg
  rw [b] at hb
  obtain ⟨C, hC⟩ := Classical.axiomOfChoice (r := fun (i : Nat) (o : Opx) => (i < n → ∀ j, j < 27 → CLe (g i j) ((oxC o).getD j .p0)) ∧ o.m.c.mn ≤ 17592186044416 ∧ o.m.v.mn ≤ 17592186044416 ∧ o.m.v.sn ≤ 17592186044416 ∧ o.m.v.hn ≤ 5864062014805 ∧ o.m.v.dn ≤ 5864062014805) (fun i => by
    by_cases q : i < n
    · obtain ⟨x, hx, hm⟩ := shpOp (d := 0) (hi i q)
      refine ⟨x, fun _ j hj => ?_, hm⟩
      have := hx.get j hj
      rwa [Nat.zero_add] at this
    · exact ⟨⟨0, 0, ⟨0, 0, 0, 0, 0, 0, [], [], cm0, mb0⟩⟩, fun h => absurd h q, Nat.zero_le _, Nat.zero_le _, Nat.zero_le _, Nat.zero_le _, Nat.zero_le _⟩)
  refine ⟨n, C, ?_, fun i => (hC i).2, hb⟩
  rw [hg]
  exact CLe.sv fun i j a b => (hC i).1 a j b
end Go.Proofs.Ck
