/- Runs over unknown values, told by the kernel: part RowA. -/
import Derived.Test.YtgggnjjhfkijfaaGE
import Derived.Test.YtgggnjjhfkijfaaRows
set_option linter.unusedSimpArgs false
set_option linter.unusedVariables false
set_option maxRecDepth 20000
namespace Go.Proofs.Ck
open Go Go.Sim Go.Proofs Go.Proofs.Lk Go.Proofs.Sv Go.Proofs.Ytgggnjjhfkijfaa
theorem u3 : Try.prog.underlying 3 = some (.int .i64) := by kernel_rfl
theorem u23 : Try.prog.underlying 23 = some (.int .i64) := by kernel_rfl
theorem u30 : Try.prog.underlying 30 = some (.int .i64) := by kernel_rfl
def CLs (f : Nat → CV) : Nat → List CV → Prop
  | _, [] => True
  | k, a :: l => CLe (f k) a ∧ CLs f (k + 1) l
theorem CLs.get {f : Nat → CV} : ∀ {l : List CV} {k : Nat}, CLs f k l → ∀ j, j < l.length → CLe (f (k + j)) (l.getD j .p0)
  | [], _, _, j, h => absurd h (by simp)
  | a :: l, k, ⟨h1, h2⟩, 0, _ => h1
  | a :: l, k, ⟨h1, h2⟩, j + 1, h => by
    have := CLs.get h2 j (by simpa using h)
    rw [show k + 1 + j = k + (j + 1) by omega] at this
    exact this
theorem shpInts {d : Nat} {f : Nat → CV} (h : Shp Try.prog (d + 2) 31 f) : ∃ (n : Nat) (g : Nat → Int), CLe (f 0) (isC n g) ∧ n * 8 ≤ reachBytes := by
  have us : Try.prog.underlying 31 = some (.slice 3) := by kernel_rfl
  have b : Try.prog.bytesOf 3 = 8 := by kernel_rfl
  have c : Try.prog.cellsOf 3 = 1 := by kernel_rfl
  obtain ⟨n, g, hg, _, hb, hi⟩ := Shp.slice (d + 1) rfl h us
  rw [c] at hg
  rw [b] at hb
  obtain ⟨W, hW⟩ := Classical.axiomOfChoice (r := fun (i : Nat) (q : Int) => i < n → g i 0 = .i .i64 q) (fun i => by
    by_cases q : i < n
    · obtain ⟨x, hx, _⟩ := Shp.int d rfl (hi i q) u3
      exact ⟨x, fun _ => hx⟩
    · exact ⟨0, fun h => absurd h q⟩)
  refine ⟨n, W, ?_, hb⟩
  rw [hg]
  refine CLe.sv fun i j a b => ?_
  obtain rfl : j = 0 := by omega
  exact .of (hW i a)
theorem shpThree {d : Nat} {f : Nat → CV} {t e e1 e2 : TypeId} (us : Try.prog.underlying t = some (.slice e)) (b : Try.prog.bytesOf e = 24) (c : Try.prog.cellsOf e = 3) (f0 : fld Try.prog e 0 = some (3, 0)) (f1 : fld Try.prog e 1 = some (e1, 1)) (f2 : fld Try.prog e 2 = some (e2, 2))
    (u1 : Try.prog.underlying e1 = some (.int .i64)) (u2 : Try.prog.underlying e2 = some (.int .i64)) (h : Shp Try.prog (d + 3) t f) : ∃ (n : Nat) (A M W : Nat → Int), CLe (f 0) (svC n A M W) ∧ n * 24 ≤ reachBytes := by
  obtain ⟨n, g, hg, _, hb, hi⟩ := Shp.slice (d + 2) rfl h us
  rw [c] at hg
  rw [b] at hb
  obtain ⟨W, hW⟩ := Classical.axiomOfChoice (r := fun (i : Nat) (q : Int × Int × Int) => i < n → g i 0 = .i .i64 q.1 ∧ g i 1 = .i .i64 q.2.1 ∧ g i 2 = .i .i64 q.2.2) (fun i => by
    by_cases q : i < n
    · obtain ⟨x, hx, _⟩ := Shp.int d rfl (Shp.field (d + 1) rfl (hi i q) f0) u3
      obtain ⟨y, hy, _⟩ := Shp.int d rfl (Shp.field (d + 1) rfl (hi i q) f1) u1
      obtain ⟨z, hz, _⟩ := Shp.int d rfl (Shp.field (d + 1) rfl (hi i q) f2) u2
      exact ⟨(x, y, z), fun _ => ⟨by simpa using hx, by simpa using hy, by simpa using hz⟩⟩
    · exact ⟨(0, 0, 0), fun h => absurd h q⟩)
  refine ⟨n, fun i => (W i).1, fun i => (W i).2.1, fun i => (W i).2.2, ?_, hb⟩
  rw [hg]
  refine CLe.sv fun i j a b => ?_
  match j, b with
  | 0, _ => exact .of (hW i a).1
  | 1, _ => exact .of (hW i a).2.1
  | 2, _ => exact .of (hW i a).2.2
theorem shpHolds {d : Nat} {f : Nat → CV} (h : Shp Try.prog (d + 3) 37 f) : ∃ (n : Nat) (A M W : Nat → Int), CLe (f 0) (svC n A M W) ∧ n * 24 ≤ reachBytes :=
  shpThree (e := 73) (e1 := 30) (e2 := 30) (by kernel_rfl) (by kernel_rfl) (by kernel_rfl) (by kernel_rfl) (by kernel_rfl) (by kernel_rfl) u30 u30 h
theorem shpDead {d : Nat} {f : Nat → CV} (h : Shp Try.prog (d + 3) 38 f) : ∃ (n : Nat) (A M W : Nat → Int), CLe (f 0) (svC n A M W) ∧ n * 24 ≤ reachBytes :=
  shpThree (e := 92) (e1 := 3) (e2 := 3) (by kernel_rfl) (by kernel_rfl) (by kernel_rfl) (by kernel_rfl) (by kernel_rfl) (by kernel_rfl) u3 u3 h
theorem shpConfig {d : Nat} {f : Nat → CV} (h : Shp Try.prog (d + 3) 36 f) : ∃ (e : Int) (mn : Nat) (mf : Nat → Int) (sn : Nat) (sf : Nat → Int), f 0 = .i .i64 e ∧ CLe (f 1) (isC mn mf) ∧ CLe (f 2) (isC sn sf) ∧ mn * 8 ≤ reachBytes ∧ sn * 8 ≤ reachBytes := by
  obtain ⟨e, he, _⟩ := Shp.int (d + 1) rfl (Shp.field (i := 0) (e := 3) (o := 0) (d + 2) rfl h (by kernel_rfl)) u3
  obtain ⟨mn, mf, hm, bm⟩ := shpInts (Shp.field (i := 1) (e := 31) (o := 1) (d + 2) rfl h (by kernel_rfl))
  obtain ⟨sn, sf, hs, bs⟩ := shpInts (Shp.field (i := 2) (e := 31) (o := 2) (d + 2) rfl h (by kernel_rfl))
  exact ⟨e, mn, mf, sn, sf, he, hm, hs, bm, bs⟩
noncomputable def vwC (b : Mb) : List CV := [.i .i64 (b.x 6), .i .i64 (b.x 7), .i .i64 (b.x 8), isC b.mn b.mf, isC b.sn b.sf, svC b.hn b.hA b.hM b.hW, svC b.dn b.dA b.dM b.dW]
theorem shpView {d : Nat} {f : Nat → CV} (h : Shp Try.prog (d + 4) 40 f) : ∃ b : Mb, CLs f 0 (vwC b) ∧ b.mn * 8 ≤ reachBytes ∧ b.sn * 8 ≤ reachBytes ∧ b.hn * 24 ≤ reachBytes ∧ b.dn * 24 ≤ reachBytes := by
  obtain ⟨x6, h6, _⟩ := Shp.int (d + 2) rfl (Shp.field (i := 0) (e := 23) (o := 0) (d + 3) rfl h (by kernel_rfl)) u23
  obtain ⟨x7, h7, _⟩ := Shp.int (d + 2) rfl (Shp.field (i := 1) (e := 3) (o := 1) (d + 3) rfl h (by kernel_rfl)) u3
  obtain ⟨x8, mn, mf, sn, sf, h8, h9, h10, b1, b2⟩ := shpConfig (d := d) (Shp.field (i := 2) (e := 36) (o := 2) (d + 3) rfl h (by kernel_rfl))
  obtain ⟨hn, hA, hM, hW, h11, b3⟩ := shpHolds (d := d) (Shp.field (i := 3) (e := 37) (o := 5) (d + 3) rfl h (by kernel_rfl))
  obtain ⟨dn, dA, dM, dW, h12, b4⟩ := shpDead (d := d) (Shp.field (i := 4) (e := 38) (o := 6) (d + 3) rfl h (by kernel_rfl))
  exact ⟨⟨fun i => [0, 0, 0, 0, 0, 0, x6, x7, x8].getD i 0, mn, mf, sn, sf, hn, hA, hM, hW, dn, dA, dM, dW⟩, ⟨.of h6, .of h7, .of h8, h9, h10, h11, h12, trivial⟩, b1, b2, b3, b4⟩
end Go.Proofs.Ck
