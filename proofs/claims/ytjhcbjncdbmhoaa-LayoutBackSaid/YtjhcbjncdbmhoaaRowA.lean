/- Runs over unknown values, told by the kernel: part RowA. -/
import Derived.Test.YtjhcbjncdbmhoaaGI
import Derived.Test.YtjhcbjncdbmhoaaRows
set_option linter.unusedSimpArgs false
set_option linter.unusedVariables false
set_option maxRecDepth 20000
namespace Go.Proofs.Ly
open Go Go.Sim Go.Proofs Go.Proofs.Cl Go.Proofs.Ytjhcbjncdbmhoaa
theorem u3 : Try.prog.underlying 3 = some (.int .i64) := by kernel_rfl
theorem u28 : Try.prog.underlying 28 = some (.int .i64) := by kernel_rfl
theorem u4 : Try.prog.underlying 4 = some .bool := by kernel_rfl
theorem u9 : Try.prog.underlying 9 = some .string := by kernel_rfl
def CLs (f : Nat → CV) : Nat → List CV → Prop
  | _, [] => True
  | k, a :: l => CLe (f k) a ∧ CLs f (k + 1) l
theorem CLs.get {f : Nat → CV} : ∀ {l : List CV} {k : Nat}, CLs f k l → ∀ j, j < l.length → CLe (f (k + j)) (l.getD j .p0)
  | [], _, _, j, h => absurd h (by simp)
  | a :: l, k, ⟨h1, h2⟩, 0, _ => h1
  | a :: l, k, ⟨h1, h2⟩, j + 1, h => by
    have := CLs.get h2 j (by simpa using h)
    rw [show k + 1 + j = k + (j + 1) by omega] at this
    exact this
theorem shpEnts {d : Nat} {f : Nat → CV} (h : Shp Try.prog (d + 3) 33 f) : ∃ (n : Nat) (A : Nat → List Nat) (N : Nat → Int), CLe (f 0) (.sv 2 n (eF A N)) ∧ n * 24 ≤ reachBytes ∧ ∀ i, i < n → Byt (A i) ∧ (A i).length ≤ reachBytes := by
  have us : Try.prog.underlying 33 = some (.slice 41) := by kernel_rfl
  have b : Try.prog.bytesOf 41 = 24 := by kernel_rfl
  have c : Try.prog.cellsOf 41 = 2 := by kernel_rfl
  obtain ⟨n, g, hg, _, hb, hi⟩ := Shp.slice (d + 2) rfl h us
  rw [c] at hg
  rw [b] at hb
  obtain ⟨W, hW⟩ := Classical.axiomOfChoice (r := fun (i : Nat) (q : List Nat × Int) => i < n → (g i 0 = .s q.1 ∧ g i 1 = .i .i64 q.2) ∧ Byt q.1 ∧ q.1.length ≤ reachBytes) (fun i => by
    by_cases q : i < n
    · obtain ⟨x, hx, h1, _, h2⟩ := Shp.string d rfl (Shp.field (i := 0) (e := 9) (o := 0) (d + 1) rfl (hi i q) (by kernel_rfl)) u9
      obtain ⟨y, hy, _⟩ := Shp.int d rfl (Shp.field (i := 1) (e := 3) (o := 1) (d + 1) rfl (hi i q) (by kernel_rfl)) u3
      exact ⟨(x, y), fun _ => ⟨⟨hx, hy⟩, h1, h2⟩⟩
    · exact ⟨([], 0), fun h => absurd h q⟩)
  refine ⟨n, fun i => (W i).1, fun i => (W i).2, ?_, hb, fun i q => (hW i q).2⟩
  rw [hg]
  refine CLe.sv fun i j a b => ?_
  match j, b with
  | 0, _ => exact .of (hW i a).1.1
  | 1, _ => exact .of (hW i a).1.2
theorem shpBits {d : Nat} {f : Nat → CV} (h : Shp Try.prog (d + 3) 37 f) : ∃ g : Nat → Bool, ∀ k, k < 32 → f k = .b (g k) := by
  have h0 := Shp.field (i := 0) (e := 34) (o := 0) (d + 2) rfl h (by kernel_rfl)
  have h1 := Shp.field (i := 1) (e := 35) (o := 8) (d + 2) rfl h (by kernel_rfl)
  have a34 : Try.prog.underlying 34 = some (.array 8 4) := by kernel_rfl
  have a35 : Try.prog.underlying 35 = some (.array 24 4) := by kernel_rfl
  have c4 : Try.prog.cellsOf 4 = 1 := by kernel_rfl
  obtain ⟨W, hW⟩ := Classical.axiomOfChoice (r := fun (k : Nat) (q : Bool) => k < 32 → f k = .b q) (fun k => by
    by_cases q : k < 32
    · rcases Nat.lt_or_ge k 8 with r | r
      · obtain ⟨x, hx⟩ := Shp.bool d rfl (Shp.elem (d + 1) rfl h0 a34 r) u4
        refine ⟨x, fun _ => ?_⟩
        have hx : f (0 + (k * Try.prog.cellsOf 4 + 0)) = .b x := hx
        rw [c4, show 0 + (k * 1 + 0) = k by omega] at hx
        exact hx
      · obtain ⟨x, hx⟩ := Shp.bool d rfl (Shp.elem (d + 1) rfl h1 a35 (i := k - 8) (by omega)) u4
        refine ⟨x, fun _ => ?_⟩
        have hx : f (8 + ((k - 8) * Try.prog.cellsOf 4 + 0)) = .b x := hx
        rw [c4, show 8 + ((k - 8) * 1 + 0) = k by omega] at hx
        exact hx
    · exact ⟨false, fun h => absurd h q⟩)
  exact ⟨W, hW⟩
theorem shpInts {d n : Nat} {t : TypeId} {f : Nat → CV} (u : Try.prog.underlying t = some (.array n 3)) (h : Shp Try.prog (d + 2) t f) : ∃ p : Nat → Int, ∀ k, k < n → f k = .i .i64 (p k) := by
  have c3 : Try.prog.cellsOf 3 = 1 := by kernel_rfl
  obtain ⟨W, hW⟩ := Classical.axiomOfChoice (r := fun (k : Nat) (q : Int) => k < n → f k = .i .i64 q) (fun k => by
    by_cases q : k < n
    · obtain ⟨x, hx, _⟩ := Shp.int d rfl (Shp.elem (d + 1) rfl h u q) u3
      refine ⟨x, fun _ => ?_⟩
      have hx : f (k * Try.prog.cellsOf 3 + 0) = .i .i64 x := hx
      rw [c3, show k * 1 + 0 = k by omega] at hx
      exact hx
    · exact ⟨0, fun h => absurd h q⟩)
  exact ⟨W, hW⟩
structure Th where
  v : Int
  t : List Nat
  x : Nat → Int
  p : Nat → Int
  n : Nat
  A : Nat → List Nat
  N : Nat → Int
  g : Nat → Bool
noncomputable def gC (g : Nat → Bool) : List CV := [.b (g 0), .b (g 1), .b (g 2), .b (g 3), .b (g 4), .b (g 5), .b (g 6), .b (g 7), .b (g 8), .b (g 9), .b (g 10), .b (g 11), .b (g 12), .b (g 13), .b (g 14), .b (g 15), .b (g 16), .b (g 17), .b (g 18), .b (g 19), .b (g 20), .b (g 21), .b (g 22), .b (g 23), .b (g 24), .b (g 25), .b (g 26), .b (g 27), .b (g 28), .b (g 29), .b (g 30), .b (g 31)]
noncomputable def thC (a : Th) : List CV := [.i .i64 a.v, .s a.t, .i .i64 (a.x 0), .i .i64 (a.x 1), .i .i64 (a.x 2), .i .i64 (a.x 3), .i .i64 (a.x 4), .i .i64 (a.x 5), .i .i64 (a.x 6), .i .i64 (a.x 7), .i .i64 (a.x 8), .i .i64 (a.p 0), .i .i64 (a.p 1), .i .i64 (a.p 2), .i .i64 (a.p 3), .i .i64 (a.p 4), .i .i64 (a.p 5), .i .i64 (a.p 6), .i .i64 (a.p 7), .sv 2 a.n (eF a.A a.N)] ++ gC a.g
def Th.ok (a : Th) : Prop := a.t.length ≤ 281474976710656 ∧ Byt a.t ∧ a.n * 24 ≤ 140737488351232 ∧ LenA a.n a.A ∧ ∀ i, i < a.n → Byt (a.A i)
theorem shpThings {f : Nat → CV} (h : Shp Try.prog 4 39 f) : ∃ a : Th, CLs f 0 (thC a) ∧ a.ok := by
  have hB := Shp.field (i := 0) (e := 24) (o := 0) 3 rfl h (by kernel_rfl)
  have hX := Shp.field (i := 1) (e := 31) (o := 2) 3 rfl h (by kernel_rfl)
  have hP := Shp.field (i := 2) (e := 32) (o := 11) 3 rfl h (by kernel_rfl)
  have hL := Shp.field (i := 3) (e := 33) (o := 19) 3 rfl h (by kernel_rfl)
  have hS := Shp.field (i := 4) (e := 37) (o := 20) 3 rfl h (by kernel_rfl)
  obtain ⟨v, e0, _⟩ := Shp.int 1 rfl (Shp.field (i := 0) (e := 3) (o := 0) 2 rfl hB (by kernel_rfl)) u3
  obtain ⟨t, e1, tb, _, tl⟩ := Shp.string 1 rfl (Shp.field (i := 1) (e := 9) (o := 1) 2 rfl hB (by kernel_rfl)) u9
  obtain ⟨x0, e2, _⟩ := Shp.int 1 rfl (Shp.field (i := 0) (e := 28) (o := 0) 2 rfl hX (by kernel_rfl)) u28
  obtain ⟨x1, e3, _⟩ := Shp.int 1 rfl (Shp.field (i := 1) (e := 3) (o := 1) 2 rfl hX (by kernel_rfl)) u3
  obtain ⟨x2, e4, _⟩ := Shp.int 1 rfl (Shp.field (i := 2) (e := 3) (o := 2) 2 rfl hX (by kernel_rfl)) u3
  obtain ⟨x3, e5, _⟩ := Shp.int 1 rfl (Shp.field (i := 3) (e := 3) (o := 3) 2 rfl hX (by kernel_rfl)) u3
  obtain ⟨d, e6⟩ := shpInts (d := 0) (n := 4) (by kernel_rfl) (Shp.field (i := 4) (e := 29) (o := 4) 2 rfl hX (by kernel_rfl))
  obtain ⟨x8, e7, _⟩ := Shp.int 1 rfl (Shp.field (i := 5) (e := 3) (o := 8) 2 rfl hX (by kernel_rfl)) u3
  obtain ⟨p, e8⟩ := shpInts (d := 1) (n := 8) (by kernel_rfl) hP
  obtain ⟨n, A, N, e9, hn, hA⟩ := shpEnts (d := 0) hL
  obtain ⟨g, e10⟩ := shpBits (d := 0) hS
  have hr : reachBytes = 140737488351232 := rfl
  rw [hr] at tl hn hA
  refine ⟨⟨v, t, fun i => [x0, x1, x2, x3, d 0, d 1, d 2, d 3, x8].getD i 0, p, n, A, N, g⟩, (?_ : CLs f 0 [_, _, _, _, _, _, _, _, _, _, _, _, _, _, _, _, _, _, _, _, _, _, _, _, _, _, _, _, _, _, _, _, _, _, _, _, _, _, _, _, _, _, _, _, _, _, _, _, _, _, _, _]), ⟨by show t.length ≤ _; omega, tb, hn, fun i hi => by have := (hA i hi).2; show (A i).length ≤ _; omega, fun i hi => (hA i hi).1⟩⟩
  exact ⟨.of e0, .of e1, .of e2, .of e3, .of e4, .of e5, .of (e6 0 (by decide)), .of (e6 1 (by decide)), .of (e6 2 (by decide)), .of (e6 3 (by decide)), .of e7, .of (e8 0 (by decide)), .of (e8 1 (by decide)), .of (e8 2 (by decide)), .of (e8 3 (by decide)), .of (e8 4 (by decide)), .of (e8 5 (by decide)), .of (e8 6 (by decide)), .of (e8 7 (by decide)), e9,
    .of (e10 0 (by decide)), .of (e10 1 (by decide)), .of (e10 2 (by decide)), .of (e10 3 (by decide)), .of (e10 4 (by decide)), .of (e10 5 (by decide)), .of (e10 6 (by decide)), .of (e10 7 (by decide)), .of (e10 8 (by decide)), .of (e10 9 (by decide)), .of (e10 10 (by decide)), .of (e10 11 (by decide)), .of (e10 12 (by decide)), .of (e10 13 (by decide)), .of (e10 14 (by decide)), .of (e10 15 (by decide)),
    .of (e10 16 (by decide)), .of (e10 17 (by decide)), .of (e10 18 (by decide)), .of (e10 19 (by decide)), .of (e10 20 (by decide)), .of (e10 21 (by decide)), .of (e10 22 (by decide)), .of (e10 23 (by decide)), .of (e10 24 (by decide)), .of (e10 25 (by decide)), .of (e10 26 (by decide)), .of (e10 27 (by decide)), .of (e10 28 (by decide)), .of (e10 29 (by decide)), .of (e10 30 (by decide)), .of (e10 31 (by decide)), trivial⟩
end Go.Proofs.Ly
