/- Runs over unknown values, told by the kernel: part StF. -/
import Derived.Test.YtcdmnjjgnodpdaaStA
set_option linter.unusedSimpArgs false
set_option linter.unusedVariables false
set_option maxRecDepth 20000
namespace Go.Proofs.St
open Go Go.Sim Go.Proofs

theorem new2_con : Con Try.prog 9 [.i .i64 2] [] (.tup [.p 0 0, .i .i64 0]) [.set (SS.new 2).o] := new_con 2 (by decide) (by decide)
noncomputable def uFrom : Code := loopAt Try.prog 10 0

noncomputable def cellsB (bs : Nat → Int) : List CV := Nat.rec (motive := fun _ => Nat → List CV) (fun _ => []) (fun _ ih o => .i .u8 (bs o) :: ih (o + 1)) 64 0
theorem cellsB_at (bs : Nat → Int) (j : Nat) : (cellsB bs)[j]? = match Nat.blt j 64 with | true => some (.i .u8 (bs j)) | false => none := by
  have key : ∀ (m o k : Nat), (Nat.rec (motive := fun _ => Nat → List CV) (fun _ => []) (fun _ ih o => CV.i .u8 (bs o) :: ih (o + 1)) m o)[k]? = match Nat.blt k m with | true => some (CV.i .u8 (bs (o + k))) | false => none := by
    intro m
    induction m with
    | zero => intro o k
              have : Nat.blt k 0 = false := by rw [Bool.eq_false_iff, ne_eq, Nat.blt_eq]; omega
              rw [this]; exact List.getElem?_nil
    | succ m ih =>
      intro o k
      cases k with
      | zero => rfl
      | succ k =>
        have h1 := ih (o + 1) k
        have e : Nat.blt (k + 1) (m + 1) = Nat.blt k m := by
          rw [Bool.eq_iff_iff, Nat.blt_eq, Nat.blt_eq]; omega
        rw [e]
        show (Nat.rec (motive := fun _ => Nat → List CV) (fun _ => []) (fun _ ih o => CV.i .u8 (bs o) :: ih (o + 1)) m (o + 1))[k]? = _
        rw [h1, show o + 1 + k = o + (k + 1) by omega]
  have h1 := key 64 0 j
  rw [Nat.zero_add] at h1
  exact h1
theorem setB {g : Nat → Nat → CV} {dur : Nat → Nat → Int} {torn : Nat → Bool} (q : Nat) (bs : Nat → Int) (i j : Nat) (hj : j < 65) (hg : CW (g i j) (durF dur torn i j)) : CW (setRow g q 0 (cellsB bs) i j) (durF (setD dur q bs) torn i j) := by
  cases hb : Nat.blt j 64 with
  | true =>
    have e : setRow g q 0 (cellsB bs) i j = zipCV (Nat.beq i q) (.i .u8 (bs j)) (g i j) := by
      unfold setRow
      rw [show Nat.ble 0 j = true by simp]
      simp only [Nat.sub_zero]
      rw [cellsB_at bs j, hb]
    rw [e]
    refine (zipCV_CW _ _ _).trans ?_
    cases hq : Nat.beq i q with
    | true => refine .of ?_; unfold durF setD; rw [hb, hq]; rfl
    | false => refine hg.trans (.of ?_); unfold durF setD; rw [hb, hq]; rfl
  | false =>
    have e : setRow g q 0 (cellsB bs) i j = g i j := by
      unfold setRow
      rw [show Nat.ble 0 j = true by simp]
      simp only [Nat.sub_zero]
      rw [cellsB_at bs j, hb]
    rw [e]
    refine hg.trans (.of ?_)
    unfold durF; rw [hb]

theorem from2_vc (N : Nat) (bs : Nat → Int) (K : Res → Orc → Prop) : runK Try.prog 1000000 (.call 10 [.l 0 0 2 2 1 true] (mkH [some (cellsO 35 [.lr 1 1 0 64 false, .lr 1 1 0 64 false]), some (.rows 5 1 N fun k _ => .i .u8 (bs k))]))
    (Orc.cal [] (AV.tup [AV.p 0 0, AV.i IntKind.i64 (0 : Int)]) [Upd.set (SS.o (SS.new 2))] (Orc.c (Orc.inl (Orc.c (Orc.c (Orc.c (Orc.c (Orc.c (Orc.inl (Orc.c (Orc.c (Orc.c (Orc.c (Orc.c (Orc.inl (Orc.c Orc.z)))))))))))))))) K =
    (Con Try.prog 9 [AV.i IntKind.i64 (2 : Int)] [] (AV.tup [AV.p 0 0, AV.i IntKind.i64 (0 : Int)]) [Upd.set (SS.o (SS.new 2))] ∧
  (64 ≤ 64 ∧ 0 < 64) ∧
    64 ≤ N ∧
      True ∧
        True ∧
          True ∧
            ((-9223372036854775808 : Int) ≤ (1 : Int) ∧ (1 : Int) ≤ (9223372036854775807 : Int)) ∧
              (64 ≤ 64 ∧ 0 < 64) ∧
                64 ≤ N ∧
                  True ∧
                    True ∧
                      True ∧
                        ((-9223372036854775808 : Int) ≤ (2 : Int) ∧ (2 : Int) ≤ (9223372036854775807 : Int)) ∧
                          K
                            (Res.rv (AV.tup [AV.p 2 0, AV.i IntKind.i64 (0 : Int)])
                              {
                                tree :=
                                  T.n (some (AObj.cells 35 2 [] (T.n (some (AV.lr 1 1 0 64 false)) (T.n (some (AV.lr 1 1 0 64 false)) T.e T.e) T.e))) (T.n (some (AObj.rows 5 1 N fun k x => CV.i IntKind.u8 (bs k))) T.e T.e)
                                    (T.n
                                      (some
                                        (AObj.segs 73 33799
                                          [{ st := 0, sz := 1, n := 1, f := oneF (CV.i IntKind.i64 (Int.ofNat (SS.n (SS.new 2)))) },
                                            { st := 1, sz := 65, n := 512,
                                              f :=
                                                setRow
                                                  (fun i' j' =>
                                                    match Nat.ble 0 j' with
                                                    | true =>
                                                      match [CV.i IntKind.u8 (bs 0), CV.i IntKind.u8 (bs 1), CV.i IntKind.u8 (bs 2), CV.i IntKind.u8 (bs 3), CV.i IntKind.u8 (bs 4), CV.i IntKind.u8 (bs 5), CV.i IntKind.u8 (bs 6), CV.i IntKind.u8 (bs 7), CV.i IntKind.u8 (bs 8), CV.i IntKind.u8 (bs 9), CV.i IntKind.u8 (bs 10), CV.i IntKind.u8 (bs 11), CV.i IntKind.u8 (bs 12), CV.i IntKind.u8 (bs 13), CV.i IntKind.u8 (bs 14), CV.i IntKind.u8 (bs 15), CV.i IntKind.u8 (bs 16), CV.i IntKind.u8 (bs 17), CV.i IntKind.u8 (bs 18), CV.i IntKind.u8 (bs 19), CV.i IntKind.u8 (bs 20), CV.i IntKind.u8 (bs 21), CV.i IntKind.u8 (bs 22), CV.i IntKind.u8 (bs 23), CV.i IntKind.u8 (bs 24), CV.i IntKind.u8 (bs 25), CV.i IntKind.u8 (bs 26), CV.i IntKind.u8 (bs 27), CV.i IntKind.u8 (bs 28), CV.i IntKind.u8 (bs 29), CV.i IntKind.u8 (bs 30), CV.i IntKind.u8 (bs 31), CV.i IntKind.u8 (bs 32), CV.i IntKind.u8 (bs 33), CV.i IntKind.u8 (bs 34), CV.i IntKind.u8 (bs 35), CV.i IntKind.u8 (bs 36), CV.i IntKind.u8 (bs 37), CV.i IntKind.u8 (bs 38), CV.i IntKind.u8 (bs 39), CV.i IntKind.u8 (bs 40), CV.i IntKind.u8 (bs 41), CV.i IntKind.u8 (bs 42), CV.i IntKind.u8 (bs 43), CV.i IntKind.u8 (bs 44), CV.i IntKind.u8 (bs 45), CV.i IntKind.u8 (bs 46), CV.i IntKind.u8 (bs 47), CV.i IntKind.u8 (bs 48), CV.i IntKind.u8 (bs 49), CV.i IntKind.u8 (bs 50), CV.i IntKind.u8 (bs 51), CV.i IntKind.u8 (bs 52), CV.i IntKind.u8 (bs 53), CV.i IntKind.u8 (bs 54), CV.i IntKind.u8 (bs 55), CV.i IntKind.u8 (bs 56), CV.i IntKind.u8 (bs 57), CV.i IntKind.u8 (bs 58), CV.i IntKind.u8 (bs 59), CV.i IntKind.u8 (bs 60), CV.i IntKind.u8 (bs 61), CV.i IntKind.u8 (bs 62), CV.i IntKind.u8 (bs 63)][j']? with
                                                      | some c => zipCV (Nat.beq i' 0) c (Seg.f { st := 1, sz := 65, n := 512, f := durF (SS.dur (SS.new 2)) (SS.torn (SS.new 2)) } i' j')
                                                      | none => Seg.f { st := 1, sz := 65, n := 512, f := durF (SS.dur (SS.new 2)) (SS.torn (SS.new 2)) } i' j'
                                                    | false => Seg.f { st := 1, sz := 65, n := 512, f := durF (SS.dur (SS.new 2)) (SS.torn (SS.new 2)) } i' j')
                                                  1 0 [CV.i IntKind.u8 (bs 0), CV.i IntKind.u8 (bs 1), CV.i IntKind.u8 (bs 2), CV.i IntKind.u8 (bs 3), CV.i IntKind.u8 (bs 4), CV.i IntKind.u8 (bs 5), CV.i IntKind.u8 (bs 6), CV.i IntKind.u8 (bs 7), CV.i IntKind.u8 (bs 8), CV.i IntKind.u8 (bs 9), CV.i IntKind.u8 (bs 10), CV.i IntKind.u8 (bs 11), CV.i IntKind.u8 (bs 12), CV.i IntKind.u8 (bs 13), CV.i IntKind.u8 (bs 14), CV.i IntKind.u8 (bs 15), CV.i IntKind.u8 (bs 16), CV.i IntKind.u8 (bs 17), CV.i IntKind.u8 (bs 18), CV.i IntKind.u8 (bs 19), CV.i IntKind.u8 (bs 20), CV.i IntKind.u8 (bs 21), CV.i IntKind.u8 (bs 22), CV.i IntKind.u8 (bs 23), CV.i IntKind.u8 (bs 24), CV.i IntKind.u8 (bs 25), CV.i IntKind.u8 (bs 26), CV.i IntKind.u8 (bs 27), CV.i IntKind.u8 (bs 28), CV.i IntKind.u8 (bs 29), CV.i IntKind.u8 (bs 30), CV.i IntKind.u8 (bs 31), CV.i IntKind.u8 (bs 32), CV.i IntKind.u8 (bs 33), CV.i IntKind.u8 (bs 34), CV.i IntKind.u8 (bs 35), CV.i IntKind.u8 (bs 36), CV.i IntKind.u8 (bs 37), CV.i IntKind.u8 (bs 38), CV.i IntKind.u8 (bs 39), CV.i IntKind.u8 (bs 40), CV.i IntKind.u8 (bs 41), CV.i IntKind.u8 (bs 42), CV.i IntKind.u8 (bs 43), CV.i IntKind.u8 (bs 44), CV.i IntKind.u8 (bs 45), CV.i IntKind.u8 (bs 46), CV.i IntKind.u8 (bs 47), CV.i IntKind.u8 (bs 48), CV.i IntKind.u8 (bs 49), CV.i IntKind.u8 (bs 50), CV.i IntKind.u8 (bs 51), CV.i IntKind.u8 (bs 52), CV.i IntKind.u8 (bs 53), CV.i IntKind.u8 (bs 54), CV.i IntKind.u8 (bs 55), CV.i IntKind.u8 (bs 56), CV.i IntKind.u8 (bs 57), CV.i IntKind.u8 (bs 58), CV.i IntKind.u8 (bs 59), CV.i IntKind.u8 (bs 60), CV.i IntKind.u8 (bs 61), CV.i IntKind.u8 (bs 62), CV.i IntKind.u8 (bs 63)] },
                                            { st := 33281, sz := 1, n := 1, f := oneF (CV.opv (pB (SS.P (SS.new 2))) 66 (pW (SS.P (SS.new 2)))) }, { st := 33282, sz := 1, n := 512, f := latF (lB (SS.P (SS.new 2))) (lW (SS.P (SS.new 2))) }, { st := 33794, sz := 5, n := 1, f := tailF (Int.ofNat (List.length (SS.P (SS.new 2)))) (Int.ofNat (SS.wr (SS.new 2))) (SS.off (SS.new 2)) (SS.armed (SS.new 2)) (Int.ofNat (SS.left (SS.new 2))) }]))
                                      T.e T.e),
                                next := 3, log := [2, 2, 2] })
                            Orc.z) := by kernel_rfl

/-- A store of two sectors, both of these bytes. -/
noncomputable def SS.two (bs : Nat → Int) : SS := { SS.new 2 with dur := setD (setD (fun _ _ => 0) 0 bs) 1 bs }
noncomputable def twoO (bs : Nat → Int) : AObj :=
  .segs 73 33799 [⟨0, 1, 1, oneF (.i .i64 2)⟩, ⟨1, 65, 512, setRow (setRow (durF (fun _ _ => 0) fun _ => false) 0 0 (cellsB bs)) 1 0 (cellsB bs)⟩, ⟨33281, 1, 1, oneF (.opv false 66 (pW []))⟩, ⟨33282, 1, 512, latF (lB []) (lW [])⟩, ⟨33794, 5, 1, tailF 0 0 false false 0⟩]
theorem from2_con (N : Nat) (bs : Nat → Int) (hN : 64 ≤ N) : Con Try.prog 10 [.l 0 0 2 2 1 true] [some (cellsO 35 [.lr 1 1 0 64 false, .lr 1 1 0 64 false]), some (.rows 5 1 N fun k _ => .i .u8 (bs k))] (.tup [.p 2 0, .i .i64 0]) [.keep, .keep, .set (SS.two bs).o] := by
  have h : Con Try.prog 10 [.l 0 0 2 2 1 true] [some (cellsO 35 [.lr 1 1 0 64 false, .lr 1 1 0 64 false]), some (.rows 5 1 N fun k _ => .i .u8 (bs k))] (.tup [.p 2 0, .i .i64 0]) [.keep, .keep, .set (twoO bs)] :=
    con_of_run [] [2] ((from2_vc N bs _).mpr ⟨new2_con, ⟨Nat.le_refl _, by omega⟩, hN, trivial, trivial, trivial, ⟨by omega, by omega⟩, ⟨Nat.le_refl _, by omega⟩, hN, trivial, trivial, trivial, ⟨by omega, by omega⟩, _, _, rfl, ret_is (by kernel_rfl) rfl (by kernel_rfl) (by kernel_rfl) rfl ⟨by kernel_rfl, by kernel_rfl, by kernel_rfl, by kernel_rfl, by kernel_rfl, by kernel_rfl, trivial⟩⟩)
  exact h.post (.refl _) ⟨.refl _, .refl _, .segsW ⟨.refl _, ⟨rfl, rfl, rfl, fun i j _ hj => setB 1 bs i j hj (setB 0 bs i j hj (.refl _))⟩, .refl _, .refl _, .refl _, trivial⟩, trivial⟩

/-- Sixty-four bytes and two more. -/
noncomputable def ownF (c : Int) : Nat → Nat → CV := appZ 64 (fun i _ => .i .u8 (fB c i)) (listF 1 [.i .u8 91, .i .u8 92] 2)
noncomputable def fullB (c : Int) (i : Nat) : Int := if i < 64 then fB c i else if i = 64 then 91 else 92
theorem ownF_eq (c : Int) (i : Nat) (hi : i < 66) : ownF c i 0 = .i .u8 (fullB c i) := by
  unfold ownF
  have h2 : ∀ k, listF 1 [CV.i .u8 91, .i .u8 92] 2 k 0 = .i .u8 (if k = 0 then 91 else 92) := by
    intro k
    rw [listF_s]
    cases k with
    | zero => rfl
    | succ k => rfl
  rw [appZ_i (f := fun i _ => .i .u8 (fB c i)) (k := .u8) (a := fB c i) rfl (h2 (i - 64))]
  unfold fullB
  congr 1
  split
  · rfl
  · by_cases e : i = 64
    · subst e; rfl
    · rw [if_neg e, if_neg (by omega)]
theorem own_oeq (c : Int) : OEq (some (.rows 5 1 66 fun i _ => .i .u8 (fullB c i))) (some (.rows 5 1 66 (ownF c))) :=
  .rows fun i j hi hj => by
    obtain rfl : j = 0 := by omega
    exact (ownF_eq c i hi).symm

theorem from2o_con (c : Int) : Con Try.prog 10 [.l 0 0 2 2 1 true] [some (cellsO 35 [.lr 1 1 0 64 false, .lr 1 1 0 64 false]), some (.rows 5 1 66 (appZ 64 (fun i _ => .i .u8 (fB c i)) (listF 1 [.i .u8 91, .i .u8 92] 2)))] (.tup [.p 2 0, .i .i64 0]) [.keep, .keep, .set (SS.two (fullB c)).o] :=
  (from2_con 66 (fullB c) (by decide)).oeq ⟨.refl _, own_oeq c, trivial⟩ ⟨.refl _, own_oeq c, .refl _, trivial⟩
theorem write2o_con (c : Int) (bs : Nat → Int) : Con Try.prog 24 [.p 0 0, .i .i64 0, .lr 1 1 0 64 false] [some (SS.two bs).o, some (.rows 5 1 66 (appZ 64 (fun i _ => .i .u8 (fB c i)) (listF 1 [.i .u8 91, .i .u8 92] 2)))] (.i .i64 0) [.set ((SS.two bs).wrote 0 (fullB c)).o, .keep] := by
  have h := writeU_con (SS.two bs) 0 64 66 5 (fullB c) ⟨by show 2 ≤ 512; omega, by show 0 < _; omega, by show 0 < _; omega, by show 0 < _; omega, fun w hw => by cases hw⟩ (by decide)
  exact h.oeq ⟨.refl _, own_oeq c, trivial⟩ ⟨.refl _, own_oeq c, trivial⟩

end Go.Proofs.St

set_option maxRecDepth 20000
namespace Go.Proofs.St
open Go Go.Sim Go.Proofs

theorem xL_vc (s : SS) (c : Int) (L k : Nat) (ff : Nat → Nat → CV) (K : Res → Orc → Prop) : runK Try.prog 1000000 (.code (loopAt Try.prog 8 0) 203 (mkT [(0, .i .u8 c), (3, .lr 0 1
  0 L false), (4, .p 1 0), (56, .lr 0 1 0 L false), (57, .i .i64 (Int.ofNat L)), (58, .i .i64 (Int.ofNat k))]) (mkH [some (.rows 5 1 L ff), some s.o])) (Orc.s Orc.z Orc.z) K =
  ((decide (Int.ofNat k < Int.ofNat L) = true → ((0 : Int) ≤ Int.ofNat k ∧ Int.ofNat k < ↑L) ∧ k < L ∧ ((-9223372036854775808 : Int) ≤ Int.ofNat k + (1 : Int) ∧ Int.ofNat k + (1 :
  Int) ≤ (9223372036854775807 : Int)) ∧ K (Res.st XO.nrm (T.n (some (AV.i IntKind.u8 c)) (T.n none (T.n (some (AV.lr 0 1 0 L false)) (T.n none (T.n none (T.n none (T.n (some (AV.pr
  0 1 k 0)) T.e T.e) T.e) T.e) T.e) (T.n none T.e (T.n none T.e (T.n (some (AV.b (decide (Int.ofNat k < Int.ofNat L)))) T.e T.e)))) (T.n none (T.n none T.e (T.n none T.e (T.n (some
  (AV.i IntKind.i64 (Int.ofNat L))) T.e T.e))) (T.n none T.e (T.n none T.e (T.n (some (AV.lr 0 1 0 L false)) T.e T.e))))) (T.n none (T.n (some (AV.p 1 0)) (T.n none (T.n none (T.n
  none (T.n (some (AV.i IntKind.i64 (Int.ofNat k + (1 : Int)))) T.e T.e) T.e) T.e) (T.n none T.e (T.n (some (AV.lr 0 1 0 L false)) T.e T.e))) (T.n none T.e (T.n none T.e (T.n (some
  (AV.i IntKind.i64 (Int.ofNat k))) T.e T.e)))) (T.n (some (AV.i IntKind.i64 (Int.ofNat k))) (T.n none T.e (T.n none T.e (T.n (some (AV.i IntKind.i64 (Int.ofNat k + (1 : Int)))) T.e
  T.e))) (T.n none T.e (T.n none T.e (T.n (some (AV.i IntKind.i64 (Int.ofNat k))) T.e T.e)))))) { tree := T.n (some (AObj.rows 5 1 L (setRow ff k 0 [CV.i IntKind.u8 (120 : Int)]))) (T.n (some (AObj.segs 73 33799 [{ st := 0, sz := 1, n := 1, f := oneF (CV.i IntKind.i64 (Int.ofNat (SS.n s))) }, { st := 1, sz := 65, n := 512, f := durF (SS.dur s) (SS.torn s) }, { st := 33281, sz := 1, n := 1, f := oneF (CV.opv (pB (SS.P s)) 66 (pW (SS.P s))) }, { st := 33282, sz := 1, n := 512, f := latF (lB (SS.P s)) (lW (SS.P s)) }, { st := 33794, sz := 5, n := 1, f := tailF (Int.ofNat (List.length (SS.P s))) (Int.ofNat (SS.wr s)) (SS.off s) (SS.armed s) (Int.ofNat (SS.left s)) }])) T.e T.e) T.e, next := 2, log := [0] })
  Orc.z) ∧ (decide (Int.ofNat k < Int.ofNat L) = false → K (Res.st (XO.exit 0) (T.n (some (AV.i IntKind.u8 c)) (T.n none (T.n (some (AV.lr 0 1 0 L false)) T.e (T.n none T.e (T.n
  none T.e (T.n (some (AV.b (decide (Int.ofNat k < Int.ofNat L)))) T.e T.e)))) (T.n none (T.n none T.e (T.n none T.e (T.n (some (AV.i IntKind.i64 (Int.ofNat L))) T.e T.e))) T.e))
  (T.n none (T.n (some (AV.p 1 0)) (T.n none T.e (T.n none T.e (T.n (some (AV.lr 0 1 0 L false)) T.e T.e))) T.e) (T.n none (T.n none T.e (T.n none T.e (T.n (some (AV.i IntKind.i64
  (Int.ofNat k))) T.e T.e))) T.e))) { tree := T.n (some (AObj.rows 5 1 L ff)) (T.n (some (AObj.segs 73 33799 [{ st := 0, sz := 1, n := 1, f := oneF (CV.i IntKind.i64 (Int.ofNat (SS.n s))) }, { st := 1, sz := 65, n := 512, f := durF (SS.dur s) (SS.torn s) }, { st := 33281, sz := 1, n := 1, f := oneF (CV.opv (pB (SS.P s)) 66 (pW (SS.P s))) }, { st := 33282, sz := 1, n := 512, f := latF (lB (SS.P s)) (lW (SS.P s)) }, { st := 33794, sz := 5, n := 1, f := tailF (Int.ofNat (List.length (SS.P s))) (Int.ofNat (SS.wr s)) (SS.off s) (SS.armed s) (Int.ofNat (SS.left s)) }])) T.e T.e) T.e, next := 2, log := [] })
  Orc.z)) := by kernel_rfl

theorem x_lp (s : SS) (c : Int) (L : Nat) (ff : Nat → Nat → CV) (hL : L < 4611686018427387904) : LDoes Try.prog (loopAt Try.prog 8 0) 203 2 (mkT [(0, .i .u8 c), (3, .lr 0 1 0 L false), (4, .p 1 0), (56, .lr 0 1 0 L false), (57, .i .i64 (Int.ofNat L)), (58, .i .i64 0)]) [some (.rows 5 1 L ff), some s.o]
    (.exit 0) (mkT [(0, .i .u8 c), (4, .p 1 0)]) [none, some s.o] := by
  refine loop_indV (D := Nat × (Nat → Nat → CV)) (l' := [(0, .i .u8 c), (4, .p 1 0)]) (fun d => ([(0, .i .u8 c), (3, .lr 0 1 0 L false), (4, .p 1 0), (56, .lr 0 1 0 L false), (57, .i .i64 (Int.ofNat L)), (58, .i .i64 (Int.ofNat d.1))], [some (.rows 5 1 L d.2), some s.o])) (fun d => L - d.1)
    (fun d => d.1 ≤ L) ?_ (0, ff) (Nat.zero_le _)
  rintro ⟨k, f⟩ hk
  simp only at hk
  refine ⟨by simp, _, _, (xL_vc s c L k f _).mpr ⟨fun hlt => ?_, fun hge => ?_⟩⟩
  · have hlt : k < L := by simpa using hlt
    exact ⟨⟨by simp, by simp; omega⟩, hlt, ⟨by simp; omega, by simp; omega⟩, .inl ⟨(k + 1, setRow f k 0 [.i .u8 120]), [0, 1], [], _, _,
        [(0, .i .u8 c), (3, .lr 0 1 0 L false), (4, .p 1 0), (56, .lr 0 1 0 L false), (57, .i .i64 (Int.ofNat L)), (58, .i .i64 (Int.ofNat (k + 1)))], [some (.rows 5 1 L (setRow f k 0 [.i .u8 120])), some s.o], hlt, by simp only; omega, rfl,
        st_is [0, 1] (by kernel_rfl) rfl rfl rfl ⟨by kernel_rfl, by kernel_rfl, by kernel_rfl, by kernel_rfl, trivial⟩ rfl, .refl _, OVL.refl _⟩⟩
  · exact .inr ⟨[0, 1], [], _, _, [(0, .i .u8 c), (4, .p 1 0)], [none, some s.o], rfl, by simp, st_is [0, 1] (by kernel_rfl) rfl rfl rfl ⟨by kernel_rfl, by kernel_rfl, trivial⟩ rfl, .refl _, OVL.refl _⟩

end Go.Proofs.St

set_option maxRecDepth 20000
namespace Go.Proofs.St
open Go Go.Sim Go.Proofs

theorem yL_vc (c : Int) (k : Nat) (fa fp fq : Nat → Nat → CV) (bb d0 d1 : Nat → Int) (K : Res → Orc → Prop) : runK Try.prog 1000000 (.code (loopAt Try.prog 8 1) 203 (mkT [(0, .i
  .u8 c), (7, .lr 0 1 0 64 true), (9, .lr 1 1 0 64 true), (11, .l 2 0 2 2 1 true), (12, .l 5 0 2 2 1 true), (87, .lr 0 1 0 64 true), (88, .i .i64 (Int.ofNat 64)), (89, .i .i64
  (Int.ofNat k))]) (mkH [some (.rows 64 1 64 fa), some (.rows 64 1 64 fun k _ => .i .u8 (bb k)), some (cellsD 35 [.l0] [.lr 3 1 0 64 true, .lr 4 1 0 64 true]), some (.rows 64 1 64
  fp), some (.rows 64 1 64 fq), some (cellsD 35 [.l0] [.lr 6 1 0 64 true, .lr 7 1 0 64 true]), some (.rows 64 1 64 fun k _ => .i .u8 (d0 k)), some (.rows 64 1 64 fun k _ => .i .u8
  (d1 k))])) (Orc.s (Orc.c (Orc.c Orc.z)) Orc.z) K = ((decide (Int.ofNat k < (64 : Int)) = true → ((0 : Int) ≤ Int.ofNat k ∧ Int.ofNat k < (64 : Int)) ∧ k < 64 ∧ ((0 : Int) ≤
  Int.ofNat k ∧ Int.ofNat k < (64 : Int)) ∧ k < 64 ∧ ((0 : Int) ≤ Int.ofNat k ∧ Int.ofNat k < (64 : Int)) ∧ k < 64 ∧ ((-9223372036854775808 : Int) ≤ Int.ofNat k + (1 : Int) ∧
  Int.ofNat k + (1 : Int) ≤ (9223372036854775807 : Int)) ∧ K (Res.st XO.nrm (T.n (some (AV.i IntKind.u8 c)) (T.n none (T.n none (T.n (some (AV.lr 0 1 0 64 true)) (T.n none (T.n none
  T.e (T.n (some (AV.p 2 0)) T.e T.e)) T.e) (T.n none (T.n none T.e (T.n (some (AV.pr 3 1 k 0)) T.e T.e)) (T.n none (T.n (some (AV.lr 0 1 0 64 true)) T.e T.e) T.e))) (T.n (some
  (AV.l 2 0 2 2 1 true)) (T.n none (T.n none T.e (T.n (some (AV.p 2 1)) T.e T.e)) T.e) (T.n none T.e (T.n none (T.n (some (AV.i IntKind.i64 (Int.ofNat k))) T.e T.e) T.e)))) (T.n
  none (T.n (some (AV.lr 1 1 0 64 true)) (T.n none (T.n none T.e (T.n (some (AV.i IntKind.i64 (Int.ofNat k))) T.e T.e)) T.e) (T.n none (T.n none T.e (T.n (some (AV.i IntKind.i64
  (Int.ofNat k + (1 : Int)))) T.e T.e)) (T.n none (T.n (some (AV.i IntKind.i64 (Int.ofNat k + (1 : Int)))) T.e T.e) T.e))) (T.n (some (AV.i IntKind.i64 (Int.ofNat k))) (T.n none
  (T.n none T.e (T.n (some (AV.i IntKind.i64 (Int.ofNat k))) T.e T.e)) T.e) (T.n none T.e (T.n none (T.n (some (AV.i IntKind.i64 (Int.ofNat k))) T.e T.e) T.e))))) (T.n none (T.n
  none (T.n none (T.n none (T.n none T.e (T.n (some (AV.lr 3 1 0 64 true)) T.e T.e)) T.e) (T.n none (T.n none T.e (T.n (some (AV.pr 4 1 k 0)) T.e T.e)) (T.n none (T.n (some (AV.i
  IntKind.i64 (64 : Int))) T.e T.e) T.e))) (T.n (some (AV.l 5 0 2 2 1 true)) (T.n none (T.n none T.e (T.n (some (AV.lr 4 1 0 64 true)) T.e T.e)) T.e) (T.n none T.e (T.n none (T.n
  (some (AV.lr 0 1 0 64 true)) T.e T.e) T.e)))) (T.n none (T.n none (T.n none (T.n none T.e (T.n (some (AV.l 2 0 2 2 1 true)) T.e T.e)) T.e) (T.n none T.e (T.n none (T.n (some (AV.b
  (decide (Int.ofNat k < (64 : Int))))) T.e T.e) T.e))) (T.n none (T.n none (T.n none T.e (T.n (some (AV.pr 0 1 k 0)) T.e T.e)) T.e) (T.n none T.e (T.n none (T.n (some (AV.l 2 0 2 2
  1 true)) T.e T.e) T.e)))))) { tree := T.n (some (AObj.rows 64 1 64 (setRow fa k 0 [CV.i IntKind.u8 (97 : Int)]))) (T.n (some (AObj.rows 64 1 64 fun k x => CV.i IntKind.u8 (bb k))) (T.n (some (AObj.rows 64 1 64 (setRow fp k 0 [CV.i IntKind.u8 (112 : Int)]))) (T.n (some (AObj.rows 64 1 64 fun k x => CV.i IntKind.u8 (d1 k))) T.e T.e) T.e) (T.n (some (AObj.cells 35 2 [AV.l0] (T.n (some (AV.lr 6 1 0 64 true)) (T.n (some (AV.lr 7 1 0 64 true)) T.e T.e) T.e))) T.e T.e)) (T.n (some (AObj.cells 35 2 [AV.l0] (T.n (some (AV.lr 3 1 0 64 true)) (T.n (some (AV.lr 4 1 0 64 true)) T.e T.e) T.e))) (T.n (some (AObj.rows 64 1 64 (setRow fq k 0 [CV.i IntKind.u8 (113 : Int)]))) T.e T.e) (T.n (some (AObj.rows 64 1 64 fun k x => CV.i IntKind.u8 (d0 k))) T.e T.e)), next := 8, log := [4, 3, 0] })
  Orc.z) ∧ (decide (Int.ofNat k < (64 : Int)) = false → K (Res.st (XO.exit 2) (T.n (some (AV.i IntKind.u8 c)) (T.n none (T.n none (T.n (some (AV.lr 0 1 0 64 true)) T.e (T.n none T.e
  (T.n none (T.n (some (AV.lr 0 1 0 64 true)) T.e T.e) T.e))) (T.n (some (AV.l 2 0 2 2 1 true)) T.e T.e)) (T.n none (T.n (some (AV.lr 1 1 0 64 true)) T.e (T.n none T.e (T.n none
  (T.n (some (AV.i IntKind.i64 (Int.ofNat k))) T.e T.e) T.e))) T.e)) (T.n none (T.n none (T.n none T.e (T.n none T.e (T.n none (T.n (some (AV.i IntKind.i64 (64 : Int))) T.e T.e)
  T.e))) (T.n (some (AV.l 5 0 2 2 1 true)) T.e T.e)) (T.n none (T.n none T.e (T.n none T.e (T.n none (T.n (some (AV.b (decide (Int.ofNat k < (64 : Int))))) T.e T.e) T.e))) T.e))) { tree := T.n (some (AObj.rows 64 1 64 fa)) (T.n (some (AObj.rows 64 1 64 fun k x => CV.i IntKind.u8 (bb k))) (T.n (some (AObj.rows 64 1 64 fp)) (T.n (some (AObj.rows 64 1 64 fun k x => CV.i IntKind.u8 (d1 k))) T.e T.e) T.e) (T.n (some (AObj.cells 35 2 [AV.l0] (T.n (some (AV.lr 6 1 0 64 true)) (T.n (some (AV.lr 7 1 0 64 true)) T.e T.e) T.e))) T.e T.e)) (T.n (some (AObj.cells 35 2 [AV.l0] (T.n (some (AV.lr 3 1 0 64 true)) (T.n (some (AV.lr 4 1 0 64 true)) T.e T.e) T.e))) (T.n (some (AObj.rows 64 1 64 fq)) T.e T.e) (T.n (some (AObj.rows 64 1 64 fun k x => CV.i IntKind.u8 (d0 k))) T.e T.e)), next := 8, log := [] })
  Orc.z)) := by kernel_rfl

theorem y_lp (c : Int) (fa fp fq : Nat → Nat → CV) (bb d0 d1 : Nat → Int) : LDoes Try.prog (loopAt Try.prog 8 1) 203 8 (mkT [(0, .i .u8 c), (7, .lr 0 1 0 64 true), (9, .lr 1 1 0 64 true), (11, .l 2 0 2 2 1 true), (12, .l 5 0 2 2 1 true), (87, .lr 0 1 0 64 true), (88, .i .i64 64), (89, .i .i64 0)]) [some (.rows 64 1 64 fa), some (.rows 64 1 64 fun k _ => .i .u8 (bb k)), some (cellsD 35 [.l0] [.lr 3 1 0 64 true, .lr 4 1 0 64 true]), some (.rows 64 1 64 fp), some (.rows 64 1 64 fq), some (cellsD 35 [.l0] [.lr 6 1 0 64 true, .lr 7 1 0 64 true]), some (.rows 64 1 64 fun k _ => .i .u8 (d0 k)), some (.rows 64 1 64 fun k _ => .i .u8 (d1 k))]
    (.exit 2) (mkT [(0, .i .u8 c), (7, .lr 0 1 0 64 true), (9, .lr 1 1 0 64 true), (11, .l 2 0 2 2 1 true), (12, .l 5 0 2 2 1 true)]) [some (.rows 64 1 64 fun _ _ => .i .u8 97), some (.rows 64 1 64 fun k _ => .i .u8 (bb k)), some (cellsD 35 [.l0] [.lr 3 1 0 64 true, .lr 4 1 0 64 true]), some (.rows 64 1 64 fun _ _ => .i .u8 112), some (.rows 64 1 64 fun _ _ => .i .u8 113), some (cellsD 35 [.l0] [.lr 6 1 0 64 true, .lr 7 1 0 64 true]), some (.rows 64 1 64 fun k _ => .i .u8 (d0 k)), some (.rows 64 1 64 fun k _ => .i .u8 (d1 k))] := by
  refine loop_indV (D := Nat × (Nat → Nat → CV) × (Nat → Nat → CV) × (Nat → Nat → CV)) (l' := [(0, .i .u8 c), (7, .lr 0 1 0 64 true), (9, .lr 1 1 0 64 true), (11, .l 2 0 2 2 1 true), (12, .l 5 0 2 2 1 true)]) (fun d => ([(0, .i .u8 c), (7, .lr 0 1 0 64 true), (9, .lr 1 1 0 64 true), (11, .l 2 0 2 2 1 true), (12, .l 5 0 2 2 1 true), (87, .lr 0 1 0 64 true), (88, .i .i64 64), (89, .i .i64 (Int.ofNat d.1))], [some (.rows 64 1 64 d.2.1), some (.rows 64 1 64 fun k _ => .i .u8 (bb k)), some (cellsD 35 [.l0] [.lr 3 1 0 64 true, .lr 4 1 0 64 true]), some (.rows 64 1 64 d.2.2.1), some (.rows 64 1 64 d.2.2.2), some (cellsD 35 [.l0] [.lr 6 1 0 64 true, .lr 7 1 0 64 true]), some (.rows 64 1 64 fun k _ => .i .u8 (d0 k)), some (.rows 64 1 64 fun k _ => .i .u8 (d1 k))])) (fun d => 64 - d.1)
    (fun d => d.1 ≤ 64 ∧ (∀ i, i < d.1 → CW (d.2.1 i 0) (.i .u8 97)) ∧ (∀ i, i < d.1 → CW (d.2.2.1 i 0) (.i .u8 112)) ∧ (∀ i, i < d.1 → CW (d.2.2.2 i 0) (.i .u8 113))) ?_ (0, fa, fp, fq) ⟨Nat.zero_le _, fun i hi => absurd hi (Nat.not_lt_zero i), fun i hi => absurd hi (Nat.not_lt_zero i), fun i hi => absurd hi (Nat.not_lt_zero i)⟩
  rintro ⟨k, ga, gp, gq⟩ ⟨hk, h1, h2, h3⟩
  simp only at hk h1 h2 h3
  have up : ∀ (g : Nat → Nat → CV) (x : Int), (∀ i, i < k → CW (g i 0) (.i .u8 x)) → ∀ i, i < k + 1 → CW (setRow g k 0 [.i .u8 x] i 0) (.i .u8 x) := by
    intro g x hg i hi
    show CW (zipCV (Nat.beq i k) (.i .u8 x) (g i 0)) _
    refine (zipCV_CW _ _ _).trans ?_
    cases hb : Nat.beq i k with
    | true => exact .refl _
    | false =>
      have e : i ≠ k := by rintro rfl; simp at hb
      exact hg i (by omega)
  refine ⟨by simp, _, _, (yL_vc c k ga gp gq bb d0 d1 _).mpr ⟨fun hlt => ?_, fun hge => ?_⟩⟩
  · have hlt : k < 64 := by simp at hlt; omega
    have b1 : (0 : Int) ≤ Int.ofNat k ∧ Int.ofNat k < 64 := ⟨by simp, by simp; omega⟩
    exact ⟨b1, hlt, b1, hlt, b1, hlt, ⟨by simp; omega, by simp; omega⟩, .inl ⟨(k + 1, setRow ga k 0 [.i .u8 97], setRow gp k 0 [.i .u8 112], setRow gq k 0 [.i .u8 113]), [0, 1, 2, 3, 4, 5, 6, 7], [], _, _,
        [(0, .i .u8 c), (7, .lr 0 1 0 64 true), (9, .lr 1 1 0 64 true), (11, .l 2 0 2 2 1 true), (12, .l 5 0 2 2 1 true), (87, .lr 0 1 0 64 true), (88, .i .i64 64), (89, .i .i64 (Int.ofNat (k + 1)))], [some (.rows 64 1 64 (setRow ga k 0 [.i .u8 97])), some (.rows 64 1 64 fun k _ => .i .u8 (bb k)), some (cellsD 35 [.l0] [.lr 3 1 0 64 true, .lr 4 1 0 64 true]), some (.rows 64 1 64 (setRow gp k 0 [.i .u8 112])), some (.rows 64 1 64 (setRow gq k 0 [.i .u8 113])), some (cellsD 35 [.l0] [.lr 6 1 0 64 true, .lr 7 1 0 64 true]), some (.rows 64 1 64 fun k _ => .i .u8 (d0 k)), some (.rows 64 1 64 fun k _ => .i .u8 (d1 k))], ⟨hlt, up ga 97 h1, up gp 112 h2, up gq 113 h3⟩, by simp only; omega, rfl,
        st_is [0, 1, 2, 3, 4, 5, 6, 7] (by kernel_rfl) rfl rfl rfl ⟨by kernel_rfl, by kernel_rfl, by kernel_rfl, by kernel_rfl, by kernel_rfl, by kernel_rfl, by kernel_rfl, by kernel_rfl, by kernel_rfl, by kernel_rfl, by kernel_rfl, by kernel_rfl, by kernel_rfl, by kernel_rfl, by kernel_rfl, by kernel_rfl, trivial⟩ rfl, .refl _, OVL.refl _⟩⟩
  · have : k = 64 := by simp at hge; omega
    subst this
    refine .inr ⟨[0, 1, 2, 3, 4, 5, 6, 7], [], _, _, [(0, .i .u8 c), (7, .lr 0 1 0 64 true), (9, .lr 1 1 0 64 true), (11, .l 2 0 2 2 1 true), (12, .l 5 0 2 2 1 true)], [some (.rows 64 1 64 ga), some (.rows 64 1 64 fun k _ => .i .u8 (bb k)), some (cellsD 35 [.l0] [.lr 3 1 0 64 true, .lr 4 1 0 64 true]), some (.rows 64 1 64 gp), some (.rows 64 1 64 gq), some (cellsD 35 [.l0] [.lr 6 1 0 64 true, .lr 7 1 0 64 true]), some (.rows 64 1 64 fun k _ => .i .u8 (d0 k)), some (.rows 64 1 64 fun k _ => .i .u8 (d1 k))], rfl, by simp, st_is [0, 1, 2, 3, 4, 5, 6, 7] (by kernel_rfl) rfl rfl rfl ⟨by kernel_rfl, by kernel_rfl, by kernel_rfl, by kernel_rfl, by kernel_rfl, by kernel_rfl, by kernel_rfl, by kernel_rfl, by kernel_rfl, by kernel_rfl, by kernel_rfl, by kernel_rfl, by kernel_rfl, by kernel_rfl, by kernel_rfl, by kernel_rfl, trivial⟩ rfl, .refl _,
      .rowsW fun i j hi hj => ?_, .refl _, .refl _, .rowsW fun i j hi hj => ?_, .rowsW fun i j hi hj => ?_, .refl _, .refl _, .refl _, trivial⟩
    · obtain rfl : j = 0 := by omega
      exact h1 i hi
    · obtain rfl : j = 0 := by omega
      exact h2 i hi
    · obtain rfl : j = 0 := by omega
      exact h3 i hi

end Go.Proofs.St

set_option maxRecDepth 20000
namespace Go.Proofs.St
open Go Go.Sim Go.Proofs

theorem zA_vc (c : Int) (fa fp : Nat → Nat → CV) (bb d0 d1 : Nat → Int) (K : Res → Orc → Prop) : runK Try.prog 1000000 (.code (loopAt Try.prog 8 2) 203 (mkT [(0, .i .u8 c), (7, .lr
  0 1 0 64 true), (9, .lr 1 1 0 64 true), (11, .l 2 0 2 2 1 true), (12, .l 5 0 2 2 1 true), (14, .i .i64 0)]) (mkH [some (.rows 64 1 64 fa), some (.rows 64 1 64 fun k _ => .i .u8
  (bb k)), some (cellsD 35 [.l0] [.lr 3 1 0 64 true, .lr 4 1 0 64 true]), some (.rows 64 1 64 fp), some (.rows 64 1 64 fun _ _ => .i .u8 113), some (cellsD 35 [.l0] [.lr 6 1 0 64
  true, .lr 7 1 0 64 true]), some (.rows 64 1 64 fun k _ => .i .u8 (d0 k)), some (.rows 64 1 64 fun k _ => .i .u8 (d1 k))])) (Orc.c (Orc.c (Orc.c Orc.z))) K = ((64 ≤ 64 ∧ True ∧ 65
  ≤ 140737488355328 ∧ 898 ≤ 281474976710656) ∧ (64 ≤ 64 ∧ True ∧ 65 ≤ 140737488355328 ∧ 898 ≤ 281474976710656) ∧ ((-9223372036854775808 : Int) ≤ (1 : Int) ∧ (1 : Int) ≤
  (9223372036854775807 : Int)) ∧ K (Res.st XO.nrm (T.n (some (AV.i IntKind.u8 c)) (T.n none (T.n none (T.n (some (AV.lr 9 1 0 65 false)) (T.n none T.e (T.n none T.e (T.n (some
  (AV.lr 0 1 0 64 true)) T.e T.e))) (T.n none T.e (T.n none T.e (T.n (some (AV.p 2 0)) T.e T.e)))) (T.n (some (AV.l 2 0 2 2 1 true)) (T.n none T.e (T.n none T.e (T.n (some (AV.p 2
  0)) T.e T.e))) (T.n none (T.n none T.e (T.n (some (AV.b true)) T.e T.e)) T.e))) (T.n none (T.n (some (AV.lr 1 1 0 64 true)) (T.n none T.e (T.n none T.e (T.n (some (AV.lr 9 1 0 65
  false)) T.e T.e))) T.e) (T.n none (T.n none T.e (T.n none T.e (T.n (some (AV.l 10 0 1 1 1 true)) T.e T.e))) (T.n none (T.n none T.e (T.n (some (AV.i IntKind.i64 (1 : Int))) T.e
  T.e)) T.e)))) (T.n none (T.n none (T.n none (T.n none T.e (T.n none T.e (T.n (some (AV.l 8 0 1 1 1 true)) T.e T.e))) T.e) (T.n (some (AV.l 5 0 2 2 1 true)) (T.n none T.e (T.n none
  T.e (T.n (some (AV.lr 3 1 0 64 true)) T.e T.e))) (T.n none (T.n none T.e (T.n (some (AV.i IntKind.i64 (0 : Int))) T.e T.e)) T.e))) (T.n none (T.n none (T.n none T.e (T.n none T.e
  (T.n (some (AV.l 2 0 2 2 1 true)) T.e T.e))) (T.n none (T.n none T.e (T.n (some (AV.i IntKind.i64 (0 : Int))) T.e T.e)) T.e)) (T.n (some (AV.i IntKind.i64 (1 : Int))) (T.n none
  T.e (T.n none T.e (T.n (some (AV.lr 11 1 0 65 false)) T.e T.e))) (T.n none (T.n none T.e (T.n (some (AV.l 2 0 2 2 1 true)) T.e T.e)) T.e))))) { tree := T.n none (T.n (some (AObj.rows 64 1 64 fun k x => CV.i IntKind.u8 (bb k))) (T.n none (T.n (some (AObj.rows 64 1 64 fun k x => CV.i IntKind.u8 (d1 k))) T.e T.e) (T.n (some (AObj.rows 5 1 65 (appZ 64 fp fun x j => List.getD [CV.i IntKind.u8 (122 : Int)] j CV.p0))) T.e T.e)) (T.n (some (AObj.cells 35 2 [AV.l0] (T.n (some (AV.lr 6 1 0 64 true)) (T.n (some (AV.lr 7 1 0 64 true)) T.e T.e) T.e))) (T.n (some (AObj.rows 5 1 65 (appZ 64 fa fun x j => List.getD [CV.i IntKind.u8 (122 : Int)] j CV.p0))) T.e T.e) T.e)) (T.n (some (AObj.cells 35 2 [AV.l0] (T.n (some (AV.lr 11 1 0 65 false)) (T.n (some (AV.lr 4 1 0 64 true)) T.e T.e) T.e))) (T.n (some (AObj.rows 64 1 64 fun x x_1 => CV.i IntKind.u8 (113 : Int))) (T.n (some (AObj.cells 5 1 [] (T.n (some (AV.i IntKind.u8 (122 : Int))) T.e T.e))) T.e T.e) T.e) (T.n (some (AObj.rows 64 1 64 fun k x => CV.i IntKind.u8 (d0 k))) (T.n (some (AObj.cells 5 1 [] (T.n (some (AV.i IntKind.u8 (122 : Int))) T.e T.e))) T.e T.e) T.e)), next := 12, log := [2, 11, 3, 10, 9, 0, 8] })
  Orc.z) := by kernel_rfl

theorem zB_vc (c : Int) (k n m : Nat) (fa fp : Nat → Nat → CV) (bb d0 d1 : Nat → Int) (K : Res → Orc → Prop) : runK Try.prog 1000000 (.code (loopAt Try.prog 8 2) 203 (mkT [(0, .i
  .u8 c), (7, .lr 0 1 0 n false), (9, .lr 1 1 0 64 true), (11, .l 2 0 2 2 1 true), (12, .l 5 0 2 2 1 true), (14, .i .i64 (Int.ofNat k))]) (mkH [some (.rows 5 1 n fa), some (.rows 64
  1 64 fun k _ => .i .u8 (bb k)), some (cellsD 35 [.l0] [.lr 3 1 0 m false, .lr 4 1 0 64 true]), some (.rows 5 1 m fp), some (.rows 64 1 64 fun _ _ => .i .u8 113), some (cellsD 35
  [.l0] [.lr 6 1 0 64 true, .lr 7 1 0 64 true]), some (.rows 64 1 64 fun k _ => .i .u8 (d0 k)), some (.rows 64 1 64 fun k _ => .i .u8 (d1 k))])) (Orc.s (Orc.c (Orc.c Orc.z)) Orc.z)
  K = ((decide (Int.ofNat k < (70 : Int)) = true → (0 + n ≤ n ∧ True ∧ n + 1 ≤ 140737488355328 ∧ (2 * (n + 1) + 768) * 1 ≤ 281474976710656) ∧ (0 + m ≤ m ∧ True ∧ m + 1 ≤
  140737488355328 ∧ (2 * (m + 1) + 768) * 1 ≤ 281474976710656) ∧ ((-9223372036854775808 : Int) ≤ Int.ofNat k + (1 : Int) ∧ Int.ofNat k + (1 : Int) ≤ (9223372036854775807 : Int)) ∧ K
  (Res.st XO.nrm (T.n (some (AV.i IntKind.u8 c)) (T.n none (T.n none (T.n (some (AV.lr 9 1 0 (addN n 1) false)) (T.n none T.e (T.n none T.e (T.n (some (AV.lr 0 1 0 n false)) T.e
  T.e))) (T.n none T.e (T.n none T.e (T.n (some (AV.p 2 0)) T.e T.e)))) (T.n (some (AV.l 2 0 2 2 1 true)) (T.n none T.e (T.n none T.e (T.n (some (AV.p 2 0)) T.e T.e))) (T.n none
  (T.n none T.e (T.n (some (AV.b (decide (Int.ofNat k < (70 : Int))))) T.e T.e)) T.e))) (T.n none (T.n (some (AV.lr 1 1 0 64 true)) (T.n none T.e (T.n none T.e (T.n (some (AV.lr 9 1
  0 (addN n 1) false)) T.e T.e))) T.e) (T.n none (T.n none T.e (T.n none T.e (T.n (some (AV.l 10 0 1 1 1 true)) T.e T.e))) (T.n none (T.n none T.e (T.n (some (AV.i IntKind.i64
  (Int.ofNat k + (1 : Int)))) T.e T.e)) T.e)))) (T.n none (T.n none (T.n none (T.n none T.e (T.n none T.e (T.n (some (AV.l 8 0 1 1 1 true)) T.e T.e))) T.e) (T.n (some (AV.l 5 0 2 2
  1 true)) (T.n none T.e (T.n none T.e (T.n (some (AV.lr 3 1 0 m false)) T.e T.e))) (T.n none (T.n none T.e (T.n (some (AV.i IntKind.i64 (Int.ofNat k))) T.e T.e)) T.e))) (T.n none
  (T.n none (T.n none T.e (T.n none T.e (T.n (some (AV.l 2 0 2 2 1 true)) T.e T.e))) (T.n none (T.n none T.e (T.n (some (AV.i IntKind.i64 (Int.ofNat k))) T.e T.e)) T.e)) (T.n (some
  (AV.i IntKind.i64 (Int.ofNat k + (1 : Int)))) (T.n none T.e (T.n none T.e (T.n (some (AV.lr 11 1 0 (addN m 1) false)) T.e T.e))) (T.n none (T.n none T.e (T.n (some (AV.l 2 0 2 2 1
  true)) T.e T.e)) T.e))))) { tree := T.n none (T.n (some (AObj.rows 64 1 64 fun k x => CV.i IntKind.u8 (bb k))) (T.n none (T.n (some (AObj.rows 64 1 64 fun k x => CV.i IntKind.u8 (d1 k))) T.e T.e) (T.n (some (AObj.rows 5 1 (addN m 1) (appZ m fp fun x j => List.getD [CV.i IntKind.u8 (122 : Int)] j CV.p0))) T.e T.e)) (T.n (some (AObj.cells 35 2 [AV.l0] (T.n (some (AV.lr 6 1 0 64 true)) (T.n (some (AV.lr 7 1 0 64 true)) T.e T.e) T.e))) (T.n (some (AObj.rows 5 1 (addN n 1) (appZ n fa fun x j => List.getD [CV.i IntKind.u8 (122 : Int)] j CV.p0))) T.e T.e) T.e)) (T.n (some (AObj.cells 35 2 [AV.l0] (T.n (some (AV.lr 11 1 0 (addN m 1) false)) (T.n (some (AV.lr 4 1 0 64 true)) T.e T.e) T.e))) (T.n (some (AObj.rows 64 1 64 fun x x_1 => CV.i IntKind.u8 (113 : Int))) (T.n (some (AObj.cells 5 1 [] (T.n (some (AV.i IntKind.u8 (122 : Int))) T.e T.e))) T.e T.e) T.e) (T.n (some (AObj.rows 64 1 64 fun k x => CV.i IntKind.u8 (d0 k))) (T.n (some (AObj.cells 5 1 [] (T.n (some (AV.i IntKind.u8 (122 : Int))) T.e T.e))) T.e T.e) T.e)), next := 12, log := [2, 11, 3, 10, 9, 0, 8] })
  Orc.z) ∧ (decide (Int.ofNat k < (70 : Int)) = false → K (Res.st (XO.exit 4) (T.n (some (AV.i IntKind.u8 c)) (T.n none (T.n none (T.n (some (AV.lr 0 1 0 n false)) T.e T.e) (T.n
  (some (AV.l 2 0 2 2 1 true)) T.e (T.n none (T.n none T.e (T.n (some (AV.b (decide (Int.ofNat k < (70 : Int))))) T.e T.e)) T.e))) (T.n none (T.n (some (AV.lr 1 1 0 64 true)) T.e
  T.e) T.e)) (T.n none (T.n none T.e (T.n (some (AV.l 5 0 2 2 1 true)) T.e T.e)) (T.n none (T.n none T.e (T.n none (T.n none T.e (T.n (some (AV.i IntKind.i64 (Int.ofNat k))) T.e
  T.e)) T.e)) (T.n (some (AV.i IntKind.i64 (Int.ofNat k))) T.e T.e)))) { tree := T.n (some (AObj.rows 5 1 n fa)) (T.n (some (AObj.rows 64 1 64 fun k x => CV.i IntKind.u8 (bb k))) (T.n (some (AObj.rows 5 1 m fp)) (T.n (some (AObj.rows 64 1 64 fun k x => CV.i IntKind.u8 (d1 k))) T.e T.e) T.e) (T.n (some (AObj.cells 35 2 [AV.l0] (T.n (some (AV.lr 6 1 0 64 true)) (T.n (some (AV.lr 7 1 0 64 true)) T.e T.e) T.e))) T.e T.e)) (T.n (some (AObj.cells 35 2 [AV.l0] (T.n (some (AV.lr 3 1 0 m false)) (T.n (some (AV.lr 4 1 0 64 true)) T.e T.e) T.e))) (T.n (some (AObj.rows 64 1 64 fun x x_1 => CV.i IntKind.u8 (113 : Int))) T.e T.e) (T.n (some (AObj.rows 64 1 64 fun k x => CV.i IntKind.u8 (d0 k))) T.e T.e)), next := 8, log := [] })
  Orc.z)) := by kernel_rfl

def zT (c : Int) (n : Nat) (ex : Bool) (k : Nat) : List (Nat × AV) := [(0, .i .u8 c), (7, .lr 0 1 0 n ex), (9, .lr 1 1 0 64 true), (11, .l 2 0 2 2 1 true), (12, .l 5 0 2 2 1 true), (14, .i .i64 (Int.ofNat k))]
noncomputable def zO' (e : TypeId) (ex : Bool) (n m : Nat) (fa fp : Nat → Nat → CV) (bb d0 d1 : Nat → Int) : List (Option AObj) :=
  [some (.rows e 1 n fa), some (.rows 64 1 64 fun k _ => .i .u8 (bb k)), some (cellsD 35 [.l0] [.lr 3 1 0 m ex, .lr 4 1 0 64 true]), some (.rows e 1 m fp), some (.rows 64 1 64 fun _ _ => .i .u8 113), some (cellsD 35 [.l0] [.lr 6 1 0 64 true, .lr 7 1 0 64 true]), some (.rows 64 1 64 fun k _ => .i .u8 (d0 k)), some (.rows 64 1 64 fun k _ => .i .u8 (d1 k))]
noncomputable def zI (c : Int) (fa fp : Nat → Nat → CV) (bb d0 d1 : Nat → Int) : Option (Nat × Nat × Nat × (Nat → Nat → CV) × (Nat → Nat → CV)) → List (Nat × AV) × List (Option AObj)
  | none => (zT c 64 true 0, zO' 64 true 64 64 fa fp bb d0 d1)
  | some q => (zT c q.2.1 false q.1, zO' 5 false q.2.1 q.2.2.1 q.2.2.2.1 q.2.2.2.2 bb d0 d1)

theorem z_lp (c : Int) (fa fp : Nat → Nat → CV) (bb d0 d1 : Nat → Int) : LDoes Try.prog (loopAt Try.prog 8 2) 203 0 (mkT [(0, .i .u8 c), (7, .lr 0 1 0 64 true), (9, .lr 1 1 0 64 true), (11, .l 2 0 2 2 1 true), (12, .l 5 0 2 2 1 true), (14, .i .i64 0)]) (zO' 64 true 64 64 fa fp bb d0 d1)
    (.exit 4) (mkT [(0, .i .u8 c), (9, .lr 0 1 0 64 true), (12, .l 1 0 2 2 1 true)]) [some (.rows 64 1 64 fun k _ => .i .u8 (bb k)), some (cellsD 35 [.l0] [.lr 2 1 0 64 true, .lr 3 1 0 64 true]), some (.rows 64 1 64 fun k _ => .i .u8 (d0 k)), some (.rows 64 1 64 fun k _ => .i .u8 (d1 k))] := by
  refine loop_indV (D := Option (Nat × Nat × Nat × (Nat → Nat → CV) × (Nat → Nat → CV))) (l' := [(0, .i .u8 c), (9, .lr 0 1 0 64 true), (12, .l 1 0 2 2 1 true)]) (zI c fa fp bb d0 d1) (fun d => match d with | none => 71 | some q => 70 - q.1)
    (fun d => match d with | none => True | some q => q.1 ≤ 70 ∧ q.2.1 = 64 + q.1 ∧ q.2.2.1 = 64 + q.1) ?_ none trivial
  rintro (_ | ⟨k, n, m, ga, gp⟩) hd
  · refine ⟨Nat.zero_le _, _, _, (zA_vc c fa fp bb d0 d1 _).mpr ⟨⟨Nat.le_refl _, trivial, by omega, by omega⟩, ⟨Nat.le_refl _, trivial, by omega, by omega⟩, ⟨by omega, by omega⟩, .inl ⟨some (1, 65, 65, appZ 64 fa fun x j => List.getD [CV.i .u8 122] j CV.p0, appZ 64 fp fun x j => List.getD [CV.i .u8 122] j CV.p0), [9, 1, 2, 11, 4, 5, 6, 7], [], _, _, zT c 65 false 1, zO' 5 false 65 65 (appZ 64 fa fun x j => List.getD [CV.i .u8 122] j CV.p0) (appZ 64 fp fun x j => List.getD [CV.i .u8 122] j CV.p0) bb d0 d1, ⟨by omega, rfl, rfl⟩, by simp only; omega, rfl,
      st_is [9, 1, 2, 11, 4, 5, 6, 7] (by kernel_rfl) rfl rfl rfl ⟨by kernel_rfl, by kernel_rfl, by kernel_rfl, by kernel_rfl, by kernel_rfl, by kernel_rfl, by kernel_rfl, by kernel_rfl, by kernel_rfl, by kernel_rfl, by kernel_rfl, by kernel_rfl, by kernel_rfl, by kernel_rfl, by kernel_rfl, by kernel_rfl, trivial⟩ rfl, .refl _, OVL.refl _⟩⟩⟩
  · simp only at hd
    obtain ⟨h1, h2, h3⟩ := hd
    refine ⟨Nat.zero_le _, _, _, (zB_vc c k n m ga gp bb d0 d1 _).mpr ⟨fun hlt => ?_, fun hge => ?_⟩⟩
    · have hlt : k < 70 := by simp at hlt; omega
      refine ⟨⟨by omega, trivial, by omega, by omega⟩, ⟨by omega, trivial, by omega, by omega⟩, ⟨by simp; omega, by simp; omega⟩, .inl ⟨some (k + 1, addN n 1, addN m 1, appZ n ga fun x j => List.getD [CV.i .u8 122] j CV.p0, appZ m gp fun x j => List.getD [CV.i .u8 122] j CV.p0), [9, 1, 2, 11, 4, 5, 6, 7], [], _, _, zT c (addN n 1) false (k + 1), zO' 5 false (addN n 1) (addN m 1) (appZ n ga fun x j => List.getD [CV.i .u8 122] j CV.p0) (appZ m gp fun x j => List.getD [CV.i .u8 122] j CV.p0) bb d0 d1, ⟨by omega, by simp only [addN_eq]; omega, by simp only [addN_eq]; omega⟩, by simp only; omega, rfl,
        st_is [9, 1, 2, 11, 4, 5, 6, 7] (by kernel_rfl) rfl rfl rfl ⟨by kernel_rfl, by kernel_rfl, by kernel_rfl, by kernel_rfl, by kernel_rfl, by kernel_rfl, by kernel_rfl, by kernel_rfl, by kernel_rfl, by kernel_rfl, by kernel_rfl, by kernel_rfl, by kernel_rfl, by kernel_rfl, by kernel_rfl, by kernel_rfl, trivial⟩ rfl, .refl _, OVL.refl _⟩⟩
    · exact .inr ⟨[1, 5, 6, 7], [], _, _, [(0, .i .u8 c), (9, .lr 0 1 0 64 true), (12, .l 1 0 2 2 1 true)], [some (.rows 64 1 64 fun k _ => .i .u8 (bb k)), some (cellsD 35 [.l0] [.lr 2 1 0 64 true, .lr 3 1 0 64 true]), some (.rows 64 1 64 fun k _ => .i .u8 (d0 k)), some (.rows 64 1 64 fun k _ => .i .u8 (d1 k))], rfl, by simp,
        st_is [1, 5, 6, 7] (by kernel_rfl) rfl rfl rfl ⟨by kernel_rfl, by kernel_rfl, by kernel_rfl, by kernel_rfl, by kernel_rfl, by kernel_rfl, by kernel_rfl, by kernel_rfl, trivial⟩ rfl, .refl _, OVL.refl _⟩

end Go.Proofs.St
