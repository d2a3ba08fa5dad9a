/- Runs over unknown values, told by the kernel: part JnA. -/
import Derived.Test.YtpoedikibkhmcaaDoorCdA
set_option linter.unusedSimpArgs false
set_option linter.unusedVariables false
set_option maxRecDepth 20000
namespace Go.Proofs.Jn
open Go Go.Sim Go.Proofs Go.Proofs.Cd Go.Proofs.St Go.Proofs.YtpoedikibkhmcaaDoor
theorem sealF_by (gg : Nat → Nat → CV) (b : Nat → Nat) (h : ∀ k, gg k 0 = .i .u8 (Int.ofNat (b k))) (i : Nat) : sealF gg i 0 = .i .u8 (Int.ofNat (bif Nat.blt i 60 then b i else fourB (sumN b 60) (i - 60))) := by
  have e : sumN (bOf gg) 60 = sumN b 60 := sumN_congr fun k _ => by
    show cvN (gg k 0) = b k
    rw [h k]; exact Eq.refl (b k)
  unfold sealF
  rw [e]
  refine (appZ_i (h i) (Eq.refl _)).trans ?_
  by_cases c : i < 60
  · rw [if_pos c, show Nat.blt i 60 = true from by rw [Nat.blt_eq]; exact c, cond_true]
  · rw [if_neg c, show Nat.blt i 60 = false from by rw [Bool.eq_false_iff, ne_eq, Nat.blt_eq]; exact c, cond_false]
theorem seal60R_con (gg : Nat → Nat → CV) (h : IsBy 60 gg) : Con Tryd.prog 92 [.lr 0 1 0 60 false] [some (.rows 5 1 60 gg)] (.sv 1 64 (sealF gg)) [.gone] :=
  ((seal60_con gg h).slot rfl (by kernel_rfl) (by kernel_rfl)).thaw (us0 := [.gone]) 0 (e := 5) (sz := 1) (n := 60) (f := gg) rfl ⟨rfl, trivial⟩ ⟨.inr ⟨by kernel_rfl, ⟨rfl, by omega⟩, rfl⟩, trivial⟩ rfl
noncomputable def pbodyB (gen num idx np m : Nat) (b : Nat → Nat) (k : Nat) : Nat :=
  bif Nat.ble 11 k && Nat.blt k (11 + m) then b (k - 11) else
  bif Nat.beq k 10 then m % 256 else
  bif Nat.beq k 9 then np % 256 else
  bif Nat.beq k 8 then idx % 256 else
  bif Nat.ble 4 k && Nat.blt k 8 then fourB (num % 4294967296) (k - 4) else
  bif Nat.ble 0 k && Nat.blt k 4 then fourB (gen % 4294967296) k else 0
noncomputable def psecB (gen num idx np m : Nat) (b : Nat → Nat) (k : Nat) : Nat := bif Nat.blt k 60 then pbodyB gen num idx np m b k else fourB (sumN (pbodyB gen num idx np m b) 60) (k - 60)
noncomputable def pbodyF (gen num idx np m : Nat) (b : Nat → Nat) : Nat → Nat → CV := copyF 11 m (fun k x => CV.i IntKind.u8 (Int.ofNat (b k))) (setRow (setRow (setRow (copyF 4 4 (fun k x => CV.i IntKind.u8 (Int.ofNat (fourB (Int.toNat (wrapA IntKind.u32 (Int.ofNat num))) k))) (copyF 0 4 (fun k x => CV.i IntKind.u8 (Int.ofNat (fourB (Int.toNat (wrapA IntKind.u32 (Int.ofNat gen))) k))) fun x j => List.getD [CV.i IntKind.u8 (0 : Int)] j CV.p0)) 8 0 [CV.i IntKind.u8 (wrapA IntKind.u8 (Int.ofNat idx))]) 9 0 [CV.i IntKind.u8 (wrapA IntKind.u8 (Int.ofNat np))]) 10 0 [CV.i IntKind.u8 (wrapA IntKind.u8 (Int.ofNat m))])
theorem pbodyF_at (gen num idx np m : Nat) (b : Nat → Nat) (k : Nat) : pbodyF gen num idx np m b k 0 = .i .u8 (Int.ofNat (pbodyB gen num idx np m b k)) := by
  have h : pbodyF gen num idx np m b k 0 = zipCV (Nat.ble 11 k && Nat.blt k (11 + m)) (.i .u8 (Int.ofNat (b (k - 11)))) (zipCV (Nat.beq k 10) (.i .u8 (Int.ofNat (m % 256))) (zipCV (Nat.beq k 9) (.i .u8 (Int.ofNat (np % 256))) (zipCV (Nat.beq k 8) (.i .u8 (Int.ofNat (idx % 256)))
      (zipCV (Nat.ble 4 k && Nat.blt k 8) (.i .u8 (Int.ofNat (fourB (num % 4294967296) (k - 4)))) (zipCV (Nat.ble 0 k && Nat.blt k (0 + 4)) (.i .u8 (Int.ofNat (fourB (gen % 4294967296) (k - 0)))) (.i .u8 0)))))) := Eq.refl _
  rw [h, Nat.sub_zero, Nat.zero_add]
  unfold pbodyB
  cases (Nat.ble 11 k && Nat.blt k (11 + m)) <;> cases Nat.beq k 10 <;> cases Nat.beq k 9 <;> cases Nat.beq k 8 <;> cases (Nat.ble 4 k && Nat.blt k 8) <;> cases (Nat.ble 0 k && Nat.blt k 4) <;> exact Eq.refl _
theorem pbodyB_lt {gen num idx np m : Nat} {b : Nat → Nat} (hb : ∀ k, k < m → b k < 256) (k : Nat) : pbodyB gen num idx np m b k < 256 := by
  unfold pbodyB
  cases c0 : (Nat.ble 11 k && Nat.blt k (11 + m)) with
  | true =>
    rw [cond_true]
    rw [Bool.and_eq_true, Nat.ble_eq, Nat.blt_eq] at c0
    exact hb _ (by omega)
  | false =>
    rw [cond_false]
    cases Nat.beq k 10 with
    | true => rw [cond_true]; exact Nat.mod_lt _ (by decide)
    | false =>
      rw [cond_false]
      cases Nat.beq k 9 with
      | true => rw [cond_true]; exact Nat.mod_lt _ (by decide)
      | false =>
        rw [cond_false]
        cases Nat.beq k 8 with
        | true => rw [cond_true]; exact Nat.mod_lt _ (by decide)
        | false =>
          rw [cond_false]
          cases (Nat.ble 4 k && Nat.blt k 8) with
          | true => rw [cond_true]; exact fourB_lt _ _
          | false =>
            rw [cond_false]
            cases (Nat.ble 0 k && Nat.blt k 4) with
            | true => rw [cond_true]; exact fourB_lt _ _
            | false => rw [cond_false]; decide
theorem pbodyF_by {gen num idx np m : Nat} {b : Nat → Nat} (hb : ∀ k, k < m → b k < 256) : IsBy 60 (pbodyF gen num idx np m b) := fun k _ => by
  have e : bOf (pbodyF gen num idx np m b) k = pbodyB gen num idx np m b k := by show cvN (pbodyF gen num idx np m b k 0) = _; rw [pbodyF_at]; exact Eq.refl _
  rw [e]; exact ⟨pbodyF_at gen num idx np m b k, pbodyB_lt hb k⟩
theorem psecB_lt {gen num idx np m : Nat} {b : Nat → Nat} (hb : ∀ k, k < m → b k < 256) (k : Nat) : psecB gen num idx np m b k < 256 := by
  unfold psecB
  cases Nat.blt k 60 with
  | true => rw [cond_true]; exact pbodyB_lt hb k
  | false => rw [cond_false]; exact fourB_lt _ _
theorem psec_vc (fourB : Nat → Nat → Nat) (gen num idx np m : Nat) (b : Nat → Nat) (K : Res → Orc → Prop) : runK Tryd.prog 1000000 (.call 78 [.agg [.i .i64 (Int.ofNat gen), .i .i64
  (Int.ofNat num), .i .i64 (Int.ofNat idx), .i .i64 (Int.ofNat np), .sv 1 m (byF b)]] (mkH [])) (Orc.s (Orc.cal [] (AV.sv 1 4 (byF (fourB (Int.toNat (wrapA IntKind.u32 (Int.ofNat
  gen)))))) [] (Orc.cal [] (AV.sv 1 4 (byF (fourB (Int.toNat (wrapA IntKind.u32 (Int.ofNat num)))))) [] (Orc.cal [1] (AV.sv 1 64 (sealF (copyF 11 m (fun k x => CV.i IntKind.u8
  (Int.ofNat (b k))) (setRow (setRow (setRow (copyF 4 4 (fun k x => CV.i IntKind.u8 (Int.ofNat (fourB (Int.toNat (wrapA IntKind.u32 (Int.ofNat num))) k))) (copyF 0 4 (fun k x =>
  CV.i IntKind.u8 (Int.ofNat (fourB (Int.toNat (wrapA IntKind.u32 (Int.ofNat gen))) k))) fun x j => List.getD [CV.i IntKind.u8 (0 : Int)] j CV.p0)) 8 0 [CV.i IntKind.u8 (wrapA
  IntKind.u8 (Int.ofNat idx))]) 9 0 [CV.i IntKind.u8 (wrapA IntKind.u8 (Int.ofNat np))]) 10 0 [CV.i IntKind.u8 (wrapA IntKind.u8 (Int.ofNat m))])))) [Upd.gone] Orc.z))) Orc.z) K =
  (((0 : Int) ≤ (60 : Int) ∧ (60 : Int) ≤ (60 : Int) ∧ (60 : Int) ≤ (1073741824 : Int)) ∧ True ∧ True ∧ Con Tryd.prog 91 [AV.i IntKind.u32 (wrapA IntKind.u32 (Int.ofNat gen))] []
  (AV.sv 1 4 (byF (fourB (Int.toNat (wrapA IntKind.u32 (Int.ofNat gen)))))) [] ∧ (True ∧ 0 < 60 ∧ 0 < 60 ∧ 4 ≤ 60 ∧ 60 ≤ 60) ∧ ((0 : Int) ≤ (4 : Int) ∧ True ∧ 4 ≤ 60 ∧ 60 ≤ 60 ∧ (4
  = 0 ∨ 4 < 60)) ∧ True ∧ True ∧ Con Tryd.prog 91 [AV.i IntKind.u32 (wrapA IntKind.u32 (Int.ofNat num))] [] (AV.sv 1 4 (byF (fourB (Int.toNat (wrapA IntKind.u32 (Int.ofNat num))))))
  [] ∧ (True ∧ 0 < 56 ∧ 0 < 60 ∧ 4 ≤ 56 ∧ 60 ≤ 60) ∧ True ∧ True ∧ ((0 : Int) ≤ (8 : Int) ∧ (8 : Int) < (60 : Int)) ∧ 8 < 60 ∧ True ∧ True ∧ ((0 : Int) ≤ (9 : Int) ∧ (9 : Int) < (60
  : Int)) ∧ 9 < 60 ∧ True ∧ True ∧ ((0 : Int) ≤ (10 : Int) ∧ (10 : Int) < (60 : Int)) ∧ 10 < 60 ∧ ((0 : Int) ≤ (11 : Int) ∧ True ∧ 11 ≤ 60 ∧ 60 ≤ 60 ∧ (11 = 0 ∨ 11 < 60)) ∧ True ∧
  (True ∧ 0 < 49 ∧ 0 < 60 ∧ m ≤ 49 ∧ 60 ≤ 60) ∧ Con Tryd.prog 92 [AV.lr 0 1 0 60 false] [some (AObj.rows 5 1 60 (copyF 11 m (fun k x => CV.i IntKind.u8 (Int.ofNat (b k))) (setRow
  (setRow (setRow (copyF 4 4 (fun k x => CV.i IntKind.u8 (Int.ofNat (fourB (Int.toNat (wrapA IntKind.u32 (Int.ofNat num))) k))) (copyF 0 4 (fun k x => CV.i IntKind.u8 (Int.ofNat
  (fourB (Int.toNat (wrapA IntKind.u32 (Int.ofNat gen))) k))) fun x j => List.getD [CV.i IntKind.u8 (0 : Int)] j CV.p0)) 8 0 [CV.i IntKind.u8 (wrapA IntKind.u8 (Int.ofNat idx))]) 9
  0 [CV.i IntKind.u8 (wrapA IntKind.u8 (Int.ofNat np))]) 10 0 [CV.i IntKind.u8 (wrapA IntKind.u8 (Int.ofNat m))])))] (AV.sv 1 64 (sealF (copyF 11 m (fun k x => CV.i IntKind.u8
  (Int.ofNat (b k))) (setRow (setRow (setRow (copyF 4 4 (fun k x => CV.i IntKind.u8 (Int.ofNat (fourB (Int.toNat (wrapA IntKind.u32 (Int.ofNat num))) k))) (copyF 0 4 (fun k x =>
  CV.i IntKind.u8 (Int.ofNat (fourB (Int.toNat (wrapA IntKind.u32 (Int.ofNat gen))) k))) fun x j => List.getD [CV.i IntKind.u8 (0 : Int)] j CV.p0)) 8 0 [CV.i IntKind.u8 (wrapA
  IntKind.u8 (Int.ofNat idx))]) 9 0 [CV.i IntKind.u8 (wrapA IntKind.u8 (Int.ofNat np))]) 10 0 [CV.i IntKind.u8 (wrapA IntKind.u8 (Int.ofNat m))])))) [Upd.gone] ∧ K (Res.rv (AV.sv 1
  64 (sealF (copyF 11 m (fun k x => CV.i IntKind.u8 (Int.ofNat (b k))) (setRow (setRow (setRow (copyF 4 4 (fun k x => CV.i IntKind.u8 (Int.ofNat (fourB (Int.toNat (wrapA IntKind.u32
  (Int.ofNat num))) k))) (copyF 0 4 (fun k x => CV.i IntKind.u8 (Int.ofNat (fourB (Int.toNat (wrapA IntKind.u32 (Int.ofNat gen))) k))) fun x j => List.getD [CV.i IntKind.u8 (0 :
  Int)] j CV.p0)) 8 0 [CV.i IntKind.u8 (wrapA IntKind.u8 (Int.ofNat idx))]) 9 0 [CV.i IntKind.u8 (wrapA IntKind.u8 (Int.ofNat np))]) 10 0 [CV.i IntKind.u8 (wrapA IntKind.u8
  (Int.ofNat m))])))) { tree := T.n (some (AObj.cells 121 5 [] (T.n (some (AV.i IntKind.i64 (Int.ofNat gen))) (T.n (some (AV.i IntKind.i64 (Int.ofNat num))) (T.n (some (AV.i IntKind.i64 (Int.ofNat np))) T.e T.e) T.e) (T.n (some (AV.i IntKind.i64 (Int.ofNat idx))) (T.n (some (AV.sv 1 m (byF b))) T.e T.e) T.e)))) (T.n none T.e T.e) T.e, next := 2, log := [1, 1, 1, 1, 1, 1, 1, 1, 0] })
  Orc.z) := by kernel_rfl
theorem psec_con (gen num idx np m : Nat) (b : Nat → Nat) (hb : ∀ k, k < m → b k < 256) (hm : m ≤ 47) :
    Con Tryd.prog 78 [.agg [.i .i64 (Int.ofNat gen), .i .i64 (Int.ofNat num), .i .i64 (Int.ofNat idx), .i .i64 (Int.ofNat np), .sv 1 m (byF b)]] [] (.sv 1 64 (byF (psecB gen num idx np m b))) [] := by
  have k0 : ∀ q : Nat, Con Tryd.prog 91 [AV.i IntKind.u32 (wrapA IntKind.u32 (Int.ofNat q))] [] (AV.sv 1 4 (byF (fourB (Int.toNat (wrapA IntKind.u32 (Int.ofNat q)))))) [] := fun q => by
    rw [show wrapA IntKind.u32 (Int.ofNat q) = Int.ofNat (q % 4294967296) from Eq.refl _]; exact four0_con _
  have k : Con Tryd.prog 78 [.agg [.i .i64 (Int.ofNat gen), .i .i64 (Int.ofNat num), .i .i64 (Int.ofNat idx), .i .i64 (Int.ofNat np), .sv 1 m (byF b)]] [] (.sv 1 64 (sealF (pbodyF gen num idx np m b))) [] :=
    con_of_run [] [] ((psec_vc fourB gen num idx np m b _).mpr (by
      refine ⟨by decide, trivial, trivial, k0 gen, ⟨trivial, by decide, by decide, by decide, by decide⟩, ⟨by decide, trivial, by decide, by decide, .inr (by decide)⟩, trivial, trivial, k0 num, ⟨trivial, by decide, by decide, by decide, by decide⟩, trivial, trivial, by decide, by decide, trivial, trivial, by decide, by decide, trivial, trivial, by decide, by decide,
        ⟨by decide, trivial, by decide, by decide, .inr (by decide)⟩, trivial, ⟨trivial, by decide, by decide, by omega, by decide⟩, seal60R_con _ (pbodyF_by hb), _, _, rfl, ret_k (by kernel_rfl)⟩))
  refine k.post (.sv fun i j hi hj => ?_) (OVL.refl _)
  obtain rfl : j = 0 := by omega
  rw [sealF_by _ (pbodyB gen num idx np m b) (pbodyF_at gen num idx np m b)]
  exact Eq.refl _
end Go.Proofs.Jn
namespace Go.Proofs.St
open Go Go.Sim Go.Proofs Go.Proofs.YtpoedikibkhmcaaDoor
theorem writeSA_vc (s : SS) (q : Nat) (bs : Nat → Int) (K : Res → Orc → Prop) : runK Tryd.prog 1000000 (.call 77 [.p 0 0, .i .i64 (Int.ofNat q), .sv 1 64 fun k _ => .i .u8 (bs k)] (mkH [some s.o]))
  (Orc.cal [0] (AV.i .i64 (SS.faultE s)) [Upd.keep] (Orc.s Orc.z (Orc.cal [0] (AV.b (decide ((0 : Int) ≤ Int.ofNat q ∧ Int.ofNat q < Int.ofNat (SS.n s)))) [Upd.keep] (Orc.s (Orc.t (Orc.t (Orc.f (Orc.c (Orc.cal [0] (AV.tup []) [Upd.set (SS.o (SS.put s q bs))] (Orc.inl (Orc.s Orc.z (Orc.s (Orc.inl (Orc.c Orc.z)) Orc.z)))))))) (Orc.f (Orc.f (Orc.t (Orc.c Orc.z)))))))) K =
  (Con Tryd.prog 81 [AV.p 0 0] [some (SS.o s)] (AV.i .i64 (SS.faultE s)) [Upd.keep] ∧
 ((!decide (SS.faultE s = (0 : Int))) = true → K (Res.rv (AV.i .i64 (SS.faultE s)) ⟨T.n (some (AObj.segs 77 33799 [⟨0, 1, 1, oneF (CV.i .i64 (Int.ofNat (SS.n s)))⟩, ⟨1, 65, 512, durF (SS.dur s) (SS.torn s)⟩, ⟨33281, 1, 1, oneF (CV.opv (pB (SS.P s)) 66 (pW (SS.P s)))⟩, ⟨33282, 1, 512, latF (lB (SS.P s)) (lW (SS.P s))⟩, ⟨33794, 5, 1, tailF (Int.ofNat (List.length (SS.P s))) (Int.ofNat (SS.wr s)) (SS.off s) (SS.armed s) (Int.ofNat (SS.left s))⟩])) T.e T.e, 1, []⟩) Orc.z) ∧
  ((!decide (SS.faultE s = (0 : Int))) = false →
   Con Tryd.prog 82 [AV.p 0 0, AV.i .i64 (Int.ofNat q)] [some (SS.o s)] (AV.b (decide ((0 : Int) ≤ Int.ofNat q ∧ Int.ofNat q < Int.ofNat (SS.n s)))) [Upd.keep] ∧
    True ∧
     ((!!decide ((0 : Int) ≤ Int.ofNat q ∧ Int.ofNat q < Int.ofNat (SS.n s))) = true →
       (!!decide ((0 : Int) ≤ Int.ofNat q ∧ Int.ofNat q < Int.ofNat (SS.n s))) = true ∧
        (!!decide ((0 : Int) ≤ Int.ofNat q ∧ Int.ofNat q < Int.ofNat (SS.n s))) = true ∧
         (!decide ((0 : Int) ≤ Int.ofNat q ∧ Int.ofNat q < Int.ofNat (SS.n s))) = false ∧
          True ∧
           (64 ≤ 64 ∧ 0 < 64) ∧
            True ∧
             Con Tryd.prog 89 [AV.p 0 33281, AV.i .i64 (Int.ofNat q), AV.agg (cvL (fun k => CV.i .u8 (bs k)) 0 64)] [some (SS.o s)] (AV.tup []) [Upd.set (SS.o (SS.put s q bs))] ∧
              True ∧
               True ∧
                ((-9223372036854775808 : Int) ≤ Int.ofNat (SS.wr (SS.put s q bs)) + (1 : Int) ∧ Int.ofNat (SS.wr (SS.put s q bs)) + (1 : Int) ≤ (9223372036854775807 : Int)) ∧
                 True ∧
                  True ∧
                   True ∧
                    True ∧
                     True ∧
                      ((!SS.armed (SS.put s q bs)) = true →
                        K
                         (Res.rv (AV.i .i64 (0 : Int))
                          {
                           tree :=
                            T.n
                             (some
                              (AObj.segs 77 33799
                               [⟨0, 1, 1, oneF (CV.i .i64 (Int.ofNat (SS.n (SS.put s q bs))))⟩, ⟨1, 65, 512, durF (SS.dur (SS.put s q bs)) (SS.torn (SS.put s q bs))⟩, ⟨33281, 1, 1, oneF (CV.opv (pB (SS.P (SS.put s q bs))) 66 (pW (SS.P (SS.put s q bs))))⟩, ⟨33282, 1, 512, latF (lB (SS.P (SS.put s q bs))) (lW (SS.P (SS.put s q bs)))⟩,
                                ⟨33794, 5, 1, setRow
                                   (fun x j =>
                                    match j with
                                    | 0 => CV.i .i64 (Int.ofNat (List.length ((q, bs) :: SS.P s)))
                                    | 1 => CV.i .i64 (Int.ofNat (SS.wr (SS.put s q bs)))
                                    | 2 => CV.b (SS.off (SS.put s q bs))
                                    | 3 => CV.b (SS.armed (SS.put s q bs))
                                    | x => CV.i .i64 (Int.ofNat (SS.left (SS.put s q bs))))
                                   0 1 [CV.i .i64 (Int.ofNat (SS.wr (SS.put s q bs)) + (1 : Int))]⟩]))
                             T.e T.e,
                           next := 1, log := [0, 0] })
                         Orc.z) ∧
                       ((!SS.armed (SS.put s q bs)) = false →
                        True ∧
                         True ∧
                          (decide (Int.ofNat (SS.left (SS.put s q bs)) = (0 : Int)) = true →
                            True ∧
                             True ∧
                              True ∧
                               True ∧
                                True ∧
                                 K
                                  (Res.rv (AV.i .i64 (13 : Int))
                                   {
                                    tree :=
                                     T.n
                                      (some
                                       (AObj.segs 77 33799
                                        [⟨0, 1, 1, oneF (CV.i .i64 (Int.ofNat (SS.n (SS.put s q bs))))⟩, ⟨1, 65, 512, durF (SS.dur (SS.put s q bs)) (SS.torn (SS.put s q bs))⟩, ⟨33281, 1, 1, oneF (CV.opv (pB (SS.P (SS.put s q bs))) 66 (pW (SS.P (SS.put s q bs))))⟩, ⟨33282, 1, 512, latF (lB (SS.P (SS.put s q bs))) (lW (SS.P (SS.put s q bs)))⟩,
                                         ⟨33794, 5, 1, setRow
                                          (fun i j =>
                                           match Nat.ble 2 j with
                                           | true =>
                                            match [CV.b true][j - 2 % 5]? with
                                            | some c =>
                                             zipCV (Nat.beq i 0) c
                                              (Seg.f
                                               ⟨33794, 5, 1, setRow
                                                  (fun x j =>
                                                   match j with
                                                   | 0 => CV.i .i64 (Int.ofNat (List.length ((q, bs) :: SS.P s)))
                                                   | 1 => CV.i .i64 (Int.ofNat (SS.wr (SS.put s q bs)))
                                                   | 2 => CV.b (SS.off (SS.put s q bs))
                                                   | 3 => CV.b (SS.armed (SS.put s q bs))
                                                   | x => CV.i .i64 (Int.ofNat (SS.left (SS.put s q bs))))
                                                  0 1 [CV.i .i64 (Int.ofNat (SS.wr (SS.put s q bs)) + (1 : Int))]⟩
                                               i j)
                                            | none =>
                                             Seg.f
                                              ⟨33794, 5, 1, setRow
                                                 (fun x j =>
                                                  match j with
                                                  | 0 => CV.i .i64 (Int.ofNat (List.length ((q, bs) :: SS.P s)))
                                                  | 1 => CV.i .i64 (Int.ofNat (SS.wr (SS.put s q bs)))
                                                  | 2 => CV.b (SS.off (SS.put s q bs))
                                                  | 3 => CV.b (SS.armed (SS.put s q bs))
                                                  | x => CV.i .i64 (Int.ofNat (SS.left (SS.put s q bs))))
                                                 0 1 [CV.i .i64 (Int.ofNat (SS.wr (SS.put s q bs)) + (1 : Int))]⟩
                                              i j
                                           | false =>
                                            Seg.f
                                             ⟨33794, 5, 1, setRow
                                                (fun x j =>
                                                 match j with
                                                 | 0 => CV.i .i64 (Int.ofNat (List.length ((q, bs) :: SS.P s)))
                                                 | 1 => CV.i .i64 (Int.ofNat (SS.wr (SS.put s q bs)))
                                                 | 2 => CV.b (SS.off (SS.put s q bs))
                                                 | 3 => CV.b (SS.armed (SS.put s q bs))
                                                 | x => CV.i .i64 (Int.ofNat (SS.left (SS.put s q bs))))
                                                0 1 [CV.i .i64 (Int.ofNat (SS.wr (SS.put s q bs)) + (1 : Int))]⟩
                                             i j)
                                          0 3 [CV.b false]⟩]))
                                      T.e T.e,
                                    next := 1, log := [0, 0, 0, 0] })
                                  Orc.z) ∧
                           (decide (Int.ofNat (SS.left (SS.put s q bs)) = (0 : Int)) = false →
                            True ∧
                             True ∧
                              ((-9223372036854775808 : Int) ≤ Int.ofNat (SS.left (SS.put s q bs)) - (1 : Int) ∧ Int.ofNat (SS.left (SS.put s q bs)) - (1 : Int) ≤ (9223372036854775807 : Int)) ∧
                               True ∧
                                True ∧
                                 K
                                  (Res.rv (AV.i .i64 (0 : Int))
                                   {
                                    tree :=
                                     T.n
                                      (some
                                       (AObj.segs 77 33799
                                        [⟨0, 1, 1, oneF (CV.i .i64 (Int.ofNat (SS.n (SS.put s q bs))))⟩, ⟨1, 65, 512, durF (SS.dur (SS.put s q bs)) (SS.torn (SS.put s q bs))⟩, ⟨33281, 1, 1, oneF (CV.opv (pB (SS.P (SS.put s q bs))) 66 (pW (SS.P (SS.put s q bs))))⟩, ⟨33282, 1, 512, latF (lB (SS.P (SS.put s q bs))) (lW (SS.P (SS.put s q bs)))⟩,
                                         ⟨33794, 5, 1, setRow
                                          (fun i j =>
                                           match Nat.ble 1 j with
                                           | true =>
                                            match [CV.i .i64 (Int.ofNat (SS.wr (SS.put s q bs)) + (1 : Int))][j - 1 % 5]? with
                                            | some c => zipCV (Nat.beq i 0) c (Seg.f ⟨33794, 5, 1, tailF (Int.ofNat (List.length (SS.P (SS.put s q bs)))) (Int.ofNat (SS.wr (SS.put s q bs))) (SS.off (SS.put s q bs)) (SS.armed (SS.put s q bs)) (Int.ofNat (SS.left (SS.put s q bs)))⟩ i j)
                                            | none => Seg.f ⟨33794, 5, 1, tailF (Int.ofNat (List.length (SS.P (SS.put s q bs)))) (Int.ofNat (SS.wr (SS.put s q bs))) (SS.off (SS.put s q bs)) (SS.armed (SS.put s q bs)) (Int.ofNat (SS.left (SS.put s q bs)))⟩ i j
                                           | false => Seg.f ⟨33794, 5, 1, tailF (Int.ofNat (List.length (SS.P (SS.put s q bs)))) (Int.ofNat (SS.wr (SS.put s q bs))) (SS.off (SS.put s q bs)) (SS.armed (SS.put s q bs)) (Int.ofNat (SS.left (SS.put s q bs)))⟩ i j)
                                          0 4 [CV.i .i64 (Int.ofNat (SS.left (SS.put s q bs)) - (1 : Int))]⟩]))
                                      T.e T.e,
                                    next := 1, log := [0, 0, 0] })
                                  Orc.z))) ∧
      ((!!decide ((0 : Int) ≤ Int.ofNat q ∧ Int.ofNat q < Int.ofNat (SS.n s))) = false → (!!decide ((0 : Int) ≤ Int.ofNat q ∧ Int.ofNat q < Int.ofNat (SS.n s))) = false ∧ (!!decide ((0 : Int) ≤ Int.ofNat q ∧ Int.ofNat q < Int.ofNat (SS.n s))) = false ∧ (!decide ((0 : Int) ≤ Int.ofNat q ∧ Int.ofNat q < Int.ofNat (SS.n s))) = true ∧ K (Res.rv (AV.i .i64 (2 : Int)) ⟨T.n (some (AObj.segs 77 33799 [⟨0, 1, 1, oneF (CV.i .i64 (Int.ofNat (SS.n s)))⟩, ⟨1, 65, 512, durF (SS.dur s) (SS.torn s)⟩, ⟨33281, 1, 1, oneF (CV.opv (pB (SS.P s)) 66 (pW (SS.P s)))⟩, ⟨33282, 1, 512, latF (lB (SS.P s)) (lW (SS.P s))⟩, ⟨33794, 5, 1, tailF (Int.ofNat (List.length (SS.P s))) (Int.ofNat (SS.wr s)) (SS.off s) (SS.armed s) (Int.ofNat (SS.left s))⟩])) T.e T.e, 1, []⟩) Orc.z))) := by kernel_rfl
theorem writeV_con (s : SS) (q : Nat) (bs : Nat → Int) (ok : s.Ok) (ho : s.off = false) (hq : q < s.n) :
    Con Tryd.prog 77 [.p 0 0, .i .i64 (Int.ofNat q), .sv 1 64 fun k _ => .i .u8 (bs k)] [some s.o] (.i .i64 (s.wrote q bs).payE) [.set (s.wrote q bs).pay.o] := by
  have e0 : s.faultE = 0 := by unfold SS.faultE; rw [ho]; rfl
  have e : (!!decide (0 ≤ Int.ofNat q ∧ Int.ofNat q < Int.ofNat s.n)) = true := by simp; omega
  have e1 : (!decide (0 ≤ Int.ofNat q ∧ Int.ofNat q < Int.ofNat s.n)) = false := by simp; omega
  obtain ⟨h1, h2, h3, h4, h5⟩ := ok
  have hb : (-9223372036854775808 : Int) ≤ Int.ofNat (s.put q bs).wr + 1 ∧ Int.ofNat (s.put q bs).wr + 1 ≤ 9223372036854775807 := by
    have : (s.put q bs).wr = s.wr := rfl
    rw [this]; simp <;> omega
  have ha := add2_con s q bs (by omega) h2
  obtain ⟨n, dur, torn, P, wr, off, armed, left⟩ := s
  cases armed with
  | false =>
    refine Con.runE (us := [.set (tO (Int.ofNat n) dur torn (pB ((q, bs) :: P)) (pW ((q, bs) :: P)) (lB ((q, bs) :: P)) (lW ((q, bs) :: P)) (setRow (tailF (Int.ofNat (P.length + 1)) (Int.ofNat wr) off false (Int.ofNat left)) 0 1 [.i .i64 (Int.ofNat wr + 1)]))]) [] []
      ((writeSA_vc _ q bs _).mpr ⟨fault2_con _, fun h => by rw [e0] at h; simp at h, fun _ => ⟨has2_con _ _, trivial, fun _ => ⟨e, e, e1, trivial, ⟨Nat.le_refl _, by omega⟩, trivial, ha, trivial, trivial, hb, trivial, trivial, trivial, trivial, trivial,
        fun _ => ⟨_, _, rfl, ret_k (by kernel_rfl)⟩, fun h => by simp [SS.put] at h⟩, fun h => by rw [e] at h; simp at h⟩⟩)
      ⟨(tail_oeq (cnt := Int.ofNat (P.length + 1)) (wr := Int.ofNat (wr + 1)) (off := off) (armed := false) (left := Int.ofNat left) ⟨rfl, rfl, rfl, rfl, rfl⟩).1, trivial⟩
  | true =>
    cases left with
    | zero =>
      refine Con.runE (us := [.set (tO (Int.ofNat n) dur torn (pB ((q, bs) :: P)) (pW ((q, bs) :: P)) (lB ((q, bs) :: P)) (lW ((q, bs) :: P)) (setRow (setRow (setRow (tailF (Int.ofNat (P.length + 1)) (Int.ofNat wr) off true 0) 0 1 [.i .i64 (Int.ofNat wr + 1)]) 0 2 [.b true]) 0 3 [.b false]))]) [] []
        ((writeSA_vc _ q bs _).mpr ⟨fault2_con _, fun h => by rw [e0] at h; simp at h, fun _ => ⟨has2_con _ _, trivial, fun _ => ⟨e, e, e1, trivial, ⟨Nat.le_refl _, by omega⟩, trivial, ha, trivial, trivial, hb, trivial, trivial, trivial, trivial, trivial,
          fun h => by simp [SS.put] at h, fun _ => ⟨trivial, trivial, fun _ => ⟨trivial, trivial, trivial, trivial, trivial, _, _, rfl, ret_k (by kernel_rfl)⟩, fun h => by simp [SS.put] at h⟩⟩, fun h => by rw [e] at h; simp at h⟩⟩)
        ⟨(tail_oeq (cnt := Int.ofNat (P.length + 1)) (wr := Int.ofNat (wr + 1)) (off := true) (armed := false) (left := 0) ⟨rfl, rfl, rfl, rfl, rfl⟩).1, trivial⟩
    | succ left =>
      refine Con.runE (us := [.set (tO (Int.ofNat n) dur torn (pB ((q, bs) :: P)) (pW ((q, bs) :: P)) (lB ((q, bs) :: P)) (lW ((q, bs) :: P)) (setRow (setRow (tailF (Int.ofNat (P.length + 1)) (Int.ofNat wr) off true (Int.ofNat (left + 1))) 0 1 [.i .i64 (Int.ofNat wr + 1)]) 0 4 [.i .i64 (Int.ofNat (left + 1) - 1)]))]) [] []
        ((writeSA_vc _ q bs _).mpr ⟨fault2_con _, fun h => by rw [e0] at h; simp at h, fun _ => ⟨has2_con _ _, trivial, fun _ => ⟨e, e, e1, trivial, ⟨Nat.le_refl _, by omega⟩, trivial, ha, trivial, trivial, hb, trivial, trivial, trivial, trivial, trivial,
          fun h => by simp [SS.put] at h, fun _ => ⟨trivial, trivial, fun h => by have h' : Int.ofNat (left + 1) = 0 := of_decide_eq_true h; exact absurd h' (by simp <;> omega), fun _ => ⟨trivial, trivial, ?_, trivial, trivial, _, _, rfl, ret_k (by kernel_rfl)⟩⟩⟩, fun h => by rw [e] at h; simp at h⟩⟩)
        ⟨(tail_oeq (cnt := Int.ofNat (P.length + 1)) (wr := Int.ofNat (wr + 1)) (off := off) (armed := true) (left := Int.ofNat left) ⟨rfl, rfl, rfl, rfl, by show CV.i .i64 (Int.ofNat (left + 1) - 1) = _; simp⟩).1, trivial⟩
      simp [SS.put] at h4 ⊢
      omega
theorem writeVB_con (s : SS) (q : Nat) (bs : Nat → Int) (ho : s.off = true) :
    Con Tryd.prog 77 [.p 0 0, .i .i64 (Int.ofNat q), .sv 1 64 fun k _ => .i .u8 (bs k)] [some s.o] (.i .i64 13) [.set s.o] := by
  have e0 : s.faultE = 13 := by unfold SS.faultE; rw [ho]; rfl
  have h : Con Tryd.prog 77 [.p 0 0, .i .i64 (Int.ofNat q), .sv 1 64 fun k _ => .i .u8 (bs k)] [some s.o] (.i .i64 13) [.keep] := by
    obtain ⟨n, dur, torn, P, wr, off, armed, left⟩ := s
    refine con_of_run [] [] ((writeSA_vc _ q bs _).mpr ⟨fault2_con _, fun _ => ?_, fun h => (by rw [e0] at h; simp at h)⟩)
    rw [e0]
    exact ⟨_, _, rfl, ret_k (by kernel_rfl)⟩
  exact h.oeq (OEqL.refl _) (OEqL.refl _)
theorem writeW_con (s : SS) (q : Nat) (bs : Nat → Int) (ok : s.Ok) (hq : q < s.n) :
    Con Tryd.prog 77 [.p 0 0, .i .i64 (Int.ofNat q), .sv 1 64 fun k _ => .i .u8 (bs k)] [some s.o] (.i .i64 (s.wrE (Int.ofNat q) 64)) [.set (s.wrS (Int.ofNat q) 64 bs).o] := by
  cases ho : s.off with
  | true =>
    have e1 : s.wrE (Int.ofNat q) 64 = 13 := by unfold SS.wrE; rw [ho]
    have e2 : s.wrS (Int.ofNat q) 64 bs = s := by unfold SS.wrS; rw [ho]
    rw [e1, e2]
    exact writeVB_con s q bs ho
  | false =>
    have hd : decide (0 ≤ Int.ofNat q ∧ Int.ofNat q < Int.ofNat s.n ∧ 64 = 64) = true := by simp; omega
    have e1 : s.wrE (Int.ofNat q) 64 = (s.wrote q bs).payE := by unfold SS.wrE; rw [ho, hd]; exact Eq.refl _
    have e2 : s.wrS (Int.ofNat q) 64 bs = (s.wrote q bs).pay := by unfold SS.wrS; rw [ho, hd]; exact Eq.refl _
    rw [e1, e2]
    exact writeV_con s q bs ok ho hq
end Go.Proofs.St
namespace Go.Proofs.Cl
open Go Go.Sim Go.Proofs Go.Proofs.Cd Go.Proofs.St Go.Proofs.YtpoedikibkhmcaaDoor
structure Byt (s : SS) : Prop where
  dur : ∀ i j, ∃ n : Nat, n < 256 ∧ s.dur i j = Int.ofNat n
  P : ∀ w ∈ s.P, ∀ j, ∃ n : Nat, n < 256 ∧ w.2 j = Int.ofNat n
theorem lbs_mem : ∀ {P : PW} {k : Nat}, lB P k = true → ∃ w ∈ P, w.1 = k ∧ lbs P k = w.2
  | [], k, h => by cases h
  | w :: P, k, h => by
    have h' : (bif Nat.beq k w.1 then true else lB P k) = true := h
    show ∃ w' ∈ w :: P, w'.1 = k ∧ (bif Nat.beq k w.1 then w.2 else lbs P k) = w'.2
    cases hb : Nat.beq k w.1 with
    | true => exact ⟨w, List.mem_cons_self, (Nat.eq_of_beq_eq_true hb).symm, rfl⟩
    | false =>
      rw [hb] at h'
      obtain ⟨w', q1, q2, q3⟩ := lbs_mem (P := P) h'
      exact ⟨w', List.mem_cons_of_mem _ q1, q2, q3⟩
theorem Byt.rd {s : SS} (h : Byt s) (i : Int) (j : Nat) : ∃ n : Nat, n < 256 ∧ s.rdB i j = Int.ofNat n := by
  unfold SS.rdB
  cases hb : lB s.P i.toNat with
  | true =>
    obtain ⟨w, q1, _, q3⟩ := lbs_mem hb
    simp only [q3]
    exact h.P w q1 j
  | false => exact h.dur i.toNat j
noncomputable def rdC (s : SS) (i : Int) : Nat → Nat := fun k => (s.rdB i k).toNat
theorem rdC_eq {s : SS} (h : Byt s) (i : Int) (j : Nat) : s.rdB i j = Int.ofNat (rdC s i j) := by
  obtain ⟨n, _, e⟩ := h.rd i j
  unfold rdC; rw [e]; exact Eq.refl _
theorem rdC_lt {s : SS} (h : Byt s) (i : Int) (j : Nat) : rdC s i j < 256 := by
  obtain ⟨n, hn, e⟩ := h.rd i j
  unfold rdC; rw [e]; exact hn
theorem readZ_con (s : SS) (i : Int) (hn : s.n ≤ 512) : Con Tryd.prog 68 [.p 0 0, .i .i64 i] [some s.o] (.tup [.sv 1 (s.rdN i) fun k _ => .i .u8 (s.rdB i k), .i .i64 (s.rdE i)]) [.keep, .gone] :=
  ((read_con s i hn).freeze (us' := [.keep, .gone]) (v' := .tup [.sv 1 (s.rdN i) (shiftF 0 fun k _ => .i .u8 (s.rdB i k)), .i .i64 (s.rdE i)]) 1 rfl ⟨.refl _, rfl, trivial⟩ (.inr ⟨by kernel_rfl, ⟨rfl, by omega⟩, trivial, trivial⟩))
theorem readT_con (s : SS) (i : Int) (hn : s.n ≤ 512) (hb : Byt s) (h : s.rdE i = 0) : Con Tryd.prog 68 [.p 0 0, .i .i64 i] [some s.o] (.tup [.sv 1 64 (byF (rdC s i)), .i .i64 0]) [.keep, .gone] := by
  have k := readZ_con s i hn
  rw [SS.rdN_64 h, h] at k
  exact k.post (.tup ⟨.sv fun a j _ _ => by show CV.i .u8 (s.rdB i a) = CV.i .u8 (Int.ofNat (rdC s i a)); rw [rdC_eq hb], .refl _, trivial⟩) (OVL.refl _)
theorem readF_con (s : SS) (i : Int) (hn : s.n ≤ 512) (h : s.rdE i ≠ 0) : Con Tryd.prog 68 [.p 0 0, .i .i64 i] [some s.o] (.tup [.sv 1 0 fun _ _ => .p0, .i .i64 (s.rdE i)]) [.keep, .gone] := by
  have k := readZ_con s i hn
  rw [SS.rdN_0 h] at k
  exact k.post (.tup ⟨.sv fun a j h0 _ => by omega, .refl _, trivial⟩) (OVL.refl _)
structure OkM (s : SS) (m : Nat) : Prop where
  n : s.n ≤ 512
  P : s.P.length ≤ m
  wr : s.wr ≤ m
  left : s.left < 9223372036854775808
  at_ : ∀ w ∈ s.P, w.1 < s.n
theorem OkM.ok {s : SS} {m : Nat} (h : OkM s m) (hm : m < 1073741824) : s.Ok := ⟨h.n, by have := h.P; omega, by have := h.wr; omega, h.left, h.at_⟩
theorem OkM.mono {s : SS} {m k : Nat} (h : OkM s m) (hm : m ≤ k) : OkM s k := ⟨h.n, by have := h.P; omega, by have := h.wr; omega, h.left, h.at_⟩
theorem wrS_off {s : SS} (ho : s.off = true) (a : Int) (bs : Nat → Int) : s.wrS a 64 bs = s := by unfold SS.wrS; rw [ho]
theorem wrS_on {s : SS} {q : Nat} (ho : s.off = false) (hq : q < s.n) (bs : Nat → Int) : s.wrS (Int.ofNat q) 64 bs = (s.wrote q bs).pay := by
  have hd : decide (0 ≤ Int.ofNat q ∧ Int.ofNat q < Int.ofNat s.n ∧ 64 = 64) = true := by simp; omega
  unfold SS.wrS; rw [ho, hd]; exact Eq.refl _
theorem pay_or (s : SS) : s.pay = s ∨ s.pay = { s with off := true, armed := false } ∨ s.pay = { s with left := s.left - 1 } := by
  unfold SS.pay
  cases s.armed with
  | false => exact .inl rfl
  | true =>
    cases Nat.beq s.left 0 with
    | true => exact .inr (.inl rfl)
    | false => exact .inr (.inr rfl)
theorem OkM.wrS {s : SS} {m q : Nat} (h : OkM s m) (hq : q < s.n) (bs : Nat → Int) : OkM (s.wrS (Int.ofNat q) 64 bs) (m + 1) := by
  cases ho : s.off with
  | true => rw [wrS_off ho]; exact h.mono (Nat.le_succ m)
  | false =>
    rw [wrS_on ho hq]
    have base : OkM (s.wrote q bs) (m + 1) := ⟨h.n, by have := h.P; show (s.P.length + 1) ≤ _; omega, by have := h.wr; show s.wr + 1 ≤ _; omega, h.left, fun w hw => by
      rcases List.mem_cons.1 hw with rfl | hw
      · exact hq
      · exact h.at_ w hw⟩
    rcases pay_or (s.wrote q bs) with e | e | e <;> rw [e]
    · exact base
    · exact ⟨base.n, base.P, base.wr, base.left, base.at_⟩
    · exact ⟨base.n, base.P, base.wr, by have := base.left; show (s.wrote q bs).left - 1 < _; omega, base.at_⟩
theorem Byt.wrS {s : SS} {q : Nat} {bs : Nat → Int} (h : Byt s) (hq : q < s.n) (hb : ∀ j, ∃ n : Nat, n < 256 ∧ bs j = Int.ofNat n) : Byt (s.wrS (Int.ofNat q) 64 bs) := by
  cases ho : s.off with
  | true => rw [wrS_off ho]; exact h
  | false =>
    rw [wrS_on ho hq]
    have base : Byt (s.wrote q bs) := ⟨h.dur, fun w hw j => by
      rcases List.mem_cons.1 hw with rfl | hw
      · exact hb j
      · exact h.P w hw j⟩
    rcases pay_or (s.wrote q bs) with e | e | e <;> rw [e]
    · exact base
    · exact ⟨base.dur, base.P⟩
    · exact ⟨base.dur, base.P⟩
theorem durL_byt {dur : Nat → Nat → Int} (h : ∀ i j, ∃ n : Nat, n < 256 ∧ dur i j = Int.ofNat n) : ∀ (P : PW), (∀ w ∈ P, ∀ j, ∃ n : Nat, n < 256 ∧ w.2 j = Int.ofNat n) → ∀ i j, ∃ n : Nat, n < 256 ∧ durL dur P i j = Int.ofNat n
  | [], _, i, j => h i j
  | w :: P, hP, i, j => by
    have ih := durL_byt h P (fun w hw => hP w (List.mem_cons_of_mem _ hw)) i j
    have hw := hP w List.mem_cons_self j
    first
    | (show ∃ n : Nat, n < 256 ∧ (bif Nat.beq i w.1 then w.2 else durL dur P i) j = Int.ofNat n
       cases Nat.beq i w.1
       · exact ih
       · exact hw)
    | (show ∃ n : Nat, n < 256 ∧ durL (fun k => bif Nat.beq k w.1 then w.2 else dur k) P i j = Int.ofNat n
       exact durL_byt (fun i j => by
         show ∃ n : Nat, n < 256 ∧ (bif Nat.beq i w.1 then w.2 else dur i) j = Int.ofNat n
         cases Nat.beq i w.1
         · exact h i j
         · exact hP w List.mem_cons_self j) P (fun w hw => hP w (List.mem_cons_of_mem _ hw)) i j)
theorem Byt.flush {s : SS} (h : Byt s) (m : Nat) : Byt (s.flush m) :=
  ⟨durL_byt h.dur _ fun w hw => h.P w (List.mem_of_mem_drop hw), fun w hw => by cases hw⟩
theorem Byt.bar {s : SS} (h : Byt s) : Byt s.bar := by
  unfold SS.bar
  split
  · exact h
  · exact h.flush _
theorem OkM.bar {s : SS} {m : Nat} (h : OkM s m) : OkM s.bar m := by
  unfold SS.bar
  split
  · exact h
  · exact ⟨h.n, Nat.zero_le _, h.wr, h.left, fun w hw => by cases hw⟩
end Go.Proofs.Cl
namespace Go.Proofs.Jn
open Go Go.Sim Go.Proofs Go.Proofs.Cd Go.Proofs.St Go.Proofs.Cl Go.Proofs.YtpoedikibkhmcaaDoor
noncomputable def recF (m : Nat → Nat) (b : Nat → Nat → Nat) : Nat → Nat → CV := fun i _ => .sv 1 (m i) (byF (b i))
noncomputable def cmP : Array Tmp := rfPrm Tryd.prog 53 0
noncomputable def cmA : Code := rfAsg Tryd.prog 53 0
noncomputable def cmB : Code := rfBody Tryd.prog 53 0
noncomputable def cutV : AV := .fn (.func 80) [] [.p 1 0, .p 2 0, .p 3 0]
noncomputable def resO : AObj := .cells 23 1 [.i .i64 0] .e
noncomputable def resE (e : Int) : AObj := .cells 23 1 [.i .i64 0] (setAll .e 0 [.i .i64 e])
noncomputable def cmR (s : SS) (at0 at_ : Int) (res : AObj) (st : Nat) (gen first n : Nat) (m : Nat → Nat) (b : Nat → Nat → Nat) : List (Option AObj) :=
  [some s.o, some (cellsO 27 [.sv 1 n (recF m b)]), some (cellsO 3 [.i .i64 (Int.ofNat gen)]), some (cellsO 3 [.i .i64 (Int.ofNat first)]), some (cellsO 22 [.p 0 0]), some (cellsO 3 [.i .i64 at_]), some res,
   some (lpO Tryd.prog 53 0 st 23 [(0, .p 0 0), (1, .i .i64 at0), (2, cutV), (3, .p 4 0), (4, .p 5 0), (6, .p 6 0), (9, cutV)])]
noncomputable def inT (n i np k mi : Nat) (bi : Nat → Nat) (m : Nat → Nat) (b : Nat → Nat → Nat) : List (Nat × AV) :=
  [(0, .yf 7), (2, .p 2 0), (3, .p 3 0), (5, .i .i64 (Int.ofNat i)), (6, .sv 1 mi (byF bi)), (7, .i .i64 (Int.ofNat np)), (10, .sv 1 n (recF m b)), (11, .i .i64 (Int.ofNat n)), (12, .i .i64 (Int.ofNat i)), (19, .i .i64 (Int.ofNat np)), (20, .i .i64 (Int.ofNat k))]
noncomputable def oT (n i : Nat) (m : Nat → Nat) (b : Nat → Nat → Nat) : List (Nat × AV) :=
  [(0, .yf 7), (2, .p 2 0), (3, .p 3 0), (10, .sv 1 n (recF m b)), (11, .i .i64 (Int.ofNat n)), (12, .i .i64 (Int.ofNat i))]
theorem partsA_vc (m : Nat) (b : Nat → Nat) (K : Res → Orc → Prop) : runK Tryd.prog 1000000 (.call 76 [.sv 1 m (byF b)] (mkH [])) (Orc.z) K = (((-9223372036854775808 : Int) ≤
  Int.ofNat m + (47 : Int) ∧ Int.ofNat m + (47 : Int) ≤ (9223372036854775807 : Int)) ∧ ((-9223372036854775808 : Int) ≤ Int.ofNat m + (47 : Int) - (1 : Int) ∧ Int.ofNat m + (47 :
  Int) - (1 : Int) ≤ (9223372036854775807 : Int)) ∧ ((47 : Int) ≠ (0 : Int) ∧ (-9223372036854775808 : Int) ≤ Int.tdiv (Int.ofNat m + (47 : Int) - (1 : Int)) (47 : Int) ∧ Int.tdiv
  (Int.ofNat m + (47 : Int) - (1 : Int)) (47 : Int) ≤ (9223372036854775807 : Int)) ∧ K (Res.rv (AV.i IntKind.i64 (if Int.tdiv (Int.ofNat m + (47 : Int) - (1 : Int)) (47 : Int) > (1
  : Int) then Int.tdiv (Int.ofNat m + (47 : Int) - (1 : Int)) (47 : Int) else (1 : Int))) { tree := T.e, next := 0, log := [] }) Orc.z) := by kernel_rfl
theorem in_vc (s : SS) (S2 : SS) (E2 : Int) (C2 : Nat → Nat) (at0 at_ : Int) (gen first n i np k mi : Nat) (bi : Nat → Nat) (m : Nat → Nat) (b : Nat → Nat → Nat) (K : Res → Orc →
  Prop) : runK Tryd.prog 1000000 (.code (loopAt Tryd.prog 80 1) 46 (mkT (inT n i np k mi bi m b)) (mkH (cmR s at0 at_ resO 0 gen first n m b))) (Orc.s (Orc.cal [] (AV.sv 1 64 (byF
  C2)) [] (Orc.cal [0] (AV.i .i64 E2) [Upd.set (SS.o S2)] (Orc.s (Orc.c Orc.z) (Orc.c Orc.z)))) Orc.z) K = ((decide (Int.ofNat k < Int.ofNat np) = true → ((-9223372036854775808) ≤
  Int.ofNat k * 47 ∧ Int.ofNat k * (47 : Int) ≤ (9223372036854775807 : Int)) ∧ ((-9223372036854775808) ≤ Int.ofNat k + 1 ∧ Int.ofNat k + (1 : Int) ≤ (9223372036854775807 : Int)) ∧
  ((-9223372036854775808) ≤ (Int.ofNat k + 1) * 47 ∧ (Int.ofNat k + 1) * (47 : Int) ≤ (9223372036854775807 : Int)) ∧ (0 ≤ Int.ofNat k * 47 ∧ (0 ≤ if Int.ofNat mi < (Int.ofNat k + 1)
  * 47 then Int.ofNat mi else (Int.ofNat k + 1) * 47) ∧ Int.toNat (Int.ofNat k * 47) ≤ Int.toNat (if Int.ofNat mi < (Int.ofNat k + 1) * 47 then Int.ofNat mi else (Int.ofNat k + 1) *
  47) ∧ Int.toNat (if Int.ofNat mi < (Int.ofNat k + 1) * 47 then Int.ofNat mi else (Int.ofNat k + 1) * 47) ≤ mi) ∧ ((-9223372036854775808) ≤ Int.ofNat first + Int.ofNat i ∧
  Int.ofNat first + Int.ofNat i ≤ 9223372036854775807) ∧ Con Tryd.prog 78 [AV.agg [AV.i .i64 (Int.ofNat gen), AV.i .i64 (Int.ofNat first + Int.ofNat i), AV.i .i64 (Int.ofNat k),
  AV.i .i64 (Int.ofNat np), AV.sv 1 (Int.toNat (if Int.ofNat mi < (Int.ofNat k + 1) * 47 then Int.ofNat mi else (Int.ofNat k + 1) * 47) - Int.toNat (Int.ofNat k * 47)) (shiftF
  (Int.toNat (Int.ofNat k * 47)) (byF bi))]] [] (AV.sv 1 64 (byF C2)) [] ∧ Con Tryd.prog 77 [AV.p 0 0, AV.i .i64 at_, AV.sv 1 64 (byF C2)] [some (SS.o s)] (AV.i .i64 E2) [Upd.set
  (SS.o S2)] ∧ ((!decide (E2 = 0)) = true → True ∧ K (Res.st XO.ret (T.n (some (AV.yf 7)) (T.n none (T.n (some (AV.p 3 0)) (T.n (some (AV.i .i64 (Int.ofNat np))) (T.n none (T.n
  (some (AV.i .i64 (if Int.ofNat mi < (Int.ofNat k + 1) * 47 then Int.ofNat mi else (Int.ofNat k + 1) * 47))) T.e T.e) T.e) (T.n (some (AV.sv 1 mi (byF bi))) (T.n (some (AV.i .i64
  (Int.ofNat np))) T.e T.e) T.e)) (T.n (some (AV.i .i64 (Int.ofNat n))) (T.n (some (AV.i .i64 (Int.ofNat np))) (T.n (some (AV.i .i64 (Int.ofNat first))) T.e T.e) T.e) (T.n (some
  (AV.i .i64 (Int.ofNat k + 1))) (T.n (some (AV.b true)) T.e T.e) T.e))) (T.n (some (AV.i .i64 (Int.ofNat i))) (T.n (some (AV.sv 1 (Int.toNat (if Int.ofNat mi < (Int.ofNat k + 1) *
  47 then Int.ofNat mi else (Int.ofNat k + 1) * 47) - Int.toNat (Int.ofNat k * 47)) (shiftF (Int.toNat (Int.ofNat k * 47)) (byF bi)))) (T.n none (T.n (some (AV.yf 7)) T.e T.e) T.e)
  (T.n (some (AV.i .i64 (Int.ofNat k * 47))) (T.n (some (AV.agg [AV.i .i64 (Int.ofNat gen), AV.i .i64 (Int.ofNat first + Int.ofNat i), AV.i .i64 (Int.ofNat k), AV.i .i64 (Int.ofNat
  np), AV.sv 1 (Int.toNat (if Int.ofNat mi < (Int.ofNat k + 1) * 47 then Int.ofNat mi else (Int.ofNat k + 1) * 47) - Int.toNat (Int.ofNat k * 47)) (shiftF (Int.toNat (Int.ofNat k *
  47)) (byF bi))])) T.e T.e) T.e)) (T.n none (T.n (some (AV.b (decide (Int.ofNat k < Int.ofNat np)))) (T.n (some (AV.i .i64 (Int.ofNat first + Int.ofNat i))) T.e T.e) T.e) (T.n
  (some (AV.sv 1 mi (byF bi))) T.e T.e)))) (T.n (some (AV.p 2 0)) (T.n none (T.n (some (AV.i .i64 (Int.ofNat k))) (T.n none (T.n (some (AV.sv 1 (Int.toNat (if Int.ofNat mi <
  (Int.ofNat k + 1) * 47 then Int.ofNat mi else (Int.ofNat k + 1) * 47) - Int.toNat (Int.ofNat k * 47)) (shiftF (Int.toNat (Int.ofNat k * 47)) (byF bi)))) T.e T.e) T.e) (T.n (some
  (AV.i .i64 (Int.ofNat k))) (T.n (some (AV.sv 1 (Int.toNat (if Int.ofNat mi < (Int.ofNat k + 1) * 47 then Int.ofNat mi else (Int.ofNat k + 1) * 47) - Int.toNat (Int.ofNat k * 47))
  (shiftF (Int.toNat (Int.ofNat k * 47)) (byF bi)))) T.e T.e) T.e)) (T.n (some (AV.i .i64 (Int.ofNat i))) (T.n (some (AV.i .i64 (Int.ofNat k))) (T.n (some (AV.i .i64 (Int.ofNat i)))
  T.e T.e) T.e) (T.n (some (AV.i .i64 ((Int.ofNat k + 1) * 47))) T.e T.e))) (T.n (some (AV.sv 1 mi (byF bi))) (T.n (some (AV.sv 1 n (recF m b))) (T.n none (T.n (some (AV.i .i64
  (Int.ofNat gen))) T.e T.e) T.e) (T.n (some (AV.i .i64 (Int.ofNat k))) (T.n (some (AV.b false)) T.e T.e) T.e)) (T.n none (T.n (some (AV.i .i64 (Int.ofNat k))) (T.n (some (AV.i .i64
  (Int.ofNat k))) T.e T.e) T.e) (T.n (some (AV.i .i64 (Int.ofNat mi))) T.e T.e))))) ⟨T.n (some (AObj.segs 77 33799 [{ st := 0, sz := 1, n := 1, f := oneF (CV.i .i64 (Int.ofNat (SS.n S2))) },
  { st := 1, sz := 65, n := 512, f := durF (SS.dur S2) (SS.torn S2) }, { st := 33281, sz := 1, n := 1, f := oneF (CV.opv (pB (SS.P S2)) 66 (pW (SS.P S2))) }, { st := 33282, sz := 1, n := 512, f := latF (lB (SS.P S2)) (lW (SS.P S2)) },
  { st := 33794, sz := 5, n := 1, f := tailF (Int.ofNat (List.length (SS.P S2))) (Int.ofNat (SS.wr S2)) (SS.off S2) (SS.armed S2) (Int.ofNat (SS.left S2)) }])) (T.n (some
  (AObj.cells 27 1 [] (T.n (some (AV.sv 1 n (recF m b))) T.e T.e))) (T.n (some (AObj.cells 3 1 [] (T.n (some (AV.i .i64 (Int.ofNat first))) T.e T.e))) (T.n (some (AObj.lp 1 23 cmP
  cmA cmB (T.n (some (AV.p 0 0)) (T.n (some (AV.i .i64 at0)) (T.n (some (AV.p 4 0)) T.e T.e) (T.n none (T.n (some (AV.fn (Fn.func 80) [] [AV.p 1 0, AV.p 2 0, AV.p 3 0])) T.e T.e)
  T.e)) (T.n (some (AV.fn (Fn.func 80) [] [AV.p 1 0, AV.p 2 0, AV.p 3 0])) (T.n (some (AV.p 5 0)) T.e T.e) (T.n (some (AV.p 6 0)) T.e T.e))))) T.e T.e) T.e) (T.n (some (AObj.cells 3
  1 [] (T.n (some (AV.i .i64 at_)) T.e T.e))) T.e T.e)) (T.n (some (AObj.cells 3 1 [] (T.n (some (AV.i .i64 (Int.ofNat gen))) T.e T.e))) (T.n (some (AObj.cells 22 1 [] (T.n (some
  (AV.p 0 0)) T.e T.e))) (T.n (some (AObj.cells 121 5 [AV.i .i64 0, AV.i .i64 0, AV.i .i64 0, AV.i .i64 0, AV.l0] (T.n (some (AV.i .i64 (Int.ofNat gen))) (T.n (some (AV.i .i64
  (Int.ofNat first + Int.ofNat i))) (T.n (some (AV.i .i64 (Int.ofNat np))) T.e T.e) T.e) (T.n (some (AV.i .i64 (Int.ofNat k))) (T.n (some (AV.sv 1 (Int.toNat (if Int.ofNat mi <
  (Int.ofNat k + 1) * 47 then Int.ofNat mi else (Int.ofNat k + 1) * 47) - Int.toNat (Int.ofNat k * 47)) (shiftF (Int.toNat (Int.ofNat k * 47)) (byF bi)))) T.e T.e) T.e)))) T.e T.e)
  T.e) (T.n (some (AObj.cells 23 1 [AV.i .i64 0] (T.n (some (AV.i .i64 E2)) T.e T.e))) T.e T.e)), 9, [7, 6, 0, 8, 8, 7]⟩) Orc.z) ∧ ((!decide (E2 = 0)) = false →
  ((-9223372036854775808) ≤ at_ + 1 ∧ at_ + (1 : Int) ≤ (9223372036854775807 : Int)) ∧ True ∧ ((-9223372036854775808) ≤ Int.ofNat k + 1 ∧ Int.ofNat k + (1 : Int) ≤
  (9223372036854775807 : Int)) ∧ K (Res.st XO.nrm (T.n (some (AV.yf 7)) (T.n none (T.n (some (AV.p 3 0)) (T.n (some (AV.i .i64 (Int.ofNat np))) (T.n none (T.n (some (AV.i .i64 (if
  Int.ofNat mi < (Int.ofNat k + 1) * 47 then Int.ofNat mi else (Int.ofNat k + 1) * 47))) T.e T.e) T.e) (T.n (some (AV.sv 1 mi (byF bi))) (T.n (some (AV.i .i64 (Int.ofNat np))) T.e
  T.e) T.e)) (T.n (some (AV.i .i64 (Int.ofNat n))) (T.n (some (AV.i .i64 (Int.ofNat np))) (T.n (some (AV.i .i64 (Int.ofNat first))) T.e T.e) T.e) (T.n (some (AV.i .i64 (Int.ofNat k
  + 1))) (T.n (some (AV.b false)) T.e T.e) T.e))) (T.n (some (AV.i .i64 (Int.ofNat i))) (T.n (some (AV.sv 1 (Int.toNat (if Int.ofNat mi < (Int.ofNat k + 1) * 47 then Int.ofNat mi
  else (Int.ofNat k + 1) * 47) - Int.toNat (Int.ofNat k * 47)) (shiftF (Int.toNat (Int.ofNat k * 47)) (byF bi)))) (T.n none (T.n (some (AV.yf 7)) T.e T.e) T.e) (T.n (some (AV.i .i64
  (Int.ofNat k * 47))) (T.n (some (AV.agg [AV.i .i64 (Int.ofNat gen), AV.i .i64 (Int.ofNat first + Int.ofNat i), AV.i .i64 (Int.ofNat k), AV.i .i64 (Int.ofNat np), AV.sv 1
  (Int.toNat (if Int.ofNat mi < (Int.ofNat k + 1) * 47 then Int.ofNat mi else (Int.ofNat k + 1) * 47) - Int.toNat (Int.ofNat k * 47)) (shiftF (Int.toNat (Int.ofNat k * 47)) (byF
  bi))])) T.e T.e) T.e)) (T.n none (T.n (some (AV.b (decide (Int.ofNat k < Int.ofNat np)))) (T.n (some (AV.i .i64 (Int.ofNat first + Int.ofNat i))) T.e T.e) T.e) (T.n (some (AV.sv 1
  mi (byF bi))) T.e T.e)))) (T.n (some (AV.p 2 0)) (T.n none (T.n (some (AV.i .i64 (Int.ofNat k))) (T.n none (T.n (some (AV.sv 1 (Int.toNat (if Int.ofNat mi < (Int.ofNat k + 1) * 47
  then Int.ofNat mi else (Int.ofNat k + 1) * 47) - Int.toNat (Int.ofNat k * 47)) (shiftF (Int.toNat (Int.ofNat k * 47)) (byF bi)))) T.e T.e) T.e) (T.n (some (AV.i .i64 (Int.ofNat
  k))) (T.n (some (AV.sv 1 (Int.toNat (if Int.ofNat mi < (Int.ofNat k + 1) * 47 then Int.ofNat mi else (Int.ofNat k + 1) * 47) - Int.toNat (Int.ofNat k * 47)) (shiftF (Int.toNat
  (Int.ofNat k * 47)) (byF bi)))) T.e T.e) T.e)) (T.n (some (AV.i .i64 (Int.ofNat i))) (T.n (some (AV.i .i64 (Int.ofNat k + 1))) (T.n (some (AV.i .i64 (Int.ofNat i))) T.e T.e) T.e)
  (T.n (some (AV.i .i64 ((Int.ofNat k + 1) * 47))) (T.n (some (AV.i .i64 (Int.ofNat k + 1))) T.e T.e) T.e))) (T.n (some (AV.sv 1 mi (byF bi))) (T.n (some (AV.sv 1 n (recF m b)))
  (T.n none (T.n (some (AV.i .i64 (Int.ofNat gen))) T.e T.e) T.e) (T.n (some (AV.i .i64 (Int.ofNat k))) (T.n (some (AV.b true)) T.e T.e) T.e)) (T.n none (T.n (some (AV.i .i64
  (Int.ofNat k))) (T.n (some (AV.i .i64 (Int.ofNat k))) T.e T.e) T.e) (T.n (some (AV.i .i64 (Int.ofNat mi))) T.e T.e))))) ⟨T.n (some (AObj.segs 77 33799 [{ st := 0, sz := 1, n := 1, f := oneF (CV.i .i64 (Int.ofNat (SS.n S2))) },
  { st := 1, sz := 65, n := 512, f := durF (SS.dur S2) (SS.torn S2) }, { st := 33281, sz := 1, n := 1, f := oneF (CV.opv (pB (SS.P S2)) 66 (pW (SS.P S2))) }, { st := 33282, sz := 1, n := 512, f := latF (lB (SS.P S2)) (lW (SS.P S2)) },
  { st := 33794, sz := 5, n := 1, f := tailF (Int.ofNat (List.length (SS.P S2))) (Int.ofNat (SS.wr S2)) (SS.off S2) (SS.armed S2) (Int.ofNat (SS.left S2)) }])) (T.n (some
  (AObj.cells 27 1 [] (T.n (some (AV.sv 1 n (recF m b))) T.e T.e))) (T.n (some (AObj.cells 3 1 [] (T.n (some (AV.i .i64 (Int.ofNat first))) T.e T.e))) (T.n (some (AObj.lp 0 23 cmP
  cmA cmB (T.n (some (AV.p 0 0)) (T.n (some (AV.i .i64 at0)) (T.n (some (AV.p 4 0)) T.e T.e) (T.n none (T.n (some (AV.fn (Fn.func 80) [] [AV.p 1 0, AV.p 2 0, AV.p 3 0])) T.e T.e)
  T.e)) (T.n (some (AV.fn (Fn.func 80) [] [AV.p 1 0, AV.p 2 0, AV.p 3 0])) (T.n (some (AV.p 5 0)) T.e T.e) (T.n (some (AV.p 6 0)) T.e T.e))))) T.e T.e) T.e) (T.n (some (AObj.cells 3
  1 [] (T.n (some (AV.i .i64 (at_ + 1))) T.e T.e))) T.e T.e)) (T.n (some (AObj.cells 3 1 [] (T.n (some (AV.i .i64 (Int.ofNat gen))) T.e T.e))) (T.n (some (AObj.cells 22 1 [] (T.n
  (some (AV.p 0 0)) T.e T.e))) (T.n (some (AObj.cells 121 5 [AV.i .i64 0, AV.i .i64 0, AV.i .i64 0, AV.i .i64 0, AV.l0] (T.n (some (AV.i .i64 (Int.ofNat gen))) (T.n (some (AV.i .i64
  (Int.ofNat first + Int.ofNat i))) (T.n (some (AV.i .i64 (Int.ofNat np))) T.e T.e) T.e) (T.n (some (AV.i .i64 (Int.ofNat k))) (T.n (some (AV.sv 1 (Int.toNat (if Int.ofNat mi <
  (Int.ofNat k + 1) * 47 then Int.ofNat mi else (Int.ofNat k + 1) * 47) - Int.toNat (Int.ofNat k * 47)) (shiftF (Int.toNat (Int.ofNat k * 47)) (byF bi)))) T.e T.e) T.e)))) T.e T.e)
  T.e) (T.n (some (AObj.cells 23 1 [AV.i .i64 0] T.e)) T.e T.e)), 9, [7, 5, 0, 8, 8, 7]⟩) Orc.z)) ∧ (decide (Int.ofNat k < Int.ofNat np) = false → K (Res.st (XO.exit 2) (T.n (some
  (AV.yf 7)) (T.n none (T.n (some (AV.p 3 0)) (T.n (some (AV.i .i64 (Int.ofNat np))) T.e T.e) (T.n (some (AV.i .i64 (Int.ofNat n))) (T.n (some (AV.i .i64 (Int.ofNat np))) T.e T.e)
  T.e)) (T.n (some (AV.i .i64 (Int.ofNat i))) T.e (T.n none (T.n (some (AV.b (decide (Int.ofNat k < Int.ofNat np)))) T.e T.e) T.e))) (T.n (some (AV.p 2 0)) (T.n none T.e (T.n (some
  (AV.i .i64 (Int.ofNat i))) (T.n (some (AV.i .i64 (Int.ofNat k))) T.e T.e) T.e)) (T.n (some (AV.sv 1 mi (byF bi))) (T.n (some (AV.sv 1 n (recF m b))) T.e T.e) T.e))) ⟨T.n (some
  (AObj.segs 77 33799 [{ st := 0, sz := 1, n := 1, f := oneF (CV.i .i64 (Int.ofNat (SS.n s))) }, { st := 1, sz := 65, n := 512, f := durF (SS.dur s) (SS.torn s) }, { st := 33281, sz := 1, n := 1, f := oneF (CV.opv (pB (SS.P s)) 66 (pW (SS.P s))) },
  { st := 33282, sz := 1, n := 512, f := latF (lB (SS.P s)) (lW (SS.P s)) }, { st := 33794, sz := 5, n := 1, f := tailF (Int.ofNat (List.length (SS.P s))) (Int.ofNat (SS.wr s)) (SS.off s) (SS.armed s) (Int.ofNat (SS.left s)) }]))
  (T.n (some (AObj.cells 27 1 [] (T.n (some (AV.sv 1 n (recF m b))) T.e T.e))) (T.n (some (AObj.cells 3 1 [] (T.n (some (AV.i .i64 (Int.ofNat first))) T.e T.e))) (T.n (some (AObj.lp
  0 23 cmP cmA cmB (T.n (some (AV.p 0 0)) (T.n (some (AV.i .i64 at0)) (T.n (some (AV.p 4 0)) T.e T.e) (T.n none (T.n (some (AV.fn (Fn.func 80) [] [AV.p 1 0, AV.p 2 0, AV.p 3 0]))
  T.e T.e) T.e)) (T.n (some (AV.fn (Fn.func 80) [] [AV.p 1 0, AV.p 2 0, AV.p 3 0])) (T.n (some (AV.p 5 0)) T.e T.e) (T.n (some (AV.p 6 0)) T.e T.e))))) T.e T.e) T.e) (T.n (some
  (AObj.cells 3 1 [] (T.n (some (AV.i .i64 at_)) T.e T.e))) T.e T.e)) (T.n (some (AObj.cells 3 1 [] (T.n (some (AV.i .i64 (Int.ofNat gen))) T.e T.e))) (T.n (some (AObj.cells 22 1 []
  (T.n (some (AV.p 0 0)) T.e T.e))) T.e T.e) (T.n (some (AObj.cells 23 1 [AV.i .i64 0] T.e)) T.e T.e)), 8, []⟩) Orc.z)) := by kernel_rfl
theorem outA_vc (s : SS) (S2 : SS) (A2 : Int) (N2 : Nat) (at0 at_ : Int) (gen first n i : Nat) (m : Nat → Nat) (b : Nat → Nat → Nat) (K : Res → Orc → Prop) : runK Tryd.prog 1000000
  (.code (loopAt Tryd.prog 80 0) 46 (mkT (oT n i m b)) (mkH (cmR s at0 at_ resO 0 gen first n m b))) (Orc.s (Orc.cal [] (AV.i .i64 (Int.ofNat N2)) [] (Orc.lop [0, 1, 2, 3, 4, 5, 6,
  7] [0, 2, 3, 5, 6, 7, 10, 11, 12, 19, 20] 8 (XO.exit 2) (oT n i m b) (cmR S2 at0 A2 resO 0 gen first n m b) Orc.z)) Orc.z) K = ((decide (Int.ofNat i < Int.ofNat n) = true → (0 ≤
  Int.ofNat i ∧ Int.ofNat i < ↑n) ∧ True ∧ Con Tryd.prog 76 [AV.sv 1 (m i) (byF (b (Int.toNat (Int.ofNat i))))] [] (AV.i .i64 (Int.ofNat N2)) [] ∧ LDoes Tryd.prog (loopAt Tryd.prog
  80 1) 46 8 (mkT (inT n i N2 0 (m i) (b (Int.toNat (Int.ofNat i))) m b)) (cmR s at0 at_ resO 0 gen first n m b) (XO.exit 2) (mkT (oT n i m b)) (cmR S2 at0 A2 resO 0 gen first n m
  b) ∧ ((-9223372036854775808) ≤ Int.ofNat i + 1 ∧ Int.ofNat i + (1 : Int) ≤ (9223372036854775807 : Int)) ∧ K (Res.st XO.nrm (T.n (some (AV.yf 7)) (T.n none (T.n (some (AV.p 3 0))
  T.e (T.n (some (AV.i .i64 (Int.ofNat n))) T.e T.e)) (T.n none T.e (T.n none T.e (T.n none (T.n (some (AV.i .i64 (Int.ofNat i + 1))) T.e T.e) T.e)))) (T.n (some (AV.p 2 0)) (T.n
  none T.e (T.n (some (AV.i .i64 (Int.ofNat i + 1))) T.e T.e)) (T.n none (T.n (some (AV.sv 1 n (recF m b))) T.e T.e) T.e))) ⟨T.n (some (AObj.segs 77 33799 [{ st := 0, sz := 1, n := 1, f := oneF (CV.i .i64 (Int.ofNat (SS.n S2))) },
  { st := 1, sz := 65, n := 512, f := durF (SS.dur S2) (SS.torn S2) }, { st := 33281, sz := 1, n := 1, f := oneF (CV.opv (pB (SS.P S2)) 66 (pW (SS.P S2))) }, { st := 33282, sz := 1, n := 512, f := latF (lB (SS.P S2)) (lW (SS.P S2)) },
  { st := 33794, sz := 5, n := 1, f := tailF (Int.ofNat (List.length (SS.P S2))) (Int.ofNat (SS.wr S2)) (SS.off S2) (SS.armed S2) (Int.ofNat (SS.left S2)) }])) (T.n (some
  (AObj.cells 27 1 [] (T.n (some (AV.sv 1 n (recF m b))) T.e T.e))) (T.n (some (AObj.cells 3 1 [] (T.n (some (AV.i .i64 (Int.ofNat first))) T.e T.e))) (T.n (some (AObj.lp 0 23 cmP
  cmA cmB (T.n (some (AV.p 0 0)) (T.n (some (AV.i .i64 at0)) (T.n (some (AV.p 4 0)) T.e T.e) (T.n none (T.n (some (AV.fn (Fn.func 80) [] [AV.p 1 0, AV.p 2 0, AV.p 3 0])) T.e T.e)
  T.e)) (T.n (some (AV.fn (Fn.func 80) [] [AV.p 1 0, AV.p 2 0, AV.p 3 0])) (T.n (some (AV.p 5 0)) T.e T.e) (T.n (some (AV.p 6 0)) T.e T.e))))) T.e T.e) T.e) (T.n (some (AObj.cells 3
  1 [] (T.n (some (AV.i .i64 A2)) T.e T.e))) T.e T.e)) (T.n (some (AObj.cells 3 1 [] (T.n (some (AV.i .i64 (Int.ofNat gen))) T.e T.e))) (T.n (some (AObj.cells 22 1 [] (T.n (some
  (AV.p 0 0)) T.e T.e))) T.e T.e) (T.n (some (AObj.cells 23 1 [AV.i .i64 0] T.e)) T.e T.e)), 8, [7, 6, 5, 4, 3, 2, 1, 0]⟩) Orc.z) ∧ (decide (Int.ofNat i < Int.ofNat n) = false → K
  (Res.st (XO.exit 0) (T.n (some (AV.yf 7)) (T.n none (T.n (some (AV.p 3 0)) T.e (T.n (some (AV.i .i64 (Int.ofNat n))) T.e T.e)) (T.n none T.e (T.n (some (AV.b (decide (Int.ofNat i
  < Int.ofNat n)))) T.e T.e))) (T.n (some (AV.p 2 0)) (T.n none T.e (T.n (some (AV.i .i64 (Int.ofNat i))) T.e T.e)) (T.n none (T.n (some (AV.sv 1 n (recF m b))) T.e T.e) T.e))) ⟨T.n
  (some (AObj.segs 77 33799 [{ st := 0, sz := 1, n := 1, f := oneF (CV.i .i64 (Int.ofNat (SS.n s))) }, { st := 1, sz := 65, n := 512, f := durF (SS.dur s) (SS.torn s) }, { st := 33281, sz := 1, n := 1, f := oneF (CV.opv (pB (SS.P s)) 66 (pW (SS.P s))) },
  { st := 33282, sz := 1, n := 512, f := latF (lB (SS.P s)) (lW (SS.P s)) }, { st := 33794, sz := 5, n := 1, f := tailF (Int.ofNat (List.length (SS.P s))) (Int.ofNat (SS.wr s)) (SS.off s) (SS.armed s) (Int.ofNat (SS.left s)) }]))
  (T.n (some (AObj.cells 27 1 [] (T.n (some (AV.sv 1 n (recF m b))) T.e T.e))) (T.n (some (AObj.cells 3 1 [] (T.n (some (AV.i .i64 (Int.ofNat first))) T.e T.e))) (T.n (some (AObj.lp
  0 23 cmP cmA cmB (T.n (some (AV.p 0 0)) (T.n (some (AV.i .i64 at0)) (T.n (some (AV.p 4 0)) T.e T.e) (T.n none (T.n (some (AV.fn (Fn.func 80) [] [AV.p 1 0, AV.p 2 0, AV.p 3 0]))
  T.e T.e) T.e)) (T.n (some (AV.fn (Fn.func 80) [] [AV.p 1 0, AV.p 2 0, AV.p 3 0])) (T.n (some (AV.p 5 0)) T.e T.e) (T.n (some (AV.p 6 0)) T.e T.e))))) T.e T.e) T.e) (T.n (some
  (AObj.cells 3 1 [] (T.n (some (AV.i .i64 at_)) T.e T.e))) T.e T.e)) (T.n (some (AObj.cells 3 1 [] (T.n (some (AV.i .i64 (Int.ofNat gen))) T.e T.e))) (T.n (some (AObj.cells 22 1 []
  (T.n (some (AV.p 0 0)) T.e T.e))) T.e T.e) (T.n (some (AObj.cells 23 1 [AV.i .i64 0] T.e)) T.e T.e)), 8, []⟩) Orc.z)) := by kernel_rfl
theorem outB_vc (s : SS) (S2 : SS) (E2 : Int) (A2 : Int) (N2 : Nat) (at0 at_ : Int) (gen first n i : Nat) (m : Nat → Nat) (b : Nat → Nat → Nat) (K : Res → Orc → Prop) : runK
  Tryd.prog 1000000 (.code (loopAt Tryd.prog 80 0) 46 (mkT (oT n i m b)) (mkH (cmR s at0 at_ resO 0 gen first n m b))) (Orc.s (Orc.cal [] (AV.i .i64 (Int.ofNat N2)) [] (Orc.lop [0,
  1, 2, 3, 4, 5, 6, 7] [0, 2, 3, 5, 6, 7, 10, 11, 12, 19, 20] 8 XO.ret [] (cmR S2 at0 A2 (resE E2) 1 gen first n m b) Orc.z)) Orc.z) K = ((decide (Int.ofNat i < Int.ofNat n) = true
  → (0 ≤ Int.ofNat i ∧ Int.ofNat i < ↑n) ∧ True ∧ Con Tryd.prog 76 [AV.sv 1 (m i) (byF (b (Int.toNat (Int.ofNat i))))] [] (AV.i .i64 (Int.ofNat N2)) [] ∧ LDoes Tryd.prog (loopAt
  Tryd.prog 80 1) 46 8 (mkT (inT n i N2 0 (m i) (b (Int.toNat (Int.ofNat i))) m b)) (cmR s at0 at_ resO 0 gen first n m b) XO.ret (mkT []) (cmR S2 at0 A2 (resE E2) 1 gen first n m
  b) ∧ K (Res.st XO.ret T.e ⟨T.n (some (AObj.segs 77 33799 [{ st := 0, sz := 1, n := 1, f := oneF (CV.i .i64 (Int.ofNat (SS.n S2))) }, { st := 1, sz := 65, n := 512, f := durF (SS.dur S2) (SS.torn S2) },
  { st := 33281, sz := 1, n := 1, f := oneF (CV.opv (pB (SS.P S2)) 66 (pW (SS.P S2))) }, { st := 33282, sz := 1, n := 512, f := latF (lB (SS.P S2)) (lW (SS.P S2)) }, { st := 33794, sz := 5, n := 1, f := tailF (Int.ofNat (List.length (SS.P S2))) (Int.ofNat (SS.wr S2)) (SS.off S2) (SS.armed S2) (Int.ofNat (SS.left S2)) }]))
  (T.n (some (AObj.cells 27 1 [] (T.n (some (AV.sv 1 n (recF m b))) T.e T.e))) (T.n (some (AObj.cells 3 1 [] (T.n (some (AV.i .i64 (Int.ofNat first))) T.e T.e))) (T.n (some (AObj.lp
  1 23 cmP cmA cmB (T.n (some (AV.p 0 0)) (T.n (some (AV.i .i64 at0)) (T.n (some (AV.p 4 0)) T.e T.e) (T.n none (T.n (some (AV.fn (Fn.func 80) [] [AV.p 1 0, AV.p 2 0, AV.p 3 0]))
  T.e T.e) T.e)) (T.n (some (AV.fn (Fn.func 80) [] [AV.p 1 0, AV.p 2 0, AV.p 3 0])) (T.n (some (AV.p 5 0)) T.e T.e) (T.n (some (AV.p 6 0)) T.e T.e))))) T.e T.e) T.e) (T.n (some
  (AObj.cells 3 1 [] (T.n (some (AV.i .i64 A2)) T.e T.e))) T.e T.e)) (T.n (some (AObj.cells 3 1 [] (T.n (some (AV.i .i64 (Int.ofNat gen))) T.e T.e))) (T.n (some (AObj.cells 22 1 []
  (T.n (some (AV.p 0 0)) T.e T.e))) T.e T.e) (T.n (some (AObj.cells 23 1 [AV.i .i64 0] (T.n (some (AV.i .i64 E2)) T.e T.e))) T.e T.e)), 8, [7, 6, 5, 4, 3, 2, 1, 0]⟩) Orc.z) ∧
  (decide (Int.ofNat i < Int.ofNat n) = false → K (Res.st (XO.exit 0) (T.n (some (AV.yf 7)) (T.n none (T.n (some (AV.p 3 0)) T.e (T.n (some (AV.i .i64 (Int.ofNat n))) T.e T.e)) (T.n
  none T.e (T.n (some (AV.b (decide (Int.ofNat i < Int.ofNat n)))) T.e T.e))) (T.n (some (AV.p 2 0)) (T.n none T.e (T.n (some (AV.i .i64 (Int.ofNat i))) T.e T.e)) (T.n none (T.n
  (some (AV.sv 1 n (recF m b))) T.e T.e) T.e))) ⟨T.n (some (AObj.segs 77 33799 [{ st := 0, sz := 1, n := 1, f := oneF (CV.i .i64 (Int.ofNat (SS.n s))) }, { st := 1, sz := 65, n := 512, f := durF (SS.dur s) (SS.torn s) },
  { st := 33281, sz := 1, n := 1, f := oneF (CV.opv (pB (SS.P s)) 66 (pW (SS.P s))) }, { st := 33282, sz := 1, n := 512, f := latF (lB (SS.P s)) (lW (SS.P s)) }, { st := 33794, sz := 5, n := 1, f := tailF (Int.ofNat (List.length (SS.P s))) (Int.ofNat (SS.wr s)) (SS.off s) (SS.armed s) (Int.ofNat (SS.left s)) }]))
  (T.n (some (AObj.cells 27 1 [] (T.n (some (AV.sv 1 n (recF m b))) T.e T.e))) (T.n (some (AObj.cells 3 1 [] (T.n (some (AV.i .i64 (Int.ofNat first))) T.e T.e))) (T.n (some (AObj.lp
  0 23 cmP cmA cmB (T.n (some (AV.p 0 0)) (T.n (some (AV.i .i64 at0)) (T.n (some (AV.p 4 0)) T.e T.e) (T.n none (T.n (some (AV.fn (Fn.func 80) [] [AV.p 1 0, AV.p 2 0, AV.p 3 0]))
  T.e T.e) T.e)) (T.n (some (AV.fn (Fn.func 80) [] [AV.p 1 0, AV.p 2 0, AV.p 3 0])) (T.n (some (AV.p 5 0)) T.e T.e) (T.n (some (AV.p 6 0)) T.e T.e))))) T.e T.e) T.e) (T.n (some
  (AObj.cells 3 1 [] (T.n (some (AV.i .i64 at_)) T.e T.e))) T.e T.e)) (T.n (some (AObj.cells 3 1 [] (T.n (some (AV.i .i64 (Int.ofNat gen))) T.e T.e))) (T.n (some (AObj.cells 22 1 []
  (T.n (some (AV.p 0 0)) T.e T.e))) T.e T.e) (T.n (some (AObj.cells 23 1 [AV.i .i64 0] T.e)) T.e T.e)), 8, []⟩) Orc.z)) := by kernel_rfl
theorem cmA_vc (s : SS) (S2 : SS) (E2 : Int) (S3 : SS) (A2 : Int) (at_ gen first n : Nat) (m : Nat → Nat) (b : Nat → Nat → Nat) (K : Res → Orc → Prop) : runK Tryd.prog 1000000
  (.call 53 [.p 0 0, .i .i64 (Int.ofNat at_), cutV] (mkH [some s.o, some (cellsO 27 [.sv 1 n (recF m b)]), some (cellsO 3 [.i .i64 (Int.ofNat gen)]), some (cellsO 3 [.i .i64
  (Int.ofNat first)])])) (Orc.inl (Orc.lop [0, 1, 2, 3, 4, 5, 6, 7] [0, 2, 3, 10, 11, 12] 8 (XO.exit 0) [] (cmR S2 (Int.ofNat at_) A2 resO 0 gen first n m b) (Orc.cal [0] (AV.i .i64
  E2) [Upd.set (SS.o S3)] Orc.z))) K = (LDoes Tryd.prog (loopAt Tryd.prog 80 0) 46 8 (mkT (oT n 0 m b)) (cmR s (Int.ofNat at_) (Int.ofNat at_) resO 0 gen first n m b) (XO.exit 0)
  (mkT []) (cmR S2 (Int.ofNat at_) A2 resO 0 gen first n m b) ∧ Con Tryd.prog 79 [AV.p 0 0] [some (SS.o S2)] (AV.i .i64 E2) [Upd.set (SS.o S3)] ∧ K (Res.rv (AV.i .i64 E2) ⟨T.n (some
  (AObj.segs 77 33799 [{ st := 0, sz := 1, n := 1, f := oneF (CV.i .i64 (Int.ofNat (SS.n S3))) }, { st := 1, sz := 65, n := 512, f := durF (SS.dur S3) (SS.torn S3) }, { st := 33281, sz := 1, n := 1, f := oneF (CV.opv (pB (SS.P S3)) 66 (pW (SS.P S3))) },
  { st := 33282, sz := 1, n := 512, f := latF (lB (SS.P S3)) (lW (SS.P S3)) }, { st := 33794, sz := 5, n := 1, f := tailF (Int.ofNat (List.length (SS.P S3))) (Int.ofNat (SS.wr S3)) (SS.off S3) (SS.armed S3) (Int.ofNat (SS.left S3)) }]))
  (T.n (some (AObj.cells 27 1 [] (T.n (some (AV.sv 1 n (recF m b))) T.e T.e))) (T.n (some (AObj.cells 3 1 [] (T.n (some (AV.i .i64 (Int.ofNat first))) T.e T.e))) (T.n none T.e T.e)
  T.e) (T.n (some (AObj.cells 3 1 [] (T.n (some (AV.i .i64 A2)) T.e T.e))) T.e T.e)) (T.n (some (AObj.cells 3 1 [] (T.n (some (AV.i .i64 (Int.ofNat gen))) T.e T.e))) (T.n (some
  (AObj.cells 22 1 [] (T.n (some (AV.p 0 0)) T.e T.e))) T.e T.e) (T.n (some (AObj.cells 23 1 [AV.i .i64 0] (T.n (some (AV.i .i64 E2)) T.e T.e))) T.e T.e)), 8, [6, 0, 7, 7, 6, 5, 4,
  3, 2, 1, 0, 7, 6, 5, 4]⟩) Orc.z) := by kernel_rfl
theorem cmB_vc (s : SS) (S2 : SS) (E2 : Int) (A2 : Int) (at_ gen first n : Nat) (m : Nat → Nat) (b : Nat → Nat → Nat) (K : Res → Orc → Prop) : runK Tryd.prog 1000000 (.call 53 [.p
  0 0, .i .i64 (Int.ofNat at_), cutV] (mkH [some s.o, some (cellsO 27 [.sv 1 n (recF m b)]), some (cellsO 3 [.i .i64 (Int.ofNat gen)]), some (cellsO 3 [.i .i64 (Int.ofNat
  first)])])) (Orc.inl (Orc.lop [0, 1, 2, 3, 4, 5, 6, 7] [0, 2, 3, 10, 11, 12] 8 XO.ret [] (cmR S2 (Int.ofNat at_) A2 (resE E2) 1 gen first n m b) Orc.z)) K = (LDoes Tryd.prog
  (loopAt Tryd.prog 80 0) 46 8 (mkT (oT n 0 m b)) (cmR s (Int.ofNat at_) (Int.ofNat at_) resO 0 gen first n m b) XO.ret (mkT []) (cmR S2 (Int.ofNat at_) A2 (resE E2) 1 gen first n m
  b) ∧ K (Res.rv (AV.i .i64 E2) ⟨T.n (some (AObj.segs 77 33799 [{ st := 0, sz := 1, n := 1, f := oneF (CV.i .i64 (Int.ofNat (SS.n S2))) }, { st := 1, sz := 65, n := 512, f := durF (SS.dur S2) (SS.torn S2) },
  { st := 33281, sz := 1, n := 1, f := oneF (CV.opv (pB (SS.P S2)) 66 (pW (SS.P S2))) }, { st := 33282, sz := 1, n := 512, f := latF (lB (SS.P S2)) (lW (SS.P S2)) }, { st := 33794, sz := 5, n := 1, f := tailF (Int.ofNat (List.length (SS.P S2))) (Int.ofNat (SS.wr S2)) (SS.off S2) (SS.armed S2) (Int.ofNat (SS.left S2)) }]))
  (T.n (some (AObj.cells 27 1 [] (T.n (some (AV.sv 1 n (recF m b))) T.e T.e))) (T.n (some (AObj.cells 3 1 [] (T.n (some (AV.i .i64 (Int.ofNat first))) T.e T.e))) (T.n none T.e T.e)
  T.e) (T.n (some (AObj.cells 3 1 [] (T.n (some (AV.i .i64 A2)) T.e T.e))) T.e T.e)) (T.n (some (AObj.cells 3 1 [] (T.n (some (AV.i .i64 (Int.ofNat gen))) T.e T.e))) (T.n (some
  (AObj.cells 22 1 [] (T.n (some (AV.p 0 0)) T.e T.e))) T.e T.e) (T.n (some (AObj.cells 23 1 [AV.i .i64 0] (T.n (some (AV.i .i64 E2)) T.e T.e))) T.e T.e)), 8, [7, 7, 6, 5, 4, 3, 2,
  1, 0, 7, 6, 5, 4]⟩) Orc.z) := by kernel_rfl
noncomputable def npF (m : Nat) : Nat := if (m + 46) / 47 > 1 then (m + 46) / 47 else 1
theorem npF_le {m : Nat} (h : m ≤ 4611686018427387904) : npF m ≤ 4611686018427387904 := by unfold npF; split <;> omega
theorem npF_pos (m : Nat) : 1 ≤ npF m := by unfold npF; split <;> omega
theorem npF_cov {m k : Nat} (hk : k < npF m) : k * 47 ≤ m := by
  unfold npF at hk; split at hk <;> omega
theorem parts_con (m : Nat) (b : Nat → Nat) (hm : m ≤ 4611686018427387904) : Con Tryd.prog 76 [.sv 1 m (byF b)] [] (.i .i64 (Int.ofNat (npF m))) [] := by
  have e : Int.tdiv (Int.ofNat m + (47 : Int) - (1 : Int)) (47 : Int) = Int.ofNat ((m + 46) / 47) := by
    rw [show Int.ofNat m + (47 : Int) - (1 : Int) = Int.ofNat (m + 46) from by simp; omega]; exact Eq.refl _
  refine con_plain rfl ((partsA_vc m b _).mpr ?_)
  rw [e]
  refine ⟨⟨by simp; omega, by simp; omega⟩, ⟨by simp; omega, by simp; omega⟩, ⟨by decide, by simp; omega, by simp; omega⟩, _, _, rfl, ?_⟩
  have : (if Int.ofNat ((m + 46) / 47) > (1 : Int) then Int.ofNat ((m + 46) / 47) else (1 : Int)) = Int.ofNat (npF m) := by
    unfold npF
    by_cases h : (m + 46) / 47 > 1
    · rw [if_pos h, if_pos (by simp; omega)]
    · rw [if_neg h, if_neg (by simp; omega)]; exact Eq.refl _
  rw [this]
noncomputable def pl (mi k : Nat) : Nat := min ((k + 1) * 47) mi - k * 47
noncomputable def pcB (gen num np mi : Nat) (bi : Nat → Nat) (k : Nat) : Nat → Nat := psecB gen num k np (pl mi k) fun j => bi (k * 47 + j)
noncomputable def runW (c : Nat → Nat → Nat) : Nat → SS → Nat → Nat → Int × SS × Nat
  | 0, s, a, _ => (0, s, a)
  | j + 1, s, a, k => match decide (s.wrE (Int.ofNat a) 64 = 0) with
    | true => runW c j (s.wrS (Int.ofNat a) 64 fun t => Int.ofNat (c k t)) (a + 1) (k + 1)
    | false => (s.wrE (Int.ofNat a) 64, s.wrS (Int.ofNat a) 64 (fun t => Int.ofNat (c k t)), a)
theorem wrS_n (s : SS) (i : Int) (bs : Nat → Int) : (s.wrS i 64 bs).n = s.n := by
  unfold SS.wrS
  cases s.off with
  | true => rfl
  | false =>
    simp only
    split
    · rcases pay_or (s.wrote i.toNat bs) with e | e | e <;> rw [e] <;> rfl
    · rfl
theorem shift_by (q : Nat) (bi : Nat → Nat) : shiftF q (byF bi) = byF (fun j => bi (q + j)) := by
  funext i j; rw [shiftF_eq]; rfl
section
variable (at0 : Int) (gen first n i mi : Nat) (bi : Nat → Nat) (m : Nat → Nat) (b : Nat → Nat → Nat)
noncomputable def inI (at0 : Int) (gen first n i mi : Nat) (bi : Nat → Nat) (m : Nat → Nat) (b : Nat → Nat → Nat) (d : SS × Nat × Nat) : List (Nat × AV) × List (Option AObj) :=
  (inT n i (npF mi) d.2.2 mi bi m b, cmR d.1 at0 (Int.ofNat d.2.1) resO 0 gen first n m b)
structure InOk (gen num mi : Nat) (bi : Nat → Nat) (R : Int × SS × Nat) (d : SS × Nat × Nat) : Prop where
  k : d.2.2 ≤ npF mi
  run : runW (pcB gen num (npF mi) mi bi) (npF mi - d.2.2) d.1 d.2.1 d.2.2 = R
  ok : ∃ mm, OkM d.1 mm ∧ mm + (npF mi - d.2.2) < 1073741823
  at_ : d.2.1 + (npF mi - d.2.2) ≤ d.1.n
theorem in_lp (hm : mi ≤ 1073741824) (hb : ∀ t, bi t < 256) (hn : first + i < 4611686018427387904) (R : Int × SS × Nat) (x : XO) (l' : List (Nat × AV)) (objs' : List (Option AObj))
    (hx : (R.1 = 0 ∧ x = .exit 2 ∧ l' = oT n i m b ∧ objs' = cmR R.2.1 at0 (Int.ofNat R.2.2) resO 0 gen first n m b) ∨
      (R.1 ≠ 0 ∧ x = .ret ∧ l' = [] ∧ objs' = cmR R.2.1 at0 (Int.ofNat R.2.2) (resE R.1) 1 gen first n m b)) (d : SS × Nat × Nat) (hd : InOk gen (first + i) mi bi R d) :
    LDoes Tryd.prog (loopAt Tryd.prog 80 1) 46 8 (mkT (inI at0 gen first n i mi bi m b d).1) (inI at0 gen first n i mi bi m b d).2 x (mkT l') objs' := by
  refine loop_ind (D := SS × Nat × Nat) (l' := l') (inI at0 gen first n i mi bi m b) (fun d => npF mi - d.2.2) (InOk gen (first + i) mi bi R) ?_ d hd
  rintro ⟨s, a, k⟩ ⟨hk, hR, ⟨mm, ok, hmm⟩, ha⟩
  simp only at hk hR ok hmm ha
  have hn512 := ok.n
  have hnp : npF mi ≤ 4611686018427387904 := npF_le (by omega)
  refine ⟨Nat.le_refl _, 1000000, _, (in_vc s (s.wrS (Int.ofNat a) 64 fun t => Int.ofNat (pcB gen (first + i) (npF mi) mi bi k t)) (s.wrE (Int.ofNat a) 64) (pcB gen (first + i) (npF mi) mi bi k) at0 (Int.ofNat a) gen first n i (npF mi) k mi bi m b _).mpr ⟨fun hlt => ?_, fun hge => ?_⟩⟩
  · have hlt : k < npF mi := by simpa using hlt
    have hcov := npF_cov hlt
    have e2 : Int.toNat (Int.ofNat k * (47 : Int)) = k * 47 := Eq.refl _
    have e3 : Int.toNat (if Int.ofNat mi < (Int.ofNat k + (1 : Int)) * (47 : Int) then Int.ofNat mi else (Int.ofNat k + (1 : Int)) * (47 : Int)) = min ((k + 1) * 47) mi := by
      split
      · rename_i h; simp at h; simp; omega
      · rename_i h; simp at h; simp; omega
    have e4 : (0 : Int) ≤ (if Int.ofNat mi < (Int.ofNat k + (1 : Int)) * (47 : Int) then Int.ofNat mi else (Int.ofNat k + (1 : Int)) * (47 : Int)) := by
      split <;> simp <;> omega
    have hps := psec_con gen (first + i) k (npF mi) (pl mi k) (fun j => bi (k * 47 + j)) (fun t _ => hb _) (by unfold pl; omega)
    have kS : Con Tryd.prog 78 [AV.agg [AV.i .i64 (Int.ofNat gen), AV.i .i64 (Int.ofNat first + Int.ofNat i), AV.i .i64 (Int.ofNat k), AV.i .i64 (Int.ofNat (npF mi)), AV.sv 1 (Int.toNat (if Int.ofNat mi < (Int.ofNat k + 1) * 47 then Int.ofNat mi else (Int.ofNat k + 1) * 47) - Int.toNat (Int.ofNat k * 47)) (shiftF
        (Int.toNat (Int.ofNat k * 47)) (byF bi))]] [] (AV.sv 1 64 (byF (pcB gen (first + i) (npF mi) mi bi k))) [] := by
      rw [e3, e2, shift_by]; exact hps
    have kW := writeW_con s a (fun t => Int.ofNat (pcB gen (first + i) (npF mi) mi bi k t)) (ok.ok (by omega)) (by omega)
    have hstep : ∀ c : Bool, decide (s.wrE (Int.ofNat a) 64 = 0) = c → (match c with
        | true => runW (pcB gen (first + i) (npF mi) mi bi) (npF mi - (k + 1)) (s.wrS (Int.ofNat a) 64 fun t => Int.ofNat (pcB gen (first + i) (npF mi) mi bi k t)) (a + 1) (k + 1)
        | false => (s.wrE (Int.ofNat a) 64, s.wrS (Int.ofNat a) 64 (fun t => Int.ofNat (pcB gen (first + i) (npF mi) mi bi k t)), a)) = R := by
      intro c hc
      rw [← hR, show npF mi - k = (npF mi - (k + 1)) + 1 by omega]
      show _ = (match decide (s.wrE (Int.ofNat a) 64 = 0) with | true => _ | false => _)
      rw [hc]
    refine ⟨⟨by simp; omega, by simp; omega⟩, ⟨by simp; omega, by simp; omega⟩, ⟨by simp; omega, by simp; omega⟩, ⟨by simp; omega, e4, by rw [e3, e2]; omega, by rw [e3]; omega⟩, ⟨by simp; omega, by simp; omega⟩, kS, kW, fun hE => ?_, fun hE => ?_⟩
    · have hc : decide (s.wrE (Int.ofNat a) 64 = 0) = false := by simpa using hE
      have hr := hstep false hc
      simp only at hr
      rcases hx with ⟨h0, _⟩ | ⟨_, rfl, rfl, rfl⟩
      · rw [← hr] at h0; exact absurd h0 (of_decide_eq_false hc)
      · subst hr
        exact ⟨trivial, .inr ⟨[0, 1, 2, 3, 4, 5, 6, 7], [], _, _, rfl, by simp, st_k [0, 1, 2, 3, 4, 5, 6, 7] (by kernel_rfl)⟩⟩
    · have hc : decide (s.wrE (Int.ofNat a) 64 = 0) = true := by simpa using hE
      have hr := hstep true hc
      simp only at hr
      refine ⟨⟨by simp; omega, by simp; omega⟩, trivial, ⟨by simp; omega, by simp; omega⟩, .inl ⟨(s.wrS (Int.ofNat a) 64 (fun t => Int.ofNat (pcB gen (first + i) (npF mi) mi bi k t)), a + 1, k + 1), [0, 1, 2, 3, 4, 5, 6, 7], [], _, _, ⟨hlt, hr, ⟨mm + 1, ok.wrS (by omega) _, by simp only; omega⟩, by simp only [wrS_n]; omega⟩, by simp only; omega, rfl, st_k [0, 1, 2, 3, 4, 5, 6, 7] (by kernel_rfl)⟩⟩
  · have hk' : k = npF mi := by simp at hge; omega
    subst hk'
    rw [Nat.sub_self] at hR
    have hR' : (0, s, a) = R := hR
    subst hR'
    rcases hx with ⟨_, rfl, rfl, rfl⟩ | ⟨h0, _⟩
    · exact .inr ⟨[0, 1, 2, 3, 4, 5, 6, 7], [], _, _, rfl, by simp, st_k [0, 1, 2, 3, 4, 5, 6, 7] (by kernel_rfl)⟩
    · exact absurd rfl h0
end
theorem runW_ok (c : Nat → Nat → Nat) : ∀ (j : Nat) (s : SS) (a k mm : Nat), OkM s mm → a + j ≤ s.n → OkM (runW c j s a k).2.1 (mm + j) ∧ (runW c j s a k).2.1.n = s.n ∧ (runW c j s a k).2.2 ≤ a + j
  | 0, s, a, k, mm, ok, ha => ⟨ok, rfl, Nat.le_refl _⟩
  | j + 1, s, a, k, mm, ok, ha => by
    show OkM (match decide (s.wrE (Int.ofNat a) 64 = 0) with | true => _ | false => _ : Int × SS × Nat).2.1 _ ∧ (match decide (s.wrE (Int.ofNat a) 64 = 0) with | true => _ | false => _ : Int × SS × Nat).2.1.n = _ ∧ (match decide (s.wrE (Int.ofNat a) 64 = 0) with | true => _ | false => _ : Int × SS × Nat).2.2 ≤ _
    have ok1 := ok.wrS (q := a) (by omega) fun t => Int.ofNat (c k t)
    cases decide (s.wrE (Int.ofNat a) 64 = 0) with
    | true =>
      have ih := runW_ok c j (s.wrS (Int.ofNat a) 64 fun t => Int.ofNat (c k t)) (a + 1) (k + 1) (mm + 1) ok1 (by rw [wrS_n]; omega)
      exact ⟨ih.1.mono (by omega), ih.2.1.trans (wrS_n _ _ _), Nat.le_trans ih.2.2 (by omega)⟩
    | false => exact ⟨ok1.mono (by omega), wrS_n _ _ _, by simp only; omega⟩
noncomputable def recW (gen first : Nat) (m : Nat → Nat) (b : Nat → Nat → Nat) (s : SS) (a i : Nat) : Int × SS × Nat := runW (pcB gen (first + i) (npF (m i)) (m i) (b i)) (npF (m i)) s a 0
noncomputable def runR (gen first : Nat) (m : Nat → Nat) (b : Nat → Nat → Nat) : Nat → SS → Nat → Nat → Int × SS × Nat
  | 0, s, a, _ => (0, s, a)
  | j + 1, s, a, i => match decide ((recW gen first m b s a i).1 = 0) with
    | true => runR gen first m b j (recW gen first m b s a i).2.1 (recW gen first m b s a i).2.2 (i + 1)
    | false => recW gen first m b s a i
noncomputable def sumP (m : Nat → Nat) : Nat → Nat → Nat
  | 0, _ => 0
  | j + 1, i => npF (m i) + sumP m j (i + 1)
theorem runR_ok (gen first : Nat) (m : Nat → Nat) (b : Nat → Nat → Nat) : ∀ (j : Nat) (s : SS) (a i mm : Nat), OkM s mm → a + sumP m j i ≤ s.n →
    OkM (runR gen first m b j s a i).2.1 (mm + sumP m j i) ∧ (runR gen first m b j s a i).2.1.n = s.n
  | 0, s, a, i, mm, ok, ha => ⟨ok, rfl⟩
  | j + 1, s, a, i, mm, ok, ha => by
    have ha' : a + (npF (m i) + sumP m j (i + 1)) ≤ s.n := ha
    have h1 := runW_ok (pcB gen (first + i) (npF (m i)) (m i) (b i)) (npF (m i)) s a 0 mm ok (by omega)
    show OkM (match decide ((recW gen first m b s a i).1 = 0) with | true => _ | false => _ : Int × SS × Nat).2.1 (mm + (npF (m i) + sumP m j (i + 1))) ∧ (match decide ((recW gen first m b s a i).1 = 0) with | true => _ | false => _ : Int × SS × Nat).2.1.n = _
    cases decide ((recW gen first m b s a i).1 = 0) with
    | true =>
      have ih := runR_ok gen first m b j (recW gen first m b s a i).2.1 (recW gen first m b s a i).2.2 (i + 1) (mm + npF (m i)) h1.1 (by
        rw [show (recW gen first m b s a i).2.1.n = s.n from h1.2.1]
        have : (recW gen first m b s a i).2.2 ≤ a + npF (m i) := h1.2.2
        omega)
      exact ⟨ih.1.mono (by omega), ih.2.trans h1.2.1⟩
    | false => exact ⟨h1.1.mono (by omega), h1.2.1⟩
theorem sumP_ge (m : Nat → Nat) : ∀ (j i : Nat), j ≤ sumP m j i
  | 0, i => Nat.le_refl _
  | j + 1, i => by
    have := sumP_ge m j (i + 1)
    have := npF_pos (m i)
    show j + 1 ≤ npF (m i) + sumP m j (i + 1)
    omega
theorem npF_inv {m : Nat} (h : npF m ≤ 512) : m ≤ 24064 := by
  unfold npF at h; split at h <;> omega
section
variable (at0 : Int) (gen first n : Nat) (m : Nat → Nat) (b : Nat → Nat → Nat)
noncomputable def ouI (at0 : Int) (gen first n : Nat) (m : Nat → Nat) (b : Nat → Nat → Nat) (d : SS × Nat × Nat) : List (Nat × AV) × List (Option AObj) :=
  (oT n d.2.2 m b, cmR d.1 at0 (Int.ofNat d.2.1) resO 0 gen first n m b)
structure OuOk (gen first n : Nat) (m : Nat → Nat) (b : Nat → Nat → Nat) (R : Int × SS × Nat) (d : SS × Nat × Nat) : Prop where
  i : d.2.2 ≤ n
  run : runR gen first m b (n - d.2.2) d.1 d.2.1 d.2.2 = R
  ok : ∃ mm, OkM d.1 mm ∧ mm + sumP m (n - d.2.2) d.2.2 < 1073741823
  at_ : d.2.1 + sumP m (n - d.2.2) d.2.2 ≤ d.1.n
theorem out_lp (hb : ∀ i t, b i t < 256) (hn : first + n < 4611686018427387904) (R : Int × SS × Nat) (x : XO) (objs' : List (Option AObj))
    (hx : (R.1 = 0 ∧ x = .exit 0 ∧ objs' = cmR R.2.1 at0 (Int.ofNat R.2.2) resO 0 gen first n m b) ∨
      (R.1 ≠ 0 ∧ x = .ret ∧ objs' = cmR R.2.1 at0 (Int.ofNat R.2.2) (resE R.1) 1 gen first n m b)) (d : SS × Nat × Nat) (hd : OuOk gen first n m b R d) :
    LDoes Tryd.prog (loopAt Tryd.prog 80 0) 46 8 (mkT (ouI at0 gen first n m b d).1) (ouI at0 gen first n m b d).2 x (mkT []) objs' := by
  refine loop_ind (D := SS × Nat × Nat) (l' := []) (ouI at0 gen first n m b) (fun d => n - d.2.2) (OuOk gen first n m b R) ?_ d hd
  rintro ⟨s, a, i⟩ ⟨hi, hR, ⟨mm, ok, hmm⟩, ha⟩
  simp only at hi hR ok hmm ha
  have hn512 := ok.n
  by_cases hlt : i < n
  · obtain ⟨j, hj⟩ : ∃ j, n - i = j + 1 := ⟨n - i - 1, by omega⟩
    rw [hj] at hR hmm ha
    have hmm' : mm + (npF (m i) + sumP m j (i + 1)) < 1073741823 := hmm
    have ha' : a + (npF (m i) + sumP m j (i + 1)) ≤ s.n := ha
    have hge := sumP_ge m j (i + 1)
    have hmi := npF_inv (m := m i) (by omega)
    have h1 := runW_ok (pcB gen (first + i) (npF (m i)) (m i) (b i)) (npF (m i)) s a 0 mm ok (by omega)
    have hR' : (match decide ((recW gen first m b s a i).1 = 0) with
      | true => runR gen first m b j (recW gen first m b s a i).2.1 (recW gen first m b s a i).2.2 (i + 1)
      | false => recW gen first m b s a i) = R := hR
    have hin := fun x l' objs' hx => in_lp at0 gen first n i (m i) (b i) m b (by omega) (hb i) (by omega) (recW gen first m b s a i) x l' objs' hx (s, a, 0) ⟨Nat.zero_le _, by rw [Nat.sub_zero]; rfl, ⟨mm, ok, by simp only; omega⟩, by simp only; omega⟩
    have kP := parts_con (m i) (b i) (by omega)
    by_cases hE : (recW gen first m b s a i).1 = 0
    · rw [decide_eq_true hE] at hR'
      have hL := hin (.exit 2) (oT n i m b) _ (.inl ⟨hE, rfl, rfl, rfl⟩)
      refine ⟨Nat.le_refl _, 1000000, _, (outA_vc s (recW gen first m b s a i).2.1 (Int.ofNat (recW gen first m b s a i).2.2) (npF (m i)) at0 (Int.ofNat a) gen first n i m b _).mpr ⟨fun _ => ?_, fun h => ?_⟩⟩
      · refine ⟨⟨by simp, by simp; omega⟩, trivial, kP, hL, ⟨by simp; omega, by simp; omega⟩, .inl ⟨((recW gen first m b s a i).2.1, (recW gen first m b s a i).2.2, i + 1), [0, 1, 2, 3, 4, 5, 6, 7], [], _, _, ⟨hlt, ?_, ⟨mm + npF (m i), h1.1, ?_⟩, ?_⟩, by simp only; omega, rfl, st_k [0, 1, 2, 3, 4, 5, 6, 7] (by kernel_rfl)⟩⟩
        · simp only; rw [show n - (i + 1) = j by omega]; exact hR'
        · simp only; rw [show n - (i + 1) = j by omega]; omega
        · simp only; rw [show n - (i + 1) = j by omega, show (recW gen first m b s a i).2.1.n = s.n from h1.2.1]
          have : (recW gen first m b s a i).2.2 ≤ a + npF (m i) := h1.2.2
          omega
      · simp at h; omega
    · rw [decide_eq_false hE] at hR'
      simp only at hR'
      rcases hx with ⟨h0, _⟩ | ⟨_, rfl, rfl⟩
      · rw [← hR'] at h0; exact absurd h0 hE
      · subst hR'
        have hL := hin .ret [] _ (.inr ⟨hE, rfl, rfl, rfl⟩)
        refine ⟨Nat.le_refl _, 1000000, _, (outB_vc s (recW gen first m b s a i).2.1 (recW gen first m b s a i).1 (Int.ofNat (recW gen first m b s a i).2.2) (npF (m i)) at0 (Int.ofNat a) gen first n i m b _).mpr ⟨fun _ => ?_, fun h => ?_⟩⟩
        · exact ⟨⟨by simp, by simp; omega⟩, trivial, kP, hL, .inr ⟨[0, 1, 2, 3, 4, 5, 6, 7], [], _, _, rfl, by simp, st_k [0, 1, 2, 3, 4, 5, 6, 7] (by kernel_rfl)⟩⟩
        · simp at h; omega
  · have hi' : i = n := by omega
    subst hi'
    rw [Nat.sub_self] at hR
    have hR' : (0, s, a) = R := hR
    subst hR'
    rcases hx with ⟨_, rfl, rfl⟩ | ⟨h0, _⟩
    · refine ⟨Nat.le_refl _, 1000000, _, (outA_vc s s (Int.ofNat a) 0 at0 (Int.ofNat a) gen first i i m b _).mpr ⟨fun h => ?_, fun _ => ?_⟩⟩
      · simp at h
      · exact .inr ⟨[0, 1, 2, 3, 4, 5, 6, 7], [], _, _, rfl, by simp, st_k [0, 1, 2, 3, 4, 5, 6, 7] (by kernel_rfl)⟩
    · exact absurd rfl h0
end
noncomputable def cmtE (gen first n : Nat) (m : Nat → Nat) (b : Nat → Nat → Nat) (s : SS) (a : Nat) : Int := match decide ((runR gen first m b n s a 0).1 = 0) with
  | true => (runR gen first m b n s a 0).2.1.faultE
  | false => (runR gen first m b n s a 0).1
noncomputable def cmtS (gen first n : Nat) (m : Nat → Nat) (b : Nat → Nat → Nat) (s : SS) (a : Nat) : SS := match decide ((runR gen first m b n s a 0).1 = 0) with
  | true => (runR gen first m b n s a 0).2.1.bar
  | false => (runR gen first m b n s a 0).2.1
theorem commit_con (gen first n mm : Nat) (m : Nat → Nat) (b : Nat → Nat → Nat) (s : SS) (a : Nat) (ok : OkM s mm) (hb : ∀ i t, b i t < 256) (hn : first + n < 4611686018427387904) (hm : mm + sumP m n 0 < 1073741823) (ha : a + sumP m n 0 ≤ s.n) :
    Con Tryd.prog 53 [.p 0 0, .i .i64 (Int.ofNat a), cutV] [some s.o, some (cellsO 27 [.sv 1 n (recF m b)]), some (cellsO 3 [.i .i64 (Int.ofNat gen)]), some (cellsO 3 [.i .i64 (Int.ofNat first)])]
      (.i .i64 (cmtE gen first n m b s a)) [.set (cmtS gen first n m b s a).o, .keep, .keep, .keep] := by
  have hok := runR_ok gen first m b n s a 0 mm ok ha
  have hd : OuOk gen first n m b (runR gen first m b n s a 0) (s, a, 0) := ⟨Nat.zero_le _, by rw [Nat.sub_zero], ⟨mm, ok, by simp only; rw [Nat.sub_zero]; omega⟩, by simp only; rw [Nat.sub_zero]; omega⟩
  by_cases hE : (runR gen first m b n s a 0).1 = 0
  · have hL := out_lp (Int.ofNat a) gen first n m b hb hn _ (.exit 0) _ (.inl ⟨hE, rfl, rfl⟩) (s, a, 0) hd
    have kB := barrier_con (runR gen first m b n s a 0).2.1 (by have := hok.1.P; omega) (fun w hw => by have := hok.1.at_ w hw; have := hok.1.n; omega)
    have e1 : cmtE gen first n m b s a = (runR gen first m b n s a 0).2.1.faultE := by unfold cmtE; rw [decide_eq_true hE]
    have e2 : cmtS gen first n m b s a = (runR gen first m b n s a 0).2.1.bar := by unfold cmtS; rw [decide_eq_true hE]
    rw [e1, e2]
    exact con_of_run [] [] ((cmA_vc s (runR gen first m b n s a 0).2.1 (runR gen first m b n s a 0).2.1.faultE (runR gen first m b n s a 0).2.1.bar (Int.ofNat (runR gen first m b n s a 0).2.2) a gen first n m b _).mpr ⟨hL, kB, _, _, rfl, ret_k (by kernel_rfl)⟩)
  · have hL := out_lp (Int.ofNat a) gen first n m b hb hn _ .ret _ (.inr ⟨hE, rfl, rfl⟩) (s, a, 0) hd
    have e1 : cmtE gen first n m b s a = (runR gen first m b n s a 0).1 := by unfold cmtE; rw [decide_eq_false hE]
    have e2 : cmtS gen first n m b s a = (runR gen first m b n s a 0).2.1 := by unfold cmtS; rw [decide_eq_false hE]
    rw [e1, e2]
    exact con_of_run [] [] ((cmB_vc s (runR gen first m b n s a 0).2.1 (runR gen first m b n s a 0).1 (Int.ofNat (runR gen first m b n s a 0).2.2) a gen first n m b _).mpr ⟨hL, _, _, rfl, ret_k (by kernel_rfl)⟩)
noncomputable def oneB (x : Int) : Nat → Nat → CV := listF 1 [.i .u8 x] 1
noncomputable def oneL (x : Int) : Nat → Nat → CV := listF 1 [.sv 1 1 (oneB x)] 1
theorem commit1_con (gen first mm x : Nat) (s : SS) (a : Nat) (ok : OkM s mm) (hx : x < 256) (hn : first + 1 < 4611686018427387904) (hm : mm + 1 < 1073741823) (ha : a + 1 ≤ s.n) :
    Con Tryd.prog 53 [.p 0 0, .i .i64 (Int.ofNat a), cutV] [some s.o, some (cellsO 27 [.l 4 0 1 1 1 true]), some (cellsO 3 [.i .i64 (Int.ofNat gen)]), some (cellsO 3 [.i .i64 (Int.ofNat first)]), some (cellsO 38 [.l 5 0 1 1 1 true]), some (cellsO 5 [.i .u8 (Int.ofNat x)])]
      (.i .i64 (cmtE gen first 1 (fun _ => 1) (fun _ _ => x) s a)) [.set (cmtS gen first 1 (fun _ => 1) (fun _ _ => x) s a).o, .set (cellsO 27 [.sv 1 1 (recF (fun _ => 1) fun _ _ => x)]), .keep, .keep, .gone, .gone] := by
  have e1 : sumP (fun _ => 1) 1 0 = 1 := by
    show npF 1 + sumP (fun _ => 1) 0 1 = 1
    unfold npF sumP; rfl
  have k0 := commit_con gen first 1 mm (fun _ => 1) (fun _ _ => x) s a ok (fun _ _ => hx) hn (by rw [e1]; exact hm) (by rw [e1]; exact ha)
  generalize cmtE gen first 1 (fun _ => 1) (fun _ _ => x) s a = E at k0 ⊢
  generalize cmtS gen first 1 (fun _ => 1) (fun _ _ => x) s a = S at k0 ⊢
  have k1 : Con Tryd.prog 53 [.p 0 0, .i .i64 (Int.ofNat a), cutV] [some s.o, some (cellsO 27 [.sv 1 1 (recF (fun _ => 1) fun _ _ => x)]), some (cellsO 3 [.i .i64 (Int.ofNat gen)]), some (cellsO 3 [.i .i64 (Int.ofNat first)]), none, none]
      (.i .i64 E) [.set S.o, .keep, .keep, .keep, .gone, .gone] :=
    k0.more [0, 1, 2, 3] (by kernel_rfl) (hasAll_of (by kernel_rfl) (by kernel_rfl)) (by kernel_rfl) (by kernel_rfl) (by kernel_rfl) (by kernel_rfl)
  have k2 : Con Tryd.prog 53 [.p 0 0, .i .i64 (Int.ofNat a), cutV] [some s.o, some (cellsO 27 [.sv 1 1 (oneL (Int.ofNat x))]), some (cellsO 3 [.i .i64 (Int.ofNat gen)]), some (cellsO 3 [.i .i64 (Int.ofNat first)]), none, none]
      (.i .i64 E) [.set S.o, .set (cellsO 27 [.sv 1 1 (recF (fun _ => 1) fun _ _ => x)]), .keep, .keep, .gone, .gone] := by
    refine k1.ovl ⟨.refl _, .cells ⟨.svW fun i j hi hj => ?_, trivial⟩, .refl _, .refl _, .refl _, .refl _, trivial⟩ rfl
    obtain rfl : j = 0 := by omega
    refine CW.sv fun i' j' hi' hj' => ?_
    obtain rfl : j' = 0 := by omega
    exact .refl _
  have k3 : Con Tryd.prog 53 [.p 0 0, .i .i64 (Int.ofNat a), cutV] [some s.o, some (cellsO 27 [.l 4 0 1 1 1 true]), some (cellsO 3 [.i .i64 (Int.ofNat gen)]), some (cellsO 3 [.i .i64 (Int.ofNat first)]), some (cellsO 38 [.sv 1 1 (oneB (Int.ofNat x))]), none]
      (.i .i64 E) [.set S.o, .set (cellsO 27 [.sv 1 1 (recF (fun _ => 1) fun _ _ => x)]), .keep, .keep, .gone, .gone] :=
    k2.thawZ 4 (z := .cells 1 [.sv 1 1 (oneB (Int.ofNat x))]) (by kernel_rfl) ⟨.inl rfl, .cells ⟨.inr ⟨by kernel_rfl, by show 0 + 1 * 1 ≤ 1; decide, rfl⟩, trivial⟩, .inl rfl, .inl rfl, rfl, .inl rfl, trivial⟩ ⟨.inl rfl, .inl rfl, .inl rfl, trivial⟩ rfl
  exact k3.thawZ 5 (z := .cells 1 [.i .u8 (Int.ofNat x)]) (by kernel_rfl) ⟨.inl rfl, .inl rfl, .inl rfl, .inl rfl, .cells ⟨.inr ⟨by kernel_rfl, by show 0 + 1 * 1 ≤ 1; decide, rfl⟩, trivial⟩, rfl, trivial⟩ ⟨.inl rfl, .inl rfl, .inl rfl, trivial⟩ rfl
end Go.Proofs.Jn
