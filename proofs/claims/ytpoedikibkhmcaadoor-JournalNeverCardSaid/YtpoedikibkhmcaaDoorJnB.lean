/- Runs over unknown values, told by the kernel: part JnB. -/
import Derived.Test.YtpoedikibkhmcaaDoorJnA
set_option linter.unusedSimpArgs false
set_option linter.unusedVariables false
set_option maxRecDepth 20000
namespace Go.Proofs.Jn
open Go Go.Sim Go.Proofs Go.Proofs.Cd Go.Proofs.St Go.Proofs.Cl Go.Proofs.YtpoedikibkhmcaaDoor
theorem name_vc (s : SS) (S2 : SS) (E2 : Int) (F2 : Nat → Nat → CV) (gen area : Nat) (K : Res → Orc → Prop) : runK Tryd.prog 1000000 (.call 56 [.p 0 0, .i .i64 (Int.ofNat gen), .i
  .i64 (Int.ofNat area)] (mkH [some s.o])) (Orc.inl (Orc.cal [0, 5, 3, 4, 2, 1] (AV.i .i64 E2) [Upd.set (SS.o S2), Upd.set (cellsO 27 [AV.sv 1 1 F2]), Upd.keep, Upd.keep, Upd.gone,
  Upd.gone] Orc.z)) K = ((2 : Int) ≠ (0 : Int) ∧ True ∧ Con Tryd.prog 53 [AV.p 0 0, AV.i .i64 (Int.tmod (Int.ofNat gen) 2), cutV] [some (SS.o s), some (cellsO 27 [AV.l 4 0 1 1 1
  true]), some (cellsO 3 [AV.i .i64 (Int.ofNat gen)]), some (cellsO 3 [AV.i .i64 0]), some (cellsO 38 [AV.l 5 0 1 1 1 true]), some (cellsO 5 [AV.i .u8 (wrapA .u8 (Int.ofNat
  area))])] (AV.i .i64 E2) [Upd.set (SS.o S2), Upd.set (cellsO 27 [AV.sv 1 1 F2]), Upd.keep, Upd.keep, Upd.gone, Upd.gone] ∧ K (Res.rv (AV.i .i64 E2) ⟨T.n (some (AObj.segs 77 33799
  [{ st := 0, sz := 1, n := 1, f := oneF (CV.i .i64 (Int.ofNat (SS.n S2))) }, { st := 1, sz := 65, n := 512, f := durF (SS.dur S2) (SS.torn S2) }, { st := 33281, sz := 1, n := 1, f := oneF (CV.opv (pB (SS.P S2)) 66 (pW (SS.P S2))) },
  { st := 33282, sz := 1, n := 512, f := latF (lB (SS.P S2)) (lW (SS.P S2)) }, { st := 33794, sz := 5, n := 1, f := tailF (Int.ofNat (List.length (SS.P S2))) (Int.ofNat (SS.wr S2)) (SS.off S2) (SS.armed S2) (Int.ofNat (SS.left S2)) }]))
  (T.n none (T.n (some (AObj.cells 3 1 [] (T.n (some (AV.i .i64 (Int.ofNat gen))) T.e T.e))) T.e T.e) (T.n (some (AObj.cells 27 1 [] (T.n (some (AV.sv 1 1 F2)) T.e T.e))) T.e T.e))
  (T.n none (T.n (some (AObj.cells 3 1 [] (T.n (some (AV.i .i64 0)) T.e T.e))) T.e T.e) T.e), 6, [1, 2, 5, 0, 5, 4, 3, 2, 1]⟩) Orc.z) := by kernel_rfl
noncomputable def rvIs (v : AV) (r : Res) : Prop := match r with | .rv v1 _ => v1 = v | _ => False
theorem con_pure {P : Program} {f : Nat} {g : FuncId} {pargs : List AV} {o : Orc} {v : AV} (hb : below 0 v = true) (h : runK P f (.call g pargs (mkH [])) o fun r _ => rvIs v r) : Con P g pargs [] v [] := by
  obtain ⟨r, o', hr, hd⟩ := runK_ok P f _ _ _ h
  cases r with
  | rv v1 H1 =>
    obtain rfl : v1 = v := hr
    obtain ⟨hlg, hcall⟩ : CallDoes P g pargs (mkH []) v1 H1 := hd
    intro ρ w args' hv hh hoff
    refine (hcall ρ w args' hv hh (fun A q1 _ => hoff A (Nat.zero_le _))).mono ?_
    rintro e w' ⟨v', ρ1, rfl, k1, k2, k3⟩
    have hid : ren id v1 = v1 := ren_id v1
    have hnone : ∀ A, ρ A = none := fun A => hoff A (Nat.zero_le _)
    have hemp : ∀ A o, (mkH (postL [] [])).get A = some o → False := by
      intro A o h
      rw [mkH_get] at h
      have : (postL [] [] : List (Option AObj)) = [] := rfl
      rw [this] at h; simp at h
    refine ⟨v', ⟨fun _ => none, ρ1.ro⟩, rfl, ?_, ⟨fun A o h => (hemp A o h).elim, fun A _ o _ _ _ h => (hemp A o h).elim, fun A x h => by simp at h, k2.ro, fun B j v hv A o x h => (hemp A o h).elim⟩, ?_⟩
    · exact unren_VR (ρ := ⟨fun _ => none, ρ1.ro⟩) (ρ' := ρ1) (σ := id) (k := 0) (fun A h => by omega) (fun _ _ _ h => h) hb (by rw [hid]; exact k1)
    · refine ⟨Nat.zero_le _, ⟨fun A x h => by rw [hnone A] at h; simp at h, k3.ext.ro⟩, fun A x h => by simp at h, k3.size, ?_, fun A o x h => (hemp A o h).elim, ?_, k3.tape, k3.os, k3.output⟩
      · exact k3.frame
      · exact k3.roimg
  | st _ _ _ => exact absurd hr (by simp [rvIs])
theorem con_pureX {P : Program} {f : Nat} {g : FuncId} {pargs : List AV} {o : Orc} {v : AV} {R : Prop} (h : runK P f (.call g pargs (mkH [])) o (fun r _ => rvIs v r) = R) (hb : below 0 v = true) (hr : R) : Con P g pargs [] v [] := con_pure hb (h.mpr hr)
abbrev rg (x : Int) : Prop := (-9223372036854775808) ≤ x ∧ x ≤ 9223372036854775807
abbrev nt1 (x : Bool) : Prop := (!x) = true
abbrev dA (b : Nat → Nat) : Bool := decide ((47 : Int) < Int.ofNat (b 10))
abbrev dB (G : Nat) : Bool := decide (Int.ofNat G < 1)
abbrev dC (G : Nat) : Bool := decide ((1073741824 : Int) < Int.ofNat G)
abbrev dE (b : Nat → Nat) : Bool := decide ((24 : Int) < Int.ofNat (b 9))
abbrev dF (b : Nat → Nat) : Bool := decide (Int.ofNat (b 9) ≤ Int.ofNat (b 8))
abbrev dG (b : Nat → Nat) : Bool := decide (Int.ofNat (b 8) < Int.ofNat (b 9) - 1)
abbrev dH (b : Nat → Nat) : Bool := decide (Int.ofNat (Int.toNat ((11 : Int) + Int.ofNat (b 10)) - 11) = 47)
abbrev dI (b : Nat → Nat) : Bool := decide (Int.ofNat (b 9) = 1)
abbrev dJ (R : Nat) : Bool := decide ((0 : Int) < Int.ofNat R)
abbrev dK (b : Nat → Nat) : Bool := decide ((0 : Int) < Int.ofNat (Int.toNat ((11 : Int) + Int.ofNat (b 10)) - 11))
abbrev kA (b : Nat → Nat) : Prop := Con Tryd.prog 83 [.sv 1 64 (byF b)] [] (.tup [.sv 1 60 (byF b), .b true]) []
abbrev kB (b : Nat → Nat) (G1 : Nat) : Prop := Con Tryd.prog 84 [.sv 1 60 (byF b)] [] (.tup [.i .u32 (Int.ofNat G1), .b true]) []
abbrev kC (b : Nat → Nat) (G2 : Nat) : Prop := Con Tryd.prog 84 [.sv 1 56 (shiftF 4 (byF b))] [] (.tup [.i .u32 (Int.ofNat G2), .b true]) []
abbrev kD (b : Nat → Nat) (R : Nat) (RB : Nat → Nat) : Prop := Con Tryd.prog 86 [.sv 1 (60 - Int.toNat ((11 : Int) + Int.ofNat (b 10))) (shiftF (Int.toNat ((11 : Int) + Int.ofNat (b 10))) (byF b)), .s [0]] [] (.sv 1 R (byF RB)) []
noncomputable abbrev ptZ : AV := .agg [.i .i64 0, .i .i64 0, .i .i64 0, .i .i64 0, .l0]
noncomputable abbrev okV (G1 G2 : Nat) (b : Nat → Nat) : AV := .agg [.i .i64 (Int.ofNat G1), .i .i64 (Int.ofNat G2), .i .i64 (Int.ofNat (b 8)), .i .i64 (Int.ofNat (b 9)), .sv 1 (Int.toNat ((11 : Int) + Int.ofNat (b 10)) - 11) (shiftF 11 (byF b))]
abbrev ptW (b : Nat → Nat) (v : AV) : Prop := Con Tryd.prog 69 [.sv 1 64 (byF b)] [] v []
abbrev q2 (G1 G2 : Nat) (b : Nat → Nat) (X : Prop) : Prop := kA b ∧ True ∧ (0 ≤ (10 : Int) ∧ (10 : Int) < (60 : Int)) ∧ True ∧ rg (Int.ofNat (b 10)) ∧ dA b = false ∧ kB b G1 ∧ (0 ≤ (4 : Int) ∧ True ∧ 4 ≤ 60 ∧ 60 ≤ 60) ∧ kC b G2 ∧ rg (11 + Int.ofNat (b 10)) ∧ ((0 : Int) ≤ 11 ∧ (0 : Int) ≤ 11 + Int.ofNat (b 10) ∧ 11 ≤ Int.toNat (11 + Int.ofNat (b 10)) ∧ Int.toNat (11 + Int.ofNat (b 10)) ≤ 60) ∧ rg (11 + Int.ofNat (b 10)) ∧ (0 ≤ 11 + Int.ofNat (b 10) ∧ True ∧ Int.toNat (11 + Int.ofNat (b 10)) ≤ 60 ∧ 60 ≤ 60) ∧ rg (Int.ofNat G1) ∧ rg (Int.ofNat G2) ∧ (0 ≤ (8 : Int) ∧ (8 : Int) < (60 : Int)) ∧ True ∧ rg (Int.ofNat (b 8)) ∧ (0 ≤ (9 : Int) ∧ (9 : Int) < (60 : Int)) ∧ True ∧ rg (Int.ofNat (b 9)) ∧ True ∧ X
abbrev q3 (G1 G2 : Nat) (b : Nat → Nat) (X : Prop) : Prop := q2 G1 G2 b (nt1 (dB G1) ∧ True ∧ nt1 (dB G1) ∧ nt1 (dB G1) ∧ dB G1 = false ∧ X)
abbrev q4 (G1 G2 : Nat) (b : Nat → Nat) (X : Prop) : Prop := q3 G1 G2 b (nt1 (dC G1) ∧ True ∧ nt1 (dC G1) ∧ nt1 (dC G1) ∧ dC G1 = false ∧ X)
abbrev q5 (G1 G2 : Nat) (b : Nat → Nat) (X : Prop) : Prop := q4 G1 G2 b (dC G2 = false ∧ True ∧ X)
abbrev q6 (G1 G2 : Nat) (b : Nat → Nat) (X : Prop) : Prop := q5 G1 G2 b (nt1 (dE b) ∧ True ∧ nt1 (dE b) ∧ nt1 (dE b) ∧ True ∧ nt1 (dE b) ∧ nt1 (dE b) ∧ dE b = false ∧ X)
abbrev q7 (G1 G2 : Nat) (b : Nat → Nat) (X : Prop) : Prop := q6 G1 G2 b (dF b = false ∧ True ∧ True ∧ rg (Int.ofNat (b 9) - 1) ∧ X)
abbrev q8 (G1 G2 : Nat) (b : Nat → Nat) (R : Nat) (RB : Nat → Nat) (X : Prop) : Prop := q7 G1 G2 b (dG b = true ∧ True ∧ True ∧ (!!(dH b)) = true ∧ (!!(dH b)) = true ∧ kD b R RB ∧ (!!(dH b)) = true ∧ (!!(dH b)) = true ∧ (!(dH b)) = false ∧ X)
abbrev q10 (G1 G2 : Nat) (b : Nat → Nat) (X : Prop) : Prop := q7 G1 G2 b (dG b = false ∧ True ∧ X)
abbrev q11 (G1 G2 : Nat) (b : Nat → Nat) (R : Nat) (RB : Nat → Nat) (X : Prop) : Prop := q10 G1 G2 b ((!(dK b)) = false ∧ (!(dK b)) = false ∧ (!(dK b)) = false ∧ dK b = true ∧ True ∧ kD b R RB ∧ X)
abbrev q12 (G1 G2 : Nat) (b : Nat → Nat) (X : Prop) : Prop := q10 G1 G2 b (nt1 (dK b) ∧ True ∧ nt1 (dK b) ∧ nt1 (dK b) ∧ dK b = false ∧ True ∧ X)
abbrev q13 (G1 G2 : Nat) (b : Nat → Nat) (R : Nat) (RB : Nat → Nat) (X : Prop) : Prop := q12 G1 G2 b ((!!(dI b)) = true ∧ (!!(dI b)) = true ∧ kD b R RB ∧ (!!(dI b)) = true ∧ (!!(dI b)) = true ∧ (!(dI b)) = false ∧ X)
noncomputable abbrev oQA (G1 G2 : Nat) (b : Nat → Nat) (x : Orc) : Orc := (Orc.cal [] (AV.tup [AV.sv 1 60 (byF b), AV.b true]) [] (Orc.c (Orc.f (Orc.cal [] (AV.tup [AV.i .u32 (Int.ofNat G1), AV.b true]) [] (Orc.cal [] (AV.tup [AV.i .u32 (Int.ofNat G2), AV.b true]) [] (Orc.inl x))))))
noncomputable abbrev oQE (G1 G2 : Nat) (b : Nat → Nat) (x : Orc) : Orc := (Orc.cal [] (AV.tup [AV.sv 1 60 (byF b), AV.b true]) [] (Orc.c (Orc.f (Orc.cal [] (AV.tup [AV.i .u32 (Int.ofNat G1), AV.b true]) [] (Orc.cal [] (AV.tup [AV.i .u32 (Int.ofNat G2), AV.b true]) [] (Orc.inl (Orc.t (Orc.t (Orc.t (Orc.f (Orc.t (Orc.t (Orc.t (Orc.f (Orc.f (Orc.t (Orc.t (Orc.t (Orc.t (Orc.t (Orc.f x)))))))))))))))))))))
theorem nt {x : Bool} (h : x = false) : (!x) = true := by rw [h]; rfl
theorem nf {x : Bool} (h : x = true) : (!x) = false := by rw [h]; rfl
theorem nnt {x : Bool} (h : x = true) : (!!x) = true := by rw [h]; rfl
theorem nnf {x : Bool} (h : x = false) : (!!x) = false := by rw [h]; rfl
theorem rng (n : Nat) (h : n ≤ 4294967296) : (-9223372036854775808 : Int) ≤ Int.ofNat n ∧ Int.ofNat n ≤ (9223372036854775807 : Int) := ⟨by simp <;> omega, by simp <;> omega⟩
theorem rng11 (n : Nat) (h : n ≤ 47) : (-9223372036854775808 : Int) ≤ (11 : Int) + Int.ofNat n ∧ (11 : Int) + Int.ofNat n ≤ (9223372036854775807 : Int) := ⟨by simp <;> omega, by simp <;> omega⟩
theorem sl11 (n : Nat) (h : n ≤ 47) : (0 : Int) ≤ (11 : Int) ∧ (0 : Int) ≤ (11 : Int) + Int.ofNat n ∧ 11 ≤ Int.toNat ((11 : Int) + Int.ofNat n) ∧ Int.toNat ((11 : Int) + Int.ofNat n) ≤ 60 := by
  have e : Int.toNat ((11 : Int) + Int.ofNat n) = 11 + n := rfl
  exact ⟨by decide, by simp; omega, by rw [e]; omega, by rw [e]; omega⟩
theorem sl12 (n : Nat) (h : n ≤ 47) : (0 : Int) ≤ (11 : Int) + Int.ofNat n ∧ True ∧ Int.toNat ((11 : Int) + Int.ofNat n) ≤ 60 ∧ 60 ≤ 60 := by
  have e : Int.toNat ((11 : Int) + Int.ofNat n) = 11 + n := rfl
  exact ⟨by simp; omega, trivial, by rw [e]; omega, Nat.le_refl _⟩
theorem rngm (n : Nat) (h : n < 256) : (-9223372036854775808 : Int) ≤ Int.ofNat n - 1 ∧ Int.ofNat n - (1 : Int) ≤ (9223372036854775807 : Int) := ⟨by simp <;> omega, by simp <;> omega⟩
theorem ptX {b : Nat → Nat} {v : AV} (o : Orc) (R : Prop) (hb : below 0 v = true := by rfl) (h : runK Tryd.prog 1000000 (.call 69 [.sv 1 64 (byF b)] (mkH [])) o (fun r _ => rvIs v r) = R := by kernel_rfl) (hr : R := by repeat' first | exact trivial | exact rng _ (by omega) | exact rng11 _ (by assumption) | exact sl11 _ (by assumption) | exact sl12 _ (by assumption) | exact rngm _ (by assumption) | refine And.intro ?_ ?_ | assumption | exact nt (by assumption) | exact nf (by assumption) | exact nnt (by assumption) | exact nnf (by assumption) | (decide; done) | exact rfl) : ptW b v := con_pureX h hb hr
theorem sp1 (G1 G2 R : Nat) (RB b : Nat → Nat) (h8 : b 8 < 256) (h9 : b 9 < 256) (h10 : b 10 < 256) (hd47 : dA b = true) (k1 : kA b) : ptW b (ptZ) :=
  ptX (Orc.cal [] (AV.tup [AV.sv 1 60 (byF b), AV.b true]) [] (Orc.c (Orc.t Orc.z))) (kA b ∧ True ∧ (0 ≤ (10 : Int) ∧ (10 : Int) < (60 : Int)) ∧ True ∧ rg (Int.ofNat (b 10)) ∧ dA b = true ∧ ptZ = ptZ)
theorem sp2 (G1 G2 R : Nat) (RB b : Nat → Nat) (h8 : b 8 < 256) (h9 : b 9 < 256) (h10 : b 10 < 256) (q47 : b 10 ≤ 47) (hG1 : G1 ≤ 4294967296) (hG2 : G2 ≤ 4294967296) (hd47 : dA b = false) (hd1 : dB G1 = true) (k1 : kA b) (k2 : kB b G1) (k3 : kC b G2) : ptW b (ptZ) :=
  ptX (oQA G1 G2 b (Orc.f (Orc.f (Orc.f (Orc.t (oc 11 Orc.z)))))) (q2 G1 G2 b ((!(dB G1)) = false ∧ (!(dB G1)) = false ∧ (!(dB G1)) = false ∧ dB G1 = true ∧ True ∧ ptZ = ptZ))
theorem sp3 (G1 G2 R : Nat) (RB b : Nat → Nat) (h8 : b 8 < 256) (h9 : b 9 < 256) (h10 : b 10 < 256) (q47 : b 10 ≤ 47) (hG1 : G1 ≤ 4294967296) (hG2 : G2 ≤ 4294967296) (hd47 : dA b = false) (hd1 : dB G1 = false) (hd2 : dC G1 = true) (k1 : kA b) (k2 : kB b G1) (k3 : kC b G2) : ptW b (ptZ) :=
  ptX (oQA G1 G2 b (Orc.t (Orc.t (Orc.t (Orc.f (Orc.f (Orc.f (Orc.f (Orc.t (oc 7 Orc.z)))))))))) (q3 G1 G2 b ((!(dC G1)) = false ∧ (!(dC G1)) = false ∧ (!(dC G1)) = false ∧ dC G1 = true ∧ True ∧ ptZ = ptZ))
theorem sp4 (G1 G2 R : Nat) (RB b : Nat → Nat) (h8 : b 8 < 256) (h9 : b 9 < 256) (h10 : b 10 < 256) (q47 : b 10 ≤ 47) (hG1 : G1 ≤ 4294967296) (hG2 : G2 ≤ 4294967296) (hd47 : dA b = false) (hd1 : dB G1 = false) (hd2 : dC G1 = false) (hd3 : dC G2 = true) (k1 : kA b) (k2 : kB b G1) (k3 : kC b G2) : ptW b (ptZ) :=
  ptX (oQA G1 G2 b (Orc.t (Orc.t (Orc.t (Orc.f (Orc.t (Orc.t (Orc.t (Orc.f (Orc.t (oc 6 Orc.z))))))))))) (q4 G1 G2 b (dC G2 = true ∧ True ∧ ptZ = ptZ))
theorem sp5 (G1 G2 R : Nat) (RB b : Nat → Nat) (h8 : b 8 < 256) (h9 : b 9 < 256) (h10 : b 10 < 256) (q47 : b 10 ≤ 47) (hG1 : G1 ≤ 4294967296) (hG2 : G2 ≤ 4294967296) (hd47 : dA b = false) (hd1 : dB G1 = false) (hd2 : dC G1 = false) (hd3 : dC G2 = false) (hd4 : dE b = true) (k1 : kA b) (k2 : kB b G1) (k3 : kC b G2) : ptW b (ptZ) :=
  ptX (oQA G1 G2 b (Orc.t (Orc.t (Orc.t (Orc.f (Orc.t (Orc.t (Orc.t (Orc.f (Orc.f (Orc.f (Orc.f (Orc.f (Orc.f (Orc.f (Orc.t (oc 7 Orc.z))))))))))))))))) (q5 G1 G2 b ((!(dE b)) = false ∧ (!(dE b)) = false ∧ (!(dE b)) = false ∧ (!(dE b)) = false ∧ (!(dE b)) = false ∧ dE b = true ∧ True ∧ ptZ = ptZ))
theorem sp6 (G1 G2 R : Nat) (RB b : Nat → Nat) (h8 : b 8 < 256) (h9 : b 9 < 256) (h10 : b 10 < 256) (q47 : b 10 ≤ 47) (hG1 : G1 ≤ 4294967296) (hG2 : G2 ≤ 4294967296) (hd47 : dA b = false) (hd1 : dB G1 = false) (hd2 : dC G1 = false) (hd3 : dC G2 = false) (hd4 : dE b = false) (hd5 : dF b = true) (k1 : kA b) (k2 : kB b G1) (k3 : kC b G2) : ptW b (ptZ) :=
  ptX (oQE G1 G2 b (Orc.t (oc 6 Orc.z))) (q6 G1 G2 b (dF b = true ∧ True ∧ ptZ = ptZ))
theorem sp7 (G1 G2 R : Nat) (RB b : Nat → Nat) (h8 : b 8 < 256) (h9 : b 9 < 256) (h10 : b 10 < 256) (q47 : b 10 ≤ 47) (hG1 : G1 ≤ 4294967296) (hG2 : G2 ≤ 4294967296) (hd47 : dA b = false) (hd1 : dB G1 = false) (hd2 : dC G1 = false) (hd3 : dC G2 = false) (hd4 : dE b = false) (hd5 : dF b = false) (hd6 : dG b = true) (hd7a : dH b = false) (k1 : kA b) (k2 : kB b G1) (k3 : kC b G2) : ptW b (ptZ) :=
  ptX (oQE G1 G2 b (Orc.f (Orc.t (Orc.f (Orc.f (Orc.f (Orc.f (Orc.t (Orc.c Orc.z))))))))) (q7 G1 G2 b (dG b = true ∧ True ∧ True ∧ (!!(dH b)) = false ∧ (!!(dH b)) = false ∧ (!!(dH b)) = false ∧ (!!(dH b)) = false ∧ nt1 (dH b) ∧ ptZ = ptZ))
theorem sp8 (G1 G2 R : Nat) (RB b : Nat → Nat) (h8 : b 8 < 256) (h9 : b 9 < 256) (h10 : b 10 < 256) (q47 : b 10 ≤ 47) (hG1 : G1 ≤ 4294967296) (hG2 : G2 ≤ 4294967296) (hd47 : dA b = false) (hd1 : dB G1 = false) (hd2 : dC G1 = false) (hd3 : dC G2 = false) (hd4 : dE b = false) (hd5 : dF b = false) (hd6 : dG b = true) (hd7a : dH b = true) (hd8 : dJ R = true) (k1 : kA b) (k2 : kB b G1) (k3 : kC b G2) (k4 : kD b R RB) : ptW b (ptZ) :=
  ptX (oQE G1 G2 b (Orc.f (Orc.t (Orc.t (Orc.t (Orc.cal [] (AV.sv 1 R (byF RB)) [] (Orc.t (Orc.t (Orc.f (Orc.t Orc.z)))))))))) (q8 G1 G2 b R RB (dJ R = true ∧ ptZ = ptZ))
theorem sp9 (G1 G2 R : Nat) (RB b : Nat → Nat) (h8 : b 8 < 256) (h9 : b 9 < 256) (h10 : b 10 < 256) (q47 : b 10 ≤ 47) (hG1 : G1 ≤ 4294967296) (hG2 : G2 ≤ 4294967296) (hd47 : dA b = false) (hd1 : dB G1 = false) (hd2 : dC G1 = false) (hd3 : dC G2 = false) (hd4 : dE b = false) (hd5 : dF b = false) (hd6 : dG b = true) (hd7a : dH b = true) (hd8 : dJ R = false) (k1 : kA b) (k2 : kB b G1) (k3 : kC b G2) (k4 : kD b R RB) : ptW b (okV G1 G2 b) :=
  ptX (oQE G1 G2 b (Orc.f (Orc.t (Orc.t (Orc.t (Orc.cal [] (AV.sv 1 R (byF RB)) [] (Orc.t (Orc.t (Orc.f (Orc.f Orc.z)))))))))) (q8 G1 G2 b R RB (dJ R = false ∧ okV G1 G2 b = okV G1 G2 b))
theorem sp10 (G1 G2 R : Nat) (RB b : Nat → Nat) (h8 : b 8 < 256) (h9 : b 9 < 256) (h10 : b 10 < 256) (q47 : b 10 ≤ 47) (hG1 : G1 ≤ 4294967296) (hG2 : G2 ≤ 4294967296) (hd47 : dA b = false) (hd1 : dB G1 = false) (hd2 : dC G1 = false) (hd3 : dC G2 = false) (hd4 : dE b = false) (hd5 : dF b = false) (hd6 : dG b = false) (hd7b : dK b = true) (hd8 : dJ R = true) (k1 : kA b) (k2 : kB b G1) (k3 : kC b G2) (k4 : kD b R RB) : ptW b (ptZ) :=
  ptX (oQE G1 G2 b (Orc.f (Orc.f (Orc.f (Orc.f (Orc.f (Orc.t (oc 2 (Orc.cal [] (AV.sv 1 R (byF RB)) [] (oc 3 (Orc.t Orc.z))))))))))) (q11 G1 G2 b R RB (dJ R = true ∧ ptZ = ptZ))
theorem sp11 (G1 G2 R : Nat) (RB b : Nat → Nat) (h8 : b 8 < 256) (h9 : b 9 < 256) (h10 : b 10 < 256) (q47 : b 10 ≤ 47) (hG1 : G1 ≤ 4294967296) (hG2 : G2 ≤ 4294967296) (hd47 : dA b = false) (hd1 : dB G1 = false) (hd2 : dC G1 = false) (hd3 : dC G2 = false) (hd4 : dE b = false) (hd5 : dF b = false) (hd6 : dG b = false) (hd7b : dK b = true) (hd8 : dJ R = false) (k1 : kA b) (k2 : kB b G1) (k3 : kC b G2) (k4 : kD b R RB) : ptW b (okV G1 G2 b) :=
  ptX (oQE G1 G2 b (Orc.f (Orc.f (Orc.f (Orc.f (Orc.f (Orc.t (oc 2 (Orc.cal [] (AV.sv 1 R (byF RB)) [] (oc 3 (Orc.f Orc.z))))))))))) (q11 G1 G2 b R RB (dJ R = false ∧ okV G1 G2 b = okV G1 G2 b))
theorem sp12 (G1 G2 R : Nat) (RB b : Nat → Nat) (h8 : b 8 < 256) (h9 : b 9 < 256) (h10 : b 10 < 256) (q47 : b 10 ≤ 47) (hG1 : G1 ≤ 4294967296) (hG2 : G2 ≤ 4294967296) (hd47 : dA b = false) (hd1 : dB G1 = false) (hd2 : dC G1 = false) (hd3 : dC G2 = false) (hd4 : dE b = false) (hd5 : dF b = false) (hd6 : dG b = false) (hd7b : dK b = false) (hd9 : dI b = false) (k1 : kA b) (k2 : kB b G1) (k3 : kC b G2) : ptW b (ptZ) :=
  ptX (oQE G1 G2 b (Orc.f (Orc.f (Orc.t (Orc.t (Orc.t (Orc.f (Orc.f (Orc.f (Orc.f (Orc.f (Orc.t (Orc.c Orc.z))))))))))))) (q12 G1 G2 b ((!!(dI b)) = false ∧ (!!(dI b)) = false ∧ (!!(dI b)) = false ∧ (!!(dI b)) = false ∧ nt1 (dI b) ∧ ptZ = ptZ))
theorem sp13 (G1 G2 R : Nat) (RB b : Nat → Nat) (h8 : b 8 < 256) (h9 : b 9 < 256) (h10 : b 10 < 256) (q47 : b 10 ≤ 47) (hG1 : G1 ≤ 4294967296) (hG2 : G2 ≤ 4294967296) (hd47 : dA b = false) (hd1 : dB G1 = false) (hd2 : dC G1 = false) (hd3 : dC G2 = false) (hd4 : dE b = false) (hd5 : dF b = false) (hd6 : dG b = false) (hd7b : dK b = false) (hd9 : dI b = true) (hd8 : dJ R = true) (k1 : kA b) (k2 : kB b G1) (k3 : kC b G2) (k4 : kD b R RB) : ptW b (ptZ) :=
  ptX (oQE G1 G2 b (Orc.f (Orc.f (Orc.t (Orc.t (Orc.t (Orc.f (Orc.t (Orc.t (Orc.cal [] (AV.sv 1 R (byF RB)) [] (Orc.t (Orc.t (Orc.f (Orc.t Orc.z)))))))))))))) (q13 G1 G2 b R RB (dJ R = true ∧ ptZ = ptZ))
theorem sp14 (G1 G2 R : Nat) (RB b : Nat → Nat) (h8 : b 8 < 256) (h9 : b 9 < 256) (h10 : b 10 < 256) (q47 : b 10 ≤ 47) (hG1 : G1 ≤ 4294967296) (hG2 : G2 ≤ 4294967296) (hd47 : dA b = false) (hd1 : dB G1 = false) (hd2 : dC G1 = false) (hd3 : dC G2 = false) (hd4 : dE b = false) (hd5 : dF b = false) (hd6 : dG b = false) (hd7b : dK b = false) (hd9 : dI b = true) (hd8 : dJ R = false) (k1 : kA b) (k2 : kB b G1) (k3 : kC b G2) (k4 : kD b R RB) : ptW b (okV G1 G2 b) :=
  ptX (oQE G1 G2 b (Orc.f (Orc.f (Orc.t (Orc.t (Orc.t (Orc.f (Orc.t (Orc.t (Orc.cal [] (AV.sv 1 R (byF RB)) [] (Orc.t (Orc.t (Orc.f (Orc.f Orc.z)))))))))))))) (q13 G1 G2 b R RB (dJ R = false ∧ okV G1 G2 b = okV G1 G2 b))
theorem spF (b : Nat → Nat) (k : Con Tryd.prog 83 [.sv 1 64 (byF b)] [] (.tup [.l0, .b false]) []) : ptW b ptZ :=
  con_pureX (f := 1000000) (o := Orc.cal [] (AV.tup [AV.l0, AV.b false]) [] (Orc.c Orc.z)) (R := Con Tryd.prog 83 [.sv 1 64 (byF b)] [] (.tup [.l0, .b false]) [] ∧ True ∧ ptZ = ptZ) (by kernel_rfl) rfl ⟨k, trivial, rfl⟩
theorem sp0 (gg : Nat → Nat → CV) (k : Con Tryd.prog 83 [.sv 1 0 gg] [] (.tup [.l0, .b false]) []) : Con Tryd.prog 69 [.sv 1 0 gg] [] ptZ [] :=
  con_pureX (f := 1000000) (o := Orc.cal [] (AV.tup [AV.l0, AV.b false]) [] (Orc.c Orc.z)) (R := Con Tryd.prog 83 [.sv 1 0 gg] [] (.tup [.l0, .b false]) [] ∧ True ∧ ptZ = ptZ) (by kernel_rfl) rfl ⟨k, trivial, rfl⟩
noncomputable def nmE (s : SS) (gen area : Nat) : Int := cmtE gen 0 1 (fun _ => 1) (fun _ _ => area % 256) s (gen % 2)
noncomputable def nmS (s : SS) (gen area : Nat) : SS := cmtS gen 0 1 (fun _ => 1) (fun _ _ => area % 256) s (gen % 2)
theorem name_con (s : SS) (gen area mm : Nat) (ok : OkM s mm) (hm : mm + 1 < 1073741823) (hn : 2 ≤ s.n) :
    Con Tryd.prog 56 [.p 0 0, .i .i64 (Int.ofNat gen), .i .i64 (Int.ofNat area)] [some s.o] (.i .i64 (nmE s gen area)) [.set (nmS s gen area).o] := by
  have k := commit1_con gen 0 mm (area % 256) s (gen % 2) ok (Nat.mod_lt _ (by decide)) (by decide) hm (by omega)
  exact con_of_run [] [] ((name_vc s (nmS s gen area) (nmE s gen area) (recF (fun _ => 1) fun _ _ => area % 256) gen area _).mpr ⟨by decide, trivial, k, _, _, rfl, ret_k (by kernel_rfl)⟩)
noncomputable def g1 (b : Nat → Nat) : Nat := four1 (bOf (byF b))
noncomputable def g2 (b : Nat → Nat) : Nat := four1 (bOf (shiftF 4 (byF b)))
noncomputable def restP (b : Nat → Nat) : Nat := trN (bOf (shiftF (11 + b 10) (byF b))) (60 - (11 + b 10))
structure PtOk (b : Nat → Nat) : Prop where
  op : openB (byF b) = true
  size : b 10 ≤ 47
  gen0 : 1 ≤ g1 b
  gen1 : g1 b ≤ 1073741824
  num : g2 b ≤ 1073741824
  parts : b 9 ≤ 24
  idx : b 8 < b 9
  full : b 8 + 1 < b 9 → b 10 = 47
  last : b 9 ≤ b 8 + 1 → 0 < b 10 ∨ b 9 = 1
  rest : restP b = 0
open Classical in
noncomputable def ptB (b : Nat → Nat) : Bool := decide (PtOk b)
noncomputable def stG (b : Nat → Nat) : Nat := bif ptB b then g1 b else 0
noncomputable def stN (b : Nat → Nat) : Nat := bif ptB b then g2 b else 0
noncomputable def stI (b : Nat → Nat) : Nat := bif ptB b then b 8 else 0
noncomputable def stP (b : Nat → Nat) : Nat := bif ptB b then b 9 else 0
noncomputable def stL (b : Nat → Nat) : Nat := bif ptB b then b 10 else 0
noncomputable def ptV (b : Nat → Nat) : AV := .agg [.i .i64 (Int.ofNat (stG b)), .i .i64 (Int.ofNat (stN b)), .i .i64 (Int.ofNat (stI b)), .i .i64 (Int.ofNat (stP b)), .sv 1 (stL b) (byF fun j => b (11 + j))]
open Classical in
theorem ptB_t {b : Nat → Nat} (h : PtOk b) : ptB b = true := by unfold ptB; exact decide_eq_true h
open Classical in
theorem ptB_f {b : Nat → Nat} (h : ¬ PtOk b) : ptB b = false := by unfold ptB; exact decide_eq_false h
theorem open64T_con (gg : Nat → Nat → CV) (h : IsBy 64 gg) (hb : openB gg = true) : Con Tryd.prog 83 [.sv 1 64 gg] [] (.tup [.sv 1 60 gg, .b true]) [] := by
  have k := open64_con gg h
  rw [hb] at k; exact k
theorem open64F_con (gg : Nat → Nat → CV) (h : IsBy 64 gg) (hb : openB gg = false) : Con Tryd.prog 83 [.sv 1 64 gg] [] (.tup [.l0, .b false]) [] := by
  have h4 : IsBy 4 (shiftF 60 gg) := fun k hk => h (60 + k) (by omega)
  have h6 : IsBy 60 gg := h.le (by omega)
  have hd : (!decide (Int.ofNat (four1 (bOf (shiftF 60 gg))) = Int.ofNat (sumN (bOf gg) 60))) = true := by
    show (!openB gg) = true
    rw [hb]; rfl
  exact con_of_run [] [] ((open64_vc gg _).mpr ⟨by decide, ⟨by decide, trivial, by decide, by decide⟩, ofFour_con 4 _ (by decide) h4, ⟨trivial, by decide, by decide, by decide⟩, sumf_con 60 gg (by decide) h6, fun _ => ⟨_, _, rfl, ret_k (by kernel_rfl)⟩, fun h => (by rw [hd] at h; cases h)⟩)
theorem zeroPt {b : Nat → Nat} (h : ¬ PtOk b) {pargs : List AV} {g : Nat} {objs : List (Option AObj)} {us : List Upd} (k : Con Tryd.prog g pargs objs (.agg [.i .i64 0, .i .i64 0, .i .i64 0, .i .i64 0, .l0]) us) : Con Tryd.prog g pargs objs (ptV b) us := by
  have e : ptV b = .agg [.i .i64 0, .i .i64 0, .i .i64 0, .i .i64 0, .sv 1 0 (byF fun j => b (11 + j))] := by
    unfold ptV stG stN stI stP stL
    rw [ptB_f h]; simp only [cond_false]; exact Eq.refl _
  rw [e]
  exact k.post (.agg ⟨.refl _, .refl _, .refl _, .refl _, .nil _ _, trivial⟩) (OVL.refl _)
theorem k4_con (b : Nat → Nat) (hb : ∀ k, k < 64 → b k < 256) (q47 : b 10 ≤ 47) : Con Tryd.prog 86 [.sv 1 (60 - (11 + b 10)) (shiftF (11 + b 10) (byF b)), .s [0]] [] (.sv 1 (restP b) (byF (trB (bOf (shiftF (11 + b 10) (byF b))) (60 - (11 + b 10))))) [] := by
  have e : shiftF (11 + b 10) (byF b) = byF fun k => b (11 + b 10 + k) := shift_by _ _
  have h : IsBy (60 - (11 + b 10)) (byF fun k => b (11 + b 10 + k)) := .of fun k hk => hb _ (by omega)
  unfold restP
  rw [e]
  exact trim_con _ _ (by omega) h
theorem r11 (n : Nat) : Int.toNat ((11 : Int) + Int.ofNat n) = 11 + n := rfl
theorem r10 (n : Nat) : Int.toNat ((11 : Int) + Int.ofNat n) - 11 = n := by rw [r11]; omega
theorem stG_t {b : Nat → Nat} (h : PtOk b) : stG b = g1 b := by unfold stG; rw [ptB_t h, cond_true]
theorem stN_t {b : Nat → Nat} (h : PtOk b) : stN b = g2 b := by unfold stN; rw [ptB_t h, cond_true]
theorem stI_t {b : Nat → Nat} (h : PtOk b) : stI b = b 8 := by unfold stI; rw [ptB_t h, cond_true]
theorem stP_t {b : Nat → Nat} (h : PtOk b) : stP b = b 9 := by unfold stP; rw [ptB_t h, cond_true]
theorem stL_t {b : Nat → Nat} (h : PtOk b) : stL b = b 10 := by unfold stL; rw [ptB_t h, cond_true]
theorem okPt {b : Nat → Nat} (h : PtOk b) (k : Con Tryd.prog 69 [.sv 1 64 (byF b)] [] (.agg [.i .i64 (Int.ofNat (g1 b)), .i .i64 (Int.ofNat (g2 b)), .i .i64 (Int.ofNat (b 8)), .i .i64 (Int.ofNat (b 9)), .sv 1 (Int.toNat ((11 : Int) + Int.ofNat (b 10)) - 11) (shiftF 11 (byF b))]) []) : Con Tryd.prog 69 [.sv 1 64 (byF b)] [] (ptV b) [] := by
  have e2 : shiftF 11 (byF b) = byF fun j => b (11 + j) := shift_by 11 b
  have e1 : Int.toNat ((11 : Int) + Int.ofNat (b 10)) - 11 = b 10 := r10 (b 10)
  generalize shiftF 11 (byF b) = F at e2 k
  generalize Int.toNat ((11 : Int) + Int.ofNat (b 10)) - 11 = L at e1 k
  subst e2 e1
  unfold ptV
  rw [stG_t h, stN_t h, stI_t h, stP_t h, stL_t h]
  exact k
theorem standP_con (b : Nat → Nat) (hb : ∀ k, k < 64 → b k < 256) : Con Tryd.prog 69 [.sv 1 64 (byF b)] [] (ptV b) [] := by
  have hI : IsBy 64 (byF b) := .of hb
  cases ho : openB (byF b) with
  | false => exact zeroPt (fun h => by rw [h.op] at ho; cases ho) (spF b (open64F_con _ hI ho))
  | true =>
    have k1 := open64T_con _ hI ho
    have h8 := hb 8 (by omega)
    have h9 := hb 9 (by omega)
    have h10 := hb 10 (by omega)
    have hlo : four1 (bOf (byF b)) < 4294967296 := four1_lt fun k hk => hb k (by omega)
    have hhi : four1 (bOf (shiftF 4 (byF b))) < 4294967296 := four1_lt fun k hk => hb (4 + k) (by omega)
    have k2 : Con Tryd.prog 84 [.sv 1 60 (byF b)] [] (.tup [.i .u32 (Int.ofNat (g1 b)), .b true]) [] := ofFour_con 60 (byF b) (by omega) (hI.le (by omega))
    have k3 : Con Tryd.prog 84 [.sv 1 56 (shiftF 4 (byF b))] [] (.tup [.i .u32 (Int.ofNat (g2 b)), .b true]) [] := ofFour_con 56 (shiftF 4 (byF b)) (by omega) (fun k hk => hI (4 + k) (by omega))
    have hg1 : g1 b < 4294967296 := hlo
    have hg2 : g2 b < 4294967296 := hhi
    have e10 := r10 (b 10)
    by_cases q47 : b 10 ≤ 47
    rotate_left
    · have d47 : decide ((47 : Int) < Int.ofNat (b 10)) = true := by simp; omega
      refine zeroPt (fun h => q47 h.size) (sp1 (g1 b) (g2 b) (restP b) (trB (bOf (shiftF (11 + b 10) (byF b))) (60 - (11 + b 10))) b h8 h9 h10 d47 k1)
    have d47 : decide ((47 : Int) < Int.ofNat (b 10)) = false := by simp; omega
    have k4 := k4_con b hb q47
    have k4' : Con Tryd.prog 86 [.sv 1 (60 - Int.toNat ((11 : Int) + Int.ofNat (b 10))) (shiftF (Int.toNat ((11 : Int) + Int.ofNat (b 10))) (byF b)), .s [0]] [] (.sv 1 (restP b) (byF (trB (bOf (shiftF (11 + b 10) (byF b))) (60 - (11 + b 10))))) [] := by rw [r11]; exact k4
    by_cases q1 : 1 ≤ g1 b
    rotate_left
    · have d1 : decide (Int.ofNat (g1 b) < 1) = true := by simp; omega
      refine zeroPt (fun h => q1 h.gen0) (sp2 (g1 b) (g2 b) (restP b) (trB (bOf (shiftF (11 + b 10) (byF b))) (60 - (11 + b 10))) b h8 h9 h10 q47 (Nat.le_of_lt hg1) (Nat.le_of_lt hg2) d47 d1 k1 k2 k3)
    have d1 : decide (Int.ofNat (g1 b) < 1) = false := by simp; omega
    by_cases q2 : g1 b ≤ 1073741824
    rotate_left
    · have d2 : decide ((1073741824 : Int) < Int.ofNat (g1 b)) = true := by simp; omega
      refine zeroPt (fun h => q2 h.gen1) (sp3 (g1 b) (g2 b) (restP b) (trB (bOf (shiftF (11 + b 10) (byF b))) (60 - (11 + b 10))) b h8 h9 h10 q47 (Nat.le_of_lt hg1) (Nat.le_of_lt hg2) d47 d1 d2 k1 k2 k3)
    have d2 : decide ((1073741824 : Int) < Int.ofNat (g1 b)) = false := by simp; omega
    by_cases q3 : g2 b ≤ 1073741824
    rotate_left
    · have d3 : decide ((1073741824 : Int) < Int.ofNat (g2 b)) = true := by simp; omega
      refine zeroPt (fun h => q3 h.num) (sp4 (g1 b) (g2 b) (restP b) (trB (bOf (shiftF (11 + b 10) (byF b))) (60 - (11 + b 10))) b h8 h9 h10 q47 (Nat.le_of_lt hg1) (Nat.le_of_lt hg2) d47 d1 d2 d3 k1 k2 k3)
    have d3 : decide ((1073741824 : Int) < Int.ofNat (g2 b)) = false := by simp; omega
    by_cases q4 : b 9 ≤ 24
    rotate_left
    · have d4 : decide ((24 : Int) < Int.ofNat (b 9)) = true := by simp; omega
      refine zeroPt (fun h => q4 h.parts) (sp5 (g1 b) (g2 b) (restP b) (trB (bOf (shiftF (11 + b 10) (byF b))) (60 - (11 + b 10))) b h8 h9 h10 q47 (Nat.le_of_lt hg1) (Nat.le_of_lt hg2) d47 d1 d2 d3 d4 k1 k2 k3)
    have d4 : decide ((24 : Int) < Int.ofNat (b 9)) = false := by simp; omega
    by_cases q5 : b 8 < b 9
    rotate_left
    · have d5 : decide (Int.ofNat (b 9) ≤ Int.ofNat (b 8)) = true := by simp; omega
      refine zeroPt (fun h => q5 h.idx) (sp6 (g1 b) (g2 b) (restP b) (trB (bOf (shiftF (11 + b 10) (byF b))) (60 - (11 + b 10))) b h8 h9 h10 q47 (Nat.le_of_lt hg1) (Nat.le_of_lt hg2) d47 d1 d2 d3 d4 d5 k1 k2 k3)
    have d5 : decide (Int.ofNat (b 9) ≤ Int.ofNat (b 8)) = false := by simp; omega
    by_cases q6 : b 8 + 1 < b 9
    · have d6 : decide (Int.ofNat (b 8) < Int.ofNat (b 9) - 1) = true := by simp; omega
      by_cases q7 : b 10 = 47
      · have d7a : decide (Int.ofNat (Int.toNat ((11 : Int) + Int.ofNat (b 10)) - 11) = 47) = true := by rw [e10]; simp; omega
        by_cases q8 : restP b = 0
        · have d8 : decide ((0 : Int) < Int.ofNat (restP b)) = false := by simp; omega
          refine okPt ⟨ho, q47, q1, q2, q3, q4, q5, fun _ => q7, fun h => by omega, q8⟩ (sp9 (g1 b) (g2 b) (restP b) (trB (bOf (shiftF (11 + b 10) (byF b))) (60 - (11 + b 10))) b h8 h9 h10 q47 (Nat.le_of_lt hg1) (Nat.le_of_lt hg2) d47 d1 d2 d3 d4 d5 d6 d7a d8 k1 k2 k3 k4')
        · have d8 : decide ((0 : Int) < Int.ofNat (restP b)) = true := by simp; omega
          refine zeroPt (fun h => q8 h.rest) (sp8 (g1 b) (g2 b) (restP b) (trB (bOf (shiftF (11 + b 10) (byF b))) (60 - (11 + b 10))) b h8 h9 h10 q47 (Nat.le_of_lt hg1) (Nat.le_of_lt hg2) d47 d1 d2 d3 d4 d5 d6 d7a d8 k1 k2 k3 k4')
      · have d7a : decide (Int.ofNat (Int.toNat ((11 : Int) + Int.ofNat (b 10)) - 11) = 47) = false := by rw [e10]; simp; omega
        refine zeroPt (fun h => q7 (h.full q6)) (sp7 (g1 b) (g2 b) (restP b) (trB (bOf (shiftF (11 + b 10) (byF b))) (60 - (11 + b 10))) b h8 h9 h10 q47 (Nat.le_of_lt hg1) (Nat.le_of_lt hg2) d47 d1 d2 d3 d4 d5 d6 d7a k1 k2 k3)
    · have d6 : decide (Int.ofNat (b 8) < Int.ofNat (b 9) - 1) = false := by simp; omega
      by_cases q7 : 0 < b 10
      · have d7b : decide ((0 : Int) < Int.ofNat (Int.toNat ((11 : Int) + Int.ofNat (b 10)) - 11)) = true := by rw [e10]; simp; omega
        by_cases q8 : restP b = 0
        · have d8 : decide ((0 : Int) < Int.ofNat (restP b)) = false := by simp; omega
          refine okPt ⟨ho, q47, q1, q2, q3, q4, q5, fun h => by omega, fun _ => .inl q7, q8⟩ (sp11 (g1 b) (g2 b) (restP b) (trB (bOf (shiftF (11 + b 10) (byF b))) (60 - (11 + b 10))) b h8 h9 h10 q47 (Nat.le_of_lt hg1) (Nat.le_of_lt hg2) d47 d1 d2 d3 d4 d5 d6 d7b d8 k1 k2 k3 k4')
        · have d8 : decide ((0 : Int) < Int.ofNat (restP b)) = true := by simp; omega
          refine zeroPt (fun h => q8 h.rest) (sp10 (g1 b) (g2 b) (restP b) (trB (bOf (shiftF (11 + b 10) (byF b))) (60 - (11 + b 10))) b h8 h9 h10 q47 (Nat.le_of_lt hg1) (Nat.le_of_lt hg2) d47 d1 d2 d3 d4 d5 d6 d7b d8 k1 k2 k3 k4')
      · have d7b : decide ((0 : Int) < Int.ofNat (Int.toNat ((11 : Int) + Int.ofNat (b 10)) - 11)) = false := by rw [e10]; simp; omega
        by_cases q9 : b 9 = 1
        · have d9 : decide (Int.ofNat (b 9) = 1) = true := by simp; omega
          by_cases q8 : restP b = 0
          · have d8 : decide ((0 : Int) < Int.ofNat (restP b)) = false := by simp; omega
            refine okPt ⟨ho, q47, q1, q2, q3, q4, q5, fun h => by omega, fun _ => .inr q9, q8⟩ (sp14 (g1 b) (g2 b) (restP b) (trB (bOf (shiftF (11 + b 10) (byF b))) (60 - (11 + b 10))) b h8 h9 h10 q47 (Nat.le_of_lt hg1) (Nat.le_of_lt hg2) d47 d1 d2 d3 d4 d5 d6 d7b d9 d8 k1 k2 k3 k4')
          · have d8 : decide ((0 : Int) < Int.ofNat (restP b)) = true := by simp; omega
            refine zeroPt (fun h => q8 h.rest) (sp13 (g1 b) (g2 b) (restP b) (trB (bOf (shiftF (11 + b 10) (byF b))) (60 - (11 + b 10))) b h8 h9 h10 q47 (Nat.le_of_lt hg1) (Nat.le_of_lt hg2) d47 d1 d2 d3 d4 d5 d6 d7b d9 d8 k1 k2 k3 k4')
        · have d9 : decide (Int.ofNat (b 9) = 1) = false := by simp; omega
          refine zeroPt (fun h => by rcases h.last (by omega) with h | h <;> omega) (sp12 (g1 b) (g2 b) (restP b) (trB (bOf (shiftF (11 + b 10) (byF b))) (60 - (11 + b 10))) b h8 h9 h10 q47 (Nat.le_of_lt hg1) (Nat.le_of_lt hg2) d47 d1 d2 d3 d4 d5 d6 d7b d9 k1 k2 k3)
theorem stand0_con (b : Nat → Nat) (hz : ¬ PtOk b) (gg : Nat → Nat → CV) : Con Tryd.prog 69 [.sv 1 0 gg] [] (ptV b) [] :=
  zeroPt hz (sp0 gg (open0_con gg))
end Go.Proofs.Jn
namespace Go.Proofs.Jn
open Go Go.Sim Go.Proofs Go.Proofs.Cd Go.Proofs.St Go.Proofs.Cl Go.Proofs.YtpoedikibkhmcaaDoor
theorem lkA_vc (s : SS) (L : Nat) (GG : Nat → Nat → CV) (E : Int) (G : Nat) (N : Nat) (I : Nat) (P : Nat) (LL : Nat) (BB : Nat → Nat) (area i : Nat) (F : Nat → Nat → CV) (h0 :
  decide (E = 0) = true) (K : Res → Orc → Prop) : runK Tryd.prog 1000000 (.code (loopAt Tryd.prog 40 0) 39 (mkT [(0, .p 0 0), (1, .i .i64 (Int.ofNat area)), (6, .lr 1 5 0 60 false),
  (11, .lr 1 5 0 60 false), (12, .i .i64 60), (13, .i .i64 (Int.ofNat i))]) (mkH [some s.o, some (.rows 121 5 60 F)])) (Orc.s (Orc.inl (Orc.cal [0] (AV.tup [AV.sv 1 L GG, AV.i .i64
  E]) [Upd.keep, Upd.gone] (Orc.f (Orc.f (Orc.f (Orc.c (Orc.cal [] (AV.agg [AV.i .i64 (Int.ofNat G), AV.i .i64 (Int.ofNat N), AV.i .i64 (Int.ofNat I), AV.i .i64 (Int.ofNat P), AV.sv
  1 LL (byF BB)]) [] Orc.z))))))) Orc.z) K = ((decide (Int.ofNat i < 60) = true → ((-9223372036854775808) ≤ Int.ofNat area * 60 ∧ Int.ofNat area * (60 : Int) ≤ (9223372036854775807
  : Int)) ∧ ((-9223372036854775808 : Int) ≤ (2 : Int) + Int.ofNat area * 60 ∧ 2 + Int.ofNat area * (60 : Int) ≤ (9223372036854775807 : Int)) ∧ ((-9223372036854775808 : Int) ≤ (2 :
  Int) + Int.ofNat area * 60 + Int.ofNat i ∧ 2 + Int.ofNat area * 60 + Int.ofNat i ≤ 9223372036854775807) ∧ Con Tryd.prog 68 [AV.p 0 0, AV.i .i64 (2 + Int.ofNat area * 60 +
  Int.ofNat i)] [some (SS.o s)] (AV.tup [AV.sv 1 L GG, AV.i .i64 E]) [Upd.keep, Upd.gone] ∧ (!decide (E = 0)) = false ∧ (!decide (E = 0)) = false ∧ (!decide (E = 0)) = false ∧ Con
  Tryd.prog 69 [AV.sv 1 L GG] [] (AV.agg [AV.i .i64 (Int.ofNat G), AV.i .i64 (Int.ofNat N), AV.i .i64 (Int.ofNat I), AV.i .i64 (Int.ofNat P), AV.sv 1 LL (byF BB)]) [] ∧ (0 ≤
  Int.ofNat i ∧ Int.ofNat i < 60) ∧ i < 60 ∧ ((-9223372036854775808) ≤ Int.ofNat i + 1 ∧ Int.ofNat i + (1 : Int) ≤ (9223372036854775807 : Int)) ∧ K (Res.st XO.nrm (T.n (some (AV.p 0
  0)) (T.n (some (AV.i .i64 (Int.ofNat area))) (T.n none (T.n (some (AV.i .i64 (Int.ofNat i))) (T.n (some (AV.i .i64 (Int.ofNat i))) T.e T.e) (T.n (some (AV.sv 1 L GG)) T.e T.e))
  (T.n (some (AV.lr 1 5 0 60 false)) (T.n (some (AV.i .i64 (2 + Int.ofNat area * 60))) (T.n (some (AV.agg [AV.i .i64 (Int.ofNat G), AV.i .i64 (Int.ofNat N), AV.i .i64 (Int.ofNat I),
  AV.i .i64 (Int.ofNat P), AV.sv 1 LL (byF BB)])) T.e T.e) T.e) (T.n (some (AV.b !decide (E = 0))) T.e T.e))) (T.n none (T.n (some (AV.i .i64 E)) (T.n (some (AV.p 0 0)) (T.n (some
  (AV.i .i64 (Int.ofNat i))) T.e T.e) T.e) (T.n (some (AV.i .i64 E)) T.e T.e)) (T.n (some (AV.i .i64 (Int.ofNat i + 1))) (T.n (some (AV.i .i64 (2 + Int.ofNat area * 60 + Int.ofNat
  i))) (T.n (some (AV.i .i64 (Int.ofNat i + 1))) T.e T.e) T.e) (T.n (some (AV.tup [])) T.e T.e)))) (T.n none (T.n none (T.n (some (AV.sv 1 L GG)) (T.n (some (AV.tup [AV.sv 1 L GG,
  AV.i .i64 E])) (T.n (some (AV.lr 1 5 0 60 false)) T.e T.e) T.e) (T.n (some (AV.i .i64 E)) T.e T.e)) (T.n (some (AV.i .i64 60)) (T.n (some (AV.i .i64 (Int.ofNat i))) (T.n (some
  (AV.pr 1 5 i 0)) T.e T.e) T.e) (T.n (some (AV.tup [])) T.e T.e))) (T.n (some (AV.lr 1 5 0 60 false)) (T.n none (T.n (some (AV.i .i64 (Int.ofNat area))) (T.n (some (AV.sv 1 L GG))
  T.e T.e) T.e) (T.n (some (AV.b !decide (E = 0))) T.e T.e)) (T.n (some (AV.b (decide (Int.ofNat i < 60)))) (T.n (some (AV.tup [AV.sv 1 L GG, AV.i .i64 E])) T.e T.e) (T.n (some
  (AV.b false)) T.e T.e))))) ⟨T.n (some (AObj.segs 77 33799 [{ st := 0, sz := 1, n := 1, f := oneF (CV.i .i64 (Int.ofNat (SS.n s))) }, { st := 1, sz := 65, n := 512, f := durF (SS.dur s) (SS.torn s) },
  { st := 33281, sz := 1, n := 1, f := oneF (CV.opv (pB (SS.P s)) 66 (pW (SS.P s))) }, { st := 33282, sz := 1, n := 512, f := latF (lB (SS.P s)) (lW (SS.P s)) }, { st := 33794, sz := 5, n := 1, f := tailF (Int.ofNat (List.length (SS.P s))) (Int.ofNat (SS.wr s)) (SS.off s) (SS.armed s) (Int.ofNat (SS.left s)) }]))
  (T.n (some (AObj.rows 121 5 60 (setRow F i 0 [CV.i .i64 (Int.ofNat G), CV.i .i64 (Int.ofNat N), CV.i .i64 (Int.ofNat I), CV.i .i64 (Int.ofNat P), CV.sv 1 LL (byF BB)]))) T.e T.e)
  (T.n none T.e T.e), 3, [1, 2]⟩) Orc.z) ∧ (decide (Int.ofNat i < 60) = false → K (Res.st (XO.exit 0) (T.n (some (AV.p 0 0)) (T.n (some (AV.i .i64 (Int.ofNat area))) (T.n none T.e
  (T.n (some (AV.lr 1 5 0 60 false)) T.e T.e)) (T.n none T.e (T.n (some (AV.i .i64 (Int.ofNat i))) T.e T.e))) (T.n none (T.n none T.e (T.n (some (AV.i .i64 60)) T.e T.e)) (T.n (some
  (AV.lr 1 5 0 60 false)) T.e (T.n (some (AV.b (decide (Int.ofNat i < 60)))) T.e T.e)))) ⟨T.n (some (AObj.segs 77 33799 [{ st := 0, sz := 1, n := 1, f := oneF (CV.i .i64 (Int.ofNat (SS.n s))) },
  { st := 1, sz := 65, n := 512, f := durF (SS.dur s) (SS.torn s) }, { st := 33281, sz := 1, n := 1, f := oneF (CV.opv (pB (SS.P s)) 66 (pW (SS.P s))) }, { st := 33282, sz := 1, n := 512, f := latF (lB (SS.P s)) (lW (SS.P s)) },
  { st := 33794, sz := 5, n := 1, f := tailF (Int.ofNat (List.length (SS.P s))) (Int.ofNat (SS.wr s)) (SS.off s) (SS.armed s) (Int.ofNat (SS.left s)) }])) (T.n (some (AObj.rows 121
  5 60 F)) T.e T.e) T.e, 2, []⟩) Orc.z)) := by kernel_rfl
theorem lkB_vc (s : SS) (L : Nat) (GG : Nat → Nat → CV) (E : Int) (G : Nat) (N : Nat) (I : Nat) (P : Nat) (LL : Nat) (BB : Nat → Nat) (area i : Nat) (F : Nat → Nat → CV) (h0 :
  decide (E = 0) = false) (h1 : decide (E = 14) = true) (K : Res → Orc → Prop) : runK Tryd.prog 1000000 (.code (loopAt Tryd.prog 40 0) 39 (mkT [(0, .p 0 0), (1, .i .i64 (Int.ofNat
  area)), (6, .lr 1 5 0 60 false), (11, .lr 1 5 0 60 false), (12, .i .i64 60), (13, .i .i64 (Int.ofNat i))]) (mkH [some s.o, some (.rows 121 5 60 F)])) (Orc.s (Orc.inl (Orc.cal [0]
  (AV.tup [AV.sv 1 L GG, AV.i .i64 E]) [Upd.keep, Upd.gone] (Orc.t (Orc.t (Orc.t (Orc.f (Orc.cal [] (AV.agg [AV.i .i64 (Int.ofNat G), AV.i .i64 (Int.ofNat N), AV.i .i64 (Int.ofNat
  I), AV.i .i64 (Int.ofNat P), AV.sv 1 LL (byF BB)]) [] Orc.z))))))) Orc.z) K = ((decide (Int.ofNat i < 60) = true → ((-9223372036854775808) ≤ Int.ofNat area * 60 ∧ Int.ofNat area *
  (60 : Int) ≤ (9223372036854775807 : Int)) ∧ ((-9223372036854775808 : Int) ≤ (2 : Int) + Int.ofNat area * 60 ∧ 2 + Int.ofNat area * (60 : Int) ≤ (9223372036854775807 : Int)) ∧
  ((-9223372036854775808 : Int) ≤ (2 : Int) + Int.ofNat area * 60 + Int.ofNat i ∧ 2 + Int.ofNat area * 60 + Int.ofNat i ≤ 9223372036854775807) ∧ Con Tryd.prog 68 [AV.p 0 0, AV.i
  .i64 (2 + Int.ofNat area * 60 + Int.ofNat i)] [some (SS.o s)] (AV.tup [AV.sv 1 L GG, AV.i .i64 E]) [Upd.keep, Upd.gone] ∧ (!decide (E = 0)) = true ∧ (!decide (E = 0)) = true ∧
  (!decide (E = 0)) = true ∧ (!decide (E = 14)) = false ∧ Con Tryd.prog 69 [AV.sv 1 L GG] [] (AV.agg [AV.i .i64 (Int.ofNat G), AV.i .i64 (Int.ofNat N), AV.i .i64 (Int.ofNat I), AV.i
  .i64 (Int.ofNat P), AV.sv 1 LL (byF BB)]) [] ∧ (0 ≤ Int.ofNat i ∧ Int.ofNat i < 60) ∧ i < 60 ∧ ((-9223372036854775808) ≤ Int.ofNat i + 1 ∧ Int.ofNat i + (1 : Int) ≤
  (9223372036854775807 : Int)) ∧ K (Res.st XO.nrm (T.n (some (AV.p 0 0)) (T.n (some (AV.i .i64 (Int.ofNat area))) (T.n none (T.n (some (AV.i .i64 (Int.ofNat i))) (T.n (some (AV.i
  .i64 (Int.ofNat i))) T.e T.e) (T.n (some (AV.sv 1 L GG)) T.e T.e)) (T.n (some (AV.lr 1 5 0 60 false)) (T.n (some (AV.i .i64 (2 + Int.ofNat area * 60))) (T.n (some (AV.agg [AV.i
  .i64 (Int.ofNat G), AV.i .i64 (Int.ofNat N), AV.i .i64 (Int.ofNat I), AV.i .i64 (Int.ofNat P), AV.sv 1 LL (byF BB)])) T.e T.e) T.e) (T.n (some (AV.b !decide (E = 0))) T.e T.e)))
  (T.n none (T.n (some (AV.i .i64 E)) (T.n (some (AV.p 0 0)) (T.n (some (AV.i .i64 (Int.ofNat i))) T.e T.e) T.e) (T.n (some (AV.i .i64 E)) T.e T.e)) (T.n (some (AV.i .i64 (Int.ofNat
  i + 1))) (T.n (some (AV.i .i64 (2 + Int.ofNat area * 60 + Int.ofNat i))) (T.n (some (AV.i .i64 (Int.ofNat i + 1))) T.e T.e) T.e) (T.n (some (AV.b !decide (E = 14))) T.e T.e))))
  (T.n none (T.n none (T.n (some (AV.sv 1 L GG)) (T.n (some (AV.tup [AV.sv 1 L GG, AV.i .i64 E])) (T.n (some (AV.lr 1 5 0 60 false)) T.e T.e) T.e) (T.n (some (AV.i .i64 E)) T.e
  T.e)) (T.n (some (AV.i .i64 60)) (T.n (some (AV.i .i64 (Int.ofNat i))) (T.n (some (AV.pr 1 5 i 0)) T.e T.e) T.e) (T.n (some (AV.i .i64 E)) T.e T.e))) (T.n (some (AV.lr 1 5 0 60
  false)) (T.n none (T.n (some (AV.i .i64 (Int.ofNat area))) (T.n (some (AV.sv 1 L GG)) T.e T.e) T.e) (T.n (some (AV.b !decide (E = 0))) T.e T.e)) (T.n (some (AV.b (decide
  (Int.ofNat i < 60)))) (T.n (some (AV.tup [AV.sv 1 L GG, AV.i .i64 E])) T.e T.e) (T.n (some (AV.b !decide (E = 14))) T.e T.e))))) ⟨T.n (some (AObj.segs 77 33799 [{ st := 0, sz := 1, n := 1, f := oneF (CV.i .i64 (Int.ofNat (SS.n s))) },
  { st := 1, sz := 65, n := 512, f := durF (SS.dur s) (SS.torn s) }, { st := 33281, sz := 1, n := 1, f := oneF (CV.opv (pB (SS.P s)) 66 (pW (SS.P s))) }, { st := 33282, sz := 1, n := 512, f := latF (lB (SS.P s)) (lW (SS.P s)) },
  { st := 33794, sz := 5, n := 1, f := tailF (Int.ofNat (List.length (SS.P s))) (Int.ofNat (SS.wr s)) (SS.off s) (SS.armed s) (Int.ofNat (SS.left s)) }])) (T.n (some (AObj.rows 121
  5 60 (setRow F i 0 [CV.i .i64 (Int.ofNat G), CV.i .i64 (Int.ofNat N), CV.i .i64 (Int.ofNat I), CV.i .i64 (Int.ofNat P), CV.sv 1 LL (byF BB)]))) T.e T.e) (T.n none T.e T.e), 3, [1,
  2]⟩) Orc.z) ∧ (decide (Int.ofNat i < 60) = false → K (Res.st (XO.exit 0) (T.n (some (AV.p 0 0)) (T.n (some (AV.i .i64 (Int.ofNat area))) (T.n none T.e (T.n (some (AV.lr 1 5 0 60
  false)) T.e T.e)) (T.n none T.e (T.n (some (AV.i .i64 (Int.ofNat i))) T.e T.e))) (T.n none (T.n none T.e (T.n (some (AV.i .i64 60)) T.e T.e)) (T.n (some (AV.lr 1 5 0 60 false))
  T.e (T.n (some (AV.b (decide (Int.ofNat i < 60)))) T.e T.e)))) ⟨T.n (some (AObj.segs 77 33799 [{ st := 0, sz := 1, n := 1, f := oneF (CV.i .i64 (Int.ofNat (SS.n s))) }, { st := 1, sz := 65, n := 512, f := durF (SS.dur s) (SS.torn s) },
  { st := 33281, sz := 1, n := 1, f := oneF (CV.opv (pB (SS.P s)) 66 (pW (SS.P s))) }, { st := 33282, sz := 1, n := 512, f := latF (lB (SS.P s)) (lW (SS.P s)) }, { st := 33794, sz := 5, n := 1, f := tailF (Int.ofNat (List.length (SS.P s))) (Int.ofNat (SS.wr s)) (SS.off s) (SS.armed s) (Int.ofNat (SS.left s)) }]))
  (T.n (some (AObj.rows 121 5 60 F)) T.e T.e) T.e, 2, []⟩) Orc.z)) := by kernel_rfl
theorem zero_bad : ¬ PtOk (fun _ => 0) := fun h => by
  have h0 := h.idx
  exact absurd h0 (by decide)
noncomputable def bB (s : SS) (q : Nat) : Nat → Nat := match decide (s.rdE (Int.ofNat q) = 0) with
  | true => rdC s (Int.ofNat q)
  | false => fun _ => 0
noncomputable def ptC (b : Nat → Nat) (j : Nat) : CV := match j with
  | 0 => .i .i64 (Int.ofNat (stG b))
  | 1 => .i .i64 (Int.ofNat (stN b))
  | 2 => .i .i64 (Int.ofNat (stI b))
  | 3 => .i .i64 (Int.ofNat (stP b))
  | _ => .sv 1 (stL b) (byF fun t => b (11 + t))
noncomputable def prF (s : SS) (area : Nat) : Nat → Nat → CV := fun i j => ptC (bB s (2 + area * 60 + i)) j
noncomputable def lkT (area i : Nat) : List (Nat × AV) := [(0, .p 0 0), (1, .i .i64 (Int.ofNat area)), (6, .lr 1 5 0 60 false), (11, .lr 1 5 0 60 false), (12, .i .i64 60), (13, .i .i64 (Int.ofNat i))]
theorem rdE_on {s : SS} {q : Nat} (ho : s.off = false) (hq : q < s.n) : s.rdE (Int.ofNat q) = 0 ∨ s.rdE (Int.ofNat q) = 14 := by
  unfold SS.rdE
  rw [ho, decide_eq_true (show (0 : Int) ≤ Int.ofNat q ∧ Int.ofNat q < Int.ofNat s.n from ⟨by simp, by simp; omega⟩)]
  simp only
  cases lB s.P (Int.ofNat q).toNat with
  | true => exact .inl rfl
  | false =>
    simp only
    cases s.torn (Int.ofNat q).toNat with
    | true => exact .inr rfl
    | false => exact .inl rfl
theorem setRow5 {f : Nat → Nat → CV} {k : Nat} {c0 c1 c2 c3 c4 : CV} (i j : Nat) (hj : j < 5) : CW (setRow f k 0 [c0, c1, c2, c3, c4] i j) (bif Nat.beq i k then [c0, c1, c2, c3, c4].getD j .p0 else f i j) := by
  have h : setRow f k 0 [c0, c1, c2, c3, c4] i j = zipCV (Nat.beq i k) ([c0, c1, c2, c3, c4].getD j .p0) (f i j) := by
    have : j = 0 ∨ j = 1 ∨ j = 2 ∨ j = 3 ∨ j = 4 := by omega
    rcases this with rfl | rfl | rfl | rfl | rfl <;> exact Eq.refl _
  rw [h]
  exact zipCV_CW _ _ _
theorem lk_lp (s : SS) (area : Nat) (F0 : Nat → Nat → CV) (ho : s.off = false) (hn : 122 ≤ s.n) (h512 : s.n ≤ 512) (hb : Byt s) (ha : area ≤ 1) :
    LDoes Tryd.prog (loopAt Tryd.prog 40 0) 39 2 (mkT (lkT area 0)) [some s.o, some (.rows 121 5 60 F0)] (.exit 0) (mkT [(6, .lr 1 5 0 60 false)]) [some s.o, some (.rows 121 5 60 (prF s area))] := by
  refine loop_indV (D := Nat × (Nat → Nat → CV)) (l' := [(6, .lr 1 5 0 60 false)]) (fun d => (lkT area d.1, [some s.o, some (.rows 121 5 60 d.2)])) (fun d => 60 - d.1)
    (fun d => d.1 ≤ 60 ∧ ∀ i j, i < d.1 → j < 5 → CW (d.2 i j) (prF s area i j)) ?_ (0, F0) ⟨Nat.zero_le _, fun i j hi => by omega⟩
  rintro ⟨k, F⟩ ⟨hk, h1⟩
  simp only at hk h1
  by_cases hlt : k < 60
  · have hq : 2 + area * 60 + k < s.n := by omega
    have step : ∀ V : Nat → Nat, bB s (2 + area * 60 + k) = V → ∀ i j, i < k + 1 → j < 5 → CW (setRow F k 0 [.i .i64 (Int.ofNat (stG V)), .i .i64 (Int.ofNat (stN V)), .i .i64 (Int.ofNat (stI V)), .i .i64 (Int.ofNat (stP V)), .sv 1 (stL V) (byF fun t => V (11 + t))] i j) (prF s area i j) := by
      rintro V rfl i j hi hj
      refine (setRow5 i j hj).trans ?_
      cases hbq : Nat.beq i k with
      | true =>
        have e := Nat.eq_of_beq_eq_true hbq
        subst e
        rw [cond_true]
        have : j = 0 ∨ j = 1 ∨ j = 2 ∨ j = 3 ∨ j = 4 := by omega
        rcases this with rfl | rfl | rfl | rfl | rfl <;> exact .refl _
      | false =>
        have e : i ≠ k := by rintro rfl; simp at hbq
        rw [cond_false]
        exact h1 i j (by omega) hj
    rcases rdE_on ho hq with h0 | h0
    · have eB : bB s (2 + area * 60 + k) = rdC s (Int.ofNat (2 + area * 60 + k)) := by unfold bB; rw [decide_eq_true h0]
      have w1 := readT_con s (Int.ofNat (2 + area * 60 + k)) h512 hb h0
      have w2 := standP_con (rdC s (Int.ofNat (2 + area * 60 + k))) fun t _ => rdC_lt hb _ t
      have hst := step _ eB
      generalize rdC s (Int.ofNat (2 + area * 60 + k)) = V at w1 w2 hst
      refine ⟨by simp, 1000000, _, (lkA_vc s 64 (byF V) 0 (stG V) (stN V) (stI V) (stP V) (stL V) (fun t => V (11 + t)) area k F (by decide) _).mpr ⟨fun _ => ?_, fun h => ?_⟩⟩
      · refine ⟨⟨by simp <;> omega, by simp <;> omega⟩, ⟨by simp <;> omega, by simp <;> omega⟩, ⟨by simp <;> omega, by simp <;> omega⟩, w1, by decide, by decide, by decide, w2, ⟨by simp, by simp; omega⟩, hlt, ⟨by simp <;> omega, by simp <;> omega⟩, .inl ⟨(k + 1, _), [0, 1], [], _, _, lkT area (k + 1), [some s.o, some (.rows 121 5 60 _)], ⟨hlt, hst⟩, by simp only; omega, rfl, st_k [0, 1] (by kernel_rfl), .refl _, OVL.refl _⟩⟩
      · simp at h; omega
    · have eB : bB s (2 + area * 60 + k) = fun _ => 0 := by unfold bB; rw [h0]; rfl
      have w1 := readF_con s (Int.ofNat (2 + area * 60 + k)) h512 (by rw [h0]; decide)
      rw [h0] at w1
      have w2 := stand0_con (fun _ => 0) zero_bad fun _ _ => .p0
      have hst := step _ eB
      generalize (fun _ => 0 : Nat → Nat) = V at w2 hst
      refine ⟨by simp, 1000000, _, (lkB_vc s 0 (fun _ _ => .p0) 14 (stG V) (stN V) (stI V) (stP V) (stL V) (fun t => V (11 + t)) area k F (by decide) (by decide) _).mpr ⟨fun _ => ?_, fun h => ?_⟩⟩
      · refine ⟨⟨by simp <;> omega, by simp <;> omega⟩, ⟨by simp <;> omega, by simp <;> omega⟩, ⟨by simp <;> omega, by simp <;> omega⟩, w1, by decide, by decide, by decide, by decide, w2, ⟨by simp, by simp; omega⟩, hlt, ⟨by simp <;> omega, by simp <;> omega⟩, .inl ⟨(k + 1, _), [0, 1], [], _, _, lkT area (k + 1), [some s.o, some (.rows 121 5 60 _)], ⟨hlt, hst⟩, by simp only; omega, rfl, st_k [0, 1] (by kernel_rfl), .refl _, OVL.refl _⟩⟩
      · simp at h; omega
  · have : k = 60 := by omega
    subst this
    refine ⟨by simp, 1000000, _, (lkA_vc s 0 (fun _ _ => .p0) 0 0 0 0 0 0 (fun _ => 0) area 60 F (by decide) _).mpr ⟨fun h => ?_, fun _ => ?_⟩⟩
    · simp at h
    · exact .inr ⟨[0, 1], [], _, _, [(6, .lr 1 5 0 60 false)], [some s.o, some (.rows 121 5 60 F)], rfl, by simp, st_k [0, 1] (by kernel_rfl), .refl _, .refl _, .rowsW fun i j hi hj => h1 i j hi hj, trivial⟩
theorem lookA_vc (s : SS) (F2 : Nat → Nat → CV) (area : Nat) (K : Res → Orc → Prop) : runK Tryd.prog 1000000 (.call 40 [.p 0 0, .i .i64 (Int.ofNat area)] (mkH [some s.o])) (Orc.s
  (Orc.lop [0, 1] [0, 1, 6, 11, 12, 13] 2 (XO.exit 0) [(6, AV.lr 1 5 0 60 false)] [some (SS.o s), some (AObj.rows 121 5 60 F2)] Orc.z) Orc.z) K = (((0 : Int) ≤ (60 : Int) ∧ (60 :
  Int) ≤ (60 : Int) ∧ (60 : Int) ≤ (1073741824 : Int)) ∧ LDoes Tryd.prog (loopAt Tryd.prog 40 0) 39 2 (mkT (lkT area 0)) [some (SS.o s), some (AObj.rows 121 5 60 fun x j =>
  List.getD [CV.i .i64 0, CV.i .i64 0, CV.i .i64 0, CV.i .i64 0, CV.sv 1 0 fun x x_1 => CV.p0] j CV.p0)] (XO.exit 0) (mkT [(6, AV.lr 1 5 0 60 false)]) [some (SS.o s), some
  (AObj.rows 121 5 60 F2)] ∧ K (Res.rv (AV.tup [AV.lr 1 5 0 60 false, AV.i .i64 0]) ⟨T.n (some (AObj.segs 77 33799 [{ st := 0, sz := 1, n := 1, f := oneF (CV.i .i64 (Int.ofNat (SS.n s))) },
  { st := 1, sz := 65, n := 512, f := durF (SS.dur s) (SS.torn s) }, { st := 33281, sz := 1, n := 1, f := oneF (CV.opv (pB (SS.P s)) 66 (pW (SS.P s))) }, { st := 33282, sz := 1, n := 512, f := latF (lB (SS.P s)) (lW (SS.P s)) },
  { st := 33794, sz := 5, n := 1, f := tailF (Int.ofNat (List.length (SS.P s))) (Int.ofNat (SS.wr s)) (SS.off s) (SS.armed s) (Int.ofNat (SS.left s)) }])) (T.n (some (AObj.rows 121
  5 60 F2)) T.e T.e) T.e, 2, [1, 0, 1]⟩) Orc.z) := by kernel_rfl
theorem look_con (s : SS) (area : Nat) (ho : s.off = false) (hn : 122 ≤ s.n) (h512 : s.n ≤ 512) (hb : Byt s) (ha : area ≤ 1) :
    Con Tryd.prog 40 [.p 0 0, .i .i64 (Int.ofNat area)] [some s.o] (.tup [.sv 5 60 (prF s area), .i .i64 0]) [.keep, .gone] := by
  have k : Con Tryd.prog 40 [.p 0 0, .i .i64 (Int.ofNat area)] [some s.o] (.tup [.lr 1 5 0 60 false, .i .i64 0]) [.keep, .set (.rows 121 5 60 (prF s area))] :=
    con_of_run [] [1] ((lookA_vc s (prF s area) area _).mpr ⟨by decide, lk_lp s area _ ho hn h512 hb ha, _, _, rfl, ret_k (by kernel_rfl)⟩)
  exact (k.freeze (us' := [.keep, .gone]) (v' := .tup [.sv 5 60 (shiftF 0 (prF s area)), .i .i64 0]) 1 rfl ⟨.refl _, rfl, trivial⟩ (.inr ⟨by kernel_rfl, ⟨rfl, by omega⟩, trivial, trivial⟩))
theorem named_vc (s : SS) (L : Nat) (GG : Nat → Nat → CV) (E : Int) (G : Nat) (N : Nat) (I : Nat) (P : Nat) (LL : Nat) (BB : Nat → Nat) (head : Nat) (K : Res → Orc → Prop) : runK
  Tryd.prog 1000000 (.call 67 [.p 0 0, .i .i64 (Int.ofNat head)] (mkH [some s.o])) (Orc.cal [0] (AV.tup [AV.sv 1 L GG, AV.i .i64 E]) [Upd.keep, Upd.gone] (Orc.cal [] (AV.agg [AV.i
  .i64 (Int.ofNat G), AV.i .i64 (Int.ofNat N), AV.i .i64 (Int.ofNat I), AV.i .i64 (Int.ofNat P), AV.sv 1 LL (byF BB)]) [] (Orc.s (Orc.t (Orc.t (Orc.f (Orc.s (Orc.t (Orc.t (Orc.t
  (Orc.f (Orc.s (Orc.t (Orc.t (Orc.t (Orc.t (Orc.f (Orc.s (Orc.t (Orc.t (Orc.t (Orc.t (Orc.f (Orc.s Orc.z Orc.z)))))) (Orc.f (Orc.f (Orc.f (Orc.f (Orc.t (Orc.c Orc.z))))))))))))
  (Orc.f (Orc.f (Orc.f (Orc.f (Orc.t (oc 7 Orc.z))))))))))) (Orc.f (Orc.f (Orc.f (Orc.t (oc 13 Orc.z))))))))) (Orc.f (Orc.f (Orc.t (oc 18 Orc.z))))))) K = (Con Tryd.prog 68 [AV.p 0
  0, AV.i .i64 (Int.ofNat head)] [some (SS.o s)] (AV.tup [AV.sv 1 L GG, AV.i .i64 E]) [Upd.keep, Upd.gone] ∧ Con Tryd.prog 69 [AV.sv 1 L GG] [] (AV.agg [AV.i .i64 (Int.ofNat G),
  AV.i .i64 (Int.ofNat N), AV.i .i64 (Int.ofNat I), AV.i .i64 (Int.ofNat P), AV.sv 1 LL (byF BB)]) [] ∧ True ∧ ((!!decide (Int.ofNat N = 0)) = true → True ∧ (!!decide (Int.ofNat N =
  0)) = true ∧ (!!decide (Int.ofNat N = 0)) = true ∧ (!decide (Int.ofNat N = 0)) = false ∧ ((!!decide (Int.ofNat P = 1)) = true → True ∧ (!!decide (Int.ofNat P = 1)) = true ∧
  (!!decide (Int.ofNat P = 1)) = true ∧ (!!decide (Int.ofNat P = 1)) = true ∧ (!decide (Int.ofNat P = 1)) = false ∧ ((!!decide (Int.ofNat LL = 1)) = true → True ∧ (!!decide
  (Int.ofNat LL = 1)) = true ∧ (!!decide (Int.ofNat LL = 1)) = true ∧ ((0 : Int) ≤ (0 : Int) ∧ (0 : Int) < ↑LL) ∧ (!!decide (Int.ofNat LL = 1)) = true ∧ True ∧ (!!decide (Int.ofNat
  LL = 1)) = true ∧ (!decide (Int.ofNat LL = 1)) = false ∧ ((!decide (1 < Int.ofNat (BB 0))) = true → True ∧ (!decide (1 < Int.ofNat (BB 0))) = true ∧ (!decide (1 < Int.ofNat (BB
  0))) = true ∧ (2 : Int) ≠ (0 : Int) ∧ (!decide (1 < Int.ofNat (BB 0))) = true ∧ (!decide (1 < Int.ofNat (BB 0))) = true ∧ decide (1 < Int.ofNat (BB 0)) = false ∧ ((!decide
  (Int.tmod (Int.ofNat G) 2 = Int.ofNat head)) = true → K (Res.rv (AV.tup [AV.i .i64 0, AV.i .i64 0]) ⟨T.n (some (AObj.segs 77 33799 [{ st := 0, sz := 1, n := 1, f := oneF (CV.i .i64 (Int.ofNat (SS.n s))) },
  { st := 1, sz := 65, n := 512, f := durF (SS.dur s) (SS.torn s) }, { st := 33281, sz := 1, n := 1, f := oneF (CV.opv (pB (SS.P s)) 66 (pW (SS.P s))) }, { st := 33282, sz := 1, n := 512, f := latF (lB (SS.P s)) (lW (SS.P s)) },
  { st := 33794, sz := 5, n := 1, f := tailF (Int.ofNat (List.length (SS.P s))) (Int.ofNat (SS.wr s)) (SS.off s) (SS.armed s) (Int.ofNat (SS.left s)) }])) (T.n none T.e T.e) (T.n
  (some (AObj.cells 121 5 [AV.i .i64 0, AV.i .i64 0, AV.i .i64 0, AV.i .i64 0, AV.l0] (T.n (some (AV.i .i64 (Int.ofNat G))) (T.n (some (AV.i .i64 (Int.ofNat N))) (T.n (some (AV.i
  .i64 (Int.ofNat P))) T.e T.e) T.e) (T.n (some (AV.i .i64 (Int.ofNat I))) (T.n (some (AV.sv 1 LL (byF BB))) T.e T.e) T.e)))) T.e T.e), 3, [2, 2, 1]⟩) Orc.z) ∧ ((!decide (Int.tmod
  (Int.ofNat G) 2 = Int.ofNat head)) = false → True ∧ True ∧ ((0 : Int) ≤ (0 : Int) ∧ (0 : Int) < ↑LL) ∧ True ∧ ((-9223372036854775808) ≤ Int.ofNat (BB 0) ∧ Int.ofNat (BB 0) ≤
  9223372036854775807) ∧ K (Res.rv (AV.tup [AV.i .i64 (Int.ofNat G), AV.i .i64 (Int.ofNat (BB 0))]) ⟨T.n (some (AObj.segs 77 33799 [{ st := 0, sz := 1, n := 1, f := oneF (CV.i .i64 (Int.ofNat (SS.n s))) },
  { st := 1, sz := 65, n := 512, f := durF (SS.dur s) (SS.torn s) }, { st := 33281, sz := 1, n := 1, f := oneF (CV.opv (pB (SS.P s)) 66 (pW (SS.P s))) }, { st := 33282, sz := 1, n := 512, f := latF (lB (SS.P s)) (lW (SS.P s)) },
  { st := 33794, sz := 5, n := 1, f := tailF (Int.ofNat (List.length (SS.P s))) (Int.ofNat (SS.wr s)) (SS.off s) (SS.armed s) (Int.ofNat (SS.left s)) }])) (T.n none T.e T.e) (T.n
  (some (AObj.cells 121 5 [AV.i .i64 0, AV.i .i64 0, AV.i .i64 0, AV.i .i64 0, AV.l0] (T.n (some (AV.i .i64 (Int.ofNat G))) (T.n (some (AV.i .i64 (Int.ofNat N))) (T.n (some (AV.i
  .i64 (Int.ofNat P))) T.e T.e) T.e) (T.n (some (AV.i .i64 (Int.ofNat I))) (T.n (some (AV.sv 1 LL (byF BB))) T.e T.e) T.e)))) T.e T.e), 3, [2, 2, 1]⟩) Orc.z)) ∧ ((!decide (1 <
  Int.ofNat (BB 0))) = false → (!decide (1 < Int.ofNat (BB 0))) = false ∧ (!decide (1 < Int.ofNat (BB 0))) = false ∧ (!decide (1 < Int.ofNat (BB 0))) = false ∧ (!decide (1 <
  Int.ofNat (BB 0))) = false ∧ decide (1 < Int.ofNat (BB 0)) = true ∧ K (Res.rv (AV.tup [AV.i .i64 0, AV.i .i64 0]) ⟨T.n (some (AObj.segs 77 33799 [{ st := 0, sz := 1, n := 1, f := oneF (CV.i .i64 (Int.ofNat (SS.n s))) },
  { st := 1, sz := 65, n := 512, f := durF (SS.dur s) (SS.torn s) }, { st := 33281, sz := 1, n := 1, f := oneF (CV.opv (pB (SS.P s)) 66 (pW (SS.P s))) }, { st := 33282, sz := 1, n := 512, f := latF (lB (SS.P s)) (lW (SS.P s)) },
  { st := 33794, sz := 5, n := 1, f := tailF (Int.ofNat (List.length (SS.P s))) (Int.ofNat (SS.wr s)) (SS.off s) (SS.armed s) (Int.ofNat (SS.left s)) }])) (T.n none T.e T.e) (T.n
  (some (AObj.cells 121 5 [AV.i .i64 0, AV.i .i64 0, AV.i .i64 0, AV.i .i64 0, AV.l0] (T.n (some (AV.i .i64 (Int.ofNat G))) (T.n (some (AV.i .i64 (Int.ofNat N))) (T.n (some (AV.i
  .i64 (Int.ofNat P))) T.e T.e) T.e) (T.n (some (AV.i .i64 (Int.ofNat I))) (T.n (some (AV.sv 1 LL (byF BB))) T.e T.e) T.e)))) T.e T.e), 3, [2, 2, 1]⟩) Orc.z)) ∧ ((!!decide
  (Int.ofNat LL = 1)) = false → (!!decide (Int.ofNat LL = 1)) = false ∧ (!!decide (Int.ofNat LL = 1)) = false ∧ (!!decide (Int.ofNat LL = 1)) = false ∧ (!!decide (Int.ofNat LL = 1))
  = false ∧ (!decide (Int.ofNat LL = 1)) = true ∧ K (Res.rv (AV.tup [AV.i .i64 0, AV.i .i64 0]) ⟨T.n (some (AObj.segs 77 33799 [{ st := 0, sz := 1, n := 1, f := oneF (CV.i .i64 (Int.ofNat (SS.n s))) },
  { st := 1, sz := 65, n := 512, f := durF (SS.dur s) (SS.torn s) }, { st := 33281, sz := 1, n := 1, f := oneF (CV.opv (pB (SS.P s)) 66 (pW (SS.P s))) }, { st := 33282, sz := 1, n := 512, f := latF (lB (SS.P s)) (lW (SS.P s)) },
  { st := 33794, sz := 5, n := 1, f := tailF (Int.ofNat (List.length (SS.P s))) (Int.ofNat (SS.wr s)) (SS.off s) (SS.armed s) (Int.ofNat (SS.left s)) }])) (T.n none T.e T.e) (T.n
  (some (AObj.cells 121 5 [AV.i .i64 0, AV.i .i64 0, AV.i .i64 0, AV.i .i64 0, AV.l0] (T.n (some (AV.i .i64 (Int.ofNat G))) (T.n (some (AV.i .i64 (Int.ofNat N))) (T.n (some (AV.i
  .i64 (Int.ofNat P))) T.e T.e) T.e) (T.n (some (AV.i .i64 (Int.ofNat I))) (T.n (some (AV.sv 1 LL (byF BB))) T.e T.e) T.e)))) T.e T.e), 3, [2, 2, 1]⟩) Orc.z)) ∧ ((!!decide
  (Int.ofNat P = 1)) = false → (!!decide (Int.ofNat P = 1)) = false ∧ (!!decide (Int.ofNat P = 1)) = false ∧ (!!decide (Int.ofNat P = 1)) = false ∧ (!decide (Int.ofNat P = 1)) =
  true ∧ K (Res.rv (AV.tup [AV.i .i64 0, AV.i .i64 0]) ⟨T.n (some (AObj.segs 77 33799 [{ st := 0, sz := 1, n := 1, f := oneF (CV.i .i64 (Int.ofNat (SS.n s))) }, { st := 1, sz := 65, n := 512, f := durF (SS.dur s) (SS.torn s) },
  { st := 33281, sz := 1, n := 1, f := oneF (CV.opv (pB (SS.P s)) 66 (pW (SS.P s))) }, { st := 33282, sz := 1, n := 512, f := latF (lB (SS.P s)) (lW (SS.P s)) }, { st := 33794, sz := 5, n := 1, f := tailF (Int.ofNat (List.length (SS.P s))) (Int.ofNat (SS.wr s)) (SS.off s) (SS.armed s) (Int.ofNat (SS.left s)) }]))
  (T.n none T.e T.e) (T.n (some (AObj.cells 121 5 [AV.i .i64 0, AV.i .i64 0, AV.i .i64 0, AV.i .i64 0, AV.l0] (T.n (some (AV.i .i64 (Int.ofNat G))) (T.n (some (AV.i .i64 (Int.ofNat
  N))) (T.n (some (AV.i .i64 (Int.ofNat P))) T.e T.e) T.e) (T.n (some (AV.i .i64 (Int.ofNat I))) (T.n (some (AV.sv 1 LL (byF BB))) T.e T.e) T.e)))) T.e T.e), 3, [2, 2, 1]⟩) Orc.z))
  ∧ ((!!decide (Int.ofNat N = 0)) = false → (!!decide (Int.ofNat N = 0)) = false ∧ (!!decide (Int.ofNat N = 0)) = false ∧ (!decide (Int.ofNat N = 0)) = true ∧ K (Res.rv (AV.tup
  [AV.i .i64 0, AV.i .i64 0]) ⟨T.n (some (AObj.segs 77 33799 [{ st := 0, sz := 1, n := 1, f := oneF (CV.i .i64 (Int.ofNat (SS.n s))) }, { st := 1, sz := 65, n := 512, f := durF (SS.dur s) (SS.torn s) },
  { st := 33281, sz := 1, n := 1, f := oneF (CV.opv (pB (SS.P s)) 66 (pW (SS.P s))) }, { st := 33282, sz := 1, n := 512, f := latF (lB (SS.P s)) (lW (SS.P s)) }, { st := 33794, sz := 5, n := 1, f := tailF (Int.ofNat (List.length (SS.P s))) (Int.ofNat (SS.wr s)) (SS.off s) (SS.armed s) (Int.ofNat (SS.left s)) }]))
  (T.n none T.e T.e) (T.n (some (AObj.cells 121 5 [AV.i .i64 0, AV.i .i64 0, AV.i .i64 0, AV.i .i64 0, AV.l0] (T.n (some (AV.i .i64 (Int.ofNat G))) (T.n (some (AV.i .i64 (Int.ofNat
  N))) (T.n (some (AV.i .i64 (Int.ofNat P))) T.e T.e) T.e) (T.n (some (AV.i .i64 (Int.ofNat I))) (T.n (some (AV.sv 1 LL (byF BB))) T.e T.e) T.e)))) T.e T.e), 3, [2, 2, 1]⟩) Orc.z))
  := by kernel_rfl
noncomputable def hdB (G N P LL : Nat) (x h : Nat) : Bool := Nat.beq N 0 && (Nat.beq P 1 && (Nat.beq LL 1 && (Nat.ble x 1 && Nat.beq (G % 2) h)))
theorem deq (n m : Nat) : decide (Int.ofNat n = Int.ofNat m) = Nat.beq n m := by
  cases h : Nat.beq n m with
  | true => exact decide_eq_true (by rw [Nat.eq_of_beq_eq_true h])
  | false => exact decide_eq_false (fun e => Nat.ne_of_beq_eq_false h (Int.ofNat.inj e))
theorem dlt1 (n : Nat) : decide ((1 : Int) < Int.ofNat n) = !Nat.ble n 1 := by
  cases h : Nat.ble n 1 with
  | true => exact decide_eq_false (by rw [Nat.ble_eq] at h; simp; omega)
  | false => exact decide_eq_true (by rw [Bool.eq_false_iff, ne_eq, Nat.ble_eq] at h; simp; omega)
theorem namedX_con (s : SS) (L : Nat) (GG : Nat → Nat → CV) (E : Int) (G N I P LL : Nat) (BB : Nat → Nat) (head : Nat) (hG : G ≤ 4294967296) (hB : BB 0 < 256)
    (w1 : Con Tryd.prog 68 [.p 0 0, .i .i64 (Int.ofNat head)] [some s.o] (.tup [.sv 1 L GG, .i .i64 E]) [.keep, .gone])
    (w2 : Con Tryd.prog 69 [.sv 1 L GG] [] (.agg [.i .i64 (Int.ofNat G), .i .i64 (Int.ofNat N), .i .i64 (Int.ofNat I), .i .i64 (Int.ofNat P), .sv 1 LL (byF BB)]) []) :
    Con Tryd.prog 67 [.p 0 0, .i .i64 (Int.ofNat head)] [some s.o] (.tup [.i .i64 (Int.ofNat (bif hdB G N P LL (BB 0) head then G else 0)), .i .i64 (Int.ofNat (bif hdB G N P LL (BB 0) head then BB 0 else 0))]) [.keep] := by
  have d1 : decide (Int.ofNat N = 0) = Nat.beq N 0 := deq N 0
  have d2 : decide (Int.ofNat P = 1) = Nat.beq P 1 := deq P 1
  have d3 : decide (Int.ofNat LL = 1) = Nat.beq LL 1 := deq LL 1
  have d4 := dlt1 (BB 0)
  have d5 : decide (Int.tmod (Int.ofNat G) 2 = Int.ofNat head) = Nat.beq (G % 2) head := deq (G % 2) head
  have r1 : (-9223372036854775808 : Int) ≤ Int.ofNat (BB 0) ∧ Int.ofNat (BB 0) ≤ 9223372036854775807 := rng _ (by omega)
  have bad : hdB G N P LL (BB 0) head = false → Con Tryd.prog 67 [.p 0 0, .i .i64 (Int.ofNat head)] [some s.o] (.tup [.i .i64 0, .i .i64 0]) [.keep] → Con Tryd.prog 67 [.p 0 0, .i .i64 (Int.ofNat head)] [some s.o] (.tup [.i .i64 (Int.ofNat (bif hdB G N P LL (BB 0) head then G else 0)), .i .i64 (Int.ofNat (bif hdB G N P LL (BB 0) head then BB 0 else 0))]) [.keep] := by
    intro h k
    rw [h, cond_false, cond_false]; exact k
  cases c1 : Nat.beq N 0 with
  | false =>
    rw [c1] at d1
    refine bad (by unfold hdB; rw [c1]; rfl) (con_of_run [] [] ((named_vc s L GG E G N I P LL BB head _).mpr ?_))
    simp only [d1, Bool.not_false, Bool.not_true, true_implies, false_implies, reduceCtorEq, and_true, true_and]
    exact ⟨w1, w2, _, _, rfl, ret_k (by kernel_rfl)⟩
  | true =>
    rw [c1] at d1
    cases c2 : Nat.beq P 1 with
    | false =>
      rw [c2] at d2
      refine bad (by unfold hdB; rw [c1, c2]; rfl) (con_of_run [] [] ((named_vc s L GG E G N I P LL BB head _).mpr ?_))
      simp only [d1, d2, Bool.not_false, Bool.not_true, true_implies, false_implies, reduceCtorEq, and_true, true_and]
      exact ⟨w1, w2, _, _, rfl, ret_k (by kernel_rfl)⟩
    | true =>
      rw [c2] at d2
      cases c3 : Nat.beq LL 1 with
      | false =>
        rw [c3] at d3
        refine bad (by unfold hdB; rw [c1, c2, c3]; rfl) (con_of_run [] [] ((named_vc s L GG E G N I P LL BB head _).mpr ?_))
        simp only [d1, d2, d3, Bool.not_false, Bool.not_true, true_implies, false_implies, reduceCtorEq, and_true, true_and]
        exact ⟨w1, w2, _, _, rfl, ret_k (by kernel_rfl)⟩
      | true =>
        rw [c3] at d3
        have eL := Nat.eq_of_beq_eq_true c3
        have z : (0 : Int) ≤ 0 ∧ (0 : Int) < ↑LL := ⟨by decide, by rw [eL]; decide⟩
        cases c4 : Nat.ble (BB 0) 1 with
        | false =>
          rw [c4] at d4
          refine bad (by unfold hdB; rw [c1, c2, c3, c4]; rfl) (con_of_run [] [] ((named_vc s L GG E G N I P LL BB head _).mpr ?_))
          simp only [d1, d2, d3, d4, Bool.not_false, Bool.not_true, true_implies, false_implies, reduceCtorEq, and_true, true_and]
          exact ⟨w1, w2, z, _, _, rfl, ret_k (by kernel_rfl)⟩
        | true =>
          rw [c4] at d4
          have z2 : (2 : Int) ≠ 0 := by decide
          cases c5 : Nat.beq (G % 2) head with
          | false =>
            rw [c5] at d5
            refine bad (by unfold hdB; rw [c1, c2, c3, c4, c5]; rfl) (con_of_run [] [] ((named_vc s L GG E G N I P LL BB head _).mpr ?_))
            simp only [d1, d2, d3, d4, d5, Bool.not_false, Bool.not_true, true_implies, false_implies, reduceCtorEq, and_true, true_and]
            exact ⟨w1, w2, z, z2, _, _, rfl, ret_k (by kernel_rfl)⟩
          | true =>
            rw [c5] at d5
            have ok : hdB G N P LL (BB 0) head = true := by unfold hdB; rw [c1, c2, c3, c4, c5]; rfl
            rw [ok, cond_true, cond_true]
            refine con_of_run [] [] ((named_vc s L GG E G N I P LL BB head _).mpr ?_)
            simp only [d1, d2, d3, d4, d5, Bool.not_false, Bool.not_true, true_implies, false_implies, reduceCtorEq, and_true, true_and]
            exact ⟨w1, w2, z, z2, z, r1, _, _, rfl, ret_k (by kernel_rfl)⟩
noncomputable def hdOk (b : Nat → Nat) (h : Nat) : Bool := hdB (stG b) (stN b) (stP b) (stL b) (b 11) h
noncomputable def hdG (s : SS) (h : Nat) : Nat := bif hdOk (bB s h) h then stG (bB s h) else 0
noncomputable def hdA (s : SS) (h : Nat) : Nat := bif hdOk (bB s h) h then bB s h 11 else 0
theorem stG_le (b : Nat → Nat) : stG b ≤ 4294967296 := by
  by_cases h : PtOk b
  · rw [stG_t h]; have := h.gen1; omega
  · unfold stG; rw [ptB_f h, cond_false]; omega
theorem bB_lt {s : SS} (hb : Byt s) (q t : Nat) : bB s q t < 256 := by
  unfold bB
  cases decide (s.rdE (Int.ofNat q) = 0) with
  | true => exact rdC_lt hb _ t
  | false => exact (by decide : 0 < 256)
theorem named_con (s : SS) (h : Nat) (h512 : s.n ≤ 512) (hb : Byt s) :
    Con Tryd.prog 67 [.p 0 0, .i .i64 (Int.ofNat h)] [some s.o] (.tup [.i .i64 (Int.ofNat (hdG s h)), .i .i64 (Int.ofNat (hdA s h))]) [.keep] := by
  have hx := bB_lt hb h
  unfold hdG hdA hdOk
  by_cases h0 : s.rdE (Int.ofNat h) = 0
  · have eB : bB s h = rdC s (Int.ofNat h) := by unfold bB; rw [decide_eq_true h0]
    have w1 := readT_con s (Int.ofNat h) h512 hb h0
    have w2 := standP_con (rdC s (Int.ofNat h)) fun t _ => rdC_lt hb _ t
    rw [← eB] at w1 w2
    generalize bB s h = V at w1 w2 hx ⊢
    exact namedX_con s 64 (byF V) 0 (stG V) (stN V) (stI V) (stP V) (stL V) (fun t => V (11 + t)) h (stG_le V) (hx 11) w1 w2
  · have eB : bB s h = fun _ => 0 := by unfold bB; rw [decide_eq_false h0]
    have w1 := readF_con s (Int.ofNat h) h512 h0
    have w2 := stand0_con (fun _ => 0) zero_bad fun _ _ => .p0
    rw [← eB] at w2
    generalize bB s h = V at w2 hx ⊢
    exact namedX_con s 0 (fun _ _ => .p0) (s.rdE (Int.ofNat h)) (stG V) (stN V) (stI V) (stP V) (stL V) (fun t => V (11 + t)) h (stG_le V) (hx 11) w1 w2
theorem begin_vc (s : SS) (S2 : SS) (E2 : Int) (G0 : Nat) (A0 : Nat) (G1 : Nat) (A1 : Nat) (K : Res → Orc → Prop) : runK Tryd.prog 1000000 (.call 39 [.p 0 0] (mkH [some s.o]))
  (Orc.cal [0] (AV.tup [AV.i .i64 (Int.ofNat G0), AV.i .i64 (Int.ofNat A0)]) [Upd.keep] (Orc.cal [0] (AV.tup [AV.i .i64 (Int.ofNat G1), AV.i .i64 (Int.ofNat A1)]) [Upd.keep] (Orc.s
  (Orc.s Orc.z (Orc.cal [0] (AV.i .i64 E2) [Upd.set (SS.o S2)] Orc.z)) (Orc.s Orc.z (Orc.cal [0] (AV.i .i64 E2) [Upd.set (SS.o S2)] Orc.z))))) K = (Con Tryd.prog 67 [AV.p 0 0, AV.i
  .i64 0] [some (SS.o s)] (AV.tup [AV.i .i64 (Int.ofNat G0), AV.i .i64 (Int.ofNat A0)]) [Upd.keep] ∧ Con Tryd.prog 67 [AV.p 0 0, AV.i .i64 1] [some (SS.o s)] (AV.tup [AV.i .i64
  (Int.ofNat G1), AV.i .i64 (Int.ofNat A1)]) [Upd.keep] ∧ (decide (Int.ofNat G0 < Int.ofNat G1) = true → (decide (0 < Int.ofNat G1) = true → K (Res.rv (AV.tup [AV.i .i64 (Int.ofNat
  G1), AV.i .i64 (Int.ofNat A1), AV.i .i64 0]) ⟨T.n (some (AObj.segs 77 33799 [{ st := 0, sz := 1, n := 1, f := oneF (CV.i .i64 (Int.ofNat (SS.n s))) }, { st := 1, sz := 65, n := 512, f := durF (SS.dur s) (SS.torn s) },
  { st := 33281, sz := 1, n := 1, f := oneF (CV.opv (pB (SS.P s)) 66 (pW (SS.P s))) }, { st := 33282, sz := 1, n := 512, f := latF (lB (SS.P s)) (lW (SS.P s)) }, { st := 33794, sz := 5, n := 1, f := tailF (Int.ofNat (List.length (SS.P s))) (Int.ofNat (SS.wr s)) (SS.off s) (SS.armed s) (Int.ofNat (SS.left s)) }]))
  T.e T.e, 1, []⟩) Orc.z) ∧ (decide (0 < Int.ofNat G1) = false → Con Tryd.prog 56 [AV.p 0 0, AV.i .i64 1, AV.i .i64 0] [some (SS.o s)] (AV.i .i64 E2) [Upd.set (SS.o S2)] ∧ K (Res.rv
  (AV.tup [AV.i .i64 1, AV.i .i64 0, AV.i .i64 E2]) ⟨T.n (some (AObj.segs 77 33799 [{ st := 0, sz := 1, n := 1, f := oneF (CV.i .i64 (Int.ofNat (SS.n S2))) }, { st := 1, sz := 65, n := 512, f := durF (SS.dur S2) (SS.torn S2) },
  { st := 33281, sz := 1, n := 1, f := oneF (CV.opv (pB (SS.P S2)) 66 (pW (SS.P S2))) }, { st := 33282, sz := 1, n := 512, f := latF (lB (SS.P S2)) (lW (SS.P S2)) }, { st := 33794, sz := 5, n := 1, f := tailF (Int.ofNat (List.length (SS.P S2))) (Int.ofNat (SS.wr S2)) (SS.off S2) (SS.armed S2) (Int.ofNat (SS.left S2)) }]))
  T.e T.e, 1, [0]⟩) Orc.z)) ∧ (decide (Int.ofNat G0 < Int.ofNat G1) = false → (decide (0 < Int.ofNat G0) = true → K (Res.rv (AV.tup [AV.i .i64 (Int.ofNat G0), AV.i .i64 (Int.ofNat
  A0), AV.i .i64 0]) ⟨T.n (some (AObj.segs 77 33799 [{ st := 0, sz := 1, n := 1, f := oneF (CV.i .i64 (Int.ofNat (SS.n s))) }, { st := 1, sz := 65, n := 512, f := durF (SS.dur s) (SS.torn s) },
  { st := 33281, sz := 1, n := 1, f := oneF (CV.opv (pB (SS.P s)) 66 (pW (SS.P s))) }, { st := 33282, sz := 1, n := 512, f := latF (lB (SS.P s)) (lW (SS.P s)) }, { st := 33794, sz := 5, n := 1, f := tailF (Int.ofNat (List.length (SS.P s))) (Int.ofNat (SS.wr s)) (SS.off s) (SS.armed s) (Int.ofNat (SS.left s)) }]))
  T.e T.e, 1, []⟩) Orc.z) ∧ (decide (0 < Int.ofNat G0) = false → Con Tryd.prog 56 [AV.p 0 0, AV.i .i64 1, AV.i .i64 0] [some (SS.o s)] (AV.i .i64 E2) [Upd.set (SS.o S2)] ∧ K (Res.rv
  (AV.tup [AV.i .i64 1, AV.i .i64 0, AV.i .i64 E2]) ⟨T.n (some (AObj.segs 77 33799 [{ st := 0, sz := 1, n := 1, f := oneF (CV.i .i64 (Int.ofNat (SS.n S2))) }, { st := 1, sz := 65, n := 512, f := durF (SS.dur S2) (SS.torn S2) },
  { st := 33281, sz := 1, n := 1, f := oneF (CV.opv (pB (SS.P S2)) 66 (pW (SS.P S2))) }, { st := 33282, sz := 1, n := 512, f := latF (lB (SS.P S2)) (lW (SS.P S2)) }, { st := 33794, sz := 5, n := 1, f := tailF (Int.ofNat (List.length (SS.P S2))) (Int.ofNat (SS.wr S2)) (SS.off S2) (SS.armed S2) (Int.ofNat (SS.left S2)) }]))
  T.e T.e, 1, [0]⟩) Orc.z))) := by kernel_rfl
noncomputable def bgG (s : SS) : Nat := bif Nat.blt (hdG s 0) (hdG s 1) then hdG s 1 else hdG s 0
noncomputable def bgA (s : SS) : Nat := bif Nat.blt (hdG s 0) (hdG s 1) then hdA s 1 else hdA s 0
theorem dlt (n m : Nat) : decide (Int.ofNat n < Int.ofNat m) = Nat.blt n m := by
  cases h : Nat.blt n m with
  | true => exact decide_eq_true (by rw [Nat.blt_eq] at h; simp; omega)
  | false => exact decide_eq_false (by rw [Bool.eq_false_iff, ne_eq, Nat.blt_eq] at h; simp; omega)
theorem begin_con (s : SS) (h512 : s.n ≤ 512) (hb : Byt s) (hg : 0 < bgG s) : Con Tryd.prog 39 [.p 0 0] [some s.o] (.tup [.i .i64 (Int.ofNat (bgG s)), .i .i64 (Int.ofNat (bgA s)), .i .i64 0]) [.keep] := by
  have w0 := named_con s 0 h512 hb
  have w1 := named_con s 1 h512 hb
  unfold bgG at hg
  unfold bgG bgA
  have d := dlt (hdG s 0) (hdG s 1)
  generalize hdG s 0 = G0 at *
  generalize hdG s 1 = G1 at *
  generalize hdA s 0 = A0 at *
  generalize hdA s 1 = A1 at *
  cases c : Nat.blt G0 G1 with
  | true =>
    rw [c] at d hg
    rw [cond_true] at hg
    have d2 : decide ((0 : Int) < Int.ofNat G1) = true := by simp; omega
    rw [cond_true, cond_true]
    exact con_of_run [] [] ((begin_vc s s 0 G0 A0 G1 A1 _).mpr ⟨w0, w1, fun _ => ⟨fun _ => ⟨_, _, rfl, ret_k (by kernel_rfl)⟩, fun h => (by rw [d2] at h; cases h)⟩, fun h => (by rw [d] at h; cases h)⟩)
  | false =>
    rw [c] at d hg
    rw [cond_false] at hg
    have d2 : decide ((0 : Int) < Int.ofNat G0) = true := by simp; omega
    rw [cond_false, cond_false]
    exact con_of_run [] [] ((begin_vc s s 0 G0 A0 G1 A1 _).mpr ⟨w0, w1, fun h => (by rw [d] at h; cases h), fun _ => ⟨fun _ => ⟨_, _, rfl, ret_k (by kernel_rfl)⟩, fun h => (by rw [d2] at h; cases h)⟩⟩)
theorem begin0_con (s : SS) (mm : Nat) (ok : OkM s mm) (hm : mm + 1 < 1073741823) (hn : 2 ≤ s.n) (hb : Byt s) (hg : bgG s = 0) :
    Con Tryd.prog 39 [.p 0 0] [some s.o] (.tup [.i .i64 1, .i .i64 0, .i .i64 (nmE s 1 0)]) [.set (nmS s 1 0).o] := by
  have w0 := named_con s 0 ok.n hb
  have w1 := named_con s 1 ok.n hb
  have w2 := name_con s 1 0 mm ok hm hn
  unfold bgG at hg
  have d := dlt (hdG s 0) (hdG s 1)
  generalize hdG s 0 = G0 at *
  generalize hdG s 1 = G1 at *
  generalize hdA s 0 = A0 at *
  generalize hdA s 1 = A1 at *
  generalize nmS s 1 0 = S2 at *
  generalize nmE s 1 0 = E2 at *
  cases c : Nat.blt G0 G1 with
  | true =>
    rw [c] at d hg
    rw [cond_true] at hg
    have d2 : decide ((0 : Int) < Int.ofNat G1) = false := by simp; omega
    exact con_of_run [] [] ((begin_vc s S2 E2 G0 A0 G1 A1 _).mpr ⟨w0, w1, fun _ => ⟨fun h => (by rw [d2] at h; cases h), fun _ => ⟨w2, _, _, rfl, ret_k (by kernel_rfl)⟩⟩, fun h => (by rw [d] at h; cases h)⟩)
  | false =>
    rw [c] at d hg
    rw [cond_false] at hg
    have d2 : decide ((0 : Int) < Int.ofNat G0) = false := by simp; omega
    exact con_of_run [] [] ((begin_vc s S2 E2 G0 A0 G1 A1 _).mpr ⟨w0, w1, fun h => (by rw [d] at h; cases h), fun _ => ⟨fun h => (by rw [d2] at h; cases h), fun _ => ⟨w2, _, _, rfl, ret_k (by kernel_rfl)⟩⟩⟩)
end Go.Proofs.Jn
