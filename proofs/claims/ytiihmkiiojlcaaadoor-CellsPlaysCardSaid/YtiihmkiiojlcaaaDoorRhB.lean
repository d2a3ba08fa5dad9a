/- Runs over unknown values, told by the kernel: part RhB. -/
import Derived.Test.YtiihmkiiojlcaaaDoorRhA
set_option linter.unusedSimpArgs false
set_option linter.unusedVariables false
set_option maxRecDepth 20000
namespace Go.Proofs.Cl
open Go Go.Sim Go.Proofs Go.Proofs.Cd Go.Proofs.St Go.Proofs.YtiihmkiiojlcaaaDoor
noncomputable def rob (c : CS) (s : SS) : List (Option AObj) := [some (rsA 2 s), some (rsR s), some (rsP s), some (rcO 0 4 5 c.n c.dead), some (rcV c.n c.q c.d), some (rcB c.n c.sec)]
structure RInv (c : CS) : Prop where
  q : ∀ k, c.q k ≤ 1099511627776
  z : ∀ k, c.q k = 0 → c.sp k = 0
theorem bnt {b : Bool} (h : b = false) : (!b) = true := by rw [h]; rfl
theorem bnf {b : Bool} (h : b = true) : (!b) = false := by rw [h]; rfl
theorem rget_con (c : CS) (s : SS) (i : Int) : Con Tryd.prog 19 [.p 3 0, .i .i64 i] (rob c s) (.agg [.i .i64 (Int.ofNat (c.getQ i)), .s (c.getD i)]) [.keep, .keep, .keep, .keep, .keep, .keep] := by
  by_cases h : 0 ≤ i ∧ i < Int.ofNat c.n
  · obtain ⟨m, rfl⟩ : ∃ m : Nat, i = Int.ofNat m := ⟨i.toNat, by simp; omega⟩
    have hm : m < c.n := by have := h.2; simpa using this
    have d1 : decide (Int.ofNat m < 0) = false := df (by simp)
    have d2 : decide (Int.ofNat c.n ≤ Int.ofNat m) = false := df (by simp; omega)
    rw [getQ_in hm, getD_in hm]
    exact con_of_run [] [] ((rgetI_vc s c.n c.q c.d c.sec m c.dead d1 d2 _).mpr ⟨trivial, d2, trivial, ⟨h.1, h.2⟩, hm, _, _, rfl, ret_k (by kernel_rfl)⟩)
  · have e1 : c.getQ i = 0 := by unfold CS.getQ; rw [decide_eq_false h]
    have e2 : c.getD i = [] := by unfold CS.getD; rw [decide_eq_false h]
    rw [e1, e2]
    by_cases h0 : i < 0
    · have d := dt h0
      have n := bnf d
      exact con_of_run [] [] ((rgetN_vc s c.n c.q c.d c.sec i c.dead d _).mpr ⟨n, n, n, n, n, n, n, d, _, _, rfl, ret_k (by kernel_rfl)⟩)
    · have d := df h0
      have n := bnt d
      have d2 : decide (Int.ofNat c.n ≤ i) = true := dt (by omega)
      exact con_of_run [] [] ((rgetM_vc s c.n c.q c.d c.sec i c.dead d d2 _).mpr ⟨n, n, n, n, trivial, n, n, n, d, d2, _, _, rfl, ret_k (by kernel_rfl)⟩)
theorem rputN_con {c : CS} (s : SS) (r : RInv c) (i : Int) (x : List Nat) (h : c.no i x ≠ 0) : Con Tryd.prog 17 [.p 3 0, .i .i64 i, .s x] (rob c s) (.i .i64 (c.no i x)) [.keep, .keep, .keep, .keep, .keep, .keep] := by
  unfold rob
  cases hd : c.dead with
  | true =>
    have e : c.no i x = 13 := by unfold CS.no; rw [hd]
    rw [e]
    exact con_of_run [] [] ((rputD_vc s c.n c.q c.d c.sec i x _).mpr ⟨trivial, _, _, rfl, ret_k (by kernel_rfl)⟩)
  | false =>
    by_cases h0 : i < 0
    · have d := dt h0
      have n := bnf d
      have e : c.no i x = 2 := by unfold CS.no; rw [hd, decide_eq_false (by omega : ¬ (0 ≤ i ∧ i < Int.ofNat c.n))]
      rw [e]
      exact con_of_run [] [] ((rputR_vc s c.n c.q c.d c.sec i x d _).mpr ⟨trivial, n, n, n, n, n, n, n, d, _, _, rfl, ret_k (by kernel_rfl)⟩)
    have d := df h0
    have n := bnt d
    by_cases h1 : Int.ofNat c.n ≤ i
    · have d2 := dt h1
      have n2 := bnf d2
      have e : c.no i x = 2 := by unfold CS.no; rw [hd, decide_eq_false (by omega : ¬ (0 ≤ i ∧ i < Int.ofNat c.n))]
      rw [e]
      exact con_of_run [] [] ((rputS_vc s c.n c.q c.d c.sec i x d d2 _).mpr ⟨trivial, n, n, n, n, trivial, n, n, n, d, n2, n2, n2, d2, _, _, rfl, ret_k (by kernel_rfl)⟩)
    have d2 := df h1
    have n2 := bnt d2
    have hin : 0 ≤ i ∧ i < Int.ofNat c.n := by omega
    by_cases h2 : (51 : Int) < Int.ofNat x.length
    · have d3 := dt h2
      have e : c.no i x = 2 := by unfold CS.no; rw [hd, decide_eq_true hin, d3]
      rw [e]
      exact con_of_run [] [] ((rputL_vc s c.n c.q c.d c.sec i x d d2 d3 _).mpr ⟨trivial, n, n, n, n, trivial, n, n, n, d, n2, n2, n2, d2, d3, _, _, rfl, ret_k (by kernel_rfl)⟩)
    have d3 := df h2
    obtain ⟨m, rfl⟩ : ∃ m : Nat, i = Int.ofNat m := ⟨i.toNat, by simp; omega⟩
    have hm : m < c.n := by have := hin.2; simpa using this
    by_cases h3 : (1099511627776 : Int) ≤ Int.ofNat (c.q m)
    · have hq := r.q m
      have d4 : decide (Int.ofNat (c.q m) = (1099511627776 : Int)) = true := dt (by simp at h3 ⊢; omega)
      have e : c.no (Int.ofNat m) x = 15 := by
        unfold CS.no; rw [hd, decide_eq_true hin, d3, show decide ((1099511627776 : Int) ≤ Int.ofNat (c.q (Int.ofNat m).toNat)) = true from dt h3]
      rw [e]
      exact con_of_run [] [] ((rputW_vc s c.n c.q c.d c.sec m x d d2 d3 d4 _).mpr ⟨trivial, trivial, n2, n2, n2, d2, d3, trivial, ⟨hin.1, hin.2⟩, trivial, hm, d4, _, _, rfl, ret_k (by kernel_rfl)⟩)
    · exfalso
      apply h
      unfold CS.no; rw [hd, decide_eq_true hin, d3, show decide ((1099511627776 : Int) ≤ Int.ofNat (c.q (Int.ofNat m).toNat)) = false from df h3]
theorem paid (s : SS) (a : Nat) (bs : Nat → Int) : ((s.wrote a bs).payE = 13 ∨ (s.wrote a bs).payE = 0 ∧ (s.wrote a bs).pay.off = s.off) := by
  unfold SS.payE SS.pay
  cases h : (s.wrote a bs).armed with
  | false => exact .inr ⟨rfl, rfl⟩
  | true =>
    cases h2 : Nat.beq (s.wrote a bs).left 0 with
    | true => exact .inl rfl
    | false => exact .inr ⟨rfl, rfl⟩
theorem rsR_pay (s : SS) (a : Nat) (bs : Nat → Int) : rsR (s.wrote a bs).pay = rsR s := by
  rcases pay_or (s.wrote a bs) with e | e | e <;> rw [e] <;> rfl
theorem pen_w {s : SS} {m : Nat} (ok : OkM s m) {a : Nat} (ha : a < s.n) (bs : Nat → Int) : ∀ w ∈ (s.wrote a bs).pay.P, w.1 < s.n := by
  have e : (s.wrote a bs).pay.P = (a, bs) :: s.P := by rcases pay_or (s.wrote a bs) with e | e | e <;> rw [e] <;> rfl
  intro w hw
  rw [e] at hw
  rcases List.mem_cons.1 hw with rfl | hw
  · exact ha
  · exact ok.at_ w hw
theorem val_upd (c : CS) (i p : Nat) (x : List Nat) : OV (some (.rows 45 2 c.n (setRow (valF c.q c.d) i 0 [CV.i .i64 (Int.ofNat (c.q i) + 1), CV.s x]))) (some (rcV c.n (c.upd i (c.q i + 1) x p).q (c.upd i (c.q i + 1) x p).d)) :=
  .rowsW fun k j hk hj => by
    have hj : j = 0 ∨ j = 1 := by omega
    rcases hj with rfl | rfl
    · refine (zipCV_CW (Nat.beq k i) (CV.i .i64 (Int.ofNat (c.q i) + 1)) (valF c.q c.d k 0)).trans (.of ?_)
      show (bif Nat.beq k i then CV.i .i64 (Int.ofNat (c.q i) + 1) else CV.i .i64 (Int.ofNat (c.q k))) = CV.i .i64 (Int.ofNat (bif Nat.beq k i then c.q i + 1 else c.q k))
      cases Nat.beq k i <;> rfl
    · refine (zipCV_CW (Nat.beq k i) (CV.s x) (valF c.q c.d k 1)).trans (.of ?_)
      show (bif Nat.beq k i then CV.s x else CV.s (c.d k)) = CV.s (bif Nat.beq k i then x else c.d k)
      cases Nat.beq k i <;> rfl
theorem sec_upd (c : CS) (i p : Nat) (x : List Nat) (e : Bool) (he : e = Nat.beq p 0) : OV (some (.rows 4 1 c.n (setRow (secF c.sec) i 0 [CV.b e]))) (some (rcB c.n (c.upd i (c.q i + 1) x p).sec)) :=
  .rowsW fun k j hk hj => by
    have : j = 0 := by omega
    subst this
    refine (zipCV_CW (Nat.beq k i) (CV.b e) (secF c.sec k 0)).trans (.of ?_)
    show (bif Nat.beq k i then CV.b e else CV.b (Nat.ble 1 (c.q k) && Nat.beq (c.sp k) 0)) = CV.b (Nat.ble 1 (bif Nat.beq k i then c.q i + 1 else c.q k) && Nat.beq (bif Nat.beq k i then p else c.sp k) 0)
    cases Nat.beq k i with
    | false => rfl
    | true => rw [he]; show CV.b _ = CV.b (Nat.ble 1 (c.q i + 1) && Nat.beq p 0); rw [show Nat.ble 1 (c.q i + 1) = true by rw [Nat.ble_eq]; omega]; rfl
theorem sec_or {c : CS} (r : RInv c) (hp : ∀ k, c.sp k ≤ 1) (i : Nat) : (1 ≤ c.q i ∧ c.sp i = 1 ∧ c.sec i = false) ∨ (1 ≤ c.q i ∧ c.sp i = 0 ∧ c.sec i = true) ∨ (c.q i = 0 ∧ c.sp i = 0) := by
  have := hp i
  by_cases hq : c.q i = 0
  · exact .inr (.inr ⟨hq, r.z i hq⟩)
  · have hq1 : Nat.ble 1 (c.q i) = true := by rw [Nat.ble_eq]; omega
    by_cases h1 : c.sp i = 1
    · exact .inl ⟨by omega, h1, by unfold CS.sec; rw [hq1, h1]; rfl⟩
    · have h0 : c.sp i = 0 := by omega
      exact .inr (.inl ⟨by omega, h0, by unfold CS.sec; rw [hq1, h0]; rfl⟩)
theorem put_yes {c : CS} {s : SS} {m : Nat} (hI : Inv c s m) {i : Nat} {x : List Nat} (h : c.no (Int.ofNat i) x = 0) (ho : s.off = false) :
    let a := i * 2 + c.sp i
    let bs := fun k => Int.ofNat (sectB (c.q i + 1) x k)
    a < s.n ∧ (((s.wrote a bs).payE = 13 ∧ c.putE s (Int.ofNat i) x = 13 ∧ c.putC s (Int.ofNat i) x = { c with dead := true } ∧ c.putS s (Int.ofNat i) x = (s.wrote a bs).pay) ∨
      ((s.wrote a bs).payE = 0 ∧ (s.wrote a bs).pay.faultE = 0 ∧ c.putE s (Int.ofNat i) x = 0 ∧ c.putC s (Int.ofNat i) x = c.upd i (c.q i + 1) x (1 - c.sp i) ∧ c.putS s (Int.ofNat i) x = (s.wrote a bs).pay.bar)) := by
  intro a bs
  obtain ⟨hd, hin, hl, hq⟩ := no_in h
  obtain ⟨ea, hlt⟩ := hI.at_ hin
  have et : (Int.ofNat i).toNat = i := rfl
  rw [et] at ea hlt hq
  have d : decide (c.no (Int.ofNat i) x = 0) = true := by rw [h]; rfl
  have en : c.nx (Int.ofNat i) = Int.ofNat (c.q i + 1) := rfl
  have eW : wrote s (c.at_ (Int.ofNat i)) (c.nx (Int.ofNat i)) x = (s.wrote a bs).pay := by unfold wrote; rw [ea]; exact wrS_on ho hlt _
  have eE : s.wrE (c.at_ (Int.ofNat i)) 64 = (s.wrote a bs).payE := by
    have hd : decide (0 ≤ Int.ofNat a ∧ Int.ofNat a < Int.ofNat s.n ∧ 64 = 64) = true := by simp; exact hlt
    rw [ea]
    unfold SS.wrE; rw [ho]
    show (match decide (0 ≤ Int.ofNat a ∧ Int.ofNat a < Int.ofNat s.n ∧ 64 = 64) with | true => _ | false => _) = _
    rw [hd]; rfl
  refine ⟨hlt, ?_⟩
  rcases paid s a bs with h1 | ⟨h1, h2⟩
  · left
    have dE : decide (s.wrE (c.at_ (Int.ofNat i)) 64 = 0) = false := by rw [eE, h1]; rfl
    have cE : cmE s (c.at_ (Int.ofNat i)) (c.nx (Int.ofNat i)) x = 13 := by unfold cmE; rw [dE]; show s.wrE _ 64 = 13; rw [eE, h1]
    have cS : cmS s (c.at_ (Int.ofNat i)) (c.nx (Int.ofNat i)) x = (s.wrote a bs).pay := by unfold cmS; rw [dE]; exact eW
    have dC : decide (cmE s (c.at_ (Int.ofNat i)) (c.nx (Int.ofNat i)) x = 0) = false := by rw [cE]; rfl
    exact ⟨h1, by unfold CS.putE; rw [d]; simp only; rw [dC], by unfold CS.putC; rw [d]; simp only; rw [dC], by unfold CS.putS; rw [d]; exact cS⟩
  · right
    have hf : (s.wrote a bs).pay.faultE = 0 := by unfold SS.faultE; rw [h2, ho]; rfl
    have dE : decide (s.wrE (c.at_ (Int.ofNat i)) 64 = 0) = true := by rw [eE, h1]; rfl
    have cE : cmE s (c.at_ (Int.ofNat i)) (c.nx (Int.ofNat i)) x = 0 := by unfold cmE; rw [dE]; simp only; rw [eW, hf]
    have cS : cmS s (c.at_ (Int.ofNat i)) (c.nx (Int.ofNat i)) x = (s.wrote a bs).pay.bar := by unfold cmS; rw [dE]; simp only; rw [eW]
    have dC : decide (cmE s (c.at_ (Int.ofNat i)) (c.nx (Int.ofNat i)) x = 0) = true := by rw [cE]; rfl
    exact ⟨h1, hf, by unfold CS.putE; rw [d]; simp only; rw [dC], by unfold CS.putC; rw [d]; simp only; rw [dC]; rfl, by unfold CS.putS; rw [d]; exact cS⟩
theorem rputA_con {c : CS} {s : SS} {m : Nat} (hI : Inv c s m) (hm : m < 1073741823) (r : RInv c) (i : Int) (x : List Nat) (hx : ∀ b ∈ x, b < 256) (h : c.no i x = 0) (ho : s.off = false) :
    Con Tryd.prog 17 [.p 3 0, .i .i64 i, .s x] (rob c s) (.i .i64 (c.putE s i x)) [.set (rsA 6 (c.putS s i x)), .set (rsR (c.putS s i x)), .gone, .set (rcO 0 4 5 c.n (c.putC s i x).dead), .set (rcV c.n (c.putC s i x).q (c.putC s i x).d), .set (rcB c.n (c.putC s i x).sec), .set (rsP (c.putS s i x))] := by
  obtain ⟨hd, hin, hl, hq⟩ := no_in h
  obtain ⟨k, rfl⟩ : ∃ m : Nat, i = Int.ofNat m := ⟨i.toNat, by simp; omega⟩
  have hk : k < c.n := by have := hin.2; simpa using this
  obtain ⟨hlt, hor⟩ := put_yes hI h ho
  have d1 : decide (Int.ofNat k < 0) = false := df (by simp)
  have d2 : decide (Int.ofNat c.n ≤ Int.ofNat k) = false := df (by simp; omega)
  have n2 := bnt d2
  have d3 : decide ((51 : Int) < Int.ofNat (List.length x)) = false := df (by simp; omega)
  have hq : c.q k < 1099511627776 := hq
  have d4 : decide (Int.ofNat (c.q k) = (1099511627776 : Int)) = false := df (by simp; omega)
  have hr : (0 : Int) ≤ Int.ofNat k ∧ Int.ofNat k < (↑c.n : Int) := ⟨hin.1, hin.2⟩
  have hc := hI.hc
  have rq : (-9223372036854775808 : Int) ≤ Int.ofNat (c.q k) + (1 : Int) ∧ Int.ofNat (c.q k) + (1 : Int) ≤ (9223372036854775807 : Int) := ⟨by simp <;> omega, by simp <;> omega⟩
  have r2 : (-9223372036854775808 : Int) ≤ (2 : Int) * Int.ofNat k ∧ (2 : Int) * Int.ofNat k ≤ (9223372036854775807 : Int) := ⟨by simp <;> omega, by simp <;> omega⟩
  have r3 : (-9223372036854775808 : Int) ≤ (2 : Int) * Int.ofNat k + (1 : Int) ∧ (2 : Int) * Int.ofNat k + (1 : Int) ≤ (9223372036854775807 : Int) := ⟨by simp <;> omega, by simp <;> omega⟩
  have lay : Con Tryd.prog 39 [AV.agg [AV.i .i64 (Int.ofNat (c.q k) + (1 : Int)), AV.s x]] [] (AV.sv 1 64 (byF (sectB (c.q k + 1) x))) [] := by
    have h := rlay_con (c.q k + 1) x (by omega) hl hx
    rw [sel_sect] at h
    exact h
  have okm : OkM s m := hI.ok
  have ok : s.Ok := okm.ok (by omega)
  have hP : s.P.length ≤ 1073741824 := by have := okm.P; omega
  have hP1 : (s.wrote (k * 2 + c.sp k) (fun j => Int.ofNat (sectB (c.q k + 1) x j))).pay.P.length ≤ 1073741824 := by
    have e : (s.wrote (k * 2 + c.sp k) (fun j => Int.ofNat (sectB (c.q k + 1) x j))).pay.P = (k * 2 + c.sp k, fun j => Int.ofNat (sectB (c.q k + 1) x j)) :: s.P := by rcases pay_or (s.wrote (k * 2 + c.sp k) (fun j => Int.ofNat (sectB (c.q k + 1) x j))) with e | e | e <;> rw [e] <;> rfl
    rw [e]
    have := okm.P
    simp; omega
  have hn1 : (s.wrote (k * 2 + c.sp k) (fun j => Int.ofNat (sectB (c.q k + 1) x j))).pay.n = s.n := by rcases pay_or (s.wrote (k * 2 + c.sp k) (fun j => Int.ofNat (sectB (c.q k + 1) x j))) with e | e | e <;> rw [e] <;> rfl
  have wr := rwriteOk_con s (k * 2 + c.sp k) (fun j => Int.ofNat (sectB (c.q k + 1) x j)) ok hP ho hlt
  have ba := rbar2_con (s.wrote (k * 2 + c.sp k) (fun j => Int.ofNat (sectB (c.q k + 1) x j))).pay hP1 (by rw [hn1]; exact pen_w okm hlt _)
  rw [rsR_pay] at ba
  have eR := rsR_pay s (k * 2 + c.sp k) (fun j => Int.ofNat (sectB (c.q k + 1) x j))
  generalize hW : (s.wrote (k * 2 + c.sp k) (fun j => Int.ofNat (sectB (c.q k + 1) x j))).pay = W at *
  unfold rob
  rw [hd]
  rcases hor with ⟨e1, e2, e3, e4⟩ | ⟨e1, e0, e2, e3, e4⟩
  · rw [e2, e3, e4]
    rw [e1] at wr
    show Con Tryd.prog 17 _ _ _ [.set (rsA 6 W), .set (rsR W), .gone, .set (rcO 0 4 5 c.n true), .set (rcV c.n c.q c.d), .set (rcB c.n c.sec), .set (rsP W)]
    rw [eR]
    rcases sec_or r hI.sp k with ⟨q1, q2, q3⟩ | ⟨q1, q2, q3⟩ | ⟨q1, q2⟩
    · have d5 : decide ((0 : Int) < Int.ofNat (c.q k)) = true := dt (by simp; omega)
      have d6 := bnt q3
      have wr : Con Tryd.prog 38 [AV.p 0 0, AV.i .i64 ((2 : Int) * Int.ofNat k + (1 : Int)), AV.sv 1 64 (byF (sectB (c.q k + 1) x))] [some (rsA 2 s), some (rsR s), some (rsP s)] (AV.i .i64 (13 : Int)) [Upd.set (rsA 3 W), Upd.keep, Upd.gone, Upd.set (rsP W)] := by
        rw [show (2 : Int) * Int.ofNat k + 1 = Int.ofNat (k * 2 + c.sp k) by rw [q2]; simp; omega]; exact wr
      refine con_of_run [] [7] ((rputAF_vc s c.n k c.q c.d c.sec (sectB (c.q k + 1) x) W x d1 d2 d3 d4 d5 d6 _).mpr ?_)
      repeat' (first | exact trivial | assumption | apply And.intro)
      exact ⟨_, _, rfl, ret_k (by kernel_rfl)⟩
    · have d5 : decide ((0 : Int) < Int.ofNat (c.q k)) = true := dt (by simp; omega)
      have d6 := bnf q3
      have wr : Con Tryd.prog 38 [AV.p 0 0, AV.i .i64 ((2 : Int) * Int.ofNat k), AV.sv 1 64 (byF (sectB (c.q k + 1) x))] [some (rsA 2 s), some (rsR s), some (rsP s)] (AV.i .i64 (13 : Int)) [Upd.set (rsA 3 W), Upd.keep, Upd.gone, Upd.set (rsP W)] := by
        rw [show (2 : Int) * Int.ofNat k = Int.ofNat (k * 2 + c.sp k) by rw [q2]; simp; omega]; exact wr
      refine con_of_run [] [7] ((rputBF_vc s c.n k c.q c.d c.sec (sectB (c.q k + 1) x) W x d1 d2 d3 d4 d5 d6 _).mpr ?_)
      repeat' (first | exact trivial | assumption | apply And.intro)
      exact ⟨_, _, rfl, ret_k (by kernel_rfl)⟩
    · have d5 : decide ((0 : Int) < Int.ofNat (c.q k)) = false := df (by rw [q1]; simp)
      have wr : Con Tryd.prog 38 [AV.p 0 0, AV.i .i64 ((2 : Int) * Int.ofNat k), AV.sv 1 64 (byF (sectB (c.q k + 1) x))] [some (rsA 2 s), some (rsR s), some (rsP s)] (AV.i .i64 (13 : Int)) [Upd.set (rsA 3 W), Upd.keep, Upd.gone, Upd.set (rsP W)] := by
        rw [show (2 : Int) * Int.ofNat k = Int.ofNat (k * 2 + c.sp k) by rw [q2]; simp; omega]; exact wr
      refine con_of_run [] [7] ((rputCF_vc s c.n k c.q c.d c.sec (sectB (c.q k + 1) x) W x d1 d2 d3 d4 d5 _).mpr ?_)
      repeat' (first | exact trivial | assumption | apply And.intro)
      exact ⟨_, _, rfl, ret_k (by kernel_rfl)⟩
  · rw [e2, e3, e4]
    rw [e1] at wr
    rw [e0] at ba
    show Con Tryd.prog 17 _ _ _ [.set (rsA 6 W.bar), .set (rsR W.bar), .gone, .set (rcO 0 4 5 c.n c.dead), .set (rcV c.n (c.upd k (c.q k + 1) x (1 - c.sp k)).q (c.upd k (c.q k + 1) x (1 - c.sp k)).d), .set (rcB c.n (c.upd k (c.q k + 1) x (1 - c.sp k)).sec), .set (rsP W.bar)]
    rw [hd]
    rcases sec_or r hI.sp k with ⟨q1, q2, q3⟩ | ⟨q1, q2, q3⟩ | ⟨q1, q2⟩
    · have d5 : decide ((0 : Int) < Int.ofNat (c.q k)) = true := dt (by simp; omega)
      have d6 := bnt q3
      have wr : Con Tryd.prog 38 [AV.p 0 0, AV.i .i64 ((2 : Int) * Int.ofNat k + (1 : Int)), AV.sv 1 64 (byF (sectB (c.q k + 1) x))] [some (rsA 2 s), some (rsR s), some (rsP s)] (AV.i .i64 (0 : Int)) [Upd.set (rsA 3 W), Upd.keep, Upd.gone, Upd.set (rsP W)] := by
        rw [show (2 : Int) * Int.ofNat k + 1 = Int.ofNat (k * 2 + c.sp k) by rw [q2]; simp; omega]; exact wr
      refine (con_of_run (us := [.set (rsA 6 W.bar), .set (rsR W.bar), .gone, .set (rcO 0 4 5 c.n false), .set (.rows 45 2 c.n (setRow (valF c.q c.d) k 0 [CV.i .i64 (Int.ofNat (c.q k) + 1), CV.s x])), .set (.rows 4 1 c.n (setRow (secF c.sec) k 0 [CV.b (!c.sec k)])), .set (rsP W.bar)]) [] [7] ((rputAG_vc s c.n k c.q c.d c.sec (sectB (c.q k + 1) x) W W.bar x d1 d2 d3 d4 d5 d6 _).mpr ?_)).post (.refl _) ⟨.refl _, .refl _, .refl _, .refl _, val_upd c k _ x, sec_upd c k _ x _ (by rw [q2, q3]; rfl), .refl _, trivial⟩
      repeat' (first | exact trivial | assumption | apply And.intro)
      exact ⟨_, _, rfl, ret_k (by kernel_rfl)⟩
    · have d5 : decide ((0 : Int) < Int.ofNat (c.q k)) = true := dt (by simp; omega)
      have d6 := bnf q3
      have wr : Con Tryd.prog 38 [AV.p 0 0, AV.i .i64 ((2 : Int) * Int.ofNat k), AV.sv 1 64 (byF (sectB (c.q k + 1) x))] [some (rsA 2 s), some (rsR s), some (rsP s)] (AV.i .i64 (0 : Int)) [Upd.set (rsA 3 W), Upd.keep, Upd.gone, Upd.set (rsP W)] := by
        rw [show (2 : Int) * Int.ofNat k = Int.ofNat (k * 2 + c.sp k) by rw [q2]; simp; omega]; exact wr
      refine (con_of_run (us := [.set (rsA 6 W.bar), .set (rsR W.bar), .gone, .set (rcO 0 4 5 c.n false), .set (.rows 45 2 c.n (setRow (valF c.q c.d) k 0 [CV.i .i64 (Int.ofNat (c.q k) + 1), CV.s x])), .set (.rows 4 1 c.n (setRow (secF c.sec) k 0 [CV.b (!c.sec k)])), .set (rsP W.bar)]) [] [7] ((rputBG_vc s c.n k c.q c.d c.sec (sectB (c.q k + 1) x) W W.bar x d1 d2 d3 d4 d5 d6 _).mpr ?_)).post (.refl _) ⟨.refl _, .refl _, .refl _, .refl _, val_upd c k _ x, sec_upd c k _ x _ (by rw [q2, q3]; rfl), .refl _, trivial⟩
      repeat' (first | exact trivial | assumption | apply And.intro)
      exact ⟨_, _, rfl, ret_k (by kernel_rfl)⟩
    · have d5 : decide ((0 : Int) < Int.ofNat (c.q k)) = false := df (by rw [q1]; simp)
      have wr : Con Tryd.prog 38 [AV.p 0 0, AV.i .i64 ((2 : Int) * Int.ofNat k), AV.sv 1 64 (byF (sectB (c.q k + 1) x))] [some (rsA 2 s), some (rsR s), some (rsP s)] (AV.i .i64 (0 : Int)) [Upd.set (rsA 3 W), Upd.keep, Upd.gone, Upd.set (rsP W)] := by
        rw [show (2 : Int) * Int.ofNat k = Int.ofNat (k * 2 + c.sp k) by rw [q2]; simp; omega]; exact wr
      refine (con_of_run (us := [.set (rsA 6 W.bar), .set (rsR W.bar), .gone, .set (rcO 0 4 5 c.n false), .set (.rows 45 2 c.n (setRow (valF c.q c.d) k 0 [CV.i .i64 (Int.ofNat (c.q k) + 1), CV.s x])), .set (.rows 4 1 c.n (setRow (secF c.sec) k 0 [CV.b false])), .set (rsP W.bar)]) [] [7] ((rputCG_vc s c.n k c.q c.d c.sec (sectB (c.q k + 1) x) W W.bar x d1 d2 d3 d4 d5 _).mpr ?_)).post (.refl _) ⟨.refl _, .refl _, .refl _, .refl _, val_upd c k _ x, sec_upd c k _ x _ (by rw [q2]; rfl), .refl _, trivial⟩
      repeat' (first | exact trivial | assumption | apply And.intro)
      exact ⟨_, _, rfl, ret_k (by kernel_rfl)⟩
theorem rputB_con {c : CS} {s : SS} {m : Nat} (hI : Inv c s m) (r : RInv c) (i : Int) (x : List Nat) (hx : ∀ b ∈ x, b < 256) (h : ¬ (c.no i x = 0 ∧ s.off = false)) :
    Con Tryd.prog 17 [.p 3 0, .i .i64 i, .s x] (rob c s) (.i .i64 (c.putE s i x)) [.keep, .keep, .keep, .set (rcO 0 4 5 c.n (c.putC s i x).dead), .keep, .keep] ∧ c.putS s i x = s ∧ (c.putC s i x).q = c.q ∧ (c.putC s i x).d = c.d ∧ (c.putC s i x).sp = c.sp := by
  by_cases h0 : c.no i x = 0
  · have ho : s.off = true := by
      cases q : s.off with
      | true => rfl
      | false => exact absurd ⟨h0, q⟩ h
    obtain ⟨hd, hin, hl, hq⟩ := no_in h0
    obtain ⟨k, rfl⟩ : ∃ m : Nat, i = Int.ofNat m := ⟨i.toNat, by simp; omega⟩
    have hk : k < c.n := by have := hin.2; simpa using this
    have d : decide (c.no (Int.ofNat k) x = 0) = true := by rw [h0]; rfl
    have eE : s.wrE (c.at_ (Int.ofNat k)) 64 = 13 := by unfold SS.wrE; rw [ho]
    have dE : decide (s.wrE (c.at_ (Int.ofNat k)) 64 = 0) = false := by rw [eE]; rfl
    have cE : cmE s (c.at_ (Int.ofNat k)) (c.nx (Int.ofNat k)) x = 13 := by unfold cmE; rw [dE]; exact eE
    have cS : cmS s (c.at_ (Int.ofNat k)) (c.nx (Int.ofNat k)) x = s := by unfold cmS; rw [dE]; unfold wrote; exact wrS_off ho _ _
    have dC : decide (cmE s (c.at_ (Int.ofNat k)) (c.nx (Int.ofNat k)) x = 0) = false := by rw [cE]; rfl
    have e2 : c.putE s (Int.ofNat k) x = 13 := by unfold CS.putE; rw [d]; simp only; rw [dC]
    have e3 : c.putC s (Int.ofNat k) x = { c with dead := true } := by unfold CS.putC; rw [d]; simp only; rw [dC]
    have e4 : c.putS s (Int.ofNat k) x = s := by unfold CS.putS; rw [d]; exact cS
    refine ⟨?_, e4, by rw [e3], by rw [e3], by rw [e3]⟩
    rw [e2, e3]
    show Con Tryd.prog 17 _ _ _ [.keep, .keep, .keep, .set (rcO 0 4 5 c.n true), .keep, .keep]
    have d1 : decide (Int.ofNat k < 0) = false := df (by simp)
    have d2 : decide (Int.ofNat c.n ≤ Int.ofNat k) = false := df (by simp; omega)
    have n2 := bnt d2
    have d3 : decide ((51 : Int) < Int.ofNat (List.length x)) = false := df (by simp; omega)
    have hq : c.q k < 1099511627776 := hq
    have d4 : decide (Int.ofNat (c.q k) = (1099511627776 : Int)) = false := df (by simp; omega)
    have hr : (0 : Int) ≤ Int.ofNat k ∧ Int.ofNat k < (↑c.n : Int) := ⟨hin.1, hin.2⟩
    have hc := hI.hc
    have rq : (-9223372036854775808 : Int) ≤ Int.ofNat (c.q k) + (1 : Int) ∧ Int.ofNat (c.q k) + (1 : Int) ≤ (9223372036854775807 : Int) := ⟨by simp <;> omega, by simp <;> omega⟩
    have r2 : (-9223372036854775808 : Int) ≤ (2 : Int) * Int.ofNat k ∧ (2 : Int) * Int.ofNat k ≤ (9223372036854775807 : Int) := ⟨by simp <;> omega, by simp <;> omega⟩
    have r3 : (-9223372036854775808 : Int) ≤ (2 : Int) * Int.ofNat k + (1 : Int) ∧ (2 : Int) * Int.ofNat k + (1 : Int) ≤ (9223372036854775807 : Int) := ⟨by simp <;> omega, by simp <;> omega⟩
    have lay : Con Tryd.prog 39 [AV.agg [AV.i .i64 (Int.ofNat (c.q k) + (1 : Int)), AV.s x]] [] (AV.sv 1 64 (byF (sectB (c.q k + 1) x))) [] := by
      have h := rlay_con (c.q k + 1) x (by omega) hl hx
      rw [sel_sect] at h
      exact h
    have wr0 : ∀ a : Int, Con Tryd.prog 38 [AV.p 0 0, AV.i .i64 a, AV.sv 1 64 (byF (sectB (c.q k + 1) x))] [some (rsA 2 s), some (rsR s), some (rsP s)] (AV.i .i64 (13 : Int)) [Upd.keep, Upd.keep, Upd.keep] := fun a => by
      have h := rwriteNo_con s a 64 (fun j => Int.ofNat (sectB (c.q k + 1) x j)) (.inl ho)
      rw [show s.wrE a 64 = 13 by unfold SS.wrE; rw [ho]] at h
      exact h
    have wr := wr0 ((2 : Int) * Int.ofNat k)
    have wr' := wr0 ((2 : Int) * Int.ofNat k + 1)
    unfold rob
    rw [hd]
    rcases sec_or r hI.sp k with ⟨q1, q2, q3⟩ | ⟨q1, q2, q3⟩ | ⟨q1, q2⟩
    · have d5 : decide ((0 : Int) < Int.ofNat (c.q k)) = true := dt (by simp; omega)
      have d6 := bnt q3
      refine con_of_run [] [] ((rputAO_vc s c.n k c.q c.d c.sec (sectB (c.q k + 1) x) x d1 d2 d3 d4 d5 d6 _).mpr ?_)
      repeat' (first | exact trivial | assumption | apply And.intro)
      exact ⟨_, _, rfl, ret_k (by kernel_rfl)⟩
    · have d5 : decide ((0 : Int) < Int.ofNat (c.q k)) = true := dt (by simp; omega)
      have d6 := bnf q3
      refine con_of_run [] [] ((rputBO_vc s c.n k c.q c.d c.sec (sectB (c.q k + 1) x) x d1 d2 d3 d4 d5 d6 _).mpr ?_)
      repeat' (first | exact trivial | assumption | apply And.intro)
      exact ⟨_, _, rfl, ret_k (by kernel_rfl)⟩
    · have d5 : decide ((0 : Int) < Int.ofNat (c.q k)) = false := df (by rw [q1]; simp)
      refine con_of_run [] [] ((rputCO_vc s c.n k c.q c.d c.sec (sectB (c.q k + 1) x) x d1 d2 d3 d4 d5 _).mpr ?_)
      repeat' (first | exact trivial | assumption | apply And.intro)
      exact ⟨_, _, rfl, ret_k (by kernel_rfl)⟩
  · have d : decide (c.no i x = 0) = false := df h0
    have e2 : c.putE s i x = c.no i x := by unfold CS.putE; rw [d]
    have e3 : c.putC s i x = c := by unfold CS.putC; rw [d]
    have e4 : c.putS s i x = s := by unfold CS.putS; rw [d]
    refine ⟨?_, e4, by rw [e3], by rw [e3], by rw [e3]⟩
    rw [e2, e3]
    exact (rputN_con s r i x h0).post (.refl _) (OVL.refl _)
end Go.Proofs.Cl
namespace Go.Proofs.Cl
open Go Go.Sim Go.Proofs Go.Proofs.St
noncomputable def rsK (s : SS) : AObj := .cells 51 5 [] (setAll .e 0 [.lr 2 1 0 s.n false, .lr 3 2 0 s.P.length false, .i .i64 (Int.ofNat s.wr), .i .i64 s.am, .b s.off])
noncomputable def rcK (n : Nat) (dead : Bool) : AObj := .cells 80 4 [] (setAll .e 0 [.p 1 0, .lr 6 2 0 n false, .lr 7 1 0 n false, .b dead])
end Go.Proofs.Cl
namespace Go.Proofs.Cl
open Go Go.Sim Go.Proofs Go.Proofs.Cd Go.Proofs.St Go.Proofs.YtiihmkiiojlcaaaDoor
theorem pl1_vc (s : SS) (c : CS) (s2 : SS) (gq : Nat) (gd : List Nat) (L k : Nat) (KK II : Nat → Int) (XX : Nat → List Nat) (TT : Nat → Bool) (hl : decide (Int.ofNat k < Int.ofNat
  L) = true) (h3 : decide ((300 : Int) < Int.ofNat k) = false) (hg : (!!(decide (Int.ofNat gq = Int.ofNat gq) && (natsEq gd gd && true))) = true) (k1 : decide (KK k = (1 : Int)) =
  true) (K : Res → Orc → Prop) : runK Tryd.prog 1000000 (.code (loopAt Tryd.prog 3 0) 181 (mkT [(0, .i .i64 (Int.ofNat c.n)), (5, .p 0 0), (7, .p 1 0), (9, .p 4 0), (11, .p 5 0),
  (54, .sv 4 L (opF KK II XX TT)), (55, .i .i64 (Int.ofNat L)), (56, .i .i64 (Int.ofNat k))]) (mkH [some s.o, some (rsK s), some (rsR s), some (rsP s), some c.oa, some (rcK c.n
  c.dead), some (rcV c.n c.q c.d), some (rcB c.n c.sec)])) (Orc.t (Orc.f (Orc.t (Orc.cal [0] (AV.tup []) [Upd.set (SS.o s2)] (Orc.cal [1, 2, 3] (AV.tup []) [Upd.set (rsA 2 s2),
  Upd.set (rsR s2), Upd.set (rsP s2)] (Orc.cal [4, 0] (AV.agg [AV.i .i64 (Int.ofNat gq), AV.s gd]) [Upd.keep, Upd.keep] (Orc.cal [1, 2, 3, 5, 6, 7] (AV.agg [AV.i .i64 (Int.ofNat
  gq), AV.s gd]) [Upd.keep, Upd.keep, Upd.keep, Upd.keep, Upd.keep, Upd.keep] (Orc.t (Orc.t (Orc.cal [0] (AV.i .i64 (Int.ofNat (SS.wr s2))) [Upd.keep] (Orc.t (Orc.t (Orc.t (Orc.t
  (Orc.t (Orc.f (Orc.t (Orc.t (Orc.cal [4, 0] (AV.i .i64 (Int.ofNat (CS.n c))) [Upd.keep, Upd.keep] (Orc.t (Orc.t (Orc.f (Orc.f Orc.z))))))))))))))))))))))) K = (decide (Int.ofNat k
  < Int.ofNat L) = true ∧ ((0 : Int) ≤ Int.ofNat k ∧ Int.ofNat k < ↑L) ∧ True ∧ decide ((300 : Int) < Int.ofNat k) = false ∧ True ∧ decide (KK k = (1 : Int)) = true ∧ True ∧ Con
  Tryd.prog 10 [AV.p 0 0, AV.i .i64 (II k)] [some (SS.o s)] (AV.tup []) [Upd.set (SS.o s2)] ∧ True ∧ Con Tryd.prog 11 [AV.p 0 0, AV.i .i64 (II k)] [some (rsA 2 s), some (rsR s),
  some (rsP s)] (AV.tup []) [Upd.set (rsA 2 s2), Upd.set (rsR s2), Upd.set (rsP s2)] ∧ True ∧ Con Tryd.prog 18 [AV.p 0 0, AV.i .i64 (II k)] [some (CS.o c), some (SS.o s2)] (AV.agg
  [AV.i .i64 (Int.ofNat gq), AV.s gd]) [Upd.keep, Upd.keep] ∧ True ∧ Con Tryd.prog 19 [AV.p 3 0, AV.i .i64 (II k)] [some (rsA 2 s2), some (rsR s2), some (rsP s2), some (rcO 0 4 5
  (CS.n c) (CS.dead c)), some (rcV (CS.n c) (CS.q c) (CS.d c)), some (rcB (CS.n c) (CS.sec c))] (AV.agg [AV.i .i64 (Int.ofNat gq), AV.s gd]) [Upd.keep, Upd.keep, Upd.keep, Upd.keep,
  Upd.keep, Upd.keep] ∧ True ∧ (!!(decide (Int.ofNat gq = Int.ofNat gq) && (natsEq gd gd && true))) = true ∧ (!!(decide (Int.ofNat gq = Int.ofNat gq) && (natsEq gd gd && true))) =
  true ∧ Con Tryd.prog 20 [AV.p 0 0] [some (SS.o s2)] (AV.i .i64 (Int.ofNat (SS.wr s2))) [Upd.keep] ∧ (!!(decide (Int.ofNat gq = Int.ofNat gq) && (natsEq gd gd && true))) = true ∧
  (!!(decide (Int.ofNat gq = Int.ofNat gq) && (natsEq gd gd && true))) = true ∧ (!!(decide (Int.ofNat gq = Int.ofNat gq) && (natsEq gd gd && true))) = true ∧ True ∧ (!!(decide
  (Int.ofNat gq = Int.ofNat gq) && (natsEq gd gd && true))) = true ∧ (!!(decide (Int.ofNat gq = Int.ofNat gq) && (natsEq gd gd && true))) = true ∧ (!(decide (Int.ofNat gq =
  Int.ofNat gq) && (natsEq gd gd && true))) = false ∧ (!!decide (Int.ofNat (SS.wr s2) = Int.ofNat (SS.wr s2))) = true ∧ (!!decide (Int.ofNat (SS.wr s2) = Int.ofNat (SS.wr s2))) =
  true ∧ Con Tryd.prog 21 [AV.p 0 0] [some (CS.o c), some (SS.o s2)] (AV.i .i64 (Int.ofNat (CS.n c))) [Upd.keep, Upd.keep] ∧ (!!decide (Int.ofNat (SS.wr s2) = Int.ofNat (SS.wr s2)))
  = true ∧ (!!decide (Int.ofNat (SS.wr s2) = Int.ofNat (SS.wr s2))) = true ∧ (!decide (Int.ofNat (SS.wr s2) = Int.ofNat (SS.wr s2))) = false ∧ (!decide (Int.ofNat (CS.n c) =
  Int.ofNat (CS.n c))) = false ∧ ((-9223372036854775808 : Int) ≤ Int.ofNat k + (1 : Int) ∧ Int.ofNat k + (1 : Int) ≤ (9223372036854775807 : Int)) ∧ K (Res.st XO.nrm (z1 (AV.i .i64
  (Int.ofNat (CS.n c))) (z0 (z0 (z1 (AV.p 1 0) (z0 (z0 (zl (AV.p 8 0)) (z0 (zl (AV.b !decide (Int.ofNat (CS.n c) = Int.ofNat (CS.n c)))) T.e)) (z0 (z1 (AV.b (decide (KK k = (1 :
  Int)))) (zl (AV.i .i64 (II k))) T.e) T.e)) (z0 T.e (z1 (AV.i .i64 (Int.ofNat L)) (z1 (AV.tup []) (zl (AV.p 1 2)) T.e) T.e))) (z1 (AV.p 5 0) (z0 T.e (z0 (z1 (AV.tup []) (zl (AV.p 0
  0)) T.e) T.e)) (z0 (z0 (z0 (zl (AV.i .i64 (II k))) T.e) T.e) (z1 (AV.pv 4 (opF KK II XX TT k)) (z0 (zl (AV.b !decide (Int.ofNat (SS.wr s2) = Int.ofNat (SS.wr s2)))) T.e) T.e))))
  (z1 (AV.p 0 0) (z1 (AV.p 4 0) (z0 (z0 T.e (z0 (zl (AV.i .i64 (Int.ofNat k + (1 : Int)))) T.e)) (z0 (z1 (AV.p 8 1) (zl (AV.b !(decide (Int.ofNat gq = Int.ofNat gq) && (natsEq gd gd
  && true)))) T.e) T.e)) (z0 (z0 (z0 (zl (AV.p 4 0)) T.e) T.e) (z1 (AV.b (decide (Int.ofNat k < Int.ofNat L))) (z0 (zl (AV.b !decide (Int.ofNat (SS.wr s2) = Int.ofNat (SS.wr s2))))
  T.e) T.e))) (z1 (AV.i .i64 (Int.ofNat k)) (z0 T.e (z0 (z1 (AV.p 8 1) (zl (AV.p 1 0)) T.e) T.e)) (z0 (z0 (z0 (zl (AV.p 5 0)) T.e) T.e) (z1 (AV.i .i64 (Int.ofNat k)) (z0 (zl (AV.i
  .i64 (Int.ofNat (CS.n c)))) T.e) T.e))))) (z0 (z0 (z0 (z0 (z0 (zl (AV.i .i64 (KK k))) (z0 (zl (AV.b !decide (Int.ofNat (CS.n c) = Int.ofNat (CS.n c)))) T.e)) (z0 (z1 (AV.p 0 0)
  (zl (AV.agg [AV.i .i64 (Int.ofNat gq), AV.s gd])) T.e) T.e)) (z0 T.e (z1 (AV.i .i64 (Int.ofNat k + (1 : Int))) (z0 (zl (AV.i .i64 (Int.ofNat (SS.wr s2)))) T.e) T.e))) (z0 (z0 T.e
  (z0 (z1 (AV.p 1 0) (zl (AV.i .i64 (Int.ofNat (SS.wr s2)))) T.e) T.e)) (z0 (z0 (z0 (zl (AV.agg [AV.i .i64 (Int.ofNat gq), AV.s gd])) T.e) T.e) (z1 (AV.agg [AV.i .i64 (KK k), AV.i
  .i64 (II k), AV.s (XX k), AV.b (TT k)]) (z0 (zl (AV.p 4 0)) T.e) T.e)))) (z0 (z0 (z0 T.e (z0 (z1 (AV.i .i64 (II k)) (zl (AV.b !(decide (Int.ofNat gq = Int.ofNat gq) && (natsEq gd
  gd && true)))) T.e) T.e)) (z0 (z0 (z0 (zl (AV.p 8 1)) T.e) T.e) (z1 (AV.i .i64 (Int.ofNat k)) (z0 (zl (AV.b !decide (Int.ofNat (SS.wr s2) = Int.ofNat (SS.wr s2)))) T.e) T.e))) (z1
  (AV.p 8 0) (z0 T.e (z1 (AV.sv 4 L (opF KK II XX TT)) (z1 (AV.i .i64 (II k)) (zl (AV.p 1 0)) T.e) T.e)) (z0 (z0 (z1 (AV.b (decide (KK k = (1 : Int)))) (zl (AV.p 8 1)) T.e) T.e) (z1
  (AV.b (decide ((300 : Int) < Int.ofNat k))) (z0 (zl (AV.i .i64 (Int.ofNat (CS.n c)))) T.e) T.e)))))) { tree := z1 (AObj.segs 69 33799 [{ st := 0, sz := 1, n := 1, f := oneF (CV.i .i64 (Int.ofNat (SS.n s2))) }, { st := 1, sz := 65, n := 512, f := durF (SS.dur s2) (SS.torn s2) }, { st := 33281, sz := 1, n := 1, f := oneF (CV.opv (pB (SS.P s2)) 66 (pW (SS.P s2))) }, { st := 33282, sz := 1, n := 512, f := latF (lB (SS.P s2)) (lW (SS.P s2)) }, { st := 33794, sz := 5, n := 1, f := tailF (Int.ofNat (List.length (SS.P s2))) (Int.ofNat (SS.wr s2)) (SS.off s2) (SS.armed s2) (Int.ofNat (SS.left s2)) }]) (z1 (AObj.cells 51 5 [] (z1 (AV.lr 2 1 0 (SS.n s2) false) (z1 (AV.lr 3 2 0 (List.length (SS.P s2)) false) (zl (AV.i .i64 (SS.am s2))) T.e) (z1 (AV.i .i64 (Int.ofNat (SS.wr s2))) (zl (AV.b (SS.off s2))) T.e))) (z1 (AObj.rows 91 2 (List.length (SS.P s2)) (penF (oA (SS.P s2)) (oB (SS.P s2)))) (zl (AObj.rows 4 1 (CS.n c) (secF (CS.sec c)))) T.e) (zl (AObj.cells 80 4 [] (z1 (AV.p 1 0) (z1 (AV.lr 6 2 0 (CS.n c) false) (zl (AV.b (CS.dead c))) T.e) (zl (AV.lr 7 1 0 (CS.n c) false)))))) (z1 (AObj.rows 55 1 (SS.n s2) (imgF s2)) (z1 (AObj.segs 74 771 [{ st := 1, sz := 1, n := 1, f := oneF (CV.i .i64 (Int.ofNat (CS.n c))) }, { st := 2, sz := 3, n := 256, f := cellF (CS.q c) (CS.d c) (CS.sp c) }, { st := 770, sz := 1, n := 1, f := oneF (CV.b (CS.dead c)) }] [(0, AV.p 0 0)]) (zl (AObj.cells 38 4 [AV.i .i64 (0 : Int), AV.i .i64 (0 : Int), AV.s [], AV.b false] (z1 (AV.i .i64 (KK k)) (z1 (AV.i .i64 (II k)) (zl (AV.b (TT k))) T.e) (zl (AV.s (XX k)))))) T.e) (zl (AObj.rows 45 2 (CS.n c) (valF (CS.q c) (CS.d c))))), next := 9, log := [3, 2, 1, 0, 8, 8] })
  Orc.z) := by kernel_rfl
theorem pl2_vc (s : SS) (c : CS) (s2 : SS) (gq : Nat) (gd : List Nat) (L k : Nat) (KK II : Nat → Int) (XX : Nat → List Nat) (TT : Nat → Bool) (hl : decide (Int.ofNat k < Int.ofNat
  L) = true) (h3 : decide ((300 : Int) < Int.ofNat k) = false) (hg : (!!(decide (Int.ofNat gq = Int.ofNat gq) && (natsEq gd gd && true))) = true) (k1 : decide (KK k = (1 : Int)) =
  false) (k2 : decide (KK k = (2 : Int)) = true) (K : Res → Orc → Prop) : runK Tryd.prog 1000000 (.code (loopAt Tryd.prog 3 0) 181 (mkT [(0, .i .i64 (Int.ofNat c.n)), (5, .p 0 0),
  (7, .p 1 0), (9, .p 4 0), (11, .p 5 0), (54, .sv 4 L (opF KK II XX TT)), (55, .i .i64 (Int.ofNat L)), (56, .i .i64 (Int.ofNat k))]) (mkH [some s.o, some (rsK s), some (rsR s),
  some (rsP s), some c.oa, some (rcK c.n c.dead), some (rcV c.n c.q c.d), some (rcB c.n c.sec)])) (Orc.t (Orc.f (Orc.f (Orc.t (Orc.cal [0] (AV.tup []) [Upd.set (SS.o s2)] (Orc.cal
  [1, 2, 3] (AV.tup []) [Upd.set (rsA 2 s2), Upd.set (rsR s2), Upd.set (rsP s2)] (Orc.cal [4, 0] (AV.agg [AV.i .i64 (Int.ofNat gq), AV.s gd]) [Upd.keep, Upd.keep] (Orc.cal [1, 2, 3,
  5, 6, 7] (AV.agg [AV.i .i64 (Int.ofNat gq), AV.s gd]) [Upd.keep, Upd.keep, Upd.keep, Upd.keep, Upd.keep, Upd.keep] (Orc.t (Orc.t (Orc.cal [0] (AV.i .i64 (Int.ofNat (SS.wr s2)))
  [Upd.keep] (Orc.t (Orc.t (Orc.t (Orc.t (Orc.t (Orc.f (Orc.t (Orc.t (Orc.cal [4, 0] (AV.i .i64 (Int.ofNat (CS.n c))) [Upd.keep, Upd.keep] (Orc.t (Orc.t (Orc.f (Orc.f
  Orc.z)))))))))))))))))))))))) K = (decide (Int.ofNat k < Int.ofNat L) = true ∧ ((0 : Int) ≤ Int.ofNat k ∧ Int.ofNat k < ↑L) ∧ True ∧ decide ((300 : Int) < Int.ofNat k) = false ∧
  True ∧ decide (KK k = (1 : Int)) = false ∧ decide (KK k = (2 : Int)) = true ∧ Con Tryd.prog 12 [AV.p 0 0] [some (SS.o s)] (AV.tup []) [Upd.set (SS.o s2)] ∧ Con Tryd.prog 13 [AV.p
  0 0] [some (rsA 2 s), some (rsR s), some (rsP s)] (AV.tup []) [Upd.set (rsA 2 s2), Upd.set (rsR s2), Upd.set (rsP s2)] ∧ True ∧ Con Tryd.prog 18 [AV.p 0 0, AV.i .i64 (II k)] [some
  (CS.o c), some (SS.o s2)] (AV.agg [AV.i .i64 (Int.ofNat gq), AV.s gd]) [Upd.keep, Upd.keep] ∧ True ∧ Con Tryd.prog 19 [AV.p 3 0, AV.i .i64 (II k)] [some (rsA 2 s2), some (rsR s2),
  some (rsP s2), some (rcO 0 4 5 (CS.n c) (CS.dead c)), some (rcV (CS.n c) (CS.q c) (CS.d c)), some (rcB (CS.n c) (CS.sec c))] (AV.agg [AV.i .i64 (Int.ofNat gq), AV.s gd])
  [Upd.keep, Upd.keep, Upd.keep, Upd.keep, Upd.keep, Upd.keep] ∧ True ∧ (!!(decide (Int.ofNat gq = Int.ofNat gq) && (natsEq gd gd && true))) = true ∧ (!!(decide (Int.ofNat gq =
  Int.ofNat gq) && (natsEq gd gd && true))) = true ∧ Con Tryd.prog 20 [AV.p 0 0] [some (SS.o s2)] (AV.i .i64 (Int.ofNat (SS.wr s2))) [Upd.keep] ∧ (!!(decide (Int.ofNat gq =
  Int.ofNat gq) && (natsEq gd gd && true))) = true ∧ (!!(decide (Int.ofNat gq = Int.ofNat gq) && (natsEq gd gd && true))) = true ∧ (!!(decide (Int.ofNat gq = Int.ofNat gq) &&
  (natsEq gd gd && true))) = true ∧ True ∧ (!!(decide (Int.ofNat gq = Int.ofNat gq) && (natsEq gd gd && true))) = true ∧ (!!(decide (Int.ofNat gq = Int.ofNat gq) && (natsEq gd gd &&
  true))) = true ∧ (!(decide (Int.ofNat gq = Int.ofNat gq) && (natsEq gd gd && true))) = false ∧ (!!decide (Int.ofNat (SS.wr s2) = Int.ofNat (SS.wr s2))) = true ∧ (!!decide
  (Int.ofNat (SS.wr s2) = Int.ofNat (SS.wr s2))) = true ∧ Con Tryd.prog 21 [AV.p 0 0] [some (CS.o c), some (SS.o s2)] (AV.i .i64 (Int.ofNat (CS.n c))) [Upd.keep, Upd.keep] ∧
  (!!decide (Int.ofNat (SS.wr s2) = Int.ofNat (SS.wr s2))) = true ∧ (!!decide (Int.ofNat (SS.wr s2) = Int.ofNat (SS.wr s2))) = true ∧ (!decide (Int.ofNat (SS.wr s2) = Int.ofNat
  (SS.wr s2))) = false ∧ (!decide (Int.ofNat (CS.n c) = Int.ofNat (CS.n c))) = false ∧ ((-9223372036854775808 : Int) ≤ Int.ofNat k + (1 : Int) ∧ Int.ofNat k + (1 : Int) ≤
  (9223372036854775807 : Int)) ∧ K (Res.st XO.nrm (z1 (AV.i .i64 (Int.ofNat (CS.n c))) (z0 (z0 (z1 (AV.p 1 0) (z0 (z0 (zl (AV.p 8 0)) (z0 (zl (AV.b !decide (Int.ofNat (CS.n c) =
  Int.ofNat (CS.n c)))) T.e)) (z0 (z1 (AV.b (decide (KK k = (1 : Int)))) (zl (AV.i .i64 (II k))) T.e) T.e)) (z0 T.e (z1 (AV.i .i64 (Int.ofNat L)) (z0 (zl (AV.p 1 2)) T.e) T.e))) (z1
  (AV.p 5 0) (z0 T.e (z0 (z0 (zl (AV.p 0 0)) T.e) T.e)) (z0 (z0 (z0 (zl (AV.i .i64 (II k))) T.e) T.e) (z1 (AV.pv 4 (opF KK II XX TT k)) (z1 (AV.tup []) (zl (AV.b !decide (Int.ofNat
  (SS.wr s2) = Int.ofNat (SS.wr s2)))) T.e) T.e)))) (z1 (AV.p 0 0) (z1 (AV.p 4 0) (z0 (z0 T.e (z0 (zl (AV.i .i64 (Int.ofNat k + (1 : Int)))) T.e)) (z0 (z0 (zl (AV.b !(decide
  (Int.ofNat gq = Int.ofNat gq) && (natsEq gd gd && true)))) T.e) T.e)) (z0 (z0 (z0 (zl (AV.p 4 0)) T.e) T.e) (z1 (AV.b (decide (Int.ofNat k < Int.ofNat L))) (z1 (AV.b (decide (KK k
  = (2 : Int)))) (zl (AV.b !decide (Int.ofNat (SS.wr s2) = Int.ofNat (SS.wr s2)))) T.e) T.e))) (z1 (AV.i .i64 (Int.ofNat k)) (z0 T.e (z0 (z0 (zl (AV.p 1 0)) T.e) T.e)) (z0 (z0 (z0
  (zl (AV.p 5 0)) T.e) T.e) (z1 (AV.i .i64 (Int.ofNat k)) (z1 (AV.tup []) (zl (AV.i .i64 (Int.ofNat (CS.n c)))) T.e) T.e))))) (z0 (z0 (z0 (z0 (z0 (zl (AV.i .i64 (KK k))) (z0 (zl
  (AV.b !decide (Int.ofNat (CS.n c) = Int.ofNat (CS.n c)))) T.e)) (z0 (z0 (zl (AV.agg [AV.i .i64 (Int.ofNat gq), AV.s gd])) T.e) T.e)) (z0 T.e (z1 (AV.i .i64 (Int.ofNat k + (1 :
  Int))) (z1 (AV.b (decide (KK k = (2 : Int)))) (zl (AV.i .i64 (Int.ofNat (SS.wr s2)))) T.e) T.e))) (z0 (z0 T.e (z0 (z0 (zl (AV.i .i64 (Int.ofNat (SS.wr s2)))) T.e) T.e)) (z0 (z0
  (z0 (zl (AV.agg [AV.i .i64 (Int.ofNat gq), AV.s gd])) T.e) T.e) (z1 (AV.agg [AV.i .i64 (KK k), AV.i .i64 (II k), AV.s (XX k), AV.b (TT k)]) (z1 (AV.p 1 0) (zl (AV.p 4 0)) T.e)
  T.e)))) (z0 (z0 (z0 T.e (z0 (z0 (zl (AV.b !(decide (Int.ofNat gq = Int.ofNat gq) && (natsEq gd gd && true)))) T.e) T.e)) (z0 (z0 (z0 (zl (AV.p 8 1)) T.e) T.e) (z1 (AV.i .i64
  (Int.ofNat k)) (z1 (AV.p 0 0) (zl (AV.b !decide (Int.ofNat (SS.wr s2) = Int.ofNat (SS.wr s2)))) T.e) T.e))) (z1 (AV.p 8 0) (z0 T.e (z1 (AV.sv 4 L (opF KK II XX TT)) (z0 (zl (AV.p
  1 0)) T.e) T.e)) (z0 (z0 (z1 (AV.b (decide (KK k = (1 : Int)))) (zl (AV.p 8 1)) T.e) T.e) (z1 (AV.b (decide ((300 : Int) < Int.ofNat k))) (z0 (zl (AV.i .i64 (Int.ofNat (CS.n c))))
  T.e) T.e)))))) { tree := z1 (AObj.segs 69 33799 [{ st := 0, sz := 1, n := 1, f := oneF (CV.i .i64 (Int.ofNat (SS.n s2))) }, { st := 1, sz := 65, n := 512, f := durF (SS.dur s2) (SS.torn s2) }, { st := 33281, sz := 1, n := 1, f := oneF (CV.opv (pB (SS.P s2)) 66 (pW (SS.P s2))) }, { st := 33282, sz := 1, n := 512, f := latF (lB (SS.P s2)) (lW (SS.P s2)) }, { st := 33794, sz := 5, n := 1, f := tailF (Int.ofNat (List.length (SS.P s2))) (Int.ofNat (SS.wr s2)) (SS.off s2) (SS.armed s2) (Int.ofNat (SS.left s2)) }]) (z1 (AObj.cells 51 5 [] (z1 (AV.lr 2 1 0 (SS.n s2) false) (z1 (AV.lr 3 2 0 (List.length (SS.P s2)) false) (zl (AV.i .i64 (SS.am s2))) T.e) (z1 (AV.i .i64 (Int.ofNat (SS.wr s2))) (zl (AV.b (SS.off s2))) T.e))) (z1 (AObj.rows 91 2 (List.length (SS.P s2)) (penF (oA (SS.P s2)) (oB (SS.P s2)))) (zl (AObj.rows 4 1 (CS.n c) (secF (CS.sec c)))) T.e) (zl (AObj.cells 80 4 [] (z1 (AV.p 1 0) (z1 (AV.lr 6 2 0 (CS.n c) false) (zl (AV.b (CS.dead c))) T.e) (zl (AV.lr 7 1 0 (CS.n c) false)))))) (z1 (AObj.rows 55 1 (SS.n s2) (imgF s2)) (z1 (AObj.segs 74 771 [{ st := 1, sz := 1, n := 1, f := oneF (CV.i .i64 (Int.ofNat (CS.n c))) }, { st := 2, sz := 3, n := 256, f := cellF (CS.q c) (CS.d c) (CS.sp c) }, { st := 770, sz := 1, n := 1, f := oneF (CV.b (CS.dead c)) }] [(0, AV.p 0 0)]) (zl (AObj.cells 38 4 [AV.i .i64 (0 : Int), AV.i .i64 (0 : Int), AV.s [], AV.b false] (z1 (AV.i .i64 (KK k)) (z1 (AV.i .i64 (II k)) (zl (AV.b (TT k))) T.e) (zl (AV.s (XX k)))))) T.e) (zl (AObj.rows 45 2 (CS.n c) (valF (CS.q c) (CS.d c))))), next := 9, log := [3, 2, 1, 0, 8, 8] })
  Orc.z) := by kernel_rfl
theorem pl3_vc (s : SS) (c : CS) (s1 : SS) (s2 : SS) (c2 : CS) (gq : Nat) (gd : List Nat) (re : Int) (L k : Nat) (KK II : Nat → Int) (XX : Nat → List Nat) (TT : Nat → Bool) (hl :
  decide (Int.ofNat k < Int.ofNat L) = true) (h3 : decide ((300 : Int) < Int.ofNat k) = false) (hg : (!!(decide (Int.ofNat gq = Int.ofNat gq) && (natsEq gd gd && true))) = true) (k1
  : decide (KK k = (1 : Int)) = false) (k2 : decide (KK k = (2 : Int)) = false) (k3 : decide (KK k = (3 : Int)) = true) (K : Res → Orc → Prop) : runK Tryd.prog 1000000 (.code
  (loopAt Tryd.prog 3 0) 181 (mkT [(0, .i .i64 (Int.ofNat c.n)), (5, .p 0 0), (7, .p 1 0), (9, .p 4 0), (11, .p 5 0), (54, .sv 4 L (opF KK II XX TT)), (55, .i .i64 (Int.ofNat L)),
  (56, .i .i64 (Int.ofNat k))]) (mkH [some s.o, some (rsK s), some (rsR s), some (rsP s), some c.oa, some (rcK c.n c.dead), some (rcV c.n c.q c.d), some (rcB c.n c.sec)])) (Orc.t
  (Orc.f (Orc.f (Orc.f (Orc.t (Orc.cal [0] (AV.tup []) [Upd.set (SS.o s1)] (Orc.cal [1, 2, 3] (AV.tup []) [Upd.set (rsA 2 s1), Upd.set (rsR s1), Upd.set (rsP s1)] (Orc.cal [0] (AV.i
  .i64 re) [Upd.set (SS.o s2)] (Orc.cal [1, 2, 3] (AV.i .i64 re) [Upd.set (rsA 2 s2), Upd.set (rsR s2), Upd.set (rsP s2)] (Orc.cal [0] (AV.tup [AV.p 1 0, AV.i .i64 (0 : Int)])
  [Upd.keep, Upd.set (CS.oa c2)] (Orc.cal [1, 2, 3] (AV.tup [AV.p 3 0, AV.i .i64 (0 : Int)]) [Upd.keep, Upd.keep, Upd.keep, Upd.set (rcO 0 4 5 (CS.n c) false), Upd.set (rcV (CS.n c)
  (CS.q c2) (CS.d c2)), Upd.set (rcB (CS.n c) (CS.sec c2))] (Orc.c (Orc.c (Orc.c (Orc.c (Orc.c (Orc.c (Orc.c (Orc.cal [9, 0] (AV.agg [AV.i .i64 (Int.ofNat gq), AV.s gd]) [Upd.keep,
  Upd.keep] (Orc.cal [1, 2, 3, 10, 11, 12] (AV.agg [AV.i .i64 (Int.ofNat gq), AV.s gd]) [Upd.keep, Upd.keep, Upd.keep, Upd.keep, Upd.keep, Upd.keep] (Orc.t (Orc.t (Orc.cal [0] (AV.i
  .i64 (Int.ofNat (SS.wr s2))) [Upd.keep] (Orc.t (Orc.t (Orc.t (Orc.t (Orc.t (Orc.f (Orc.t (Orc.t (Orc.cal [9, 0] (AV.i .i64 (Int.ofNat (CS.n c))) [Upd.keep, Upd.keep] (Orc.t (Orc.t
  (Orc.f (Orc.f Orc.z)))))))))))))))))))))))))))))))))))) K = (decide (Int.ofNat k < Int.ofNat L) = true ∧ ((0 : Int) ≤ Int.ofNat k ∧ Int.ofNat k < ↑L) ∧ True ∧ decide ((300 : Int)
  < Int.ofNat k) = false ∧ True ∧ decide (KK k = (1 : Int)) = false ∧ decide (KK k = (2 : Int)) = false ∧ decide (KK k = (3 : Int)) = true ∧ Con Tryd.prog 12 [AV.p 0 0] [some (SS.o
  s)] (AV.tup []) [Upd.set (SS.o s1)] ∧ Con Tryd.prog 13 [AV.p 0 0] [some (rsA 2 s), some (rsR s), some (rsP s)] (AV.tup []) [Upd.set (rsA 2 s1), Upd.set (rsR s1), Upd.set (rsP s1)]
  ∧ True ∧ True ∧ Con Tryd.prog 14 [AV.p 0 0, AV.i .i64 (II k), AV.b (TT k)] [some (SS.o s1)] (AV.i .i64 re) [Upd.set (SS.o s2)] ∧ True ∧ True ∧ Con Tryd.prog 15 [AV.p 0 0, AV.i
  .i64 (II k), AV.b (TT k)] [some (rsA 2 s1), some (rsR s1), some (rsP s1)] (AV.i .i64 re) [Upd.set (rsA 2 s2), Upd.set (rsR s2), Upd.set (rsP s2)] ∧ Con Tryd.prog 8 [AV.p 0 0, AV.i
  .i64 (Int.ofNat (CS.n c))] [some (SS.o s2)] (AV.tup [AV.p 1 0, AV.i .i64 (0 : Int)]) [Upd.keep, Upd.set (CS.oa c2)] ∧ Con Tryd.prog 9 [AV.p 0 0, AV.i .i64 (Int.ofNat (CS.n c))]
  [some (rsA 2 s2), some (rsR s2), some (rsP s2)] (AV.tup [AV.p 3 0, AV.i .i64 (0 : Int)]) [Upd.keep, Upd.keep, Upd.keep, Upd.set (rcO 0 4 5 (CS.n c) false), Upd.set (rcV (CS.n c)
  (CS.q c2) (CS.d c2)), Upd.set (rcB (CS.n c) (CS.sec c2))] ∧ True ∧ True ∧ True ∧ Con Tryd.prog 18 [AV.p 0 0, AV.i .i64 (II k)] [some (CS.o c2), some (SS.o s2)] (AV.agg [AV.i .i64
  (Int.ofNat gq), AV.s gd]) [Upd.keep, Upd.keep] ∧ True ∧ Con Tryd.prog 19 [AV.p 3 0, AV.i .i64 (II k)] [some (rsA 2 s2), some (rsR s2), some (rsP s2), some (rcO 0 4 5 (CS.n c)
  false), some (rcV (CS.n c) (CS.q c2) (CS.d c2)), some (rcB (CS.n c) (CS.sec c2))] (AV.agg [AV.i .i64 (Int.ofNat gq), AV.s gd]) [Upd.keep, Upd.keep, Upd.keep, Upd.keep, Upd.keep,
  Upd.keep] ∧ True ∧ (!!(decide (Int.ofNat gq = Int.ofNat gq) && (natsEq gd gd && true))) = true ∧ (!!(decide (Int.ofNat gq = Int.ofNat gq) && (natsEq gd gd && true))) = true ∧ Con
  Tryd.prog 20 [AV.p 0 0] [some (SS.o s2)] (AV.i .i64 (Int.ofNat (SS.wr s2))) [Upd.keep] ∧ (!!(decide (Int.ofNat gq = Int.ofNat gq) && (natsEq gd gd && true))) = true ∧ (!!(decide
  (Int.ofNat gq = Int.ofNat gq) && (natsEq gd gd && true))) = true ∧ (!!(decide (Int.ofNat gq = Int.ofNat gq) && (natsEq gd gd && true))) = true ∧ True ∧ (!!(decide (Int.ofNat gq =
  Int.ofNat gq) && (natsEq gd gd && true))) = true ∧ (!!(decide (Int.ofNat gq = Int.ofNat gq) && (natsEq gd gd && true))) = true ∧ (!(decide (Int.ofNat gq = Int.ofNat gq) && (natsEq
  gd gd && true))) = false ∧ (!!decide (Int.ofNat (SS.wr s2) = Int.ofNat (SS.wr s2))) = true ∧ (!!decide (Int.ofNat (SS.wr s2) = Int.ofNat (SS.wr s2))) = true ∧ Con Tryd.prog 21
  [AV.p 0 0] [some (CS.o c2), some (SS.o s2)] (AV.i .i64 (Int.ofNat (CS.n c))) [Upd.keep, Upd.keep] ∧ (!!decide (Int.ofNat (SS.wr s2) = Int.ofNat (SS.wr s2))) = true ∧ (!!decide
  (Int.ofNat (SS.wr s2) = Int.ofNat (SS.wr s2))) = true ∧ (!decide (Int.ofNat (SS.wr s2) = Int.ofNat (SS.wr s2))) = false ∧ (!decide (Int.ofNat (CS.n c) = Int.ofNat (CS.n c))) =
  false ∧ ((-9223372036854775808 : Int) ≤ Int.ofNat k + (1 : Int) ∧ Int.ofNat k + (1 : Int) ≤ (9223372036854775807 : Int)) ∧ K (Res.st XO.nrm (z1 (AV.i .i64 (Int.ofNat (CS.n c)))
  (z0 (z0 (z1 (AV.p 1 0) (z1 (AV.p 9 0) (z0 (z1 (AV.p 8 0) (zl (AV.b false)) T.e) (z1 (AV.b (decide (KK k = (3 : Int)))) (zl (AV.b !decide (Int.ofNat (CS.n c) = Int.ofNat (CS.n
  c)))) T.e)) (z0 (z1 (AV.b (decide (KK k = (1 : Int)))) (zl (AV.i .i64 (II k))) T.e) (zl (AV.i .i64 re)))) (z0 (z0 (z0 (zl (AV.p 9 0)) T.e) (zl (AV.p 8 3))) (z1 (AV.i .i64
  (Int.ofNat L)) (z0 (zl (AV.p 1 2)) T.e) (zl (AV.p 1 0))))) (z1 (AV.p 10 0) (z0 (z0 (z0 (zl (AV.b false)) T.e) (zl (AV.tup []))) (z0 (z0 (zl (AV.p 0 0)) T.e) (zl (AV.tup [AV.p 9 0,
  AV.i .i64 (0 : Int)])))) (z0 (z0 (z0 (zl (AV.i .i64 (II k))) T.e) (zl (AV.p 8 1))) (z1 (AV.pv 4 (opF KK II XX TT k)) (z0 (zl (AV.b !decide (Int.ofNat (SS.wr s2) = Int.ofNat (SS.wr
  s2)))) T.e) (zl (AV.i .i64 (0 : Int))))))) (z1 (AV.p 0 0) (z1 (AV.p 9 0) (z1 (AV.p 10 0) (z0 (z0 (zl (AV.b false)) T.e) (z1 (AV.tup []) (zl (AV.i .i64 (Int.ofNat k + (1 : Int))))
  T.e)) (z0 (z0 (zl (AV.b !(decide (Int.ofNat gq = Int.ofNat gq) && (natsEq gd gd && true)))) T.e) (zl (AV.p 0 0)))) (z0 (z0 (z0 (zl (AV.p 9 0)) T.e) (zl (AV.i .i64 re))) (z1 (AV.b
  (decide (Int.ofNat k < Int.ofNat L))) (z1 (AV.b (decide (KK k = (2 : Int)))) (zl (AV.b !decide (Int.ofNat (SS.wr s2) = Int.ofNat (SS.wr s2)))) T.e) (zl (AV.tup [AV.p 10 0, AV.i
  .i64 (0 : Int)]))))) (z1 (AV.i .i64 (Int.ofNat k)) (z0 (z0 (z0 (zl (AV.b false)) T.e) (zl (AV.p 8 1))) (z0 (z0 (zl (AV.p 1 0)) T.e) (zl (AV.i .i64 (0 : Int))))) (z0 (z0 (z0 (zl
  (AV.p 10 0)) T.e) (zl (AV.p 8 3))) (z1 (AV.i .i64 (Int.ofNat k)) (z0 (zl (AV.i .i64 (Int.ofNat (CS.n c)))) T.e) (zl (AV.i .i64 (0 : Int)))))))) (z0 (z0 (z0 (z1 (AV.i .i64 (0 :
  Int)) (z0 (z1 (AV.i .i64 (KK k)) (zl (AV.p 9 0)) T.e) (z1 (AV.p 0 0) (zl (AV.b !decide (Int.ofNat (CS.n c) = Int.ofNat (CS.n c)))) T.e)) (z0 (z0 (zl (AV.agg [AV.i .i64 (Int.ofNat
  gq), AV.s gd])) T.e) (zl (AV.tup [AV.p 9 0, AV.i .i64 (0 : Int)])))) (z0 (z0 (z0 (zl (AV.p 10 0)) T.e) (zl (AV.b (TT k)))) (z1 (AV.i .i64 (Int.ofNat k + (1 : Int))) (z1 (AV.b
  (decide (KK k = (2 : Int)))) (zl (AV.i .i64 (Int.ofNat (SS.wr s2)))) T.e) (zl (AV.i .i64 (Int.ofNat (CS.n c))))))) (z0 (z0 (z0 (z0 (zl (AV.p 10 0)) T.e) (zl (AV.p 0 0))) (z0 (z0
  (zl (AV.i .i64 (Int.ofNat (SS.wr s2)))) T.e) (zl (AV.p 9 0)))) (z0 (z0 (z0 (zl (AV.agg [AV.i .i64 (Int.ofNat gq), AV.s gd])) T.e) (zl (AV.i .i64 (II k)))) (z1 (AV.agg [AV.i .i64
  (KK k), AV.i .i64 (II k), AV.s (XX k), AV.b (TT k)]) (z0 (zl (AV.p 9 0)) T.e) (zl (AV.i .i64 (0 : Int))))))) (z0 (z0 (z1 (AV.i .i64 (0 : Int)) (z0 (z0 (zl (AV.b false)) T.e) (zl
  (AV.p 1 0))) (z0 (z0 (zl (AV.b !(decide (Int.ofNat gq = Int.ofNat gq) && (natsEq gd gd && true)))) T.e) (zl (AV.i .i64 (Int.ofNat (CS.n c)))))) (z0 (z0 (z0 (zl (AV.p 8 1)) T.e)
  (zl (AV.p 1 0))) (z1 (AV.i .i64 (Int.ofNat k)) (z0 (zl (AV.b !decide (Int.ofNat (SS.wr s2) = Int.ofNat (SS.wr s2)))) T.e) (zl (AV.p 10 0))))) (z1 (AV.p 8 0) (z0 (z0 (z0 (zl (AV.b
  false)) T.e) (zl (AV.i .i64 (II k)))) (z1 (AV.sv 4 L (opF KK II XX TT)) (z0 (zl (AV.p 1 0)) T.e) (zl (AV.tup [AV.p 10 0, AV.i .i64 (0 : Int)])))) (z0 (z0 (z1 (AV.b (decide (KK k =
  (1 : Int)))) (zl (AV.p 8 1)) T.e) (zl (AV.b (TT k)))) (z1 (AV.b (decide ((300 : Int) < Int.ofNat k))) (z1 (AV.b (decide (KK k = (3 : Int)))) (zl (AV.i .i64 (Int.ofNat (CS.n c))))
  T.e) (zl (AV.b false)))))))) { tree := z1 (AObj.segs 69 33799 [{ st := 0, sz := 1, n := 1, f := oneF (CV.i .i64 (Int.ofNat (SS.n s2))) }, { st := 1, sz := 65, n := 512, f := durF (SS.dur s2) (SS.torn s2) }, { st := 33281, sz := 1, n := 1, f := oneF (CV.opv (pB (SS.P s2)) 66 (pW (SS.P s2))) }, { st := 33282, sz := 1, n := 512, f := latF (lB (SS.P s2)) (lW (SS.P s2)) }, { st := 33794, sz := 5, n := 1, f := tailF (Int.ofNat (List.length (SS.P s2))) (Int.ofNat (SS.wr s2)) (SS.off s2) (SS.armed s2) (Int.ofNat (SS.left s2)) }]) (z1 (AObj.cells 51 5 [] (z1 (AV.lr 2 1 0 (SS.n s2) false) (z1 (AV.lr 3 2 0 (List.length (SS.P s2)) false) (zl (AV.i .i64 (SS.am s2))) T.e) (z1 (AV.i .i64 (Int.ofNat (SS.wr s2))) (zl (AV.b (SS.off s2))) T.e))) (z1 (AObj.rows 91 2 (List.length (SS.P s2)) (penF (oA (SS.P s2)) (oB (SS.P s2)))) (zl (AObj.rows 4 1 (CS.n c) (secF (CS.sec c)))) (zl (AObj.rows 45 2 (CS.n c) (valF (CS.q c2) (CS.d c2))))) (z1 (AObj.cells 80 4 [] (z1 (AV.p 1 0) (z1 (AV.lr 6 2 0 (CS.n c) false) (zl (AV.b (CS.dead c))) T.e) (zl (AV.lr 7 1 0 (CS.n c) false)))) (zl (AObj.segs 74 771 [{ st := 1, sz := 1, n := 1, f := oneF (CV.i .i64 (Int.ofNat (CS.n c2))) }, { st := 2, sz := 3, n := 256, f := cellF (CS.q c2) (CS.d c2) (CS.sp c2) }, { st := 770, sz := 1, n := 1, f := oneF (CV.b (CS.dead c2)) }] [(0, AV.p 0 0)])) T.e)) (z1 (AObj.rows 55 1 (SS.n s2) (imgF s2)) (z1 (AObj.segs 74 771 [{ st := 1, sz := 1, n := 1, f := oneF (CV.i .i64 (Int.ofNat (CS.n c))) }, { st := 2, sz := 3, n := 256, f := cellF (CS.q c) (CS.d c) (CS.sp c) }, { st := 770, sz := 1, n := 1, f := oneF (CV.b (CS.dead c)) }] [(0, AV.p 0 0)]) (zl (AObj.cells 38 4 [AV.i .i64 (0 : Int), AV.i .i64 (0 : Int), AV.s [], AV.b false] (z1 (AV.i .i64 (KK k)) (z1 (AV.i .i64 (II k)) (zl (AV.b (TT k))) T.e) (zl (AV.s (XX k)))))) (zl (AObj.rows 4 1 (CS.n c) (secF (CS.sec c2))))) (z1 (AObj.rows 45 2 (CS.n c) (valF (CS.q c) (CS.d c))) (zl (AObj.cells 80 4 [] (z1 (AV.p 1 0) (z1 (AV.lr 11 2 0 (CS.n c) false) (zl (AV.b false)) T.e) (zl (AV.lr 12 1 0 (CS.n c) false))))) T.e)), next := 13, log := [12, 11, 10, 9, 3, 2, 1, 0, 3, 2, 1, 0, 8, 8] })
  Orc.z) := by kernel_rfl
theorem pl4_vc (s : SS) (c : CS) (s2 : SS) (c2 : CS) (gq : Nat) (gd : List Nat) (pe : Int) (L k : Nat) (KK II : Nat → Int) (XX : Nat → List Nat) (TT : Nat → Bool) (hl : decide
  (Int.ofNat k < Int.ofNat L) = true) (h3 : decide ((300 : Int) < Int.ofNat k) = false) (hg : (!!(decide (Int.ofNat gq = Int.ofNat gq) && (natsEq gd gd && true))) = true) (k1 :
  decide (KK k = (1 : Int)) = false) (k2 : decide (KK k = (2 : Int)) = false) (k3 : decide (KK k = (3 : Int)) = false) (K : Res → Orc → Prop) : runK Tryd.prog 1000000 (.code (loopAt
  Tryd.prog 3 0) 181 (mkT [(0, .i .i64 (Int.ofNat c.n)), (5, .p 0 0), (7, .p 1 0), (9, .p 4 0), (11, .p 5 0), (54, .sv 4 L (opF KK II XX TT)), (55, .i .i64 (Int.ofNat L)), (56, .i
  .i64 (Int.ofNat k))]) (mkH [some s.o, some (rsK s), some (rsR s), some (rsP s), some c.oa, some (rcK c.n c.dead), some (rcV c.n c.q c.d), some (rcB c.n c.sec)])) (Orc.t (Orc.f
  (Orc.f (Orc.f (Orc.f (Orc.cal [4, 0] (AV.i .i64 pe) [Upd.set (CS.o c2), Upd.set (SS.o s2)] (Orc.cal [1, 2, 3, 5, 6, 7] (AV.i .i64 pe) [Upd.set (rsA 6 s2), Upd.set (rsR s2),
  Upd.gone, Upd.set (rcO 0 4 5 (CS.n c) (CS.dead c2)), Upd.set (rcV (CS.n c) (CS.q c2) (CS.d c2)), Upd.set (rcB (CS.n c) (CS.sec c2)), Upd.set (rsP s2)] (Orc.f (Orc.cal [4, 0]
  (AV.agg [AV.i .i64 (Int.ofNat gq), AV.s gd]) [Upd.keep, Upd.keep] (Orc.cal [1, 2, 9, 5, 6, 7] (AV.agg [AV.i .i64 (Int.ofNat gq), AV.s gd]) [Upd.keep, Upd.keep, Upd.keep, Upd.keep,
  Upd.keep, Upd.keep] (Orc.t (Orc.t (Orc.cal [0] (AV.i .i64 (Int.ofNat (SS.wr s2))) [Upd.keep] (Orc.t (Orc.t (Orc.t (Orc.t (Orc.t (Orc.f (Orc.t (Orc.t (Orc.cal [4, 0] (AV.i .i64
  (Int.ofNat (CS.n c))) [Upd.keep, Upd.keep] (Orc.t (Orc.t (Orc.f (Orc.f Orc.z)))))))))))))))))))))))))) K = (decide (Int.ofNat k < Int.ofNat L) = true ∧ ((0 : Int) ≤ Int.ofNat k ∧
  Int.ofNat k < ↑L) ∧ True ∧ decide ((300 : Int) < Int.ofNat k) = false ∧ True ∧ decide (KK k = (1 : Int)) = false ∧ decide (KK k = (2 : Int)) = false ∧ decide (KK k = (3 : Int)) =
  false ∧ True ∧ True ∧ Con Tryd.prog 16 [AV.p 0 0, AV.i .i64 (II k), AV.s (XX k)] [some (CS.o c), some (SS.o s)] (AV.i .i64 pe) [Upd.set (CS.o c2), Upd.set (SS.o s2)] ∧ True ∧ True
  ∧ Con Tryd.prog 17 [AV.p 3 0, AV.i .i64 (II k), AV.s (XX k)] [some (rsA 2 s), some (rsR s), some (rsP s), some (rcO 0 4 5 (CS.n c) (CS.dead c)), some (rcV (CS.n c) (CS.q c) (CS.d
  c)), some (rcB (CS.n c) (CS.sec c))] (AV.i .i64 pe) [Upd.set (rsA 6 s2), Upd.set (rsR s2), Upd.gone, Upd.set (rcO 0 4 5 (CS.n c) (CS.dead c2)), Upd.set (rcV (CS.n c) (CS.q c2)
  (CS.d c2)), Upd.set (rcB (CS.n c) (CS.sec c2)), Upd.set (rsP s2)] ∧ (!decide (pe = pe)) = false ∧ True ∧ Con Tryd.prog 18 [AV.p 0 0, AV.i .i64 (II k)] [some (CS.o c2), some (SS.o
  s2)] (AV.agg [AV.i .i64 (Int.ofNat gq), AV.s gd]) [Upd.keep, Upd.keep] ∧ True ∧ Con Tryd.prog 19 [AV.p 3 0, AV.i .i64 (II k)] [some (rsA 2 s2), some (rsR s2), some (rsP s2), some
  (rcO 0 4 5 (CS.n c) (CS.dead c2)), some (rcV (CS.n c) (CS.q c2) (CS.d c2)), some (rcB (CS.n c) (CS.sec c2))] (AV.agg [AV.i .i64 (Int.ofNat gq), AV.s gd]) [Upd.keep, Upd.keep,
  Upd.keep, Upd.keep, Upd.keep, Upd.keep] ∧ True ∧ (!!(decide (Int.ofNat gq = Int.ofNat gq) && (natsEq gd gd && true))) = true ∧ (!!(decide (Int.ofNat gq = Int.ofNat gq) && (natsEq
  gd gd && true))) = true ∧ Con Tryd.prog 20 [AV.p 0 0] [some (SS.o s2)] (AV.i .i64 (Int.ofNat (SS.wr s2))) [Upd.keep] ∧ (!!(decide (Int.ofNat gq = Int.ofNat gq) && (natsEq gd gd &&
  true))) = true ∧ (!!(decide (Int.ofNat gq = Int.ofNat gq) && (natsEq gd gd && true))) = true ∧ (!!(decide (Int.ofNat gq = Int.ofNat gq) && (natsEq gd gd && true))) = true ∧ True ∧
  (!!(decide (Int.ofNat gq = Int.ofNat gq) && (natsEq gd gd && true))) = true ∧ (!!(decide (Int.ofNat gq = Int.ofNat gq) && (natsEq gd gd && true))) = true ∧ (!(decide (Int.ofNat gq
  = Int.ofNat gq) && (natsEq gd gd && true))) = false ∧ (!!decide (Int.ofNat (SS.wr s2) = Int.ofNat (SS.wr s2))) = true ∧ (!!decide (Int.ofNat (SS.wr s2) = Int.ofNat (SS.wr s2))) =
  true ∧ Con Tryd.prog 21 [AV.p 0 0] [some (CS.o c2), some (SS.o s2)] (AV.i .i64 (Int.ofNat (CS.n c))) [Upd.keep, Upd.keep] ∧ (!!decide (Int.ofNat (SS.wr s2) = Int.ofNat (SS.wr
  s2))) = true ∧ (!!decide (Int.ofNat (SS.wr s2) = Int.ofNat (SS.wr s2))) = true ∧ (!decide (Int.ofNat (SS.wr s2) = Int.ofNat (SS.wr s2))) = false ∧ (!decide (Int.ofNat (CS.n c) =
  Int.ofNat (CS.n c))) = false ∧ ((-9223372036854775808 : Int) ≤ Int.ofNat k + (1 : Int) ∧ Int.ofNat k + (1 : Int) ≤ (9223372036854775807 : Int)) ∧ K (Res.st XO.nrm (z1 (AV.i .i64
  (Int.ofNat (CS.n c))) (z0 (z0 (z1 (AV.p 1 0) (z0 (z0 (zl (AV.p 8 0)) (z1 (AV.b (decide (KK k = (3 : Int)))) (zl (AV.b !decide (Int.ofNat (CS.n c) = Int.ofNat (CS.n c)))) T.e)) (z0
  (z1 (AV.b (decide (KK k = (1 : Int)))) (zl (AV.i .i64 (II k))) T.e) T.e)) (z0 (z0 (zl (AV.p 5 0)) T.e) (z1 (AV.i .i64 (Int.ofNat L)) (z0 (zl (AV.p 1 2)) T.e) T.e))) (z1 (AV.p 5 0)
  (z0 (z0 (zl (AV.i .i64 (II k))) T.e) (z0 (z0 (zl (AV.p 0 0)) T.e) T.e)) (z0 (z0 (z1 (AV.s (XX k)) (zl (AV.i .i64 (II k))) T.e) T.e) (z1 (AV.pv 4 (opF KK II XX TT k)) (z0 (zl (AV.b
  !decide (Int.ofNat (SS.wr s2) = Int.ofNat (SS.wr s2)))) T.e) T.e)))) (z1 (AV.p 0 0) (z1 (AV.p 4 0) (z0 (z0 (zl (AV.p 4 0)) (z0 (zl (AV.i .i64 (Int.ofNat k + (1 : Int)))) T.e)) (z0
  (z0 (zl (AV.b !(decide (Int.ofNat gq = Int.ofNat gq) && (natsEq gd gd && true)))) T.e) T.e)) (z0 (z0 (z1 (AV.i .i64 (II k)) (zl (AV.p 4 0)) T.e) T.e) (z1 (AV.b (decide (Int.ofNat
  k < Int.ofNat L))) (z1 (AV.b (decide (KK k = (2 : Int)))) (zl (AV.b !decide (Int.ofNat (SS.wr s2) = Int.ofNat (SS.wr s2)))) T.e) T.e))) (z1 (AV.i .i64 (Int.ofNat k)) (z0 (z0 (zl
  (AV.s (XX k))) T.e) (z0 (z0 (zl (AV.p 1 0)) T.e) T.e)) (z0 (z0 (z1 (AV.b !decide (pe = pe)) (zl (AV.p 5 0)) T.e) T.e) (z1 (AV.i .i64 (Int.ofNat k)) (z0 (zl (AV.i .i64 (Int.ofNat
  (CS.n c)))) T.e) T.e))))) (z0 (z0 (z0 (z0 (z0 (zl (AV.i .i64 (KK k))) (z0 (zl (AV.b !decide (Int.ofNat (CS.n c) = Int.ofNat (CS.n c)))) T.e)) (z0 (z0 (zl (AV.agg [AV.i .i64
  (Int.ofNat gq), AV.s gd])) T.e) T.e)) (z0 (z0 (zl (AV.p 8 1)) T.e) (z1 (AV.i .i64 (Int.ofNat k + (1 : Int))) (z1 (AV.b (decide (KK k = (2 : Int)))) (zl (AV.i .i64 (Int.ofNat
  (SS.wr s2)))) T.e) T.e))) (z0 (z0 (z0 (zl (AV.p 8 2)) T.e) (z0 (z0 (zl (AV.i .i64 (Int.ofNat (SS.wr s2)))) T.e) T.e)) (z0 (z0 (z1 (AV.i .i64 pe) (zl (AV.agg [AV.i .i64 (Int.ofNat
  gq), AV.s gd])) T.e) T.e) (z1 (AV.agg [AV.i .i64 (KK k), AV.i .i64 (II k), AV.s (XX k), AV.b (TT k)]) (z0 (zl (AV.p 4 0)) T.e) T.e)))) (z0 (z0 (z0 (z0 (zl (AV.p 8 1)) T.e) (z0 (z0
  (zl (AV.b !(decide (Int.ofNat gq = Int.ofNat gq) && (natsEq gd gd && true)))) T.e) T.e)) (z0 (z0 (z1 (AV.p 8 2) (zl (AV.p 8 1)) T.e) T.e) (z1 (AV.i .i64 (Int.ofNat k)) (z0 (zl
  (AV.b !decide (Int.ofNat (SS.wr s2) = Int.ofNat (SS.wr s2)))) T.e) T.e))) (z1 (AV.p 8 0) (z0 (z0 (zl (AV.i .i64 pe)) T.e) (z1 (AV.sv 4 L (opF KK II XX TT)) (z0 (zl (AV.p 1 0))
  T.e) T.e)) (z0 (z0 (z1 (AV.b (decide (KK k = (1 : Int)))) (zl (AV.p 8 1)) T.e) T.e) (z1 (AV.b (decide ((300 : Int) < Int.ofNat k))) (z1 (AV.b (decide (KK k = (3 : Int)))) (zl
  (AV.i .i64 (Int.ofNat (CS.n c)))) T.e) T.e)))))) { tree := z1 (AObj.segs 69 33799 [{ st := 0, sz := 1, n := 1, f := oneF (CV.i .i64 (Int.ofNat (SS.n s2))) }, { st := 1, sz := 65, n := 512, f := durF (SS.dur s2) (SS.torn s2) }, { st := 33281, sz := 1, n := 1, f := oneF (CV.opv (pB (SS.P s2)) 66 (pW (SS.P s2))) }, { st := 33282, sz := 1, n := 512, f := latF (lB (SS.P s2)) (lW (SS.P s2)) }, { st := 33794, sz := 5, n := 1, f := tailF (Int.ofNat (List.length (SS.P s2))) (Int.ofNat (SS.wr s2)) (SS.off s2) (SS.armed s2) (Int.ofNat (SS.left s2)) }]) (z1 (AObj.cells 51 5 [] (z1 (AV.lr 2 1 0 (SS.n s2) false) (z1 (AV.lr 9 2 0 (List.length (SS.P s2)) false) (zl (AV.i .i64 (SS.am s2))) T.e) (z1 (AV.i .i64 (Int.ofNat (SS.wr s2))) (zl (AV.b (SS.off s2))) T.e))) (z0 (zl (AObj.rows 4 1 (CS.n c) (secF (CS.sec c2)))) T.e) (z1 (AObj.cells 80 4 [] (z1 (AV.p 1 0) (z1 (AV.lr 6 2 0 (CS.n c) false) (zl (AV.b (CS.dead c2))) T.e) (zl (AV.lr 7 1 0 (CS.n c) false)))) (zl (AObj.rows 91 2 (List.length (SS.P s2)) (penF (oA (SS.P s2)) (oB (SS.P s2))))) T.e)) (z1 (AObj.rows 55 1 (SS.n s2) (imgF s2)) (z1 (AObj.segs 74 771 [{ st := 1, sz := 1, n := 1, f := oneF (CV.i .i64 (Int.ofNat (CS.n c2))) }, { st := 2, sz := 3, n := 256, f := cellF (CS.q c2) (CS.d c2) (CS.sp c2) }, { st := 770, sz := 1, n := 1, f := oneF (CV.b (CS.dead c2)) }] [(0, AV.p 0 0)]) (zl (AObj.cells 38 4 [AV.i .i64 (0 : Int), AV.i .i64 (0 : Int), AV.s [], AV.b false] (z1 (AV.i .i64 (KK k)) (z1 (AV.i .i64 (II k)) (zl (AV.b (TT k))) T.e) (zl (AV.s (XX k)))))) T.e) (zl (AObj.rows 45 2 (CS.n c) (valF (CS.q c2) (CS.d c2))))), next := 10, log := [9, 7, 6, 5, 3, 2, 1, 0, 4, 8, 8] })
  Orc.z) := by kernel_rfl
theorem pl5_vc (s : SS) (c : CS) (s2 : SS) (c2 : CS) (gq : Nat) (gd : List Nat) (pe : Int) (L k : Nat) (KK II : Nat → Int) (XX : Nat → List Nat) (TT : Nat → Bool) (hl : decide
  (Int.ofNat k < Int.ofNat L) = true) (h3 : decide ((300 : Int) < Int.ofNat k) = false) (hg : (!!(decide (Int.ofNat gq = Int.ofNat gq) && (natsEq gd gd && true))) = true) (k1 :
  decide (KK k = (1 : Int)) = false) (k2 : decide (KK k = (2 : Int)) = false) (k3 : decide (KK k = (3 : Int)) = false) (K : Res → Orc → Prop) : runK Tryd.prog 1000000 (.code (loopAt
  Tryd.prog 3 0) 181 (mkT [(0, .i .i64 (Int.ofNat c.n)), (5, .p 0 0), (7, .p 1 0), (9, .p 4 0), (11, .p 5 0), (54, .sv 4 L (opF KK II XX TT)), (55, .i .i64 (Int.ofNat L)), (56, .i
  .i64 (Int.ofNat k))]) (mkH [some s.o, some (rsK s), some (rsR s), some (rsP s), some c.oa, some (rcK c.n c.dead), some (rcV c.n c.q c.d), some (rcB c.n c.sec)])) (Orc.t (Orc.f
  (Orc.f (Orc.f (Orc.f (Orc.cal [4, 0] (AV.i .i64 pe) [Upd.set (CS.o c2), Upd.set (SS.o s2)] (Orc.cal [1, 2, 3, 5, 6, 7] (AV.i .i64 pe) [Upd.set (rsA 2 s2), Upd.set (rsR s2),
  Upd.set (rsP s2), Upd.set (rcO 0 4 5 (CS.n c) (CS.dead c2)), Upd.set (rcV (CS.n c) (CS.q c2) (CS.d c2)), Upd.set (rcB (CS.n c) (CS.sec c2))] (Orc.f (Orc.cal [4, 0] (AV.agg [AV.i
  .i64 (Int.ofNat gq), AV.s gd]) [Upd.keep, Upd.keep] (Orc.cal [1, 2, 3, 5, 6, 7] (AV.agg [AV.i .i64 (Int.ofNat gq), AV.s gd]) [Upd.keep, Upd.keep, Upd.keep, Upd.keep, Upd.keep,
  Upd.keep] (Orc.t (Orc.t (Orc.cal [0] (AV.i .i64 (Int.ofNat (SS.wr s2))) [Upd.keep] (Orc.t (Orc.t (Orc.t (Orc.t (Orc.t (Orc.f (Orc.t (Orc.t (Orc.cal [4, 0] (AV.i .i64 (Int.ofNat
  (CS.n c))) [Upd.keep, Upd.keep] (Orc.t (Orc.t (Orc.f (Orc.f Orc.z)))))))))))))))))))))))))) K = (decide (Int.ofNat k < Int.ofNat L) = true ∧ ((0 : Int) ≤ Int.ofNat k ∧ Int.ofNat k
  < ↑L) ∧ True ∧ decide ((300 : Int) < Int.ofNat k) = false ∧ True ∧ decide (KK k = (1 : Int)) = false ∧ decide (KK k = (2 : Int)) = false ∧ decide (KK k = (3 : Int)) = false ∧ True
  ∧ True ∧ Con Tryd.prog 16 [AV.p 0 0, AV.i .i64 (II k), AV.s (XX k)] [some (CS.o c), some (SS.o s)] (AV.i .i64 pe) [Upd.set (CS.o c2), Upd.set (SS.o s2)] ∧ True ∧ True ∧ Con
  Tryd.prog 17 [AV.p 3 0, AV.i .i64 (II k), AV.s (XX k)] [some (rsA 2 s), some (rsR s), some (rsP s), some (rcO 0 4 5 (CS.n c) (CS.dead c)), some (rcV (CS.n c) (CS.q c) (CS.d c)),
  some (rcB (CS.n c) (CS.sec c))] (AV.i .i64 pe) [Upd.set (rsA 2 s2), Upd.set (rsR s2), Upd.set (rsP s2), Upd.set (rcO 0 4 5 (CS.n c) (CS.dead c2)), Upd.set (rcV (CS.n c) (CS.q c2)
  (CS.d c2)), Upd.set (rcB (CS.n c) (CS.sec c2))] ∧ (!decide (pe = pe)) = false ∧ True ∧ Con Tryd.prog 18 [AV.p 0 0, AV.i .i64 (II k)] [some (CS.o c2), some (SS.o s2)] (AV.agg [AV.i
  .i64 (Int.ofNat gq), AV.s gd]) [Upd.keep, Upd.keep] ∧ True ∧ Con Tryd.prog 19 [AV.p 3 0, AV.i .i64 (II k)] [some (rsA 2 s2), some (rsR s2), some (rsP s2), some (rcO 0 4 5 (CS.n c)
  (CS.dead c2)), some (rcV (CS.n c) (CS.q c2) (CS.d c2)), some (rcB (CS.n c) (CS.sec c2))] (AV.agg [AV.i .i64 (Int.ofNat gq), AV.s gd]) [Upd.keep, Upd.keep, Upd.keep, Upd.keep,
  Upd.keep, Upd.keep] ∧ True ∧ (!!(decide (Int.ofNat gq = Int.ofNat gq) && (natsEq gd gd && true))) = true ∧ (!!(decide (Int.ofNat gq = Int.ofNat gq) && (natsEq gd gd && true))) =
  true ∧ Con Tryd.prog 20 [AV.p 0 0] [some (SS.o s2)] (AV.i .i64 (Int.ofNat (SS.wr s2))) [Upd.keep] ∧ (!!(decide (Int.ofNat gq = Int.ofNat gq) && (natsEq gd gd && true))) = true ∧
  (!!(decide (Int.ofNat gq = Int.ofNat gq) && (natsEq gd gd && true))) = true ∧ (!!(decide (Int.ofNat gq = Int.ofNat gq) && (natsEq gd gd && true))) = true ∧ True ∧ (!!(decide
  (Int.ofNat gq = Int.ofNat gq) && (natsEq gd gd && true))) = true ∧ (!!(decide (Int.ofNat gq = Int.ofNat gq) && (natsEq gd gd && true))) = true ∧ (!(decide (Int.ofNat gq =
  Int.ofNat gq) && (natsEq gd gd && true))) = false ∧ (!!decide (Int.ofNat (SS.wr s2) = Int.ofNat (SS.wr s2))) = true ∧ (!!decide (Int.ofNat (SS.wr s2) = Int.ofNat (SS.wr s2))) =
  true ∧ Con Tryd.prog 21 [AV.p 0 0] [some (CS.o c2), some (SS.o s2)] (AV.i .i64 (Int.ofNat (CS.n c))) [Upd.keep, Upd.keep] ∧ (!!decide (Int.ofNat (SS.wr s2) = Int.ofNat (SS.wr
  s2))) = true ∧ (!!decide (Int.ofNat (SS.wr s2) = Int.ofNat (SS.wr s2))) = true ∧ (!decide (Int.ofNat (SS.wr s2) = Int.ofNat (SS.wr s2))) = false ∧ (!decide (Int.ofNat (CS.n c) =
  Int.ofNat (CS.n c))) = false ∧ ((-9223372036854775808 : Int) ≤ Int.ofNat k + (1 : Int) ∧ Int.ofNat k + (1 : Int) ≤ (9223372036854775807 : Int)) ∧ K (Res.st XO.nrm (z1 (AV.i .i64
  (Int.ofNat (CS.n c))) (z0 (z0 (z1 (AV.p 1 0) (z0 (z0 (zl (AV.p 8 0)) (z1 (AV.b (decide (KK k = (3 : Int)))) (zl (AV.b !decide (Int.ofNat (CS.n c) = Int.ofNat (CS.n c)))) T.e)) (z0
  (z1 (AV.b (decide (KK k = (1 : Int)))) (zl (AV.i .i64 (II k))) T.e) T.e)) (z0 (z0 (zl (AV.p 5 0)) T.e) (z1 (AV.i .i64 (Int.ofNat L)) (z0 (zl (AV.p 1 2)) T.e) T.e))) (z1 (AV.p 5 0)
  (z0 (z0 (zl (AV.i .i64 (II k))) T.e) (z0 (z0 (zl (AV.p 0 0)) T.e) T.e)) (z0 (z0 (z1 (AV.s (XX k)) (zl (AV.i .i64 (II k))) T.e) T.e) (z1 (AV.pv 4 (opF KK II XX TT k)) (z0 (zl (AV.b
  !decide (Int.ofNat (SS.wr s2) = Int.ofNat (SS.wr s2)))) T.e) T.e)))) (z1 (AV.p 0 0) (z1 (AV.p 4 0) (z0 (z0 (zl (AV.p 4 0)) (z0 (zl (AV.i .i64 (Int.ofNat k + (1 : Int)))) T.e)) (z0
  (z0 (zl (AV.b !(decide (Int.ofNat gq = Int.ofNat gq) && (natsEq gd gd && true)))) T.e) T.e)) (z0 (z0 (z1 (AV.i .i64 (II k)) (zl (AV.p 4 0)) T.e) T.e) (z1 (AV.b (decide (Int.ofNat
  k < Int.ofNat L))) (z1 (AV.b (decide (KK k = (2 : Int)))) (zl (AV.b !decide (Int.ofNat (SS.wr s2) = Int.ofNat (SS.wr s2)))) T.e) T.e))) (z1 (AV.i .i64 (Int.ofNat k)) (z0 (z0 (zl
  (AV.s (XX k))) T.e) (z0 (z0 (zl (AV.p 1 0)) T.e) T.e)) (z0 (z0 (z1 (AV.b !decide (pe = pe)) (zl (AV.p 5 0)) T.e) T.e) (z1 (AV.i .i64 (Int.ofNat k)) (z0 (zl (AV.i .i64 (Int.ofNat
  (CS.n c)))) T.e) T.e))))) (z0 (z0 (z0 (z0 (z0 (zl (AV.i .i64 (KK k))) (z0 (zl (AV.b !decide (Int.ofNat (CS.n c) = Int.ofNat (CS.n c)))) T.e)) (z0 (z0 (zl (AV.agg [AV.i .i64
  (Int.ofNat gq), AV.s gd])) T.e) T.e)) (z0 (z0 (zl (AV.p 8 1)) T.e) (z1 (AV.i .i64 (Int.ofNat k + (1 : Int))) (z1 (AV.b (decide (KK k = (2 : Int)))) (zl (AV.i .i64 (Int.ofNat
  (SS.wr s2)))) T.e) T.e))) (z0 (z0 (z0 (zl (AV.p 8 2)) T.e) (z0 (z0 (zl (AV.i .i64 (Int.ofNat (SS.wr s2)))) T.e) T.e)) (z0 (z0 (z1 (AV.i .i64 pe) (zl (AV.agg [AV.i .i64 (Int.ofNat
  gq), AV.s gd])) T.e) T.e) (z1 (AV.agg [AV.i .i64 (KK k), AV.i .i64 (II k), AV.s (XX k), AV.b (TT k)]) (z0 (zl (AV.p 4 0)) T.e) T.e)))) (z0 (z0 (z0 (z0 (zl (AV.p 8 1)) T.e) (z0 (z0
  (zl (AV.b !(decide (Int.ofNat gq = Int.ofNat gq) && (natsEq gd gd && true)))) T.e) T.e)) (z0 (z0 (z1 (AV.p 8 2) (zl (AV.p 8 1)) T.e) T.e) (z1 (AV.i .i64 (Int.ofNat k)) (z0 (zl
  (AV.b !decide (Int.ofNat (SS.wr s2) = Int.ofNat (SS.wr s2)))) T.e) T.e))) (z1 (AV.p 8 0) (z0 (z0 (zl (AV.i .i64 pe)) T.e) (z1 (AV.sv 4 L (opF KK II XX TT)) (z0 (zl (AV.p 1 0))
  T.e) T.e)) (z0 (z0 (z1 (AV.b (decide (KK k = (1 : Int)))) (zl (AV.p 8 1)) T.e) T.e) (z1 (AV.b (decide ((300 : Int) < Int.ofNat k))) (z1 (AV.b (decide (KK k = (3 : Int)))) (zl
  (AV.i .i64 (Int.ofNat (CS.n c)))) T.e) T.e)))))) { tree := z1 (AObj.segs 69 33799 [{ st := 0, sz := 1, n := 1, f := oneF (CV.i .i64 (Int.ofNat (SS.n s2))) }, { st := 1, sz := 65, n := 512, f := durF (SS.dur s2) (SS.torn s2) }, { st := 33281, sz := 1, n := 1, f := oneF (CV.opv (pB (SS.P s2)) 66 (pW (SS.P s2))) }, { st := 33282, sz := 1, n := 512, f := latF (lB (SS.P s2)) (lW (SS.P s2)) }, { st := 33794, sz := 5, n := 1, f := tailF (Int.ofNat (List.length (SS.P s2))) (Int.ofNat (SS.wr s2)) (SS.off s2) (SS.armed s2) (Int.ofNat (SS.left s2)) }]) (z1 (AObj.cells 51 5 [] (z1 (AV.lr 2 1 0 (SS.n s2) false) (z1 (AV.lr 3 2 0 (List.length (SS.P s2)) false) (zl (AV.i .i64 (SS.am s2))) T.e) (z1 (AV.i .i64 (Int.ofNat (SS.wr s2))) (zl (AV.b (SS.off s2))) T.e))) (z1 (AObj.rows 91 2 (List.length (SS.P s2)) (penF (oA (SS.P s2)) (oB (SS.P s2)))) (zl (AObj.rows 4 1 (CS.n c) (secF (CS.sec c2)))) T.e) (zl (AObj.cells 80 4 [] (z1 (AV.p 1 0) (z1 (AV.lr 6 2 0 (CS.n c) false) (zl (AV.b (CS.dead c2))) T.e) (zl (AV.lr 7 1 0 (CS.n c) false)))))) (z1 (AObj.rows 55 1 (SS.n s2) (imgF s2)) (z1 (AObj.segs 74 771 [{ st := 1, sz := 1, n := 1, f := oneF (CV.i .i64 (Int.ofNat (CS.n c2))) }, { st := 2, sz := 3, n := 256, f := cellF (CS.q c2) (CS.d c2) (CS.sp c2) }, { st := 770, sz := 1, n := 1, f := oneF (CV.b (CS.dead c2)) }] [(0, AV.p 0 0)]) (zl (AObj.cells 38 4 [AV.i .i64 (0 : Int), AV.i .i64 (0 : Int), AV.s [], AV.b false] (z1 (AV.i .i64 (KK k)) (z1 (AV.i .i64 (II k)) (zl (AV.b (TT k))) T.e) (zl (AV.s (XX k)))))) T.e) (zl (AObj.rows 45 2 (CS.n c) (valF (CS.q c2) (CS.d c2))))), next := 9, log := [7, 6, 5, 3, 2, 1, 0, 4, 8, 8] })
  Orc.z) := by kernel_rfl
theorem plE_vc (s : SS) (c : CS) (L k : Nat) (KK II : Nat → Int) (XX : Nat → List Nat) (TT : Nat → Bool) (hl : decide (Int.ofNat k < Int.ofNat L) = false) (K : Res → Orc → Prop) :
  runK Tryd.prog 1000000 (.code (loopAt Tryd.prog 3 0) 181 (mkT [(0, .i .i64 (Int.ofNat c.n)), (5, .p 0 0), (7, .p 1 0), (9, .p 4 0), (11, .p 5 0), (54, .sv 4 L (opF KK II XX TT)),
  (55, .i .i64 (Int.ofNat L)), (56, .i .i64 (Int.ofNat k))]) (mkH [some s.o, some (rsK s), some (rsR s), some (rsP s), some c.oa, some (rcK c.n c.dead), some (rcV c.n c.q c.d), some
  (rcB c.n c.sec)])) (Orc.f Orc.z) K = (decide (Int.ofNat k < Int.ofNat L) = false ∧ K (Res.st (XO.exit 0) (z1 (AV.i .i64 (Int.ofNat (CS.n c))) (z0 (z0 (z1 (AV.p 1 0) T.e (z0 T.e
  (zl (AV.i .i64 (Int.ofNat L))))) (zl (AV.p 5 0))) (z1 (AV.p 0 0) (z1 (AV.p 4 0) T.e (z0 T.e (zl (AV.b (decide (Int.ofNat k < Int.ofNat L)))))) T.e)) (z0 (z0 (z0 T.e (z0 T.e (zl
  (AV.i .i64 (Int.ofNat k))))) T.e) (z0 T.e (z0 (z0 T.e (zl (AV.sv 4 L (opF KK II XX TT)))) T.e)))) { tree := z1 (AObj.segs 69 33799 [{ st := 0, sz := 1, n := 1, f := oneF (CV.i .i64 (Int.ofNat (SS.n s))) }, { st := 1, sz := 65, n := 512, f := durF (SS.dur s) (SS.torn s) }, { st := 33281, sz := 1, n := 1, f := oneF (CV.opv (pB (SS.P s)) 66 (pW (SS.P s))) }, { st := 33282, sz := 1, n := 512, f := latF (lB (SS.P s)) (lW (SS.P s)) }, { st := 33794, sz := 5, n := 1, f := tailF (Int.ofNat (List.length (SS.P s))) (Int.ofNat (SS.wr s)) (SS.off s) (SS.armed s) (Int.ofNat (SS.left s)) }]) (z1 (AObj.cells 51 5 [] (z1 (AV.lr 2 1 0 (SS.n s) false) (z1 (AV.lr 3 2 0 (List.length (SS.P s)) false) (zl (AV.i .i64 (SS.am s))) T.e) (z1 (AV.i .i64 (Int.ofNat (SS.wr s))) (zl (AV.b (SS.off s))) T.e))) (z1 (AObj.rows 91 2 (List.length (SS.P s)) (penF (oA (SS.P s)) (oB (SS.P s)))) (zl (AObj.rows 4 1 (CS.n c) (secF (CS.sec c)))) T.e) (zl (AObj.cells 80 4 [] (z1 (AV.p 1 0) (z1 (AV.lr 6 2 0 (CS.n c) false) (zl (AV.b (CS.dead c))) T.e) (zl (AV.lr 7 1 0 (CS.n c) false)))))) (z1 (AObj.rows 55 1 (SS.n s) (imgF s)) (zl (AObj.segs 74 771 [{ st := 1, sz := 1, n := 1, f := oneF (CV.i .i64 (Int.ofNat (CS.n c))) }, { st := 2, sz := 3, n := 256, f := cellF (CS.q c) (CS.d c) (CS.sp c) }, { st := 770, sz := 1, n := 1, f := oneF (CV.b (CS.dead c)) }] [(0, AV.p 0 0)])) (zl (AObj.rows 45 2 (CS.n c) (valF (CS.q c) (CS.d c))))), next := 8, log := [] })
  Orc.z) := by kernel_rfl
theorem plB_vc (s : SS) (c : CS) (L k : Nat) (KK II : Nat → Int) (XX : Nat → List Nat) (TT : Nat → Bool) (hl : decide (Int.ofNat k < Int.ofNat L) = true) (h3 : decide ((300 : Int)
  < Int.ofNat k) = true) (K : Res → Orc → Prop) : runK Tryd.prog 1000000 (.code (loopAt Tryd.prog 3 0) 181 (mkT [(0, .i .i64 (Int.ofNat c.n)), (5, .p 0 0), (7, .p 1 0), (9, .p 4 0),
  (11, .p 5 0), (54, .sv 4 L (opF KK II XX TT)), (55, .i .i64 (Int.ofNat L)), (56, .i .i64 (Int.ofNat k))]) (mkH [some s.o, some (rsK s), some (rsR s), some (rsP s), some c.oa, some
  (rcK c.n c.dead), some (rcV c.n c.q c.d), some (rcB c.n c.sec)])) (Orc.t (Orc.t Orc.z)) K = (decide (Int.ofNat k < Int.ofNat L) = true ∧ ((0 : Int) ≤ Int.ofNat k ∧ Int.ofNat k <
  ↑L) ∧ True ∧ decide ((300 : Int) < Int.ofNat k) = true ∧ K (Res.st (XO.exit 0) (z1 (AV.i .i64 (Int.ofNat (CS.n c))) (z0 (z0 (z1 (AV.p 1 0) T.e (z0 T.e (zl (AV.i .i64 (Int.ofNat
  L))))) (z1 (AV.p 5 0) T.e (z0 T.e (zl (AV.pv 4 (opF KK II XX TT k)))))) (z1 (AV.p 0 0) (z1 (AV.p 4 0) T.e (z0 T.e (zl (AV.b (decide (Int.ofNat k < Int.ofNat L)))))) (z1 (AV.i .i64
  (Int.ofNat k)) T.e (z0 T.e (zl (AV.i .i64 (Int.ofNat k))))))) (z0 (z0 (z0 T.e (z0 T.e (zl (AV.i .i64 (Int.ofNat k))))) (z0 T.e (z0 T.e (zl (AV.agg [AV.i .i64 (KK k), AV.i .i64 (II
  k), AV.s (XX k), AV.b (TT k)]))))) (z0 (z0 T.e (z0 T.e (zl (AV.i .i64 (Int.ofNat k))))) (z1 (AV.p 8 0) (z0 T.e (zl (AV.sv 4 L (opF KK II XX TT)))) (z0 T.e (zl (AV.b (decide ((300
  : Int) < Int.ofNat k))))))))) { tree := z1 (AObj.segs 69 33799 [{ st := 0, sz := 1, n := 1, f := oneF (CV.i .i64 (Int.ofNat (SS.n s))) }, { st := 1, sz := 65, n := 512, f := durF (SS.dur s) (SS.torn s) }, { st := 33281, sz := 1, n := 1, f := oneF (CV.opv (pB (SS.P s)) 66 (pW (SS.P s))) }, { st := 33282, sz := 1, n := 512, f := latF (lB (SS.P s)) (lW (SS.P s)) }, { st := 33794, sz := 5, n := 1, f := tailF (Int.ofNat (List.length (SS.P s))) (Int.ofNat (SS.wr s)) (SS.off s) (SS.armed s) (Int.ofNat (SS.left s)) }]) (z1 (AObj.cells 51 5 [] (z1 (AV.lr 2 1 0 (SS.n s) false) (z1 (AV.lr 3 2 0 (List.length (SS.P s)) false) (zl (AV.i .i64 (SS.am s))) T.e) (z1 (AV.i .i64 (Int.ofNat (SS.wr s))) (zl (AV.b (SS.off s))) T.e))) (z1 (AObj.rows 91 2 (List.length (SS.P s)) (penF (oA (SS.P s)) (oB (SS.P s)))) (zl (AObj.rows 4 1 (CS.n c) (secF (CS.sec c)))) T.e) (zl (AObj.cells 80 4 [] (z1 (AV.p 1 0) (z1 (AV.lr 6 2 0 (CS.n c) false) (zl (AV.b (CS.dead c))) T.e) (zl (AV.lr 7 1 0 (CS.n c) false)))))) (z1 (AObj.rows 55 1 (SS.n s) (imgF s)) (z1 (AObj.segs 74 771 [{ st := 1, sz := 1, n := 1, f := oneF (CV.i .i64 (Int.ofNat (CS.n c))) }, { st := 2, sz := 3, n := 256, f := cellF (CS.q c) (CS.d c) (CS.sp c) }, { st := 770, sz := 1, n := 1, f := oneF (CV.b (CS.dead c)) }] [(0, AV.p 0 0)]) (zl (AObj.cells 38 4 [AV.i .i64 (0 : Int), AV.i .i64 (0 : Int), AV.s [], AV.b false] (z1 (AV.i .i64 (KK k)) (z1 (AV.i .i64 (II k)) (zl (AV.b (TT k))) T.e) (zl (AV.s (XX k)))))) T.e) (zl (AObj.rows 45 2 (CS.n c) (valF (CS.q c) (CS.d c))))), next := 9, log := [8, 8] })
  Orc.z) := by kernel_rfl
theorem plG_vc (s2 : SS) (c2 : CS) (n : Nat) (gq : Nat) (gd : List Nat) (k : Nat) (hl : decide (Int.ofNat k < Int.ofNat n) = true) (hg : (!(decide (Int.ofNat gq = Int.ofNat gq) &&
  (natsEq gd gd && true))) = false) (K : Res → Orc → Prop) : runK Tryd.prog 1000000 (.code (loopAt Tryd.prog 3 1) 181 (mkT [(0, .i .i64 (Int.ofNat n)), (5, .p 0 0), (7, .p 1 0), (9,
  .p 4 0), (11, .p 5 0), (19, .i .i64 (Int.ofNat k))]) (mkH [some s2.o, some (rsK s2), some (rsR s2), some (rsP s2), some c2.oa, some (rcK n c2.dead), some (rcV n c2.q c2.d), some
  (rcB n c2.sec)])) (Orc.t (Orc.cal [4, 0] (AV.agg [AV.i .i64 (Int.ofNat gq), AV.s gd]) [Upd.keep, Upd.keep] (Orc.cal [1, 2, 3, 5, 6, 7] (AV.agg [AV.i .i64 (Int.ofNat gq), AV.s gd])
  [Upd.keep, Upd.keep, Upd.keep, Upd.keep, Upd.keep, Upd.keep] (Orc.f Orc.z)))) K = (decide (Int.ofNat k < Int.ofNat n) = true ∧ Con Tryd.prog 18 [AV.p 0 0, AV.i .i64 (Int.ofNat k)]
  [some (CS.o c2), some (SS.o s2)] (AV.agg [AV.i .i64 (Int.ofNat gq), AV.s gd]) [Upd.keep, Upd.keep] ∧ Con Tryd.prog 19 [AV.p 3 0, AV.i .i64 (Int.ofNat k)] [some (rsA 2 s2), some
  (rsR s2), some (rsP s2), some (rcO 0 4 5 n (CS.dead c2)), some (rcV n (CS.q c2) (CS.d c2)), some (rcB n (CS.sec c2))] (AV.agg [AV.i .i64 (Int.ofNat gq), AV.s gd]) [Upd.keep,
  Upd.keep, Upd.keep, Upd.keep, Upd.keep, Upd.keep] ∧ True ∧ (!(decide (Int.ofNat gq = Int.ofNat gq) && (natsEq gd gd && true))) = false ∧ ((-9223372036854775808 : Int) ≤ Int.ofNat
  k + (1 : Int) ∧ Int.ofNat k + (1 : Int) ≤ (9223372036854775807 : Int)) ∧ K (Res.st XO.nrm (z1 (AV.i .i64 (Int.ofNat n)) (z0 (z0 (z1 (AV.p 1 0) T.e (z0 (z0 T.e (z0 (zl (AV.p 4 0))
  T.e)) T.e)) (z1 (AV.p 5 0) (z1 (AV.i .i64 (Int.ofNat k + (1 : Int))) (z0 T.e (z0 (zl (AV.i .i64 (Int.ofNat n))) T.e)) T.e) (z0 (z0 T.e (z0 (zl (AV.i .i64 (Int.ofNat k))) T.e))
  T.e))) (z1 (AV.p 0 0) (z1 (AV.p 4 0) T.e (z0 (z0 T.e (z0 (zl (AV.agg [AV.i .i64 (Int.ofNat gq), AV.s gd])) T.e)) T.e)) (z0 (z0 (z0 T.e (z0 (zl (AV.i .i64 (Int.ofNat k))) T.e))
  T.e) (z0 (z0 T.e (z0 (zl (AV.b !(decide (Int.ofNat gq = Int.ofNat gq) && (natsEq gd gd && true)))) T.e)) T.e)))) (z0 (z0 (z0 T.e (z0 (z0 T.e (z0 (zl (AV.i .i64 (Int.ofNat k)))
  T.e)) T.e)) (z0 (z0 (z0 T.e (z0 (zl (AV.b (decide (Int.ofNat k < Int.ofNat n)))) T.e)) T.e) (z0 (z0 T.e (z0 (zl (AV.agg [AV.i .i64 (Int.ofNat gq), AV.s gd])) T.e)) T.e))) (z0 (z0
  (z0 (z0 T.e (z0 (zl (AV.i .i64 (Int.ofNat k))) T.e)) T.e) (z0 (z0 T.e (z0 (zl (AV.p 5 0)) T.e)) T.e)) (z0 (z0 (z0 T.e (z0 (zl (AV.i .i64 (Int.ofNat k + (1 : Int)))) T.e)) T.e)
  T.e)))) { tree := z1 (AObj.segs 69 33799 [{ st := 0, sz := 1, n := 1, f := oneF (CV.i .i64 (Int.ofNat (SS.n s2))) }, { st := 1, sz := 65, n := 512, f := durF (SS.dur s2) (SS.torn s2) }, { st := 33281, sz := 1, n := 1, f := oneF (CV.opv (pB (SS.P s2)) 66 (pW (SS.P s2))) }, { st := 33282, sz := 1, n := 512, f := latF (lB (SS.P s2)) (lW (SS.P s2)) }, { st := 33794, sz := 5, n := 1, f := tailF (Int.ofNat (List.length (SS.P s2))) (Int.ofNat (SS.wr s2)) (SS.off s2) (SS.armed s2) (Int.ofNat (SS.left s2)) }]) (z1 (AObj.cells 51 5 [] (z1 (AV.lr 2 1 0 (SS.n s2) false) (z1 (AV.lr 3 2 0 (List.length (SS.P s2)) false) (zl (AV.i .i64 (SS.am s2))) T.e) (z1 (AV.i .i64 (Int.ofNat (SS.wr s2))) (zl (AV.b (SS.off s2))) T.e))) (z1 (AObj.rows 91 2 (List.length (SS.P s2)) (penF (oA (SS.P s2)) (oB (SS.P s2)))) (zl (AObj.rows 4 1 n (secF (CS.sec c2)))) T.e) (zl (AObj.cells 80 4 [] (z1 (AV.p 1 0) (z1 (AV.lr 6 2 0 n false) (zl (AV.b (CS.dead c2))) T.e) (zl (AV.lr 7 1 0 n false)))))) (z1 (AObj.rows 55 1 (SS.n s2) (imgF s2)) (zl (AObj.segs 74 771 [{ st := 1, sz := 1, n := 1, f := oneF (CV.i .i64 (Int.ofNat (CS.n c2))) }, { st := 2, sz := 3, n := 256, f := cellF (CS.q c2) (CS.d c2) (CS.sp c2) }, { st := 770, sz := 1, n := 1, f := oneF (CV.b (CS.dead c2)) }] [(0, AV.p 0 0)])) (zl (AObj.rows 45 2 n (valF (CS.q c2) (CS.d c2))))), next := 8, log := [] })
  Orc.z) := by kernel_rfl
theorem plH_vc (s2 : SS) (c2 : CS) (n : Nat) (k : Nat) (hl : decide (Int.ofNat k < Int.ofNat n) = false) (K : Res → Orc → Prop) : runK Tryd.prog 1000000 (.code (loopAt Tryd.prog 3
  1) 181 (mkT [(0, .i .i64 (Int.ofNat n)), (5, .p 0 0), (7, .p 1 0), (9, .p 4 0), (11, .p 5 0), (19, .i .i64 (Int.ofNat k))]) (mkH [some s2.o, some (rsK s2), some (rsR s2), some
  (rsP s2), some c2.oa, some (rcK n c2.dead), some (rcV n c2.q c2.d), some (rcB n c2.sec)])) (Orc.f Orc.z) K = (decide (Int.ofNat k < Int.ofNat n) = false ∧ K (Res.st (XO.exit 3)
  (z1 (AV.i .i64 (Int.ofNat n)) (z0 (z0 (zl (AV.p 1 0)) (z1 (AV.p 5 0) (z1 (AV.i .i64 (Int.ofNat k)) (z0 T.e (z0 (zl (AV.i .i64 (Int.ofNat n))) T.e)) T.e) T.e)) (z1 (AV.p 0 0) (zl
  (AV.p 4 0)) T.e)) (z0 (z0 T.e (z0 (z0 (z0 T.e (z0 (zl (AV.b (decide (Int.ofNat k < Int.ofNat n)))) T.e)) T.e) T.e)) (z0 (z0 (z0 (z0 T.e (z0 (zl (AV.i .i64 (Int.ofNat k))) T.e))
  T.e) T.e) T.e))) { tree := z1 (AObj.segs 69 33799 [{ st := 0, sz := 1, n := 1, f := oneF (CV.i .i64 (Int.ofNat (SS.n s2))) }, { st := 1, sz := 65, n := 512, f := durF (SS.dur s2) (SS.torn s2) }, { st := 33281, sz := 1, n := 1, f := oneF (CV.opv (pB (SS.P s2)) 66 (pW (SS.P s2))) }, { st := 33282, sz := 1, n := 512, f := latF (lB (SS.P s2)) (lW (SS.P s2)) }, { st := 33794, sz := 5, n := 1, f := tailF (Int.ofNat (List.length (SS.P s2))) (Int.ofNat (SS.wr s2)) (SS.off s2) (SS.armed s2) (Int.ofNat (SS.left s2)) }]) (z1 (AObj.cells 51 5 [] (z1 (AV.lr 2 1 0 (SS.n s2) false) (z1 (AV.lr 3 2 0 (List.length (SS.P s2)) false) (zl (AV.i .i64 (SS.am s2))) T.e) (z1 (AV.i .i64 (Int.ofNat (SS.wr s2))) (zl (AV.b (SS.off s2))) T.e))) (z1 (AObj.rows 91 2 (List.length (SS.P s2)) (penF (oA (SS.P s2)) (oB (SS.P s2)))) (zl (AObj.rows 4 1 n (secF (CS.sec c2)))) T.e) (zl (AObj.cells 80 4 [] (z1 (AV.p 1 0) (z1 (AV.lr 6 2 0 n false) (zl (AV.b (CS.dead c2))) T.e) (zl (AV.lr 7 1 0 n false)))))) (z1 (AObj.rows 55 1 (SS.n s2) (imgF s2)) (zl (AObj.segs 74 771 [{ st := 1, sz := 1, n := 1, f := oneF (CV.i .i64 (Int.ofNat (CS.n c2))) }, { st := 2, sz := 3, n := 256, f := cellF (CS.q c2) (CS.d c2) (CS.sp c2) }, { st := 770, sz := 1, n := 1, f := oneF (CV.b (CS.dead c2)) }] [(0, AV.p 0 0)])) (zl (AObj.rows 45 2 n (valF (CS.q c2) (CS.d c2))))), next := 8, log := [] })
  Orc.z) := by kernel_rfl
theorem plays_vc (s : SS) (c : CS) (s2 : SS) (c2 : CS) (n : Nat) (L : Nat) (KK : Nat → Int) (II : Nat → Int) (XX : Nat → List Nat) (TT : Nat → Bool) (K : Res → Orc → Prop) : runK
  Tryd.prog 1000000 (.call 3 [.i .i64 (Int.ofNat n), .sv 4 L (opF KK II XX TT)] (mkH [])) (Orc.cal [] (AV.b true) [] (Orc.c (Orc.cal [] (AV.tup [AV.p 0 0, AV.i .i64 (0 : Int)])
  [Upd.set (SS.o s)] (Orc.cal [] (AV.tup [AV.p 0 0, AV.i .i64 (0 : Int)]) [Upd.set (rsA 2 s), Upd.set (rsR s), Upd.set (rsP s)] (Orc.cal [0] (AV.tup [AV.p 1 0, AV.i .i64 (0 : Int)])
  [Upd.keep, Upd.set (CS.oa c)] (Orc.cal [1, 2, 3] (AV.tup [AV.p 3 0, AV.i .i64 (0 : Int)]) [Upd.keep, Upd.keep, Upd.keep, Upd.set (rcO 0 4 5 n false), Upd.set (rcV n (CS.q c) (CS.d
  c)), Upd.set (rcB n (CS.sec c))] (Orc.c (Orc.c (Orc.c (Orc.c (Orc.c (Orc.c (Orc.c (Orc.c (Orc.lop [0, 1, 2, 3, 4, 5, 6, 7] [0, 5, 7, 9, 11, 54, 55, 56] 0 (XO.exit 0) [(0, AV.i
  .i64 (Int.ofNat n)), (5, AV.p 0 0), (7, AV.p 1 0), (9, AV.p 4 0), (11, AV.p 5 0)] [some (SS.o s2), some (rsK s2), some (rsR s2), some (rsP s2), some (CS.oa c2), some (rcK n
  (CS.dead c2)), some (rcV n (CS.q c2) (CS.d c2)), some (rcB n (CS.sec c2))] (Orc.lop [8, 9, 10, 11, 12, 13, 14, 15] [0, 5, 7, 9, 11, 19] 0 (XO.exit 3) [(5, AV.p 0 0), (7, AV.p 1
  0)] [some (SS.o s2), some (rsK s2), some (rsR s2), some (rsP s2)] (Orc.cal [16] (AV.sv 1 (SS.n s2) (imgF s2)) [Upd.keep] (Orc.cal [18] (AV.b true) [Upd.gone]
  Orc.z)))))))))))))))))) K = (Con Tryd.prog 5 [] [] (AV.b true) [] ∧ True ∧ Con Tryd.prog 6 [AV.i .i64 (16 : Int)] [] (AV.tup [AV.p 0 0, AV.i .i64 (0 : Int)]) [Upd.set (SS.o s)] ∧
  Con Tryd.prog 7 [AV.i .i64 (16 : Int)] [] (AV.tup [AV.p 0 0, AV.i .i64 (0 : Int)]) [Upd.set (rsA 2 s), Upd.set (rsR s), Upd.set (rsP s)] ∧ Con Tryd.prog 8 [AV.p 0 0, AV.i .i64
  (Int.ofNat n)] [some (SS.o s)] (AV.tup [AV.p 1 0, AV.i .i64 (0 : Int)]) [Upd.keep, Upd.set (CS.oa c)] ∧ Con Tryd.prog 9 [AV.p 0 0, AV.i .i64 (Int.ofNat n)] [some (rsA 2 s), some
  (rsR s), some (rsP s)] (AV.tup [AV.p 3 0, AV.i .i64 (0 : Int)]) [Upd.keep, Upd.keep, Upd.keep, Upd.set (rcO 0 4 5 n false), Upd.set (rcV n (CS.q c) (CS.d c)), Upd.set (rcB n
  (CS.sec c))] ∧ True ∧ True ∧ True ∧ True ∧ LDoes Tryd.prog (loopAt Tryd.prog 3 0) 181 0 (mkT [(0, AV.i .i64 (Int.ofNat n)), (5, AV.p 0 0), (7, AV.p 1 0), (9, AV.p 4 0), (11, AV.p
  5 0), (54, AV.sv 4 L (opF KK II XX TT)), (55, AV.i .i64 (Int.ofNat L)), (56, AV.i .i64 (0 : Int))]) [some (SS.o s), some (rsK s), some (rsR s), some (rsP s), some (CS.oa c), some
  (rcK n false), some (rcV n (CS.q c) (CS.d c)), some (rcB n (CS.sec c))] (XO.exit 0) (mkT [(0, AV.i .i64 (Int.ofNat n)), (5, AV.p 0 0), (7, AV.p 1 0), (9, AV.p 4 0), (11, AV.p 5
  0)]) [some (SS.o s2), some (rsK s2), some (rsR s2), some (rsP s2), some (CS.oa c2), some (rcK n (CS.dead c2)), some (rcV n (CS.q c2) (CS.d c2)), some (rcB n (CS.sec c2))] ∧ LDoes
  Tryd.prog (loopAt Tryd.prog 3 1) 181 0 (mkT [(0, AV.i .i64 (Int.ofNat n)), (5, AV.p 0 0), (7, AV.p 1 0), (9, AV.p 4 0), (11, AV.p 5 0), (19, AV.i .i64 (0 : Int))]) [some (SS.o
  s2), some (rsK s2), some (rsR s2), some (rsP s2), some (CS.oa c2), some (rcK n (CS.dead c2)), some (rcV n (CS.q c2) (CS.d c2)), some (rcB n (CS.sec c2))] (XO.exit 3) (mkT [(5,
  AV.p 0 0), (7, AV.p 1 0)]) [some (SS.o s2), some (rsK s2), some (rsR s2), some (rsP s2)] ∧ Con Tryd.prog 23 [AV.p 0 0] [some (SS.o s2)] (AV.sv 1 (SS.n s2) (imgF s2)) [Upd.keep] ∧
  True ∧ Con Tryd.prog 22 [AV.sv 1 (SS.n s2) (imgF s2), AV.lr 0 1 0 (SS.n s2) false] [some (rsR s2)] (AV.b true) [Upd.gone] ∧ K (Res.rv (AV.b true) { tree := z0 (z0 (z0 (z0 (z0 T.e T.e) T.e) (z0 (zl (AObj.rows 91 2 (List.length (SS.P s2)) (penF (oA (SS.P s2)) (oB (SS.P s2))))) T.e)) (z0 (z0 (zl (AObj.cells 51 5 [] (z1 (AV.lr 18 1 0 (SS.n s2) false) (z1 (AV.lr 19 2 0 (List.length (SS.P s2)) false) (zl (AV.i .i64 (SS.am s2))) T.e) (z1 (AV.i .i64 (Int.ofNat (SS.wr s2))) (zl (AV.b (SS.off s2))) T.e)))) T.e) (z0 T.e T.e))) (z0 (z0 (z0 (zl (AObj.segs 69 33799 [{ st := 0, sz := 1, n := 1, f := oneF (CV.i .i64 (Int.ofNat (SS.n s2))) }, { st := 1, sz := 65, n := 512, f := durF (SS.dur s2) (SS.torn s2) }, { st := 33281, sz := 1, n := 1, f := oneF (CV.opv (pB (SS.P s2)) 66 (pW (SS.P s2))) }, { st := 33282, sz := 1, n := 512, f := latF (lB (SS.P s2)) (lW (SS.P s2)) }, { st := 33794, sz := 5, n := 1, f := tailF (Int.ofNat (List.length (SS.P s2))) (Int.ofNat (SS.wr s2)) (SS.off s2) (SS.armed s2) (Int.ofNat (SS.left s2)) }])) T.e) (z0 T.e T.e)) (z0 (z0 (z0 T.e T.e) T.e) (z0 T.e T.e))), next := 20, log := [18, 19, 18, 17, 16, 15, 14, 13, 12, 11, 10, 9, 8, 15, 14, 13, 12, 11, 10, 9, 8, 7, 6, 5, 4, 3, 2, 1, 0, 7, 6, 5, 4, 3, 2, 1, 0] })
  Orc.z) := by kernel_rfl
theorem playsF_vc (s : SS) (n : Nat) (L : Nat) (KK : Nat → Int) (II : Nat → Int) (XX : Nat → List Nat) (TT : Nat → Bool) (ee : Int) (n e : Int) (K : Res → Orc → Prop) : runK
  Tryd.prog 1000000 (.call 3 [.i .i64 n, .sv 4 L (opF KK II XX TT)] (mkH [])) (Orc.cal [] (AV.b true) [] (Orc.c (Orc.cal [] (AV.tup [AV.p 0 0, AV.i .i64 (0 : Int)]) [Upd.set (SS.o
  s)] (Orc.cal [] (AV.tup [AV.p 0 0, AV.i .i64 (0 : Int)]) [Upd.set (rsA 2 s), Upd.set (rsR s), Upd.set (rsP s)] (Orc.cal [0] (AV.tup [AV.p0, AV.i .i64 ee]) [Upd.keep] (Orc.cal [1,
  2, 3] (AV.tup [AV.p0, AV.i .i64 ee]) [Upd.keep, Upd.keep, Upd.keep] (Orc.t (Orc.t (Orc.t (Orc.t (Orc.t (Orc.f (Orc.c (Orc.c Orc.z)))))))))))))) K = (Con Tryd.prog 5 [] [] (AV.b
  true) [] ∧ True ∧ Con Tryd.prog 6 [AV.i .i64 (16 : Int)] [] (AV.tup [AV.p 0 0, AV.i .i64 (0 : Int)]) [Upd.set (SS.o s)] ∧ Con Tryd.prog 7 [AV.i .i64 (16 : Int)] [] (AV.tup [AV.p 0
  0, AV.i .i64 (0 : Int)]) [Upd.set (rsA 2 s), Upd.set (rsR s), Upd.set (rsP s)] ∧ Con Tryd.prog 8 [AV.p 0 0, AV.i .i64 n] [some (SS.o s)] (AV.tup [AV.p0, AV.i .i64 ee]) [Upd.keep]
  ∧ Con Tryd.prog 9 [AV.p 0 0, AV.i .i64 n] [some (rsA 2 s), some (rsR s), some (rsP s)] (AV.tup [AV.p0, AV.i .i64 ee]) [Upd.keep, Upd.keep, Upd.keep] ∧ (!!decide (ee = ee)) = true
  ∧ (!!decide (ee = ee)) = true ∧ True ∧ (!!decide (ee = ee)) = true ∧ (!!decide (ee = ee)) = true ∧ True ∧ (!!decide (ee = ee)) = true ∧ True ∧ (!decide (ee = ee)) = false ∧ True ∧
  K (Res.rv (AV.b true) { tree := z1 (AObj.segs 69 33799 [{ st := 0, sz := 1, n := 1, f := oneF (CV.i .i64 (Int.ofNat (SS.n s))) }, { st := 1, sz := 65, n := 512, f := durF (SS.dur s) (SS.torn s) }, { st := 33281, sz := 1, n := 1, f := oneF (CV.opv (pB (SS.P s)) 66 (pW (SS.P s))) }, { st := 33282, sz := 1, n := 512, f := latF (lB (SS.P s)) (lW (SS.P s)) }, { st := 33794, sz := 5, n := 1, f := tailF (Int.ofNat (List.length (SS.P s))) (Int.ofNat (SS.wr s)) (SS.off s) (SS.armed s) (Int.ofNat (SS.left s)) }]) (z1 (AObj.cells 51 5 [] (z1 (AV.lr 2 1 0 (SS.n s) false) (z1 (AV.lr 3 2 0 (List.length (SS.P s)) false) (zl (AV.i .i64 (SS.am s))) T.e) (z1 (AV.i .i64 (Int.ofNat (SS.wr s))) (zl (AV.b (SS.off s))) T.e))) (zl (AObj.rows 91 2 (List.length (SS.P s)) (penF (oA (SS.P s)) (oB (SS.P s))))) T.e) (zl (AObj.rows 55 1 (SS.n s) (imgF s))), next := 4, log := [3, 2, 1, 0] })
  Orc.z) := by kernel_rfl
noncomputable def opP (p : CS × SS) (kk i : Int) (x : List Nat) (t : Bool) : CS × SS :=
  bif decide (kk = (1 : Int)) then (p.1, p.2.arm i) else bif decide (kk = (2 : Int)) then (p.1, p.2.fail) else bif decide (kk = (3 : Int)) then (opened (p.2.fail.revived i t) p.1.n, p.2.fail.revived i t) else (p.1.putC p.2 i x, p.1.putS p.2 i x)
noncomputable def plP (n : Nat) (KK II : Nat → Int) (XX : Nat → List Nat) (TT : Nat → Bool) : Nat → CS × SS
  | 0 => (opened (SS.new 16) n, SS.new 16)
  | k + 1 => opP (plP n KK II XX TT k) (KK k) (II k) (XX k) (TT k)
theorem lkQ_le (b : Nat → Nat) : lkQ b ≤ 1099511627776 := by
  unfold lkQ
  cases h : okB b with
  | true => rw [cond_true]; exact (ok_parts h).2.2.2.1
  | false => rw [cond_false]; omega
theorem seeQ_le (s : SS) (a : Int) : seeQ s a ≤ 1099511627776 := by
  unfold seeQ
  split
  · exact lkQ_le _
  · omega
theorem RInv.opened (s : SS) (n : Nat) : RInv (Cl.opened s n) := by
  refine ⟨fun k => ?_, fun k => ?_⟩
  · show (bif Nat.blt k n then opQ s k else 0) ≤ _
    cases Nat.blt k n with
    | false => rw [cond_false]; omega
    | true =>
      rw [cond_true]
      unfold opQ nwQ
      split <;> exact seeQ_le _ _
  · show (bif Nat.blt k n then opQ s k else 0) = 0 → (bif Nat.blt k n then opS s k else 0) = 0
    cases Nat.blt k n with
    | false => rw [cond_false, cond_false]; exact fun h => h
    | true =>
      rw [cond_true, cond_true]
      unfold opQ opS nwQ nwS
      cases h : Nat.blt (seeQ s (Int.ofNat k * 2 + 0)) (seeQ s (Int.ofNat k * 2 + 1)) with
      | true => exact fun _ => rfl
      | false =>
        intro h0
        have h0 : seeQ s (Int.ofNat k * 2 + 0) = 0 := h0
        simp only [h0]
theorem RInv.put {c : CS} (r : RInv c) (s : SS) (i : Int) (x : List Nat) : RInv (c.putC s i x) ∧ (c.putC s i x).n = c.n := by
  unfold CS.putC
  split
  · exact ⟨r, rfl⟩
  · rename_i h
    have h := of_decide_eq_true h
    obtain ⟨_, _, _, hq⟩ := no_in h
    split
    · refine ⟨⟨fun k => ?_, fun k => ?_⟩, rfl⟩
      · show (bif Nat.beq k i.toNat then c.q i.toNat + 1 else c.q k) ≤ _
        cases Nat.beq k i.toNat with
        | true => rw [cond_true]; omega
        | false => rw [cond_false]; exact r.q k
      · show (bif Nat.beq k i.toNat then c.q i.toNat + 1 else c.q k) = 0 → (bif Nat.beq k i.toNat then 1 - c.sp i.toNat else c.sp k) = 0
        cases Nat.beq k i.toNat with
        | true => rw [cond_true]; exact fun h => absurd h (by omega)
        | false => rw [cond_false, cond_false]; exact r.z k
    · exact ⟨⟨r.q, r.z⟩, rfl⟩
theorem putS_n (c : CS) (s : SS) (i : Int) (x : List Nat) : (c.putS s i x).n = s.n := by
  unfold CS.putS
  split
  · rfl
  · exact cmS_n _ _ _ _
theorem fr_on (s : SS) (kk : Int) (tt : Bool) : (s.fail.revived kk tt).off = false ∧ (s.fail.revived kk tt).n = s.n := by
  have e : s.fail.revived kk tt = match tt && Nat.blt (keepN kk s.fail.P.length) s.fail.P.length with
    | true => ((s.fail.flush (keepN kk s.fail.P.length)).lay (oA s.fail.P (keepN kk s.fail.P.length)) (fun _ => 0) true).on
    | false => (s.fail.flush (keepN kk s.fail.P.length)).on := rfl
  rw [e]
  cases tt && Nat.blt (keepN kk s.fail.P.length) s.fail.P.length <;> exact ⟨rfl, rfl⟩
structure PI (n k : Nat) (p : CS × SS) : Prop where
  inv : Inv p.1 p.2 k
  r : RInv p.1
  cn : p.1.n = n
  sn : p.2.n = 16
theorem PI.op {n k : Nat} {p : CS × SS} (h : PI n k p) (hn : n ≤ 8) (kk i : Int) (x : List Nat) (t : Bool) (hi : i ≤ 9223372036854775807) (hx : ∀ b ∈ x, b < 256) : PI n (k + 1) (opP p kk i x t) := by
  have hI := h.inv.mono (Nat.le_succ k)
  unfold opP
  cases decide (kk = 1) with
  | true => rw [cond_true]; exact ⟨⟨hI.hc, hI.hs, hI.sp, hI.ok.arm hi, hI.byt.arm i⟩, h.r, h.cn, h.sn⟩
  | false =>
    rw [cond_false]
    cases decide (kk = 2) with
    | true => rw [cond_true]; exact ⟨⟨hI.hc, hI.hs, hI.sp, hI.ok.fail, hI.byt.fail⟩, h.r, h.cn, h.sn⟩
    | false =>
      rw [cond_false]
      cases decide (kk = 3) with
      | true =>
        rw [cond_true]
        obtain ⟨e1, e2⟩ := fr_on p.2 i t
        refine ⟨.opened (by rw [h.cn]; omega) (by rw [e2, h.sn, h.cn]; omega) (hI.ok.fail.revived i t) (hI.byt.fail.revived i t), .opened _ _, h.cn, by show (p.2.fail.revived i t).n = 16; rw [e2, h.sn]⟩
      | false =>
        rw [cond_false]
        exact ⟨h.inv.put i x hx, (h.r.put p.2 i x).1, by rw [(h.r.put p.2 i x).2]; exact h.cn, by show (p.1.putS p.2 i x).n = 16; rw [putS_n]; exact h.sn⟩
theorem PI.at_ {n : Nat} (hn : n ≤ 8) (KK II : Nat → Int) (XX : Nat → List Nat) (TT : Nat → Bool) (hI : ∀ k, II k ≤ 9223372036854775807) (hX : ∀ k, ∀ b ∈ XX k, b < 256) : ∀ k, PI n k (plP n KK II XX TT k)
  | 0 => ⟨.opened (by omega) (by show 2 * n ≤ 16; omega) (.new (by decide)) (.new 16), .opened _ _, rfl, rfl⟩
  | k + 1 => (PI.at_ hn KK II XX TT hI hX k).op hn _ _ _ _ (hI k) (hX k)
noncomputable def plT (n L k : Nat) (KK II : Nat → Int) (XX : Nat → List Nat) (TT : Nat → Bool) : List (Nat × AV) :=
  [(0, .i .i64 (Int.ofNat n)), (5, .p 0 0), (7, .p 1 0), (9, .p 4 0), (11, .p 5 0), (54, .sv 4 L (opF KK II XX TT)), (55, .i .i64 (Int.ofNat L)), (56, .i .i64 (Int.ofNat k))]
noncomputable def plO (n : Nat) (p : CS × SS) : List (Option AObj) := [some p.2.o, some (rsK p.2), some (rsR p.2), some (rsP p.2), some p.1.oa, some (rcK n p.1.dead), some (rcV n p.1.q p.1.d), some (rcB n p.1.sec)]
theorem rset2 {g : FuncId} {args : List AV} {v : AV} {s s' : SS} (h : Con Tryd.prog g args [some (rsA 2 s), some (rsR s), some (rsP s)] v [.set (rsA 2 s'), .keep, .keep]) (e1 : rsR s = rsR s') (e2 : rsP s = rsP s') :
    Con Tryd.prog g args [some (rsA 2 s), some (rsR s), some (rsP s)] v [.set (rsA 2 s'), .set (rsR s'), .set (rsP s')] := by
  rw [← e1, ← e2]
  exact h.oeq (OEqL.refl _) (OEqL.refl _)
theorem same1 (a : Int) : (!!decide (a = a)) = true := by simp
theorem same0 (a : Int) : (!decide (a = a)) = false := by simp
theorem nats_rf (d : List Nat) : natsEq d d = true := (natsEq_iff d d).2 rfl
theorem cell1 (g : Nat) (d : List Nat) : (!!(decide (Int.ofNat g = Int.ofNat g) && (natsEq d d && true))) = true := by rw [nats_rf]; simp
theorem cell0 (g : Nat) (d : List Nat) : (!(decide (Int.ofNat g = Int.ofNat g) && (natsEq d d && true))) = false := by rw [nats_rf]; simp
theorem pl_round (n L k : Nat) (hn1 : 1 ≤ n) (hn : n ≤ 8) (KK II : Nat → Int) (XX : Nat → List Nat) (TT : Nat → Bool) (c : CS) (s : SS) (h : PI n k (c, s)) (hk : k < L) (h300 : ¬ 300 < k) (hx : ∀ b ∈ XX k, b < 256) :
    ∃ o, ∀ K : Res → Orc → Prop, (∀ σ tm1 H1, StIs 0 σ [] tm1 H1 (plT n L (k + 1) KK II XX TT) (plO n (opP (c, s) (KK k) (II k) (XX k) (TT k))) → K (Res.st XO.nrm tm1 H1) Orc.z) → runK Tryd.prog 1000000 (.code (loopAt Tryd.prog 3 0) 181 (mkT (plT n L k KK II XX TT)) (mkH (plO n (c, s)))) o K := by
  have hl : decide (Int.ofNat k < Int.ofNat L) = true := dt (by simp; omega)
  have h3 : decide ((300 : Int) < Int.ofNat k) = false := df (by simp; omega)
  have rk : (0 : Int) ≤ Int.ofNat k ∧ Int.ofNat k < (↑L : Int) := ⟨by simp, by simp; omega⟩
  have r3 : (-9223372036854775808 : Int) ≤ Int.ofNat k + (1 : Int) ∧ Int.ofNat k + (1 : Int) ≤ (9223372036854775807 : Int) := ⟨by simp <;> omega, by simp <;> omega⟩
  have hI := h.inv
  have cn : c.n = n := h.cn
  have sn : s.n = 16 := h.sn
  subst cn
  have okm : OkM s k := hI.ok
  have hP : s.P.length ≤ 1073741824 := by have := okm.P; omega
  have hc := hI.hc
  by_cases k1 : KK k = 1
  · have d1 : decide (KK k = (1 : Int)) = true := dt k1
    have e : opP (c, s) (KK k) (II k) (XX k) (TT k) = (c, s.arm (II k)) := by unfold opP; rw [d1]; rfl
    rw [e]
    have a1 := arm2_con s (II k)
    have a2 := rset2 (rarm2_con s (II k)) rfl rfl
    have g1 := get_con c (s.arm (II k)) (II k) hc
    have g2 := rget_con c (s.arm (II k)) (II k)
    have w1 := writes2_con (s.arm (II k))
    have l1 := len_con c (s.arm (II k))
    refine ⟨_, fun K hK => (pl1_vc s c (s.arm (II k)) (c.getQ (II k)) (c.getD (II k)) L k KK II XX TT hl h3 (cell1 _ _) d1 K).mpr ?_⟩
    repeat' (first | exact trivial | assumption | exact cell1 _ _ | exact cell0 _ _ | exact same1 _ | exact same0 _ | apply And.intro)
    refine hK [0, 1, 2, 3, 4, 5, 6, 7] _ _ ?_
    exact st_k [0, 1, 2, 3, 4, 5, 6, 7] (by kernel_rfl)
  have d1 : decide (KK k = (1 : Int)) = false := df k1
  by_cases k2 : KK k = 2
  · have d2 : decide (KK k = (2 : Int)) = true := dt k2
    have e : opP (c, s) (KK k) (II k) (XX k) (TT k) = (c, s.fail) := by unfold opP; rw [d1, d2]; rfl
    rw [e]
    have a1 := fail2_con s
    have a2 := rset2 (rfail2_con s) rfl rfl
    have g1 := get_con c s.fail (II k) hc
    have g2 := rget_con c s.fail (II k)
    have w1 := writes2_con s.fail
    have l1 := len_con c s.fail
    refine ⟨_, fun K hK => (pl2_vc s c s.fail (c.getQ (II k)) (c.getD (II k)) L k KK II XX TT hl h3 (cell1 _ _) d1 d2 K).mpr ?_⟩
    repeat' (first | exact trivial | assumption | exact cell1 _ _ | exact cell0 _ _ | exact same1 _ | exact same0 _ | apply And.intro)
    refine hK [0, 1, 2, 3, 4, 5, 6, 7] _ _ ?_
    exact st_k [0, 1, 2, 3, 4, 5, 6, 7] (by kernel_rfl)
  have d2 : decide (KK k = (2 : Int)) = false := df k2
  by_cases k3 : KK k = 3
  · have d3 : decide (KK k = (3 : Int)) = true := dt k3
    have e : opP (c, s) (KK k) (II k) (XX k) (TT k) = (opened (s.fail.revived (II k) (TT k)) c.n, s.fail.revived (II k) (TT k)) := by unfold opP; rw [d1, d2, d3]; rfl
    rw [e]
    obtain ⟨ro, rn⟩ := fr_on s (II k) (TT k)
    have okf := okm.fail
    have okr := okf.revived (II k) (TT k)
    have byr : Byt (s.fail.revived (II k) (TT k)) := hI.byt.fail.revived _ _
    have a1 := fail2_con s
    have a2 := rset2 (rfail2_con s) rfl rfl
    have b1 := revive_con s.fail (II k) (TT k) hP (fun q hq => by have := okf.at_ q hq; have := okf.n; omega)
    have b2 := rrev2_con s.fail (II k) (TT k) hP okf.at_
    have o1 := open_con (s.fail.revived (II k) (TT k)) c.n hn1 hc (by rw [rn, sn]; omega) (by rw [rn, sn]; omega) ro byr
    have o2 := ropen_con (s.fail.revived (II k) (TT k)) c.n hn1 hc (by rw [rn, sn]; omega) ro (by have := okr.P; omega) byr
    have g1 := get_con (opened (s.fail.revived (II k) (TT k)) c.n) (s.fail.revived (II k) (TT k)) (II k) hc
    have g2 := rget_con (opened (s.fail.revived (II k) (TT k)) c.n) (s.fail.revived (II k) (TT k)) (II k)
    have w1 := writes2_con (s.fail.revived (II k) (TT k))
    have l1 := len_con (opened (s.fail.revived (II k) (TT k)) c.n) (s.fail.revived (II k) (TT k))
    generalize hS : s.fail.revived (II k) (TT k) = S at *
    generalize hC : opened S c.n = C at *
    have cN : C.n = c.n := by rw [← hC]; rfl
    have cD : C.dead = false := by rw [← hC]; rfl
    unfold rob at g2
    rw [cN, cD] at g2
    rw [cN] at l1
    refine ⟨_, fun K hK => (pl3_vc s c s.fail S C (C.getQ (II k)) (C.getD (II k)) s.fail.revE L k KK II XX TT hl h3 (cell1 _ _) d1 d2 d3 K).mpr ?_⟩
    repeat' (first | exact trivial | assumption | exact cell1 _ _ | exact cell0 _ _ | exact same1 _ | exact same0 _ | apply And.intro)
    refine hK [0, 1, 2, 3, 9, 10, 11, 12] _ _ ?_
    show StIs 0 _ _ _ _ _ [some S.o, some (rsK S), some (rsR S), some (rsP S), some C.oa, some (rcK c.n C.dead), some (rcV c.n C.q C.d), some (rcB c.n C.sec)]
    rw [cD]
    exact st_k [0, 1, 2, 3, 9, 10, 11, 12] (by kernel_rfl)
  have d3 : decide (KK k = (3 : Int)) = false := df k3
  have e : opP (c, s) (KK k) (II k) (XX k) (TT k) = (c.putC s (II k) (XX k), c.putS s (II k) (XX k)) := by unfold opP; rw [d1, d2, d3]; rfl
  rw [e]
  have cN := (h.r.put s (II k) (XX k)).2
  have cN : (c.putC s (II k) (XX k)).n = c.n := cN
  have p1 := hI.put_con (by omega) (II k) (XX k) hx
  have g1 := get_con (c.putC s (II k) (XX k)) (c.putS s (II k) (XX k)) (II k) (by rw [cN]; exact hc)
  have g2 := rget_con (c.putC s (II k) (XX k)) (c.putS s (II k) (XX k)) (II k)
  have w1 := writes2_con (c.putS s (II k) (XX k))
  have l1 := len_con (c.putC s (II k) (XX k)) (c.putS s (II k) (XX k))
  unfold rob at g2
  rw [cN] at g2 l1
  by_cases hp : c.no (II k) (XX k) = 0 ∧ s.off = false
  · have p2 := rputA_con hI (by omega) h.r (II k) (XX k) hx hp.1 hp.2
    unfold rob at p2
    generalize hS : c.putS s (II k) (XX k) = S at *
    generalize hC : c.putC s (II k) (XX k) = C at *
    refine ⟨_, fun K hK => (pl4_vc s c S C (C.getQ (II k)) (C.getD (II k)) (c.putE s (II k) (XX k)) L k KK II XX TT hl h3 (cell1 _ _) d1 d2 d3 K).mpr ?_⟩
    repeat' (first | exact trivial | assumption | exact cell1 _ _ | exact cell0 _ _ | exact same1 _ | exact same0 _ | apply And.intro)
    refine hK [0, 1, 2, 9, 4, 5, 6, 7] _ _ ?_
    show StIs 0 _ _ _ _ _ [some S.o, some (rsK S), some (rsR S), some (rsP S), some C.oa, some (rcK c.n C.dead), some (rcV c.n C.q C.d), some (rcB c.n C.sec)]
    exact st_k [0, 1, 2, 9, 4, 5, 6, 7] (by kernel_rfl)
  · obtain ⟨p2, e1, e2, e3, e4⟩ := rputB_con hI h.r (II k) (XX k) hx hp
    unfold rob at p2
    have p2 : Con Tryd.prog 17 [.p 3 0, .i .i64 (II k), .s (XX k)] [some (rsA 2 s), some (rsR s), some (rsP s), some (rcO 0 4 5 c.n c.dead), some (rcV c.n c.q c.d), some (rcB c.n c.sec)] (.i .i64 (c.putE s (II k) (XX k)))
        [.set (rsA 2 (c.putS s (II k) (XX k))), .set (rsR (c.putS s (II k) (XX k))), .set (rsP (c.putS s (II k) (XX k))), .set (rcO 0 4 5 c.n (c.putC s (II k) (XX k)).dead), .set (rcV c.n (c.putC s (II k) (XX k)).q (c.putC s (II k) (XX k)).d), .set (rcB c.n (c.putC s (II k) (XX k)).sec)] := by
      have eS : (c.putC s (II k) (XX k)).sec = c.sec := by funext j; unfold CS.sec; rw [e2, e4]
      rw [e1, e2, e3, eS]
      exact p2.oeq (OEqL.refl _) (OEqL.refl _)
    generalize hS : c.putS s (II k) (XX k) = S at *
    generalize hC : c.putC s (II k) (XX k) = C at *
    refine ⟨_, fun K hK => (pl5_vc s c S C (C.getQ (II k)) (C.getD (II k)) (c.putE s (II k) (XX k)) L k KK II XX TT hl h3 (cell1 _ _) d1 d2 d3 K).mpr ?_⟩
    repeat' (first | exact trivial | assumption | exact cell1 _ _ | exact cell0 _ _ | exact same1 _ | exact same0 _ | apply And.intro)
    refine hK [0, 1, 2, 3, 4, 5, 6, 7] _ _ ?_
    show StIs 0 _ _ _ _ _ [some S.o, some (rsK S), some (rsR S), some (rsP S), some C.oa, some (rcK c.n C.dead), some (rcV c.n C.q C.d), some (rcB c.n C.sec)]
    exact st_k [0, 1, 2, 3, 4, 5, 6, 7] (by kernel_rfl)
theorem play_lp (n L : Nat) (hn1 : 1 ≤ n) (hn : n ≤ 8) (KK II : Nat → Int) (XX : Nat → List Nat) (TT : Nat → Bool) (hI : ∀ k, II k ≤ 9223372036854775807) (hX : ∀ k, ∀ b ∈ XX k, b < 256) :
    LDoes Tryd.prog (loopAt Tryd.prog 3 0) 181 0 (mkT (plT n L 0 KK II XX TT)) (plO n (plP n KK II XX TT 0)) (.exit 0) (mkT [(0, .i .i64 (Int.ofNat n)), (5, .p 0 0), (7, .p 1 0), (9, .p 4 0), (11, .p 5 0)]) (plO n (plP n KK II XX TT (min L 301))) := by
  refine loop_indV (D := Nat) (l' := [(0, .i .i64 (Int.ofNat n)), (5, .p 0 0), (7, .p 1 0), (9, .p 4 0), (11, .p 5 0)]) (fun k => (plT n L k KK II XX TT, plO n (plP n KK II XX TT k))) (fun k => L - k) (fun k => k ≤ min L 301) ?_ 0 (Nat.zero_le _)
  intro k hk
  refine ⟨Nat.zero_le _, 1000000, ?_⟩
  have hP := PI.at_ hn KK II XX TT hI hX k
  have cn : (plP n KK II XX TT k).1.n = n := hP.cn
  by_cases hlt : k < L ∧ ¬ 300 < k
  · obtain ⟨o, ho⟩ := pl_round n L k hn1 hn KK II XX TT (plP n KK II XX TT k).1 (plP n KK II XX TT k).2 hP hlt.1 hlt.2 (hX k)
    refine ⟨o, ho _ fun σ tm1 H1 st => .inl ⟨k + 1, σ, [], tm1, H1, _, _, by omega, by show L - (k + 1) < L - k; omega, rfl, st, .refl _, .refl _⟩⟩
  · have e : min L 301 = k := by omega
    have ex : ∀ tm1 H1, StIs 0 [0, 1, 2, 3, 4, 5, 6, 7] [] tm1 H1 [(0, .i .i64 (Int.ofNat n)), (5, .p 0 0), (7, .p 1 0), (9, .p 4 0), (11, .p 5 0)] (plO n (plP n KK II XX TT k)) →
        RoundV 0 (fun k => (plT n L k KK II XX TT, plO n (plP n KK II XX TT k))) (fun k => L - k) (fun k => k ≤ min L 301) (.exit 0) [(0, .i .i64 (Int.ofNat n)), (5, .p 0 0), (7, .p 1 0), (9, .p 4 0), (11, .p 5 0)] (plO n (plP n KK II XX TT (min L 301))) k (.st (.exit 0) tm1 H1) := fun tm1 H1 st => by
      rw [e]
      exact .inr ⟨[0, 1, 2, 3, 4, 5, 6, 7], [], tm1, H1, _, _, rfl, by simp, st, .refl _, .refl _⟩
    generalize plP n KK II XX TT k = p at *
    obtain ⟨c, s⟩ := p
    have cn : c.n = n := cn
    subst cn
    by_cases hl : k < L
    · have d : decide (Int.ofNat k < Int.ofNat L) = true := dt (by simp; omega)
      have d3 : decide ((300 : Int) < Int.ofNat k) = true := dt (by simp; omega)
      have rk : (0 : Int) ≤ Int.ofNat k ∧ Int.ofNat k < (↑L : Int) := ⟨by simp, by simp; omega⟩
      refine ⟨_, (plB_vc s c L k KK II XX TT d d3 _).mpr ?_⟩
      repeat' (first | exact trivial | assumption | apply And.intro)
      exact ex _ _ (st_k [0, 1, 2, 3, 4, 5, 6, 7] (by kernel_rfl))
    · have d : decide (Int.ofNat k < Int.ofNat L) = false := df (by simp; omega)
      exact ⟨_, (plE_vc s c L k KK II XX TT d _).mpr ⟨d, ex _ _ (st_k [0, 1, 2, 3, 4, 5, 6, 7] (by kernel_rfl))⟩⟩
theorem gets_lp (n : Nat) (hn : n ≤ 256) (c : CS) (s : SS) (cn : c.n = n) :
    LDoes Tryd.prog (loopAt Tryd.prog 3 1) 181 0 (mkT [(0, .i .i64 (Int.ofNat n)), (5, .p 0 0), (7, .p 1 0), (9, .p 4 0), (11, .p 5 0), (19, .i .i64 (Int.ofNat 0))]) (plO n (c, s)) (.exit 3) (mkT [(5, .p 0 0), (7, .p 1 0)]) [some s.o, some (rsK s), some (rsR s), some (rsP s)] := by
  subst cn
  refine loop_indV (D := Nat) (l' := [(5, .p 0 0), (7, .p 1 0)]) (fun k => ([(0, .i .i64 (Int.ofNat c.n)), (5, .p 0 0), (7, .p 1 0), (9, .p 4 0), (11, .p 5 0), (19, .i .i64 (Int.ofNat k))], plO c.n (c, s))) (fun k => c.n - k) (fun k => k ≤ c.n) ?_ 0 (Nat.zero_le _)
  intro k hk
  refine ⟨Nat.zero_le _, 1000000, ?_⟩
  by_cases hlt : k < c.n
  · have d : decide (Int.ofNat k < Int.ofNat c.n) = true := dt (by simp; omega)
    have r3 : (-9223372036854775808 : Int) ≤ Int.ofNat k + (1 : Int) ∧ Int.ofNat k + (1 : Int) ≤ (9223372036854775807 : Int) := ⟨by simp <;> omega, by simp <;> omega⟩
    have g1 := get_con c s (Int.ofNat k) hn
    have g2 := rget_con c s (Int.ofNat k)
    refine ⟨_, (plG_vc s c c.n (c.getQ (Int.ofNat k)) (c.getD (Int.ofNat k)) k d (cell0 _ _) _).mpr ?_⟩
    repeat' (first | exact trivial | assumption | exact cell0 _ _ | apply And.intro)
    exact .inl ⟨k + 1, [0, 1, 2, 3, 4, 5, 6, 7], [], _, _, _, plO c.n (c, s), by omega, by show c.n - (k + 1) < c.n - k; omega, rfl, st_k [0, 1, 2, 3, 4, 5, 6, 7] (by kernel_rfl), .refl _, .refl _⟩
  · have d : decide (Int.ofNat k < Int.ofNat c.n) = false := df (by simp; omega)
    exact ⟨_, (plH_vc s c c.n k d _).mpr ⟨d, .inr ⟨[0, 1, 2, 3], [], _, _, [(5, .p 0 0), (7, .p 1 0)], [some s.o, some (rsK s), some (rsR s), some (rsP s)], rfl, by simp, st_k [0, 1, 2, 3] (by kernel_rfl), .refl _, .refl _⟩⟩⟩
theorem img_im {s : SS} (h : Byt s) : imgF s = imF (fun i => bif s.torn i then 0 else 64) fun i k => (s.dur i k).toNat := by
  funext i j
  unfold imgF imF
  congr 1
  funext k _
  obtain ⟨m, _, e⟩ := h.dur i k
  show CV.i .u8 (s.dur i k) = CV.i .u8 (Int.ofNat (s.dur i k).toNat)
  rw [e]; rfl
theorem same2_con (s : SS) (hn : s.n ≤ 512) (hb : Byt s) : Con Tryd.prog 22 [.sv 1 s.n (imgF s), .lr 0 1 0 s.n false] [some (rsR s)] (.b true) [.gone] := by
  have k := same_con s.n _ _ _ _ hn fun i (_ : i < s.n) => ⟨Eq.refl ((fun i => bif s.torn i then 0 else 64) i), fun k _ => Eq.refl ((fun i k => (s.dur i k).toNat) i k)⟩
  rw [← img_im hb] at k
  exact (k.slot rfl (by kernel_rfl) (by kernel_rfl)).thaw (us0 := [.gone]) 0 (e := 55) (sz := 1) (n := s.n) (f := imgF s) rfl ⟨rfl, trivial⟩ ⟨.inl rfl, .inr ⟨by kernel_rfl, ⟨rfl, by omega⟩, rfl⟩, trivial⟩ rfl
theorem plays_con (n : Int) (L : Nat) (KK II : Nat → Int) (XX : Nat → List Nat) (TT : Nat → Bool) (hI : ∀ k, II k ≤ 9223372036854775807) (hX : ∀ k, ∀ b ∈ XX k, b < 256) : Con Tryd.prog 3 [.i .i64 n, .sv 4 L (opF KK II XX TT)] [] (.b true) [] := by
  have c1 : Con Tryd.prog 6 [.i .i64 16] [] (.tup [.p 0 0, .i .i64 0]) [.set (SS.new 16).o] := new_con 16 (by decide) (by decide)
  have c2 : Con Tryd.prog 7 [.i .i64 16] [] (.tup [.p 0 0, .i .i64 0]) [.set (rsA 2 (SS.new 16)), .set (rsR (SS.new 16)), .set (rsP (SS.new 16))] := rnew2_con 16 (by decide) (by decide)
  by_cases h : 1 ≤ n ∧ n ≤ 8
  · obtain ⟨m, rfl⟩ : ∃ m, n = Int.ofNat m := ⟨n.toNat, by simp; omega⟩
    have h1 : 1 ≤ m := by have := h.1; simp at this; omega
    have h2 : m ≤ 8 := by have := h.2; simp at this; omega
    have hE := PI.at_ h2 KK II XX TT hI hX (min L 301)
    have o1 := open_con (SS.new 16) m h1 (by omega) (by show 2 * m ≤ 16; omega) (by decide) rfl (Byt.new 16)
    have o2 := ropen_con (SS.new 16) m h1 (by omega) (by show 2 * m ≤ 16; omega) rfl (by decide) (Byt.new 16)
    have lp := play_lp m L h1 h2 KK II XX TT hI hX
    have l2 := gets_lp m (by omega) (plP m KK II XX TT (min L 301)).1 (plP m KK II XX TT (min L 301)).2 hE.cn
    have nn : (plP m KK II XX TT (min L 301)).2.n ≤ 512 := by rw [hE.sn]; decide
    have i1 := image_con (plP m KK II XX TT (min L 301)).2 nn
    have s1 := same2_con (plP m KK II XX TT (min L 301)).2 nn hE.inv.byt
    refine con_plain rfl ((plays_vc (SS.new 16) (opened (SS.new 16) m) (plP m KK II XX TT (min L 301)).2 (plP m KK II XX TT (min L 301)).1 m L KK II XX TT _).mpr ⟨awake_con, trivial, c1, c2, o1, o2, trivial, trivial, trivial, trivial, lp, l2, i1, trivial, s1, _, _, rfl, rfl⟩)
  · have hE : openE (SS.new 16) n ≠ 0 := by
      unfold openE
      cases d1 : decide (n < 1) with
      | true => show (2 : Int) ≠ 0; decide
      | false =>
        show (match decide ((256 : Int) < n) with | true => (2 : Int) | false => _) ≠ 0
        cases d2 : decide ((256 : Int) < n) with
        | true => show (2 : Int) ≠ 0; decide
        | false =>
          have d3 : decide (Int.ofNat (SS.new 16).n < n * 2) = true := dt (by
            have := of_decide_eq_false d1
            show (Int.ofNat 16) < n * 2
            simp only [Int.ofNat_eq_natCast] at *; omega)
          show (match decide (Int.ofNat (SS.new 16).n < n * 2) with | true => (12 : Int) | false => _) ≠ 0
          rw [d3]; show (12 : Int) ≠ 0; decide
    refine con_plain rfl ((playsF_vc (SS.new 16) 0 L KK II XX TT (openE (SS.new 16) n) n 0 _).mpr ?_)
    have o1 := openBad_con (SS.new 16) n hE
    have o2 := ropenBad_con (SS.new 16) n hE
    have aw := awake_con
    repeat' (first | exact trivial | assumption | exact same1 _ | exact same0 _ | apply And.intro)
    exact ⟨_, _, rfl, rfl⟩
end Go.Proofs.Cl
