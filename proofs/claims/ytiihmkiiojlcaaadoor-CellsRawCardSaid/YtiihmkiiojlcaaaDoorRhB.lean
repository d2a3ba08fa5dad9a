/- Runs over unknown values, told by the kernel: part RhB. -/
import Derived.Test.YtiihmkiiojlcaaaDoorRhA
set_option linter.unusedSimpArgs false
set_option linter.unusedVariables false
set_option maxRecDepth 20000
namespace Go.Proofs.Cl
open Go Go.Sim Go.Proofs Go.Proofs.Cd Go.Proofs.St Go.Proofs.YtiihmkiiojlcaaaDoor
noncomputable def rob (c : CS) (s : SS) : List (Option AObj) := [some (rsA 2 s), some (rsR s), some (rsP s), some (rcO 0 4 5 c.n c.dead), some (rcV c.n c.q c.d), some (rcB c.n c.sec)]
structure RInv (c : CS) : Prop where
  q : ∀ k, c.q k ≤ 1099511627776
  z : ∀ k, c.q k = 0 → c.sp k = 0
theorem bnt {b : Bool} (h : b = false) : (!b) = true := by rw [h]; rfl
theorem bnf {b : Bool} (h : b = true) : (!b) = false := by rw [h]; rfl
theorem rget_con (c : CS) (s : SS) (i : Int) : Con Tryd.prog 19 [.p 3 0, .i .i64 i] (rob c s) (.agg [.i .i64 (Int.ofNat (c.getQ i)), .s (c.getD i)]) [.keep, .keep, .keep, .keep, .keep, .keep] := by
  by_cases h : 0 ≤ i ∧ i < Int.ofNat c.n
  · obtain ⟨m, rfl⟩ : ∃ m : Nat, i = Int.ofNat m := ⟨i.toNat, by simp; omega⟩
    have hm : m < c.n := by have := h.2; simpa using this
    have d1 : decide (Int.ofNat m < 0) = false := df (by simp)
    have d2 : decide (Int.ofNat c.n ≤ Int.ofNat m) = false := df (by simp; omega)
    rw [getQ_in hm, getD_in hm]
    exact con_of_run [] [] ((rgetI_vc s c.n c.q c.d c.sec m c.dead d1 d2 _).mpr ⟨trivial, d2, trivial, ⟨h.1, h.2⟩, hm, _, _, rfl, ret_k (by kernel_rfl)⟩)
  · have e1 : c.getQ i = 0 := by unfold CS.getQ; rw [decide_eq_false h]
    have e2 : c.getD i = [] := by unfold CS.getD; rw [decide_eq_false h]
    rw [e1, e2]
    by_cases h0 : i < 0
    · have d := dt h0
      have n := bnf d
      exact con_of_run [] [] ((rgetN_vc s c.n c.q c.d c.sec i c.dead d _).mpr ⟨n, n, n, n, n, n, n, d, _, _, rfl, ret_k (by kernel_rfl)⟩)
    · have d := df h0
      have n := bnt d
      have d2 : decide (Int.ofNat c.n ≤ i) = true := dt (by omega)
      exact con_of_run [] [] ((rgetM_vc s c.n c.q c.d c.sec i c.dead d d2 _).mpr ⟨n, n, n, n, trivial, n, n, n, d, d2, _, _, rfl, ret_k (by kernel_rfl)⟩)
theorem rputN_con {c : CS} (s : SS) (r : RInv c) (i : Int) (x : List Nat) (h : c.no i x ≠ 0) : Con Tryd.prog 17 [.p 3 0, .i .i64 i, .s x] (rob c s) (.i .i64 (c.no i x)) [.keep, .keep, .keep, .keep, .keep, .keep] := by
  unfold rob
  cases hd : c.dead with
  | true =>
    have e : c.no i x = 13 := by unfold CS.no; rw [hd]
    rw [e]
    exact con_of_run [] [] ((rputD_vc s c.n c.q c.d c.sec i x _).mpr ⟨trivial, _, _, rfl, ret_k (by kernel_rfl)⟩)
  | false =>
    by_cases h0 : i < 0
    · have d := dt h0
      have n := bnf d
      have e : c.no i x = 2 := by unfold CS.no; rw [hd, decide_eq_false (by omega : ¬ (0 ≤ i ∧ i < Int.ofNat c.n))]
      rw [e]
      exact con_of_run [] [] ((rputR_vc s c.n c.q c.d c.sec i x d _).mpr ⟨trivial, n, n, n, n, n, n, n, d, _, _, rfl, ret_k (by kernel_rfl)⟩)
    have d := df h0
    have n := bnt d
    by_cases h1 : Int.ofNat c.n ≤ i
    · have d2 := dt h1
      have n2 := bnf d2
      have e : c.no i x = 2 := by unfold CS.no; rw [hd, decide_eq_false (by omega : ¬ (0 ≤ i ∧ i < Int.ofNat c.n))]
      rw [e]
      exact con_of_run [] [] ((rputS_vc s c.n c.q c.d c.sec i x d d2 _).mpr ⟨trivial, n, n, n, n, trivial, n, n, n, d, n2, n2, n2, d2, _, _, rfl, ret_k (by kernel_rfl)⟩)
    have d2 := df h1
    have n2 := bnt d2
    have hin : 0 ≤ i ∧ i < Int.ofNat c.n := by omega
    by_cases h2 : (51 : Int) < Int.ofNat x.length
    · have d3 := dt h2
      have e : c.no i x = 2 := by unfold CS.no; rw [hd, decide_eq_true hin, d3]
      rw [e]
      exact con_of_run [] [] ((rputL_vc s c.n c.q c.d c.sec i x d d2 d3 _).mpr ⟨trivial, n, n, n, n, trivial, n, n, n, d, n2, n2, n2, d2, d3, _, _, rfl, ret_k (by kernel_rfl)⟩)
    have d3 := df h2
    obtain ⟨m, rfl⟩ : ∃ m : Nat, i = Int.ofNat m := ⟨i.toNat, by simp; omega⟩
    have hm : m < c.n := by have := hin.2; simpa using this
    by_cases h3 : (1099511627776 : Int) ≤ Int.ofNat (c.q m)
    · have hq := r.q m
      have d4 : decide (Int.ofNat (c.q m) = (1099511627776 : Int)) = true := dt (by simp at h3 ⊢; omega)
      have e : c.no (Int.ofNat m) x = 15 := by
        unfold CS.no; rw [hd, decide_eq_true hin, d3, show decide ((1099511627776 : Int) ≤ Int.ofNat (c.q (Int.ofNat m).toNat)) = true from dt h3]
      rw [e]
      exact con_of_run [] [] ((rputW_vc s c.n c.q c.d c.sec m x d d2 d3 d4 _).mpr ⟨trivial, trivial, n2, n2, n2, d2, d3, trivial, ⟨hin.1, hin.2⟩, trivial, hm, d4, _, _, rfl, ret_k (by kernel_rfl)⟩)
    · exfalso
      apply h
      unfold CS.no; rw [hd, decide_eq_true hin, d3, show decide ((1099511627776 : Int) ≤ Int.ofNat (c.q (Int.ofNat m).toNat)) = false from df h3]
theorem paid (s : SS) (a : Nat) (bs : Nat → Int) : ((s.wrote a bs).payE = 13 ∨ (s.wrote a bs).payE = 0 ∧ (s.wrote a bs).pay.off = s.off) := by
  unfold SS.payE SS.pay
  cases h : (s.wrote a bs).armed with
  | false => exact .inr ⟨rfl, rfl⟩
  | true =>
    cases h2 : Nat.beq (s.wrote a bs).left 0 with
    | true => exact .inl rfl
    | false => exact .inr ⟨rfl, rfl⟩
theorem rsR_pay (s : SS) (a : Nat) (bs : Nat → Int) : rsR (s.wrote a bs).pay = rsR s := by
  rcases pay_or (s.wrote a bs) with e | e | e <;> rw [e] <;> rfl
theorem pen_w {s : SS} {m : Nat} (ok : OkM s m) {a : Nat} (ha : a < s.n) (bs : Nat → Int) : ∀ w ∈ (s.wrote a bs).pay.P, w.1 < s.n := by
  have e : (s.wrote a bs).pay.P = (a, bs) :: s.P := by rcases pay_or (s.wrote a bs) with e | e | e <;> rw [e] <;> rfl
  intro w hw
  rw [e] at hw
  rcases List.mem_cons.1 hw with rfl | hw
  · exact ha
  · exact ok.at_ w hw
theorem val_upd (c : CS) (i p : Nat) (x : List Nat) : OV (some (.rows 45 2 c.n (setRow (valF c.q c.d) i 0 [CV.i .i64 (Int.ofNat (c.q i) + 1), CV.s x]))) (some (rcV c.n (c.upd i (c.q i + 1) x p).q (c.upd i (c.q i + 1) x p).d)) :=
  .rowsW fun k j hk hj => by
    have hj : j = 0 ∨ j = 1 := by omega
    rcases hj with rfl | rfl
    · refine (zipCV_CW (Nat.beq k i) (CV.i .i64 (Int.ofNat (c.q i) + 1)) (valF c.q c.d k 0)).trans (.of ?_)
      show (bif Nat.beq k i then CV.i .i64 (Int.ofNat (c.q i) + 1) else CV.i .i64 (Int.ofNat (c.q k))) = CV.i .i64 (Int.ofNat (bif Nat.beq k i then c.q i + 1 else c.q k))
      cases Nat.beq k i <;> rfl
    · refine (zipCV_CW (Nat.beq k i) (CV.s x) (valF c.q c.d k 1)).trans (.of ?_)
      show (bif Nat.beq k i then CV.s x else CV.s (c.d k)) = CV.s (bif Nat.beq k i then x else c.d k)
      cases Nat.beq k i <;> rfl
theorem sec_upd (c : CS) (i p : Nat) (x : List Nat) (e : Bool) (he : e = Nat.beq p 0) : OV (some (.rows 4 1 c.n (setRow (secF c.sec) i 0 [CV.b e]))) (some (rcB c.n (c.upd i (c.q i + 1) x p).sec)) :=
  .rowsW fun k j hk hj => by
    have : j = 0 := by omega
    subst this
    refine (zipCV_CW (Nat.beq k i) (CV.b e) (secF c.sec k 0)).trans (.of ?_)
    show (bif Nat.beq k i then CV.b e else CV.b (Nat.ble 1 (c.q k) && Nat.beq (c.sp k) 0)) = CV.b (Nat.ble 1 (bif Nat.beq k i then c.q i + 1 else c.q k) && Nat.beq (bif Nat.beq k i then p else c.sp k) 0)
    cases Nat.beq k i with
    | false => rfl
    | true => rw [he]; show CV.b _ = CV.b (Nat.ble 1 (c.q i + 1) && Nat.beq p 0); rw [show Nat.ble 1 (c.q i + 1) = true by rw [Nat.ble_eq]; omega]; rfl
theorem sec_or {c : CS} (r : RInv c) (hp : ∀ k, c.sp k ≤ 1) (i : Nat) : (1 ≤ c.q i ∧ c.sp i = 1 ∧ c.sec i = false) ∨ (1 ≤ c.q i ∧ c.sp i = 0 ∧ c.sec i = true) ∨ (c.q i = 0 ∧ c.sp i = 0) := by
  have := hp i
  by_cases hq : c.q i = 0
  · exact .inr (.inr ⟨hq, r.z i hq⟩)
  · have hq1 : Nat.ble 1 (c.q i) = true := by rw [Nat.ble_eq]; omega
    by_cases h1 : c.sp i = 1
    · exact .inl ⟨by omega, h1, by unfold CS.sec; rw [hq1, h1]; rfl⟩
    · have h0 : c.sp i = 0 := by omega
      exact .inr (.inl ⟨by omega, h0, by unfold CS.sec; rw [hq1, h0]; rfl⟩)
theorem put_yes {c : CS} {s : SS} {m : Nat} (hI : Inv c s m) {i : Nat} {x : List Nat} (h : c.no (Int.ofNat i) x = 0) (ho : s.off = false) :
    let a := i * 2 + c.sp i
    let bs := fun k => Int.ofNat (sectB (c.q i + 1) x k)
    a < s.n ∧ (((s.wrote a bs).payE = 13 ∧ c.putE s (Int.ofNat i) x = 13 ∧ c.putC s (Int.ofNat i) x = { c with dead := true } ∧ c.putS s (Int.ofNat i) x = (s.wrote a bs).pay) ∨
      ((s.wrote a bs).payE = 0 ∧ (s.wrote a bs).pay.faultE = 0 ∧ c.putE s (Int.ofNat i) x = 0 ∧ c.putC s (Int.ofNat i) x = c.upd i (c.q i + 1) x (1 - c.sp i) ∧ c.putS s (Int.ofNat i) x = (s.wrote a bs).pay.bar)) := by
  intro a bs
  obtain ⟨hd, hin, hl, hq⟩ := no_in h
  obtain ⟨ea, hlt⟩ := hI.at_ hin
  have et : (Int.ofNat i).toNat = i := rfl
  rw [et] at ea hlt hq
  have d : decide (c.no (Int.ofNat i) x = 0) = true := by rw [h]; rfl
  have en : c.nx (Int.ofNat i) = Int.ofNat (c.q i + 1) := rfl
  have eW : wrote s (c.at_ (Int.ofNat i)) (c.nx (Int.ofNat i)) x = (s.wrote a bs).pay := by unfold wrote; rw [ea]; exact wrS_on ho hlt _
  have eE : s.wrE (c.at_ (Int.ofNat i)) 64 = (s.wrote a bs).payE := by
    have hd : decide (0 ≤ Int.ofNat a ∧ Int.ofNat a < Int.ofNat s.n ∧ 64 = 64) = true := by simp; exact hlt
    rw [ea]
    unfold SS.wrE; rw [ho]
    show (match decide (0 ≤ Int.ofNat a ∧ Int.ofNat a < Int.ofNat s.n ∧ 64 = 64) with | true => _ | false => _) = _
    rw [hd]; rfl
  refine ⟨hlt, ?_⟩
  rcases paid s a bs with h1 | ⟨h1, h2⟩
  · left
    have dE : decide (s.wrE (c.at_ (Int.ofNat i)) 64 = 0) = false := by rw [eE, h1]; rfl
    have cE : cmE s (c.at_ (Int.ofNat i)) (c.nx (Int.ofNat i)) x = 13 := by unfold cmE; rw [dE]; show s.wrE _ 64 = 13; rw [eE, h1]
    have cS : cmS s (c.at_ (Int.ofNat i)) (c.nx (Int.ofNat i)) x = (s.wrote a bs).pay := by unfold cmS; rw [dE]; exact eW
    have dC : decide (cmE s (c.at_ (Int.ofNat i)) (c.nx (Int.ofNat i)) x = 0) = false := by rw [cE]; rfl
    exact ⟨h1, by unfold CS.putE; rw [d]; simp only; rw [dC], by unfold CS.putC; rw [d]; simp only; rw [dC], by unfold CS.putS; rw [d]; exact cS⟩
  · right
    have hf : (s.wrote a bs).pay.faultE = 0 := by unfold SS.faultE; rw [h2, ho]; rfl
    have dE : decide (s.wrE (c.at_ (Int.ofNat i)) 64 = 0) = true := by rw [eE, h1]; rfl
    have cE : cmE s (c.at_ (Int.ofNat i)) (c.nx (Int.ofNat i)) x = 0 := by unfold cmE; rw [dE]; simp only; rw [eW, hf]
    have cS : cmS s (c.at_ (Int.ofNat i)) (c.nx (Int.ofNat i)) x = (s.wrote a bs).pay.bar := by unfold cmS; rw [dE]; simp only; rw [eW]
    have dC : decide (cmE s (c.at_ (Int.ofNat i)) (c.nx (Int.ofNat i)) x = 0) = true := by rw [cE]; rfl
    exact ⟨h1, hf, by unfold CS.putE; rw [d]; simp only; rw [dC], by unfold CS.putC; rw [d]; simp only; rw [dC]; rfl, by unfold CS.putS; rw [d]; exact cS⟩
theorem rputA_con {c : CS} {s : SS} {m : Nat} (hI : Inv c s m) (hm : m < 1073741823) (r : RInv c) (i : Int) (x : List Nat) (hx : ∀ b ∈ x, b < 256) (h : c.no i x = 0) (ho : s.off = false) :
    Con Tryd.prog 17 [.p 3 0, .i .i64 i, .s x] (rob c s) (.i .i64 (c.putE s i x)) [.set (rsA 6 (c.putS s i x)), .set (rsR (c.putS s i x)), .gone, .set (rcO 0 4 5 c.n (c.putC s i x).dead), .set (rcV c.n (c.putC s i x).q (c.putC s i x).d), .set (rcB c.n (c.putC s i x).sec), .set (rsP (c.putS s i x))] := by
  obtain ⟨hd, hin, hl, hq⟩ := no_in h
  obtain ⟨k, rfl⟩ : ∃ m : Nat, i = Int.ofNat m := ⟨i.toNat, by simp; omega⟩
  have hk : k < c.n := by have := hin.2; simpa using this
  obtain ⟨hlt, hor⟩ := put_yes hI h ho
  have d1 : decide (Int.ofNat k < 0) = false := df (by simp)
  have d2 : decide (Int.ofNat c.n ≤ Int.ofNat k) = false := df (by simp; omega)
  have n2 := bnt d2
  have d3 : decide ((51 : Int) < Int.ofNat (List.length x)) = false := df (by simp; omega)
  have hq : c.q k < 1099511627776 := hq
  have d4 : decide (Int.ofNat (c.q k) = (1099511627776 : Int)) = false := df (by simp; omega)
  have hr : (0 : Int) ≤ Int.ofNat k ∧ Int.ofNat k < (↑c.n : Int) := ⟨hin.1, hin.2⟩
  have hc := hI.hc
  have rq : (-9223372036854775808 : Int) ≤ Int.ofNat (c.q k) + (1 : Int) ∧ Int.ofNat (c.q k) + (1 : Int) ≤ (9223372036854775807 : Int) := ⟨by simp <;> omega, by simp <;> omega⟩
  have r2 : (-9223372036854775808 : Int) ≤ (2 : Int) * Int.ofNat k ∧ (2 : Int) * Int.ofNat k ≤ (9223372036854775807 : Int) := ⟨by simp <;> omega, by simp <;> omega⟩
  have r3 : (-9223372036854775808 : Int) ≤ (2 : Int) * Int.ofNat k + (1 : Int) ∧ (2 : Int) * Int.ofNat k + (1 : Int) ≤ (9223372036854775807 : Int) := ⟨by simp <;> omega, by simp <;> omega⟩
  have lay : Con Tryd.prog 39 [AV.agg [AV.i .i64 (Int.ofNat (c.q k) + (1 : Int)), AV.s x]] [] (AV.sv 1 64 (byF (sectB (c.q k + 1) x))) [] := by
    have h := rlay_con (c.q k + 1) x (by omega) hl hx
    rw [sel_sect] at h
    exact h
  have okm : OkM s m := hI.ok
  have ok : s.Ok := okm.ok (by omega)
  have hP : s.P.length ≤ 1073741824 := by have := okm.P; omega
  have hP1 : (s.wrote (k * 2 + c.sp k) (fun j => Int.ofNat (sectB (c.q k + 1) x j))).pay.P.length ≤ 1073741824 := by
    have e : (s.wrote (k * 2 + c.sp k) (fun j => Int.ofNat (sectB (c.q k + 1) x j))).pay.P = (k * 2 + c.sp k, fun j => Int.ofNat (sectB (c.q k + 1) x j)) :: s.P := by rcases pay_or (s.wrote (k * 2 + c.sp k) (fun j => Int.ofNat (sectB (c.q k + 1) x j))) with e | e | e <;> rw [e] <;> rfl
    rw [e]
    have := okm.P
    simp; omega
  have hn1 : (s.wrote (k * 2 + c.sp k) (fun j => Int.ofNat (sectB (c.q k + 1) x j))).pay.n = s.n := by rcases pay_or (s.wrote (k * 2 + c.sp k) (fun j => Int.ofNat (sectB (c.q k + 1) x j))) with e | e | e <;> rw [e] <;> rfl
  have wr := rwriteOk_con s (k * 2 + c.sp k) (fun j => Int.ofNat (sectB (c.q k + 1) x j)) ok hP ho hlt
  have ba := rbar2_con (s.wrote (k * 2 + c.sp k) (fun j => Int.ofNat (sectB (c.q k + 1) x j))).pay hP1 (by rw [hn1]; exact pen_w okm hlt _)
  rw [rsR_pay] at ba
  have eR := rsR_pay s (k * 2 + c.sp k) (fun j => Int.ofNat (sectB (c.q k + 1) x j))
  generalize hW : (s.wrote (k * 2 + c.sp k) (fun j => Int.ofNat (sectB (c.q k + 1) x j))).pay = W at *
  unfold rob
  rw [hd]
  rcases hor with ⟨e1, e2, e3, e4⟩ | ⟨e1, e0, e2, e3, e4⟩
  · rw [e2, e3, e4]
    rw [e1] at wr
    show Con Tryd.prog 17 _ _ _ [.set (rsA 6 W), .set (rsR W), .gone, .set (rcO 0 4 5 c.n true), .set (rcV c.n c.q c.d), .set (rcB c.n c.sec), .set (rsP W)]
    rw [eR]
    rcases sec_or r hI.sp k with ⟨q1, q2, q3⟩ | ⟨q1, q2, q3⟩ | ⟨q1, q2⟩
    · have d5 : decide ((0 : Int) < Int.ofNat (c.q k)) = true := dt (by simp; omega)
      have d6 := bnt q3
      have wr : Con Tryd.prog 38 [AV.p 0 0, AV.i .i64 ((2 : Int) * Int.ofNat k + (1 : Int)), AV.sv 1 64 (byF (sectB (c.q k + 1) x))] [some (rsA 2 s), some (rsR s), some (rsP s)] (AV.i .i64 (13 : Int)) [Upd.set (rsA 3 W), Upd.keep, Upd.gone, Upd.set (rsP W)] := by
        rw [show (2 : Int) * Int.ofNat k + 1 = Int.ofNat (k * 2 + c.sp k) by rw [q2]; simp; omega]; exact wr
      refine con_of_run [] [7] ((rputAF_vc s c.n k c.q c.d c.sec (sectB (c.q k + 1) x) W x d1 d2 d3 d4 d5 d6 _).mpr ?_)
      repeat' (first | exact trivial | assumption | apply And.intro)
      exact ⟨_, _, rfl, ret_k (by kernel_rfl)⟩
    · have d5 : decide ((0 : Int) < Int.ofNat (c.q k)) = true := dt (by simp; omega)
      have d6 := bnf q3
      have wr : Con Tryd.prog 38 [AV.p 0 0, AV.i .i64 ((2 : Int) * Int.ofNat k), AV.sv 1 64 (byF (sectB (c.q k + 1) x))] [some (rsA 2 s), some (rsR s), some (rsP s)] (AV.i .i64 (13 : Int)) [Upd.set (rsA 3 W), Upd.keep, Upd.gone, Upd.set (rsP W)] := by
        rw [show (2 : Int) * Int.ofNat k = Int.ofNat (k * 2 + c.sp k) by rw [q2]; simp; omega]; exact wr
      refine con_of_run [] [7] ((rputBF_vc s c.n k c.q c.d c.sec (sectB (c.q k + 1) x) W x d1 d2 d3 d4 d5 d6 _).mpr ?_)
      repeat' (first | exact trivial | assumption | apply And.intro)
      exact ⟨_, _, rfl, ret_k (by kernel_rfl)⟩
    · have d5 : decide ((0 : Int) < Int.ofNat (c.q k)) = false := df (by rw [q1]; simp)
      have wr : Con Tryd.prog 38 [AV.p 0 0, AV.i .i64 ((2 : Int) * Int.ofNat k), AV.sv 1 64 (byF (sectB (c.q k + 1) x))] [some (rsA 2 s), some (rsR s), some (rsP s)] (AV.i .i64 (13 : Int)) [Upd.set (rsA 3 W), Upd.keep, Upd.gone, Upd.set (rsP W)] := by
        rw [show (2 : Int) * Int.ofNat k = Int.ofNat (k * 2 + c.sp k) by rw [q2]; simp; omega]; exact wr
      refine con_of_run [] [7] ((rputCF_vc s c.n k c.q c.d c.sec (sectB (c.q k + 1) x) W x d1 d2 d3 d4 d5 _).mpr ?_)
      repeat' (first | exact trivial | assumption | apply And.intro)
      exact ⟨_, _, rfl, ret_k (by kernel_rfl)⟩
  · rw [e2, e3, e4]
    rw [e1] at wr
    rw [e0] at ba
    show Con Tryd.prog 17 _ _ _ [.set (rsA 6 W.bar), .set (rsR W.bar), .gone, .set (rcO 0 4 5 c.n c.dead), .set (rcV c.n (c.upd k (c.q k + 1) x (1 - c.sp k)).q (c.upd k (c.q k + 1) x (1 - c.sp k)).d), .set (rcB c.n (c.upd k (c.q k + 1) x (1 - c.sp k)).sec), .set (rsP W.bar)]
    rw [hd]
    rcases sec_or r hI.sp k with ⟨q1, q2, q3⟩ | ⟨q1, q2, q3⟩ | ⟨q1, q2⟩
    · have d5 : decide ((0 : Int) < Int.ofNat (c.q k)) = true := dt (by simp; omega)
      have d6 := bnt q3
      have wr : Con Tryd.prog 38 [AV.p 0 0, AV.i .i64 ((2 : Int) * Int.ofNat k + (1 : Int)), AV.sv 1 64 (byF (sectB (c.q k + 1) x))] [some (rsA 2 s), some (rsR s), some (rsP s)] (AV.i .i64 (0 : Int)) [Upd.set (rsA 3 W), Upd.keep, Upd.gone, Upd.set (rsP W)] := by
        rw [show (2 : Int) * Int.ofNat k + 1 = Int.ofNat (k * 2 + c.sp k) by rw [q2]; simp; omega]; exact wr
      refine (con_of_run (us := [.set (rsA 6 W.bar), .set (rsR W.bar), .gone, .set (rcO 0 4 5 c.n false), .set (.rows 45 2 c.n (setRow (valF c.q c.d) k 0 [CV.i .i64 (Int.ofNat (c.q k) + 1), CV.s x])), .set (.rows 4 1 c.n (setRow (secF c.sec) k 0 [CV.b (!c.sec k)])), .set (rsP W.bar)]) [] [7] ((rputAG_vc s c.n k c.q c.d c.sec (sectB (c.q k + 1) x) W W.bar x d1 d2 d3 d4 d5 d6 _).mpr ?_)).post (.refl _) ⟨.refl _, .refl _, .refl _, .refl _, val_upd c k _ x, sec_upd c k _ x _ (by rw [q2, q3]; rfl), .refl _, trivial⟩
      repeat' (first | exact trivial | assumption | apply And.intro)
      exact ⟨_, _, rfl, ret_k (by kernel_rfl)⟩
    · have d5 : decide ((0 : Int) < Int.ofNat (c.q k)) = true := dt (by simp; omega)
      have d6 := bnf q3
      have wr : Con Tryd.prog 38 [AV.p 0 0, AV.i .i64 ((2 : Int) * Int.ofNat k), AV.sv 1 64 (byF (sectB (c.q k + 1) x))] [some (rsA 2 s), some (rsR s), some (rsP s)] (AV.i .i64 (0 : Int)) [Upd.set (rsA 3 W), Upd.keep, Upd.gone, Upd.set (rsP W)] := by
        rw [show (2 : Int) * Int.ofNat k = Int.ofNat (k * 2 + c.sp k) by rw [q2]; simp; omega]; exact wr
      refine (con_of_run (us := [.set (rsA 6 W.bar), .set (rsR W.bar), .gone, .set (rcO 0 4 5 c.n false), .set (.rows 45 2 c.n (setRow (valF c.q c.d) k 0 [CV.i .i64 (Int.ofNat (c.q k) + 1), CV.s x])), .set (.rows 4 1 c.n (setRow (secF c.sec) k 0 [CV.b (!c.sec k)])), .set (rsP W.bar)]) [] [7] ((rputBG_vc s c.n k c.q c.d c.sec (sectB (c.q k + 1) x) W W.bar x d1 d2 d3 d4 d5 d6 _).mpr ?_)).post (.refl _) ⟨.refl _, .refl _, .refl _, .refl _, val_upd c k _ x, sec_upd c k _ x _ (by rw [q2, q3]; rfl), .refl _, trivial⟩
      repeat' (first | exact trivial | assumption | apply And.intro)
      exact ⟨_, _, rfl, ret_k (by kernel_rfl)⟩
    · have d5 : decide ((0 : Int) < Int.ofNat (c.q k)) = false := df (by rw [q1]; simp)
      have wr : Con Tryd.prog 38 [AV.p 0 0, AV.i .i64 ((2 : Int) * Int.ofNat k), AV.sv 1 64 (byF (sectB (c.q k + 1) x))] [some (rsA 2 s), some (rsR s), some (rsP s)] (AV.i .i64 (0 : Int)) [Upd.set (rsA 3 W), Upd.keep, Upd.gone, Upd.set (rsP W)] := by
        rw [show (2 : Int) * Int.ofNat k = Int.ofNat (k * 2 + c.sp k) by rw [q2]; simp; omega]; exact wr
      refine (con_of_run (us := [.set (rsA 6 W.bar), .set (rsR W.bar), .gone, .set (rcO 0 4 5 c.n false), .set (.rows 45 2 c.n (setRow (valF c.q c.d) k 0 [CV.i .i64 (Int.ofNat (c.q k) + 1), CV.s x])), .set (.rows 4 1 c.n (setRow (secF c.sec) k 0 [CV.b false])), .set (rsP W.bar)]) [] [7] ((rputCG_vc s c.n k c.q c.d c.sec (sectB (c.q k + 1) x) W W.bar x d1 d2 d3 d4 d5 _).mpr ?_)).post (.refl _) ⟨.refl _, .refl _, .refl _, .refl _, val_upd c k _ x, sec_upd c k _ x _ (by rw [q2]; rfl), .refl _, trivial⟩
      repeat' (first | exact trivial | assumption | apply And.intro)
      exact ⟨_, _, rfl, ret_k (by kernel_rfl)⟩
theorem rputB_con {c : CS} {s : SS} {m : Nat} (hI : Inv c s m) (r : RInv c) (i : Int) (x : List Nat) (hx : ∀ b ∈ x, b < 256) (h : ¬ (c.no i x = 0 ∧ s.off = false)) :
    Con Tryd.prog 17 [.p 3 0, .i .i64 i, .s x] (rob c s) (.i .i64 (c.putE s i x)) [.keep, .keep, .keep, .set (rcO 0 4 5 c.n (c.putC s i x).dead), .keep, .keep] ∧ c.putS s i x = s ∧ (c.putC s i x).q = c.q ∧ (c.putC s i x).d = c.d ∧ (c.putC s i x).sp = c.sp := by
  by_cases h0 : c.no i x = 0
  · have ho : s.off = true := by
      cases q : s.off with
      | true => rfl
      | false => exact absurd ⟨h0, q⟩ h
    obtain ⟨hd, hin, hl, hq⟩ := no_in h0
    obtain ⟨k, rfl⟩ : ∃ m : Nat, i = Int.ofNat m := ⟨i.toNat, by simp; omega⟩
    have hk : k < c.n := by have := hin.2; simpa using this
    have d : decide (c.no (Int.ofNat k) x = 0) = true := by rw [h0]; rfl
    have eE : s.wrE (c.at_ (Int.ofNat k)) 64 = 13 := by unfold SS.wrE; rw [ho]
    have dE : decide (s.wrE (c.at_ (Int.ofNat k)) 64 = 0) = false := by rw [eE]; rfl
    have cE : cmE s (c.at_ (Int.ofNat k)) (c.nx (Int.ofNat k)) x = 13 := by unfold cmE; rw [dE]; exact eE
    have cS : cmS s (c.at_ (Int.ofNat k)) (c.nx (Int.ofNat k)) x = s := by unfold cmS; rw [dE]; unfold wrote; exact wrS_off ho _ _
    have dC : decide (cmE s (c.at_ (Int.ofNat k)) (c.nx (Int.ofNat k)) x = 0) = false := by rw [cE]; rfl
    have e2 : c.putE s (Int.ofNat k) x = 13 := by unfold CS.putE; rw [d]; simp only; rw [dC]
    have e3 : c.putC s (Int.ofNat k) x = { c with dead := true } := by unfold CS.putC; rw [d]; simp only; rw [dC]
    have e4 : c.putS s (Int.ofNat k) x = s := by unfold CS.putS; rw [d]; exact cS
    refine ⟨?_, e4, by rw [e3], by rw [e3], by rw [e3]⟩
    rw [e2, e3]
    show Con Tryd.prog 17 _ _ _ [.keep, .keep, .keep, .set (rcO 0 4 5 c.n true), .keep, .keep]
    have d1 : decide (Int.ofNat k < 0) = false := df (by simp)
    have d2 : decide (Int.ofNat c.n ≤ Int.ofNat k) = false := df (by simp; omega)
    have n2 := bnt d2
    have d3 : decide ((51 : Int) < Int.ofNat (List.length x)) = false := df (by simp; omega)
    have hq : c.q k < 1099511627776 := hq
    have d4 : decide (Int.ofNat (c.q k) = (1099511627776 : Int)) = false := df (by simp; omega)
    have hr : (0 : Int) ≤ Int.ofNat k ∧ Int.ofNat k < (↑c.n : Int) := ⟨hin.1, hin.2⟩
    have hc := hI.hc
    have rq : (-9223372036854775808 : Int) ≤ Int.ofNat (c.q k) + (1 : Int) ∧ Int.ofNat (c.q k) + (1 : Int) ≤ (9223372036854775807 : Int) := ⟨by simp <;> omega, by simp <;> omega⟩
    have r2 : (-9223372036854775808 : Int) ≤ (2 : Int) * Int.ofNat k ∧ (2 : Int) * Int.ofNat k ≤ (9223372036854775807 : Int) := ⟨by simp <;> omega, by simp <;> omega⟩
    have r3 : (-9223372036854775808 : Int) ≤ (2 : Int) * Int.ofNat k + (1 : Int) ∧ (2 : Int) * Int.ofNat k + (1 : Int) ≤ (9223372036854775807 : Int) := ⟨by simp <;> omega, by simp <;> omega⟩
    have lay : Con Tryd.prog 39 [AV.agg [AV.i .i64 (Int.ofNat (c.q k) + (1 : Int)), AV.s x]] [] (AV.sv 1 64 (byF (sectB (c.q k + 1) x))) [] := by
      have h := rlay_con (c.q k + 1) x (by omega) hl hx
      rw [sel_sect] at h
      exact h
    have wr0 : ∀ a : Int, Con Tryd.prog 38 [AV.p 0 0, AV.i .i64 a, AV.sv 1 64 (byF (sectB (c.q k + 1) x))] [some (rsA 2 s), some (rsR s), some (rsP s)] (AV.i .i64 (13 : Int)) [Upd.keep, Upd.keep, Upd.keep] := fun a => by
      have h := rwriteNo_con s a 64 (fun j => Int.ofNat (sectB (c.q k + 1) x j)) (.inl ho)
      rw [show s.wrE a 64 = 13 by unfold SS.wrE; rw [ho]] at h
      exact h
    have wr := wr0 ((2 : Int) * Int.ofNat k)
    have wr' := wr0 ((2 : Int) * Int.ofNat k + 1)
    unfold rob
    rw [hd]
    rcases sec_or r hI.sp k with ⟨q1, q2, q3⟩ | ⟨q1, q2, q3⟩ | ⟨q1, q2⟩
    · have d5 : decide ((0 : Int) < Int.ofNat (c.q k)) = true := dt (by simp; omega)
      have d6 := bnt q3
      refine con_of_run [] [] ((rputAO_vc s c.n k c.q c.d c.sec (sectB (c.q k + 1) x) x d1 d2 d3 d4 d5 d6 _).mpr ?_)
      repeat' (first | exact trivial | assumption | apply And.intro)
      exact ⟨_, _, rfl, ret_k (by kernel_rfl)⟩
    · have d5 : decide ((0 : Int) < Int.ofNat (c.q k)) = true := dt (by simp; omega)
      have d6 := bnf q3
      refine con_of_run [] [] ((rputBO_vc s c.n k c.q c.d c.sec (sectB (c.q k + 1) x) x d1 d2 d3 d4 d5 d6 _).mpr ?_)
      repeat' (first | exact trivial | assumption | apply And.intro)
      exact ⟨_, _, rfl, ret_k (by kernel_rfl)⟩
    · have d5 : decide ((0 : Int) < Int.ofNat (c.q k)) = false := df (by rw [q1]; simp)
      refine con_of_run [] [] ((rputCO_vc s c.n k c.q c.d c.sec (sectB (c.q k + 1) x) x d1 d2 d3 d4 d5 _).mpr ?_)
      repeat' (first | exact trivial | assumption | apply And.intro)
      exact ⟨_, _, rfl, ret_k (by kernel_rfl)⟩
  · have d : decide (c.no i x = 0) = false := df h0
    have e2 : c.putE s i x = c.no i x := by unfold CS.putE; rw [d]
    have e3 : c.putC s i x = c := by unfold CS.putC; rw [d]
    have e4 : c.putS s i x = s := by unfold CS.putS; rw [d]
    refine ⟨?_, e4, by rw [e3], by rw [e3], by rw [e3]⟩
    rw [e2, e3]
    exact (rputN_con s r i x h0).post (.refl _) (OVL.refl _)
end Go.Proofs.Cl
namespace Go.Proofs.Cl
open Go Go.Sim Go.Proofs Go.Proofs.St
noncomputable def rsK (s : SS) : AObj := .cells 51 5 [] (setAll .e 0 [.lr 2 1 0 s.n false, .lr 3 2 0 s.P.length false, .i .i64 (Int.ofNat s.wr), .i .i64 s.am, .b s.off])
noncomputable def rcK (n : Nat) (dead : Bool) : AObj := .cells 80 4 [] (setAll .e 0 [.p 1 0, .lr 6 2 0 n false, .lr 7 1 0 n false, .b dead])
end Go.Proofs.Cl
namespace Go.Proofs.Cl
open Go Go.Sim Go.Proofs Go.Proofs.Cd Go.Proofs.St Go.Proofs.YtiihmkiiojlcaaaDoor
theorem lkQ_le (b : Nat → Nat) : lkQ b ≤ 1099511627776 := by
  unfold lkQ
  cases h : okB b with
  | true => rw [cond_true]; exact (ok_parts h).2.2.2.1
  | false => rw [cond_false]; omega
theorem seeQ_le (s : SS) (a : Int) : seeQ s a ≤ 1099511627776 := by
  unfold seeQ
  split
  · exact lkQ_le _
  · omega
theorem RInv.opened (s : SS) (n : Nat) : RInv (Cl.opened s n) := by
  refine ⟨fun k => ?_, fun k => ?_⟩
  · show (bif Nat.blt k n then opQ s k else 0) ≤ _
    cases Nat.blt k n with
    | false => rw [cond_false]; omega
    | true =>
      rw [cond_true]
      unfold opQ nwQ
      split <;> exact seeQ_le _ _
  · show (bif Nat.blt k n then opQ s k else 0) = 0 → (bif Nat.blt k n then opS s k else 0) = 0
    cases Nat.blt k n with
    | false => rw [cond_false, cond_false]; exact fun h => h
    | true =>
      rw [cond_true, cond_true]
      unfold opQ opS nwQ nwS
      cases h : Nat.blt (seeQ s (Int.ofNat k * 2 + 0)) (seeQ s (Int.ofNat k * 2 + 1)) with
      | true => exact fun _ => rfl
      | false =>
        intro h0
        have h0 : seeQ s (Int.ofNat k * 2 + 0) = 0 := h0
        simp only [h0]
theorem RInv.put {c : CS} (r : RInv c) (s : SS) (i : Int) (x : List Nat) : RInv (c.putC s i x) ∧ (c.putC s i x).n = c.n := by
  unfold CS.putC
  split
  · exact ⟨r, rfl⟩
  · rename_i h
    have h := of_decide_eq_true h
    obtain ⟨_, _, _, hq⟩ := no_in h
    split
    · refine ⟨⟨fun k => ?_, fun k => ?_⟩, rfl⟩
      · show (bif Nat.beq k i.toNat then c.q i.toNat + 1 else c.q k) ≤ _
        cases Nat.beq k i.toNat with
        | true => rw [cond_true]; omega
        | false => rw [cond_false]; exact r.q k
      · show (bif Nat.beq k i.toNat then c.q i.toNat + 1 else c.q k) = 0 → (bif Nat.beq k i.toNat then 1 - c.sp i.toNat else c.sp k) = 0
        cases Nat.beq k i.toNat with
        | true => rw [cond_true]; exact fun h => absurd h (by omega)
        | false => rw [cond_false, cond_false]; exact r.z k
    · exact ⟨⟨r.q, r.z⟩, rfl⟩
noncomputable def plO (n : Nat) (p : CS × SS) : List (Option AObj) := [some p.2.o, some (rsK p.2), some (rsR p.2), some (rsP p.2), some p.1.oa, some (rcK n p.1.dead), some (rcV n p.1.q p.1.d), some (rcB n p.1.sec)]
theorem same1 (a : Int) : (!!decide (a = a)) = true := by simp
theorem same0 (a : Int) : (!decide (a = a)) = false := by simp
theorem nats_rf (d : List Nat) : natsEq d d = true := (natsEq_iff d d).2 rfl
theorem cell1 (g : Nat) (d : List Nat) : (!!(decide (Int.ofNat g = Int.ofNat g) && (natsEq d d && true))) = true := by rw [nats_rf]; simp
theorem cell0 (g : Nat) (d : List Nat) : (!(decide (Int.ofNat g = Int.ofNat g) && (natsEq d d && true))) = false := by rw [nats_rf]; simp
theorem img_im {s : SS} (h : Byt s) : imgF s = imF (fun i => bif s.torn i then 0 else 64) fun i k => (s.dur i k).toNat := by
  funext i j
  unfold imgF imF
  congr 1
  funext k _
  obtain ⟨m, _, e⟩ := h.dur i k
  show CV.i .u8 (s.dur i k) = CV.i .u8 (Int.ofNat (s.dur i k).toNat)
  rw [e]; rfl
theorem same2_con (s : SS) (hn : s.n ≤ 512) (hb : Byt s) : Con Tryd.prog 22 [.sv 1 s.n (imgF s), .lr 0 1 0 s.n false] [some (rsR s)] (.b true) [.gone] := by
  have k := same_con s.n _ _ _ _ hn fun i (_ : i < s.n) => ⟨Eq.refl ((fun i => bif s.torn i then 0 else 64) i), fun k _ => Eq.refl ((fun i k => (s.dur i k).toNat) i k)⟩
  rw [← img_im hb] at k
  exact (k.slot rfl (by kernel_rfl) (by kernel_rfl)).thaw (us0 := [.gone]) 0 (e := 55) (sz := 1) (n := s.n) (f := imgF s) rfl ⟨rfl, trivial⟩ ⟨.inl rfl, .inr ⟨by kernel_rfl, ⟨rfl, by omega⟩, rfl⟩, trivial⟩ rfl
end Go.Proofs.Cl
