/- Runs over unknown values, told by the kernel: part GI. -/
import Derived.Test.YtjhcbjncdbmhoaaGH
set_option linter.unusedSimpArgs false
set_option linter.unusedVariables false
set_option maxRecDepth 20000
namespace Go.Proofs.Ly
open Go Go.Sim Go.Proofs Go.Proofs.Cl Go.Proofs.Ytjhcbjncdbmhoaa
theorem fNf_le : ∀ (k f n : Nat), n < 128 ^ (k + 1) → (fNf f n).length ≤ k + 1
  | k, 0, n, _ => by show 1 ≤ k + 1; omega
  | k, f + 1, n, h => by
    show List.length (match Nat.blt n 128 with | true => [n] | false => (n % 128 + 128) :: fNf f (n / 128)) ≤ _
    cases e : Nat.blt n 128 with
    | true => show 1 ≤ k + 1; omega
    | false =>
      have e : ¬ n < 128 := fun q => by rw [bT q] at e; cases e
      cases k with
      | zero => exact absurd h (by simpa using e)
      | succ k =>
        have := fNf_le k f (n / 128) (by rw [Nat.pow_succ] at h; omega)
        show (fNf f (n / 128)).length + 1 ≤ _
        omega
theorem fN_1 {n : Nat} (h : n < 128) : (fN n).length = 1 := by
  have a := fNf_le 0 10 n h
  have b := fN_pos n
  unfold fN at b ⊢
  omega
theorem fN_2 {n : Nat} (h : n < 16384) : (fN n).length ≤ 2 := fNf_le 1 10 n h
theorem fN_6 {n : Nat} (h : n < 4398046511104) : (fN n).length ≤ 6 := fNf_le 5 10 n h
theorem wi_bd {v a b : Int} (h : wi v a b = true) : a ≤ v ∧ v ≤ b := by
  unfold wi at h
  simpa only [Bool.and_eq_true, decide_eq_true_eq] using h
theorem ip_lt {v : Int} (h : ipB v = true) : v.toNat < 128 := by
  unfold ipB at h
  rw [Bool.or_eq_true] at h
  rcases h with q | q
  · have := of_decide_eq_true q
    omega
  · have := wi_bd q
    omega
theorem pm8_lt {p0 p1 p2 p3 p4 p5 p6 p7 : Int} (h : pm8B p0 p1 p2 p3 p4 p5 p6 p7 = true) : p0.toNat < 128 ∧ p1.toNat < 128 ∧ p2.toNat < 128 ∧ p3.toNat < 128 ∧ p4.toNat < 128 ∧ p5.toNat < 128 ∧ p6.toNat < 128 ∧ p7.toNat < 128 :=
  ⟨ip_lt (alB_t h 0 (by decide)), ip_lt (alB_t h 1 (by decide)), ip_lt (alB_t h 2 (by decide)), ip_lt (alB_t h 3 (by decide)), ip_lt (alB_t h 4 (by decide)), ip_lt (alB_t h 5 (by decide)), ip_lt (alB_t h 6 (by decide)), ip_lt (alB_t h 7 (by decide))⟩
theorem pm4_lt {a b c d : Int} (h : pm4B a b c d = true) : a.toNat < 128 ∧ b.toNat < 128 ∧ c.toNat < 128 ∧ d.toNat < 128 :=
  ⟨ip_lt (alB_t h 0 (by decide)), ip_lt (alB_t h 1 (by decide)), ip_lt (alB_t h 2 (by decide)), ip_lt (alB_t h 3 (by decide))⟩
theorem in_lt {k g l s d0 d1 d2 d3 i : Int} (h : inB k g l s d0 d1 d2 d3 i = true) : k.toNat < 128 ∧ g.toNat < 4398046511104 ∧ l.toNat < 128 ∧ s.toNat < 16384 ∧ d0.toNat < 128 ∧ d1.toNat < 128 ∧ d2.toNat < 128 ∧ d3.toNat < 128 ∧ i.toNat < 128 := by
  unfold inB at h
  rw [Bool.and_eq_true] at h
  obtain ⟨hg, h⟩ := h
  have hg := wi_bd hg
  cases e : decide (k = 0) with
  | true =>
    rw [e, cond_true] at h
    have e := of_decide_eq_true e
    unfold zrB at h
    simp only [Bool.and_eq_true, decide_eq_true_eq, Bool.and_true] at h
    obtain ⟨_, _, h1, h2, ⟨h3, h4, h5, h6⟩, h7⟩ := h
    exact ⟨by omega, by omega, by omega, by omega, by omega, by omega, by omega, by omega, by omega⟩
  | false =>
    rw [e, cond_false] at h
    cases e1 : decide (k = 1) with
    | true =>
      rw [e1, cond_true] at h
      have e1 := of_decide_eq_true e1
      simp only [Bool.and_eq_true] at h
      obtain ⟨h1, h2, h3, h4⟩ := h
      obtain ⟨a, b, c, d⟩ := pm4_lt h3
      have h1 := wi_bd h1
      have h2 := wi_bd h2
      exact ⟨by omega, by omega, by omega, by omega, a, b, c, d, ip_lt h4⟩
    | false =>
      rw [e1, cond_false] at h
      cases e2 : decide (k = 2) with
      | true =>
        rw [e2, cond_true] at h
        have e2 := of_decide_eq_true e2
        simp only [Bool.and_eq_true, decide_eq_true_eq] at h
        obtain ⟨h1, h2, h3, h4⟩ := h
        obtain ⟨a, b, c, d⟩ := pm4_lt h3
        have h2 := wi_bd h2
        have h4 := wi_bd h4
        exact ⟨by omega, by omega, by omega, by omega, a, b, c, d, by omega⟩
      | false => rw [e2, cond_false] at h; cases h
theorem ebT_len (v : Int) (t : List Nat) : (ebT v t).length ≤ 44 := by
  unfold ebT
  cases e : blB v t with
  | false => exact Nat.zero_le _
  | true =>
    unfold blB at e
    simp only [Bool.and_eq_true, decide_eq_true_eq] at e
    obtain ⟨h1, h2, _⟩ := e
    have h1 := wi_bd h1
    have h2 : t.length ≤ 38 := by simp at h2; omega
    have h3 := fN_6 (n := v.toNat) (by omega)
    rw [cond_true]
    cases decide (v = 0) with
    | true => exact Nat.zero_le _
    | false =>
      show ((fN v.toNat ++ []) ++ t).length ≤ 44
      rw [List.append_nil, List.length_append]
      omega
theorem inT_len (k g l s d0 d1 d2 d3 i : Int) : (inT k g l s d0 d1 d2 d3 i).length ≤ 38 := by
  unfold inT
  cases e : inB k g l s d0 d1 d2 d3 i with
  | false => exact Nat.zero_le _
  | true =>
    obtain ⟨a0, a1, a2, a3, a4, a5, a6, a7, a8⟩ := in_lt e
    have b0 := fN_1 a0
    have b1 := fN_6 a1
    have b2 := fN_1 a2
    have b3 := fN_2 a3
    have b4 := fN_1 a4
    have b5 := fN_1 a5
    have b6 := fN_1 a6
    have b7 := fN_1 a7
    have b8 := fN_1 a8
    show (fN k.toNat ++ (fN g.toNat ++ (fN l.toNat ++ (fN s.toNat ++ (fN d0.toNat ++ (fN d1.toNat ++ (fN d2.toNat ++ (fN d3.toNat ++ (fN i.toNat ++ []))))))))).length ≤ 38
    simp only [List.length_append, List.length_nil]
    omega
theorem ptT_len {p0 p1 p2 p3 p4 p5 p6 p7 : Int} (e : pm8B p0 p1 p2 p3 p4 p5 p6 p7 = true) : (ptT p0 p1 p2 p3 p4 p5 p6 p7).length = 8 := by
  unfold ptT
  obtain ⟨a0, a1, a2, a3, a4, a5, a6, a7⟩ := pm8_lt e
  have b0 := fN_1 a0
  have b1 := fN_1 a1
  have b2 := fN_1 a2
  have b3 := fN_1 a3
  have b4 := fN_1 a4
  have b5 := fN_1 a5
  have b6 := fN_1 a6
  have b7 := fN_1 a7
  rw [e, cond_true]
  show (fN p0.toNat ++ (fN p1.toNat ++ (fN p2.toNat ++ (fN p3.toNat ++ (fN p4.toNat ++ (fN p5.toNat ++ (fN p6.toNat ++ (fN p7.toNat ++ [])))))))).length = 8
  simp only [List.length_append, List.length_nil]
  omega
theorem sgT_len (g : Nat → Bool) : (sgT g).length ≤ 38 := by
  have h := fm_le (l := [Int.ofNat (gat (fun i => g (0 + i)) 8), Int.ofNat (gat (fun i => g (8 + i)) 24)]) (by intro v hv; simp only [List.mem_cons, List.not_mem_nil, or_false] at hv; rcases hv with rfl | rfl <;> exact ga_rw _ (by decide))
  have : (sgT g).length ≤ 11 * 2 := h
  omega
theorem pE_bd {A : Nat → List Nat} {N : Nat → Int} {i : Nat} (h : pE A N i = true) : (A i).length ≤ 6 ∧ (N i).toNat < 128 ∧ rwI (N i) := by
  unfold pE at h
  simp only [Bool.and_eq_true] at h
  obtain ⟨h1, h2, _⟩ := h
  have h2 : wi (N i) 0 15 = true := h2
  have h3 := wi_bd h2
  exact ⟨nm_le h1, by omega, wi_rw h2 (by decide) (by decide)⟩
theorem enP_len {A : Nat → List Nat} {N : Nat → Int} : ∀ n, (∀ i, i < n → pE A N i = true) → (enP A N n).length ≤ 8 * n
  | 0, _ => Nat.le_refl _
  | n + 1, h => by
    have := enP_len n fun i hi => h i (by omega)
    obtain ⟨h1, h2, _⟩ := pE_bd (h n (by omega))
    have h3 := fN_1 h2
    have h4 := fN_1 (n := (A n).length) (by omega)
    show ((enP A N n ++ (fN (A n).length ++ A n)) ++ fN (N n).toNat).length ≤ _
    simp only [List.length_append]
    omega
theorem enT_len (n : Nat) (A : Nat → List Nat) (N : Nat → Int) : (enT n A N).length ≤ 128 := by
  unfold enT
  cases e : enB n A N with
  | false => exact Nat.zero_le _
  | true =>
    unfold enB at e
    rw [Bool.and_eq_true] at e
    have h1 : n ≤ 8 := by have := of_decide_eq_true e.1; simp at this; omega
    have := enP_len n (alB_t e.2)
    rw [cond_true]
    omega
theorem backB {v : Int} {t : List Nat} (h : blB v t = true) : okD (ebT v t) = true ∧ dbV (ebT v t) = v ∧ dbD (ebT v t) = t := by
  have hr := bl_rw h
  have key : okD (ebT v t) = true ∧ Int.ofNat (nvU (ebT v t)) = v ∧ (ebT v t).drop (nzU (ebT v t)) = t := by
    cases e : decide (v = 0) with
    | true =>
      have e := of_decide_eq_true e
      subst e
      have ht : t = [] := by
        unfold blB at h
        simp only [Bool.and_eq_true, Bool.or_eq_true, decide_eq_true_eq] at h
        rcases h.2.2 with q | q
        · omega
        · exact (natsEq_iff _ _).1 q
      subst ht
      exact ⟨by kernel_rfl, by kernel_rfl, by kernel_rfl⟩
    | false =>
      have e1 : ebT v t = fN v.toNat ++ t := by
        unfold ebT
        rw [h, e, cond_true, cond_false]
        show (fN v.toNat ++ []) ++ t = _
        rw [List.append_nil]
      obtain ⟨a, b, _⟩ := num_back (n := v.toNat) (by unfold rwI at hr; omega) t
      rw [← e1] at a b
      have e2 : (ebT v t).drop (nzU (ebT v t)) = t := by rw [b, e1, drop_len]
      have e3 : Int.ofNat (nvU (ebT v t)) = v := by rw [a]; exact nat_of hr
      refine ⟨?_, e3, e2⟩
      unfold okD
      rw [e2, e3, h, Bool.true_and, natsEq_self]
  refine ⟨key.1, ?_, ?_⟩
  · unfold dbV; rw [key.1]; exact key.2.1
  · unfold dbD; rw [key.1]; exact key.2.2
theorem byt_ebT {v : Int} {t : List Nat} (hb : Byt t) : Byt (ebT v t) := by
  unfold ebT
  cases e : blB v t with
  | false => exact Byt.nil
  | true =>
    have hr := bl_rw e
    cases decide (v = 0) with
    | true => exact Byt.nil
    | false => exact ((fN_byt (by unfold rwI at hr; omega)).app Byt.nil).app hb
theorem back26 {v : Int} {t : List Nat} (hb : Byt t) (q : decide (ebE v t = 0) = true) : Con Try.prog 26 [.s (ebT v t)] [] (.tup [.agg [.i .i64 v, .s t], .i .i64 0]) [] := by
  rw [eb_0] at q
  obtain ⟨a, b, c⟩ := backB q
  have k := decB_con (byt_ebT (v := v) hb) (Nat.le_trans (ebT_len v t) (by decide))
  rw [a, b, c] at k
  exact k
theorem fm_byt : ∀ (l : List Nat), (∀ x ∈ l, x < 9223372036854775808) → Byt (fm l)
  | [], _ => Byt.nil
  | a :: l, h => (fN_byt (h a (by simp))).app (fm_byt l fun x hx => h x (by simp [hx]))
theorem rw_nat {v : Int} (h : rwI v) : v.toNat < 9223372036854775808 := by unfold rwI at h; omega
theorem back28 {k g l s d0 d1 d2 d3 i : Int} (q : decide (inE k g l s d0 d1 d2 d3 i = 0) = true) : Con Try.prog 28 [.s (inT k g l s d0 d1 d2 d3 i)] [] (.tup [.agg [.i .i64 k, .i .i64 g, .i .i64 l, .i .i64 s, .i .i64 d0, .i .i64 d1, .i .i64 d2, .i .i64 d3, .i .i64 i], .i .i64 0]) [] := by
  rw [in_0] at q
  obtain ⟨r0, r1, r2, r3, r4, r5, r6, r7, r8⟩ := in_rw q
  have hl : ∀ x ∈ [k.toNat, g.toNat, l.toNat, s.toNat, d0.toNat, d1.toNat, d2.toNat, d3.toNat, i.toNat], x < 9223372036854775808 := by
    intro x hx
    simp only [List.mem_cons, List.not_mem_nil, or_false] at hx
    rcases hx with rfl | rfl | rfl | rfl | rfl | rfl | rfl | rfl | rfl <;> exact rw_nat (by assumption)
  have e1 : inT k g l s d0 d1 d2 d3 i = fm [k.toNat, g.toNat, l.toNat, s.toNat, d0.toNat, d1.toNat, d2.toNat, d3.toNat, i.toNat] := by unfold inT; rw [q]; rfl
  obtain ⟨c1, _⟩ := chain_back _ [] hl
  rw [List.append_nil, ← e1] at c1
  have c1 : vL 9 (rd0 (inT k g l s d0 d1 d2 d3 i)) = _ := c1
  have hb : Byt (inT k g l s d0 d1 d2 d3 i) := by rw [e1]; exact fm_byt _ hl
  have K := decI_con hb (Nat.le_trans (inT_len k g l s d0 d1 d2 d3 i) (by decide))
  generalize hs : inT k g l s d0 d1 d2 d3 i = z at *
  have c2 : [vR (rd0 z) 0, vR (rd0 z) 1, vR (rd0 z) 2, vR (rd0 z) 3, vR (rd0 z) 4, vR (rd0 z) 5, vR (rd0 z) 6, vR (rd0 z) 7, vR (rd0 z) 8] = [k.toNat, g.toNat, l.toNat, s.toNat, d0.toNat, d1.toNat, d2.toNat, d3.toNat, i.toNat] := c1
  simp only [List.cons.injEq, and_true] at c2
  obtain ⟨z0, z1, z2, z3, z4, z5, z6, z7, z8⟩ := c2
  have ok : okI z = true := by
    unfold okI inX
    rw [fI_vL, c1, ← e1, natsEq_self, Bool.and_true, z0, z1, z2, z3, z4, z5, z6, z7, z8, nat_of r0, nat_of r1, nat_of r2, nat_of r3, nat_of r4, nat_of r5, nat_of r6, nat_of r7, nat_of r8]
    exact q
  rw [ok, z0, z1, z2, z3, z4, z5, z6, z7, z8, nat_of r0, nat_of r1, nat_of r2, nat_of r3, nat_of r4, nat_of r5, nat_of r6, nat_of r7, nat_of r8] at K
  exact K
theorem byt_ptT {p0 p1 p2 p3 p4 p5 p6 p7 : Int} (q : pm8B p0 p1 p2 p3 p4 p5 p6 p7 = true) : ∀ x ∈ [p0.toNat, p1.toNat, p2.toNat, p3.toNat, p4.toNat, p5.toNat, p6.toNat, p7.toNat], x < 9223372036854775808 := by
  obtain ⟨r0, r1, r2, r3, r4, r5, r6, r7⟩ := pm8_rw q
  intro x hx
  simp only [List.mem_cons, List.not_mem_nil, or_false] at hx
  rcases hx with rfl | rfl | rfl | rfl | rfl | rfl | rfl | rfl <;> exact rw_nat (by assumption)
theorem back30 {p0 p1 p2 p3 p4 p5 p6 p7 : Int} (q : decide (ptE p0 p1 p2 p3 p4 p5 p6 p7 = 0) = true) : Con Try.prog 30 [.s (ptT p0 p1 p2 p3 p4 p5 p6 p7)] [] (.tup [.agg [.i .i64 p0, .i .i64 p1, .i .i64 p2, .i .i64 p3, .i .i64 p4, .i .i64 p5, .i .i64 p6, .i .i64 p7], .i .i64 0]) [] := by
  rw [pt_0] at q
  obtain ⟨r0, r1, r2, r3, r4, r5, r6, r7⟩ := pm8_rw q
  have hl := byt_ptT q
  have e1 : ptT p0 p1 p2 p3 p4 p5 p6 p7 = fm [p0.toNat, p1.toNat, p2.toNat, p3.toNat, p4.toNat, p5.toNat, p6.toNat, p7.toNat] := by unfold ptT; rw [q]; rfl
  obtain ⟨c1, _⟩ := chain_back _ [] hl
  rw [List.append_nil, ← e1] at c1
  have c1 : vL 8 (rd0 (ptT p0 p1 p2 p3 p4 p5 p6 p7)) = _ := c1
  have hb : Byt (ptT p0 p1 p2 p3 p4 p5 p6 p7) := by rw [e1]; exact fm_byt _ hl
  have K := decP_con hb (by rw [ptT_len q]; decide)
  generalize hs : ptT p0 p1 p2 p3 p4 p5 p6 p7 = z at *
  have c2 : [vR (rd0 z) 0, vR (rd0 z) 1, vR (rd0 z) 2, vR (rd0 z) 3, vR (rd0 z) 4, vR (rd0 z) 5, vR (rd0 z) 6, vR (rd0 z) 7] = [p0.toNat, p1.toNat, p2.toNat, p3.toNat, p4.toNat, p5.toNat, p6.toNat, p7.toNat] := c1
  simp only [List.cons.injEq, and_true] at c2
  obtain ⟨z0, z1, z2, z3, z4, z5, z6, z7⟩ := c2
  have ok : okP z = true := by
    unfold okP ptX
    rw [c1, ← e1, natsEq_self, Bool.and_true, z0, z1, z2, z3, z4, z5, z6, z7, nat_of r0, nat_of r1, nat_of r2, nat_of r3, nat_of r4, nat_of r5, nat_of r6, nat_of r7]
    exact q
  rw [ok, z0, z1, z2, z3, z4, z5, z6, z7, nat_of r0, nat_of r1, nat_of r2, nat_of r3, nat_of r4, nat_of r5, nat_of r6, nat_of r7] at K
  exact K
theorem gat_inj {a b : Nat → Bool} : ∀ n, gat a n = gat b n → ∀ k, k < n → a k = b k
  | 0, _, k, hk => absurd hk (Nat.not_lt_zero k)
  | n + 1, h, k, hk => by
    have ha := gat_lt a n
    have hb := gat_lt b n
    have h : gat a n + (bif a n then 2 ^ n else 0) = gat b n + (bif b n then 2 ^ n else 0) := h
    generalize (2 : Nat) ^ n = P at ha hb h
    have key : gat a n = gat b n ∧ a n = b n := by
      cases ea : a n <;> cases eb : b n <;> rw [ea, eb] at h <;> simp only [cond_true, cond_false] at h
      · exact ⟨by omega, rfl⟩
      · omega
      · omega
      · exact ⟨by omega, rfl⟩
    rcases Nat.lt_or_ge k n with q | q
    · exact gat_inj n key.1 k q
    · obtain rfl : k = n := by omega
      exact key.2
theorem bt_gat {f : Nat → Bool} {n k : Nat} (hk : k < n) : bt (gat f n) k = f k := by
  refine gat_inj n ?_ k hk
  rw [gat_bt]
  exact Nat.mod_eq_of_lt (gat_lt f n)
theorem back34 (g : Nat → Bool) : Con Try.prog 34 [.s (sgT g)] [] (.tup [.agg [.b (g 0), .b (g 1), .b (g 2), .b (g 3), .b (g 4), .b (g 5), .b (g 6), .b (g 7), .b (g 8), .b (g 9), .b (g 10), .b (g 11), .b (g 12), .b (g 13), .b (g 14), .b (g 15), .b (g 16), .b (g 17), .b (g 18), .b (g 19), .b (g 20), .b (g 21), .b (g 22), .b (g 23), .b (g 24), .b (g 25), .b (g 26), .b (g 27), .b (g 28), .b (g 29), .b (g 30), .b (g 31)], .i .i64 0]) [] := by
  have l0 := gat_lt (fun i => g (0 + i)) 8
  have l1 := gat_lt (fun i => g (8 + i)) 24
  have e1 : sgT g = fm [gat (fun i => g (0 + i)) 8, gat (fun i => g (8 + i)) 24] := rfl
  have hl : ∀ x ∈ [gat (fun i => g (0 + i)) 8, gat (fun i => g (8 + i)) 24], x < 9223372036854775808 := by
    intro x hx
    simp only [List.mem_cons, List.not_mem_nil, or_false] at hx
    rcases hx with rfl | rfl
    · exact Nat.lt_trans l0 (by decide)
    · exact Nat.lt_trans l1 (by decide)
  obtain ⟨c1, _⟩ := chain_back _ [] hl
  rw [List.append_nil, ← e1] at c1
  have c1 : [vR (rd0 (sgT g)) 0, vR (rd0 (sgT g)) 1] = _ := c1
  simp only [List.cons.injEq, and_true] at c1
  obtain ⟨z0, z1⟩ := c1
  have hb : Byt (sgT g) := by rw [e1]; exact fm_byt _ hl
  have K := decS_con hb (Nat.le_trans (sgT_len g) (by decide))
  have ok : okS (sgT g) = true := by
    unfold okS
    rw [sgT_eq, z0, z1, Nat.mod_eq_of_lt l0, Nat.mod_eq_of_lt l1, ← e1, natsEq_self]
  have eg : ∀ k, k < 32 → gO (sgT g) k = g k := fun k hk => by
    unfold gO
    rw [ok, z0, z1, cond_true]
    unfold gT
    rcases Nat.lt_or_ge k 8 with q | q
    · rw [bT q, cond_true, bt_gat q, Nat.zero_add]
    · rw [bF q, cond_false, bT (show k - 8 < 24 by omega), cond_true, bt_gat (show k - 8 < 24 by omega), show 8 + (k - 8) = k by omega]
  rw [ok, ag_eq eg] at K
  exact K
theorem alB_congr {p q : Nat → Bool} : ∀ n, (∀ i, i < n → p i = q i) → alB p n = alB q n
  | 0, _ => rfl
  | n + 1, h => by
    show (alB p n && p n) = (alB q n && q n)
    rw [alB_congr n fun i hi => h i (by omega), h n (by omega)]
theorem enB_congr {n : Nat} {A B : Nat → List Nat} {N M : Nat → Int} (h : ∀ i, i < n → A i = B i ∧ N i = M i) : enB n A N = enB n B M := by
  unfold enB
  rw [alB_congr n fun i hi => ?_]
  unfold pE
  rw [(h i hi).1, (h i hi).2]
  cases i with
  | zero => rfl
  | succ i => show (nmB _ && (iiB _ && !leB _ (A i))) = (nmB _ && (iiB _ && !leB _ (B i))); rw [(h i (by omega)).1]
theorem backE {n : Nat} {A : Nat → List Nat} {N : Nat → Int} (hb : ∀ i, i < n → Byt (A i)) (e : enB n A N = true) : Stop (rd0 (enP A N n)) 8 n ∧ okE (enP A N n) n = true ∧ (∀ i, i < n → eA (rd0 (enP A N n)) i = A i ∧ eN (rd0 (enP A N n)) i = N i) ∧ Byt (enP A N n) := by
  obtain ⟨h8, hE⟩ := en_ok e hb
  obtain ⟨k1, k2⟩ := e_back n A N [] fun i hi => ⟨(hE i hi).1, (hE i hi).2.2⟩
  rw [List.append_nil] at k1 k2
  have hB := enP_byt ⟨h8, hE⟩ n (Nat.le_refl n)
  have pt : ∀ i, i < n → eA (rd0 (enP A N n)) i = A i ∧ eN (rd0 (enP A N n)) i = N i := fun i hi => ⟨(k2 i hi).1, (k2 i hi).2.1⟩
  have eb : enB n (eA (rd0 (enP A N n))) (eN (rd0 (enP A N n))) = true := by rw [enB_congr pt]; exact e
  refine ⟨⟨h8, fun i hi => (k2 i hi).2.2, .inr ?_⟩, ?_, pt, hB⟩
  · unfold goB
    rw [show eR (rd0 (enP A N n)) n = ⟨[], 0⟩ from k1]
    rfl
  · unfold okE
    rw [eb, (natsEq_iff _ _).2 ((end_iff hB eb).2 k1)]
    rfl
theorem dF {a b : Nat} (h : b ≤ a) : decide (Int.ofNat a < Int.ofNat b) = false := decide_eq_false (by simp; omega)
theorem back_con (v : Int) (t : List Nat) (x0 x1 x2 x3 x4 x5 x6 x7 x8 p0 p1 p2 p3 p4 p5 p6 p7 : Int) (n : Nat) (A : Nat → List Nat) (N : Nat → Int) (g : Nat → Bool) (ht : t.length ≤ 281474976710656) (htb : Byt t) (hn : n * 24 ≤ 140737488351232) (hA : LenA n A) (hb : ∀ i, i < n → Byt (A i)) :
    Con Try.prog 6 [.agg ([.i .i64 v, .s t, .i .i64 x0, .i .i64 x1, .i .i64 x2, .i .i64 x3, .i .i64 x4, .i .i64 x5, .i .i64 x6, .i .i64 x7, .i .i64 x8, .i .i64 p0, .i .i64 p1, .i .i64 p2, .i .i64 p3, .i .i64 p4, .i .i64 p5, .i .i64 p6, .i .i64 p7, .sv 2 n (eF A N)] ++ gL g)] [] (.b true) [] := by
  have h1 : decide (44 < Int.ofNat (List.length (ebT v t))) = false := dF (ebT_len v t)
  have h2 : decide (38 < Int.ofNat (List.length (inT x0 x1 x2 x3 x4 x5 x6 x7 x8))) = false := dF (inT_len _ _ _ _ _ _ _ _ _)
  have h3 : decide (128 < Int.ofNat (List.length (enT n A N))) = false := dF (enT_len n A N)
  have h4 : decide (Int.ofNat (List.length (sgT g)) ≤ 38) = true := decide_eq_true (by have := sgT_len g; simp; omega)
  have h17 := encE_lr n A N hA hb
  have key : ∃ (m : Nat) (AA : Nat → List Nat) (NN : Nat → Int), (decide (enE n A N = 0) = true → Con Try.prog 32 [.s (enT n A N)] [] (.tup [.sv 2 m (eF AA NN), .i .i64 0]) []) ∧ (decide (enE n A N = 0) = true → Con Try.prog 25 [.sv 2 m (eF AA NN), .sv 2 n (eF A N)] [] (.b true) []) := by
    cases e : enB n A N with
    | false => exact ⟨0, A, N, (fun q => by rw [en_0, e] at q; cases q), (fun q => by rw [en_0, e] at q; cases q)⟩
    | true =>
      obtain ⟨k1, k2, k3, k4⟩ := backE hb e
      have e1 : enT n A N = enP A N n := by unfold enT; rw [e]; rfl
      have e2 : nE (enP A N n) n = n := by unfold nE; rw [k2]; rfl
      have hl : (enP A N n).length ≤ 140737488351232 := by have := enT_len n A N; rw [e1] at this; omega
      have c := decE_con k4 hl n k1
      rw [k2, e2] at c
      refine ⟨n, _, _, fun _ => by rw [e1]; exact c, fun _ => ?_⟩
      have s := same_con n n (eA (rd0 (enP A N n))) A (eN (rd0 (enP A N n))) N (by omega)
      rwa [sm_pt k3] at s
  obtain ⟨m, AA, NN, j32, j25⟩ := key
  cases hp : pm8B p0 p1 p2 p3 p4 p5 p6 p7 with
  | true =>
    exact l6a_con v t x0 x1 x2 x3 x4 x5 x6 x7 x8 p0 p1 p2 p3 p4 p5 p6 p7 n A N m AA NN g _ _ _ _ _ _ _ _ _ (by omega) (eb_con v t) (encI_con x0 x1 x2 x3 x4 x5 x6 x7 x8) (encP_con p0 p1 p2 p3 p4 p5 p6 p7) h17 (seg_con g) (back34 g)
      (back26 htb) back28 back30 j32 j25 (by rw [pt_0]; exact hp) (decide_eq_true (by rw [ptT_len hp]; rfl)) h1 h2 h3 h4
  | false =>
    exact l6b_con v t x0 x1 x2 x3 x4 x5 x6 x7 x8 p0 p1 p2 p3 p4 p5 p6 p7 n A N m AA NN g _ _ _ _ _ _ _ _ _ (by omega) (eb_con v t) (encI_con x0 x1 x2 x3 x4 x5 x6 x7 x8) (encP_con p0 p1 p2 p3 p4 p5 p6 p7) h17 (seg_con g) (back34 g)
      (back26 htb) back28 back30 j32 j25 (by rw [pt_0]; exact hp) h1 h2 h3 h4
end Go.Proofs.Ly
