/- Runs over unknown values, told by the kernel: part JpA. -/
import Derived.Test.YtpoedikibkhmcaaDoorJoA
set_option linter.unusedSimpArgs false
set_option linter.unusedVariables false
set_option maxRecDepth 20000
namespace Go.Proofs.Jn
open Go Go.Sim Go.Proofs Go.Proofs.Cd Go.Proofs.St Go.Proofs.Cl Go.Proofs.YtpoedikibkhmcaaDoor
theorem pl_le (M k : Nat) : pl M k ≤ 47 := by unfold pl; omega
theorem npF_hi (M : Nat) : M ≤ npF M * 47 := by unfold npF; split <;> omega
theorem npF_lo (M : Nat) : npF M = 1 ∨ (npF M - 1) * 47 < M := by unfold npF; split <;> omega
theorem cl_pl (M : Nat) : ∀ k, cl (pl M) k = min (k * 47) M
  | 0 => by show 0 = _; omega
  | k + 1 => by
    show cl (pl M) k + pl M k = _
    rw [cl_pl M k]; unfold pl; omega
theorem cl_congr {L L' : Nat → Nat} : ∀ {k : Nat}, (∀ i, i < k → L i = L' i) → cl L k = cl L' k
  | 0, _ => rfl
  | k + 1, h => by
    show cl L k + L k = cl L' k + L' k
    rw [cl_congr fun i hi => h i (by omega), h k (by omega)]
theorem cb_pl {M : Nat} {bi : Nat → Nat} {L : Nat → Nat} {D : Nat → Nat → Nat} : ∀ {k : Nat}, (∀ i, i < k → L i = pl M i) → (∀ i, i < k → ∀ t, t < pl M i → D i t = bi (i * 47 + t)) → ∀ t, t < min (k * 47) M → cb L D k t = bi t
  | 0, _, _, t, ht => by omega
  | k + 1, hL, hD, t, ht => by
    have e : cl L k = min (k * 47) M := by rw [cl_congr (L' := pl M) fun i hi => hL i (by omega), cl_pl]
    show (bif Nat.blt t (cl L k) then cb L D k t else D k (t - cl L k)) = bi t
    rw [e]
    by_cases c : t < min (k * 47) M
    · rw [lt_ c, cond_true]
      exact cb_pl (fun i hi => hL i (by omega)) (fun i hi => hD i (by omega)) t c
    · rw [lf c, cond_false, hD k (by omega) _ (by unfold pl; omega)]
      congr 1
      omega
structure Laid (c : Nat → Nat) (gen num np k M : Nat) (bi : Nat → Nat) : Prop where
  g : stG c = gen
  n : stN c = num
  i : stI c = k
  p : stP c = np
  l : stL c = pl M k
  t : ∀ t, t < pl M k → c (11 + t) = bi (k * 47 + t)
theorem laid {gen num M k : Nat} (bi : Nat → Nat) (hg : 1 ≤ gen) (hg2 : gen ≤ 1073741824) (hn : num ≤ 1073741824) (hM : M ≤ 1128) (hk : k < npF M) : Laid (pcB gen num (npF M) M bi k) gen num (npF M) k M bi := by
  have h24 := npF_24 hM
  have hlo := npF_lo M
  have ok : PtOk (pcB gen num (npF M) M bi k) := ps_ok gen num k (npF M) (pl M k) _ hg hg2 hn h24 hk (pl_le M k) (fun h => by unfold pl; rcases hlo with e | e <;> omega) (fun h => by
    rcases hlo with e | e
    · exact .inr e
    · exact .inl (by unfold pl; omega))
  refine ⟨?_, ?_, ?_, ?_, ?_, ?_⟩
  · rw [stG_t ok]; exact ps_g1 _ _ _ _ _ _ hg2
  · rw [stN_t ok]; exact ps_g2 _ _ _ _ _ _ hn
  · rw [stI_t ok]; exact ps_8 _ _ _ _ _ _ (by omega)
  · rw [stP_t ok]; exact ps_9 _ _ _ _ _ _ (by omega)
  · rw [stL_t ok]; exact ps_10 _ _ _ _ _ _ (by have := pl_le M k; omega)
  · intro t ht
    exact ps_txt _ _ _ _ _ _ (pl_le M k) ht
theorem sumP_congr {m m' : Nat → Nat} : ∀ (j i : Nat), (∀ r, i ≤ r → r < i + j → m r = m' r) → sumP m j i = sumP m' j i
  | 0, _, _ => rfl
  | j + 1, i, h => by
    show npF (m i) + sumP m j (i + 1) = npF (m' i) + sumP m' j (i + 1)
    rw [h i (Nat.le_refl _) (by omega), sumP_congr j (i + 1) fun r a b => h r (by omega) (by omega)]
theorem sumP_mono (m : Nat → Nat) {j k : Nat} (h : j ≤ k) : sumP m j 0 ≤ sumP m k 0 := by
  induction k with
  | zero => obtain rfl : j = 0 := by omega
            exact Nat.le_refl _
  | succ k ih =>
    by_cases c : j = k + 1
    · subst c; exact Nat.le_refl _
    · have := ih (by omega)
      rw [sumP_snoc]; omega
theorem sumP_at (m : Nat → Nat) (r : Nat) : sumP m (r + 1) 0 = sumP m r 0 + npF (m r) := by rw [sumP_snoc, Nat.zero_add]
structure JI (s : SS) (j : JS) (mm n : Nat) (m : Nat → Nat) (b : Nat → Nat → Nat) : Prop where
  on : s.off = false
  P : s.P = []
  hn : 122 ≤ s.n
  byt : Byt s
  okm : OkM s mm
  dead : j.dead = false
  area : j.area ≤ 1
  g1 : 1 ≤ j.gen
  g2 : j.gen ≤ 1073741824
  hd : hdG s (j.gen % 2) = j.gen
  ha : hdA s (j.gen % 2) = j.area
  ho : hdG s (1 - j.gen % 2) < j.gen
  recs : j.recs = n
  room : j.room = 60 - Int.ofNat (sumP m n 0)
  fit : sumP m n 0 ≤ 60
  len : ∀ r, r < n → m r ≤ 1128
  parts : ∀ r, r < n → ∀ k, k < npF (m r) → bB s (2 + j.area * 60 + (sumP m r 0 + k)) = pcB j.gen r (npF (m r)) (m r) (b r) k
  last : ∀ i, sumP m n 0 ≤ i → i < 60 → aG s j.area i = j.gen → aN s j.area i ≤ n ∧ (aN s j.area i = n → aI s j.area i + 1 < aP s j.area i)
section
variable {s : SS} {j : JS} {mm n : Nat} {m : Nat → Nat} {b : Nat → Nat → Nat}
theorem JI.few (h : JI s j mm n m b) : n ≤ 60 := by have := sumP_ge m n 0; have := h.fit; omega
theorem JI.lay (h : JI s j mm n m b) {r k : Nat} (hr : r < n) (hk : k < npF (m r)) : Laid (bB s (2 + j.area * 60 + (sumP m r 0 + k))) j.gen r (npF (m r)) k (m r) (b r) := by
  rw [h.parts r hr k hk]
  exact laid _ h.g1 h.g2 (by have := h.few; omega) (h.len r hr) hk
theorem JI.jU (h : JI s j mm n m b) : ∀ r, r ≤ n → jU (aP s j.area) r = sumP m r 0
  | 0, _ => rfl
  | r + 1, hr => by
    have ih := h.jU r (by omega)
    show Jn.jU (aP s j.area) r + aP s j.area (Jn.jU (aP s j.area) r) = _
    rw [ih, sumP_at]
    have := (h.lay (r := r) (k := 0) (by omega) (npF_pos _)).p
    rw [Nat.add_zero] at this
    have e : aP s j.area (sumP m r 0) = npF (m r) := this
    rw [e]
theorem JI.rc (h : JI s j mm n m b) : Recs s j.area j.gen n := by
  refine ⟨fun r hr => ?_, fun hst => ?_⟩
  · rw [h.jU r (by omega)]
    have e : aP s j.area (sumP m r 0) = npF (m r) := by
      have := (h.lay (r := r) (k := 0) hr (npF_pos _)).p
      rw [Nat.add_zero] at this
      exact this
    refine ⟨?_, ?_, ?_⟩
    · rw [e]
      have h1 := sumP_mono m (show r + 1 ≤ n by omega)
      have h2 := h.fit
      rw [sumP_at] at h1
      omega
    · rw [e]; exact npF_pos _
    · rw [e]
      intro i hi
      have q := h.lay hr hi
      exact ⟨q.g, q.n, q.i, q.p⟩
  · rw [h.jU n (Nat.le_refl _)] at hst
    obtain ⟨q1, q2, q3⟩ := hst
    have q := q3 (aP s j.area (sumP m n 0) - 1) (by omega)
    have hl := h.last (sumP m n 0 + (aP s j.area (sumP m n 0) - 1)) (by omega) (by omega) q.eg
    have e1 : aN s j.area (sumP m n 0 + (aP s j.area (sumP m n 0) - 1)) = n := q.en
    have e2 : aI s j.area (sumP m n 0 + (aP s j.area (sumP m n 0) - 1)) = aP s j.area (sumP m n 0) - 1 := q.ei
    have e3 : aP s j.area (sumP m n 0 + (aP s j.area (sumP m n 0) - 1)) = aP s j.area (sumP m n 0) := q.ep
    have := hl.2 e1
    omega
theorem JI.opM (h : JI s j mm n m b) {r : Nat} (hr : r < n) : opM s j.area r = m r := by
  unfold Jn.opM jm
  rw [h.jU r (by omega)]
  have e : aP s j.area (sumP m r 0) = npF (m r) := by
    have := (h.lay (r := r) (k := 0) hr (npF_pos _)).p
    rw [Nat.add_zero] at this
    exact this
  have q : cl (fun i => aL s j.area (sumP m r 0 + i)) (npF (m r)) = min (npF (m r) * 47) (m r) := (cl_congr (L' := pl (m r)) fun i hi => (h.lay hr hi).l).trans (cl_pl _ _)
  rw [e, q]
  have := npF_hi (m r); omega
theorem JI.opB (h : JI s j mm n m b) {r : Nat} (hr : r < n) {t : Nat} (ht : t < m r) : opB s j.area r t = b r t := by
  unfold Jn.opB jb
  rw [h.jU r (by omega)]
  have e : aP s j.area (sumP m r 0) = npF (m r) := by
    have := (h.lay (r := r) (k := 0) hr (npF_pos _)).p
    rw [Nat.add_zero] at this
    exact this
  rw [e]
  exact cb_pl (M := m r) (fun i hi => (h.lay hr hi).l) (fun i hi t ht => (h.lay hr hi).t t ht) t (by have := npF_hi (m r); omega)
theorem JI.opJ (h : JI s j mm n m b) : opJ s j.area j.gen n = j := by
  unfold Jn.opJ
  rw [h.jU n (Nat.le_refl _), ← h.room, ← h.dead, ← h.recs]
theorem JI.bg (h : JI s j mm n m b) : bgG s = j.gen ∧ bgA s = j.area := by
  have h1 := h.hd
  have h2 := h.ha
  have h3 := h.ho
  unfold bgG bgA
  rcases (show j.gen % 2 = 0 ∨ j.gen % 2 = 1 by omega) with e | e
  · rw [e] at h1 h2 h3
    have h3 : hdG s 1 < j.gen := h3
    rw [lf (by omega : ¬ hdG s 0 < hdG s 1), cond_false, cond_false]; exact ⟨h1, h2⟩
  · rw [e] at h1 h2 h3
    have h3 : hdG s 0 < j.gen := h3
    rw [lt_ (by omega : hdG s 0 < hdG s 1), cond_true, cond_true]; exact ⟨h1, h2⟩
theorem JI.open_con (h : JI s j mm n m b) : Con Tryd.prog 10 [.p 0 0] [some s.o] (.tup [.p 1 0, .sv 1 n (recF (Jn.opM s j.area) (Jn.opB s j.area)), .i .i64 0]) [.keep, .set j.o] := by
  have hb := h.bg
  have w := begin_con s h.okm.n h.byt (by rw [hb.1]; have := h.g1; omega)
  rw [hb.1, hb.2] at w
  have k := openX_con s s j.gen j.area n h.hn h.on (w.post (us' := [.set s.o]) (.refl _) (OVL.refl _)) h.hn h.okm.n h.on h.byt h.area h.rc
  rw [h.opJ] at k
  exact k
end
theorem hd_same {s S : SS} {h : Nat} (e : bB S h = bB s h) : hdG S h = hdG s h ∧ hdA S h = hdA s h := by
  unfold hdG hdA
  rw [e]; exact ⟨rfl, rfl⟩
theorem a_same {s S : SS} {a i : Nat} (e : bB S (2 + a * 60 + i) = bB s (2 + a * 60 + i)) : aG S a i = aG s a i ∧ aN S a i = aN s a i ∧ aI S a i = aI s a i ∧ aP S a i = aP s a i := by
  unfold aG aN aI aP
  rw [e]; exact ⟨rfl, rfl, rfl, rfl⟩
def mS (n : Nat) (m : Nat → Nat) (L : Nat) (r : Nat) : Nat := if r = n then L else m r
def bS (n : Nat) (b : Nat → Nat → Nat) (bs : Nat → Nat) (r : Nat) : Nat → Nat := if r = n then bs else b r
theorem mS_lt {n r : Nat} {m : Nat → Nat} {L : Nat} (h : r < n) : mS n m L r = m r := if_neg (by omega)
theorem mS_eq (n : Nat) (m : Nat → Nat) (L : Nat) : mS n m L n = L := if_pos rfl
theorem bS_lt {n r : Nat} {b : Nat → Nat → Nat} {bs : Nat → Nat} (h : r < n) : bS n b bs r = b r := if_neg (by omega)
theorem bS_eq (n : Nat) (b : Nat → Nat → Nat) (bs : Nat → Nat) : bS n b bs n = bs := if_pos rfl
theorem sumP_mS (n : Nat) (m : Nat → Nat) (L : Nat) {r : Nat} (h : r ≤ n) : sumP (mS n m L) r 0 = sumP m r 0 := sumP_congr r 0 fun q _ hq => mS_lt (by omega)
section
variable {s : SS} {j : JS} {mm n : Nat} {m : Nat → Nat} {b : Nat → Nat → Nat}
noncomputable def JS.more (j : JS) (L : Nat) : JS := { j with recs := j.recs + 1, room := j.room - Int.ofNat (npF L) }
theorem JI.rm (h : JI s j mm n m b) : j.room = Int.ofNat (60 - sumP m n 0) := by
  have := h.room; have := h.fit
  rw [h.room]; simp; omega
theorem JI.apQ (h : JI s j mm n m b) : Jn.apQ j (60 - sumP m n 0) = 2 + j.area * 60 + sumP m n 0 := by
  have := h.fit
  unfold Jn.apQ; omega
theorem JI.append (h : JI s j mm n m b) {L : Nat} {bs : Nat → Nat} (hL : L ≤ 1128) (hb : ∀ t, bs t < 256) (hf : npF L ≤ 60 - sumP m n 0) (e0 : apE j (60 - sumP m n 0) s L bs = 0) : JI (apS j (60 - sumP m n 0) s L bs) (j.more L) (mm + npF L) (n + 1) (mS n m L) (bS n b bs) := by
  have hq := h.apQ
  have hfit := h.fit
  have har := h.area
  have hn := h.hn
  have s1 : sumP (fun _ => L) 1 0 = npF L := sumP1 L
  unfold apE at e0
  unfold apS
  rw [hq, h.recs] at e0 ⊢
  have hin : 2 + j.area * 60 + sumP m n 0 + sumP (fun _ => L) 1 0 ≤ s.n := by rw [s1]; omega
  obtain ⟨o1, o2, _⟩ := cmt_on _ _ _ _ _ _ _ e0
  obtain ⟨k1, k2⟩ := cmtS_ok j.gen n 1 mm (fun _ => L) (fun _ => bs) s (2 + j.area * 60 + sumP m n 0) h.okm hin
  have k3 := cmtS_byt j.gen n 1 mm (fun _ => L) (fun _ => bs) (fun _ => hb) s (2 + j.area * 60 + sumP m n 0) h.okm h.byt hin
  have rd := fun q hq => cmt_bB j.gen n 1 mm (fun _ => L) (fun _ => bs) s (2 + j.area * 60 + sumP m n 0) h.okm hin h.on e0 q hq
  generalize cmtS j.gen n 1 (fun _ => L) (fun _ => bs) s (2 + j.area * 60 + sumP m n 0) = S at o1 o2 k1 k2 k3 rd
  rw [s1] at k1 rd
  have lo : ∀ q, q < 2 + j.area * 60 + sumP m n 0 → bB S q = bB s q := fun q hq => (rd q (by omega)).2 (.inl hq)
  have hi : ∀ q, 2 + j.area * 60 + sumP m n 0 + npF L ≤ q → q < s.n → bB S q = bB s q := fun q hq hq2 => (rd q hq2).2 (.inr hq)
  have hd0 := hd_same (lo (j.gen % 2) (by omega))
  have hd1 := hd_same (lo (1 - j.gen % 2) (by omega))
  have hs : sumP (mS n m L) (n + 1) 0 = sumP m n 0 + npF L := by rw [sumP_at, mS_eq, sumP_mS n m L (Nat.le_refl _)]
  refine { on := o1, P := o2, hn := by rw [k2]; exact hn, byt := k3, okm := k1, dead := h.dead, area := har, g1 := h.g1, g2 := h.g2, hd := hd0.1.trans h.hd, ha := hd0.2.trans h.ha, ho := by rw [show (j.more L).gen = j.gen from rfl, hd1.1]; exact h.ho, recs := by show j.recs + 1 = _; rw [h.recs], room := ?_, fit := by rw [hs]; omega, len := ?_, parts := ?_, last := ?_ }
  · show j.room - Int.ofNat (npF L) = 60 - Int.ofNat (sumP (mS n m L) (n + 1) 0)
    rw [hs, h.room]; simp; omega
  · intro r hr
    by_cases c : r = n
    · subst c; rw [mS_eq]; exact hL
    · rw [mS_lt (by omega)]; exact h.len r (by omega)
  · intro r hr k hk
    show bB S (2 + j.area * 60 + (sumP (mS n m L) r 0 + k)) = pcB j.gen r _ _ _ k
    rw [sumP_mS n m L (by omega)]
    by_cases c : r = n
    · subst c
      rw [mS_eq] at hk ⊢
      rw [bS_eq]
      have := (rd (2 + j.area * 60 + (sumP m r 0 + k)) (by omega)).1 0 k (by decide) hk (by show _ = 2 + j.area * 60 + sumP m r 0 + 0 + k; omega)
      rw [Nat.add_zero] at this
      exact this
    · have hr' : r < n := by omega
      rw [mS_lt hr'] at hk ⊢
      rw [bS_lt hr']
      have h1 := sumP_mono m (show r + 1 ≤ n by omega)
      rw [sumP_at] at h1
      rw [lo _ (by omega)]
      exact h.parts r hr' k hk
  · intro i hi1 hi2 hg
    rw [hs] at hi1
    have e := a_same (s := s) (S := S) (a := j.area) (i := i) (hi _ (by omega) (by omega))
    have hg' : aG S j.area i = j.gen := hg
    rw [e.1] at hg'
    have hl := h.last i (by omega) hi2 hg'
    show aN S j.area i ≤ n + 1 ∧ (aN S j.area i = n + 1 → aI S j.area i + 1 < aP S j.area i)
    rw [e.2.1]
    exact ⟨by omega, fun h' => by omega⟩
theorem mxG_ge (G : Nat → Nat) (g : Nat) : ∀ k, g ≤ mxG G g k ∧ ∀ i, i < k → G i ≤ mxG G g k
  | 0 => ⟨Nat.le_refl _, fun i hi => absurd hi (by omega)⟩
  | k + 1 => by
    obtain ⟨h1, h2⟩ := mxG_ge G g k
    show g ≤ (if G k > mxG G g k then G k else mxG G g k) ∧ ∀ i, i < k + 1 → G i ≤ (if G k > mxG G g k then G k else mxG G g k)
    refine ⟨by split <;> omega, fun i hi => ?_⟩
    by_cases c : i = k
    · subst c; split <;> omega
    · have := h2 i (by omega); split <;> omega
theorem nxV_gt (s : SS) (j : JS) : j.gen < nxV s j ∧ nxV s j % 2 ≠ j.gen % 2 ∧ ∀ i, i < 60 → aG s (1 - j.area) i < nxV s j := by
  obtain ⟨h1, h2⟩ := mxG_ge (aG s (1 - j.area)) j.gen 60
  have e : nxG s j = mxG (aG s (1 - j.area)) j.gen 60 := rfl
  unfold nxV
  rw [e]
  generalize mxG (aG s (1 - j.area)) j.gen 60 = x at h1 h2
  cases c : Nat.beq ((x + 1) % 2) (j.gen % 2) with
  | true =>
    rw [cond_true]
    have := Nat.eq_of_beq_eq_true c
    exact ⟨by omega, by omega, fun i hi => by have := h2 i hi; omega⟩
  | false =>
    rw [cond_false]
    have : (x + 1) % 2 ≠ j.gen % 2 := fun e => by rw [e, Nat.beq_refl] at c; exact Bool.noConfusion c
    exact ⟨by omega, this, fun i hi => by have := h2 i hi; omega⟩
theorem one_parts (x : Nat) : npF 1 = 1 := by unfold npF; rw [if_neg (by decide)]
theorem head_laid {S : SS} {gen area : Nat} (hg : 1 ≤ gen) (hg2 : gen ≤ 1073741824) (ha : area ≤ 1) (e : bB S (gen % 2) = pcB gen 0 (npF 1) 1 (fun _ => area % 256) 0) : hdG S (gen % 2) = gen ∧ hdA S (gen % 2) = area := by
  have l := laid (gen := gen) (num := 0) (M := 1) (k := 0) (fun _ => area % 256) hg hg2 (by decide) (by decide) (npF_pos 1)
  have hx := l.t 0 (by unfold pl; decide)
  have hx' : pcB gen 0 (npF 1) 1 (fun _ => area % 256) 0 11 = area := by rw [hx]; omega
  have ok : hdOk (bB S (gen % 2)) (gen % 2) = true := by
    rw [e]
    unfold hdOk hdB
    have e1 : pl 1 0 = 1 := by unfold pl; decide
    rw [l.g, l.n, l.p, l.l, hx', one_parts 0, e1, bt ha, Nat.beq_refl, Nat.beq_refl, Nat.beq_refl]
    rfl
  unfold hdG hdA
  rw [ok, cond_true, cond_true, e, l.g, hx']
  exact ⟨rfl, rfl⟩
theorem JI.rewrite (h : JI s j mm n m b) {n' : Nat} {m' : Nat → Nat} {b' : Nat → Nat → Nat} (hl : ∀ i, i < n' → m' i ≤ 1128) (hs : sumP m' n' 0 ≤ 60) (hb : ∀ i t, b' i t < 256) (hv : nxV s j ≤ 1073741824)
    (e0 : rwE s j n' m' b' = 0) (e1 : nmE (rwS s j n' m' b') (nxV s j) (1 - j.area) = 0) : JI (nmS (rwS s j n' m' b') (nxV s j) (1 - j.area)) (rwJ s j n' m') (mm + sumP m' n' 0 + 1) n' m' b' := by
  obtain ⟨g1, g2, g3⟩ := nxV_gt s j
  have har := h.area
  have hn := h.hn
  have hgen := h.g1
  unfold rwE at e0
  unfold rwS at e1 ⊢
  unfold nmE at e1
  unfold nmS
  have hin : 2 + (1 - j.area) * 60 + sumP m' n' 0 ≤ s.n := by omega
  obtain ⟨o1, o2, _⟩ := cmt_on _ _ _ _ _ _ _ e0
  obtain ⟨k1, k2⟩ := cmtS_ok (nxV s j) 0 n' mm m' b' s (2 + (1 - j.area) * 60) h.okm hin
  have k3 := cmtS_byt (nxV s j) 0 n' mm m' b' hb s (2 + (1 - j.area) * 60) h.okm h.byt hin
  have rd := fun q hq => cmt_bB (nxV s j) 0 n' mm m' b' s (2 + (1 - j.area) * 60) h.okm hin h.on e0 q hq
  generalize cmtS (nxV s j) 0 n' m' b' s (2 + (1 - j.area) * 60) = S at o1 o2 k1 k2 k3 rd e1
  have hin2 : nxV s j % 2 + sumP (fun _ => 1) 1 0 ≤ S.n := by rw [sumP1, one_parts 0, k2]; omega
  obtain ⟨p1, p2, _⟩ := cmt_on _ _ _ _ _ _ _ e1
  obtain ⟨q1, q2⟩ := cmtS_ok (nxV s j) 0 1 (mm + sumP m' n' 0) (fun _ => 1) (fun _ _ => (1 - j.area) % 256) S (nxV s j % 2) k1 hin2
  have q3 := cmtS_byt (nxV s j) 0 1 (mm + sumP m' n' 0) (fun _ => 1) (fun _ _ => (1 - j.area) % 256) (fun _ _ => by omega) S (nxV s j % 2) k1 k3 hin2
  have rd2 := fun q hq => cmt_bB (nxV s j) 0 1 (mm + sumP m' n' 0) (fun _ => 1) (fun _ _ => (1 - j.area) % 256) S (nxV s j % 2) k1 hin2 o1 e1 q hq
  generalize cmtS (nxV s j) 0 1 (fun _ => 1) (fun _ _ => (1 - j.area) % 256) S (nxV s j % 2) = T at p1 p2 q1 q2 q3 rd2
  rw [sumP1, one_parts 0] at q1 rd2
  have far : ∀ q, 2 ≤ q → q < s.n → bB T q = bB S q := fun q hq hq2 => (rd2 q (by omega)).2 (.inr (by omega))
  have hh : bB T (nxV s j % 2) = pcB (nxV s j) 0 (npF 1) 1 (fun _ => (1 - j.area) % 256) 0 := (rd2 (nxV s j % 2) (by omega)).1 0 0 (by decide) (npF_pos 1) (by show _ = nxV s j % 2 + 0 + 0; omega)
  have oth : bB T (1 - nxV s j % 2) = bB s (1 - nxV s j % 2) := by
    have e2 : bB T (1 - nxV s j % 2) = bB S (1 - nxV s j % 2) := by
      refine (rd2 _ (by omega)).2 ?_
      omega
    rw [e2]
    exact (rd _ (by omega)).2 (.inl (by omega))
  have hl1 := head_laid (by omega) hv (show 1 - j.area ≤ 1 by omega) hh
  have ho : hdG T (1 - nxV s j % 2) = j.gen := by
    rw [(hd_same oth).1, show 1 - nxV s j % 2 = j.gen % 2 by omega]; exact h.hd
  refine { on := p1, P := p2, hn := by rw [q2, k2]; exact hn, byt := q3, okm := q1, dead := h.dead, area := (by show 1 - j.area ≤ 1; omega), g1 := (by show 1 ≤ nxV s j; omega), g2 := hv, hd := hl1.1, ha := hl1.2, ho := (by show hdG T (1 - nxV s j % 2) < nxV s j; rw [ho]; exact g1), recs := rfl, room := rfl, fit := hs, len := hl, parts := ?_, last := ?_ }
  · intro r hr k hk
    show bB T (2 + (1 - j.area) * 60 + (sumP m' r 0 + k)) = pcB (nxV s j) r _ _ _ k
    have h1 := sumP_mono m' (show r + 1 ≤ n' by omega)
    rw [sumP_at] at h1
    rw [far _ (by omega) (by omega)]
    have := (rd (2 + (1 - j.area) * 60 + (sumP m' r 0 + k)) (by omega)).1 r k hr hk (by omega)
    rw [Nat.zero_add] at this
    exact this
  · intro i hi1 hi2 hg
    have e : bB T (2 + (1 - j.area) * 60 + i) = bB s (2 + (1 - j.area) * 60 + i) := by
      rw [far _ (by omega) (by omega)]
      exact (rd _ (by omega)).2 (.inr (by omega))
    have hg' : aG T (1 - j.area) i = nxV s j := hg
    rw [(a_same e).1] at hg'
    have := g3 i hi2
    omega
end
structure Calm (s : SS) : Prop where
  on : s.off = false
  un : s.armed = false
theorem Calm.wr {s : SS} (h : Calm s) {q : Nat} (hq : q < s.n) (bs : Nat → Int) : s.wrE (Int.ofNat q) 64 = 0 ∧ Calm (s.wrS (Int.ofNat q) 64 bs) := by
  have hd : decide (0 ≤ Int.ofNat q ∧ Int.ofNat q < Int.ofNat s.n ∧ 64 = 64) = true := by simp; omega
  constructor
  · unfold SS.wrE
    rw [h.on, hd]
    show (s.wrote (Int.ofNat q).toNat fun _ => 0).payE = 0
    unfold SS.payE
    rw [show (s.wrote (Int.ofNat q).toNat fun _ => 0).armed = false from h.un]
  · rw [wrS_on h.on hq]
    unfold SS.pay
    rw [show (s.wrote q bs).armed = false from h.un]
    exact ⟨h.on, h.un⟩
theorem Calm.runW (c : Nat → Nat → Nat) : ∀ (j : Nat) {s : SS} (a k : Nat), Calm s → a + j ≤ s.n → (Jn.runW c j s a k).1 = 0 ∧ Calm (Jn.runW c j s a k).2.1 ∧ (Jn.runW c j s a k).2.2 = a + j ∧ (Jn.runW c j s a k).2.1.n = s.n
  | 0, s, a, k, h, _ => ⟨rfl, h, rfl, rfl⟩
  | j + 1, s, a, k, h, ha => by
    obtain ⟨w1, w2⟩ := h.wr (q := a) (by omega) (fun t => Int.ofNat (c k t))
    have hn : (s.wrS (Int.ofNat a) 64 fun t => Int.ofNat (c k t)).n = s.n := wrS_n s _ _
    have ih := Calm.runW c j (a + 1) (k + 1) w2 (by rw [hn]; omega)
    unfold Jn.runW
    rw [decide_eq_true w1]
    exact ⟨ih.1, ih.2.1, by rw [ih.2.2.1]; omega, ih.2.2.2.trans hn⟩
theorem Calm.runR (gen first : Nat) (m : Nat → Nat) (b : Nat → Nat → Nat) : ∀ (j : Nat) {s : SS} (a i : Nat), Calm s → a + sumP m j i ≤ s.n → (Jn.runR gen first m b j s a i).1 = 0 ∧ Calm (Jn.runR gen first m b j s a i).2.1
  | 0, s, a, i, h, _ => ⟨rfl, h⟩
  | j + 1, s, a, i, h, ha => by
    have ha' : a + (npF (m i) + sumP m j (i + 1)) ≤ s.n := ha
    have w : (recW gen first m b s a i).1 = 0 ∧ Calm (recW gen first m b s a i).2.1 ∧ (recW gen first m b s a i).2.2 = a + npF (m i) ∧ (recW gen first m b s a i).2.1.n = s.n := Calm.runW _ _ a 0 h (by omega)
    obtain ⟨w1, w2, w3, w4⟩ := w
    have ih := Calm.runR gen first m b j (recW gen first m b s a i).2.2 (i + 1) w2 (by rw [w3, w4]; omega)
    unfold Jn.runR
    rw [decide_eq_true w1]
    exact ih
theorem Calm.cmt {s : SS} (h : Calm s) (gen first n : Nat) (m : Nat → Nat) (b : Nat → Nat → Nat) (a : Nat) (ha : a + sumP m n 0 ≤ s.n) : cmtE gen first n m b s a = 0 ∧ Calm (cmtS gen first n m b s a) := by
  obtain ⟨h1, h2⟩ := Calm.runR gen first m b n a 0 h ha
  unfold cmtE cmtS
  rw [decide_eq_true h1]
  simp only
  generalize (Jn.runR gen first m b n s a 0).2.1 = S at h2
  constructor
  · unfold SS.faultE; rw [h2.on]; rfl
  · unfold SS.bar; rw [h2.on]; exact ⟨h2.on, h2.un⟩
theorem bB_new (n q : Nat) (hq : q < n) : bB (SS.new n) q = fun _ => 0 := by
  rw [bB_v (s := SS.new n) rfl hq]
  rfl
theorem hdG_zero {s : SS} {h : Nat} (e : bB s h = fun _ => 0) : hdG s h = 0 := by
  unfold hdG
  rw [e]
  have : hdOk (fun _ => 0) h = false := by
    unfold hdOk hdB
    have : stP (fun _ => 0) = 0 := by unfold stP; rw [ptB_f zero_bad, cond_false]
    rw [this]
    simp
  rw [this, cond_false]
theorem aG_zero {s : SS} {a i : Nat} (e : bB s (2 + a * 60 + i) = fun _ => 0) : aG s a i = 0 := by
  unfold aG
  rw [e]
  unfold stG
  rw [ptB_f zero_bad, cond_false]
noncomputable def nS0 : SS := nmS (SS.new 122) 1 0
noncomputable def nJ0 : JS := { gen := 1, area := 0, recs := 0, room := 60, dead := false }
theorem new_okm : OkM (SS.new 122) 0 := ⟨by decide, Nat.le_refl _, Nat.le_refl _, by decide, fun w hw => by cases hw⟩
theorem new_byt : Byt (SS.new 122) := ⟨fun i j => ⟨0, by decide, rfl⟩, fun w hw => by cases hw⟩
theorem new_calm : Calm (SS.new 122) := ⟨rfl, rfl⟩
theorem new_in : 1 % 2 + sumP (fun _ => 1) 1 0 ≤ (SS.new 122).n := by rw [sumP1, one_parts 0]; decide
theorem new_nmE : nmE (SS.new 122) 1 0 = 0 := (new_calm.cmt 1 0 1 (fun _ => 1) (fun _ _ => 0 % 256) (1 % 2) new_in).1
theorem nS0_calm : Calm nS0 := (new_calm.cmt 1 0 1 (fun _ => 1) (fun _ _ => 0 % 256) (1 % 2) new_in).2
theorem nS0_rd : nS0.n = 122 ∧ OkM nS0 1 ∧ Byt nS0 ∧ nS0.P = [] ∧ bB nS0 1 = pcB 1 0 (npF 1) 1 (fun _ => 0 % 256) 0 ∧ ∀ q, q < 122 → q ≠ 1 → bB nS0 q = fun _ => 0 := by
  have e0 : cmtE 1 0 1 (fun _ => 1) (fun _ _ => 0 % 256) (SS.new 122) (1 % 2) = 0 := new_nmE
  obtain ⟨k1, k2⟩ := cmtS_ok 1 0 1 0 (fun _ => 1) (fun _ _ => 0 % 256) (SS.new 122) (1 % 2) new_okm new_in
  have k3 := cmtS_byt 1 0 1 0 (fun _ => 1) (fun _ _ => 0 % 256) (fun _ _ => by decide) (SS.new 122) (1 % 2) new_okm new_byt new_in
  have rd := fun q hq => cmt_bB 1 0 1 0 (fun _ => 1) (fun _ _ => 0 % 256) (SS.new 122) (1 % 2) new_okm new_in rfl e0 q hq
  obtain ⟨o1, o2, _⟩ := cmt_on _ _ _ _ _ _ _ e0
  rw [sumP1, one_parts 0] at k1 rd
  refine ⟨k2, k1, k3, o2, ?_, fun q hq h1 => ?_⟩
  · exact (rd 1 (by decide)).1 0 0 (by decide) (npF_pos 1) rfl
  · exact ((rd q hq).2 (by omega)).trans (bB_new 122 q hq)
theorem nJI : JI nS0 nJ0 1 0 (fun _ => 0) (fun _ _ => 0) := by
  obtain ⟨r1, r2, r3, r4, r5, r6⟩ := nS0_rd
  have hl := head_laid (S := nS0) (gen := 1) (area := 0) (by decide) (by decide) (by decide) r5
  refine { on := nS0_calm.on, P := r4, hn := by rw [r1]; decide, byt := r3, okm := r2, dead := rfl, area := by decide, g1 := by decide, g2 := by decide, hd := hl.1, ha := hl.2, ho := ?_, recs := rfl, room := rfl, fit := by decide, len := fun r hr => absurd hr (by omega), parts := fun r hr => absurd hr (by omega), last := ?_ }
  · show hdG nS0 0 < 1
    rw [hdG_zero (r6 0 (by decide) (by decide))]; decide
  · intro i _ hi hg
    have hg' : aG nS0 0 i = 1 := hg
    rw [aG_zero (r6 _ (by omega) (by omega))] at hg'
    exact absurd hg' (by decide)
theorem nS0_fr (i : Nat) (hi : i < 60) : aG nS0 1 i = 0 := aG_zero (nS0_rd.2.2.2.2.2 _ (by omega) (by omega))
theorem open0_con : Con Tryd.prog 10 [.p 0 0] [some (SS.new 122).o] (.tup [.p 1 0, .sv 1 0 (recF (fun _ => 0) fun _ _ => 0), .i .i64 0]) [.set nS0.o, .set nJ0.o] := by
  have hg : bgG (SS.new 122) = 0 := by
    unfold bgG
    rw [hdG_zero (bB_new 122 0 (by decide)), hdG_zero (bB_new 122 1 (by decide))]; rfl
  have w := begin0_con (SS.new 122) 0 new_okm (by decide) (by decide) new_byt hg
  rw [new_nmE] at w
  have h := nJI
  have k := openX_con (SS.new 122) nS0 1 0 0 (by decide) rfl w (by rw [nS0_rd.1]; decide) (by rw [nS0_rd.1]; decide) nS0_calm.on nS0_rd.2.2.1 (by decide) h.rc
  have ej : opJ nS0 0 1 0 = nJ0 := h.opJ
  rw [ej] at k
  exact k.post (.tup ⟨.refl _, .sv fun i j hi _ => absurd hi (by omega), .refl _, trivial⟩) (OVL.refl _)
section
variable {s : SS} {j : JS} {mm n : Nat} {m : Nat → Nat} {b : Nat → Nat → Nat}
theorem JI.appendC (h : JI s j mm n m b) (c : Calm s) {L : Nat} {bs : Nat → Nat} (hL : L ≤ 1128) (hb : ∀ t, bs t < 256) (hf : npF L ≤ 60 - sumP m n 0) : apE j (60 - sumP m n 0) s L bs = 0 ∧ Calm (apS j (60 - sumP m n 0) s L bs) ∧ JI (apS j (60 - sumP m n 0) s L bs) (j.more L) (mm + npF L) (n + 1) (mS n m L) (bS n b bs) := by
  have hq := h.apQ
  have hfit := h.fit
  have har := h.area
  have hn := h.hn
  have e := c.cmt j.gen j.recs 1 (fun _ => L) (fun _ => bs) (Jn.apQ j (60 - sumP m n 0)) (by rw [hq, sumP1]; omega)
  exact ⟨e.1, e.2, h.append hL hb hf e.1⟩
theorem JI.appendC_con (h : JI s j mm n m b) (c : Calm s) {L : Nat} {bs : Nat → Nat} (hL : L ≤ 1128) (hb : ∀ t, bs t < 256) (hf : npF L ≤ 60 - sumP m n 0) (hm : mm + npF L < 1073741823) :
    Con Tryd.prog 24 [.p 1 0, .sv 1 L (byF bs)] [some s.o, some j.o] (.i .i64 0) [.set (apS j (60 - sumP m n 0) s L bs).o, .set (j.more L).o] := by
  have e := (h.appendC c hL hb hf).1
  have k := append_con j (60 - sumP m n 0) s L mm bs h.dead h.rm (by omega) h.area (by rw [h.recs]; have := h.few; omega) h.okm hm h.hn hb hL hf
  rw [decide_eq_true e, cond_true, cond_true] at k
  exact k
theorem JI.append_far (h : JI s j mm n m b) {L : Nat} {bs : Nat → Nat} (hf : npF L ≤ 60 - sumP m n 0) (e0 : apE j (60 - sumP m n 0) s L bs = 0) {q : Nat} (hq : q < s.n) (hq2 : q < 2 + j.area * 60 ∨ 2 + j.area * 60 + 60 ≤ q) : bB (apS j (60 - sumP m n 0) s L bs) q = bB s q := by
  have hk := h.apQ
  have hfit := h.fit
  have har := h.area
  have hn := h.hn
  unfold apE at e0
  unfold apS
  rw [hk] at e0 ⊢
  refine (cmt_bB j.gen j.recs 1 mm (fun _ => L) (fun _ => bs) s (2 + j.area * 60 + sumP m n 0) h.okm (by rw [sumP1]; omega) h.on e0 q hq).2 ?_
  rw [sumP1]; omega
theorem JI.rewriteC (h : JI s j mm n m b) (c : Calm s) {n' : Nat} {m' : Nat → Nat} {b' : Nat → Nat → Nat} (hl : ∀ i, i < n' → m' i ≤ 1128) (hs : sumP m' n' 0 ≤ 60) (hb : ∀ i t, b' i t < 256) (hv : nxV s j ≤ 1073741824) :
    rwE s j n' m' b' = 0 ∧ nmE (rwS s j n' m' b') (nxV s j) (1 - j.area) = 0 ∧ Calm (nmS (rwS s j n' m' b') (nxV s j) (1 - j.area)) ∧ JI (nmS (rwS s j n' m' b') (nxV s j) (1 - j.area)) (rwJ s j n' m') (mm + sumP m' n' 0 + 1) n' m' b' := by
  have har := h.area
  have hn := h.hn
  have e := c.cmt (nxV s j) 0 n' m' b' (2 + (1 - j.area) * 60) (by omega)
  have k2 := (cmtS_ok (nxV s j) 0 n' mm m' b' s (2 + (1 - j.area) * 60) h.okm (by omega)).2
  have e2 := e.2.cmt (nxV s j) 0 1 (fun _ => 1) (fun _ _ => (1 - j.area) % 256) (nxV s j % 2) (by rw [sumP1, one_parts 0, k2]; omega)
  exact ⟨e.1, e2.1, e2.2, h.rewrite hl hs hb hv e.1 e2.1⟩
theorem JI.rewriteC_con (h : JI s j mm n m b) (c : Calm s) {n' : Nat} {m' : Nat → Nat} {b' : Nat → Nat → Nat} (hl : ∀ i, i < n' → m' i ≤ 1128) (hs : sumP m' n' 0 ≤ 60) (hb : ∀ i t, b' i t < 256) (hg : j.gen < 1073741824) (hv : nxV s j ≤ 1073741824) (hm : mm + 61 < 1073741823) :
    Con Tryd.prog 14 [.p 1 0, .sv 1 n' (recF m' b')] [some s.o, some j.o] (.i .i64 0) [.set (nmS (rwS s j n' m' b') (nxV s j) (1 - j.area)).o, .set (rwJ s j n' m').o] := by
  obtain ⟨e1, e2, _, _⟩ := h.rewriteC c hl hs hb hv
  have k := rewrite_con s j n' mm m' b' h.dead hl hs hg hv h.area h.on h.hn h.byt h.okm hm hb
  rw [decide_eq_true e1, decide_eq_true e2] at k
  simp only [cond_true] at k
  exact k
end
noncomputable def abB (t : Nat) : Nat := Nat.rec 97 (fun _ _ => 98) t
noncomputable def xyB (i _t : Nat) : Nat := Nat.rec 120 (fun _ _ => 121) i
theorem jbeg_vc (sn : SS) (s0 : SS) (j0 : JS) (m0 : Nat → Nat) (b0 : Nat → Nat → Nat) (K : Res → Orc → Prop) : runK Tryd.prog 1000000 (.call 37 [] (mkH [])) (Orc.cal [] (AV.tup
  [AV.p 0 0, AV.i IntKind.i64 (0 : Int)]) [Upd.set (SS.o sn)] (Orc.cal [0] (AV.tup [AV.p 1 0, AV.sv 1 0 (recF m0 b0), AV.i IntKind.i64 (0 : Int)]) [Upd.set (SS.o s0), Upd.set (JS.o
  j0)] (Orc.c (Orc.c (Orc.c (Orc.c (Orc.c (Orc.c (Orc.c (Orc.c Orc.z)))))))))) K = (Con Tryd.prog 9 [AV.i IntKind.i64 (122 : Int)] [] (AV.tup [AV.p 0 0, AV.i IntKind.i64 (0 : Int)])
  [Upd.set (SS.o sn)] ∧ Con Tryd.prog 10 [AV.p 0 0] [some (SS.o sn)] (AV.tup [AV.p 1 0, AV.sv 1 0 (recF m0 b0), AV.i IntKind.i64 (0 : Int)]) [Upd.set (SS.o s0), Upd.set (JS.o j0)] ∧
  K (Res.rv (AV.tup [AV.p 0 0, AV.p 1 0]) { tree := T.n (some (AObj.segs 77 33799 [{ st := 0, sz := 1, n := 1, f := oneF (CV.i IntKind.i64 (Int.ofNat (SS.n s0))) }, { st := 1, sz := 65, n := 512, f := durF (SS.dur s0) (SS.torn s0) }, { st := 33281, sz := 1, n := 1, f := oneF (CV.opv (pB (SS.P s0)) 66 (pW (SS.P s0))) }, { st := 33282, sz := 1, n := 512, f := latF (lB (SS.P s0)) (lW (SS.P s0)) }, { st := 33794, sz := 5, n := 1, f := tailF (Int.ofNat (List.length (SS.P s0))) (Int.ofNat (SS.wr s0)) (SS.off s0) (SS.armed s0) (Int.ofNat (SS.left s0)) }])) (T.n (some (AObj.cells 86 6 [] (T.n (some (AV.p 0 0)) (T.n (some (AV.i IntKind.i64 (Int.ofNat (JS.gen j0)))) (T.n (some (AV.i IntKind.i64 (Int.ofNat (JS.recs j0)))) T.e T.e) (T.n (some (AV.b (JS.dead j0))) T.e T.e)) (T.n (some (AV.i IntKind.i64 (Int.ofNat (JS.area j0)))) (T.n (some (AV.i IntKind.i64 (JS.room j0))) T.e T.e) T.e)))) T.e T.e) T.e, next := 2, log := [1, 0, 0] })
  Orc.z) := by kernel_rfl
theorem jroom_vc (j : JS) (s : SS) (K : Res → Orc → Prop) : runK Tryd.prog 1000000 (.call 28 [.p 1 0] (mkH [some s.o, some j.o])) (Orc.c Orc.z) K = (True ∧ True ∧ K (Res.rv (AV.i
  IntKind.i64 (JS.room j)) { tree := T.n (some (AObj.segs 77 33799 [{ st := 0, sz := 1, n := 1, f := oneF (CV.i IntKind.i64 (Int.ofNat (SS.n s))) }, { st := 1, sz := 65, n := 512, f := durF (SS.dur s) (SS.torn s) }, { st := 33281, sz := 1, n := 1, f := oneF (CV.opv (pB (SS.P s)) 66 (pW (SS.P s))) }, { st := 33282, sz := 1, n := 512, f := latF (lB (SS.P s)) (lW (SS.P s)) }, { st := 33794, sz := 5, n := 1, f := tailF (Int.ofNat (List.length (SS.P s))) (Int.ofNat (SS.wr s)) (SS.off s) (SS.armed s) (Int.ofNat (SS.left s)) }])) (T.n (some (AObj.cells 86 6 [] (T.n (some (AV.p 0 0)) (T.n (some (AV.i IntKind.i64 (Int.ofNat (JS.gen j)))) (T.n (some (AV.i IntKind.i64 (Int.ofNat (JS.recs j)))) T.e T.e) (T.n (some (AV.b (JS.dead j))) T.e T.e)) (T.n (some (AV.i IntKind.i64 (Int.ofNat (JS.area j)))) (T.n (some (AV.i IntKind.i64 (JS.room j))) T.e T.e) T.e)))) T.e T.e) T.e, next := 2, log := [] })
  Orc.z) := by kernel_rfl
theorem jrecs_vc (j : JS) (s : SS) (K : Res → Orc → Prop) : runK Tryd.prog 1000000 (.call 27 [.p 1 0] (mkH [some s.o, some j.o])) (Orc.c Orc.z) K = (True ∧ True ∧ K (Res.rv (AV.i
  IntKind.i64 (Int.ofNat (JS.recs j))) { tree := T.n (some (AObj.segs 77 33799 [{ st := 0, sz := 1, n := 1, f := oneF (CV.i IntKind.i64 (Int.ofNat (SS.n s))) }, { st := 1, sz := 65, n := 512, f := durF (SS.dur s) (SS.torn s) }, { st := 33281, sz := 1, n := 1, f := oneF (CV.opv (pB (SS.P s)) 66 (pW (SS.P s))) }, { st := 33282, sz := 1, n := 512, f := latF (lB (SS.P s)) (lW (SS.P s)) }, { st := 33794, sz := 5, n := 1, f := tailF (Int.ofNat (List.length (SS.P s))) (Int.ofNat (SS.wr s)) (SS.off s) (SS.armed s) (Int.ofNat (SS.left s)) }])) (T.n (some (AObj.cells 86 6 [] (T.n (some (AV.p 0 0)) (T.n (some (AV.i IntKind.i64 (Int.ofNat (JS.gen j)))) (T.n (some (AV.i IntKind.i64 (Int.ofNat (JS.recs j)))) T.e T.e) (T.n (some (AV.b (JS.dead j))) T.e T.e)) (T.n (some (AV.i IntKind.i64 (Int.ofNat (JS.area j)))) (T.n (some (AV.i IntKind.i64 (JS.room j))) T.e T.e) T.e)))) T.e T.e) T.e, next := 2, log := [] })
  Orc.z) := by kernel_rfl
theorem jgen_vc (j : JS) (s : SS) (K : Res → Orc → Prop) : runK Tryd.prog 1000000 (.call 30 [.p 1 0] (mkH [some s.o, some j.o])) (Orc.c Orc.z) K = (True ∧ True ∧ K (Res.rv (AV.i
  IntKind.i64 (Int.ofNat (JS.gen j))) { tree := T.n (some (AObj.segs 77 33799 [{ st := 0, sz := 1, n := 1, f := oneF (CV.i IntKind.i64 (Int.ofNat (SS.n s))) }, { st := 1, sz := 65, n := 512, f := durF (SS.dur s) (SS.torn s) }, { st := 33281, sz := 1, n := 1, f := oneF (CV.opv (pB (SS.P s)) 66 (pW (SS.P s))) }, { st := 33282, sz := 1, n := 512, f := latF (lB (SS.P s)) (lW (SS.P s)) }, { st := 33794, sz := 5, n := 1, f := tailF (Int.ofNat (List.length (SS.P s))) (Int.ofNat (SS.wr s)) (SS.off s) (SS.armed s) (Int.ofNat (SS.left s)) }])) (T.n (some (AObj.cells 86 6 [] (T.n (some (AV.p 0 0)) (T.n (some (AV.i IntKind.i64 (Int.ofNat (JS.gen j)))) (T.n (some (AV.i IntKind.i64 (Int.ofNat (JS.recs j)))) T.e T.e) (T.n (some (AV.b (JS.dead j))) T.e T.e)) (T.n (some (AV.i IntKind.i64 (Int.ofNat (JS.area j)))) (T.n (some (AV.i IntKind.i64 (JS.room j))) T.e T.e) T.e)))) T.e T.e) T.e, next := 2, log := [] })
  Orc.z) := by kernel_rfl
theorem jaw_vc (s0 : SS) (j0 : JS) (s1 : SS) (j1 : JS) (s2 : SS) (j2 : JS) (s3 : SS) (j3 : JS) (j4 : JS) (K : Res → Orc → Prop) : runK Tryd.prog 1000000 (.call 11 [] (mkH []))
  (Orc.cal [] (AV.tup [AV.p 0 0, AV.p 1 0]) [Upd.set (SS.o s0), Upd.set (JS.o j0)] (Orc.c (Orc.c (Orc.cal [0, 1] (AV.i IntKind.i64 (1 : Int)) [Upd.keep, Upd.keep] (Orc.c (Orc.c
  (Orc.c (Orc.c (Orc.cal [0, 1] (AV.i IntKind.i64 (60 : Int)) [Upd.keep, Upd.keep] (Orc.c (Orc.c (Orc.c (Orc.c (Orc.cal [0] (AV.i IntKind.i64 (1 : Int)) [Upd.keep] (Orc.c (Orc.c
  (Orc.c (Orc.c (Orc.c (Orc.c (Orc.cal [0, 1, 2] (AV.i IntKind.i64 (0 : Int)) [Upd.set (SS.o s1), Upd.set (JS.o j1), Upd.gone] (Orc.c (Orc.c (Orc.c (Orc.c (Orc.m (Orc.c (Orc.cal [0,
  1] (AV.i IntKind.i64 (0 : Int)) [Upd.set (SS.o s2), Upd.set (JS.o j2)] (Orc.c (Orc.c (Orc.c (Orc.c (Orc.cal [0, 1] (AV.i IntKind.i64 (56 : Int)) [Upd.keep, Upd.keep] (Orc.c (Orc.c
  (Orc.c (Orc.c (Orc.cal [0, 1] (AV.i IntKind.i64 (2 : Int)) [Upd.keep, Upd.keep] (Orc.c (Orc.c (Orc.c (Orc.cal [0, 1, 6, 4, 5] (AV.i IntKind.i64 (0 : Int)) [Upd.set (SS.o s3),
  Upd.set (JS.o j3), Upd.gone, Upd.gone, Upd.gone] (Orc.c (Orc.c (Orc.cal [0, 1] (AV.i IntKind.i64 (2 : Int)) [Upd.keep, Upd.keep] (Orc.c (Orc.c (Orc.c (Orc.c (Orc.cal [0, 1] (AV.i
  IntKind.i64 (2 : Int)) [Upd.keep, Upd.keep] (Orc.c (Orc.c (Orc.c (Orc.c (Orc.cal [0, 1] (AV.i IntKind.i64 (58 : Int)) [Upd.keep, Upd.keep] (Orc.c (Orc.c (Orc.c (Orc.cal [0]
  (AV.tup [AV.p 1 0, AV.sv 1 2 (recF (fun x => 1) xyB), AV.i IntKind.i64 (0 : Int)]) [Upd.keep, Upd.set (JS.o j4)] (Orc.c (Orc.c (Orc.c (Orc.c (Orc.c (Orc.c (Orc.c (Orc.c (Orc.c
  (Orc.c (Orc.c (Orc.c (Orc.c (Orc.c (Orc.c (Orc.c (Orc.c (Orc.c (Orc.c (Orc.c (Orc.c (Orc.m (Orc.c (Orc.cal [0, 1] (AV.i IntKind.i64 (2 : Int)) [Upd.keep, Upd.keep] (Orc.c (Orc.c
  Orc.z))))))))))))))))))))))))))))))))))))))))))))))))))))))))))))))))))))))))))))))))))))) K = (Con Tryd.prog 37 [] [] (AV.tup [AV.p 0 0, AV.p 1 0]) [Upd.set (SS.o s0), Upd.set
  (JS.o j0)] ∧ True ∧ Con Tryd.prog 30 [AV.p 1 0] [some (SS.o s0), some (JS.o j0)] (AV.i IntKind.i64 (1 : Int)) [Upd.keep, Upd.keep] ∧ Con Tryd.prog 28 [AV.p 1 0] [some (SS.o s0),
  some (JS.o j0)] (AV.i IntKind.i64 (60 : Int)) [Upd.keep, Upd.keep] ∧ Con Tryd.prog 31 [AV.p 0 0] [some (SS.o s0)] (AV.i IntKind.i64 (1 : Int)) [Upd.keep] ∧ Con Tryd.prog 24 [AV.p
  1 0, AV.l 2 0 2 2 1 true] [some (SS.o s0), some (JS.o j0), some (cellsO 5 [AV.i IntKind.u8 (97 : Int), AV.i IntKind.u8 (98 : Int)])] (AV.i IntKind.i64 (0 : Int)) [Upd.set (SS.o
  s1), Upd.set (JS.o j1), Upd.gone] ∧ ((1 = 1 ∧ 100 ≤ 100) ∧ (0 : Int) ≤ (100 : Int) ∧ (100 : Int) ≤ (100 : Int) ∧ (100 : Int) ≤ (1073741824 : Int)) ∧ Con Tryd.prog 24 [AV.p 1 0,
  AV.sv 1 100 fun x j => List.getD [CV.i IntKind.u8 (0 : Int)] j CV.p0] [some (SS.o s1), some (JS.o j1)] (AV.i IntKind.i64 (0 : Int)) [Upd.set (SS.o s2), Upd.set (JS.o j2)] ∧ Con
  Tryd.prog 28 [AV.p 1 0] [some (SS.o s2), some (JS.o j2)] (AV.i IntKind.i64 (56 : Int)) [Upd.keep, Upd.keep] ∧ Con Tryd.prog 27 [AV.p 1 0] [some (SS.o s2), some (JS.o j2)] (AV.i
  IntKind.i64 (2 : Int)) [Upd.keep, Upd.keep] ∧ Con Tryd.prog 14 [AV.p 1 0, AV.l 2 0 2 2 1 true] [some (SS.o s2), some (JS.o j2), some (cellsO 38 [AV.l 3 0 1 1 1 true, AV.l 4 0 1 1
  1 true]), some (cellsO 5 [AV.i IntKind.u8 (120 : Int)]), some (cellsO 5 [AV.i IntKind.u8 (121 : Int)])] (AV.i IntKind.i64 (0 : Int)) [Upd.set (SS.o s3), Upd.set (JS.o j3),
  Upd.gone, Upd.gone, Upd.gone] ∧ Con Tryd.prog 30 [AV.p 1 0] [some (SS.o s3), some (JS.o j3)] (AV.i IntKind.i64 (2 : Int)) [Upd.keep, Upd.keep] ∧ Con Tryd.prog 27 [AV.p 1 0] [some
  (SS.o s3), some (JS.o j3)] (AV.i IntKind.i64 (2 : Int)) [Upd.keep, Upd.keep] ∧ Con Tryd.prog 28 [AV.p 1 0] [some (SS.o s3), some (JS.o j3)] (AV.i IntKind.i64 (58 : Int))
  [Upd.keep, Upd.keep] ∧ Con Tryd.prog 10 [AV.p 0 0] [some (SS.o s3)] (AV.tup [AV.p 1 0, AV.sv 1 2 (recF (fun x => 1) xyB), AV.i IntKind.i64 (0 : Int)]) [Upd.keep, Upd.set (JS.o
  j4)] ∧ True ∧ ((0 : Int) ≤ (0 : Int) ∧ (0 : Int) < (2 : Int)) ∧ True ∧ U8s 1 (byF (xyB (Int.toNat (0 : Int)))) ∧ ((0 : Int) ≤ (1 : Int) ∧ (1 : Int) < (2 : Int)) ∧ True ∧ U8s 1
  (byF (xyB (Int.toNat (1 : Int)))) ∧ ((1 = 1 ∧ 1129 ≤ 1129) ∧ (0 : Int) ≤ (1129 : Int) ∧ (1129 : Int) ≤ (1129 : Int) ∧ (1129 : Int) ≤ (1073741824 : Int)) ∧ Con Tryd.prog 24 [AV.p 1
  0, AV.sv 1 1129 fun x j => List.getD [CV.i IntKind.u8 (0 : Int)] j CV.p0] [some (SS.o s3), some (JS.o j3)] (AV.i IntKind.i64 (2 : Int)) [Upd.keep, Upd.keep] ∧ K (Res.rv (AV.b
  true) { tree := T.n (some (AObj.segs 77 33799 [{ st := 0, sz := 1, n := 1, f := oneF (CV.i IntKind.i64 (Int.ofNat (SS.n s3))) }, { st := 1, sz := 65, n := 512, f := durF (SS.dur s3) (SS.torn s3) }, { st := 33281, sz := 1, n := 1, f := oneF (CV.opv (pB (SS.P s3)) 66 (pW (SS.P s3))) }, { st := 33282, sz := 1, n := 512, f := latF (lB (SS.P s3)) (lW (SS.P s3)) }, { st := 33794, sz := 5, n := 1, f := tailF (Int.ofNat (List.length (SS.P s3))) (Int.ofNat (SS.wr s3)) (SS.off s3) (SS.armed s3) (Int.ofNat (SS.left s3)) }])) (T.n (some (AObj.cells 86 6 [] (T.n (some (AV.p 0 0)) (T.n (some (AV.i IntKind.i64 (Int.ofNat (JS.gen j3)))) (T.n (some (AV.i IntKind.i64 (Int.ofNat (JS.recs j3)))) T.e T.e) (T.n (some (AV.b (JS.dead j3))) T.e T.e)) (T.n (some (AV.i IntKind.i64 (Int.ofNat (JS.area j3)))) (T.n (some (AV.i IntKind.i64 (JS.room j3))) T.e T.e) T.e)))) (T.n none (T.n (some (AObj.cells 86 6 [] (T.n (some (AV.p 0 0)) (T.n (some (AV.i IntKind.i64 (Int.ofNat (JS.gen j4)))) (T.n (some (AV.i IntKind.i64 (Int.ofNat (JS.recs j4)))) T.e T.e) (T.n (some (AV.b (JS.dead j4))) T.e T.e)) (T.n (some (AV.i IntKind.i64 (Int.ofNat (JS.area j4)))) (T.n (some (AV.i IntKind.i64 (JS.room j4))) T.e T.e) T.e)))) T.e T.e) T.e) (T.n none T.e T.e)) (T.n none (T.n none (T.n none T.e T.e) T.e) (T.n none T.e T.e)), next := 9, log := [8, 8, 7, 5, 4, 6, 1, 0, 6, 5, 5, 4, 4, 1, 0, 3, 3, 2, 1, 0, 2, 2, 1, 0] })
  Orc.z) := by kernel_rfl
theorem room_con (j : JS) (s : SS) : Con Tryd.prog 28 [.p 1 0] [some s.o, some j.o] (.i .i64 j.room) [.keep, .keep] := con_of_run [] [] ((jroom_vc j s _).mpr ⟨trivial, trivial, _, _, rfl, ret_k (by kernel_rfl)⟩)
theorem recs_con (j : JS) (s : SS) : Con Tryd.prog 27 [.p 1 0] [some s.o, some j.o] (.i .i64 (Int.ofNat j.recs)) [.keep, .keep] := con_of_run [] [] ((jrecs_vc j s _).mpr ⟨trivial, trivial, _, _, rfl, ret_k (by kernel_rfl)⟩)
theorem gen_con (j : JS) (s : SS) : Con Tryd.prog 30 [.p 1 0] [some s.o, some j.o] (.i .i64 (Int.ofNat j.gen)) [.keep, .keep] := con_of_run [] [] ((jgen_vc j s _).mpr ⟨trivial, trivial, _, _, rfl, ret_k (by kernel_rfl)⟩)
theorem jbegin_con : Con Tryd.prog 37 [] [] (.tup [.p 0 0, .p 1 0]) [.set nS0.o, .set nJ0.o] :=
  con_of_run [] [0, 1] ((jbeg_vc (SS.new 122) nS0 nJ0 (fun _ => 0) (fun _ _ => 0) _).mpr ⟨new_con 122 (by decide) (by decide), open0_con, _, _, rfl, ret_k (by kernel_rfl)⟩)
def Fr (s : SS) : Prop := ∀ i, i < 60 → aG s 1 i = 0
theorem mxG_all {G : Nat → Nat} {g : Nat} : ∀ {k : Nat}, (∀ i, i < k → G i ≤ g) → mxG G g k = g
  | 0, _ => rfl
  | k + 1, h => by
    show (if G k > mxG G g k then G k else mxG G g k) = g
    rw [mxG_all fun i hi => h i (by omega), if_neg (by have := h k (by omega); omega)]
theorem nxV_fr {s : SS} {j : JS} (hg : j.gen = 1) (ha : j.area = 0) (f : Fr s) : nxV s j = 2 := by
  have e : nxG s j = 1 := by
    unfold nxG
    rw [ha, hg]
    exact mxG_all fun i hi => by rw [show 1 - 0 = 1 from rfl, f i hi]; omega
  unfold nxV
  rw [e, hg]; rfl
section
variable {s : SS} {j : JS} {mm n : Nat} {m : Nat → Nat} {b : Nat → Nat → Nat}
theorem JI.appendFr (h : JI s j mm n m b) (c : Calm s) {L : Nat} {bs : Nat → Nat} (hL : L ≤ 1128) (hb : ∀ t, bs t < 256) (hf : npF L ≤ 60 - sumP m n 0) (ha : j.area = 0) (f : Fr s) : Fr (apS j (60 - sumP m n 0) s L bs) := by
  intro i hi
  have hn := h.hn
  have e := h.append_far hf (h.appendC c hL hb hf).1 (q := 2 + 1 * 60 + i) (by omega) (.inr (by rw [ha]; omega))
  rw [(a_same (a := 1) (i := i) e).1]
  exact f i hi
end
theorem abB_lt : ∀ t, abB t < 256
  | 0 => by decide
  | _ + 1 => by show 98 < 256; decide
theorem xyB_lt : ∀ i t, xyB i t < 256
  | 0, _ => by show 120 < 256; decide
  | _ + 1, _ => by show 121 < 256; decide
theorem np2 : npF 2 = 1 := by unfold npF; rw [if_neg (by decide)]
theorem np100 : npF 100 = 3 := by unfold npF; rw [if_pos (by decide)]
noncomputable def aw1S : SS := apS nJ0 (60 - sumP (fun _ => 0) 0 0) nS0 2 abB
noncomputable def aw1J : JS := nJ0.more 2
noncomputable def aw2S : SS := apS aw1J (60 - sumP (mS 0 (fun _ => 0) 2) 1 0) aw1S 100 (fun _ => 0)
noncomputable def aw2J : JS := aw1J.more 100
theorem aw1 : Calm aw1S ∧ JI aw1S aw1J (1 + npF 2) 1 (mS 0 (fun _ => 0) 2) (bS 0 (fun _ _ => 0) abB) ∧ Fr aw1S :=
  have h := nJI.appendC nS0_calm (L := 2) (bs := abB) (by decide) abB_lt (by rw [np2]; decide)
  ⟨h.2.1, h.2.2, nJI.appendFr nS0_calm (by decide) abB_lt (by rw [np2]; decide) rfl nS0_fr⟩
theorem s1e : sumP (mS 0 (fun _ => 0) 2) 1 0 = 1 := by rw [sumP_at, mS_eq, np2]; rfl
theorem aw2 : Calm aw2S ∧ JI aw2S aw2J (1 + npF 2 + npF 100) 2 (mS 1 (mS 0 (fun _ => 0) 2) 100) (bS 1 (bS 0 (fun _ _ => 0) abB) fun _ => 0) ∧ Fr aw2S :=
  have h := aw1.2.1.appendC aw1.1 (L := 100) (bs := fun _ => 0) (by decide) (fun _ => by decide) (by rw [np100, s1e]; decide)
  ⟨h.2.1, h.2.2, aw1.2.1.appendFr aw1.1 (by decide) (fun _ => by decide) (by rw [np100, s1e]; decide) rfl aw1.2.2⟩
theorem aw2V : nxV aw2S aw2J = 2 := nxV_fr rfl rfl aw2.2.2
noncomputable def aw3S : SS := nmS (rwS aw2S aw2J 2 (fun _ => 1) xyB) (nxV aw2S aw2J) (1 - aw2J.area)
noncomputable def aw3J : JS := rwJ aw2S aw2J 2 (fun _ => 1)
theorem s2one : sumP (fun _ => 1) 2 0 = 2 := by rw [sumP_at, sumP_at, one_parts 0]; rfl
theorem aw3 : JI aw3S aw3J (1 + npF 2 + npF 100 + sumP (fun _ => 1) 2 0 + 1) 2 (fun _ => 1) xyB :=
  (aw2.2.1.rewriteC aw2.1 (n' := 2) (m' := fun _ => 1) (b' := xyB) (fun _ _ => by decide) (by rw [s2one]; decide) xyB_lt (by rw [aw2V]; decide)).2.2.2
theorem nS0_wr : nS0.wr = 1 := by kernel_rfl
theorem aw0_wr : Con Tryd.prog 31 [.p 0 0] [some nS0.o] (.i .i64 1) [.keep] := by
  have h := writes2_con nS0
  rw [nS0_wr] at h
  exact h
theorem aw1_con : Con Tryd.prog 24 [.p 1 0, .l 2 0 2 2 1 true] [some nS0.o, some nJ0.o, some (cellsO 5 [.i .u8 97, .i .u8 98])] (.i .i64 0) [.set aw1S.o, .set aw1J.o, .gone] := by
  have k0 := nJI.appendC_con nS0_calm (L := 2) (bs := abB) (by decide) abB_lt (by rw [np2]; decide) (by rw [np2]; decide)
  have k0' : Con Tryd.prog 24 [.p 1 0, .sv 1 2 (byF abB)] [some nS0.o, some nJ0.o] (.i .i64 0) [.set aw1S.o, .set aw1J.o] := k0
  generalize aw1S = S at k0' ⊢
  generalize aw1J = J at k0' ⊢
  generalize nS0 = S0 at k0' ⊢
  generalize nJ0 = J0 at k0' ⊢
  have k1 : Con Tryd.prog 24 [.p 1 0, .sv 1 2 (listF 1 [.i .u8 97, .i .u8 98] 2)] [some S0.o, some J0.o] (.i .i64 0) [.set S.o, .set J.o] := k0'.pre ⟨.refl _, .sv fun i j hi hj => by
    obtain rfl : j = 0 := by omega
    match i, hi with
    | 0, _ => exact Eq.refl _
    | 1, _ => exact Eq.refl _, trivial⟩
  have k2 : Con Tryd.prog 24 [.p 1 0, .sv 1 2 (listF 1 [.i .u8 97, .i .u8 98] 2)] [some S0.o, some J0.o, none] (.i .i64 0) [.set S.o, .set J.o, .gone] :=
    k1.more [0, 1] (by kernel_rfl) (hasAll_of (by kernel_rfl) (by kernel_rfl)) (by kernel_rfl) (by kernel_rfl) (by kernel_rfl) (by kernel_rfl)
  exact k2.thawZ 2 (z := .cells 2 [.i .u8 97, .i .u8 98]) (by kernel_rfl) ⟨.inl rfl, .inl rfl, rfl, trivial⟩ ⟨.inl rfl, .inr ⟨by kernel_rfl, by show 0 + 2 * 1 ≤ 2; decide, rfl⟩, trivial⟩ rfl
theorem aw2_con : Con Tryd.prog 24 [.p 1 0, .sv 1 100 fun x j => List.getD [CV.i IntKind.u8 (0 : Int)] j CV.p0] [some aw1S.o, some aw1J.o] (.i .i64 0) [.set aw2S.o, .set aw2J.o] := by
  have k0 := aw1.2.1.appendC_con aw1.1 (L := 100) (bs := fun _ => 0) (by decide) (fun _ => by decide) (by rw [np100, s1e]; decide) (by rw [np100, np2]; decide)
  have k0' : Con Tryd.prog 24 [.p 1 0, .sv 1 100 (byF fun _ => 0)] [some aw1S.o, some aw1J.o] (.i .i64 0) [.set aw2S.o, .set aw2J.o] := k0
  exact k0'.pre ⟨.refl _, .sv fun i j hi hj => by
    obtain rfl : j = 0 := by omega
    exact Eq.refl _, trivial⟩
theorem one_cw (x : Int) (b : Nat → Nat) (hx : x = Int.ofNat (b 0)) : CW (.sv 1 1 (oneB x)) (.sv 1 1 (byF b)) := by
  refine CW.sv fun i j hi hj => ?_
  have e1 : j = 0 := by omega
  have e2 : i = 0 := by omega
  subst e1 e2 hx
  exact .refl _
theorem xy_cw : ∀ i j, i < 2 → j < 1 → CW (listF 1 [.sv 1 1 (oneB 120), .sv 1 1 (oneB 121)] 2 i j) (recF (fun _ => 1) xyB i j)
  | 0, 0, _, _ => (zipCV_CW true (.sv 1 1 (oneB 120)) (.sv 1 1 (oneB 121))).trans (one_cw 120 (xyB 0) rfl)
  | 1, 0, _, _ => (zipCV_CW false (.sv 1 1 (oneB 120)) (.sv 1 1 (oneB 121))).trans (one_cw 121 (xyB 1) rfl)
  | _ + 2, _, h, _ => absurd h (by omega)
  | _, _ + 1, _, h => absurd h (by omega)
theorem aw3_con : Con Tryd.prog 14 [.p 1 0, .l 2 0 2 2 1 true] [some aw2S.o, some aw2J.o, some (cellsO 38 [.l 3 0 1 1 1 true, .l 4 0 1 1 1 true]), some (cellsO 5 [.i .u8 120]), some (cellsO 5 [.i .u8 121])] (.i .i64 0) [.set aw3S.o, .set aw3J.o, .gone, .gone, .gone] := by
  have k0 := aw2.2.1.rewriteC_con aw2.1 (n' := 2) (m' := fun _ => 1) (b' := xyB) (fun _ _ => by decide) (by rw [s2one]; decide) xyB_lt (by decide) (by rw [aw2V]; decide) (by rw [np100, np2]; decide)
  have k0' : Con Tryd.prog 14 [.p 1 0, .sv 1 2 (recF (fun _ => 1) xyB)] [some aw2S.o, some aw2J.o] (.i .i64 0) [.set aw3S.o, .set aw3J.o] := k0
  generalize aw3S = S at k0' ⊢
  generalize aw3J = J at k0' ⊢
  generalize aw2S = S0 at k0' ⊢
  generalize aw2J = J0 at k0' ⊢
  have k1 : Con Tryd.prog 14 [.p 1 0, .sv 1 2 (recF (fun _ => 1) xyB)] [some S0.o, some J0.o, none, none, none] (.i .i64 0) [.set S.o, .set J.o, .gone, .gone, .gone] :=
    k0'.more [0, 1] (by kernel_rfl) (hasAll_of (by kernel_rfl) (by kernel_rfl)) (by kernel_rfl) (by kernel_rfl) (by kernel_rfl) (by kernel_rfl)
  have k2 : Con Tryd.prog 14 [.p 1 0, .sv 1 2 (listF 1 [.sv 1 1 (oneB 120), .sv 1 1 (oneB 121)] 2)] [some S0.o, some J0.o, none, none, none] (.i .i64 0) [.set S.o, .set J.o, .gone, .gone, .gone] := k1.pre ⟨.refl _, .svW xy_cw, trivial⟩
  have k3 : Con Tryd.prog 14 [.p 1 0, .l 2 0 2 2 1 true] [some S0.o, some J0.o, some (cellsO 38 [.sv 1 1 (oneB 120), .sv 1 1 (oneB 121)]), none, none] (.i .i64 0) [.set S.o, .set J.o, .gone, .gone, .gone] :=
    k2.thawZ 2 (z := .cells 2 [.sv 1 1 (oneB 120), .sv 1 1 (oneB 121)]) (by kernel_rfl) ⟨.inl rfl, .inl rfl, rfl, .inl rfl, .inl rfl, trivial⟩ ⟨.inl rfl, .inr ⟨by kernel_rfl, by show 0 + 2 * 1 ≤ 2; decide, rfl⟩, trivial⟩ rfl
  have k4 : Con Tryd.prog 14 [.p 1 0, .l 2 0 2 2 1 true] [some S0.o, some J0.o, some (cellsO 38 [.l 3 0 1 1 1 true, .sv 1 1 (oneB 121)]), some (cellsO 5 [.i .u8 120]), none] (.i .i64 0) [.set S.o, .set J.o, .gone, .gone, .gone] :=
    k3.thawZ 3 (z := .cells 1 [.i .u8 120]) (by kernel_rfl) ⟨.inl rfl, .inl rfl, .cells ⟨.inr ⟨by kernel_rfl, by show 0 + 1 * 1 ≤ 1; decide, rfl⟩, .inl rfl, trivial⟩, rfl, .inl rfl, trivial⟩ ⟨.inl rfl, .inl rfl, trivial⟩ rfl
  exact k4.thawZ 4 (z := .cells 1 [.i .u8 121]) (by kernel_rfl) ⟨.inl rfl, .inl rfl, .cells ⟨.inl rfl, .inr ⟨by kernel_rfl, by show 0 + 1 * 1 ≤ 1; decide, rfl⟩, trivial⟩, .inl rfl, rfl, trivial⟩ ⟨.inl rfl, .inl rfl, trivial⟩ rfl
theorem aw4_con : Con Tryd.prog 10 [.p 0 0] [some aw3S.o] (.tup [.p 1 0, .sv 1 2 (recF (fun _ => 1) xyB), .i .i64 0]) [.keep, .set aw3J.o] := by
  have h := aw3
  refine h.open_con.post (.tup ⟨.refl _, .svW fun i j hi hj => ?_, .refl _, trivial⟩) (OVL.refl _)
  obtain rfl : j = 0 := by omega
  show CW (.sv 1 (Jn.opM aw3S aw3J.area i) (byF (Jn.opB aw3S aw3J.area i))) (.sv 1 1 (byF (xyB i)))
  rw [h.opM hi]
  refine CW.sv fun i' j' hi' hj' => .of ?_
  show CV.i .u8 (Int.ofNat (Jn.opB aw3S aw3J.area i i')) = .i .u8 (Int.ofNat (xyB i i'))
  rw [h.opB hi hi']
theorem aw5_con : Con Tryd.prog 24 [.p 1 0, .sv 1 1129 fun x j => List.getD [CV.i IntKind.u8 (0 : Int)] j CV.p0] [some aw3S.o, some aw3J.o] (.i .i64 2) [.keep, .keep] :=
  (appendRange_con aw3J aw3S 1129 (fun _ => 0) rfl (by decide)).pre ⟨.refl _, .sv fun i j hi hj => by
    obtain rfl : j = 0 := by omega
    exact Eq.refl _, trivial⟩
theorem awake_con : Con Tryd.prog 11 [] [] (.b true) [] := by
  have g3 := gen_con aw3J aw3S
  rw [show aw3J.gen = 2 from aw2V] at g3
  have r2 := room_con aw2J aw2S
  rw [show aw2J.room = 56 from by show (60 : Int) - Int.ofNat (npF 2) - Int.ofNat (npF 100) = 56; rw [np2, np100]; rfl] at r2
  have r3 := room_con aw3J aw3S
  rw [show aw3J.room = 58 from by show (60 : Int) - Int.ofNat (sumP (fun _ => 1) 2 0) = 58; rw [s2one]; rfl] at r3
  have c2 := recs_con aw2J aw2S
  have c3 := recs_con aw3J aw3S
  have hu : ∀ i, U8s 1 (byF (xyB i)) := fun i k _ => ⟨xyB i k, rfl⟩
  exact con_of_run [] [] ((jaw_vc nS0 nJ0 aw1S aw1J aw2S aw2J aw3S aw3J aw3J _).mpr ⟨jbegin_con, trivial, gen_con nJ0 nS0, room_con nJ0 nS0, aw0_wr, aw1_con, ⟨⟨rfl, by decide⟩, by decide, by decide, by decide⟩, aw2_con, r2, c2, aw3_con, g3, c3, r3, aw4_con, trivial, by decide, trivial, hu _, by decide, trivial, hu _, ⟨⟨rfl, by decide⟩, by decide, by decide, by decide⟩, aw5_con, _, _, rfl, ret_k (by kernel_rfl)⟩)
end Go.Proofs.Jn
