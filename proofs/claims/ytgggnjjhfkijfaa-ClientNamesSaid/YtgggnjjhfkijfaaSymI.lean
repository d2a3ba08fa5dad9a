/- Runs over unknown values, told by the kernel: part SymI. -/
import Derived.Test.YtgggnjjhfkijfaaSymH
import Derived.ReadAgain
set_option linter.unusedSimpArgs false
set_option linter.unusedVariables false
/- Runs over values that are not known: what must hold, so that a run ends as told. -/
namespace Go.Sim
open Go
inductive Orc where
  | z
  | c (k : Orc)
  | s (t f : Orc)
  | t (k : Orc)
  | f (k : Orc)
  | m (k : Orc)
  | inl (k : Orc)
  | con (v : AV) (H : AH) (k : Orc)
  | cal (σ : List Nat) (v : AV) (us : List Upd) (k : Orc)
  | lp (x : XO) (tm : T AV) (H : AH) (k : Orc)
  | lop (σ ts : List Nat) (b : Nat) (x : XO) (l' : List (Nat × AV)) (objs' : List (Option AObj)) (k : Orc)
end Go.Sim
/- From runs to contracts, and loops by induction. -/
namespace Go.Sim
open Go
theorem closed_con {P : Program} {fuel : Nat} {g : FuncId} (h : callTrue P fuel g = true) : Con P g [] [] (.b true) [] := by
  intro ρ w args' hv hh hoff
  cases hv
  refine (closed_true h w).mono ?_
  rintro e w' ⟨rfl, hk⟩
  have hemp : ∀ A o, (mkH (postL [] [])).get A = some o → False := by
    intro A o h
    rw [mkH_get] at h
    have : (postL [] [] : List (Option AObj)) = [] := rfl
    rw [this] at h; simp at h
  refine ⟨_, ρ, rfl, .b true, ⟨fun A o h => (hemp A o h).elim, fun A _ o _ _ _ h => (hemp A o h).elim, fun A x h => by rw [hoff A (Nat.zero_le _)] at h; simp at h, fun B j v hv => ?_, fun B j v hv A o x h => (hemp A o h).elim⟩,
    ⟨Nat.zero_le _, .refl _, fun _ _ h => .inl h, hk.size, fun B hB _ => hk.heap B hB, fun A o x h => (hemp A o h).elim, fun _ _ _ h => .inl h, hk.tape, hk.os, hk.output⟩⟩
  obtain ⟨c, e, fr, h1, h2⟩ := hh.ro B j v hv
  exact ⟨c, e, fr, by rw [hk.heap B (hh.rolt hv)]; exact h1, h2⟩
end Go.Sim
/- Rows that are told in other words. -/
namespace Go.Sim
open Go
end Go.Sim
/- Rows that a call leaves frozen, wherever they are named. -/
namespace Go.Sim
open Go
end Go.Sim
/- Loops whose state may be told less exactly behind each round. -/
namespace Go.Sim
open Go
end Go.Sim
/- A contract whose argument is a row that nobody writes any more. -/
namespace Go.Sim
open Go
end Go.Sim
/- Rounds whose leaf is told by one kernel's equation. -/
namespace Go.Sim
open Go
section
variable {D : Type} {P : Program} {c : Code} {n b : Nat} {σ : List Nat} {l0 l1 : List (Nat × AV)} {objs0 objs1 : List (Option AObj)} {o : Orc} {nx : Nat} {C : Prop → Prop} {I : D → List (Nat × AV) × List (Option AObj)} {μ : D → Nat} {inv : D → Prop} {x : XO} {l' : List (Nat × AV)} {objs' : List (Option AObj)} {d : D}
end
end Go.Sim
/- Short words for printed conditions. -/
namespace Go.Sim
open Go
noncomputable abbrev zz0 {α : Type} (a b : T α) : T α := .n none a b
noncomputable abbrev zz1 {α : Type} (v : α) (a b : T α) : T α := .n (some v) a b
noncomputable abbrev zzl {α : Type} (v : α) : T α := .n (some v) .e .e
noncomputable abbrev inv (x : Nat) : AV := .i .i64 (Int.ofNat x)
noncomputable abbrev zzn (x : Nat) : T AV := .n (some (.i .i64 (Int.ofNat x))) .e .e
noncomputable abbrev zzu : T AV := .n (some (.tup [])) .e .e
noncomputable abbrev zzb : T AV := .n (some (.b true)) .e .e
abbrev rg (x : Int) : Prop := (-9223372036854775808) ≤ x ∧ x ≤ 9223372036854775807
abbrev r2 (c q : Prop) : Prop := c ∧ c ∧ q
abbrev r3 (c q : Prop) : Prop := c ∧ c ∧ c ∧ q
abbrev r4 (c q : Prop) : Prop := c ∧ c ∧ c ∧ c ∧ q
abbrev r5 (c q : Prop) : Prop := c ∧ c ∧ c ∧ c ∧ c ∧ q
abbrev r6 (c q : Prop) : Prop := c ∧ c ∧ c ∧ c ∧ c ∧ c ∧ q
noncomputable def ot : Nat → Orc → Orc
  | 0, o => o
  | n + 1, o => .t (ot n o)
noncomputable def of_ : Nat → Orc → Orc
  | 0, o => o
  | n + 1, o => .f (of_ n o)
abbrev kpI (kk L : Int) : Int := if L < if 0 > kk then 0 else kk then L else if 0 > kk then 0 else kk
end Go.Sim
/- What comes back with rows frozen, as one kernel's equation. -/
namespace Go.Sim
open Go
end Go.Sim
/- A closed call with arguments, told by the evaluator of closed runs. -/
namespace Go.Sim
open Go
end Go.Sim
/- From a contract to a row: arguments as values that name no row, and that they read as before. -/
namespace Go.Sim
open Go Go.ChangeShapes Go.WideShapes Go.ChangeAt Go.RowKit
noncomputable def roAll (w : World) : Rho := ⟨fun _ => none, fun B j => match w.heap[B]? with | some (.cells c _ _) => c[j]? | _ => none⟩
theorem roAll_HR (w : World) : HR (roAll w) (mkH []) w := by
  refine ⟨fun A o h => ?_, fun A A' o o' x x' h => ?_, fun A x h => by simp [roAll] at h, fun B j v hv => ?_, fun B j v hv A o x h hx => by simp [roAll] at hx⟩
  · rw [mkH_get] at h; simp at h
  · rw [mkH_get] at h; simp at h
  · have hv' : (match w.heap[B]? with | some (.cells c _ _) => c[j]? | _ => none) = some v := hv
    split at hv'
    · rename_i c e fr hb; exact ⟨c, e, fr, hb, hv'⟩
    · simp at hv'
theorem con_kept {P : Program} {g : FuncId} {pargs : List AV} {args : List Value} {w : World} (hc : Con P g pargs [] (.b true) []) (hv : VRs (roAll w) pargs args) :
    Calls P g args.toArray w (fun e w' => e = .returned (.bool true) ∧ Kept w w') := by
  refine (hc (roAll w) w args hv (roAll_HR w) (fun _ _ => rfl)).mono ?_
  rintro e w' ⟨v', ρ', rfl, h1, h2, h3⟩
  cases h1
  refine ⟨rfl, h3.size, fun B hB => h3.frame B hB fun A o x hA => ?_, h3.tape, h3.os, h3.output⟩
  rw [mkH_get] at hA; simp at hA
end Go.Sim
/- What a reading says of the values behind it, as values that name no row; and that it reads as before. -/
namespace Go.Sim
open Go Go.ChangeShapes Go.WideShapes Go.ChangeAt Go.RowKit
section
variable {H : Type} {enc : TypeId × Value → H} {P : Program} {w w' : World} {T : TypeId → Prop}
end
section
variable {P : Program} {D : Nat} (d : Nat) {t : TypeId} {f : Nat → CV}
end
end Go.Sim
