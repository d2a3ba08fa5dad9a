/- Runs over unknown values, told by the kernel: part SymH. -/
import Derived.Test.YtgggnjjhfkijfaaSymG
set_option linter.unusedSimpArgs false
set_option linter.unusedVariables false
/- Names put for names. -/
namespace Go.Sim
open Go
mutual
noncomputable def below (k : Nat) : AV → Bool
  | .p A _ => Nat.blt A k
  | .l A _ _ _ _ _ => Nat.blt A k
  | .m A => Nat.blt A k
  | .fn _ f c => belows k f && belows k c
  | .ifc _ v => below k v
  | .agg l => belows k l
  | .tup l => belows k l
  | .ps A _ _ _ _ => Nat.blt A k
  | .pr A _ _ _ => Nat.blt A k
  | .lr A _ _ _ _ => Nat.blt A k
  | .b _ => true
  | .i _ _ => true
  | .s _ => true
  | .p0 => true
  | .l0 => true
  | .lz => true
  | .m0 => true
  | .f0 => true
  | .if0 => true
  | .sv _ _ _ => true
  | .opv _ _ _ => true
  | .pv _ _ => true
  | .yf A => Nat.blt A k
noncomputable def belows (k : Nat) : List AV → Bool
  | [] => true
  | v :: r => below k v && belows k r
end
end Go.Sim
/- What a call does to the few rows that it is handed, and to them in a greater heap. -/
namespace Go.Sim
open Go
noncomputable def setO (t : T AObj) (k : Nat) (o : Option AObj) : T AObj :=
  match o with
  | some x => t.set k (some x)
  | none => t
noncomputable def treeL (l : List (Option AObj)) : Nat → T AObj → T AObj :=
  List.rec (motive := fun _ => Nat → T AObj → T AObj) (fun _ t => t) (fun o _ ih k t => ih (k + 1) (setO t k o)) l
theorem treeL_cons (o : Option AObj) (l : List (Option AObj)) (k : Nat) (t : T AObj) : treeL (o :: l) k t = treeL l (k + 1) (setO t k o) := rfl
noncomputable def mkH (l : List (Option AObj)) : AH := { tree := treeL l 0 .e, next := l.length, log := [] }
theorem treeL_get : ∀ (l : List (Option AObj)) (k : Nat) (t : T AObj) (A : Nat), (∀ B, k ≤ B → t.get B = none) → (treeL l k t).get A = if A < k then t.get A else (l[A - k]?).join
  | [], k, t, A, h => by
    show t.get A = _
    by_cases hA : A < k
    · rw [if_pos hA]
    · rw [if_neg hA, h A (by omega)]; rfl
  | o :: l, k, t, A, h => by
    rw [treeL_cons]
    have hs : ∀ B, (setO t k o).get B = if B = k then o else t.get B := by
      intro B
      unfold setO
      cases o with
      | some x => simp only [T.get_set]
      | none =>
        simp only
        by_cases e : B = k
        · subst e; rw [if_pos rfl]; exact h _ (Nat.le_refl _)
        · rw [if_neg e]
    rw [treeL_get l (k + 1) _ A (fun B hB => by rw [hs, if_neg (by omega)]; exact h B (by omega))]
    by_cases h1 : A < k
    · rw [if_pos (by omega), if_pos h1, hs, if_neg (by omega)]
    · rw [if_neg h1]
      by_cases h2 : A = k
      · subst h2
        rw [if_pos (by omega), hs, if_pos rfl]; simp
      · rw [if_neg (by omega), show A - k = (A - (k + 1)) + 1 by omega]; simp
theorem mkH_get (l : List (Option AObj)) (A : Nat) : (mkH l).get A = (l[A]?).join := by
  show (treeL l 0 .e).get A = _
  rw [treeL_get l 0 .e A (fun B _ => rfl)]; simp
inductive Upd where
  | keep | set (o : AObj) | gone
noncomputable def postG (u : Upd) (x : Option AObj) : Option AObj :=
  match u with
  | .keep => x
  | .set o => some o
  | .gone => none
noncomputable def postL (objs : List (Option AObj)) (us : List Upd) : List (Option AObj) :=
  List.rec (motive := fun _ => List (Option AObj) → List (Option AObj)) (fun _ => [])
    (fun u _ ih objs => (postG u objs.head?.join) :: ih objs.tail) us objs
def Con (P : Program) (g : FuncId) (args : List AV) (objs : List (Option AObj)) (v : AV) (us : List Upd) : Prop :=
  ∀ ρ w (args' : List Value), VRs ρ args args' → HR ρ (mkH objs) w → (∀ A, objs.length ≤ A → ρ A = none) →
    Calls P g args'.toArray w (fun e w' => ∃ v' ρ', e = .returned v' ∧ VR ρ' v v' ∧ HR ρ' (mkH (postL objs us)) w' ∧ Ext ρ (mkH objs) w ρ' (mkH (postL objs us)) w')
end Go.Sim
/- Loops, told of the rows that they are handed alone. -/
namespace Go.Sim
open Go
end Go.Sim
/- Ranges over functions: the record's row, and a round of it. -/
namespace Go.Sim
open Go
end Go.Sim
