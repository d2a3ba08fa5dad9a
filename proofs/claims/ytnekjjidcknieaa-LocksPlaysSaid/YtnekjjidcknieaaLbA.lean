/- Runs over unknown values, told by the kernel: part LbA. -/
import Derived.Test.YtnekjjidcknieaaLpA
set_option linter.unusedSimpArgs false
set_option linter.unusedVariables false
set_option maxRecDepth 20000
namespace Go.Proofs.Lk
open Go Go.Sim Go.Proofs
def stA (s : LS) (kk l k m : Int) : LS := if kk = 1 then (if freeE s l k = 0 then freeS s l k else s) else if kk = 2 then dropS s k else (if askE s l k m = 0 then askS s l k m else s)
def runA (KK L S M : Nat → Int) : Nat → LS
  | 0 => zS
  | i + 1 => stA (runA KK L S M i) (KK i) (L i) (S i) (M i)
theorem runA_s (KK L S M : Nat → Int) (i : Nat) : runA KK L S M (i + 1) = stA (runA KK L S M i) (KK i) (L i) (S i) (M i) := rfl
theorem stA_ok {s : LS} (o : s.ok) (kk l k m : Int) : (stA s kk l k m).ok := by
  unfold stA
  split
  · split
    · exact freeS_ok o _ _
    · exact o
  · split
    · exact dropS_ok o _
    · split
      · exact askS_ok o _ _ _
      · exact o
theorem stA_va {s : LS} (v : vaS s = true) (kk l k m : Int) : vaS (stA s kk l k m) = true := by
  unfold stA
  split
  · split
    · exact freeS_va v _ _
    · exact v
  · split
    · exact dropS_va v _
    · split
      · exact askS_va v _ _ _
      · exact v
theorem runA_ok (KK L S M : Nat → Int) : ∀ i, (runA KK L S M i).ok
  | 0 => zS_ok
  | i + 1 => stA_ok (runA_ok KK L S M i) _ _ _ _
theorem runA_va (KK L S M : Nat → Int) : ∀ i, vaS (runA KK L S M i) = true
  | 0 => zS_va
  | i + 1 => stA_va (runA_va KK L S M i) _ _ _ _
end Go.Proofs.Lk
