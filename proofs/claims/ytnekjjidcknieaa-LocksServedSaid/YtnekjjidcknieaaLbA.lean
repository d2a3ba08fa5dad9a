/- Runs over unknown values, told by the kernel: part LbA. -/
import Derived.Test.YtnekjjidcknieaaLpA
set_option linter.unusedSimpArgs false
set_option linter.unusedVariables false
set_option maxRecDepth 20000
namespace Go.Proofs.Lk
open Go Go.Sim Go.Proofs
def stA (s : LS) (kk l k m : Int) : LS := if kk = 1 then (if freeE s l k = 0 then freeS s l k else s) else if kk = 2 then dropS s k else (if askE s l k m = 0 then askS s l k m else s)
theorem stA_ok {s : LS} (o : s.ok) (kk l k m : Int) : (stA s kk l k m).ok := by
  unfold stA
  split
  · split
    · exact freeS_ok o _ _
    · exact o
  · split
    · exact dropS_ok o _
    · split
      · exact askS_ok o _ _ _
      · exact o
theorem stA_va {s : LS} (v : vaS s = true) (kk l k m : Int) : vaS (stA s kk l k m) = true := by
  unfold stA
  split
  · split
    · exact freeS_va v _ _
    · exact v
  · split
    · exact dropS_va v _
    · split
      · exact askS_va v _ _ _
      · exact v
end Go.Proofs.Lk
