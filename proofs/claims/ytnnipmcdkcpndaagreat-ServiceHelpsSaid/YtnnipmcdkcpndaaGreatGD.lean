/- Runs over unknown values, told by the kernel: part GD. -/
import Derived.Test.YtnnipmcdkcpndaaGreatGC
noncomputable section
open Int (ofNat)
set_option linter.unusedSimpArgs false
set_option linter.unusedVariables false
set_option maxRecDepth 20000
namespace Go.Proofs.Lk
open Go Go.Sim Go.Proofs
end Go.Proofs.Lk
