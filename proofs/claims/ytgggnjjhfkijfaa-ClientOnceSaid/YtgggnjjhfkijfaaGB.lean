/- Runs over unknown values, told by the kernel: part GB. -/
import Derived.Test.YtgggnjjhfkijfaaGA
set_option linter.unusedSimpArgs false
set_option linter.unusedVariables false
set_option maxRecDepth 20000
namespace Go.Proofs.Sv
open Go Go.Sim Go.Proofs Go.Proofs.Lk Go.Proofs.Ytgggnjjhfkijfaa
def cm0 : Cm := ⟨0, 0, 0, 0, 0, 0, 0, 0, 0, fun _ => 0, 0⟩
end Go.Proofs.Sv
