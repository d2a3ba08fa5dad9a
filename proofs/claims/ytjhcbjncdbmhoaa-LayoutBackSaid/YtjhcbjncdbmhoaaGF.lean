/- Runs over unknown values, told by the kernel: part GF. -/
import Derived.Test.YtjhcbjncdbmhoaaGE
set_option linter.unusedSimpArgs false
set_option linter.unusedVariables false
set_option maxRecDepth 20000
namespace Go.Proofs.Ly
open Go Go.Sim Go.Proofs Go.Proofs.Cl Go.Proofs.Ytjhcbjncdbmhoaa
def bt (y k : Nat) : Bool := decide (y / 2 ^ k % 2 = 1)
end Go.Proofs.Ly
