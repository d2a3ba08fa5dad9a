/- Runs over unknown values, told by the kernel: part RowA. -/
import Derived.Test.YtjhcbjncdbmhoaaGH
import Derived.Test.YtjhcbjncdbmhoaaRows
set_option linter.unusedSimpArgs false
set_option linter.unusedVariables false
set_option maxRecDepth 20000
namespace Go.Proofs.Ly
open Go Go.Sim Go.Proofs Go.Proofs.Cl Go.Proofs.Ytjhcbjncdbmhoaa
theorem u9:Try.prog.underlying 9=some .string:=by kernel_rfl
end Go.Proofs.Ly
