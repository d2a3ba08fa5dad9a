/- Runs over unknown values, told by the kernel: part GA. -/
import Derived.Test.YtgggnjjhfkijfaaSymI
import Derived.Test.YtgggnjjhfkijfaaRows
set_option linter.unusedSimpArgs false
set_option linter.unusedVariables false
set_option maxRecDepth 20000
namespace Go.Proofs.Ck
open Go Go.Sim Go.Proofs Go.Proofs.Ytgggnjjhfkijfaa
theorem names_con : Con Try.prog 3 [] [] (.b true) [] := closed_con (fuel := 100000000) (by kernel_rfl)
end Go.Proofs.Ck
