/- One call of the examples of the chapter, run. -/
import Derived.Test.YtbpdmnkbehapcaaGreatAmE
set_option linter.all false
namespace Go.Proofs.Tryz
open Go Go.Am
set_option maxRecDepth 1000000
theorem run21 : runs Tryz.prog [] 1000 ent21 = true := by decide +kernel
theorem run22 : runs Tryz.prog [] 1000 ent22 = true := by decide +kernel
theorem run23 : runs Tryz.prog [] 1000 ent23 = true := by decide +kernel
end Go.Proofs.Tryz
