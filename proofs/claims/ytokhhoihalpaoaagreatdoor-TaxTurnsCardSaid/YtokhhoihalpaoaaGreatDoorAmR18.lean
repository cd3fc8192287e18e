/- One call of the examples of the chapter, run. -/
import Derived.Test.YtokhhoihalpaoaaGreatDoorAmE
set_option linter.all false
namespace Go.Proofs.Tryz
open Go Go.Am
set_option maxRecDepth 1000000
theorem run18 : runs Tryz.prog [] 1000 ent18 = true := by decide +kernel
end Go.Proofs.Tryz
