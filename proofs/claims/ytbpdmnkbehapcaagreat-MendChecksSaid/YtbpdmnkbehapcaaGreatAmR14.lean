/- One call of the examples of the chapter, run. -/
import Derived.Test.YtbpdmnkbehapcaaGreatAmE
set_option linter.all false
namespace Go.Proofs.Tryz
open Go Go.Am
set_option maxRecDepth 1000000
theorem run35 : runs Tryz.prog tbi 1000 ent35 = true := by decide +kernel
end Go.Proofs.Tryz
