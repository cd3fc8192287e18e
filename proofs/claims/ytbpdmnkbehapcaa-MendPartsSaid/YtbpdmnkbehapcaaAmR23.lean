/- One call of the examples of the chapter, run. -/
import Derived.Test.YtbpdmnkbehapcaaAmE
set_option linter.all false
namespace Go.Proofs.Try
open Go Go.Am
set_option maxRecDepth 1000000
theorem run44 : runs Try.prog tbi 1000 ent44 = true := by decide +kernel
end Go.Proofs.Try
