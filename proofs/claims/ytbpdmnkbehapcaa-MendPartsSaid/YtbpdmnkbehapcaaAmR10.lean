/- One call of the examples of the chapter, run. -/
import Derived.Test.YtbpdmnkbehapcaaAmE
set_option linter.all false
namespace Go.Proofs.Try
open Go Go.Am
set_option maxRecDepth 1000000
theorem run30 : runs Try.prog [] 1000 ent30 = true := by decide +kernel
theorem run31 : runs Try.prog [] 1000 ent31 = true := by decide +kernel
end Go.Proofs.Try
