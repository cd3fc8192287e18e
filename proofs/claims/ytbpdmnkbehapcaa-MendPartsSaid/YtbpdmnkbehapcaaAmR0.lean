/- One call of the examples of the chapter, run. -/
import Derived.Test.YtbpdmnkbehapcaaAmE
set_option linter.all false
namespace Go.Proofs.Try
open Go Go.Am
set_option maxRecDepth 1000000
theorem run0 : runs Try.prog [] 1000 ent0 = true := by decide +kernel
theorem run1 : runs Try.prog [] 1000 ent1 = true := by decide +kernel
theorem run2 : runs Try.prog [] 1000 ent2 = true := by decide +kernel
end Go.Proofs.Try
