/- One call of the examples of the chapter, run. -/
import Derived.Test.YtbpdmnkbehapcaaAmE
set_option linter.all false
namespace Go.Proofs.Try
open Go Go.Am
set_option maxRecDepth 1000000
theorem run3 : runs Try.prog [] 1000 ent3 = true := by decide +kernel
theorem run4 : runs Try.prog [] 1000 ent4 = true := by decide +kernel
theorem run5 : runs Try.prog [] 1000 ent5 = true := by decide +kernel
end Go.Proofs.Try
