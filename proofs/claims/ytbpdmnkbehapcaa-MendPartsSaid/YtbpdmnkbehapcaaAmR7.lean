/- One call of the examples of the chapter, run. -/
import Derived.Test.YtbpdmnkbehapcaaAmE
set_option linter.all false
namespace Go.Proofs.Try
open Go Go.Am
set_option maxRecDepth 1000000
theorem run21 : runs Try.prog [] 1000 ent21 = true := by decide +kernel
theorem run22 : runs Try.prog [] 1000 ent22 = true := by decide +kernel
theorem run23 : runs Try.prog [] 1000 ent23 = true := by decide +kernel
end Go.Proofs.Try
