/- One call of the examples of the chapter, run. -/
import Derived.Test.YtbpdmnkbehapcaaAmE
set_option linter.all false
namespace Go.Proofs.Try
open Go Go.Am
set_option maxRecDepth 1000000
theorem run24 : runs Try.prog [] 1000 ent24 = true := by decide +kernel
theorem run25 : runs Try.prog [] 1000 ent25 = true := by decide +kernel
theorem run26 : runs Try.prog [] 1000 ent26 = true := by decide +kernel
end Go.Proofs.Try
