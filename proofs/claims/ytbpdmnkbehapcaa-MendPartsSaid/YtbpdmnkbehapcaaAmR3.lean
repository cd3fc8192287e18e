/- One call of the examples of the chapter, run. -/
import Derived.Test.YtbpdmnkbehapcaaAmE
set_option linter.all false
namespace Go.Proofs.Try
open Go Go.Am
set_option maxRecDepth 1000000
theorem run9 : runs Try.prog [] 1000 ent9 = true := by decide +kernel
theorem run10 : runs Try.prog [] 1000 ent10 = true := by decide +kernel
theorem run11 : runs Try.prog [] 1000 ent11 = true := by decide +kernel
end Go.Proofs.Try
