/- One call of the examples of the chapter, run. -/
import Derived.Test.YtbpdmnkbehapcaaAmE
set_option linter.all false
namespace Go.Proofs.Try
open Go Go.Am
set_option maxRecDepth 1000000
theorem run12 : runs Try.prog [] 1000 ent12 = true := by decide +kernel
theorem run13 : runs Try.prog [] 1000 ent13 = true := by decide +kernel
theorem run14 : runs Try.prog [] 1000 ent14 = true := by decide +kernel
end Go.Proofs.Try
