/- One call of the examples of the chapter, run. -/
import Derived.Test.YtbpdmnkbehapcaaAmE
set_option linter.all false
namespace Go.Proofs.Try
open Go Go.Am
set_option maxRecDepth 1000000
theorem run27 : runs Try.prog [] 1000 ent27 = true := by decide +kernel
theorem run28 : runs Try.prog [] 1000 ent28 = true := by decide +kernel
theorem run29 : runs Try.prog [] 1000 ent29 = true := by decide +kernel
end Go.Proofs.Try
