/- One call of the examples of the chapter, run. -/
import Derived.Test.YtbpdmnkbehapcaaAmE
set_option linter.all false
namespace Go.Proofs.Try
open Go Go.Am
set_option maxRecDepth 1000000
theorem run15 : runs Try.prog [] 1000 ent15 = true := by decide +kernel
theorem run16 : runs Try.prog [] 1000 ent16 = true := by decide +kernel
theorem run17 : runs Try.prog [] 1000 ent17 = true := by decide +kernel
end Go.Proofs.Try
