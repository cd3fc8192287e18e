/- One call of the examples of the chapter, run. -/
import Derived.Test.YtbpdmnkbehapcaaAmE
set_option linter.all false
namespace Go.Proofs.Try
open Go Go.Am
set_option maxRecDepth 1000000
theorem run18 : runs Try.prog [] 1000 ent18 = true := by decide +kernel
theorem run19 : runs Try.prog [] 1000 ent19 = true := by decide +kernel
theorem run20 : runs Try.prog [] 1000 ent20 = true := by decide +kernel
end Go.Proofs.Try
