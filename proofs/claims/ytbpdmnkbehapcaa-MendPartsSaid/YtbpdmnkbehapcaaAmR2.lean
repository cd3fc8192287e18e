/- One call of the examples of the chapter, run. -/
import Derived.Test.YtbpdmnkbehapcaaAmE
set_option linter.all false
namespace Go.Proofs.Try
open Go Go.Am
set_option maxRecDepth 1000000
theorem run6 : runs Try.prog [] 1000 ent6 = true := by decide +kernel
theorem run7 : runs Try.prog [] 1000 ent7 = true := by decide +kernel
theorem run8 : runs Try.prog [] 1000 ent8 = true := by decide +kernel
end Go.Proofs.Try
