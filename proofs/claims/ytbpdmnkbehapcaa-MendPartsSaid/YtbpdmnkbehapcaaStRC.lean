/- Contracts of functions, walked. -/
import Derived.Test.YtbpdmnkbehapcaaStRB
set_option linter.all false
namespace Go.Proofs.Try
open Go Go.Am Go.RowKit
set_option maxRecDepth 100000


end Go.Proofs.Try
