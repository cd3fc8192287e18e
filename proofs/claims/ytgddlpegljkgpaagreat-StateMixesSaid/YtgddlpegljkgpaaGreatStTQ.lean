/- Contracts of functions, walked. -/
import Derived.Test.YtgddlpegljkgpaaGreatStZL
import Derived.Test.YtgddlpegljkgpaaGreatStTA
import Derived.Test.YtgddlpegljkgpaaGreatAwB
import Derived.Test.YtgddlpegljkgpaaGreatStZR
import Derived.Test.YtgddlpegljkgpaaGreatAmS
set_option linter.all false
namespace Go.Proofs.Tryz
open Go Go.Am Go.RowKit Go.Co
set_option maxRecDepth 100000

end Go.Proofs.Tryz
namespace Go.Proofs.Tryz
open Go Go.Am Go.RowKit Go.Co
set_option maxRecDepth 100000
end Go.Proofs.Tryz
namespace Go.Proofs.Tryz
open Go Go.Am Go.RowKit Go.Co
set_option maxRecDepth 100000

end Go.Proofs.Tryz
namespace Go.Proofs.Tryz
open Go Go.Am Go.RowKit Go.Co
set_option maxRecDepth 100000

end Go.Proofs.Tryz
namespace Go.Proofs.Tryz
open Go Go.Am Go.RowKit Go.Co
set_option maxRecDepth 100000

end Go.Proofs.Tryz
namespace Go.Proofs.Tryz
open Go Go.Am Go.RowKit Go.Co
set_option maxRecDepth 100000

end Go.Proofs.Tryz
