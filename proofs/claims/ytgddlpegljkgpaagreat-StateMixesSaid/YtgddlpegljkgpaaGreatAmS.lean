/- The examples of the chapter come out right in every world. -/
import Derived.Test.YtgddlpegljkgpaaGreatAmR0
import Derived.Test.YtgddlpegljkgpaaGreatAmR1
import Derived.Test.YtgddlpegljkgpaaGreatAmR2
import Derived.Test.YtgddlpegljkgpaaGreatAmR3
import Derived.Test.YtgddlpegljkgpaaGreatAmR4
import Derived.Test.YtgddlpegljkgpaaGreatAmR5
import Derived.Test.YtgddlpegljkgpaaGreatAmR6
import Derived.Test.YtgddlpegljkgpaaGreatAmR7
import Derived.Test.YtgddlpegljkgpaaGreatAmR8
import Derived.Test.YtgddlpegljkgpaaGreatAmR9
import Derived.Test.YtgddlpegljkgpaaGreatAmR10
import Derived.Test.YtgddlpegljkgpaaGreatAmR11
import Derived.Test.YtgddlpegljkgpaaGreatAmR12
import Derived.Test.YtgddlpegljkgpaaGreatAmR13
import Derived.Test.YtgddlpegljkgpaaGreatAmR14
import Derived.Test.YtgddlpegljkgpaaGreatAmR15
set_option linter.all false
namespace Go.Proofs.Tryz
open Go Go.Am Go.RowKit
set_option maxRecDepth 1000000
theorem mixed : Tryz.prog.follows .mixedOrders = true := by decide +kernel

def tbl : List Entry := [ent0, ent1, ent2, ent3, ent4, ent5, ent6, ent7, ent8, ent9, ent10, ent11, ent12, ent13, ent14, ent15]

theorem tbl_ok : ∀ e, e ∈ tbl → EntryOK Tryz.prog e := by
  have go : ∀ {e : Entry}, runs Tryz.prog [] 1000 e = true → EntryOK Tryz.prog e := fun h => entry_ok mixed (fun _ h => by cases h) h
  intro e he
  simp only [tbl, List.mem_cons, List.not_mem_nil, or_false] at he
  rcases he with rfl | rfl | rfl | rfl | rfl | rfl | rfl | rfl | rfl | rfl | rfl | rfl | rfl | rfl | rfl | rfl
  · exact go run0
  · exact go run1
  · exact go run2
  · exact go run3
  · exact go run4
  · exact go run5
  · exact go run6
  · exact go run7
  · exact go run8
  · exact go run9
  · exact go run10
  · exact go run11
  · exact go run12
  · exact go run13
  · exact go run14
  · exact go run15

theorem sanity_gives : givesT Tryz.prog tbl 1000 8 [] (.bool true) = true := by decide +kernel

theorem sanity_calls (w : World) : Calls Tryz.prog 8 #[] w fun e w' => e = .returned (.bool true) ∧ Below w.heap.size w w' :=
  calls_of_table mixed tbl_ok rfl sanity_gives w
end Go.Proofs.Tryz
