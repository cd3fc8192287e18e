/- The examples of the chapter come out right in every world. -/
import Derived.Test.YtcoplbaopaigcaaGreatAmR0
import Derived.Test.YtcoplbaopaigcaaGreatAmR1
import Derived.Test.YtcoplbaopaigcaaGreatAmR2
import Derived.Test.YtcoplbaopaigcaaGreatAmR3
import Derived.Test.YtcoplbaopaigcaaGreatAmR4
import Derived.Test.YtcoplbaopaigcaaGreatAmR5
import Derived.Test.YtcoplbaopaigcaaGreatAmR6
import Derived.Test.YtcoplbaopaigcaaGreatAmR7
import Derived.Test.YtcoplbaopaigcaaGreatAmR8
import Derived.Test.YtcoplbaopaigcaaGreatAmR9
import Derived.Test.YtcoplbaopaigcaaGreatAmR10
import Derived.Test.YtcoplbaopaigcaaGreatAmR11
import Derived.Test.YtcoplbaopaigcaaGreatAmR12
set_option linter.all false
namespace Go.Proofs.Tryz
open Go Go.Am Go.RowKit
set_option maxRecDepth 1000000
theorem mixed : Tryz.prog.follows .mixedOrders = true := by decide +kernel

def tbl : List Entry := [ent0, ent1, ent2, ent3, ent4, ent5, ent6, ent7, ent8, ent9, ent10, ent11, ent12]

theorem tbl_ok : ∀ e, e ∈ tbl → EntryOK Tryz.prog e := by
  have go : ∀ {e : Entry}, runs Tryz.prog [] 400 e = true → EntryOK Tryz.prog e := fun h => entry_ok mixed (fun _ h => by cases h) h
  intro e he
  simp only [tbl, List.mem_cons, List.not_mem_nil, or_false] at he
  rcases he with rfl | rfl | rfl | rfl | rfl | rfl | rfl | rfl | rfl | rfl | rfl | rfl | rfl
  · exact go run0
  · exact go run1
  · exact go run2
  · exact go run3
  · exact go run4
  · exact go run5
  · exact go run6
  · exact go run7
  · exact go run8
  · exact go run9
  · exact go run10
  · exact go run11
  · exact go run12

theorem sanity_gives : givesT Tryz.prog tbl 400 16 [] (.bool true) = true := by decide +kernel

/-- The chapter's examples come out right, in every world and by every tape. -/
theorem sanity_calls (w : World) : Calls Tryz.prog 16 #[] w fun e w' => e = .returned (.bool true) ∧ Below w.heap.size w w' :=
  calls_of_table mixed tbl_ok rfl sanity_gives w
end Go.Proofs.Tryz
