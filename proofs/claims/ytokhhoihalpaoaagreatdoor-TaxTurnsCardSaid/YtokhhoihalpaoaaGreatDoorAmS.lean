/- The examples of the chapter come out right in every world. -/
import Derived.Test.YtokhhoihalpaoaaGreatDoorAmR0
import Derived.Test.YtokhhoihalpaoaaGreatDoorAmR1
import Derived.Test.YtokhhoihalpaoaaGreatDoorAmR2
import Derived.Test.YtokhhoihalpaoaaGreatDoorAmR3
import Derived.Test.YtokhhoihalpaoaaGreatDoorAmR4
import Derived.Test.YtokhhoihalpaoaaGreatDoorAmR5
import Derived.Test.YtokhhoihalpaoaaGreatDoorAmR6
import Derived.Test.YtokhhoihalpaoaaGreatDoorAmR7
import Derived.Test.YtokhhoihalpaoaaGreatDoorAmR8
import Derived.Test.YtokhhoihalpaoaaGreatDoorAmR9
import Derived.Test.YtokhhoihalpaoaaGreatDoorAmR10
import Derived.Test.YtokhhoihalpaoaaGreatDoorAmR11
import Derived.Test.YtokhhoihalpaoaaGreatDoorAmR12
import Derived.Test.YtokhhoihalpaoaaGreatDoorAmR13
import Derived.Test.YtokhhoihalpaoaaGreatDoorAmR14
import Derived.Test.YtokhhoihalpaoaaGreatDoorAmR15
import Derived.Test.YtokhhoihalpaoaaGreatDoorAmR16
import Derived.Test.YtokhhoihalpaoaaGreatDoorAmR17
import Derived.Test.YtokhhoihalpaoaaGreatDoorAmR18
import Derived.Test.YtokhhoihalpaoaaGreatDoorAmR19
import Derived.Test.YtokhhoihalpaoaaGreatDoorStT0
set_option linter.all false
namespace Go.Proofs.Tryz
open Go Go.Am Go.RowKit
set_option maxRecDepth 1000000
theorem mixedA : Tryz.prog.follows .mixedOrders = true := by decide +kernel

def tbl : List Entry := [ent0, ent1, ent2, ent3, ent4, ent5, ent6, ent7, ent8, ent9, ent10, ent11, ent12, ent13, ent14, ent15, ent16, ent17, ent18, ent19]

theorem tbl_ok : ∀ e, e ∈ tbl → EntryOK Tryz.prog e := by
  have go : ∀ {e : Entry}, runs Tryz.prog [] 1000 e = true → EntryOK Tryz.prog e := fun h => entry_ok mixedA (fun _ h => by cases h) h pure_ok
  intro e he
  simp only [tbl, List.mem_cons, List.not_mem_nil, or_false] at he
  rcases he with rfl | rfl | rfl | rfl | rfl | rfl | rfl | rfl | rfl | rfl | rfl | rfl | rfl | rfl | rfl | rfl | rfl | rfl | rfl | rfl
  · exact go run0
  · exact go run1
  · exact go run2
  · exact go run3
  · exact go run4
  · exact go run5
  · exact go run6
  · exact go run7
  · exact go run8
  · exact go run9
  · exact go run10
  · exact go run11
  · exact go run12
  · exact go run13
  · exact go run14
  · exact go run15
  · exact go run16
  · exact go run17
  · exact go run18
  · exact go run19

theorem sanity_gives : givesT Tryz.prog tbl 1000 19 [] (.bool true) = true := by decide +kernel

theorem sanity_calls (w : World) (hL : Laid w.heap.size w) : Calls Tryz.prog 19 #[] w fun e w' => e = .returned (.bool true) ∧ Below w.heap.size w w' :=
  calls_of_table mixedA tbl_ok rfl sanity_gives w hL pure_ok
end Go.Proofs.Tryz
