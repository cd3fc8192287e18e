/- The examples of the chapter come out right in every world. -/
import Derived.Test.YtbpdmnkbehapcaaAmR0
import Derived.Test.YtbpdmnkbehapcaaAmR1
import Derived.Test.YtbpdmnkbehapcaaAmR2
import Derived.Test.YtbpdmnkbehapcaaAmR3
import Derived.Test.YtbpdmnkbehapcaaAmR4
import Derived.Test.YtbpdmnkbehapcaaAmR5
import Derived.Test.YtbpdmnkbehapcaaAmR6
import Derived.Test.YtbpdmnkbehapcaaAmR7
import Derived.Test.YtbpdmnkbehapcaaAmR8
import Derived.Test.YtbpdmnkbehapcaaAmR9
import Derived.Test.YtbpdmnkbehapcaaAmR10
import Derived.Test.YtbpdmnkbehapcaaAmR11
import Derived.Test.YtbpdmnkbehapcaaAmR12
import Derived.Test.YtbpdmnkbehapcaaAmR13
import Derived.Test.YtbpdmnkbehapcaaAmR14
import Derived.Test.YtbpdmnkbehapcaaAmR15
import Derived.Test.YtbpdmnkbehapcaaAmR16
import Derived.Test.YtbpdmnkbehapcaaAmR17
import Derived.Test.YtbpdmnkbehapcaaAmR18
import Derived.Test.YtbpdmnkbehapcaaAmR19
import Derived.Test.YtbpdmnkbehapcaaAmR20
import Derived.Test.YtbpdmnkbehapcaaAmR21
import Derived.Test.YtbpdmnkbehapcaaAmR22
import Derived.Test.YtbpdmnkbehapcaaAmR23
import Derived.Test.YtbpdmnkbehapcaaAmR24
import Derived.Test.YtbpdmnkbehapcaaAmR25
import Derived.Test.YtbpdmnkbehapcaaAmR26
import Derived.Test.YtbpdmnkbehapcaaAmR27
set_option linter.all false
namespace Go.Proofs.Try
open Go Go.Am Go.RowKit
set_option maxRecDepth 1000000
theorem mixed : Try.prog.follows .mixedOrders = true := by decide +kernel

theorem tbi_ok : ∀ e, e ∈ tbi → EntryOK Try.prog e := by
  have go : ∀ {e : Entry}, runs Try.prog [] 1000 e = true → EntryOK Try.prog e := fun h => entry_ok mixed (fun _ h => by cases h) h
  intro e he
  simp only [tbi, List.mem_cons, List.not_mem_nil, or_false] at he
  rcases he with rfl | rfl | rfl | rfl | rfl | rfl | rfl | rfl | rfl | rfl | rfl | rfl | rfl | rfl | rfl | rfl | rfl | rfl | rfl | rfl | rfl | rfl | rfl | rfl | rfl | rfl | rfl | rfl | rfl | rfl | rfl | rfl
  · exact go run0
  · exact go run1
  · exact go run2
  · exact go run3
  · exact go run4
  · exact go run5
  · exact go run6
  · exact go run7
  · exact go run8
  · exact go run9
  · exact go run10
  · exact go run11
  · exact go run12
  · exact go run13
  · exact go run14
  · exact go run15
  · exact go run16
  · exact go run17
  · exact go run18
  · exact go run19
  · exact go run20
  · exact go run21
  · exact go run22
  · exact go run23
  · exact go run24
  · exact go run25
  · exact go run26
  · exact go run27
  · exact go run28
  · exact go run29
  · exact go run30
  · exact go run31

def tbl : List Entry := [ent32, ent33, ent34, ent35, ent36, ent37, ent38, ent39, ent40, ent41, ent42, ent43, ent44, ent45, ent46, ent47, ent48]

theorem tbl_ok : ∀ e, e ∈ tbl → EntryOK Try.prog e := by
  have go : ∀ {e : Entry}, runs Try.prog tbi 1000 e = true → EntryOK Try.prog e := fun h => entry_ok mixed (tbi_ok) h
  intro e he
  simp only [tbl, List.mem_cons, List.not_mem_nil, or_false] at he
  rcases he with rfl | rfl | rfl | rfl | rfl | rfl | rfl | rfl | rfl | rfl | rfl | rfl | rfl | rfl | rfl | rfl | rfl
  · exact go run32
  · exact go run33
  · exact go run34
  · exact go run35
  · exact go run36
  · exact go run37
  · exact go run38
  · exact go run39
  · exact go run40
  · exact go run41
  · exact go run42
  · exact go run43
  · exact go run44
  · exact go run45
  · exact go run46
  · exact go run47
  · exact go run48

theorem sanity_gives : givesT Try.prog tbl 1000 11 [] (.bool true) = true := by decide +kernel

theorem sanity_calls (w : World) : Calls Try.prog 11 #[] w fun e w' => e = .returned (.bool true) ∧ Below w.heap.size w w' :=
  calls_of_table mixed tbl_ok rfl sanity_gives w
end Go.Proofs.Try
