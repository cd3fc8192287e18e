/- the law of turns -/
import Derived.Test.YtokhhoihalpaoaaGreatDoorCards
import Derived.Test.YtokhhoihalpaoaaGreatDoorTie
import Derived.SevenTiedAt
import Derived.Test.YtokhhoihalpaoaaGreatDoorStTO13
set_option linter.all false
namespace Go.Proofs.YtokhhoihalpaoaaGreatDoor
open Go Go.RowKit
theorem taxTurns_card : Rows.TaxTurnsCardSaid :=
  Claim7.holds_tied_plain_at .later [] [.data, .data, .data] true (true, "72d80bd608fa3eb4004e9a03bba5c1fdf4148c13d6b0fc9704dfd99d28fc4c39") false
    over (fun _ h => by cases h) (by kernel_rfl) (fun _ h => by cases h) taxTurns_row_tie rfl ⟨rfl, rfl⟩ (by kernel_rfl) rfl
    (fun f fn hf hfn => by
      obtain rfl : f = 13 := Option.some.inj ((show Tryz.prog.funcNamed Rows.taxTurnsRow.func = some 13 by kernel_rfl).symm.trans hf) |>.symm
      obtain rfl : fn = Tryz.f13 := (Option.some.inj (Tryz.func13.symm.trans hfn)).symm
      exact ⟨by kernel_rfl, fun j t ht => by
        rw [Tryz.params13] at ht
        rcases j with _ | _ | _ | _ | j
        · obtain rfl : t = 111 := by simpa using ht.symm
          exact (show Tryz.prog.wantsStandIn 111 = false by kernel_rfl)
        · obtain rfl : t = 5 := by simpa using ht.symm
          exact (show Tryz.prog.wantsStandIn 5 = false by kernel_rfl)
        · obtain rfl : t = 5 := by simpa using ht.symm
          exact (show Tryz.prog.wantsStandIn 5 = false by kernel_rfl)
        · obtain rfl : t = 5 := by simpa using ht.symm
          exact (show Tryz.prog.wantsStandIn 5 = false by kernel_rfl)
        · simp at ht⟩)
    (by kernel_rfl)
end Go.Proofs.YtokhhoihalpaoaaGreatDoor
