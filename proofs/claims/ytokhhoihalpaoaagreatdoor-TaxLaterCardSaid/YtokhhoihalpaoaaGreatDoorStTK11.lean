/- TaxLater: for all right terms, and what a hire is, and another one with no lesser price, pledge, weeks and days late, no part of the charge is less, the fine is at most Most, and none for what is free (a card: the tables of the library are tied to the text of the pruned copy of the project); no conditions beside the card's own. -/
import Derived.Test.YtokhhoihalpaoaaGreatDoorCards
import Derived.Test.YtokhhoihalpaoaaGreatDoorTie
import Derived.SevenTiedAt
import Derived.Test.YtokhhoihalpaoaaGreatDoorStTO11
set_option linter.all false
namespace Go.Proofs.YtokhhoihalpaoaaGreatDoor
open Go Go.RowKit
theorem taxLater_card : Rows.TaxLaterCardSaid :=
  Claim7.holds_tied_plain_at .later [] [.data, .data, .data] true (true, "72d80bd608fa3eb4004e9a03bba5c1fdf4148c13d6b0fc9704dfd99d28fc4c39") false
    over (fun _ h => by cases h) (by kernel_rfl) (fun _ h => by cases h) taxLater_row_tie rfl ⟨rfl, rfl⟩ (by kernel_rfl) rfl
    (fun f fn hf hfn => by
      obtain rfl : f = 11 := Option.some.inj ((show Tryz.prog.funcNamed Rows.taxLaterRow.func = some 11 by kernel_rfl).symm.trans hf) |>.symm
      obtain rfl : fn = Tryz.f11 := (Option.some.inj (Tryz.func11.symm.trans hfn)).symm
      exact ⟨by kernel_rfl, fun j t ht => by
        rw [Tryz.params11] at ht
        rcases j with _ | _ | _ | _ | _ | _ | j
        · obtain rfl : t = 62 := by simpa using ht.symm
          exact (show Tryz.prog.wantsStandIn 62 = false by kernel_rfl)
        · obtain rfl : t = 106 := by simpa using ht.symm
          exact (show Tryz.prog.wantsStandIn 106 = false by kernel_rfl)
        · obtain rfl : t = 106 := by simpa using ht.symm
          exact (show Tryz.prog.wantsStandIn 106 = false by kernel_rfl)
        · obtain rfl : t = 5 := by simpa using ht.symm
          exact (show Tryz.prog.wantsStandIn 5 = false by kernel_rfl)
        · obtain rfl : t = 106 := by simpa using ht.symm
          exact (show Tryz.prog.wantsStandIn 106 = false by kernel_rfl)
        · obtain rfl : t = 106 := by simpa using ht.symm
          exact (show Tryz.prog.wantsStandIn 106 = false by kernel_rfl)
        · simp at ht⟩)
    (by kernel_rfl)
end Go.Proofs.YtokhhoihalpaoaaGreatDoor
