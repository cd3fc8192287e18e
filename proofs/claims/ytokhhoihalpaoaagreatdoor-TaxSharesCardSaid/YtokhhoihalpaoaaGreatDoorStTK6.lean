/- TaxShares: for at most 90 amounts, at most 20 parts, and a turn, Share and Shares return what the specification returns (a card: the tables of the library are tied to the text of the pruned copy of the project); no conditions beside the card's own. -/
import Derived.Test.YtokhhoihalpaoaaGreatDoorCards
import Derived.Test.YtokhhoihalpaoaaGreatDoorTie
import Derived.SevenTiedAt
import Derived.Test.YtokhhoihalpaoaaGreatDoorStTO6
set_option linter.all false
namespace Go.Proofs.YtokhhoihalpaoaaGreatDoor
open Go Go.RowKit
theorem taxShares_card : Rows.TaxSharesCardSaid :=
  Claim7.holds_tied_plain_at .later [] [.data, .data, .data] true (true, "72d80bd608fa3eb4004e9a03bba5c1fdf4148c13d6b0fc9704dfd99d28fc4c39") false
    over (fun _ h => by cases h) (by kernel_rfl) (fun _ h => by cases h) taxShares_row_tie rfl ⟨rfl, rfl⟩ (by kernel_rfl) rfl
    (fun f fn hf hfn => by
      obtain rfl : f = 6 := Option.some.inj ((show Tryz.prog.funcNamed Rows.taxSharesRow.func = some 6 by kernel_rfl).symm.trans hf) |>.symm
      obtain rfl : fn = Tryz.f6 := (Option.some.inj (Tryz.func6.symm.trans hfn)).symm
      exact ⟨by kernel_rfl, fun j t ht => by
        rw [Tryz.params6] at ht
        rcases j with _ | _ | _ | _ | j
        · obtain rfl : t = 3 := by simpa using ht.symm
          exact (show Tryz.prog.wantsStandIn 3 = false by kernel_rfl)
        · obtain rfl : t = 23 := by simpa using ht.symm
          exact (show Tryz.prog.wantsStandIn 23 = false by kernel_rfl)
        · obtain rfl : t = 23 := by simpa using ht.symm
          exact (show Tryz.prog.wantsStandIn 23 = false by kernel_rfl)
        · obtain rfl : t = 3 := by simpa using ht.symm
          exact (show Tryz.prog.wantsStandIn 3 = false by kernel_rfl)
        · simp at ht⟩)
    (by kernel_rfl)
end Go.Proofs.YtokhhoihalpaoaaGreatDoor
