/- PieceQuireBook: for every quires and number: NumberOf of LeafOf is the number, the partner of a leaf's partner is the leaf, and there are as many leaves as all quires have without those that are gone. No condition but the card's own: three tables of the library lie as the text lays them. -/
import Derived.Test.YtcoplbaopaigcaaGreatDoorCards
import Derived.Test.YtcoplbaopaigcaaGreatDoorTie
import Derived.SevenTiedAt
import Derived.Test.YtcoplbaopaigcaaGreatDoorDqK
import Derived.Test.YtcoplbaopaigcaaGreatDoorAmS
set_option linter.all false
namespace Go.Proofs.YtcoplbaopaigcaaGreatDoor
open Go Go.RowKit
theorem quireBook_card (hsan : ∀ w : World, Calls Tryz.prog 7 #[] w fun e w' => e = .returned (.bool true) ∧ Below w.heap.size w w') : Rows.PieceQuireBookCardSaid :=
  Claim7.holds_tied_plain_at .later [] [.data, .data, .data] true (true, "763c24f3b250000819bd2a6606763591825d6a11d90b109742f2d117cfd9c9a6") true
    (quireBook_of hsan) (fun _ h => by cases h) (by kernel_rfl) (fun _ h => by cases h) pieceQuireBook_row_tie rfl ⟨rfl, rfl⟩ (by kernel_rfl) rfl
    (fun f fn hf hfn => by
      obtain rfl : f = 5 := Option.some.inj ((show Tryz.prog.funcNamed Rows.pieceQuireBookRow.func = some 5 by kernel_rfl).symm.trans hf) |>.symm
      obtain rfl : fn = Tryz.f5 := (Option.some.inj (Tryz.func5.symm.trans hfn)).symm
      exact ⟨by kernel_rfl, fun j t ht => by
        rw [Tryz.params5] at ht
        rcases j with _ | _ | j
        · obtain rfl : t = 22 := by simpa using ht.symm
          exact (show Tryz.prog.wantsStandIn 22 = false by kernel_rfl)
        · obtain rfl : t = 3 := by simpa using ht.symm
          exact (show Tryz.prog.wantsStandIn 3 = false by kernel_rfl)
        · simp at ht⟩)
    (by kernel_rfl)
end Go.Proofs.YtcoplbaopaigcaaGreatDoor
namespace Go.Proofs.YtcoplbaopaigcaaGreatDoor
theorem quireBook : Rows.PieceQuireBookCardSaid := quireBook_card Go.Proofs.Tryz.sanity_calls
#print axioms quireBook
end Go.Proofs.YtcoplbaopaigcaaGreatDoor
