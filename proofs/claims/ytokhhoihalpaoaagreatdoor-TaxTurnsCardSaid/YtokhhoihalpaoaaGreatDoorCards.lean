/-
  DERIVED. GIVEN WITH THE SEED: THE CARDS: each row of YtokhhoihalpaoaaGreatDoorRows.lean that lists a variable, with what it lists TIED to the program's text (the seventh form; the later family's looks); each row that meets fmt, with fmt's text TOLD by the authors' own Lean function (tested against real Go, not proved from fmt's source: count such statements apart). THE CARD IS WHAT COUNTS. Prove the row's statement (the work); the ties are given (YtokhhoihalpaoaaGreatDoorTie.lean); close each card by the builder's one call (the guide's Derived/Test/ToyasCard.lean, 'card_holds'). Laid BY PROGRAM, IN A SANDBOX (cutbox-door.mjs). By AI agents, Wed Nov 11 2026. No macro, syntax, notation, axiom, sorry.
-/
import Derived.Test.YtokhhoihalpaoaaGreatDoorRows
import GoSem.ClaimSeven
namespace Go.Proofs.YtokhhoihalpaoaaGreatDoor
namespace Rows

/-- THE TIED CARD OF 'pecialaw07.TaxCoins'. -/
def taxCoinsCard : Claim7 := { stood := { row := taxCoinsRow, standIns := [], harness := (true, "72d80bd608fa3eb4004e9a03bba5c1fdf4148c13d6b0fc9704dfd99d28fc4c39"), looks := false }, kinds := [], alts := [], laidByText := true, laidKinds := [.data, .data, .data], laidTests := true, laidLooks := .later }
def TaxCoinsCardSaid : Prop := Claim7.holds Tryz.pinned (.plain (OpenSpec.ofChange taxCoinsSpec)) taxCoinsCard

/-- THE TIED CARD OF 'pecialaw07.TaxPrices'. -/
def taxPricesCard : Claim7 := { stood := { row := taxPricesRow, standIns := [], harness := (true, "72d80bd608fa3eb4004e9a03bba5c1fdf4148c13d6b0fc9704dfd99d28fc4c39"), looks := false }, kinds := [], alts := [], laidByText := true, laidKinds := [.data, .data, .data], laidTests := true, laidLooks := .later }
def TaxPricesCardSaid : Prop := Claim7.holds Tryz.pinned (.plain (OpenSpec.ofChange taxPricesSpec)) taxPricesCard

/-- THE TIED CARD OF 'pecialaw07.TaxBills'. -/
def taxBillsCard : Claim7 := { stood := { row := taxBillsRow, standIns := [], harness := (true, "72d80bd608fa3eb4004e9a03bba5c1fdf4148c13d6b0fc9704dfd99d28fc4c39"), looks := false }, kinds := [], alts := [], laidByText := true, laidKinds := [.data, .data, .data], laidTests := true, laidLooks := .later }
def TaxBillsCardSaid : Prop := Claim7.holds Tryz.pinned (.plain (OpenSpec.ofChange taxBillsSpec)) taxBillsCard

/-- THE TIED CARD OF 'pecialaw07.TaxShares'. -/
def taxSharesCard : Claim7 := { stood := { row := taxSharesRow, standIns := [], harness := (true, "72d80bd608fa3eb4004e9a03bba5c1fdf4148c13d6b0fc9704dfd99d28fc4c39"), looks := false }, kinds := [], alts := [], laidByText := true, laidKinds := [.data, .data, .data], laidTests := true, laidLooks := .later }
def TaxSharesCardSaid : Prop := Claim7.holds Tryz.pinned (.plain (OpenSpec.ofChange taxSharesSpec)) taxSharesCard

/-- THE TIED CARD OF 'pecialaw07.TaxPosts'. -/
def taxPostsCard : Claim7 := { stood := { row := taxPostsRow, standIns := [], harness := (true, "72d80bd608fa3eb4004e9a03bba5c1fdf4148c13d6b0fc9704dfd99d28fc4c39"), looks := false }, kinds := [], alts := [], laidByText := true, laidKinds := [.data, .data, .data], laidTests := true, laidLooks := .later }
def TaxPostsCardSaid : Prop := Claim7.holds Tryz.pinned (.plain (OpenSpec.ofChange taxPostsSpec)) taxPostsCard

/-- THE TIED CARD OF 'pecialaw07.TaxSettles'. -/
def taxSettlesCard : Claim7 := { stood := { row := taxSettlesRow, standIns := [], harness := (true, "72d80bd608fa3eb4004e9a03bba5c1fdf4148c13d6b0fc9704dfd99d28fc4c39"), looks := false }, kinds := [], alts := [], laidByText := true, laidKinds := [.data, .data, .data], laidTests := true, laidLooks := .later }
def TaxSettlesCardSaid : Prop := Claim7.holds Tryz.pinned (.plain (OpenSpec.ofChange taxSettlesSpec)) taxSettlesCard

/-- THE TIED CARD OF 'pecialaw07.TaxCounts'. -/
def taxCountsCard : Claim7 := { stood := { row := taxCountsRow, standIns := [], harness := (true, "72d80bd608fa3eb4004e9a03bba5c1fdf4148c13d6b0fc9704dfd99d28fc4c39"), looks := false }, kinds := [], alts := [], laidByText := true, laidKinds := [.data, .data, .data], laidTests := true, laidLooks := .later }
def TaxCountsCardSaid : Prop := Claim7.holds Tryz.pinned (.plain (OpenSpec.ofChange taxCountsSpec)) taxCountsCard

/-- THE TIED CARD OF 'pecialaw07.TaxYears'. -/
def taxYearsCard : Claim7 := { stood := { row := taxYearsRow, standIns := [], harness := (true, "72d80bd608fa3eb4004e9a03bba5c1fdf4148c13d6b0fc9704dfd99d28fc4c39"), looks := false }, kinds := [], alts := [], laidByText := true, laidKinds := [.data, .data, .data], laidTests := true, laidLooks := .later }
def TaxYearsCardSaid : Prop := Claim7.holds Tryz.pinned (.plain (OpenSpec.ofChange taxYearsSpec)) taxYearsCard

/-- THE TIED CARD OF 'pecialaw07.TaxLater'. -/
def taxLaterCard : Claim7 := { stood := { row := taxLaterRow, standIns := [], harness := (true, "72d80bd608fa3eb4004e9a03bba5c1fdf4148c13d6b0fc9704dfd99d28fc4c39"), looks := false }, kinds := [], alts := [], laidByText := true, laidKinds := [.data, .data, .data], laidTests := true, laidLooks := .later }
def TaxLaterCardSaid : Prop := Claim7.holds Tryz.pinned (.plain (OpenSpec.ofChange taxLaterSpec)) taxLaterCard

/-- THE TIED CARD OF 'pecialaw07.TaxEveryCoin'. -/
def taxEveryCoinCard : Claim7 := { stood := { row := taxEveryCoinRow, standIns := [], harness := (true, "72d80bd608fa3eb4004e9a03bba5c1fdf4148c13d6b0fc9704dfd99d28fc4c39"), looks := false }, kinds := [], alts := [], laidByText := true, laidKinds := [.data, .data, .data], laidTests := true, laidLooks := .later }
def TaxEveryCoinCardSaid : Prop := Claim7.holds Tryz.pinned (.plain (OpenSpec.ofChange taxEveryCoinSpec)) taxEveryCoinCard

/-- THE TIED CARD OF 'pecialaw07.TaxTurns'. -/
def taxTurnsCard : Claim7 := { stood := { row := taxTurnsRow, standIns := [], harness := (true, "72d80bd608fa3eb4004e9a03bba5c1fdf4148c13d6b0fc9704dfd99d28fc4c39"), looks := false }, kinds := [], alts := [], laidByText := true, laidKinds := [.data, .data, .data], laidTests := true, laidLooks := .later }
def TaxTurnsCardSaid : Prop := Claim7.holds Tryz.pinned (.plain (OpenSpec.ofChange taxTurnsSpec)) taxTurnsCard

/-- THE TIED CARD OF 'pecialaw07.TaxLedgers'. -/
def taxLedgersCard : Claim7 := { stood := { row := taxLedgersRow, standIns := [], harness := (true, "72d80bd608fa3eb4004e9a03bba5c1fdf4148c13d6b0fc9704dfd99d28fc4c39"), looks := false }, kinds := [], alts := [], laidByText := true, laidKinds := [.data, .data, .data], laidTests := true, laidLooks := .later }
def TaxLedgersCardSaid : Prop := Claim7.holds Tryz.pinned (.plain (OpenSpec.ofChange taxLedgersSpec)) taxLedgersCard

/-- THE TIED CARD OF 'pecialaw07.TaxFewest'. -/
def taxFewestCard : Claim7 := { stood := { row := taxFewestRow, standIns := [], harness := (true, "72d80bd608fa3eb4004e9a03bba5c1fdf4148c13d6b0fc9704dfd99d28fc4c39"), looks := false }, kinds := [], alts := [], laidByText := true, laidKinds := [.data, .data, .data], laidTests := true, laidLooks := .later }
def TaxFewestCardSaid : Prop := Claim7.holds Tryz.pinned (.plain (OpenSpec.ofChange taxFewestSpec)) taxFewestCard

/-- THE TIED CARD OF 'pecialaw07.TaxSettled'. -/
def taxSettledCard : Claim7 := { stood := { row := taxSettledRow, standIns := [], harness := (true, "72d80bd608fa3eb4004e9a03bba5c1fdf4148c13d6b0fc9704dfd99d28fc4c39"), looks := false }, kinds := [], alts := [], laidByText := true, laidKinds := [.data, .data, .data], laidTests := true, laidLooks := .later }
def TaxSettledCardSaid : Prop := Claim7.holds Tryz.pinned (.plain (OpenSpec.ofChange taxSettledSpec)) taxSettledCard

/-- THE TIED CARD OF 'peciatop.TopDealsArePaid'. -/
def topDealsArePaidCard : Claim7 := { stood := { row := topDealsArePaidRow, standIns := [], harness := (true, "72d80bd608fa3eb4004e9a03bba5c1fdf4148c13d6b0fc9704dfd99d28fc4c39"), looks := false }, kinds := [], alts := [], laidByText := true, laidKinds := [.data, .data, .data], laidTests := true, laidLooks := .later }
def TopDealsArePaidCardSaid : Prop := Claim7.holds Tryz.pinned (.plain (OpenSpec.ofChange topDealsArePaidSpec)) topDealsArePaidCard

/-- THE SECOND FORM's CARD OF 'pecialaw07.TaxCoins'. -/
def taxCoinsUptoCard : Claim7 := { stood := { row := taxCoinsUptoRow, standIns := [], harness := (true, "72d80bd608fa3eb4004e9a03bba5c1fdf4148c13d6b0fc9704dfd99d28fc4c39"), looks := false }, kinds := [], alts := [], laidByText := true, laidKinds := [.data, .data, .data], laidTests := true, laidLooks := .later }
def TaxCoinsUptoCardSaid : Prop := Claim7.holds Tryz.pinned (.plain (OpenSpec.upto taxCoinsSpec)) taxCoinsUptoCard

/-- THE SECOND FORM's CARD OF 'pecialaw07.TaxPrices'. -/
def taxPricesUptoCard : Claim7 := { stood := { row := taxPricesUptoRow, standIns := [], harness := (true, "72d80bd608fa3eb4004e9a03bba5c1fdf4148c13d6b0fc9704dfd99d28fc4c39"), looks := false }, kinds := [], alts := [], laidByText := true, laidKinds := [.data, .data, .data], laidTests := true, laidLooks := .later }
def TaxPricesUptoCardSaid : Prop := Claim7.holds Tryz.pinned (.plain (OpenSpec.upto taxPricesSpec)) taxPricesUptoCard

/-- THE SECOND FORM's CARD OF 'pecialaw07.TaxBills'. -/
def taxBillsUptoCard : Claim7 := { stood := { row := taxBillsUptoRow, standIns := [], harness := (true, "72d80bd608fa3eb4004e9a03bba5c1fdf4148c13d6b0fc9704dfd99d28fc4c39"), looks := false }, kinds := [], alts := [], laidByText := true, laidKinds := [.data, .data, .data], laidTests := true, laidLooks := .later }
def TaxBillsUptoCardSaid : Prop := Claim7.holds Tryz.pinned (.plain (OpenSpec.upto taxBillsSpec)) taxBillsUptoCard

/-- THE SECOND FORM's CARD OF 'pecialaw07.TaxShares'. -/
def taxSharesUptoCard : Claim7 := { stood := { row := taxSharesUptoRow, standIns := [], harness := (true, "72d80bd608fa3eb4004e9a03bba5c1fdf4148c13d6b0fc9704dfd99d28fc4c39"), looks := false }, kinds := [], alts := [], laidByText := true, laidKinds := [.data, .data, .data], laidTests := true, laidLooks := .later }
def TaxSharesUptoCardSaid : Prop := Claim7.holds Tryz.pinned (.plain (OpenSpec.upto taxSharesSpec)) taxSharesUptoCard

/-- THE SECOND FORM's CARD OF 'pecialaw07.TaxPosts'. -/
def taxPostsUptoCard : Claim7 := { stood := { row := taxPostsUptoRow, standIns := [], harness := (true, "72d80bd608fa3eb4004e9a03bba5c1fdf4148c13d6b0fc9704dfd99d28fc4c39"), looks := false }, kinds := [], alts := [], laidByText := true, laidKinds := [.data, .data, .data], laidTests := true, laidLooks := .later }
def TaxPostsUptoCardSaid : Prop := Claim7.holds Tryz.pinned (.plain (OpenSpec.upto taxPostsSpec)) taxPostsUptoCard

/-- THE SECOND FORM's CARD OF 'pecialaw07.TaxSettles'. -/
def taxSettlesUptoCard : Claim7 := { stood := { row := taxSettlesUptoRow, standIns := [], harness := (true, "72d80bd608fa3eb4004e9a03bba5c1fdf4148c13d6b0fc9704dfd99d28fc4c39"), looks := false }, kinds := [], alts := [], laidByText := true, laidKinds := [.data, .data, .data], laidTests := true, laidLooks := .later }
def TaxSettlesUptoCardSaid : Prop := Claim7.holds Tryz.pinned (.plain (OpenSpec.upto taxSettlesSpec)) taxSettlesUptoCard

/-- THE SECOND FORM's CARD OF 'pecialaw07.TaxCounts'. -/
def taxCountsUptoCard : Claim7 := { stood := { row := taxCountsUptoRow, standIns := [], harness := (true, "72d80bd608fa3eb4004e9a03bba5c1fdf4148c13d6b0fc9704dfd99d28fc4c39"), looks := false }, kinds := [], alts := [], laidByText := true, laidKinds := [.data, .data, .data], laidTests := true, laidLooks := .later }
def TaxCountsUptoCardSaid : Prop := Claim7.holds Tryz.pinned (.plain (OpenSpec.upto taxCountsSpec)) taxCountsUptoCard

/-- THE SECOND FORM's CARD OF 'pecialaw07.TaxYears'. -/
def taxYearsUptoCard : Claim7 := { stood := { row := taxYearsUptoRow, standIns := [], harness := (true, "72d80bd608fa3eb4004e9a03bba5c1fdf4148c13d6b0fc9704dfd99d28fc4c39"), looks := false }, kinds := [], alts := [], laidByText := true, laidKinds := [.data, .data, .data], laidTests := true, laidLooks := .later }
def TaxYearsUptoCardSaid : Prop := Claim7.holds Tryz.pinned (.plain (OpenSpec.upto taxYearsSpec)) taxYearsUptoCard

/-- THE SECOND FORM's CARD OF 'pecialaw07.TaxLater'. -/
def taxLaterUptoCard : Claim7 := { stood := { row := taxLaterUptoRow, standIns := [], harness := (true, "72d80bd608fa3eb4004e9a03bba5c1fdf4148c13d6b0fc9704dfd99d28fc4c39"), looks := false }, kinds := [], alts := [], laidByText := true, laidKinds := [.data, .data, .data], laidTests := true, laidLooks := .later }
def TaxLaterUptoCardSaid : Prop := Claim7.holds Tryz.pinned (.plain (OpenSpec.upto taxLaterSpec)) taxLaterUptoCard

/-- THE SECOND FORM's CARD OF 'pecialaw07.TaxEveryCoin'. -/
def taxEveryCoinUptoCard : Claim7 := { stood := { row := taxEveryCoinUptoRow, standIns := [], harness := (true, "72d80bd608fa3eb4004e9a03bba5c1fdf4148c13d6b0fc9704dfd99d28fc4c39"), looks := false }, kinds := [], alts := [], laidByText := true, laidKinds := [.data, .data, .data], laidTests := true, laidLooks := .later }
def TaxEveryCoinUptoCardSaid : Prop := Claim7.holds Tryz.pinned (.plain (OpenSpec.upto taxEveryCoinSpec)) taxEveryCoinUptoCard

/-- THE SECOND FORM's CARD OF 'pecialaw07.TaxTurns'. -/
def taxTurnsUptoCard : Claim7 := { stood := { row := taxTurnsUptoRow, standIns := [], harness := (true, "72d80bd608fa3eb4004e9a03bba5c1fdf4148c13d6b0fc9704dfd99d28fc4c39"), looks := false }, kinds := [], alts := [], laidByText := true, laidKinds := [.data, .data, .data], laidTests := true, laidLooks := .later }
def TaxTurnsUptoCardSaid : Prop := Claim7.holds Tryz.pinned (.plain (OpenSpec.upto taxTurnsSpec)) taxTurnsUptoCard

/-- THE SECOND FORM's CARD OF 'pecialaw07.TaxLedgers'. -/
def taxLedgersUptoCard : Claim7 := { stood := { row := taxLedgersUptoRow, standIns := [], harness := (true, "72d80bd608fa3eb4004e9a03bba5c1fdf4148c13d6b0fc9704dfd99d28fc4c39"), looks := false }, kinds := [], alts := [], laidByText := true, laidKinds := [.data, .data, .data], laidTests := true, laidLooks := .later }
def TaxLedgersUptoCardSaid : Prop := Claim7.holds Tryz.pinned (.plain (OpenSpec.upto taxLedgersSpec)) taxLedgersUptoCard

/-- THE SECOND FORM's CARD OF 'pecialaw07.TaxFewest'. -/
def taxFewestUptoCard : Claim7 := { stood := { row := taxFewestUptoRow, standIns := [], harness := (true, "72d80bd608fa3eb4004e9a03bba5c1fdf4148c13d6b0fc9704dfd99d28fc4c39"), looks := false }, kinds := [], alts := [], laidByText := true, laidKinds := [.data, .data, .data], laidTests := true, laidLooks := .later }
def TaxFewestUptoCardSaid : Prop := Claim7.holds Tryz.pinned (.plain (OpenSpec.upto taxFewestSpec)) taxFewestUptoCard

/-- THE SECOND FORM's CARD OF 'pecialaw07.TaxSettled'. -/
def taxSettledUptoCard : Claim7 := { stood := { row := taxSettledUptoRow, standIns := [], harness := (true, "72d80bd608fa3eb4004e9a03bba5c1fdf4148c13d6b0fc9704dfd99d28fc4c39"), looks := false }, kinds := [], alts := [], laidByText := true, laidKinds := [.data, .data, .data], laidTests := true, laidLooks := .later }
def TaxSettledUptoCardSaid : Prop := Claim7.holds Tryz.pinned (.plain (OpenSpec.upto taxSettledSpec)) taxSettledUptoCard

/-- THE SECOND FORM's CARD OF 'peciatop.TopDealsArePaid'. -/
def topDealsArePaidUptoCard : Claim7 := { stood := { row := topDealsArePaidUptoRow, standIns := [], harness := (true, "72d80bd608fa3eb4004e9a03bba5c1fdf4148c13d6b0fc9704dfd99d28fc4c39"), looks := false }, kinds := [], alts := [], laidByText := true, laidKinds := [.data, .data, .data], laidTests := true, laidLooks := .later }
def TopDealsArePaidUptoCardSaid : Prop := Claim7.holds Tryz.pinned (.plain (OpenSpec.upto topDealsArePaidSpec)) topDealsArePaidUptoCard
end Rows
end Go.Proofs.YtokhhoihalpaoaaGreatDoor
