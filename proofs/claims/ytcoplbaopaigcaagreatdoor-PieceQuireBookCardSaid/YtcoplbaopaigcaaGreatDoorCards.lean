/-
  DERIVED. GIVEN WITH THE SEED: THE CARDS: each row of YtcoplbaopaigcaaGreatDoorRows.lean that lists a variable, with what it lists TIED to the program's text (the seventh form; the later family's looks); each row that meets fmt, with fmt's text TOLD by the authors' own Lean function (tested against real Go, not proved from fmt's source: count such statements apart). THE CARD IS WHAT COUNTS. Prove the row's statement (the work); the ties are given (YtcoplbaopaigcaaGreatDoorTie.lean); close each card by the builder's one call (the guide's Derived/Test/ToyasCard.lean, 'card_holds'). Laid BY PROGRAM, IN A SANDBOX (cutbox-door.mjs). By AI agents, Wed Nov 11 2026. No macro, syntax, notation, axiom, sorry.
-/
import Derived.Test.YtcoplbaopaigcaaGreatDoorRows
import GoSem.ClaimSeven
namespace Go.Proofs.YtcoplbaopaigcaaGreatDoor
namespace Rows

/-- THE TIED CARD OF 'pecialaw01.PieceQuireTexts'. -/
def pieceQuireTextsCard : Claim7 := { stood := { row := pieceQuireTextsRow, standIns := [], harness := (true, "763c24f3b250000819bd2a6606763591825d6a11d90b109742f2d117cfd9c9a6"), looks := true }, kinds := [], alts := [], laidByText := true, laidKinds := [.data, .data, .data], laidTests := true, laidLooks := .later }
def PieceQuireTextsCardSaid : Prop := Claim7.holds Tryz.pinned (.plain (OpenSpec.ofChange pieceQuireTextsSpec)) pieceQuireTextsCard

/-- THE TIED CARD OF 'pecialaw01.PieceQuireReadsBack'. -/
def pieceQuireReadsBackCard : Claim7 := { stood := { row := pieceQuireReadsBackRow, standIns := [], harness := (true, "763c24f3b250000819bd2a6606763591825d6a11d90b109742f2d117cfd9c9a6"), looks := true }, kinds := [], alts := [], laidByText := true, laidKinds := [.data, .data, .data], laidTests := true, laidLooks := .later }
def PieceQuireReadsBackCardSaid : Prop := Claim7.holds Tryz.pinned (.plain (OpenSpec.ofChange pieceQuireReadsBackSpec)) pieceQuireReadsBackCard

/-- THE TIED CARD OF 'pecialaw01.PieceQuireBook'. -/
def pieceQuireBookCard : Claim7 := { stood := { row := pieceQuireBookRow, standIns := [], harness := (true, "763c24f3b250000819bd2a6606763591825d6a11d90b109742f2d117cfd9c9a6"), looks := true }, kinds := [], alts := [], laidByText := true, laidKinds := [.data, .data, .data], laidTests := true, laidLooks := .later }
def PieceQuireBookCardSaid : Prop := Claim7.holds Tryz.pinned (.plain (OpenSpec.ofChange pieceQuireBookSpec)) pieceQuireBookCard

/-- THE SECOND FORM's CARD OF 'pecialaw01.PieceQuireTexts'. -/
def pieceQuireTextsUptoCard : Claim7 := { stood := { row := pieceQuireTextsUptoRow, standIns := [], harness := (true, "763c24f3b250000819bd2a6606763591825d6a11d90b109742f2d117cfd9c9a6"), looks := true }, kinds := [], alts := [], laidByText := true, laidKinds := [.data, .data, .data], laidTests := true, laidLooks := .later }
def PieceQuireTextsUptoCardSaid : Prop := Claim7.holds Tryz.pinned (.plain (OpenSpec.upto pieceQuireTextsSpec)) pieceQuireTextsUptoCard

/-- THE SECOND FORM's CARD OF 'pecialaw01.PieceQuireReadsBack'. -/
def pieceQuireReadsBackUptoCard : Claim7 := { stood := { row := pieceQuireReadsBackUptoRow, standIns := [], harness := (true, "763c24f3b250000819bd2a6606763591825d6a11d90b109742f2d117cfd9c9a6"), looks := true }, kinds := [], alts := [], laidByText := true, laidKinds := [.data, .data, .data], laidTests := true, laidLooks := .later }
def PieceQuireReadsBackUptoCardSaid : Prop := Claim7.holds Tryz.pinned (.plain (OpenSpec.upto pieceQuireReadsBackSpec)) pieceQuireReadsBackUptoCard

/-- THE SECOND FORM's CARD OF 'pecialaw01.PieceQuireBook'. -/
def pieceQuireBookUptoCard : Claim7 := { stood := { row := pieceQuireBookUptoRow, standIns := [], harness := (true, "763c24f3b250000819bd2a6606763591825d6a11d90b109742f2d117cfd9c9a6"), looks := true }, kinds := [], alts := [], laidByText := true, laidKinds := [.data, .data, .data], laidTests := true, laidLooks := .later }
def PieceQuireBookUptoCardSaid : Prop := Claim7.holds Tryz.pinned (.plain (OpenSpec.upto pieceQuireBookSpec)) pieceQuireBookUptoCard
end Rows
end Go.Proofs.YtcoplbaopaigcaaGreatDoor
