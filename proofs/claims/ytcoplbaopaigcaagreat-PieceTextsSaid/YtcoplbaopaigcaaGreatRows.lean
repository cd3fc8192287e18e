/-
  No cell of these rows narrows 'for every input' (looked for: loops, veiled, ifaces, maps, wideKeys, modest, calm, conditions, laid).
  DERIVED. THE GIVEN ROWS OF THIS SEAT. 12 by the template 'for every input the law returns true; each argument reads behind the call as it read before'; 0 by the template 'total and deterministic' (their statements: YtcoplbaopaigcaaGreatTotals.lean).
  GIVEN WITH THE SEED: the statements are not yours to turn. If you find one false, say at which input.
  Laid BY PROGRAM, IN A SANDBOX (cutbox-rows.mjs): the forced cells as the released guide's own fill.sh prints them over the translation 77059002f6cfb229… (all of the seat's roots in one cut). By AI agents, Wed Nov 11 2026. No macro, syntax, notation, axiom, sorry.
-/
import Derived.Test.YtcoplbaopaigcaaGreatChecked
import GoSem.Claim
import GoSem.ClaimJoined
import GoSem.ClaimMapViews
import Derived.JoinedTies
import Derived.KernelRfl
namespace Go.Proofs.YtcoplbaopaigcaaGreat
/- THE CELL 'sum', in the pinned program and in every row, IS THE sha256 OF THE DUMP (.gsa) THAT YtcoplbaopaigcaaGreatProg.lean LOADS. Nothing in Lean hashes anything: it is a label: what it is worth is what the hold of that sum in a sandbox is worth. -/
noncomputable def Tryz.pinned : Pinned := { name := "ytcoplbaopaigcaagreat", sum := "77059002f6cfb2292a92d32a9f4ab5410142e7c279bc161e460c63e635d60e88", checked := Tryz.checked }
namespace Rows
def none {H : Type} : Left H := { results := [], args := [] }

/-- 'pecialaw01.PieceFits': WHATEVER THE INPUT: true; the input reads as it did. -/
def pieceFitsSpec : ChangeSpec := { name := "pieceFits", fn := fun _ => fun
  | [d1, d2, d3, d4] => { results := [.lit (.bool true)], args := [d1, d2, d3, d4] }
  | _ => none }
def pieceFitsRow : OpenClaim := { program := "ytcoplbaopaigcaagreat", sum := "77059002f6cfb2292a92d32a9f4ab5410142e7c279bc161e460c63e635d60e88", func := "pecia/pecialaw01.PieceFits", spec := "pieceFits", unfollowed := true, recurses := true, apart := false }
def PieceFitsSaid : Prop := pieceFitsRow.holds Tryz.pinned (OpenSpec.ofChange pieceFitsSpec)

/-- ITS FALSE NEIGHBOUR: 'it returns false'. Refute it at one input. -/
def pieceFitsWrong : ChangeSpec := { name := "pieceFits", fn := fun _ => fun
  | [d1, d2, d3, d4] => { results := [.lit (.bool false)], args := [d1, d2, d3, d4] }
  | _ => none }
def PieceFitsWrongFalsely : Prop := pieceFitsRow.holds Tryz.pinned (OpenSpec.ofChange pieceFitsWrong)

/-- 'pecialaw01.PieceCounts': WHATEVER THE INPUT: true; the input reads as it did. -/
def pieceCountsSpec : ChangeSpec := { name := "pieceCounts", fn := fun _ => fun
  | [d] => { results := [.lit (.bool true)], args := [d] }
  | _ => none }
def pieceCountsRow : OpenClaim := { program := "ytcoplbaopaigcaagreat", sum := "77059002f6cfb2292a92d32a9f4ab5410142e7c279bc161e460c63e635d60e88", func := "pecia/pecialaw01.PieceCounts", spec := "pieceCounts", unfollowed := true, recurses := true, apart := false }
def PieceCountsSaid : Prop := pieceCountsRow.holds Tryz.pinned (OpenSpec.ofChange pieceCountsSpec)

/-- ITS FALSE NEIGHBOUR: 'it returns false'. Refute it at one input. -/
def pieceCountsWrong : ChangeSpec := { name := "pieceCounts", fn := fun _ => fun
  | [d] => { results := [.lit (.bool false)], args := [d] }
  | _ => none }
def PieceCountsWrongFalsely : Prop := pieceCountsRow.holds Tryz.pinned (OpenSpec.ofChange pieceCountsWrong)

/-- 'pecialaw01.PieceJoints': WHATEVER THE INPUT: true; the input reads as it did. -/
def pieceJointsSpec : ChangeSpec := { name := "pieceJoints", fn := fun _ => fun
  | [d] => { results := [.lit (.bool true)], args := [d] }
  | _ => none }
def pieceJointsRow : OpenClaim := { program := "ytcoplbaopaigcaagreat", sum := "77059002f6cfb2292a92d32a9f4ab5410142e7c279bc161e460c63e635d60e88", func := "pecia/pecialaw01.PieceJoints", spec := "pieceJoints", unfollowed := true, recurses := true, apart := false }
def PieceJointsSaid : Prop := pieceJointsRow.holds Tryz.pinned (OpenSpec.ofChange pieceJointsSpec)

/-- ITS FALSE NEIGHBOUR: 'it returns false'. Refute it at one input. -/
def pieceJointsWrong : ChangeSpec := { name := "pieceJoints", fn := fun _ => fun
  | [d] => { results := [.lit (.bool false)], args := [d] }
  | _ => none }
def PieceJointsWrongFalsely : Prop := pieceJointsRow.holds Tryz.pinned (OpenSpec.ofChange pieceJointsWrong)

/-- 'pecialaw01.PieceRows': WHATEVER THE INPUT: true; the input reads as it did. -/
def pieceRowsSpec : ChangeSpec := { name := "pieceRows", fn := fun _ => fun
  | [d1, d2] => { results := [.lit (.bool true)], args := [d1, d2] }
  | _ => none }
def pieceRowsRow : OpenClaim := { program := "ytcoplbaopaigcaagreat", sum := "77059002f6cfb2292a92d32a9f4ab5410142e7c279bc161e460c63e635d60e88", func := "pecia/pecialaw01.PieceRows", spec := "pieceRows", unfollowed := true, recurses := true, apart := false }
def PieceRowsSaid : Prop := pieceRowsRow.holds Tryz.pinned (OpenSpec.ofChange pieceRowsSpec)

/-- ITS FALSE NEIGHBOUR: 'it returns false'. Refute it at one input. -/
def pieceRowsWrong : ChangeSpec := { name := "pieceRows", fn := fun _ => fun
  | [d1, d2] => { results := [.lit (.bool false)], args := [d1, d2] }
  | _ => none }
def PieceRowsWrongFalsely : Prop := pieceRowsRow.holds Tryz.pinned (OpenSpec.ofChange pieceRowsWrong)

/-- 'pecialaw01.PieceTexts': WHATEVER THE INPUT: true; the input reads as it did. -/
def pieceTextsSpec : ChangeSpec := { name := "pieceTexts", fn := fun _ => fun
  | [d1, d2, d3, d4] => { results := [.lit (.bool true)], args := [d1, d2, d3, d4] }
  | _ => none }
def pieceTextsRow : OpenClaim := { program := "ytcoplbaopaigcaagreat", sum := "77059002f6cfb2292a92d32a9f4ab5410142e7c279bc161e460c63e635d60e88", func := "pecia/pecialaw01.PieceTexts", spec := "pieceTexts", unfollowed := true, recurses := true, apart := false }
def PieceTextsSaid : Prop := pieceTextsRow.holds Tryz.pinned (OpenSpec.ofChange pieceTextsSpec)

/-- ITS FALSE NEIGHBOUR: 'it returns false'. Refute it at one input. -/
def pieceTextsWrong : ChangeSpec := { name := "pieceTexts", fn := fun _ => fun
  | [d1, d2, d3, d4] => { results := [.lit (.bool false)], args := [d1, d2, d3, d4] }
  | _ => none }
def PieceTextsWrongFalsely : Prop := pieceTextsRow.holds Tryz.pinned (OpenSpec.ofChange pieceTextsWrong)

/-- 'pecialaw01.PieceQuireLeaves': WHATEVER THE INPUT: true; the input reads as it did. -/
def pieceQuireLeavesSpec : ChangeSpec := { name := "pieceQuireLeaves", fn := fun _ => fun
  | [d1, d2, d3] => { results := [.lit (.bool true)], args := [d1, d2, d3] }
  | _ => none }
def pieceQuireLeavesRow : OpenClaim := { program := "ytcoplbaopaigcaagreat", sum := "77059002f6cfb2292a92d32a9f4ab5410142e7c279bc161e460c63e635d60e88", func := "pecia/pecialaw01.PieceQuireLeaves", spec := "pieceQuireLeaves", unfollowed := true, recurses := true, apart := false }
def PieceQuireLeavesSaid : Prop := pieceQuireLeavesRow.holds Tryz.pinned (OpenSpec.ofChange pieceQuireLeavesSpec)

/-- ITS FALSE NEIGHBOUR: 'it returns false'. Refute it at one input. -/
def pieceQuireLeavesWrong : ChangeSpec := { name := "pieceQuireLeaves", fn := fun _ => fun
  | [d1, d2, d3] => { results := [.lit (.bool false)], args := [d1, d2, d3] }
  | _ => none }
def PieceQuireLeavesWrongFalsely : Prop := pieceQuireLeavesRow.holds Tryz.pinned (OpenSpec.ofChange pieceQuireLeavesWrong)

/-- 'pecialaw01.PieceOrders': WHATEVER THE INPUT: true; the input reads as it did. -/
def pieceOrdersSpec : ChangeSpec := { name := "pieceOrders", fn := fun _ => fun
  | [d1, d2] => { results := [.lit (.bool true)], args := [d1, d2] }
  | _ => none }
def pieceOrdersRow : OpenClaim := { program := "ytcoplbaopaigcaagreat", sum := "77059002f6cfb2292a92d32a9f4ab5410142e7c279bc161e460c63e635d60e88", func := "pecia/pecialaw01.PieceOrders", spec := "pieceOrders", unfollowed := true, recurses := true, apart := false }
def PieceOrdersSaid : Prop := pieceOrdersRow.holds Tryz.pinned (OpenSpec.ofChange pieceOrdersSpec)

/-- ITS FALSE NEIGHBOUR: 'it returns false'. Refute it at one input. -/
def pieceOrdersWrong : ChangeSpec := { name := "pieceOrders", fn := fun _ => fun
  | [d1, d2] => { results := [.lit (.bool false)], args := [d1, d2] }
  | _ => none }
def PieceOrdersWrongFalsely : Prop := pieceOrdersRow.holds Tryz.pinned (OpenSpec.ofChange pieceOrdersWrong)

/-- 'pecialaw01.PieceOne': WHATEVER THE INPUT: true; the input reads as it did. -/
def pieceOneSpec : ChangeSpec := { name := "pieceOne", fn := fun _ => fun
  | [d] => { results := [.lit (.bool true)], args := [d] }
  | _ => none }
def pieceOneRow : OpenClaim := { program := "ytcoplbaopaigcaagreat", sum := "77059002f6cfb2292a92d32a9f4ab5410142e7c279bc161e460c63e635d60e88", func := "pecia/pecialaw01.PieceOne", spec := "pieceOne", unfollowed := true, recurses := true, apart := false }
def PieceOneSaid : Prop := pieceOneRow.holds Tryz.pinned (OpenSpec.ofChange pieceOneSpec)

/-- ITS FALSE NEIGHBOUR: 'it returns false'. Refute it at one input. -/
def pieceOneWrong : ChangeSpec := { name := "pieceOne", fn := fun _ => fun
  | [d] => { results := [.lit (.bool false)], args := [d] }
  | _ => none }
def PieceOneWrongFalsely : Prop := pieceOneRow.holds Tryz.pinned (OpenSpec.ofChange pieceOneWrong)

/-- 'pecialaw01.PieceFewest': WHATEVER THE INPUT: true; the input reads as it did. -/
def pieceFewestSpec : ChangeSpec := { name := "pieceFewest", fn := fun _ => fun
  | [d1, d2, d3] => { results := [.lit (.bool true)], args := [d1, d2, d3] }
  | _ => none }
def pieceFewestRow : OpenClaim := { program := "ytcoplbaopaigcaagreat", sum := "77059002f6cfb2292a92d32a9f4ab5410142e7c279bc161e460c63e635d60e88", func := "pecia/pecialaw01.PieceFewest", spec := "pieceFewest", unfollowed := true, recurses := true, apart := false }
def PieceFewestSaid : Prop := pieceFewestRow.holds Tryz.pinned (OpenSpec.ofChange pieceFewestSpec)

/-- ITS FALSE NEIGHBOUR: 'it returns false'. Refute it at one input. -/
def pieceFewestWrong : ChangeSpec := { name := "pieceFewest", fn := fun _ => fun
  | [d1, d2, d3] => { results := [.lit (.bool false)], args := [d1, d2, d3] }
  | _ => none }
def PieceFewestWrongFalsely : Prop := pieceFewestRow.holds Tryz.pinned (OpenSpec.ofChange pieceFewestWrong)

/-- 'pecialaw01.PieceGaps': WHATEVER THE INPUT: true; the input reads as it did. -/
def pieceGapsSpec : ChangeSpec := { name := "pieceGaps", fn := fun _ => fun
  | [d1, d2, d3, d4] => { results := [.lit (.bool true)], args := [d1, d2, d3, d4] }
  | _ => none }
def pieceGapsRow : OpenClaim := { program := "ytcoplbaopaigcaagreat", sum := "77059002f6cfb2292a92d32a9f4ab5410142e7c279bc161e460c63e635d60e88", func := "pecia/pecialaw01.PieceGaps", spec := "pieceGaps", unfollowed := true, recurses := true, apart := false }
def PieceGapsSaid : Prop := pieceGapsRow.holds Tryz.pinned (OpenSpec.ofChange pieceGapsSpec)

/-- ITS FALSE NEIGHBOUR: 'it returns false'. Refute it at one input. -/
def pieceGapsWrong : ChangeSpec := { name := "pieceGaps", fn := fun _ => fun
  | [d1, d2, d3, d4] => { results := [.lit (.bool false)], args := [d1, d2, d3, d4] }
  | _ => none }
def PieceGapsWrongFalsely : Prop := pieceGapsRow.holds Tryz.pinned (OpenSpec.ofChange pieceGapsWrong)

/-- 'pecialaw01.PieceCutting': WHATEVER THE INPUT: true; the input reads as it did. -/
def pieceCuttingSpec : ChangeSpec := { name := "pieceCutting", fn := fun _ => fun
  | [d1, d2] => { results := [.lit (.bool true)], args := [d1, d2] }
  | _ => none }
def pieceCuttingRow : OpenClaim := { program := "ytcoplbaopaigcaagreat", sum := "77059002f6cfb2292a92d32a9f4ab5410142e7c279bc161e460c63e635d60e88", func := "pecia/pecialaw01.PieceCutting", spec := "pieceCutting", unfollowed := true, recurses := true, apart := false }
def PieceCuttingSaid : Prop := pieceCuttingRow.holds Tryz.pinned (OpenSpec.ofChange pieceCuttingSpec)

/-- ITS FALSE NEIGHBOUR: 'it returns false'. Refute it at one input. -/
def pieceCuttingWrong : ChangeSpec := { name := "pieceCutting", fn := fun _ => fun
  | [d1, d2] => { results := [.lit (.bool false)], args := [d1, d2] }
  | _ => none }
def PieceCuttingWrongFalsely : Prop := pieceCuttingRow.holds Tryz.pinned (OpenSpec.ofChange pieceCuttingWrong)

/-- 'pecialaw01.PieceNames': WHATEVER THE INPUT: true; the input reads as it did. -/
def pieceNamesSpec : ChangeSpec := { name := "pieceNames", fn := fun _ => fun
  | [d1, d2, d3] => { results := [.lit (.bool true)], args := [d1, d2, d3] }
  | _ => none }
def pieceNamesRow : OpenClaim := { program := "ytcoplbaopaigcaagreat", sum := "77059002f6cfb2292a92d32a9f4ab5410142e7c279bc161e460c63e635d60e88", func := "pecia/pecialaw01.PieceNames", spec := "pieceNames", unfollowed := true, recurses := true, apart := false }
def PieceNamesSaid : Prop := pieceNamesRow.holds Tryz.pinned (OpenSpec.ofChange pieceNamesSpec)

/-- ITS FALSE NEIGHBOUR: 'it returns false'. Refute it at one input. -/
def pieceNamesWrong : ChangeSpec := { name := "pieceNames", fn := fun _ => fun
  | [d1, d2, d3] => { results := [.lit (.bool false)], args := [d1, d2, d3] }
  | _ => none }
def PieceNamesWrongFalsely : Prop := pieceNamesRow.holds Tryz.pinned (OpenSpec.ofChange pieceNamesWrong)

/- THE SECOND FORM. 'bulk': how many values and letters a reading holds, each counted each time it is reached (what is shared counts as often as it is met; a slice's spare places count too). A statement '..UptoSaid' is the law's where the arguments, and the package variables that the reading takes, are together of bulk at most 1048576: NARROWER than '..Said'. Prove '..Said' where nothing that the law and all that it calls make is longer than what came in: it says more and counts as full. Else prove '..UptoSaid'. A law counts once. -/
mutual
def uptoBulk {H : Type} : DataW H → Nat
  | .lit (.string bytes) => bytes.length + 1
  | .lit _ => 1
  | .nil => 1
  | .ptr d => uptoBulk d + 1
  | .slice elems spare => uptoBulkAll elems + uptoBulkAll spare + 1
  | .agg parts => uptoBulkAll parts + 1
  | .iface _ d => uptoBulk d + 1
  | .map entries => uptoBulkEntries entries + 1
  | .held _ => 1
def uptoBulkAll {H : Type} : List (DataW H) → Nat
  | [] => 0
  | d :: r => uptoBulk d + uptoBulkAll r
def uptoBulkEntries {H : Type} : List (Lit × DataW H) → Nat
  | [] => 0
  | x :: r => uptoBulkEntry x + uptoBulkEntries r
def uptoBulkEntry {H : Type} : Lit × DataW H → Nat
  | (.string bytes, d) => bytes.length + uptoBulk d + 1
  | (_, d) => uptoBulk d + 1
 end
def uptoSmall : (H : Type) → List (DataW H) → Bool := fun _ ds => decide (uptoBulkAll ds ≤ 1048576)
def OpenSpec.upto (s : _root_.Go.ChangeSpec) : _root_.Go.OpenSpec := { _root_.Go.OpenSpec.ofChange s with cond := some uptoSmall }

/-- 'pecialaw01.PieceFits', WHERE WHAT IT READS IS OF BULK AT MOST 1048576: true; the input reads as it did. -/
def pieceFitsUptoRow : OpenClaim := { program := "ytcoplbaopaigcaagreat", sum := "77059002f6cfb2292a92d32a9f4ab5410142e7c279bc161e460c63e635d60e88", func := "pecia/pecialaw01.PieceFits", spec := "pieceFits", unfollowed := true, recurses := true, apart := false, narrowed := true }
def PieceFitsUptoSaid : Prop := pieceFitsUptoRow.holds Tryz.pinned (OpenSpec.upto pieceFitsSpec)

/-- 'pecialaw01.PieceCounts', WHERE WHAT IT READS IS OF BULK AT MOST 1048576: true; the input reads as it did. -/
def pieceCountsUptoRow : OpenClaim := { program := "ytcoplbaopaigcaagreat", sum := "77059002f6cfb2292a92d32a9f4ab5410142e7c279bc161e460c63e635d60e88", func := "pecia/pecialaw01.PieceCounts", spec := "pieceCounts", unfollowed := true, recurses := true, apart := false, narrowed := true }
def PieceCountsUptoSaid : Prop := pieceCountsUptoRow.holds Tryz.pinned (OpenSpec.upto pieceCountsSpec)

/-- 'pecialaw01.PieceJoints', WHERE WHAT IT READS IS OF BULK AT MOST 1048576: true; the input reads as it did. -/
def pieceJointsUptoRow : OpenClaim := { program := "ytcoplbaopaigcaagreat", sum := "77059002f6cfb2292a92d32a9f4ab5410142e7c279bc161e460c63e635d60e88", func := "pecia/pecialaw01.PieceJoints", spec := "pieceJoints", unfollowed := true, recurses := true, apart := false, narrowed := true }
def PieceJointsUptoSaid : Prop := pieceJointsUptoRow.holds Tryz.pinned (OpenSpec.upto pieceJointsSpec)

/-- 'pecialaw01.PieceRows', WHERE WHAT IT READS IS OF BULK AT MOST 1048576: true; the input reads as it did. -/
def pieceRowsUptoRow : OpenClaim := { program := "ytcoplbaopaigcaagreat", sum := "77059002f6cfb2292a92d32a9f4ab5410142e7c279bc161e460c63e635d60e88", func := "pecia/pecialaw01.PieceRows", spec := "pieceRows", unfollowed := true, recurses := true, apart := false, narrowed := true }
def PieceRowsUptoSaid : Prop := pieceRowsUptoRow.holds Tryz.pinned (OpenSpec.upto pieceRowsSpec)

/-- 'pecialaw01.PieceTexts', WHERE WHAT IT READS IS OF BULK AT MOST 1048576: true; the input reads as it did. -/
def pieceTextsUptoRow : OpenClaim := { program := "ytcoplbaopaigcaagreat", sum := "77059002f6cfb2292a92d32a9f4ab5410142e7c279bc161e460c63e635d60e88", func := "pecia/pecialaw01.PieceTexts", spec := "pieceTexts", unfollowed := true, recurses := true, apart := false, narrowed := true }
def PieceTextsUptoSaid : Prop := pieceTextsUptoRow.holds Tryz.pinned (OpenSpec.upto pieceTextsSpec)

/-- 'pecialaw01.PieceQuireLeaves', WHERE WHAT IT READS IS OF BULK AT MOST 1048576: true; the input reads as it did. -/
def pieceQuireLeavesUptoRow : OpenClaim := { program := "ytcoplbaopaigcaagreat", sum := "77059002f6cfb2292a92d32a9f4ab5410142e7c279bc161e460c63e635d60e88", func := "pecia/pecialaw01.PieceQuireLeaves", spec := "pieceQuireLeaves", unfollowed := true, recurses := true, apart := false, narrowed := true }
def PieceQuireLeavesUptoSaid : Prop := pieceQuireLeavesUptoRow.holds Tryz.pinned (OpenSpec.upto pieceQuireLeavesSpec)

/-- 'pecialaw01.PieceOrders', WHERE WHAT IT READS IS OF BULK AT MOST 1048576: true; the input reads as it did. -/
def pieceOrdersUptoRow : OpenClaim := { program := "ytcoplbaopaigcaagreat", sum := "77059002f6cfb2292a92d32a9f4ab5410142e7c279bc161e460c63e635d60e88", func := "pecia/pecialaw01.PieceOrders", spec := "pieceOrders", unfollowed := true, recurses := true, apart := false, narrowed := true }
def PieceOrdersUptoSaid : Prop := pieceOrdersUptoRow.holds Tryz.pinned (OpenSpec.upto pieceOrdersSpec)

/-- 'pecialaw01.PieceOne', WHERE WHAT IT READS IS OF BULK AT MOST 1048576: true; the input reads as it did. -/
def pieceOneUptoRow : OpenClaim := { program := "ytcoplbaopaigcaagreat", sum := "77059002f6cfb2292a92d32a9f4ab5410142e7c279bc161e460c63e635d60e88", func := "pecia/pecialaw01.PieceOne", spec := "pieceOne", unfollowed := true, recurses := true, apart := false, narrowed := true }
def PieceOneUptoSaid : Prop := pieceOneUptoRow.holds Tryz.pinned (OpenSpec.upto pieceOneSpec)

/-- 'pecialaw01.PieceFewest', WHERE WHAT IT READS IS OF BULK AT MOST 1048576: true; the input reads as it did. -/
def pieceFewestUptoRow : OpenClaim := { program := "ytcoplbaopaigcaagreat", sum := "77059002f6cfb2292a92d32a9f4ab5410142e7c279bc161e460c63e635d60e88", func := "pecia/pecialaw01.PieceFewest", spec := "pieceFewest", unfollowed := true, recurses := true, apart := false, narrowed := true }
def PieceFewestUptoSaid : Prop := pieceFewestUptoRow.holds Tryz.pinned (OpenSpec.upto pieceFewestSpec)

/-- 'pecialaw01.PieceGaps', WHERE WHAT IT READS IS OF BULK AT MOST 1048576: true; the input reads as it did. -/
def pieceGapsUptoRow : OpenClaim := { program := "ytcoplbaopaigcaagreat", sum := "77059002f6cfb2292a92d32a9f4ab5410142e7c279bc161e460c63e635d60e88", func := "pecia/pecialaw01.PieceGaps", spec := "pieceGaps", unfollowed := true, recurses := true, apart := false, narrowed := true }
def PieceGapsUptoSaid : Prop := pieceGapsUptoRow.holds Tryz.pinned (OpenSpec.upto pieceGapsSpec)

/-- 'pecialaw01.PieceCutting', WHERE WHAT IT READS IS OF BULK AT MOST 1048576: true; the input reads as it did. -/
def pieceCuttingUptoRow : OpenClaim := { program := "ytcoplbaopaigcaagreat", sum := "77059002f6cfb2292a92d32a9f4ab5410142e7c279bc161e460c63e635d60e88", func := "pecia/pecialaw01.PieceCutting", spec := "pieceCutting", unfollowed := true, recurses := true, apart := false, narrowed := true }
def PieceCuttingUptoSaid : Prop := pieceCuttingUptoRow.holds Tryz.pinned (OpenSpec.upto pieceCuttingSpec)

/-- 'pecialaw01.PieceNames', WHERE WHAT IT READS IS OF BULK AT MOST 1048576: true; the input reads as it did. -/
def pieceNamesUptoRow : OpenClaim := { program := "ytcoplbaopaigcaagreat", sum := "77059002f6cfb2292a92d32a9f4ab5410142e7c279bc161e460c63e635d60e88", func := "pecia/pecialaw01.PieceNames", spec := "pieceNames", unfollowed := true, recurses := true, apart := false, narrowed := true }
def PieceNamesUptoSaid : Prop := pieceNamesUptoRow.holds Tryz.pinned (OpenSpec.upto pieceNamesSpec)

end Rows
end Go.Proofs.YtcoplbaopaigcaaGreat
