/-
  No cell of these rows narrows 'for every input' (looked for: loops, veiled, ifaces, maps, wideKeys, modest, calm, conditions, laid).
  DERIVED. THE GIVEN ROWS OF THIS SEAT. 5 by the template 'for every input the law returns true; each argument reads behind the call as it read before'; 0 by the template 'total and deterministic' (their statements: YtgddlpegljkgpaaGreatTotals.lean).
  GIVEN WITH THE SEED: the statements are not yours to turn. If you find one false, say at which input.
  Laid BY PROGRAM, IN A SANDBOX (cutbox-rows.mjs): the forced cells as the released guide's own fill.sh prints them over the translation 6efe6297b9189e0f… (all of the seat's roots in one cut). By AI agents, Wed Nov 11 2026. No macro, syntax, notation, axiom, sorry.
-/
import Derived.Test.YtgddlpegljkgpaaGreatChecked
import GoSem.Claim
import GoSem.ClaimJoined
import GoSem.ClaimMapViews
import Derived.JoinedTies
import Derived.KernelRfl
namespace Go.Proofs.YtgddlpegljkgpaaGreat
/- THE CELL 'sum', in the pinned program and in every row, IS THE sha256 OF THE DUMP (.gsa) THAT YtgddlpegljkgpaaGreatProg.lean LOADS. Nothing in Lean hashes anything: it is a label: what it is worth is what the hold of that sum in a sandbox is worth. -/
noncomputable def Tryz.pinned : Pinned := { name := "ytgddlpegljkgpaagreat", sum := "6efe6297b9189e0f7bed8907f2c450c5eedbedc64ff28be1441bed06bae14518", checked := Tryz.checked }
namespace Rows
def none {H : Type} : Left H := { results := [], args := [] }

/-- 'pecialaw03.StateFits': WHATEVER THE INPUT: true; the input reads as it did. -/
def stateFitsSpec : ChangeSpec := { name := "stateFits", fn := fun _ => fun
  | [d1, d2, d3] => { results := [.lit (.bool true)], args := [d1, d2, d3] }
  | _ => none }
def stateFitsRow : OpenClaim := { program := "ytgddlpegljkgpaagreat", sum := "6efe6297b9189e0f7bed8907f2c450c5eedbedc64ff28be1441bed06bae14518", func := "pecia/pecialaw03.StateFits", spec := "stateFits", unfollowed := true, recurses := true, apart := false }
def StateFitsSaid : Prop := stateFitsRow.holds Tryz.pinned (OpenSpec.ofChange stateFitsSpec)

/-- ITS FALSE NEIGHBOUR: 'it returns false'. Refute it at one input. -/
def stateFitsWrong : ChangeSpec := { name := "stateFits", fn := fun _ => fun
  | [d1, d2, d3] => { results := [.lit (.bool false)], args := [d1, d2, d3] }
  | _ => none }
def StateFitsWrongFalsely : Prop := stateFitsRow.holds Tryz.pinned (OpenSpec.ofChange stateFitsWrong)

/-- 'pecialaw03.StateProves': WHATEVER THE INPUT: true; the input reads as it did. -/
def stateProvesSpec : ChangeSpec := { name := "stateProves", fn := fun _ => fun
  | [d1, d2, d3, d4, d5] => { results := [.lit (.bool true)], args := [d1, d2, d3, d4, d5] }
  | _ => none }
def stateProvesRow : OpenClaim := { program := "ytgddlpegljkgpaagreat", sum := "6efe6297b9189e0f7bed8907f2c450c5eedbedc64ff28be1441bed06bae14518", func := "pecia/pecialaw03.StateProves", spec := "stateProves", unfollowed := true, recurses := true, apart := false }
def StateProvesSaid : Prop := stateProvesRow.holds Tryz.pinned (OpenSpec.ofChange stateProvesSpec)

/-- ITS FALSE NEIGHBOUR: 'it returns false'. Refute it at one input. -/
def stateProvesWrong : ChangeSpec := { name := "stateProves", fn := fun _ => fun
  | [d1, d2, d3, d4, d5] => { results := [.lit (.bool false)], args := [d1, d2, d3, d4, d5] }
  | _ => none }
def StateProvesWrongFalsely : Prop := stateProvesRow.holds Tryz.pinned (OpenSpec.ofChange stateProvesWrong)

/-- 'pecialaw03.StateRests': WHATEVER THE INPUT: true; the input reads as it did. -/
def stateRestsSpec : ChangeSpec := { name := "stateRests", fn := fun _ => fun
  | [d1, d2] => { results := [.lit (.bool true)], args := [d1, d2] }
  | _ => none }
def stateRestsRow : OpenClaim := { program := "ytgddlpegljkgpaagreat", sum := "6efe6297b9189e0f7bed8907f2c450c5eedbedc64ff28be1441bed06bae14518", func := "pecia/pecialaw03.StateRests", spec := "stateRests", unfollowed := true, recurses := true, apart := false }
def StateRestsSaid : Prop := stateRestsRow.holds Tryz.pinned (OpenSpec.ofChange stateRestsSpec)

/-- ITS FALSE NEIGHBOUR: 'it returns false'. Refute it at one input. -/
def stateRestsWrong : ChangeSpec := { name := "stateRests", fn := fun _ => fun
  | [d1, d2] => { results := [.lit (.bool false)], args := [d1, d2] }
  | _ => none }
def StateRestsWrongFalsely : Prop := stateRestsRow.holds Tryz.pinned (OpenSpec.ofChange stateRestsWrong)

/-- 'pecialaw03.StateMixes': WHATEVER THE INPUT: true; the input reads as it did. -/
def stateMixesSpec : ChangeSpec := { name := "stateMixes", fn := fun _ => fun
  | [d1, d2, d3, d4, d5, d6] => { results := [.lit (.bool true)], args := [d1, d2, d3, d4, d5, d6] }
  | _ => none }
def stateMixesRow : OpenClaim := { program := "ytgddlpegljkgpaagreat", sum := "6efe6297b9189e0f7bed8907f2c450c5eedbedc64ff28be1441bed06bae14518", func := "pecia/pecialaw03.StateMixes", spec := "stateMixes", unfollowed := true, recurses := true, apart := false }
def StateMixesSaid : Prop := stateMixesRow.holds Tryz.pinned (OpenSpec.ofChange stateMixesSpec)

/-- ITS FALSE NEIGHBOUR: 'it returns false'. Refute it at one input. -/
def stateMixesWrong : ChangeSpec := { name := "stateMixes", fn := fun _ => fun
  | [d1, d2, d3, d4, d5, d6] => { results := [.lit (.bool false)], args := [d1, d2, d3, d4, d5, d6] }
  | _ => none }
def StateMixesWrongFalsely : Prop := stateMixesRow.holds Tryz.pinned (OpenSpec.ofChange stateMixesWrong)

/-- 'pecialaw03.StateMixed': WHATEVER THE INPUT: true; the input reads as it did. -/
def stateMixedSpec : ChangeSpec := { name := "stateMixed", fn := fun _ => fun
  | [d1, d2, d3, d4, d5] => { results := [.lit (.bool true)], args := [d1, d2, d3, d4, d5] }
  | _ => none }
def stateMixedRow : OpenClaim := { program := "ytgddlpegljkgpaagreat", sum := "6efe6297b9189e0f7bed8907f2c450c5eedbedc64ff28be1441bed06bae14518", func := "pecia/pecialaw03.StateMixed", spec := "stateMixed", inPlace := ["slices.overlaps[pecia/api.Alter]"], unfollowed := true, recurses := true, apart := false }
def StateMixedSaid : Prop := stateMixedRow.holds Tryz.pinned (OpenSpec.ofChange stateMixedSpec)

/-- ITS FALSE NEIGHBOUR: 'it returns false'. Refute it at one input. -/
def stateMixedWrong : ChangeSpec := { name := "stateMixed", fn := fun _ => fun
  | [d1, d2, d3, d4, d5] => { results := [.lit (.bool false)], args := [d1, d2, d3, d4, d5] }
  | _ => none }
def StateMixedWrongFalsely : Prop := stateMixedRow.holds Tryz.pinned (OpenSpec.ofChange stateMixedWrong)

/- THE SECOND FORM. 'bulk': how many values and letters a reading holds, each counted each time it is reached (what is shared counts as often as it is met; a slice's spare places count too). A statement '..UptoSaid' is the law's where the arguments, and the package variables that the reading takes, are together of bulk at most 1048576: NARROWER than '..Said'. Prove '..Said' where nothing that the law and all that it calls make is longer than what came in: it says more and counts as full. Else prove '..UptoSaid'. A law counts once. -/
mutual
def uptoBulk {H : Type} : DataW H → Nat
  | .lit (.string bytes) => bytes.length + 1
  | .lit _ => 1
  | .nil => 1
  | .ptr d => uptoBulk d + 1
  | .slice elems spare => uptoBulkAll elems + uptoBulkAll spare + 1
  | .agg parts => uptoBulkAll parts + 1
  | .iface _ d => uptoBulk d + 1
  | .map entries => uptoBulkEntries entries + 1
  | .held _ => 1
def uptoBulkAll {H : Type} : List (DataW H) → Nat
  | [] => 0
  | d :: r => uptoBulk d + uptoBulkAll r
def uptoBulkEntries {H : Type} : List (Lit × DataW H) → Nat
  | [] => 0
  | x :: r => uptoBulkEntry x + uptoBulkEntries r
def uptoBulkEntry {H : Type} : Lit × DataW H → Nat
  | (.string bytes, d) => bytes.length + uptoBulk d + 1
  | (_, d) => uptoBulk d + 1
 end
def uptoSmall : (H : Type) → List (DataW H) → Bool := fun _ ds => decide (uptoBulkAll ds ≤ 1048576)
def OpenSpec.upto (s : _root_.Go.ChangeSpec) : _root_.Go.OpenSpec := { _root_.Go.OpenSpec.ofChange s with cond := some uptoSmall }

/-- 'pecialaw03.StateFits', WHERE WHAT IT READS IS OF BULK AT MOST 1048576: true; the input reads as it did. -/
def stateFitsUptoRow : OpenClaim := { program := "ytgddlpegljkgpaagreat", sum := "6efe6297b9189e0f7bed8907f2c450c5eedbedc64ff28be1441bed06bae14518", func := "pecia/pecialaw03.StateFits", spec := "stateFits", unfollowed := true, recurses := true, apart := false, narrowed := true }
def StateFitsUptoSaid : Prop := stateFitsUptoRow.holds Tryz.pinned (OpenSpec.upto stateFitsSpec)

/-- 'pecialaw03.StateProves', WHERE WHAT IT READS IS OF BULK AT MOST 1048576: true; the input reads as it did. -/
def stateProvesUptoRow : OpenClaim := { program := "ytgddlpegljkgpaagreat", sum := "6efe6297b9189e0f7bed8907f2c450c5eedbedc64ff28be1441bed06bae14518", func := "pecia/pecialaw03.StateProves", spec := "stateProves", unfollowed := true, recurses := true, apart := false, narrowed := true }
def StateProvesUptoSaid : Prop := stateProvesUptoRow.holds Tryz.pinned (OpenSpec.upto stateProvesSpec)

/-- 'pecialaw03.StateRests', WHERE WHAT IT READS IS OF BULK AT MOST 1048576: true; the input reads as it did. -/
def stateRestsUptoRow : OpenClaim := { program := "ytgddlpegljkgpaagreat", sum := "6efe6297b9189e0f7bed8907f2c450c5eedbedc64ff28be1441bed06bae14518", func := "pecia/pecialaw03.StateRests", spec := "stateRests", unfollowed := true, recurses := true, apart := false, narrowed := true }
def StateRestsUptoSaid : Prop := stateRestsUptoRow.holds Tryz.pinned (OpenSpec.upto stateRestsSpec)

/-- 'pecialaw03.StateMixes', WHERE WHAT IT READS IS OF BULK AT MOST 1048576: true; the input reads as it did. -/
def stateMixesUptoRow : OpenClaim := { program := "ytgddlpegljkgpaagreat", sum := "6efe6297b9189e0f7bed8907f2c450c5eedbedc64ff28be1441bed06bae14518", func := "pecia/pecialaw03.StateMixes", spec := "stateMixes", unfollowed := true, recurses := true, apart := false, narrowed := true }
def StateMixesUptoSaid : Prop := stateMixesUptoRow.holds Tryz.pinned (OpenSpec.upto stateMixesSpec)

/-- 'pecialaw03.StateMixed', WHERE WHAT IT READS IS OF BULK AT MOST 1048576: true; the input reads as it did. -/
def stateMixedUptoRow : OpenClaim := { program := "ytgddlpegljkgpaagreat", sum := "6efe6297b9189e0f7bed8907f2c450c5eedbedc64ff28be1441bed06bae14518", func := "pecia/pecialaw03.StateMixed", spec := "stateMixed", inPlace := ["slices.overlaps[pecia/api.Alter]"], unfollowed := true, recurses := true, apart := false, narrowed := true }
def StateMixedUptoSaid : Prop := stateMixedUptoRow.holds Tryz.pinned (OpenSpec.upto stateMixedSpec)

end Rows
end Go.Proofs.YtgddlpegljkgpaaGreat
