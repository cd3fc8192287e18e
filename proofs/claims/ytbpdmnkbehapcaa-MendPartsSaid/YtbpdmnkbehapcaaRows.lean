/-
  No cell of these rows narrows 'for every input' (looked for: loops, veiled, ifaces, maps, wideKeys, modest, calm, conditions, laid).
  DERIVED. THE GIVEN ROWS OF THIS SEAT. 8 by the template 'for every input the law returns true; each argument reads behind the call as it read before'; 0 by the template 'total and deterministic' (their statements: YtbpdmnkbehapcaaTotals.lean).
  GIVEN WITH THE SEED: the statements are not yours to turn. If you find one false, say at which input.
  Laid BY PROGRAM, IN A SANDBOX (cutbox-rows.mjs): the forced cells as the released guide's own fill.sh prints them over the translation e6634e3a930fbb84… (all of the seat's roots in one cut). By AI agents, Wed Nov 11 2026. No macro, syntax, notation, axiom, sorry.
-/
import Derived.Test.YtbpdmnkbehapcaaChecked
import GoSem.Claim
import GoSem.ClaimJoined
import GoSem.ClaimMapViews
import Derived.JoinedTies
import Derived.KernelRfl
namespace Go.Proofs.Ytbpdmnkbehapcaa
/- THE CELL 'sum', in the pinned program and in every row, IS THE sha256 OF THE DUMP (.gsa) THAT YtbpdmnkbehapcaaProg.lean LOADS. Nothing in Lean hashes anything: it is a label: what it is worth is what the hold of that sum in a sandbox is worth. -/
noncomputable def Try.pinned : Pinned := { name := "ytbpdmnkbehapcaa", sum := "e6634e3a930fbb84671150e4feda9e91d96272cf717af88df00bcbff5a0c43c5", checked := Try.checked }
namespace Rows
def none {H : Type} : Left H := { results := [], args := [] }

/-- 'pecialaw06.MendProves': WHATEVER THE INPUT: true; the input reads as it did. -/
def mendProvesSpec : ChangeSpec := { name := "mendProves", fn := fun _ => fun
  | [d1, d2, d3, d4] => { results := [.lit (.bool true)], args := [d1, d2, d3, d4] }
  | _ => none }
def mendProvesRow : OpenClaim := { program := "ytbpdmnkbehapcaa", sum := "e6634e3a930fbb84671150e4feda9e91d96272cf717af88df00bcbff5a0c43c5", func := "pecia/pecialaw06.MendProves", spec := "mendProves", unfollowed := true, recurses := true, apart := false }
def MendProvesSaid : Prop := mendProvesRow.holds Try.pinned (OpenSpec.ofChange mendProvesSpec)

/-- ITS FALSE NEIGHBOUR: 'it returns false'. Refute it at one input. -/
def mendProvesWrong : ChangeSpec := { name := "mendProves", fn := fun _ => fun
  | [d1, d2, d3, d4] => { results := [.lit (.bool false)], args := [d1, d2, d3, d4] }
  | _ => none }
def MendProvesWrongFalsely : Prop := mendProvesRow.holds Try.pinned (OpenSpec.ofChange mendProvesWrong)

/-- 'pecialaw06.MendJams': WHATEVER THE INPUT: true; the input reads as it did. -/
def mendJamsSpec : ChangeSpec := { name := "mendJams", fn := fun _ => fun
  | [d1, d2, d3, d4, d5] => { results := [.lit (.bool true)], args := [d1, d2, d3, d4, d5] }
  | _ => none }
def mendJamsRow : OpenClaim := { program := "ytbpdmnkbehapcaa", sum := "e6634e3a930fbb84671150e4feda9e91d96272cf717af88df00bcbff5a0c43c5", func := "pecia/pecialaw06.MendJams", spec := "mendJams", unfollowed := true, recurses := true, apart := false }
def MendJamsSaid : Prop := mendJamsRow.holds Try.pinned (OpenSpec.ofChange mendJamsSpec)

/-- ITS FALSE NEIGHBOUR: 'it returns false'. Refute it at one input. -/
def mendJamsWrong : ChangeSpec := { name := "mendJams", fn := fun _ => fun
  | [d1, d2, d3, d4, d5] => { results := [.lit (.bool false)], args := [d1, d2, d3, d4, d5] }
  | _ => none }
def MendJamsWrongFalsely : Prop := mendJamsRow.holds Try.pinned (OpenSpec.ofChange mendJamsWrong)

/-- 'pecialaw06.MendSurely': WHATEVER THE INPUT: true; the input reads as it did. -/
def mendSurelySpec : ChangeSpec := { name := "mendSurely", fn := fun _ => fun
  | [d1, d2] => { results := [.lit (.bool true)], args := [d1, d2] }
  | _ => none }
def mendSurelyRow : OpenClaim := { program := "ytbpdmnkbehapcaa", sum := "e6634e3a930fbb84671150e4feda9e91d96272cf717af88df00bcbff5a0c43c5", func := "pecia/pecialaw06.MendSurely", spec := "mendSurely", unfollowed := true, recurses := true, apart := false }
def MendSurelySaid : Prop := mendSurelyRow.holds Try.pinned (OpenSpec.ofChange mendSurelySpec)

/-- ITS FALSE NEIGHBOUR: 'it returns false'. Refute it at one input. -/
def mendSurelyWrong : ChangeSpec := { name := "mendSurely", fn := fun _ => fun
  | [d1, d2] => { results := [.lit (.bool false)], args := [d1, d2] }
  | _ => none }
def MendSurelyWrongFalsely : Prop := mendSurelyRow.holds Try.pinned (OpenSpec.ofChange mendSurelyWrong)

/-- 'pecialaw06.MendDays': WHATEVER THE INPUT: true; the input reads as it did. -/
def mendDaysSpec : ChangeSpec := { name := "mendDays", fn := fun _ => fun
  | [d1, d2] => { results := [.lit (.bool true)], args := [d1, d2] }
  | _ => none }
def mendDaysRow : OpenClaim := { program := "ytbpdmnkbehapcaa", sum := "e6634e3a930fbb84671150e4feda9e91d96272cf717af88df00bcbff5a0c43c5", func := "pecia/pecialaw06.MendDays", spec := "mendDays", unfollowed := true, recurses := true, apart := false }
def MendDaysSaid : Prop := mendDaysRow.holds Try.pinned (OpenSpec.ofChange mendDaysSpec)

/-- ITS FALSE NEIGHBOUR: 'it returns false'. Refute it at one input. -/
def mendDaysWrong : ChangeSpec := { name := "mendDays", fn := fun _ => fun
  | [d1, d2] => { results := [.lit (.bool false)], args := [d1, d2] }
  | _ => none }
def MendDaysWrongFalsely : Prop := mendDaysRow.holds Try.pinned (OpenSpec.ofChange mendDaysWrong)

/-- 'pecialaw06.MendCopies': WHATEVER THE INPUT: true; the input reads as it did. -/
def mendCopiesSpec : ChangeSpec := { name := "mendCopies", fn := fun _ => fun
  | [d1, d2, d3, d4] => { results := [.lit (.bool true)], args := [d1, d2, d3, d4] }
  | _ => none }
def mendCopiesRow : OpenClaim := { program := "ytbpdmnkbehapcaa", sum := "e6634e3a930fbb84671150e4feda9e91d96272cf717af88df00bcbff5a0c43c5", func := "pecia/pecialaw06.MendCopies", spec := "mendCopies", unfollowed := true, recurses := true, apart := false }
def MendCopiesSaid : Prop := mendCopiesRow.holds Try.pinned (OpenSpec.ofChange mendCopiesSpec)

/-- ITS FALSE NEIGHBOUR: 'it returns false'. Refute it at one input. -/
def mendCopiesWrong : ChangeSpec := { name := "mendCopies", fn := fun _ => fun
  | [d1, d2, d3, d4] => { results := [.lit (.bool false)], args := [d1, d2, d3, d4] }
  | _ => none }
def MendCopiesWrongFalsely : Prop := mendCopiesRow.holds Try.pinned (OpenSpec.ofChange mendCopiesWrong)

/-- 'pecialaw06.MendExchange': WHATEVER THE INPUT: true; the input reads as it did. -/
def mendExchangeSpec : ChangeSpec := { name := "mendExchange", fn := fun _ => fun
  | [d1, d2, d3] => { results := [.lit (.bool true)], args := [d1, d2, d3] }
  | _ => none }
def mendExchangeRow : OpenClaim := { program := "ytbpdmnkbehapcaa", sum := "e6634e3a930fbb84671150e4feda9e91d96272cf717af88df00bcbff5a0c43c5", func := "pecia/pecialaw06.MendExchange", spec := "mendExchange", unfollowed := true, recurses := true, apart := false }
def MendExchangeSaid : Prop := mendExchangeRow.holds Try.pinned (OpenSpec.ofChange mendExchangeSpec)

/-- ITS FALSE NEIGHBOUR: 'it returns false'. Refute it at one input. -/
def mendExchangeWrong : ChangeSpec := { name := "mendExchange", fn := fun _ => fun
  | [d1, d2, d3] => { results := [.lit (.bool false)], args := [d1, d2, d3] }
  | _ => none }
def MendExchangeWrongFalsely : Prop := mendExchangeRow.holds Try.pinned (OpenSpec.ofChange mendExchangeWrong)

/-- 'pecialaw06.MendParts': WHATEVER THE INPUT: true; the input reads as it did. -/
def mendPartsSpec : ChangeSpec := { name := "mendParts", fn := fun _ => fun
  | [d1, d2, d3] => { results := [.lit (.bool true)], args := [d1, d2, d3] }
  | _ => none }
def mendPartsRow : OpenClaim := { program := "ytbpdmnkbehapcaa", sum := "e6634e3a930fbb84671150e4feda9e91d96272cf717af88df00bcbff5a0c43c5", func := "pecia/pecialaw06.MendParts", spec := "mendParts", unfollowed := true, recurses := true, apart := false }
def MendPartsSaid : Prop := mendPartsRow.holds Try.pinned (OpenSpec.ofChange mendPartsSpec)

/-- ITS FALSE NEIGHBOUR: 'it returns false'. Refute it at one input. -/
def mendPartsWrong : ChangeSpec := { name := "mendParts", fn := fun _ => fun
  | [d1, d2, d3] => { results := [.lit (.bool false)], args := [d1, d2, d3] }
  | _ => none }
def MendPartsWrongFalsely : Prop := mendPartsRow.holds Try.pinned (OpenSpec.ofChange mendPartsWrong)

/-- 'pecialaw06.MendTwo': WHATEVER THE INPUT: true; the input reads as it did. -/
def mendTwoSpec : ChangeSpec := { name := "mendTwo", fn := fun _ => fun
  | [d1, d2, d3, d4] => { results := [.lit (.bool true)], args := [d1, d2, d3, d4] }
  | _ => none }
def mendTwoRow : OpenClaim := { program := "ytbpdmnkbehapcaa", sum := "e6634e3a930fbb84671150e4feda9e91d96272cf717af88df00bcbff5a0c43c5", func := "pecia/pecialaw06.MendTwo", spec := "mendTwo", unfollowed := true, recurses := true, apart := false }
def MendTwoSaid : Prop := mendTwoRow.holds Try.pinned (OpenSpec.ofChange mendTwoSpec)

/-- ITS FALSE NEIGHBOUR: 'it returns false'. Refute it at one input. -/
def mendTwoWrong : ChangeSpec := { name := "mendTwo", fn := fun _ => fun
  | [d1, d2, d3, d4] => { results := [.lit (.bool false)], args := [d1, d2, d3, d4] }
  | _ => none }
def MendTwoWrongFalsely : Prop := mendTwoRow.holds Try.pinned (OpenSpec.ofChange mendTwoWrong)

/- THE SECOND FORM. 'bulk': how many values and letters a reading holds, each counted each time it is reached (what is shared counts as often as it is met; a slice's spare places count too). A statement '..UptoSaid' is the law's where the arguments, and the package variables that the reading takes, are together of bulk at most 1048576: NARROWER than '..Said'. Prove '..Said' where nothing that the law and all that it calls make is longer than what came in: it says more and counts as full. Else prove '..UptoSaid'. A law counts once. -/
mutual
def uptoBulk {H : Type} : DataW H → Nat
  | .lit (.string bytes) => bytes.length + 1
  | .lit _ => 1
  | .nil => 1
  | .ptr d => uptoBulk d + 1
  | .slice elems spare => uptoBulkAll elems + uptoBulkAll spare + 1
  | .agg parts => uptoBulkAll parts + 1
  | .iface _ d => uptoBulk d + 1
  | .map entries => uptoBulkEntries entries + 1
  | .held _ => 1
def uptoBulkAll {H : Type} : List (DataW H) → Nat
  | [] => 0
  | d :: r => uptoBulk d + uptoBulkAll r
def uptoBulkEntries {H : Type} : List (Lit × DataW H) → Nat
  | [] => 0
  | x :: r => uptoBulkEntry x + uptoBulkEntries r
def uptoBulkEntry {H : Type} : Lit × DataW H → Nat
  | (.string bytes, d) => bytes.length + uptoBulk d + 1
  | (_, d) => uptoBulk d + 1
 end
def uptoSmall : (H : Type) → List (DataW H) → Bool := fun _ ds => decide (uptoBulkAll ds ≤ 1048576)
def OpenSpec.upto (s : _root_.Go.ChangeSpec) : _root_.Go.OpenSpec := { _root_.Go.OpenSpec.ofChange s with cond := some uptoSmall }

/-- 'pecialaw06.MendProves', WHERE WHAT IT READS IS OF BULK AT MOST 1048576: true; the input reads as it did. -/
def mendProvesUptoRow : OpenClaim := { program := "ytbpdmnkbehapcaa", sum := "e6634e3a930fbb84671150e4feda9e91d96272cf717af88df00bcbff5a0c43c5", func := "pecia/pecialaw06.MendProves", spec := "mendProves", unfollowed := true, recurses := true, apart := false, narrowed := true }
def MendProvesUptoSaid : Prop := mendProvesUptoRow.holds Try.pinned (OpenSpec.upto mendProvesSpec)

/-- 'pecialaw06.MendJams', WHERE WHAT IT READS IS OF BULK AT MOST 1048576: true; the input reads as it did. -/
def mendJamsUptoRow : OpenClaim := { program := "ytbpdmnkbehapcaa", sum := "e6634e3a930fbb84671150e4feda9e91d96272cf717af88df00bcbff5a0c43c5", func := "pecia/pecialaw06.MendJams", spec := "mendJams", unfollowed := true, recurses := true, apart := false, narrowed := true }
def MendJamsUptoSaid : Prop := mendJamsUptoRow.holds Try.pinned (OpenSpec.upto mendJamsSpec)

/-- 'pecialaw06.MendSurely', WHERE WHAT IT READS IS OF BULK AT MOST 1048576: true; the input reads as it did. -/
def mendSurelyUptoRow : OpenClaim := { program := "ytbpdmnkbehapcaa", sum := "e6634e3a930fbb84671150e4feda9e91d96272cf717af88df00bcbff5a0c43c5", func := "pecia/pecialaw06.MendSurely", spec := "mendSurely", unfollowed := true, recurses := true, apart := false, narrowed := true }
def MendSurelyUptoSaid : Prop := mendSurelyUptoRow.holds Try.pinned (OpenSpec.upto mendSurelySpec)

/-- 'pecialaw06.MendDays', WHERE WHAT IT READS IS OF BULK AT MOST 1048576: true; the input reads as it did. -/
def mendDaysUptoRow : OpenClaim := { program := "ytbpdmnkbehapcaa", sum := "e6634e3a930fbb84671150e4feda9e91d96272cf717af88df00bcbff5a0c43c5", func := "pecia/pecialaw06.MendDays", spec := "mendDays", unfollowed := true, recurses := true, apart := false, narrowed := true }
def MendDaysUptoSaid : Prop := mendDaysUptoRow.holds Try.pinned (OpenSpec.upto mendDaysSpec)

/-- 'pecialaw06.MendCopies', WHERE WHAT IT READS IS OF BULK AT MOST 1048576: true; the input reads as it did. -/
def mendCopiesUptoRow : OpenClaim := { program := "ytbpdmnkbehapcaa", sum := "e6634e3a930fbb84671150e4feda9e91d96272cf717af88df00bcbff5a0c43c5", func := "pecia/pecialaw06.MendCopies", spec := "mendCopies", unfollowed := true, recurses := true, apart := false, narrowed := true }
def MendCopiesUptoSaid : Prop := mendCopiesUptoRow.holds Try.pinned (OpenSpec.upto mendCopiesSpec)

/-- 'pecialaw06.MendExchange', WHERE WHAT IT READS IS OF BULK AT MOST 1048576: true; the input reads as it did. -/
def mendExchangeUptoRow : OpenClaim := { program := "ytbpdmnkbehapcaa", sum := "e6634e3a930fbb84671150e4feda9e91d96272cf717af88df00bcbff5a0c43c5", func := "pecia/pecialaw06.MendExchange", spec := "mendExchange", unfollowed := true, recurses := true, apart := false, narrowed := true }
def MendExchangeUptoSaid : Prop := mendExchangeUptoRow.holds Try.pinned (OpenSpec.upto mendExchangeSpec)

/-- 'pecialaw06.MendParts', WHERE WHAT IT READS IS OF BULK AT MOST 1048576: true; the input reads as it did. -/
def mendPartsUptoRow : OpenClaim := { program := "ytbpdmnkbehapcaa", sum := "e6634e3a930fbb84671150e4feda9e91d96272cf717af88df00bcbff5a0c43c5", func := "pecia/pecialaw06.MendParts", spec := "mendParts", unfollowed := true, recurses := true, apart := false, narrowed := true }
def MendPartsUptoSaid : Prop := mendPartsUptoRow.holds Try.pinned (OpenSpec.upto mendPartsSpec)

/-- 'pecialaw06.MendTwo', WHERE WHAT IT READS IS OF BULK AT MOST 1048576: true; the input reads as it did. -/
def mendTwoUptoRow : OpenClaim := { program := "ytbpdmnkbehapcaa", sum := "e6634e3a930fbb84671150e4feda9e91d96272cf717af88df00bcbff5a0c43c5", func := "pecia/pecialaw06.MendTwo", spec := "mendTwo", unfollowed := true, recurses := true, apart := false, narrowed := true }
def MendTwoUptoSaid : Prop := mendTwoUptoRow.holds Try.pinned (OpenSpec.upto mendTwoSpec)

end Rows
end Go.Proofs.Ytbpdmnkbehapcaa
