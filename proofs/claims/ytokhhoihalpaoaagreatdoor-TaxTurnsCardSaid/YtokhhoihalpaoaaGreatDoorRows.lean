/-
  NARROWER THAN 'FOR EVERY INPUT', by the rows' own cells (each row's printed sentence says how): TaxCoins: laid · TaxPrices: laid · TaxBills: laid · TaxShares: laid · TaxPosts: laid · TaxSettles: laid · TaxCounts: laid · TaxYears: laid · TaxLater: laid · TaxEveryCoin: laid · TaxTurns: laid · TaxLedgers: laid · TaxFewest: laid · TaxSettled: laid · TopDealsArePaid: laid.
  DERIVED. THE GIVEN ROWS OF THIS SEAT. 15 by the template 'for every input the law returns true; each argument reads behind the call as it read before'; 0 by the template 'total and deterministic' (their statements: YtokhhoihalpaoaaGreatDoorTotals.lean).
  GIVEN WITH THE SEED: the statements are not yours to turn. If you find one false, say at which input.
  Laid BY PROGRAM, IN A SANDBOX (cutbox-rows.mjs): the forced cells as the released guide's own fill.sh prints them over the translation e57001cffcd87916… (all of the seat's roots in one cut). By AI agents, Wed Nov 11 2026. No macro, syntax, notation, axiom, sorry.
-/
import Derived.Test.YtokhhoihalpaoaaGreatDoorChecked
import GoSem.Claim
import GoSem.ClaimJoined
import GoSem.ClaimMapViews
import Derived.JoinedTies
import Derived.KernelRfl
namespace Go.Proofs.YtokhhoihalpaoaaGreatDoor
/- THE CELL 'sum', in the pinned program and in every row, IS THE sha256 OF THE DUMP (.gsa) THAT YtokhhoihalpaoaaGreatDoorProg.lean LOADS. Nothing in Lean hashes anything: it is a label: what it is worth is what the hold of that sum in a sandbox is worth. -/
noncomputable def Tryz.pinned : Pinned := { name := "ytokhhoihalpaoaagreatdoor", sum := "e57001cffcd87916b500ad6a9102bee01812a1e3a10268360942b5738e371165", checked := Tryz.checked }
namespace Rows
def none {H : Type} : Left H := { results := [], args := [] }

/- WHAT THE LISTED PACKAGE-LEVEL VARIABLES READ AS WHEN THE CALL BEGINS. Each datum BY PROGRAM (the guide's laid-datum.mjs) off the statement by which the dump's own 'gosem.cut.vars' lays the variable. In a bare row this is a premise. The card (YtokhhoihalpaoaaGreatDoorCards.lean) ties it to the program's text. -/
def laid_math_bits_deBruijn32tab {H : Type} : DataW H := .agg [.lit (.int .u8 0), .lit (.int .u8 1), .lit (.int .u8 28), .lit (.int .u8 2), .lit (.int .u8 29), .lit (.int .u8 14), .lit (.int .u8 24), .lit (.int .u8 3), .lit (.int .u8 30), .lit (.int .u8 22), .lit (.int .u8 20), .lit (.int .u8 15), .lit (.int .u8 25), .lit (.int .u8 17), .lit (.int .u8 4), .lit (.int .u8 8), .lit (.int .u8 31), .lit (.int .u8 27), .lit (.int .u8 13), .lit (.int .u8 23), .lit (.int .u8 21), .lit (.int .u8 19), .lit (.int .u8 16), .lit (.int .u8 7), .lit (.int .u8 26), .lit (.int .u8 12), .lit (.int .u8 18), .lit (.int .u8 6), .lit (.int .u8 11), .lit (.int .u8 5), .lit (.int .u8 10), .lit (.int .u8 9)]
def laid_math_bits_deBruijn64tab {H : Type} : DataW H := .agg [.lit (.int .u8 0), .lit (.int .u8 1), .lit (.int .u8 56), .lit (.int .u8 2), .lit (.int .u8 57), .lit (.int .u8 49), .lit (.int .u8 28), .lit (.int .u8 3), .lit (.int .u8 61), .lit (.int .u8 58), .lit (.int .u8 42), .lit (.int .u8 50), .lit (.int .u8 38), .lit (.int .u8 29), .lit (.int .u8 17), .lit (.int .u8 4), .lit (.int .u8 62), .lit (.int .u8 47), .lit (.int .u8 59), .lit (.int .u8 36), .lit (.int .u8 45), .lit (.int .u8 43), .lit (.int .u8 51), .lit (.int .u8 22), .lit (.int .u8 53), .lit (.int .u8 39), .lit (.int .u8 33), .lit (.int .u8 30), .lit (.int .u8 24), .lit (.int .u8 18), .lit (.int .u8 12), .lit (.int .u8 5), .lit (.int .u8 63), .lit (.int .u8 55), .lit (.int .u8 48), .lit (.int .u8 27), .lit (.int .u8 60), .lit (.int .u8 41), .lit (.int .u8 37), .lit (.int .u8 16), .lit (.int .u8 46), .lit (.int .u8 35), .lit (.int .u8 44), .lit (.int .u8 21), .lit (.int .u8 52), .lit (.int .u8 32), .lit (.int .u8 23), .lit (.int .u8 11), .lit (.int .u8 54), .lit (.int .u8 26), .lit (.int .u8 40), .lit (.int .u8 15), .lit (.int .u8 34), .lit (.int .u8 20), .lit (.int .u8 31), .lit (.int .u8 10), .lit (.int .u8 25), .lit (.int .u8 14), .lit (.int .u8 19), .lit (.int .u8 9), .lit (.int .u8 13), .lit (.int .u8 8), .lit (.int .u8 7), .lit (.int .u8 6)]
def laid_internal_strconv_uint64pow10 {H : Type} : DataW H := .agg [.lit (.int .u64 1), .lit (.int .u64 10), .lit (.int .u64 100), .lit (.int .u64 1000), .lit (.int .u64 10000), .lit (.int .u64 100000), .lit (.int .u64 1000000), .lit (.int .u64 10000000), .lit (.int .u64 100000000), .lit (.int .u64 1000000000), .lit (.int .u64 10000000000), .lit (.int .u64 100000000000), .lit (.int .u64 1000000000000), .lit (.int .u64 10000000000000), .lit (.int .u64 100000000000000), .lit (.int .u64 1000000000000000), .lit (.int .u64 10000000000000000), .lit (.int .u64 100000000000000000), .lit (.int .u64 1000000000000000000), .lit (.int .u64 10000000000000000000)]

/-- 'pecialaw07.TaxCoins': WHATEVER THE INPUT: true; the input reads as it did. -/
def taxCoinsSpec : ChangeSpec := { name := "taxCoins", fn := fun _ => fun
  | [d1, d2, d3, d4] => { results := [.lit (.bool true)], args := [d1, d2, d3, d4] }
  | _ => none }
def taxCoinsRow : OpenClaim := { program := "ytokhhoihalpaoaagreatdoor", sum := "e57001cffcd87916b500ad6a9102bee01812a1e3a10268360942b5738e371165", func := "pecia/pecialaw07.TaxCoins", spec := "taxCoins", inPlace := ["internal/abi.NoEscape", "internal/bytealg.MakeNoZero"], unfollowed := true, recurses := true, named := ["internal/strconv.uint64pow10", "math/bits.deBruijn32tab", "math/bits.deBruijn64tab"], plainKeys := false, apart := false, laid := [("math/bits.deBruijn32tab", laid_math_bits_deBruijn32tab), ("math/bits.deBruijn64tab", laid_math_bits_deBruijn64tab), ("internal/strconv.uint64pow10", laid_internal_strconv_uint64pow10)] }
def TaxCoinsSaid : Prop := taxCoinsRow.holds Tryz.pinned (OpenSpec.ofChange taxCoinsSpec)

/-- ITS FALSE NEIGHBOUR: 'it returns false'. Refute it at one input. -/
def taxCoinsWrong : ChangeSpec := { name := "taxCoins", fn := fun _ => fun
  | [d1, d2, d3, d4] => { results := [.lit (.bool false)], args := [d1, d2, d3, d4] }
  | _ => none }
def TaxCoinsWrongFalsely : Prop := taxCoinsRow.holds Tryz.pinned (OpenSpec.ofChange taxCoinsWrong)

/-- 'pecialaw07.TaxPrices': WHATEVER THE INPUT: true; the input reads as it did. -/
def taxPricesSpec : ChangeSpec := { name := "taxPrices", fn := fun _ => fun
  | [d1, d2, d3] => { results := [.lit (.bool true)], args := [d1, d2, d3] }
  | _ => none }
def taxPricesRow : OpenClaim := { program := "ytokhhoihalpaoaagreatdoor", sum := "e57001cffcd87916b500ad6a9102bee01812a1e3a10268360942b5738e371165", func := "pecia/pecialaw07.TaxPrices", spec := "taxPrices", inPlace := ["internal/abi.NoEscape", "internal/bytealg.MakeNoZero"], unfollowed := true, recurses := true, named := ["internal/strconv.uint64pow10", "math/bits.deBruijn32tab", "math/bits.deBruijn64tab"], plainKeys := false, apart := false, laid := [("math/bits.deBruijn32tab", laid_math_bits_deBruijn32tab), ("math/bits.deBruijn64tab", laid_math_bits_deBruijn64tab), ("internal/strconv.uint64pow10", laid_internal_strconv_uint64pow10)] }
def TaxPricesSaid : Prop := taxPricesRow.holds Tryz.pinned (OpenSpec.ofChange taxPricesSpec)

/-- ITS FALSE NEIGHBOUR: 'it returns false'. Refute it at one input. -/
def taxPricesWrong : ChangeSpec := { name := "taxPrices", fn := fun _ => fun
  | [d1, d2, d3] => { results := [.lit (.bool false)], args := [d1, d2, d3] }
  | _ => none }
def TaxPricesWrongFalsely : Prop := taxPricesRow.holds Tryz.pinned (OpenSpec.ofChange taxPricesWrong)

/-- 'pecialaw07.TaxBills': WHATEVER THE INPUT: true; the input reads as it did. -/
def taxBillsSpec : ChangeSpec := { name := "taxBills", fn := fun _ => fun
  | [d1, d2, d3, d4, d5] => { results := [.lit (.bool true)], args := [d1, d2, d3, d4, d5] }
  | _ => none }
def taxBillsRow : OpenClaim := { program := "ytokhhoihalpaoaagreatdoor", sum := "e57001cffcd87916b500ad6a9102bee01812a1e3a10268360942b5738e371165", func := "pecia/pecialaw07.TaxBills", spec := "taxBills", inPlace := ["internal/abi.NoEscape", "internal/bytealg.MakeNoZero"], unfollowed := true, recurses := true, named := ["internal/strconv.uint64pow10", "math/bits.deBruijn32tab", "math/bits.deBruijn64tab"], plainKeys := false, apart := false, laid := [("math/bits.deBruijn32tab", laid_math_bits_deBruijn32tab), ("math/bits.deBruijn64tab", laid_math_bits_deBruijn64tab), ("internal/strconv.uint64pow10", laid_internal_strconv_uint64pow10)] }
def TaxBillsSaid : Prop := taxBillsRow.holds Tryz.pinned (OpenSpec.ofChange taxBillsSpec)

/-- ITS FALSE NEIGHBOUR: 'it returns false'. Refute it at one input. -/
def taxBillsWrong : ChangeSpec := { name := "taxBills", fn := fun _ => fun
  | [d1, d2, d3, d4, d5] => { results := [.lit (.bool false)], args := [d1, d2, d3, d4, d5] }
  | _ => none }
def TaxBillsWrongFalsely : Prop := taxBillsRow.holds Tryz.pinned (OpenSpec.ofChange taxBillsWrong)

/-- 'pecialaw07.TaxShares': WHATEVER THE INPUT: true; the input reads as it did. -/
def taxSharesSpec : ChangeSpec := { name := "taxShares", fn := fun _ => fun
  | [d1, d2, d3, d4] => { results := [.lit (.bool true)], args := [d1, d2, d3, d4] }
  | _ => none }
def taxSharesRow : OpenClaim := { program := "ytokhhoihalpaoaagreatdoor", sum := "e57001cffcd87916b500ad6a9102bee01812a1e3a10268360942b5738e371165", func := "pecia/pecialaw07.TaxShares", spec := "taxShares", inPlace := ["internal/abi.NoEscape", "internal/bytealg.MakeNoZero"], unfollowed := true, recurses := true, named := ["internal/strconv.uint64pow10", "math/bits.deBruijn32tab", "math/bits.deBruijn64tab"], plainKeys := false, apart := false, laid := [("math/bits.deBruijn32tab", laid_math_bits_deBruijn32tab), ("math/bits.deBruijn64tab", laid_math_bits_deBruijn64tab), ("internal/strconv.uint64pow10", laid_internal_strconv_uint64pow10)] }
def TaxSharesSaid : Prop := taxSharesRow.holds Tryz.pinned (OpenSpec.ofChange taxSharesSpec)

/-- ITS FALSE NEIGHBOUR: 'it returns false'. Refute it at one input. -/
def taxSharesWrong : ChangeSpec := { name := "taxShares", fn := fun _ => fun
  | [d1, d2, d3, d4] => { results := [.lit (.bool false)], args := [d1, d2, d3, d4] }
  | _ => none }
def TaxSharesWrongFalsely : Prop := taxSharesRow.holds Tryz.pinned (OpenSpec.ofChange taxSharesWrong)

/-- 'pecialaw07.TaxPosts': WHATEVER THE INPUT: true; the input reads as it did. -/
def taxPostsSpec : ChangeSpec := { name := "taxPosts", fn := fun _ => fun
  | [d1, d2, d3, d4] => { results := [.lit (.bool true)], args := [d1, d2, d3, d4] }
  | _ => none }
def taxPostsRow : OpenClaim := { program := "ytokhhoihalpaoaagreatdoor", sum := "e57001cffcd87916b500ad6a9102bee01812a1e3a10268360942b5738e371165", func := "pecia/pecialaw07.TaxPosts", spec := "taxPosts", inPlace := ["internal/abi.NoEscape", "internal/bytealg.MakeNoZero"], unfollowed := true, recurses := true, named := ["internal/strconv.uint64pow10", "math/bits.deBruijn32tab", "math/bits.deBruijn64tab"], plainKeys := false, apart := false, laid := [("math/bits.deBruijn32tab", laid_math_bits_deBruijn32tab), ("math/bits.deBruijn64tab", laid_math_bits_deBruijn64tab), ("internal/strconv.uint64pow10", laid_internal_strconv_uint64pow10)] }
def TaxPostsSaid : Prop := taxPostsRow.holds Tryz.pinned (OpenSpec.ofChange taxPostsSpec)

/-- ITS FALSE NEIGHBOUR: 'it returns false'. Refute it at one input. -/
def taxPostsWrong : ChangeSpec := { name := "taxPosts", fn := fun _ => fun
  | [d1, d2, d3, d4] => { results := [.lit (.bool false)], args := [d1, d2, d3, d4] }
  | _ => none }
def TaxPostsWrongFalsely : Prop := taxPostsRow.holds Tryz.pinned (OpenSpec.ofChange taxPostsWrong)

/-- 'pecialaw07.TaxSettles': WHATEVER THE INPUT: true; the input reads as it did. -/
def taxSettlesSpec : ChangeSpec := { name := "taxSettles", fn := fun _ => fun
  | [d1, d2] => { results := [.lit (.bool true)], args := [d1, d2] }
  | _ => none }
def taxSettlesRow : OpenClaim := { program := "ytokhhoihalpaoaagreatdoor", sum := "e57001cffcd87916b500ad6a9102bee01812a1e3a10268360942b5738e371165", func := "pecia/pecialaw07.TaxSettles", spec := "taxSettles", inPlace := ["internal/abi.NoEscape", "internal/bytealg.MakeNoZero"], unfollowed := true, recurses := true, named := ["internal/strconv.uint64pow10", "math/bits.deBruijn32tab", "math/bits.deBruijn64tab"], plainKeys := false, apart := false, laid := [("math/bits.deBruijn32tab", laid_math_bits_deBruijn32tab), ("math/bits.deBruijn64tab", laid_math_bits_deBruijn64tab), ("internal/strconv.uint64pow10", laid_internal_strconv_uint64pow10)] }
def TaxSettlesSaid : Prop := taxSettlesRow.holds Tryz.pinned (OpenSpec.ofChange taxSettlesSpec)

/-- ITS FALSE NEIGHBOUR: 'it returns false'. Refute it at one input. -/
def taxSettlesWrong : ChangeSpec := { name := "taxSettles", fn := fun _ => fun
  | [d1, d2] => { results := [.lit (.bool false)], args := [d1, d2] }
  | _ => none }
def TaxSettlesWrongFalsely : Prop := taxSettlesRow.holds Tryz.pinned (OpenSpec.ofChange taxSettlesWrong)

/-- 'pecialaw07.TaxCounts': WHATEVER THE INPUT: true; the input reads as it did. -/
def taxCountsSpec : ChangeSpec := { name := "taxCounts", fn := fun _ => fun
  | [d1, d2, d3, d4] => { results := [.lit (.bool true)], args := [d1, d2, d3, d4] }
  | _ => none }
def taxCountsRow : OpenClaim := { program := "ytokhhoihalpaoaagreatdoor", sum := "e57001cffcd87916b500ad6a9102bee01812a1e3a10268360942b5738e371165", func := "pecia/pecialaw07.TaxCounts", spec := "taxCounts", inPlace := ["internal/abi.NoEscape", "internal/bytealg.MakeNoZero"], unfollowed := true, recurses := true, named := ["internal/strconv.uint64pow10", "math/bits.deBruijn32tab", "math/bits.deBruijn64tab"], plainKeys := false, apart := false, laid := [("math/bits.deBruijn32tab", laid_math_bits_deBruijn32tab), ("math/bits.deBruijn64tab", laid_math_bits_deBruijn64tab), ("internal/strconv.uint64pow10", laid_internal_strconv_uint64pow10)] }
def TaxCountsSaid : Prop := taxCountsRow.holds Tryz.pinned (OpenSpec.ofChange taxCountsSpec)

/-- ITS FALSE NEIGHBOUR: 'it returns false'. Refute it at one input. -/
def taxCountsWrong : ChangeSpec := { name := "taxCounts", fn := fun _ => fun
  | [d1, d2, d3, d4] => { results := [.lit (.bool false)], args := [d1, d2, d3, d4] }
  | _ => none }
def TaxCountsWrongFalsely : Prop := taxCountsRow.holds Tryz.pinned (OpenSpec.ofChange taxCountsWrong)

/-- 'pecialaw07.TaxYears': WHATEVER THE INPUT: true; the input reads as it did. -/
def taxYearsSpec : ChangeSpec := { name := "taxYears", fn := fun _ => fun
  | [d1, d2, d3, d4] => { results := [.lit (.bool true)], args := [d1, d2, d3, d4] }
  | _ => none }
def taxYearsRow : OpenClaim := { program := "ytokhhoihalpaoaagreatdoor", sum := "e57001cffcd87916b500ad6a9102bee01812a1e3a10268360942b5738e371165", func := "pecia/pecialaw07.TaxYears", spec := "taxYears", inPlace := ["internal/abi.NoEscape", "internal/bytealg.MakeNoZero"], unfollowed := true, recurses := true, named := ["internal/strconv.uint64pow10", "math/bits.deBruijn32tab", "math/bits.deBruijn64tab"], plainKeys := false, apart := false, laid := [("math/bits.deBruijn32tab", laid_math_bits_deBruijn32tab), ("math/bits.deBruijn64tab", laid_math_bits_deBruijn64tab), ("internal/strconv.uint64pow10", laid_internal_strconv_uint64pow10)] }
def TaxYearsSaid : Prop := taxYearsRow.holds Tryz.pinned (OpenSpec.ofChange taxYearsSpec)

/-- ITS FALSE NEIGHBOUR: 'it returns false'. Refute it at one input. -/
def taxYearsWrong : ChangeSpec := { name := "taxYears", fn := fun _ => fun
  | [d1, d2, d3, d4] => { results := [.lit (.bool false)], args := [d1, d2, d3, d4] }
  | _ => none }
def TaxYearsWrongFalsely : Prop := taxYearsRow.holds Tryz.pinned (OpenSpec.ofChange taxYearsWrong)

/-- 'pecialaw07.TaxLater': WHATEVER THE INPUT: true; the input reads as it did. -/
def taxLaterSpec : ChangeSpec := { name := "taxLater", fn := fun _ => fun
  | [d1, d2, d3, d4, d5, d6] => { results := [.lit (.bool true)], args := [d1, d2, d3, d4, d5, d6] }
  | _ => none }
def taxLaterRow : OpenClaim := { program := "ytokhhoihalpaoaagreatdoor", sum := "e57001cffcd87916b500ad6a9102bee01812a1e3a10268360942b5738e371165", func := "pecia/pecialaw07.TaxLater", spec := "taxLater", inPlace := ["internal/abi.NoEscape", "internal/bytealg.MakeNoZero"], unfollowed := true, recurses := true, named := ["internal/strconv.uint64pow10", "math/bits.deBruijn32tab", "math/bits.deBruijn64tab"], plainKeys := false, apart := false, laid := [("math/bits.deBruijn32tab", laid_math_bits_deBruijn32tab), ("math/bits.deBruijn64tab", laid_math_bits_deBruijn64tab), ("internal/strconv.uint64pow10", laid_internal_strconv_uint64pow10)] }
def TaxLaterSaid : Prop := taxLaterRow.holds Tryz.pinned (OpenSpec.ofChange taxLaterSpec)

/-- ITS FALSE NEIGHBOUR: 'it returns false'. Refute it at one input. -/
def taxLaterWrong : ChangeSpec := { name := "taxLater", fn := fun _ => fun
  | [d1, d2, d3, d4, d5, d6] => { results := [.lit (.bool false)], args := [d1, d2, d3, d4, d5, d6] }
  | _ => none }
def TaxLaterWrongFalsely : Prop := taxLaterRow.holds Tryz.pinned (OpenSpec.ofChange taxLaterWrong)

/-- 'pecialaw07.TaxEveryCoin': WHATEVER THE INPUT: true; the input reads as it did. -/
def taxEveryCoinSpec : ChangeSpec := { name := "taxEveryCoin", fn := fun _ => fun
  | [d1, d2, d3] => { results := [.lit (.bool true)], args := [d1, d2, d3] }
  | _ => none }
def taxEveryCoinRow : OpenClaim := { program := "ytokhhoihalpaoaagreatdoor", sum := "e57001cffcd87916b500ad6a9102bee01812a1e3a10268360942b5738e371165", func := "pecia/pecialaw07.TaxEveryCoin", spec := "taxEveryCoin", inPlace := ["internal/abi.NoEscape", "internal/bytealg.MakeNoZero"], unfollowed := true, recurses := true, named := ["internal/strconv.uint64pow10", "math/bits.deBruijn32tab", "math/bits.deBruijn64tab"], plainKeys := false, apart := false, laid := [("math/bits.deBruijn32tab", laid_math_bits_deBruijn32tab), ("math/bits.deBruijn64tab", laid_math_bits_deBruijn64tab), ("internal/strconv.uint64pow10", laid_internal_strconv_uint64pow10)] }
def TaxEveryCoinSaid : Prop := taxEveryCoinRow.holds Tryz.pinned (OpenSpec.ofChange taxEveryCoinSpec)

/-- ITS FALSE NEIGHBOUR: 'it returns false'. Refute it at one input. -/
def taxEveryCoinWrong : ChangeSpec := { name := "taxEveryCoin", fn := fun _ => fun
  | [d1, d2, d3] => { results := [.lit (.bool false)], args := [d1, d2, d3] }
  | _ => none }
def TaxEveryCoinWrongFalsely : Prop := taxEveryCoinRow.holds Tryz.pinned (OpenSpec.ofChange taxEveryCoinWrong)

/-- 'pecialaw07.TaxTurns': WHATEVER THE INPUT: true; the input reads as it did. -/
def taxTurnsSpec : ChangeSpec := { name := "taxTurns", fn := fun _ => fun
  | [d1, d2, d3, d4] => { results := [.lit (.bool true)], args := [d1, d2, d3, d4] }
  | _ => none }
def taxTurnsRow : OpenClaim := { program := "ytokhhoihalpaoaagreatdoor", sum := "e57001cffcd87916b500ad6a9102bee01812a1e3a10268360942b5738e371165", func := "pecia/pecialaw07.TaxTurns", spec := "taxTurns", inPlace := ["internal/abi.NoEscape", "internal/bytealg.MakeNoZero"], unfollowed := true, recurses := true, named := ["internal/strconv.uint64pow10", "math/bits.deBruijn32tab", "math/bits.deBruijn64tab"], plainKeys := false, apart := false, laid := [("math/bits.deBruijn32tab", laid_math_bits_deBruijn32tab), ("math/bits.deBruijn64tab", laid_math_bits_deBruijn64tab), ("internal/strconv.uint64pow10", laid_internal_strconv_uint64pow10)] }
def TaxTurnsSaid : Prop := taxTurnsRow.holds Tryz.pinned (OpenSpec.ofChange taxTurnsSpec)

/-- ITS FALSE NEIGHBOUR: 'it returns false'. Refute it at one input. -/
def taxTurnsWrong : ChangeSpec := { name := "taxTurns", fn := fun _ => fun
  | [d1, d2, d3, d4] => { results := [.lit (.bool false)], args := [d1, d2, d3, d4] }
  | _ => none }
def TaxTurnsWrongFalsely : Prop := taxTurnsRow.holds Tryz.pinned (OpenSpec.ofChange taxTurnsWrong)

/-- 'pecialaw07.TaxLedgers': WHATEVER THE INPUT: true; the input reads as it did. -/
def taxLedgersSpec : ChangeSpec := { name := "taxLedgers", fn := fun _ => fun
  | [d1, d2, d3, d4] => { results := [.lit (.bool true)], args := [d1, d2, d3, d4] }
  | _ => none }
def taxLedgersRow : OpenClaim := { program := "ytokhhoihalpaoaagreatdoor", sum := "e57001cffcd87916b500ad6a9102bee01812a1e3a10268360942b5738e371165", func := "pecia/pecialaw07.TaxLedgers", spec := "taxLedgers", inPlace := ["internal/abi.NoEscape", "internal/bytealg.MakeNoZero"], unfollowed := true, recurses := true, named := ["internal/strconv.uint64pow10", "math/bits.deBruijn32tab", "math/bits.deBruijn64tab"], plainKeys := false, apart := false, laid := [("math/bits.deBruijn32tab", laid_math_bits_deBruijn32tab), ("math/bits.deBruijn64tab", laid_math_bits_deBruijn64tab), ("internal/strconv.uint64pow10", laid_internal_strconv_uint64pow10)] }
def TaxLedgersSaid : Prop := taxLedgersRow.holds Tryz.pinned (OpenSpec.ofChange taxLedgersSpec)

/-- ITS FALSE NEIGHBOUR: 'it returns false'. Refute it at one input. -/
def taxLedgersWrong : ChangeSpec := { name := "taxLedgers", fn := fun _ => fun
  | [d1, d2, d3, d4] => { results := [.lit (.bool false)], args := [d1, d2, d3, d4] }
  | _ => none }
def TaxLedgersWrongFalsely : Prop := taxLedgersRow.holds Tryz.pinned (OpenSpec.ofChange taxLedgersWrong)

/-- 'pecialaw07.TaxFewest': WHATEVER THE INPUT: true; the input reads as it did. -/
def taxFewestSpec : ChangeSpec := { name := "taxFewest", fn := fun _ => fun
  | [d1, d2] => { results := [.lit (.bool true)], args := [d1, d2] }
  | _ => none }
def taxFewestRow : OpenClaim := { program := "ytokhhoihalpaoaagreatdoor", sum := "e57001cffcd87916b500ad6a9102bee01812a1e3a10268360942b5738e371165", func := "pecia/pecialaw07.TaxFewest", spec := "taxFewest", inPlace := ["internal/abi.NoEscape", "internal/bytealg.MakeNoZero"], unfollowed := true, recurses := true, named := ["internal/strconv.uint64pow10", "math/bits.deBruijn32tab", "math/bits.deBruijn64tab"], plainKeys := false, apart := false, laid := [("math/bits.deBruijn32tab", laid_math_bits_deBruijn32tab), ("math/bits.deBruijn64tab", laid_math_bits_deBruijn64tab), ("internal/strconv.uint64pow10", laid_internal_strconv_uint64pow10)] }
def TaxFewestSaid : Prop := taxFewestRow.holds Tryz.pinned (OpenSpec.ofChange taxFewestSpec)

/-- ITS FALSE NEIGHBOUR: 'it returns false'. Refute it at one input. -/
def taxFewestWrong : ChangeSpec := { name := "taxFewest", fn := fun _ => fun
  | [d1, d2] => { results := [.lit (.bool false)], args := [d1, d2] }
  | _ => none }
def TaxFewestWrongFalsely : Prop := taxFewestRow.holds Tryz.pinned (OpenSpec.ofChange taxFewestWrong)

/-- 'pecialaw07.TaxSettled': WHATEVER THE INPUT: true; the input reads as it did. -/
def taxSettledSpec : ChangeSpec := { name := "taxSettled", fn := fun _ => fun
  | [d1, d2] => { results := [.lit (.bool true)], args := [d1, d2] }
  | _ => none }
def taxSettledRow : OpenClaim := { program := "ytokhhoihalpaoaagreatdoor", sum := "e57001cffcd87916b500ad6a9102bee01812a1e3a10268360942b5738e371165", func := "pecia/pecialaw07.TaxSettled", spec := "taxSettled", inPlace := ["internal/abi.NoEscape", "internal/bytealg.MakeNoZero"], unfollowed := true, recurses := true, named := ["internal/strconv.uint64pow10", "math/bits.deBruijn32tab", "math/bits.deBruijn64tab"], plainKeys := false, apart := false, laid := [("math/bits.deBruijn32tab", laid_math_bits_deBruijn32tab), ("math/bits.deBruijn64tab", laid_math_bits_deBruijn64tab), ("internal/strconv.uint64pow10", laid_internal_strconv_uint64pow10)] }
def TaxSettledSaid : Prop := taxSettledRow.holds Tryz.pinned (OpenSpec.ofChange taxSettledSpec)

/-- ITS FALSE NEIGHBOUR: 'it returns false'. Refute it at one input. -/
def taxSettledWrong : ChangeSpec := { name := "taxSettled", fn := fun _ => fun
  | [d1, d2] => { results := [.lit (.bool false)], args := [d1, d2] }
  | _ => none }
def TaxSettledWrongFalsely : Prop := taxSettledRow.holds Tryz.pinned (OpenSpec.ofChange taxSettledWrong)

/-- 'peciatop.TopDealsArePaid': WHATEVER THE INPUT: true; the input reads as it did. -/
def topDealsArePaidSpec : ChangeSpec := { name := "topDealsArePaid", fn := fun _ => fun
  | [d1, d2, d3, d4, d5] => { results := [.lit (.bool true)], args := [d1, d2, d3, d4, d5] }
  | _ => none }
def topDealsArePaidRow : OpenClaim := { program := "ytokhhoihalpaoaagreatdoor", sum := "e57001cffcd87916b500ad6a9102bee01812a1e3a10268360942b5738e371165", func := "pecia/peciatop.TopDealsArePaid", spec := "topDealsArePaid", inPlace := ["internal/abi.NoEscape", "internal/bytealg.MakeNoZero"], unfollowed := true, recurses := true, named := ["math/bits.deBruijn32tab", "math/bits.deBruijn64tab", "internal/strconv.uint64pow10"], plainKeys := false, apart := false, laid := [("math/bits.deBruijn32tab", laid_math_bits_deBruijn32tab), ("math/bits.deBruijn64tab", laid_math_bits_deBruijn64tab), ("internal/strconv.uint64pow10", laid_internal_strconv_uint64pow10)] }
def TopDealsArePaidSaid : Prop := topDealsArePaidRow.holds Tryz.pinned (OpenSpec.ofChange topDealsArePaidSpec)

/-- ITS FALSE NEIGHBOUR: 'it returns false'. Refute it at one input. -/
def topDealsArePaidWrong : ChangeSpec := { name := "topDealsArePaid", fn := fun _ => fun
  | [d1, d2, d3, d4, d5] => { results := [.lit (.bool false)], args := [d1, d2, d3, d4, d5] }
  | _ => none }
def TopDealsArePaidWrongFalsely : Prop := topDealsArePaidRow.holds Tryz.pinned (OpenSpec.ofChange topDealsArePaidWrong)

/- THE SECOND FORM. 'bulk': how many values and letters a reading holds, each counted each time it is reached (what is shared counts as often as it is met; a slice's spare places count too). A statement '..UptoSaid' is the law's where the arguments, and the package variables that the reading takes, are together of bulk at most 1048576: NARROWER than '..Said'. Prove '..Said' where nothing that the law and all that it calls make is longer than what came in: it says more and counts as full. Else prove '..UptoSaid'. A law counts once. -/
mutual
def uptoBulk {H : Type} : DataW H → Nat
  | .lit (.string bytes) => bytes.length + 1
  | .lit _ => 1
  | .nil => 1
  | .ptr d => uptoBulk d + 1
  | .slice elems spare => uptoBulkAll elems + uptoBulkAll spare + 1
  | .agg parts => uptoBulkAll parts + 1
  | .iface _ d => uptoBulk d + 1
  | .map entries => uptoBulkEntries entries + 1
  | .held _ => 1
def uptoBulkAll {H : Type} : List (DataW H) → Nat
  | [] => 0
  | d :: r => uptoBulk d + uptoBulkAll r
def uptoBulkEntries {H : Type} : List (Lit × DataW H) → Nat
  | [] => 0
  | x :: r => uptoBulkEntry x + uptoBulkEntries r
def uptoBulkEntry {H : Type} : Lit × DataW H → Nat
  | (.string bytes, d) => bytes.length + uptoBulk d + 1
  | (_, d) => uptoBulk d + 1
 end
def uptoSmall : (H : Type) → List (DataW H) → Bool := fun _ ds => decide (uptoBulkAll ds ≤ 1048576)
def OpenSpec.upto (s : _root_.Go.ChangeSpec) : _root_.Go.OpenSpec := { _root_.Go.OpenSpec.ofChange s with cond := some uptoSmall }

/-- 'pecialaw07.TaxCoins', WHERE WHAT IT READS IS OF BULK AT MOST 1048576: true; the input reads as it did. -/
def taxCoinsUptoRow : OpenClaim := { program := "ytokhhoihalpaoaagreatdoor", sum := "e57001cffcd87916b500ad6a9102bee01812a1e3a10268360942b5738e371165", func := "pecia/pecialaw07.TaxCoins", spec := "taxCoins", inPlace := ["internal/abi.NoEscape", "internal/bytealg.MakeNoZero"], unfollowed := true, recurses := true, named := ["internal/strconv.uint64pow10", "math/bits.deBruijn32tab", "math/bits.deBruijn64tab"], plainKeys := false, apart := false, laid := [("math/bits.deBruijn32tab", laid_math_bits_deBruijn32tab), ("math/bits.deBruijn64tab", laid_math_bits_deBruijn64tab), ("internal/strconv.uint64pow10", laid_internal_strconv_uint64pow10)], narrowed := true }
def TaxCoinsUptoSaid : Prop := taxCoinsUptoRow.holds Tryz.pinned (OpenSpec.upto taxCoinsSpec)

/-- 'pecialaw07.TaxPrices', WHERE WHAT IT READS IS OF BULK AT MOST 1048576: true; the input reads as it did. -/
def taxPricesUptoRow : OpenClaim := { program := "ytokhhoihalpaoaagreatdoor", sum := "e57001cffcd87916b500ad6a9102bee01812a1e3a10268360942b5738e371165", func := "pecia/pecialaw07.TaxPrices", spec := "taxPrices", inPlace := ["internal/abi.NoEscape", "internal/bytealg.MakeNoZero"], unfollowed := true, recurses := true, named := ["internal/strconv.uint64pow10", "math/bits.deBruijn32tab", "math/bits.deBruijn64tab"], plainKeys := false, apart := false, laid := [("math/bits.deBruijn32tab", laid_math_bits_deBruijn32tab), ("math/bits.deBruijn64tab", laid_math_bits_deBruijn64tab), ("internal/strconv.uint64pow10", laid_internal_strconv_uint64pow10)], narrowed := true }
def TaxPricesUptoSaid : Prop := taxPricesUptoRow.holds Tryz.pinned (OpenSpec.upto taxPricesSpec)

/-- 'pecialaw07.TaxBills', WHERE WHAT IT READS IS OF BULK AT MOST 1048576: true; the input reads as it did. -/
def taxBillsUptoRow : OpenClaim := { program := "ytokhhoihalpaoaagreatdoor", sum := "e57001cffcd87916b500ad6a9102bee01812a1e3a10268360942b5738e371165", func := "pecia/pecialaw07.TaxBills", spec := "taxBills", inPlace := ["internal/abi.NoEscape", "internal/bytealg.MakeNoZero"], unfollowed := true, recurses := true, named := ["internal/strconv.uint64pow10", "math/bits.deBruijn32tab", "math/bits.deBruijn64tab"], plainKeys := false, apart := false, laid := [("math/bits.deBruijn32tab", laid_math_bits_deBruijn32tab), ("math/bits.deBruijn64tab", laid_math_bits_deBruijn64tab), ("internal/strconv.uint64pow10", laid_internal_strconv_uint64pow10)], narrowed := true }
def TaxBillsUptoSaid : Prop := taxBillsUptoRow.holds Tryz.pinned (OpenSpec.upto taxBillsSpec)

/-- 'pecialaw07.TaxShares', WHERE WHAT IT READS IS OF BULK AT MOST 1048576: true; the input reads as it did. -/
def taxSharesUptoRow : OpenClaim := { program := "ytokhhoihalpaoaagreatdoor", sum := "e57001cffcd87916b500ad6a9102bee01812a1e3a10268360942b5738e371165", func := "pecia/pecialaw07.TaxShares", spec := "taxShares", inPlace := ["internal/abi.NoEscape", "internal/bytealg.MakeNoZero"], unfollowed := true, recurses := true, named := ["internal/strconv.uint64pow10", "math/bits.deBruijn32tab", "math/bits.deBruijn64tab"], plainKeys := false, apart := false, laid := [("math/bits.deBruijn32tab", laid_math_bits_deBruijn32tab), ("math/bits.deBruijn64tab", laid_math_bits_deBruijn64tab), ("internal/strconv.uint64pow10", laid_internal_strconv_uint64pow10)], narrowed := true }
def TaxSharesUptoSaid : Prop := taxSharesUptoRow.holds Tryz.pinned (OpenSpec.upto taxSharesSpec)

/-- 'pecialaw07.TaxPosts', WHERE WHAT IT READS IS OF BULK AT MOST 1048576: true; the input reads as it did. -/
def taxPostsUptoRow : OpenClaim := { program := "ytokhhoihalpaoaagreatdoor", sum := "e57001cffcd87916b500ad6a9102bee01812a1e3a10268360942b5738e371165", func := "pecia/pecialaw07.TaxPosts", spec := "taxPosts", inPlace := ["internal/abi.NoEscape", "internal/bytealg.MakeNoZero"], unfollowed := true, recurses := true, named := ["internal/strconv.uint64pow10", "math/bits.deBruijn32tab", "math/bits.deBruijn64tab"], plainKeys := false, apart := false, laid := [("math/bits.deBruijn32tab", laid_math_bits_deBruijn32tab), ("math/bits.deBruijn64tab", laid_math_bits_deBruijn64tab), ("internal/strconv.uint64pow10", laid_internal_strconv_uint64pow10)], narrowed := true }
def TaxPostsUptoSaid : Prop := taxPostsUptoRow.holds Tryz.pinned (OpenSpec.upto taxPostsSpec)

/-- 'pecialaw07.TaxSettles', WHERE WHAT IT READS IS OF BULK AT MOST 1048576: true; the input reads as it did. -/
def taxSettlesUptoRow : OpenClaim := { program := "ytokhhoihalpaoaagreatdoor", sum := "e57001cffcd87916b500ad6a9102bee01812a1e3a10268360942b5738e371165", func := "pecia/pecialaw07.TaxSettles", spec := "taxSettles", inPlace := ["internal/abi.NoEscape", "internal/bytealg.MakeNoZero"], unfollowed := true, recurses := true, named := ["internal/strconv.uint64pow10", "math/bits.deBruijn32tab", "math/bits.deBruijn64tab"], plainKeys := false, apart := false, laid := [("math/bits.deBruijn32tab", laid_math_bits_deBruijn32tab), ("math/bits.deBruijn64tab", laid_math_bits_deBruijn64tab), ("internal/strconv.uint64pow10", laid_internal_strconv_uint64pow10)], narrowed := true }
def TaxSettlesUptoSaid : Prop := taxSettlesUptoRow.holds Tryz.pinned (OpenSpec.upto taxSettlesSpec)

/-- 'pecialaw07.TaxCounts', WHERE WHAT IT READS IS OF BULK AT MOST 1048576: true; the input reads as it did. -/
def taxCountsUptoRow : OpenClaim := { program := "ytokhhoihalpaoaagreatdoor", sum := "e57001cffcd87916b500ad6a9102bee01812a1e3a10268360942b5738e371165", func := "pecia/pecialaw07.TaxCounts", spec := "taxCounts", inPlace := ["internal/abi.NoEscape", "internal/bytealg.MakeNoZero"], unfollowed := true, recurses := true, named := ["internal/strconv.uint64pow10", "math/bits.deBruijn32tab", "math/bits.deBruijn64tab"], plainKeys := false, apart := false, laid := [("math/bits.deBruijn32tab", laid_math_bits_deBruijn32tab), ("math/bits.deBruijn64tab", laid_math_bits_deBruijn64tab), ("internal/strconv.uint64pow10", laid_internal_strconv_uint64pow10)], narrowed := true }
def TaxCountsUptoSaid : Prop := taxCountsUptoRow.holds Tryz.pinned (OpenSpec.upto taxCountsSpec)

/-- 'pecialaw07.TaxYears', WHERE WHAT IT READS IS OF BULK AT MOST 1048576: true; the input reads as it did. -/
def taxYearsUptoRow : OpenClaim := { program := "ytokhhoihalpaoaagreatdoor", sum := "e57001cffcd87916b500ad6a9102bee01812a1e3a10268360942b5738e371165", func := "pecia/pecialaw07.TaxYears", spec := "taxYears", inPlace := ["internal/abi.NoEscape", "internal/bytealg.MakeNoZero"], unfollowed := true, recurses := true, named := ["internal/strconv.uint64pow10", "math/bits.deBruijn32tab", "math/bits.deBruijn64tab"], plainKeys := false, apart := false, laid := [("math/bits.deBruijn32tab", laid_math_bits_deBruijn32tab), ("math/bits.deBruijn64tab", laid_math_bits_deBruijn64tab), ("internal/strconv.uint64pow10", laid_internal_strconv_uint64pow10)], narrowed := true }
def TaxYearsUptoSaid : Prop := taxYearsUptoRow.holds Tryz.pinned (OpenSpec.upto taxYearsSpec)

/-- 'pecialaw07.TaxLater', WHERE WHAT IT READS IS OF BULK AT MOST 1048576: true; the input reads as it did. -/
def taxLaterUptoRow : OpenClaim := { program := "ytokhhoihalpaoaagreatdoor", sum := "e57001cffcd87916b500ad6a9102bee01812a1e3a10268360942b5738e371165", func := "pecia/pecialaw07.TaxLater", spec := "taxLater", inPlace := ["internal/abi.NoEscape", "internal/bytealg.MakeNoZero"], unfollowed := true, recurses := true, named := ["internal/strconv.uint64pow10", "math/bits.deBruijn32tab", "math/bits.deBruijn64tab"], plainKeys := false, apart := false, laid := [("math/bits.deBruijn32tab", laid_math_bits_deBruijn32tab), ("math/bits.deBruijn64tab", laid_math_bits_deBruijn64tab), ("internal/strconv.uint64pow10", laid_internal_strconv_uint64pow10)], narrowed := true }
def TaxLaterUptoSaid : Prop := taxLaterUptoRow.holds Tryz.pinned (OpenSpec.upto taxLaterSpec)

/-- 'pecialaw07.TaxEveryCoin', WHERE WHAT IT READS IS OF BULK AT MOST 1048576: true; the input reads as it did. -/
def taxEveryCoinUptoRow : OpenClaim := { program := "ytokhhoihalpaoaagreatdoor", sum := "e57001cffcd87916b500ad6a9102bee01812a1e3a10268360942b5738e371165", func := "pecia/pecialaw07.TaxEveryCoin", spec := "taxEveryCoin", inPlace := ["internal/abi.NoEscape", "internal/bytealg.MakeNoZero"], unfollowed := true, recurses := true, named := ["internal/strconv.uint64pow10", "math/bits.deBruijn32tab", "math/bits.deBruijn64tab"], plainKeys := false, apart := false, laid := [("math/bits.deBruijn32tab", laid_math_bits_deBruijn32tab), ("math/bits.deBruijn64tab", laid_math_bits_deBruijn64tab), ("internal/strconv.uint64pow10", laid_internal_strconv_uint64pow10)], narrowed := true }
def TaxEveryCoinUptoSaid : Prop := taxEveryCoinUptoRow.holds Tryz.pinned (OpenSpec.upto taxEveryCoinSpec)

/-- 'pecialaw07.TaxTurns', WHERE WHAT IT READS IS OF BULK AT MOST 1048576: true; the input reads as it did. -/
def taxTurnsUptoRow : OpenClaim := { program := "ytokhhoihalpaoaagreatdoor", sum := "e57001cffcd87916b500ad6a9102bee01812a1e3a10268360942b5738e371165", func := "pecia/pecialaw07.TaxTurns", spec := "taxTurns", inPlace := ["internal/abi.NoEscape", "internal/bytealg.MakeNoZero"], unfollowed := true, recurses := true, named := ["internal/strconv.uint64pow10", "math/bits.deBruijn32tab", "math/bits.deBruijn64tab"], plainKeys := false, apart := false, laid := [("math/bits.deBruijn32tab", laid_math_bits_deBruijn32tab), ("math/bits.deBruijn64tab", laid_math_bits_deBruijn64tab), ("internal/strconv.uint64pow10", laid_internal_strconv_uint64pow10)], narrowed := true }
def TaxTurnsUptoSaid : Prop := taxTurnsUptoRow.holds Tryz.pinned (OpenSpec.upto taxTurnsSpec)

/-- 'pecialaw07.TaxLedgers', WHERE WHAT IT READS IS OF BULK AT MOST 1048576: true; the input reads as it did. -/
def taxLedgersUptoRow : OpenClaim := { program := "ytokhhoihalpaoaagreatdoor", sum := "e57001cffcd87916b500ad6a9102bee01812a1e3a10268360942b5738e371165", func := "pecia/pecialaw07.TaxLedgers", spec := "taxLedgers", inPlace := ["internal/abi.NoEscape", "internal/bytealg.MakeNoZero"], unfollowed := true, recurses := true, named := ["internal/strconv.uint64pow10", "math/bits.deBruijn32tab", "math/bits.deBruijn64tab"], plainKeys := false, apart := false, laid := [("math/bits.deBruijn32tab", laid_math_bits_deBruijn32tab), ("math/bits.deBruijn64tab", laid_math_bits_deBruijn64tab), ("internal/strconv.uint64pow10", laid_internal_strconv_uint64pow10)], narrowed := true }
def TaxLedgersUptoSaid : Prop := taxLedgersUptoRow.holds Tryz.pinned (OpenSpec.upto taxLedgersSpec)

/-- 'pecialaw07.TaxFewest', WHERE WHAT IT READS IS OF BULK AT MOST 1048576: true; the input reads as it did. -/
def taxFewestUptoRow : OpenClaim := { program := "ytokhhoihalpaoaagreatdoor", sum := "e57001cffcd87916b500ad6a9102bee01812a1e3a10268360942b5738e371165", func := "pecia/pecialaw07.TaxFewest", spec := "taxFewest", inPlace := ["internal/abi.NoEscape", "internal/bytealg.MakeNoZero"], unfollowed := true, recurses := true, named := ["internal/strconv.uint64pow10", "math/bits.deBruijn32tab", "math/bits.deBruijn64tab"], plainKeys := false, apart := false, laid := [("math/bits.deBruijn32tab", laid_math_bits_deBruijn32tab), ("math/bits.deBruijn64tab", laid_math_bits_deBruijn64tab), ("internal/strconv.uint64pow10", laid_internal_strconv_uint64pow10)], narrowed := true }
def TaxFewestUptoSaid : Prop := taxFewestUptoRow.holds Tryz.pinned (OpenSpec.upto taxFewestSpec)

/-- 'pecialaw07.TaxSettled', WHERE WHAT IT READS IS OF BULK AT MOST 1048576: true; the input reads as it did. -/
def taxSettledUptoRow : OpenClaim := { program := "ytokhhoihalpaoaagreatdoor", sum := "e57001cffcd87916b500ad6a9102bee01812a1e3a10268360942b5738e371165", func := "pecia/pecialaw07.TaxSettled", spec := "taxSettled", inPlace := ["internal/abi.NoEscape", "internal/bytealg.MakeNoZero"], unfollowed := true, recurses := true, named := ["internal/strconv.uint64pow10", "math/bits.deBruijn32tab", "math/bits.deBruijn64tab"], plainKeys := false, apart := false, laid := [("math/bits.deBruijn32tab", laid_math_bits_deBruijn32tab), ("math/bits.deBruijn64tab", laid_math_bits_deBruijn64tab), ("internal/strconv.uint64pow10", laid_internal_strconv_uint64pow10)], narrowed := true }
def TaxSettledUptoSaid : Prop := taxSettledUptoRow.holds Tryz.pinned (OpenSpec.upto taxSettledSpec)

/-- 'peciatop.TopDealsArePaid', WHERE WHAT IT READS IS OF BULK AT MOST 1048576: true; the input reads as it did. -/
def topDealsArePaidUptoRow : OpenClaim := { program := "ytokhhoihalpaoaagreatdoor", sum := "e57001cffcd87916b500ad6a9102bee01812a1e3a10268360942b5738e371165", func := "pecia/peciatop.TopDealsArePaid", spec := "topDealsArePaid", inPlace := ["internal/abi.NoEscape", "internal/bytealg.MakeNoZero"], unfollowed := true, recurses := true, named := ["math/bits.deBruijn32tab", "math/bits.deBruijn64tab", "internal/strconv.uint64pow10"], plainKeys := false, apart := false, laid := [("math/bits.deBruijn32tab", laid_math_bits_deBruijn32tab), ("math/bits.deBruijn64tab", laid_math_bits_deBruijn64tab), ("internal/strconv.uint64pow10", laid_internal_strconv_uint64pow10)], narrowed := true }
def TopDealsArePaidUptoSaid : Prop := topDealsArePaidUptoRow.holds Tryz.pinned (OpenSpec.upto topDealsArePaidSpec)

end Rows
end Go.Proofs.YtokhhoihalpaoaaGreatDoor
