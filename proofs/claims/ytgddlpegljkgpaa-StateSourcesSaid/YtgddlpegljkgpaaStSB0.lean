/- Contracts of functions, walked. -/
import Derived.Test.YtgddlpegljkgpaaStSA
import Derived.Test.YtgddlpegljkgpaaAmS
set_option linter.all false
namespace Go.Proofs.Try
open Go Go.Am Go.RowKit
set_option maxRecDepth 100000

theorem head_s {loops : List (Nat × LInfo)} {H : AHeap} : CallS Try.prog loops 18 [] H fun r H' => r = .bool true ∧ H' = H := CallS.of_calls rfl rfl sanity_calls
theorem insideL_off (l : List Str) (w d : Int) : insideL (offS l w) d = l.any fun x => x.has.offers w && x.covers d := by
  induction l with
  | nil => rfl
  | cons x t ih =>
    have e : offS (x :: t) w = (if x.has.offers w = true then [(x.lo, x.hi)] else []) ++ offS t w := by
      unfold offS
      by_cases h : x.has.offers w = true <;> simp [h]
    rw [e, List.any_cons, ← ih]
    by_cases h : x.has.offers w = true <;> simp [h, insideL, Str.covers]
def hasOn (s : Sheet) (line d : Int) : Has := atDay line d ⟨s.words[line.toNat]!, 0, false⟩ s.alts
end Go.Proofs.Try
