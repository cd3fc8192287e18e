/- Contracts of functions, walked. -/
import Derived.Test.YtgddlpegljkgpaaStSR
import Derived.Test.YtgddlpegljkgpaaStSU
set_option linter.all false
namespace Go.Proofs.Try
open Go.ChangeShapes Go.WideShapes Go.ChangeAt Go.RowKit Go.Joins Go.Deep Go.Am
set_option maxRecDepth 100000

/-! Sheets among the arguments. -/
section
variable {H : Type} {enc : TypeId × Value → H} {w : World}
theorem sheets_abs {r : Reach} {b0 : Nat} {v : Value} {d : DataW H} {p : List MemPlace} (hval : Value.okWide Try.prog w r b0 56 v) (h : DataW.Trod enc Try.prog w 0 (fun _ => true) true 56 v d p) : ∃ l, SheetsV (absH w) (absV w.heap.size 8 v) l := by
  obtain ⟨a0, len0, cap0, rfl⟩ := okWide_slice Try.underlying56 hval
  obtain ⟨fuel, hf⟩ := h
  obtain ⟨f0, f1, hu, h0, h1, h2, h3, h4, h5, h6⟩ := fields25
  rcases open_slice Try.underlying56 hf with ⟨hcs, _⟩ | ⟨a, len, cap, m, n, D, Pl, hcs, _, hl, hm, hmm, _, hi⟩
  · have hcs2 : [Value.slice a0 len0 cap0] = [Value.slice none 0 0] := hcs
    injection hcs2 with hcs2 _
    injection hcs2 with e1 e2 e3
    subst e1 e2 e3
    exact ⟨[], by simp, none, 0, rfl, by simp⟩
  · have hcs2 : [Value.slice a0 len0 cap0] = [Value.slice (some a) len cap] := hcs
    injection hcs2 with hcs2 _
    injection hcs2 with e1 e2 e3
    subst e1 e2 e3
    simp only [if_true] at hmm
    have hq : ∀ i, i < len0 → ∃ q : Sheet, ∃ v0 v1, w.cell? (a.add (i * 2)) = some v0 ∧ w.cell? (a.add (i * 2 + 1)) = some v1 ∧ Ints (absH w) (absV w.heap.size 8 v0) q.words ∧ Alts (absH w) (absV w.heap.size 8 v1) q.alts := by
      intro i hii
      obtain ⟨cs', hc, ht'⟩ := hi i (by omega)
      rw [h6] at hc
      obtain ⟨y0, y1, n', _, hlen, ht0, ht1⟩ := trod_struct2 hu ht'
      obtain ⟨_, hcl, hat⟩ := World.cells?_some hc
      rw [h6] at hlen
      obtain ⟨c0, c1, rfl⟩ : ∃ c0 c1, cs' = [c0, c1] := by
        match cs', hlen with
        | [a, b], _ => exact ⟨a, b, rfl⟩
      have hv0 := hat 0 (by decide)
      have hv1 := hat 1 (by decide)
      rw [h0, h2, h4] at ht0
      rw [h1, h3, h5] at ht1
      obtain ⟨xs, hx⟩ := ints_abs (d := 7) (v := c0) (by simpa using ht0)
      obtain ⟨al, hla⟩ := alts_abs (d := 7) (v := c1) (by simpa using ht1)
      refine ⟨⟨xs, al⟩, c0, c1, ?_, ?_, hx, hla⟩
      · rw [Go.Deep.add_add] at hv0; simpa using hv0
      · rw [Go.Deep.add_add] at hv1; simpa using hv1
    obtain ⟨g, hg⟩ := Classical.skolem.1 (fun i => show ∃ q : Sheet × Value × Value, i < len0 → w.cell? (a.add (i * 2)) = some q.2.1 ∧ w.cell? (a.add (i * 2 + 1)) = some q.2.2 ∧ Ints (absH w) (absV w.heap.size 8 q.2.1) q.1.words ∧ Alts (absH w) (absV w.heap.size 8 q.2.2) q.1.alts by
      by_cases hi : i < len0
      · obtain ⟨q, v0, v1, hh⟩ := hq i hi; exact ⟨(q, v0, v1), fun _ => hh⟩
      · exact ⟨(⟨[], []⟩, .nilFunc, .nilFunc), fun h => absurd h hi⟩)
    have hlen : ((List.range len0).map fun i => (g i).1).length = len0 := by simp
    have key : ∃ a' c', absV w.heap.size 8 (Value.slice (some a) len0 cap0) = .slice a' len0 c' ∧ (0 < len0 → ∃ b o sp, a' = some ⟨b, o, sp⟩ ∧ b < (absH w).n ∧ ∀ k, k < len0 → ∃ wv av, cellsAt (absH w) b (o + k * 2) 2 = some [wv, av] ∧ SheetV (absH w) (.agg #[wv, av]) (g k).1) := by
      by_cases h00 : len0 = 0
      · subst h00
        simp only [absV]
        split
        · exact ⟨_, _, rfl, by omega⟩
        · rw [if_pos trivial]; exact ⟨_, _, rfl, by omega⟩
      · have hc0 := (hg 0 (by omega)).1
        have e0 : a.add (0 * 2) = a := by unfold Addr.add; rw [if_pos rfl]
        rw [e0] at hc0
        have hsp := cell_spot hc0
        have hlt := cell_lt hc0
        obtain ⟨b, o, sp⟩ := a
        simp only at hsp hlt
        subst hsp
        simp only [absV]
        rw [if_pos ⟨trivial, hlt, hl⟩]
        refine ⟨_, _, rfl, fun _ => ⟨b, o, none, rfl, by rw [absH_n]; exact hlt, fun k hk => ?_⟩⟩
        obtain ⟨c0, c1, i0, i1⟩ := hg k (by omega)
        rw [add_at] at c0 c1
        refine ⟨absV w.heap.size 8 (g k).2.1, absV w.heap.size 8 (g k).2.2, ?_, ⟨_, _, rfl, by simpa using i0, by simpa using i1⟩⟩
        refine cellsAt_of (us := [absV w.heap.size 8 (g k).2.1, absV w.heap.size 8 (g k).2.2]) (by simp) fun j u hu => ?_
        match j, hu with
        | 0, hu => rw [Nat.add_zero, abs_cell c0]; exact hu
        | 1, hu => rw [Nat.add_assoc, abs_cell c1]; exact hu
        | j + 2, hu => simp at hu
    obtain ⟨a', c', k1, k2⟩ := key
    refine ⟨(List.range len0).map fun i => (g i).1, by rw [hlen]; unfold maxLen at hm; omega, a', c', by rw [hlen]; exact k1, fun hn => ?_⟩
    rw [hlen] at hn
    obtain ⟨b, o, sp, k3, k4, k5⟩ := k2 hn
    refine ⟨b, o, sp, k3, k4, fun k hk => ?_⟩
    obtain ⟨wv, av, k6, k7⟩ := k5 k (by rw [hlen] at hk; exact hk)
    exact ⟨wv, av, k6, by simpa using k7⟩
end
end Go.Proofs.Try
