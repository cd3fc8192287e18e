/- Contracts of functions, walked. -/
import Derived.Test.YtgddlpegljkgpaaStS4
set_option linter.all false
namespace Go.Proofs.Try
open Go Go.Am Go.RowKit
set_option maxRecDepth 100000

/-! Slices of the call's own. -/
theorem own_block {H : AHeap} {bs : Nat} {v : Value} {e : TypeId} {size : Nat} {cells : List Value} (h : Own H bs v e size cells) {i n : Nat} (hv : v = .slice (some ⟨i, 0, none⟩) n n) (hn : 0 < n) : bs ≤ i ∧ i < H.n ∧ H.get i = .row cells e := by
  rcases h with ⟨h, _⟩ | ⟨b, m, h1, h2, h3, h4, h5⟩
  · rw [hv] at h; cases h
  · rw [hv] at h1; cases h1; exact ⟨h2, h3, h4⟩
theorem own_slice {H : AHeap} {bs : Nat} {v : Value} {e : TypeId} {size : Nat} {cells : List Value} (h : Own H bs v e size cells) : ∃ a n, v = .slice a n n := by
  rcases h with ⟨rfl, _⟩ | ⟨b, m, h1, _⟩
  · exact ⟨none, 0, rfl⟩
  · exact ⟨_, m, h1⟩
theorem own_at {H H' : AHeap} {bs : Nat} {v : Value} {e : TypeId} {size : Nat} {cells : List Value} (h : Own H bs v e size cells) (hn : H.n ≤ H'.n) (hg : ∀ i n, v = .slice (some ⟨i, 0, none⟩) n n → 0 < n → H'.get i = H.get i) : Own H' bs v e size cells := by
  rcases h with h | ⟨b, m, h1, h2, h3, h4, h5, h6⟩
  · exact .inl h
  · exact .inr ⟨b, m, h1, h2, Nat.lt_of_lt_of_le h3 hn, (hg b m h1 h6).trans h4, h5, h6⟩
theorem errLine_ok {s : Sheet} {line : Int} (h : errLine s line = 0) : err s = 0 ∧ 0 ≤ line ∧ line < s.words.length := by
  unfold errLine at h
  by_cases he : err s = 0
  · rw [if_neg (by simp [he])] at h
    by_cases hw : win 0 (s.words.length - 1) line = true
    · have := win_iff.1 hw
      exact ⟨he, this.1, by omega⟩
    · rw [if_neg hw] at h; cases h
  · rw [if_pos he] at h; exact absurd h he
theorem own_upd {H : AHeap} {base : Nat} {v : Value} {e : TypeId} {size : Nat} {cells : List Value} {i : Nat} {o : AObj} (h : Own H base v e size cells) (hi : i < base) : Own (H.upd i o) base v e size cells :=
  own_at h (by rw [AHeap.n_upd]; exact Nat.le_refl _) fun j n hv hn => AHeap.get_upd_ne (by have := (own_block h hv hn).1; omega)
theorem Str.val_inj {x y : Str} (h : x.val = y.val) : x = y := by
  obtain ⟨a, b, ⟨c, d, e⟩⟩ := x
  obtain ⟨a', b', ⟨c', d', e'⟩⟩ := y
  simp [Str.val] at h
  simp [h]
theorem strs_inj : ∀ (a b : List Str), a.map Str.val = b.map Str.val → b = a
  | [], [], _ => rfl
  | [], _ :: _, h => by simp at h
  | _ :: _, [], h => by simp at h
  | x :: t, y :: u, h => by
    simp only [List.map_cons, List.cons.injEq] at h
    rw [Str.val_inj h.1, strs_inj t u h.2]
end Go.Proofs.Try
