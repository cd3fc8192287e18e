/- Contracts of functions, walked. -/
set_option linter.all false
namespace Go.Co
def posL (n : Int) (l : List Int) : Nat → Nat
  | 0 => 0
  | k + 1 => if l.getD k 0 > n then posL n l k else k + 1
def insL (l : List Int) (n : Int) : List Int := l.take (posL n l l.length) ++ n :: l.drop (posL n l l.length)
def sortL (l : List Int) : List Int := l.foldl insL []
theorem posL_le (n : Int) (l : List Int) : ∀ k, posL n l k ≤ k
  | 0 => Nat.le_refl _
  | k + 1 => by
    rw [posL]
    split
    · exact Nat.le_succ_of_le (posL_le n l k)
    · exact Nat.le_refl _
theorem insL_len (l : List Int) (n : Int) : (insL l n).length = l.length + 1 := by
  have := posL_le n l l.length
  simp [insL]; omega
theorem insL_mem (l : List Int) (n x : Int) : x ∈ insL l n ↔ x ∈ l ∨ x = n := by
  rw [insL, List.mem_append, List.mem_cons]
  conv => rhs; rw [← List.take_append_drop (posL n l l.length) l, List.mem_append]
  constructor
  · rintro (h | h | h)
    · exact .inl (.inl h)
    · exact .inr h
    · exact .inl (.inr h)
  · rintro ((h | h) | h)
    · exact .inl h
    · exact .inr (.inr h)
    · exact .inr (.inl h)
theorem foldl_insL_len : ∀ (l acc : List Int), (l.foldl insL acc).length = acc.length + l.length
  | [], acc => rfl
  | x :: t, acc => by rw [List.foldl_cons, foldl_insL_len t, insL_len]; simp; omega
theorem sortL_len (l : List Int) : (sortL l).length = l.length := by rw [sortL, foldl_insL_len]; simp
theorem foldl_insL_mem (x : Int) : ∀ (l acc : List Int), x ∈ l.foldl insL acc ↔ x ∈ acc ∨ x ∈ l
  | [], acc => by simp
  | y :: t, acc => by
    rw [List.foldl_cons, foldl_insL_mem x t, insL_mem, List.mem_cons]
    constructor
    · rintro ((h | h) | h)
      · exact .inl h
      · exact .inr (.inl h)
      · exact .inr (.inr h)
    · rintro (h | h | h)
      · exact .inl (.inl h)
      · exact .inl (.inr h)
      · exact .inr h
theorem sortL_mem (x : Int) (l : List Int) : x ∈ sortL l ↔ x ∈ l := by rw [sortL, foldl_insL_mem]; simp
theorem sortL_snoc (l : List Int) (x : Int) : sortL (l ++ [x]) = insL (sortL l) x := by simp [sortL]
theorem insL_get (l : List Int) (n : Int) (t : Nat) : (insL l n).getD t 0 = if t < posL n l l.length then l.getD t 0 else if t = posL n l l.length then n else l.getD (t - 1) 0 := by
  have hp := posL_le n l l.length
  simp only [insL, List.getD_eq_getElem?_getD, List.getElem?_append, List.length_take, Nat.min_eq_left hp]
  by_cases h1 : t < posL n l l.length
  · rw [if_pos h1, if_pos h1, List.getElem?_take, if_pos h1]
  · rw [if_neg h1, if_neg h1]
    by_cases h2 : t = posL n l l.length
    · rw [if_pos h2, h2]; simp
    · rw [if_neg h2, show t - posL n l l.length = (t - 1 - posL n l l.length) + 1 by omega, List.getElem?_cons_succ, List.getElem?_drop, show posL n l l.length + (t - 1 - posL n l l.length) = t - 1 by omega]
theorem sortL_take {l : List Int} {i : Nat} (h : i < l.length) : sortL (l.take (i + 1)) = insL (sortL (l.take i)) (l.getD i 0) := by
  rw [List.take_succ_eq_append_getElem h, sortL_snoc]; simp [List.getD_eq_getElem?_getD, h]
def WayAt (S : List Int) (x : Int) (L0 : List Int) (i j : Nat) (L : List Int) : Prop := ∀ t, t < L0.length → L.getD t 0 = if t < j then S.getD t 0 else if t = j then x else if t ≤ i then S.getD (t - 1) 0 else L0.getD t 0
def PartAt (L0 : List Int) (i : Nat) (L : List Int) : Prop := ∀ t, t < L0.length → L.getD t 0 = if t < i then (sortL (L0.take i)).getD t 0 else L0.getD t 0
theorem part_way {L0 L : List Int} {i : Nat} (h : PartAt L0 i L) : WayAt (sortL (L0.take i)) (L0.getD i 0) L0 i i L := by
  intro t ht
  rw [h t ht]
  by_cases h1 : t < i
  · rw [if_pos h1, if_pos h1]
  · rw [if_neg h1, if_neg h1]
    by_cases h2 : t = i
    · rw [if_pos h2, h2]
    · rw [if_neg h2, if_neg (by omega)]
theorem way_part {L0 L : List Int} {i j : Nat} (hi : i < L0.length) (h : WayAt (sortL (L0.take i)) (L0.getD i 0) L0 i j L) (hj : posL (L0.getD i 0) (sortL (L0.take i)) i = j) : PartAt L0 (i + 1) L := by
  intro t ht
  have hl : (sortL (L0.take i)).length = i := by rw [sortL_len]; simp; omega
  rw [h t ht, sortL_take hi, insL_get, hl, hj]
  by_cases h1 : t < i + 1
  · rw [if_pos h1]
    by_cases h2 : t < j
    · rw [if_pos h2, if_pos h2]
    · rw [if_neg h2, if_neg h2]
      by_cases h3 : t = j
      · rw [if_pos h3, if_pos h3]
      · rw [if_neg h3, if_neg h3, if_pos (by omega)]
  · have h9 : j ≤ i := by rw [← hj]; exact posL_le _ _ _
    rw [if_neg h1, if_neg (by omega), if_neg (by omega), if_neg (by omega)]
theorem way_step {S L0 L L2 : List Int} {x : Int} {i j : Nat} (hj : j + 1 ≤ i) (h : WayAt S x L0 i (j + 1) L) (h2 : ∀ t, L2.getD t 0 = if t = j then x else if t = j + 1 then S.getD j 0 else L.getD t 0) : WayAt S x L0 i j L2 := by
  intro t ht
  rw [h2 t]
  by_cases h3 : t = j
  · rw [if_pos h3, if_neg (by omega), if_pos h3]
  · rw [if_neg h3]
    by_cases h4 : t = j + 1
    · rw [if_pos h4, if_neg (by omega), if_neg (by omega), if_pos (by omega), h4]; rfl
    · rw [if_neg h4, h t ht]
      by_cases h5 : t < j
      · rw [if_pos (by omega), if_pos h5]
      · rw [if_neg (by omega), if_neg h4, if_neg h5, if_neg h3]
theorem part_one (L0 : List Int) : PartAt L0 1 L0 := by
  intro t ht
  by_cases h : t < 1
  · rw [if_pos h]
    cases L0 with
    | nil => simp at ht
    | cons a l => obtain rfl : t = 0 := by omega
                  simp [sortL, insL, posL]
  · rw [if_neg h]
theorem part_end {L0 L : List Int} (hl : L.length = L0.length) (h : PartAt L0 L0.length L) : L = sortL L0 := by
  refine List.ext_getElem (by rw [hl, sortL_len]) fun t h1 h2 => ?_
  have := h t (by omega)
  rw [if_pos (by omega), List.take_length] at this
  simpa [List.getD_eq_getElem?_getD, h1, h2] using this
end Go.Co
