/- Contracts of functions, walked. -/
import Derived.Test.YtbpdmnkbehapcaaChecked
import Derived.Test.YtbpdmnkbehapcaaRows
import Derived.Below
import Derived.Carry
import Derived.Deep.Slices
import Derived.Deep.Fields
import Derived.ChangeSame
import Derived.ProofKit
import Derived.OpenShut
import Derived.ShutString
import Derived.ChangeOld
import Derived.Lib.SmallJoins
import Derived.Test.YtbpdmnkbehapcaaStPE
set_option linter.all false
namespace Go.Proofs.Try
open Go Go.Am Go.RowKit
set_option maxRecDepth 100000


theorem Good.lohi {t : Tour} (hg : Good t) {l : Nat} (h : l < t.flaws.length) : 0 ≤ loN t.flaws l ∧ loN t.flaws l ≤ hiN t.flaws l ∧ hiN t.flaws l < t.days := by
  have h1 := hg.right _ (List.getElem_mem h)
  simp only [Flaw.right, Tour.isSpan, Tour.isDay, Bool.and_eq_true, win_iff, decide_eq_true_eq] at h1
  rw [loN, hiN, getD_in h]
  omega
theorem Good.inj {t : Tour} (hg : Good t) {i j : Nat} (hi : i < t.flaws.length) (hj : j < t.flaws.length) (he : (t.flaws[i]).id = (t.flaws[j]).id) : i = j := by
  have hnd := hg.nodup
  rw [List.nodup_iff_pairwise_ne, List.pairwise_iff_getElem] at hnd
  rcases Nat.lt_trichotomy i j with h | h | h
  · exact absurd (by rw [List.getElem_map, List.getElem_map]; exact he) (hnd i j (by simpa using hi) (by simpa using hj) h)
  · exact h
  · exact absurd (by rw [List.getElem_map, List.getElem_map]; exact he.symm) (hnd j i (by simpa using hj) (by simpa using hi) h)
theorem Good.at_id {t : Tour} (hg : Good t) {i : Nat} (hi : i < t.flaws.length) : atOf t.flaws (t.flaws[i]).id = i := by
  have hmm : (t.flaws[i]).id ∈ t.flaws.map (·.id) := List.mem_map.2 ⟨_, List.getElem_mem hi, rfl⟩
  exact hg.inj (atOf_lt hmm) hi (atOf_id hmm)
theorem best_jam {t : Tour} (hg : Good t) {C : Nat → Int} {m : Nat → Int} (hp : PlanD t.flaws t.D0 C) (hb : BestOf (canD t.flaws t.D0) m C t.flaws.length) {u : Nat} (hu : u < t.flaws.length) (hn : ¬ Has C u) {ids : List Int} (hl : t.listed ids = true) (hids : ∀ (i : Nat) (h : i < t.flaws.length), m u ≤ m i → (t.flaws[i]).id ∈ ids) : ∃ lo hi, t.isJam ids lo hi = true := by
  obtain ⟨S, hS⟩ := hb.cert u hu hn
  obtain ⟨L, T, fr, htr, hlt, hfr⟩ := trail_exists hp hn _ _ _ (Nat.le_refl _) (TrP.first (D := C) (D0 := t.D0) hu)
  have hLS : ∀ l, l ∈ L → S l ∨ l = u := fun l hl => by
    obtain ⟨j, hj, rfl⟩ := List.mem_iff_getElem.1 hl
    exact trail_cert hS htr (j + 1) j _ (Nat.lt_succ_self j) (List.getElem?_eq_getElem hj)
  have hfull : Full (canD t.flaws t.D0) C L := by
    rcases hfr with ⟨-, hf⟩ | ⟨d, l, -, hd, hT, hD⟩
    · exact hf
    · exfalso
      obtain ⟨hc, j, hj, -⟩ := htr.take d l hT
      obtain ⟨g, hg2, -⟩ := hS.days l (hLS l (List.mem_of_getElem? hj)) d hc
      omega
  have hne : L ≠ [] := fun h => by have := htr.head; rw [h] at this; cases this
  have huL : u ∈ L := List.mem_of_getElem? htr.head
  obtain ⟨a, ha, hmin⟩ := min_exists (loN t.flaws) L hne
  obtain ⟨b, hb2, hmax⟩ := min_exists (fun l => -(hiN t.flaws l)) L hne
  have hff : FullFor t.flaws t.D0 C u (loN t.flaws a) (hiN t.flaws b) L T := ⟨htr, hlt, hfull, ⟨a, ha, rfl⟩, hmin, ⟨b, hb2, rfl⟩, fun l hl => by have := hmax l hl; omega⟩
  have ga := hg.lohi (hlt a ha)
  have gb := hg.lohi (hlt b hb2)
  have hroom := hull_room hp hn (fun l hl => (hg.lohi (hlt l hl)).2.1) ga.1 hff
  refine ⟨loN t.flaws a, hiN t.flaws b, ?_⟩
  have h5 := hmin b hb2
  simp only [Tour.isJam, Tour.isSpan, Tour.isDay, Bool.and_eq_true, win_iff, decide_eq_true_eq]
  refine ⟨by omega, Nat.lt_of_lt_of_le hroom ?_⟩
  rw [inSpan_filter]
  have key := nodup_le (L.map fun l => (t.flaws.getD l nowhere).id) (ids.filter fun x => lies (t.flawOf x).lo (t.flawOf x).hi (loN t.flaws a) (hiN t.flaws b)) ?_ ?_
  · rwa [List.length_map] at key
  · rw [List.nodup_iff_pairwise_ne, List.pairwise_map]
    have hpw := htr.nodup
    rw [List.nodup_iff_pairwise_ne] at hpw
    refine List.Pairwise.imp_of_mem (fun {x y} hx hy hxy he => hxy ?_) hpw
    have hx1 := hlt x hx
    have hy1 := hlt y hy
    rw [getD_in hx1, getD_in hy1] at he
    exact hg.inj hx1 hy1 he
  · intro z hz
    obtain ⟨l, hl2, rfl⟩ := List.mem_map.1 hz
    have hl1 := hlt l hl2
    have hml : m u ≤ m l := by
      rcases hLS l hl2 with h | h
      · exact hS.merit l h
      · rw [h]; exact Int.le_refl _
    have hid := hids l hl1 hml
    rw [getD_in hl1]
    refine List.mem_filter.2 ⟨hid, ?_⟩
    have hat : t.flawOf (t.flaws[l]).id = t.flaws[l] := by
      have h3 := hg.at_id hl1
      rw [Tour.flawOf, h3, getD_in hl1]
    rw [hat]
    have h7 := hmin l hl2
    have h8 := hmax l hl2
    rw [loN, loN, getD_in hl1] at h7
    rw [lies, Bool.and_eq_true, decide_eq_true_eq, decide_eq_true_eq]
    refine ⟨h7, ?_⟩
    have h9 : hiN t.flaws l = (t.flaws[l]).hi := by rw [hiN, getD_in hl1]
    omega

theorem hall {t : Tour} (hg : Good t) {ids : List Int} (hl : t.listed ids = true) (hj : t.jam ids = none) : ∃ E, PlanD t.flaws t.D0 E ∧ ∀ x, x ∈ ids → Has E (atOf t.flaws x) := by
  obtain ⟨C, hp, hb⟩ := best_exists t (fun x => if x ∈ ids then 1 else 0)
  refine ⟨C, hp, fun x hx => Classical.byContradiction fun hn => ?_⟩
  have hm := listed_mem hl hx
  have hu := atOf_lt hm
  have hid := atOf_id hm
  obtain ⟨lo, hi, h⟩ := best_jam hg hp hb hu hn hl (fun i h hle => by
    rw [reM_merit hu, reM_merit h, hid, if_pos hx] at hle
    refine Classical.byContradiction fun hc => ?_
    rw [if_neg hc] at hle
    omega)
  rw [jam_none hj] at h
  cases h
theorem can_of {t : Tour} {E : Nat → Int} (he : err t = 0) (hp : PlanD t.flaws t.D0 E) {ids : List Int} (hl : t.listed ids = true) (hm : ∀ x, x ∈ ids → Has E (atOf t.flaws x)) : t.can ids = true ∧ errList t ids = 0 := by
  have h1 : errList t ids = 0 := by rw [errList, if_neg (by simp [he]), if_pos hl]
  refine ⟨?_, h1⟩
  rw [Tour.can, decide_eq_true h1]
  cases hj : t.jam ids with
  | none => rfl
  | some x =>
    have := jam_some hj
    rw [plan_noJam hp hl hm] at this
    cases this
theorem can_plan {t : Tour} (hg : Good t) {ids : List Int} (hl : t.listed ids = true) (h : t.can ids = true) : ∃ E, PlanD t.flaws t.D0 E ∧ ∀ x, x ∈ ids → Has E (atOf t.flaws x) := by
  rw [Tour.can, Bool.and_eq_true] at h
  refine hall hg hl ?_
  have := h.2
  cases hj : t.jam ids with
  | none => rfl
  | some x => rw [hj] at this; cases this

theorem listed_nodup {t : Tour} {ids : List Int} (hl : t.listed ids = true) : ids.Nodup := by
  simp only [Tour.listed, Bool.and_eq_true] at hl
  rw [List.nodup_iff_pairwise_ne]
  exact (incr_lt _ hl.1).imp (fun h => by omega)
theorem cnt_ge {t : Tour} {ids : List Int} {P : Nat → Bool} (hl : t.listed ids = true) (h : ∀ x, x ∈ ids → P (atOf t.flaws x) = true) : ids.length ≤ cntP P t.flaws.length := by
  have key := nodup_len (ids.map (atOf t.flaws)) ((List.range t.flaws.length).filter P) ?_ ?_
  · rwa [List.length_map] at key
  · rw [List.nodup_iff_pairwise_ne, List.pairwise_map]
    have hpw := listed_nodup hl
    rw [List.nodup_iff_pairwise_ne] at hpw
    refine List.Pairwise.imp_of_mem (fun {x y} hx hy hxy he => hxy ?_) hpw
    have h1 := atOf_id (listed_mem hl hx)
    have h2 := atOf_id (listed_mem hl hy)
    simp only [he] at h1
    omega
  · intro i hi
    obtain ⟨x, hx, rfl⟩ := List.mem_map.1 hi
    exact List.mem_filter.2 ⟨List.mem_range.2 (atOf_lt (listed_mem hl hx)), h x hx⟩
theorem cnt_le {t : Tour} (hg : Good t) {l : List Int} {P : Nat → Bool} (h : ∀ (i : Nat) (hi : i < t.flaws.length), P i = true → (t.flaws[i]).id ∈ l) : cntP P t.flaws.length ≤ l.length := by
  have key := nodup_len (((List.range t.flaws.length).filter P).map fun i => (t.flaws.getD i nowhere).id) l ?_ ?_
  · rwa [List.length_map] at key
  · rw [List.nodup_iff_pairwise_ne, List.pairwise_map]
    have hpw : ((List.range t.flaws.length).filter P).Pairwise (· ≠ ·) := by
      rw [← List.nodup_iff_pairwise_ne]; exact List.nodup_range.filter _
    refine List.Pairwise.imp_of_mem (fun {x y} hx hy hxy he => hxy ?_) hpw
    have hx1 := List.mem_range.1 (List.mem_filter.1 hx).1
    have hy1 := List.mem_range.1 (List.mem_filter.1 hy).1
    rw [getD_in hx1, getD_in hy1] at he
    exact hg.inj hx1 hy1 he
  · intro z hz
    obtain ⟨i, hi, rfl⟩ := List.mem_map.1 hz
    obtain ⟨h1, h2⟩ := List.mem_filter.1 hi
    have h3 := List.mem_range.1 h1
    rw [getD_in h3]
    exact h i h3 h2

open Classical in
theorem exchange {t : Tour} (hg : Good t) (he : err t = 0) {a b : List Int} (hla : t.listed a = true) (hlb : t.listed b = true) (ha : t.can a = true) (hb : t.can b = true) (hlt : a.length < b.length) :
    ∃ x, x ∈ b ∧ x ∉ a ∧ ∀ ids, t.listed ids = true → (∀ y, y ∈ ids → y ∈ a ∨ y = x) → t.can ids = true ∧ errList t ids = 0 := by
  obtain ⟨Ea, hpa, hma⟩ := can_plan hg hla ha
  obtain ⟨Eb, hpb, hmb⟩ := can_plan hg hlb hb
  obtain ⟨C, hp, hbst⟩ := best_exists t (fun x => if x ∈ a then 2 else if x ∈ b then 1 else 0)
  have hN : ∀ d i : Nat, C d = (i : Int) → i < t.flaws.length := fun d i h => (hp.mat.ok d i h).1
  have hmer : ∀ x, x ∈ t.flaws.map (·.id) → meritN (reM (fun x => if x ∈ a then 2 else if x ∈ b then 1 else 0) t.flaws) (atOf t.flaws x) = if x ∈ a then 2 else if x ∈ b then 1 else 0 := fun x hx => by
    rw [reM_merit (atOf_lt hx), atOf_id hx]
  -- all of a is mended
  have hCa : ∀ x, x ∈ a → Has C (atOf t.flaws x) := by
    intro x hx
    refine Classical.byContradiction fun hn => ?_
    have h1 := best_cnt hbst hpa.mat hN 2
    have h2 : a.length ≤ cntP (fun i => decide (Has Ea i) && decide (2 ≤ meritN (reM (fun x => if x ∈ a then 2 else if x ∈ b then 1 else 0) t.flaws) i)) t.flaws.length := cnt_ge hla (fun y hy => by
      rw [hmer y (listed_mem hla hy), if_pos hy]
      simpa using hma y hy)
    have h3 : cntP (fun i => decide (Has C i) && decide (2 ≤ meritN (reM (fun x => if x ∈ a then 2 else if x ∈ b then 1 else 0) t.flaws) i)) t.flaws.length ≤ (a.erase x).length := cnt_le hg (fun i hi hP => by
      simp only [Bool.and_eq_true, decide_eq_true_eq] at hP
      rw [reM_merit hi] at hP
      have hia : (t.flaws[i]).id ∈ a := Classical.byContradiction fun hc => by
        have h9 := hP.2
        rw [if_neg hc] at h9
        split at h9 <;> omega
      refine (List.mem_erase_of_ne (fun e => hn ?_)).2 hia
      rw [← e, hg.at_id hi]
      exact hP.1)
    rw [List.length_erase_of_mem hx] at h3
    have := List.length_pos_of_mem hx
    omega
  -- and a flaw of b
  have hCb : ∃ x, x ∈ b ∧ x ∉ a ∧ Has C (atOf t.flaws x) := by
    refine Classical.byContradiction fun hn => ?_
    have h1 := best_cnt hbst hpb.mat hN 1
    have h2 : b.length ≤ cntP (fun i => decide (Has Eb i) && decide (1 ≤ meritN (reM (fun x => if x ∈ a then 2 else if x ∈ b then 1 else 0) t.flaws) i)) t.flaws.length := cnt_ge hlb (fun y hy => by
      rw [hmer y (listed_mem hlb hy), if_pos hy]
      have h9 := hmb y hy
      split <;> simpa using h9)
    have h3 : cntP (fun i => decide (Has C i) && decide (1 ≤ meritN (reM (fun x => if x ∈ a then 2 else if x ∈ b then 1 else 0) t.flaws) i)) t.flaws.length ≤ a.length := cnt_le hg (fun i hi hP => by
      simp only [Bool.and_eq_true, decide_eq_true_eq] at hP
      rw [reM_merit hi] at hP
      refine Classical.byContradiction fun hc => ?_
      have h9 := hP.2
      rw [if_neg hc] at h9
      split at h9
      · rename_i hib
        refine hn ⟨_, hib, hc, ?_⟩
        rw [hg.at_id hi]
        exact hP.1
      · omega)
    omega
  obtain ⟨x, hxb, hxa, hxC⟩ := hCb
  refine ⟨x, hxb, hxa, fun ids hl hsub => can_of he hp hl fun y hy => ?_⟩
  rcases hsub y hy with h | h
  · exact hCa y h
  · rw [h]; exact hxC

open Classical in
theorem best_many {t : Tour} (hg : Good t) {C : Nat → Int} (hp : PlanD t.flaws t.D0 C) (hb : BestOf (canD t.flaws t.D0) (meritN t.flaws) C t.flaws.length) {a : List Int} (hl : t.listed a = true) (ha : t.can a = true) : a.length ≤ cntP (fun i => decide (Has C i)) t.flaws.length := by
  obtain ⟨E, hpa, hma⟩ := can_plan hg hl ha
  have h1 := best_cnt hb hpa.mat (fun d i h => (hp.mat.ok d i h).1) 1
  have hm : ∀ i, i < t.flaws.length → decide (1 ≤ meritN t.flaws i) = true := fun i hi => by
    have := hg.right _ (List.getElem_mem hi)
    simp only [Flaw.right, Bool.and_eq_true, win_iff] at this
    rw [meritN, getD_in hi]
    exact decide_eq_true this.2.2.1
  have h2 : a.length ≤ cntP (fun i => decide (Has E i) && decide (1 ≤ meritN t.flaws i)) t.flaws.length := cnt_ge hl (fun y hy => by
    rw [hm _ (atOf_lt (listed_mem hl hy)), Bool.and_true]
    exact decide_eq_true (hma y hy))
  have h3 : cntP (fun i => decide (Has C i) && decide (1 ≤ meritN t.flaws i)) t.flaws.length = cntP (fun i => decide (Has C i)) t.flaws.length := by
    unfold cntP
    congr 1
    refine List.filter_congr fun i hi => ?_
    rw [hm i (List.mem_range.1 hi), Bool.and_true]
  omega

def insX (x : Int) : List Int → List Int
  | [] => [x]
  | y :: l => if x < y then x :: y :: l else y :: insX x l
theorem mem_insX {x z : Int} : ∀ {l : List Int}, z ∈ insX x l ↔ z = x ∨ z ∈ l
  | [] => by simp [insX]
  | y :: l => by
    rw [insX]
    split
    · simp
    · rw [List.mem_cons, mem_insX, List.mem_cons]
      constructor
      · rintro (h | h | h)
        · exact .inr (.inl h)
        · exact .inl h
        · exact .inr (.inr h)
      · rintro (h | h | h)
        · exact .inr (.inl h)
        · exact .inl h
        · exact .inr (.inr h)
theorem insX_pw {x : Int} : ∀ {l : List Int}, l.Pairwise (· < ·) → x ∉ l → (insX x l).Pairwise (· < ·)
  | [], _, _ => by simp [insX]
  | y :: l, h, hx => by
    rw [insX]
    obtain ⟨h1, h2⟩ := List.pairwise_cons.1 h
    simp only [List.mem_cons, not_or] at hx
    split
    · rename_i hlt
      refine List.pairwise_cons.2 ⟨fun z hz => ?_, h⟩
      rcases List.mem_cons.1 hz with rfl | hz
      · exact hlt
      · exact Int.lt_trans hlt (h1 z hz)
    · rename_i hlt
      refine List.pairwise_cons.2 ⟨fun z hz => ?_, insX_pw h2 hx.2⟩
      rcases mem_insX.1 hz with rfl | hz
      · omega
      · exact h1 z hz
theorem insX_listed {t : Tour} {a b : List Int} {x : Int} (ha : t.listed a = true) (hb : t.listed b = true) (hx : x ∈ b) (hxa : x ∉ a) : t.listed (insX x a) = true := by
  have h1 := ha
  simp only [Tour.listed, Bool.and_eq_true, List.all_eq_true] at h1 ⊢
  refine ⟨incr_of _ (insX_pw (incr_lt _ h1.1) hxa), fun z hz => ?_⟩
  rcases mem_insX.1 hz with rfl | hz
  · simpa using listed_mem hb hx
  · exact h1.2 z hz
end Go.Proofs.Try
namespace Go.Proofs.Try
open Go Go.Am Go.RowKit
set_option maxRecDepth 100000


theorem insX_end {x : Int} : ∀ {l : List Int}, (∀ z, z ∈ l → ¬ x < z) → insX x l = l ++ [x]
  | [], _ => rfl
  | y :: l, h => by
    rw [insX, if_neg (h y (List.mem_cons_self ..)), insX_end fun z hz => h z (List.mem_cons_of_mem _ hz)]; rfl
theorem insX_snoc {x y : Int} : ∀ {l : List Int}, (∀ z, z ∈ l → ¬ x < z) → x < y → insX x (l ++ [y]) = (l ++ [x]) ++ [y]
  | [], _, h => by simp [insX, h]
  | z :: l, h, hy => by
    rw [List.cons_append, insX, if_neg (h z (List.mem_cons_self ..)), insX_snoc (fun z hz => h z (List.mem_cons_of_mem _ hz)) hy]; rfl
theorem insX_put {x y : Int} : ∀ {l : List Int}, (∃ z, z ∈ l ∧ x < z) → insX x (l ++ [y]) = insX x l ++ [y]
  | [], h => by obtain ⟨z, hz, -⟩ := h; cases hz
  | z :: l, h => by
    rw [List.cons_append, insX, insX]
    by_cases hz : x < z
    · rw [if_pos hz, if_pos hz]; rfl
    · rw [if_neg hz, if_neg hz, insX_put]
      · rfl
      · obtain ⟨w, hw, hxw⟩ := h
        rcases List.mem_cons.1 hw with rfl | hw
        · exact absurd hxw hz
        · exact ⟨w, hw, hxw⟩
def cntOn (on : List Int) (k : Nat) : Nat := ((on.take k).filter (fun d => decide (0 ≤ d))).length
theorem cntOn_succ {on : List Int} {k : Nat} (h : k < on.length) : cntOn on (k + 1) = cntOn on k + if 0 ≤ on[k] then 1 else 0 := by
  rw [cntOn, cntOn, List.take_succ_eq_append_getElem h, List.filter_append, List.length_append]
  congr 1
  by_cases hp : 0 ≤ on[k]
  · rw [if_pos hp, List.filter_cons_of_pos (by simpa using hp)]; rfl
  · rw [if_neg hp, List.filter_cons_of_neg (by simpa using hp)]; rfl
theorem cntOn_le2 {on : List Int} {k : Nat} : cntOn on k ≤ k := Nat.le_trans (List.length_filter_le _ _) (List.length_take_le _ _)
open Classical in
theorem cntOn_has {t : Tour} {C : Nat → Int} (hp : PlanD t.flaws t.D0 C) {n : Nat} : cntOn (onOf C n) (onOf C n).length = cntP (fun i => decide (Has C i)) n := by
  rw [cntOn, List.take_length, onOf, List.filter_map, List.length_map]
  unfold cntP
  congr 1
  refine List.filter_congr fun i _ => ?_
  show decide (0 ≤ dayI C (i : Int)) = _
  rw [decide_eq_decide]
  rcases dayI_spec C (i : Int) with ⟨h1, h2⟩ | ⟨d, -, h1, h2⟩
  · constructor
    · intro h; omega
    · rintro ⟨d, hd⟩
      rcases Nat.lt_or_ge d 120 with h9 | h9
      · exact absurd hd (h2 d h9)
      · have := hp.out d h9; omega
  · exact ⟨fun _ => ⟨d, h2⟩, fun _ => by omega⟩

set_option maxHeartbeats 8000000 in
theorem law8 {H : AHeap} {v av bv : Value} {t : Tour} {a b : List Int} (hv : TourV H v t) (ha : Ints H av a) (hb : Ints H bv b) :
    CallS Try.prog [] 8 [v, av, bv] H fun r _ => r = .bool true := by
  have HV := Lib.hid hv
  have HAI := Lib.hid ha
  have HBI := Lib.hid hb
  obtain ⟨cv, fv, rfl, hc, hf⟩ := hv
  obtain ⟨hcl', ca, cc, rfl⟩ := hc.slice
  obtain ⟨hfl, fa, fc, rfl⟩ := hf.slice
  obtain ⟨hal, aa, ac, rfl⟩ := ha.slice
  obtain ⟨hbl, ba, bc, rfl⟩ := hb.slice
  clear hc hf ha hb
  have HFEW := Lib.hid (fun (loops : List (Nat × LInfo)) (H2 : AHeap) (hx : Ext H H2) => few_s (loops := loops) (HV.out.ext hx))
  by_cases h1 : t.few = true
  case' neg =>
    have h1b : t.few = false := by simpa using h1
    rw [h1b] at HFEW
    refine CallS.enter' Try.func8 rfl Try.ntmps8 (by simp) fun f hd hf => ?_
    have f0 := hf 0
    have f1 := hf 1
    have f2 := hf 2
    simp at f0 f1 f2
    clear hf h1 h1b
    repeat' (first|(with_reducible first|refine zA ?_|refine zB fun K hK=>?_|refine zC fun K2 hK2=>?_|refine zD ?_|refine zE ?_|refine zF ?_|refine zG ?_|refine zH ?_|refine zI ?_|refine zM ?_|refine zN ?_|refine zO ?_|refine zP ?_|refine zQ ?_|refine zR ?_)|((with_reducible refine zU (hK _ _ ?_));clear hK K)|((with_reducible refine zV ?_ ?_ fun K1 K3 d hdst h1 h3=>?_);rfl;exact yB rfl;cases hdst;go_simp)|((with_reducible refine zW fun K1 K3 h1 h3=>?_);go_simp)|((first|refine h1 ?_|refine h3 ?_);clear h1 h3 K1 K3)|((first|refine zX (fun hb=>h1 ?_) (fun hb=>h3 ?_)|refine zX (fun hb=>h3 ?_) (fun hb=>h1 ?_))<;>(clear h1 h3 K1 K3;(try have hb2:=yC hb);(try have hb2:=yD hb);(try have hb2:=yE hb);(try have hb2:=yF hb);(try have hb2:=yG hb)))|(refine fun (K2:_→AHeap→Prop) hK2=>?_)|((with_reducible refine zY ?_ ?_);decide)|((with_reducible first|refine zZ ?_ (fun K hK=>?_)|refine yA ?_ (fun K hK=>?_));(focus go_simp;done);go_simp;refine hK _ _ ?_;clear hK K)|(go_simp;(try go_bits);(try first |((with_reducible show CallS _ _ _ _ _ _);first|(refine CallS.mono head_s ?_; rintro _ _ ⟨rfl, h9⟩; rw [h9]; clear h9; go_simp)|(refine CallS.mono (HFEW.out _ _ ((Ext.refl _).push' _)) ?_; rintro _ _ ⟨rfl, h9⟩; rw [h9]; clear h9; go_simp)));refine hK2 _ _ ?_;clear hK2 K2))
    rfl
  rw [h1] at HFEW
  by_cases h2 : 60 < a.length
  case' pos =>
    have h2b : (60 : Int) < (a.length : Int) := by omega
    refine CallS.enter' Try.func8 rfl Try.ntmps8 (by simp) fun f hd hf => ?_
    have f0 := hf 0
    have f1 := hf 1
    have f2 := hf 2
    simp at f0 f1 f2
    clear hf h1
    repeat' (first|(with_reducible first|refine zA ?_|refine zB fun K hK=>?_|refine zC fun K2 hK2=>?_|refine zD ?_|refine zE ?_|refine zF ?_|refine zG ?_|refine zH ?_|refine zI ?_|refine zM ?_|refine zN ?_|refine zO ?_|refine zP ?_|refine zQ ?_|refine zR ?_)|((with_reducible refine zU (hK _ _ ?_));clear hK K)|((with_reducible refine zV ?_ ?_ fun K1 K3 d hdst h1 h3=>?_);rfl;exact yB rfl;cases hdst;go_simp)|((with_reducible refine zW fun K1 K3 h1 h3=>?_);go_simp)|((first|refine h1 ?_|refine h3 ?_);clear h1 h3 K1 K3)|((first|refine zX (fun hb=>h1 ?_) (fun hb=>h3 ?_)|refine zX (fun hb=>h3 ?_) (fun hb=>h1 ?_))<;>(clear h1 h3 K1 K3;(try have hb2:=yC hb);(try have hb2:=yD hb);(try have hb2:=yE hb);(try have hb2:=yF hb);(try have hb2:=yG hb)))|(refine fun (K2:_→AHeap→Prop) hK2=>?_)|((with_reducible refine zY ?_ ?_);decide)|((with_reducible first|refine zZ ?_ (fun K hK=>?_)|refine yA ?_ (fun K hK=>?_));(focus go_simp;done);go_simp;refine hK _ _ ?_;clear hK K)|(go_simp;(try go_bits);(try first |((with_reducible show CallS _ _ _ _ _ _);first|(refine CallS.mono head_s ?_; rintro _ _ ⟨rfl, h9⟩; rw [h9]; clear h9; go_simp)|(refine CallS.mono (HFEW.out _ _ ((Ext.refl _).push' _)) ?_; rintro _ _ ⟨rfl, h9⟩; rw [h9]; clear h9; go_simp)));refine hK2 _ _ ?_;clear hK2 K2))
    rfl
  have h2b : ¬ (60 : Int) < (a.length : Int) := by omega
  by_cases h3 : 60 < b.length
  case' pos =>
    have h3b : (60 : Int) < (b.length : Int) := by omega
    refine CallS.enter' Try.func8 rfl Try.ntmps8 (by simp) fun f hd hf => ?_
    have f0 := hf 0
    have f1 := hf 1
    have f2 := hf 2
    simp at f0 f1 f2
    clear hf h1
    repeat' (first|(with_reducible first|refine zA ?_|refine zB fun K hK=>?_|refine zC fun K2 hK2=>?_|refine zD ?_|refine zE ?_|refine zF ?_|refine zG ?_|refine zH ?_|refine zI ?_|refine zM ?_|refine zN ?_|refine zO ?_|refine zP ?_|refine zQ ?_|refine zR ?_)|((with_reducible refine zU (hK _ _ ?_));clear hK K)|((with_reducible refine zV ?_ ?_ fun K1 K3 d hdst h1 h3=>?_);rfl;exact yB rfl;cases hdst;go_simp)|((with_reducible refine zW fun K1 K3 h1 h3=>?_);go_simp)|((first|refine h1 ?_|refine h3 ?_);clear h1 h3 K1 K3)|((first|refine zX (fun hb=>h1 ?_) (fun hb=>h3 ?_)|refine zX (fun hb=>h3 ?_) (fun hb=>h1 ?_))<;>(clear h1 h3 K1 K3;(try have hb2:=yC hb);(try have hb2:=yD hb);(try have hb2:=yE hb);(try have hb2:=yF hb);(try have hb2:=yG hb)))|(refine fun (K2:_→AHeap→Prop) hK2=>?_)|((with_reducible refine zY ?_ ?_);decide)|((with_reducible first|refine zZ ?_ (fun K hK=>?_)|refine yA ?_ (fun K hK=>?_));(focus go_simp;done);go_simp;refine hK _ _ ?_;clear hK K)|(go_simp;(try go_bits);(try first |((with_reducible show CallS _ _ _ _ _ _);first|(refine CallS.mono head_s ?_; rintro _ _ ⟨rfl, h9⟩; rw [h9]; clear h9; go_simp)|(refine CallS.mono (HFEW.out _ _ ((Ext.refl _).push' _)) ?_; rintro _ _ ⟨rfl, h9⟩; rw [h9]; clear h9; go_simp)));refine hK2 _ _ ?_;clear hK2 K2))
    rfl
  have h3b : ¬ (60 : Int) < (b.length : Int) := by omega
  have HCA := Lib.hid (fun (loops : List (Nat × LInfo)) (H2 : AHeap) (hx : Ext H H2) => can_s (loops := loops) (HV.out.ext hx) (HAI.out.ext hx))
  have HCB := Lib.hid (fun (loops : List (Nat × LInfo)) (H2 : AHeap) (hx : Ext H H2) => can_s (loops := loops) (HV.out.ext hx) (HBI.out.ext hx))
  by_cases hca : t.can a = true
  case' neg =>
    have hcaf : t.can a = false := by simpa using hca
    rw [hcaf] at HCA
    generalize errList t a = e1 at HCA
    generalize errList t b = e2 at HCB
    generalize t.can b = c2 at HCB
    refine CallS.enter' Try.func8 rfl Try.ntmps8 (by simp) fun f hd hf => ?_
    have f0 := hf 0
    have f1 := hf 1
    have f2 := hf 2
    simp at f0 f1 f2
    clear hf h1 hca hcaf
    repeat' (first|(with_reducible first|refine zA ?_|refine zB fun K hK=>?_|refine zC fun K2 hK2=>?_|refine zD ?_|refine zE ?_|refine zF ?_|refine zG ?_|refine zH ?_|refine zI ?_|refine zM ?_|refine zN ?_|refine zO ?_|refine zP ?_|refine zQ ?_|refine zR ?_)|((with_reducible refine zU (hK _ _ ?_));clear hK K)|((with_reducible refine zV ?_ ?_ fun K1 K3 d hdst h1 h3=>?_);rfl;exact yB rfl;cases hdst;go_simp)|((with_reducible refine zW fun K1 K3 h1 h3=>?_);go_simp)|((first|refine h1 ?_|refine h3 ?_);clear h1 h3 K1 K3)|((first|refine zX (fun hb=>h1 ?_) (fun hb=>h3 ?_)|refine zX (fun hb=>h3 ?_) (fun hb=>h1 ?_))<;>(clear h1 h3 K1 K3;(try have hb2:=yC hb);(try have hb2:=yD hb);(try have hb2:=yE hb);(try have hb2:=yF hb);(try have hb2:=yG hb)))|(refine fun (K2:_→AHeap→Prop) hK2=>?_)|((with_reducible refine zY ?_ ?_);decide)|((with_reducible first|refine zZ ?_ (fun K hK=>?_)|refine yA ?_ (fun K hK=>?_));(focus go_simp;done);go_simp;refine hK _ _ ?_;clear hK K)|(go_simp;(try go_bits);(try first |((with_reducible show CallS _ _ _ _ _ _);first|(refine CallS.mono head_s ?_; rintro _ _ ⟨rfl, h9⟩; rw [h9]; clear h9; go_simp)|(refine CallS.mono (HFEW.out _ _ ((Ext.refl _).push' _)) ?_; rintro _ _ ⟨rfl, h9⟩; rw [h9]; clear h9; go_simp)|(refine CallS.mono (HCA.out _ _ ((Ext.refl _).push' _)) ?_; rintro _ _ ⟨rfl, h9⟩; rw [h9]; clear h9; go_simp)|(refine CallS.mono (HCB.out _ _ ((Ext.refl _).push' _)) ?_; rintro _ _ ⟨rfl, h9⟩; rw [h9]; clear h9; go_simp)));refine hK2 _ _ ?_;clear hK2 K2))
    all_goals rfl
  by_cases hcb : t.can b = true
  case' neg =>
    have hcbf : t.can b = false := by simpa using hcb
    rw [hcbf] at HCB
    rw [hca] at HCA
    generalize errList t a = e1 at HCA
    generalize errList t b = e2 at HCB
    refine CallS.enter' Try.func8 rfl Try.ntmps8 (by simp) fun f hd hf => ?_
    have f0 := hf 0
    have f1 := hf 1
    have f2 := hf 2
    simp at f0 f1 f2
    clear hf h1 hca hcb hcbf
    repeat' (first|(with_reducible first|refine zA ?_|refine zB fun K hK=>?_|refine zC fun K2 hK2=>?_|refine zD ?_|refine zE ?_|refine zF ?_|refine zG ?_|refine zH ?_|refine zI ?_|refine zM ?_|refine zN ?_|refine zO ?_|refine zP ?_|refine zQ ?_|refine zR ?_)|((with_reducible refine zU (hK _ _ ?_));clear hK K)|((with_reducible refine zV ?_ ?_ fun K1 K3 d hdst h1 h3=>?_);rfl;exact yB rfl;cases hdst;go_simp)|((with_reducible refine zW fun K1 K3 h1 h3=>?_);go_simp)|((first|refine h1 ?_|refine h3 ?_);clear h1 h3 K1 K3)|((first|refine zX (fun hb=>h1 ?_) (fun hb=>h3 ?_)|refine zX (fun hb=>h3 ?_) (fun hb=>h1 ?_))<;>(clear h1 h3 K1 K3;(try have hb2:=yC hb);(try have hb2:=yD hb);(try have hb2:=yE hb);(try have hb2:=yF hb);(try have hb2:=yG hb)))|(refine fun (K2:_→AHeap→Prop) hK2=>?_)|((with_reducible refine zY ?_ ?_);decide)|((with_reducible first|refine zZ ?_ (fun K hK=>?_)|refine yA ?_ (fun K hK=>?_));(focus go_simp;done);go_simp;refine hK _ _ ?_;clear hK K)|(go_simp;(try go_bits);(try first |((with_reducible show CallS _ _ _ _ _ _);first|(refine CallS.mono head_s ?_; rintro _ _ ⟨rfl, h9⟩; rw [h9]; clear h9; go_simp)|(refine CallS.mono (HFEW.out _ _ ((Ext.refl _).push' _)) ?_; rintro _ _ ⟨rfl, h9⟩; rw [h9]; clear h9; go_simp)|(refine CallS.mono (HCA.out _ _ ((Ext.refl _).push' _)) ?_; rintro _ _ ⟨rfl, h9⟩; rw [h9]; clear h9; go_simp)|(refine CallS.mono (HCB.out _ _ ((Ext.refl _).push' _)) ?_; rintro _ _ ⟨rfl, h9⟩; rw [h9]; clear h9; go_simp)));refine hK2 _ _ ?_;clear hK2 K2))
    all_goals rfl
  have hea : errList t a = 0 := by
    have h := hca
    rw [Tour.can, Bool.and_eq_true, decide_eq_true_eq] at h
    exact h.1
  have heb : errList t b = 0 := by
    have h := hcb
    rw [Tour.can, Bool.and_eq_true, decide_eq_true_eq] at h
    exact h.1
  obtain ⟨hg, hla⟩ := good_list hea
  obtain ⟨-, hlb⟩ := good_list heb
  have he : err t = 0 := by
    unfold errList at hea
    split at hea
    · rename_i h; exact absurd hea h
    · rename_i h; simpa using h
  have HBE := Lib.hid (fun (loops : List (Nat × LInfo)) (H2 : AHeap) (hx : Ext H H2) => best_e (loops := loops) (HV.out.ext hx))
  unfold BestR at HBE
  simp only [if_pos he] at HBE
  have HMA := Lib.hid (fun (C : Nat → Int) (l : List (Int × Int)) (h : BestIs t C l) => (cntOn_has h.plan (n := t.flaws.length)) ▸ best_many hg h.plan h.best hla hca)
  have HMB := Lib.hid (fun (C : Nat → Int) (l : List (Int × Int)) (h : BestIs t C l) => (cntOn_has h.plan (n := t.flaws.length)) ▸ best_many hg h.plan h.best hlb hcb)
  have HEX := Lib.hid (fun hlt => exchange hg he hla hlb hca hcb hlt)
  have HLS := Lib.hid (fun x (hx : x ∈ b) (hxa : x ∉ a) => insX_listed hla hlb hx hxa)
  have HERR := Lib.hid (fun ids (hl : t.listed ids = true) => (show errList t ids = 0 by rw [errList, if_neg (by simp [he]), if_pos hl]))
  rw [hca, hea] at HCA
  rw [hcb, heb] at HCB
  refine CallS.enter' Try.func8 rfl Try.ntmps8 (by simp) fun f hd hf => ?_
  have f0 := hf 0
  have f1 := hf 1
  have f2 := hf 2
  simp at f0 f1 f2
  clear hf h1 hca hcb hea heb hg hla hlb he
  repeat' (first|((with_reducible refine stop_if (n := 9) ?_))|(with_reducible first|refine zA ?_|refine zB fun K hK=>?_|refine zC fun K2 hK2=>?_|refine zD ?_|refine zE ?_|refine zF ?_|refine zG ?_|refine zH ?_|refine zI ?_|refine zM ?_|refine zN ?_|refine zO ?_|refine zP ?_|refine zQ ?_|refine zR ?_)|((with_reducible refine zU (hK _ _ ?_));clear hK K)|((with_reducible refine zV ?_ ?_ fun K1 K3 d hdst h1 h3=>?_);rfl;exact yB rfl;cases hdst;go_simp)|((with_reducible refine zW fun K1 K3 h1 h3=>?_);go_simp)|((first|refine h1 ?_|refine h3 ?_);clear h1 h3 K1 K3)|((first|refine zX (fun hb=>h1 ?_) (fun hb=>h3 ?_)|refine zX (fun hb=>h3 ?_) (fun hb=>h1 ?_))<;>(clear h1 h3 K1 K3;(try have hb2:=yC hb);(try have hb2:=yD hb);(try have hb2:=yE hb);(try have hb2:=yF hb);(try have hb2:=yG hb)))|(refine fun (K2:_→AHeap→Prop) hK2=>?_)|((with_reducible refine zY ?_ ?_);decide)|((with_reducible first|refine zZ ?_ (fun K hK=>?_)|refine yA ?_ (fun K hK=>?_));(focus go_simp;done);go_simp;refine hK _ _ ?_;clear hK K)|(go_simp;(try go_bits);(try first |((with_reducible show CallS _ _ _ _ _ _);first|(refine CallS.mono head_s ?_; rintro _ _ ⟨rfl, h9⟩; rw [h9]; clear h9; go_simp)|(refine CallS.mono (HFEW.out _ _ ((Ext.refl _).push' _)) ?_; rintro _ _ ⟨rfl, h9⟩; rw [h9]; clear h9; go_simp)|(refine CallS.mono (HCA.out _ _ ((Ext.refl _).push' _)) ?_; rintro _ _ ⟨rfl, h9⟩; rw [h9]; clear h9; go_simp)|(refine CallS.mono (HCB.out _ _ ((Ext.refl _).push' _)) ?_; rintro _ _ ⟨rfl, h9⟩; rw [h9]; clear h9; go_simp)|(refine CallS.mono (HBE.out _ _ ((Ext.refl _).push' _)) ?_; rintro _ H2 ⟨⟨ov, sv, C, sl, rfl, ho, hs, hbi⟩, hx2⟩; (have HO := Lib.hid ho); (have HX2 := Lib.hid hx2); (have HBI2 := Lib.hid hbi); (have hn2 : H.n < H2.n := by have := hx2.n; simp only [AHeap.n_push] at this; omega); (have hq2 : H2.get H.n = .row [.int .i64 t.days, .slice ca t.closed.length cc, .slice fa t.flaws.length fc] 25 := (hx2.get _ (by simp only [AHeap.n_push]; omega)).trans AHeap.get_push_new); (have HQ2 := Lib.hid hq2); (obtain ⟨-, oa, oc, rfl⟩ := ho.slice); (obtain ⟨-, -, sa, sc, rfl, -⟩ := hs); clear ho hx2 hbi hq2; go_simp)));refine hK2 _ _ ?_;clear hK2 K2))
  have hxK : Ext H (H2.push (.row [.slice oa (onOf C t.flaws.length).length oc, .int .i64 (t.worthOf C), .slice sa sl.length sc] 28)) := ((Ext.push _).trans HX2.out).push' _
  have hoK : Ints (H2.push (.row [.slice oa (onOf C t.flaws.length).length oc, .int .i64 (t.worthOf C), .slice sa sl.length sc] 28)) (.slice oa (onOf C t.flaws.length).length oc) (onOf C t.flaws.length) := HO.out.ext (Ext.push _)
  have hqK : (H2.push (.row [.slice oa (onOf C t.flaws.length).length oc, .int .i64 (t.worthOf C), .slice sa sl.length sc] 28)).get H.n = .row [.int .i64 t.days, .slice ca t.closed.length cc, .slice fa t.flaws.length fc] 25 := (AHeap.get_push_old hn2).trans HQ2.out
  have hmK : (H2.push (.row [.slice oa (onOf C t.flaws.length).length oc, .int .i64 (t.worthOf C), .slice sa sl.length sc] 28)).get H2.n = .row [.slice oa (onOf C t.flaws.length).length oc, .int .i64 (t.worthOf C), .slice sa sl.length sc] 28 := AHeap.get_push_new
  have hnK : H.n < (H2.push (.row [.slice oa (onOf C t.flaws.length).length oc, .int .i64 (t.worthOf C), .slice sa sl.length sc] 28)).n := by rw [AHeap.n_push]; omega
  have hnon : (onOf C t.flaws.length).length = t.flaws.length := by simp [onOf]
  have HMA2 := Lib.hid (HMA.out C sl HBI2.out)
  have HMB2 := Lib.hid (HMB.out C sl HBI2.out)
  generalize hK : (H2.push (.row [.slice oa (onOf C t.flaws.length).length oc, .int .i64 (t.worthOf C), .slice sa sl.length sc] 28)) = KH at hxK hoK hqK hmK hnK ⊢
  refine ⟨genC (fun f KH' => f.tmp 1 = .slice aa a.length ac ∧ f.tmp 2 = .slice ba b.length bc ∧ f.tmp 3 = .pointer (some ⟨H.n, 0, none⟩) ∧ f.tmp 7 = .bool true ∧ f.tmp 12 = .pointer (some ⟨H2.n, 0, none⟩) ∧ f.tmp 13 = .int .i64 0 ∧ f.defers = [] ∧ KH' = KH) ⟨(by first|go_simp<;>go_num|assumption), (by first|go_simp<;>go_num|assumption), (by first|go_simp<;>go_num|assumption), (by first|go_simp<;>go_num|assumption), (by first|go_simp<;>go_num|assumption), (by first|go_simp<;>go_num|assumption), (by first|go_simp<;>go_num|assumption), rfl⟩ ?_⟩
  generalize onOf C t.flaws.length = on at hoK hmK hnon HMA2 HMB2
  have HXK := Lib.hid hxK
  have HOK := Lib.hid hoK
  have hcm : cellAt KH H2.n 0 = some (.slice oa on.length oc) := by simp [cellAt, hmK]
  have hcq3 : cellsAt KH H.n 0 3 = some [.int .i64 t.days, .slice ca t.closed.length cc, .slice fa t.flaws.length fc] := by simp [cellsAt, hqK]
  have hcq2 : cellAt KH H.n 2 = some (.slice fa t.flaws.length fc) := by simp [cellAt, hqK]
  have hlb : ((on.length : Int) != (t.flaws.length : Int)) = false := by simp; omega
  clear f0 f1 f2 hd f hxK hoK hqK hmK hK hnon HO HX2 HQ2 HBI2 HMA HMB HCA HCB HFEW HBE hn2
  rintro f KH' ⟨f1, f2, f3, f7, f12, f13, hd, e9⟩
  have e9 := e9.symm
  subst e9
  repeat' (first|(with_reducible first|refine zA ?_|refine zB fun K hK=>?_|refine zC fun K2 hK2=>?_|refine zD ?_|refine zE ?_|refine zF ?_|refine zG ?_|refine zH ?_|refine zI ?_|refine zM ?_|refine zN ?_|refine zO ?_|refine zP ?_|refine zQ ?_|refine zR ?_)|((with_reducible refine zU (hK _ _ ?_));clear hK K)|((with_reducible refine zV ?_ ?_ fun K1 K3 d hdst h1 h3=>?_);rfl;exact yB rfl;cases hdst;go_simp)|((with_reducible refine zW fun K1 K3 h1 h3=>?_);go_simp)|((first|refine h1 ?_|refine h3 ?_);clear h1 h3 K1 K3)|((first|refine zX (fun hb=>h1 ?_) (fun hb=>h3 ?_)|refine zX (fun hb=>h3 ?_) (fun hb=>h1 ?_))<;>(clear h1 h3 K1 K3;(try have hb2:=yC hb);(try have hb2:=yD hb);(try have hb2:=yE hb);(try have hb2:=yF hb);(try have hb2:=yG hb)))|(refine fun (K2:_→AHeap→Prop) hK2=>?_)|((with_reducible refine zY ?_ ?_);decide)|((with_reducible first|refine zZ ?_ (fun K hK=>?_)|refine yA ?_ (fun K hK=>?_));(focus go_simp;done);go_simp;refine hK _ _ ?_;clear hK K)|(go_simp;(try go_bits);refine hK2 _ _ ?_;clear hK2 K2))
  refine CodeS.loop (fun m f KH' => ∃ (k : Nat), k ≤ on.length ∧ m = on.length - k ∧ f.tmp 15 = .int .i64 k ∧ f.tmp 14 = .int .i64 (cntOn on k : Nat) ∧ f.tmp 1 = .slice aa a.length ac ∧ f.tmp 2 = .slice ba b.length bc ∧ f.tmp 3 = .pointer (some ⟨H.n, 0, none⟩) ∧ f.tmp 7 = .bool true ∧ f.tmp 12 = .pointer (some ⟨H2.n, 0, none⟩) ∧ f.defers = [] ∧ KH' = KH) on.length ?_ ?_
  · exact ⟨0, by omega, by omega, (by first|go_simp<;>go_num|assumption), (by first|go_simp<;>go_num|assumption), (by first|go_simp<;>go_num|assumption), (by first|go_simp<;>go_num|assumption), (by first|go_simp<;>go_num|assumption), (by first|go_simp<;>go_num|assumption), (by first|go_simp<;>go_num|assumption), (by first|go_simp<;>go_num|assumption), rfl⟩
  clear f1 f2 f3 f7 f12 f13 hd f
  rintro m f KH' ⟨k, hk, rfl, f15, f14, f1, f2, f3, f7, f12, hd, e9⟩
  have e9 := e9.symm
  subst e9
  by_cases hlt : k < on.length
  · have hki : (k : Int) < (on.length : Int) := by omega
    obtain ⟨b1, o1, sp1, rfl, hbb, hxk⟩ := HOK.out.at_ hlt
    have HCS := Lib.hid (cntOn_succ hlt)
    generalize on[k] = d at hxk HCS
    have hcle := cntOn_le2 (on := on) (k := k)
    have hol := HOK.out.slice.1
    by_cases hd0 : 0 ≤ d
    · rw [if_pos hd0] at HCS
      generalize cntOn on k = cn at f14 HCS hcle
      have hcn2 : (cn : Int) < 9223372036854775807 := by omega
      repeat' (first|(with_reducible first|refine zA ?_|refine zB fun K hK=>?_|refine zC fun K2 hK2=>?_|refine zD ?_|refine zE ?_|refine zF ?_|refine zG ?_|refine zH ?_|refine zI ?_|refine zM ?_|refine zN ?_|refine zO ?_|refine zP ?_|refine zQ ?_|refine zR ?_)|((with_reducible refine zU (hK _ _ ?_));clear hK K)|((with_reducible refine zV ?_ ?_ fun K1 K3 d hdst h1 h3=>?_);rfl;exact yB rfl;cases hdst;go_simp)|((with_reducible refine zW fun K1 K3 h1 h3=>?_);go_simp)|((first|refine h1 ?_|refine h3 ?_);clear h1 h3 K1 K3)|((first|refine zX (fun hb=>h1 ?_) (fun hb=>h3 ?_)|refine zX (fun hb=>h3 ?_) (fun hb=>h1 ?_))<;>(clear h1 h3 K1 K3;(try have hb2:=yC hb);(try have hb2:=yD hb);(try have hb2:=yE hb);(try have hb2:=yF hb);(try have hb2:=yG hb)))|(refine fun (K2:_→AHeap→Prop) hK2=>?_)|((with_reducible refine zY ?_ ?_);decide)|((with_reducible first|refine zZ ?_ (fun K hK=>?_)|refine yA ?_ (fun K hK=>?_));(focus go_simp;done);go_simp;refine hK _ _ ?_;clear hK K)|(go_simp;(try go_bits);refine hK2 _ _ ?_;clear hK2 K2))
      refine Post.round_normal ⟨on.length - (k + 1), by omega, k + 1, by omega, rfl, (by first|go_simp<;>go_num|assumption), by rw [HCS.out]; go_simp, (by first|go_simp<;>go_num|assumption), (by first|go_simp<;>go_num|assumption), (by first|go_simp<;>go_num|assumption), (by first|go_simp<;>go_num|assumption), (by first|go_simp<;>go_num|assumption), (by first|go_simp<;>go_num|assumption), rfl⟩
    · rw [if_neg hd0] at HCS
      generalize cntOn on k = cn at f14 HCS hcle
      have hcn2 : (cn : Int) < 9223372036854775807 := by omega
      repeat' (first|(with_reducible first|refine zA ?_|refine zB fun K hK=>?_|refine zC fun K2 hK2=>?_|refine zD ?_|refine zE ?_|refine zF ?_|refine zG ?_|refine zH ?_|refine zI ?_|refine zM ?_|refine zN ?_|refine zO ?_|refine zP ?_|refine zQ ?_|refine zR ?_)|((with_reducible refine zU (hK _ _ ?_));clear hK K)|((with_reducible refine zV ?_ ?_ fun K1 K3 d hdst h1 h3=>?_);rfl;exact yB rfl;cases hdst;go_simp)|((with_reducible refine zW fun K1 K3 h1 h3=>?_);go_simp)|((first|refine h1 ?_|refine h3 ?_);clear h1 h3 K1 K3)|((first|refine zX (fun hb=>h1 ?_) (fun hb=>h3 ?_)|refine zX (fun hb=>h3 ?_) (fun hb=>h1 ?_))<;>(clear h1 h3 K1 K3;(try have hb2:=yC hb);(try have hb2:=yD hb);(try have hb2:=yE hb);(try have hb2:=yF hb);(try have hb2:=yG hb)))|(refine fun (K2:_→AHeap→Prop) hK2=>?_)|((with_reducible refine zY ?_ ?_);decide)|((with_reducible first|refine zZ ?_ (fun K hK=>?_)|refine yA ?_ (fun K hK=>?_));(focus go_simp;done);go_simp;refine hK _ _ ?_;clear hK K)|(go_simp;(try go_bits);refine hK2 _ _ ?_;clear hK2 K2))
      refine Post.round_normal ⟨on.length - (k + 1), by omega, k + 1, by omega, rfl, (by first|go_simp<;>go_num|assumption), by rw [HCS.out]; go_simp, (by first|go_simp<;>go_num|assumption), (by first|go_simp<;>go_num|assumption), (by first|go_simp<;>go_num|assumption), (by first|go_simp<;>go_num|assumption), (by first|go_simp<;>go_num|assumption), (by first|go_simp<;>go_num|assumption), rfl⟩
  have hki : ¬ (k : Int) < (on.length : Int) := by omega
  have hke : k = on.length := by omega
  subst hke
  have hma := HMA2.out
  have hmb := HMB2.out
  generalize cntOn on on.length = M at f14 hma hmb
  have hma2 : ¬ (M : Int) < (a.length : Int) := by omega
  have hmb2 : ¬ (M : Int) < (b.length : Int) := by omega
  by_cases hge : b.length ≤ a.length
  · have hge2 : (b.length : Int) ≤ (a.length : Int) := by omega
    clear hma hmb HMA2 HMB2 hlt
    repeat' (first|(with_reducible first|refine zA ?_|refine zB fun K hK=>?_|refine zC fun K2 hK2=>?_|refine zD ?_|refine zE ?_|refine zF ?_|refine zG ?_|refine zH ?_|refine zI ?_|refine zM ?_|refine zN ?_|refine zO ?_|refine zP ?_|refine zQ ?_|refine zR ?_)|((with_reducible refine zU (hK _ _ ?_));clear hK K)|((with_reducible refine zV ?_ ?_ fun K1 K3 d hdst h1 h3=>?_);rfl;exact yB rfl;cases hdst;go_simp)|((with_reducible refine zW fun K1 K3 h1 h3=>?_);go_simp)|((first|refine h1 ?_|refine h3 ?_);clear h1 h3 K1 K3)|((first|refine zX (fun hb=>h1 ?_) (fun hb=>h3 ?_)|refine zX (fun hb=>h3 ?_) (fun hb=>h1 ?_))<;>(clear h1 h3 K1 K3;(try have hb2:=yC hb);(try have hb2:=yD hb);(try have hb2:=yE hb);(try have hb2:=yF hb);(try have hb2:=yG hb)))|(refine fun (K2:_→AHeap→Prop) hK2=>?_)|((with_reducible refine zY ?_ ?_);decide)|((with_reducible first|refine zZ ?_ (fun K hK=>?_)|refine yA ?_ (fun K hK=>?_));(focus go_simp;done);go_simp;refine hK _ _ ?_;clear hK K)|(go_simp;(try go_bits);refine hK2 _ _ ?_;clear hK2 K2))
    rfl
  have hge2 : ¬ (b.length : Int) ≤ (a.length : Int) := by omega
  obtain ⟨x0, hx0b, hx0a, hx0c⟩ := HEX.out (by omega)
  have HX0 := Lib.hid (⟨hx0b, hx0a, (hx0c _ (HLS.out x0 hx0b hx0a) (fun y hy => by rcases mem_insX.1 hy with h | h; exact .inr h; exact .inl h)).1⟩ : x0 ∈ b ∧ x0 ∉ a ∧ t.can (insX x0 a) = true)
  clear hx0b hx0a hx0c hma hmb HMA2 HMB2 hlt HEX hlb
  repeat' (first|(with_reducible first|refine zA ?_|refine zB fun K hK=>?_|refine zC fun K2 hK2=>?_|refine zD ?_|refine zE ?_|refine zF ?_|refine zG ?_|refine zH ?_|refine zI ?_|refine zM ?_|refine zN ?_|refine zO ?_|refine zP ?_|refine zQ ?_|refine zR ?_)|((with_reducible refine zU (hK _ _ ?_));clear hK K)|((with_reducible refine zV ?_ ?_ fun K1 K3 d hdst h1 h3=>?_);rfl;exact yB rfl;cases hdst;go_simp)|((with_reducible refine zW fun K1 K3 h1 h3=>?_);go_simp)|((first|refine h1 ?_|refine h3 ?_);clear h1 h3 K1 K3)|((first|refine zX (fun hb=>h1 ?_) (fun hb=>h3 ?_)|refine zX (fun hb=>h3 ?_) (fun hb=>h1 ?_))<;>(clear h1 h3 K1 K3;(try have hb2:=yC hb);(try have hb2:=yD hb);(try have hb2:=yE hb);(try have hb2:=yF hb);(try have hb2:=yG hb)))|(refine fun (K2:_→AHeap→Prop) hK2=>?_)|((with_reducible refine zY ?_ ?_);decide)|((with_reducible first|refine zZ ?_ (fun K hK=>?_)|refine yA ?_ (fun K hK=>?_));(focus go_simp;done);go_simp;refine hK _ _ ?_;clear hK K)|(go_simp;(try go_bits);refine hK2 _ _ ?_;clear hK2 K2))
  clear hcm HOK
  refine CodeS.loop (fun m f KH' => ∃ (k : Nat), k ≤ b.length ∧ m = b.length - k ∧ f.tmp 16 = .int .i64 k ∧ f.tmp 1 = .slice aa a.length ac ∧ f.tmp 2 = .slice ba b.length bc ∧ f.tmp 3 = .pointer (some ⟨H.n, 0, none⟩) ∧ f.tmp 7 = .bool true ∧ f.defers = [] ∧ Hid (Ext KH KH') ∧ Hid (∀ j (h : j < b.length), j < k → b[j] ∈ a ∨ t.can (insX b[j] a) = false)) b.length ?_ ?_
  · exact ⟨0, by omega, by omega, (by first|go_simp<;>go_num|assumption), (by first|go_simp<;>go_num|assumption), (by first|go_simp<;>go_num|assumption), (by first|go_simp<;>go_num|assumption), (by first|go_simp<;>go_num|assumption), (by first|go_simp<;>go_num|assumption), Lib.hid (Ext.refl _), Lib.hid (fun j _ hj => absurd hj (Nat.not_lt_zero j))⟩
  clear f15 f14 f1 f2 f3 f7 f12 hd f hge hge2 hma2 hmb2 hki hk
  rintro m f J1 ⟨k, hk, rfl, f16, f1, f2, f3, f7, hd, HX1, HNO⟩
  have HXH1 := Lib.hid (HXK.out.trans HX1.out)
  have hq1 : cellsAt J1 H.n 0 3 = some [.int .i64 t.days, .slice ca t.closed.length cc, .slice fa t.flaws.length fc] := (HX1.out.cellsAt hnK).trans hcq3
  by_cases hlt : k < b.length
  · have hki : (k : Int) < (b.length : Int) := by omega
    obtain ⟨b1, o1, sp1, rfl, hbb, hxk⟩ := (HBI.out.ext HXH1.out).at_ hlt
    have HMX := Lib.hid (List.getElem_mem hlt)
    have HNX := Lib.hid (fun (h : b[k] ∈ a ∨ t.can (insX b[k] a) = false) j (hj : j < b.length) (hjk : j < k + 1) => (show b[j] ∈ a ∨ t.can (insX b[j] a) = false from by
      rcases Nat.lt_or_ge j k with h1 | h1
      · exact HNO.out j hj h1
      · have : j = k := by omega
        subst this
        exact h))
    generalize b[k] = x at hxk HMX HNX
    have HHS := Lib.hid (fun (loops : List (Nat × LInfo)) => has_s (loops := loops) (x := x) (HAI.out.ext HXH1.out))
    by_cases hxa : x ∈ a
    · rw [decide_eq_true hxa] at HHS
      have HNX2 := Lib.hid (HNX.out (.inl hxa))
      clear hxa
      repeat' (first|(with_reducible first|refine zA ?_|refine zB fun K hK=>?_|refine zC fun K2 hK2=>?_|refine zD ?_|refine zE ?_|refine zF ?_|refine zG ?_|refine zH ?_|refine zI ?_|refine zM ?_|refine zN ?_|refine zO ?_|refine zP ?_|refine zQ ?_|refine zR ?_)|((with_reducible refine zU (hK _ _ ?_));clear hK K)|((with_reducible refine zV ?_ ?_ fun K1 K3 d hdst h1 h3=>?_);rfl;exact yB rfl;cases hdst;go_simp)|((with_reducible refine zW fun K1 K3 h1 h3=>?_);go_simp)|((first|refine h1 ?_|refine h3 ?_);clear h1 h3 K1 K3)|((first|refine zX (fun hb=>h1 ?_) (fun hb=>h3 ?_)|refine zX (fun hb=>h3 ?_) (fun hb=>h1 ?_))<;>(clear h1 h3 K1 K3;(try have hb2:=yC hb);(try have hb2:=yD hb);(try have hb2:=yE hb);(try have hb2:=yF hb);(try have hb2:=yG hb)))|(refine fun (K2:_→AHeap→Prop) hK2=>?_)|((with_reducible refine zY ?_ ?_);decide)|((with_reducible first|refine zZ ?_ (fun K hK=>?_)|refine yA ?_ (fun K hK=>?_));(focus go_simp;done);go_simp;refine hK _ _ ?_;clear hK K)|(go_simp;(try go_bits);(try first | ((with_reducible show CallS _ _ _ _ _ _);refine CallS.mono (HHS.out _) ?_; rintro _ _ ⟨rfl, h9⟩; rw [h9]; clear h9; go_simp));refine hK2 _ _ ?_;clear hK2 K2))
      refine Post.round_normal ⟨b.length - (k + 1), by omega, k + 1, by omega, rfl, (by first|go_simp<;>go_num|assumption), (by first|go_simp<;>go_num|assumption), (by first|go_simp<;>go_num|assumption), (by first|go_simp<;>go_num|assumption), (by first|go_simp<;>go_num|assumption), (by first|go_simp<;>go_num|assumption), HX1, HNX2⟩
    rw [decide_eq_false hxa] at HHS
    have HLX := Lib.hid (HLS.out x HMX.out hxa)
    have HEX2 := Lib.hid (HERR.out _ HLX.out)
    clear hxa
    repeat' (first|(with_reducible first|refine zA ?_|refine zB fun K hK=>?_|refine zC fun K2 hK2=>?_|refine zD ?_|refine zE ?_|refine zF ?_|refine zG ?_|refine zH ?_|refine zI ?_|refine zM ?_|refine zN ?_|refine zO ?_|refine zP ?_|refine zQ ?_|refine zR ?_)|((with_reducible refine zU (hK _ _ ?_));clear hK K)|((with_reducible refine zV ?_ ?_ fun K1 K3 d hdst h1 h3=>?_);rfl;exact yB rfl;cases hdst;go_simp)|((with_reducible refine zW fun K1 K3 h1 h3=>?_);go_simp)|((first|refine h1 ?_|refine h3 ?_);clear h1 h3 K1 K3)|((first|refine zX (fun hb=>h1 ?_) (fun hb=>h3 ?_)|refine zX (fun hb=>h3 ?_) (fun hb=>h1 ?_))<;>(clear h1 h3 K1 K3;(try have hb2:=yC hb);(try have hb2:=yD hb);(try have hb2:=yE hb);(try have hb2:=yF hb);(try have hb2:=yG hb)))|(refine fun (K2:_→AHeap→Prop) hK2=>?_)|((with_reducible refine zY ?_ ?_);decide)|((with_reducible first|refine zZ ?_ (fun K hK=>?_)|refine yA ?_ (fun K hK=>?_));(focus go_simp;done);go_simp;refine hK _ _ ?_;clear hK K)|(go_simp;(try go_bits);(try first | ((with_reducible show CallS _ _ _ _ _ _);refine CallS.mono (HHS.out _) ?_; rintro _ _ ⟨rfl, h9⟩; rw [h9]; clear h9; go_simp));refine hK2 _ _ ?_;clear hK2 K2))
    refine CodeS.loop (fun m f J2 => ∃ (j : Nat) (u : Value) (p : Bool) (M : List Int), j ≤ a.length ∧ m = a.length - j ∧ f.tmp 19 = .int .i64 j ∧ f.tmp 18 = .bool p ∧ f.tmp 17 = u ∧ f.tmp 16 = .int .i64 k ∧ f.tmp 1 = .slice aa a.length ac ∧ f.tmp 2 = .slice (some ⟨b1, o1, sp1⟩) b.length bc ∧ f.tmp 3 = .pointer (some ⟨H.n, 0, none⟩) ∧ f.tmp 7 = .bool true ∧ f.defers = [] ∧ Hid (Ext J1 J2) ∧ Hid (Own J2 J1.n u 3 1 (M.map (Value.int .i64))) ∧ M.length ≤ j + 1 ∧ Hid ((p = false ∧ M = a.take j ∧ ∀ z, z ∈ a.take j → ¬ x < z) ∨ (p = true ∧ M = insX x (a.take j) ∧ ∃ z, z ∈ a.take j ∧ x < z))) a.length ?_ ?_
    · exact ⟨0, .slice none 0 0, false, [], by omega, by omega, (by first|go_simp<;>go_num|assumption), (by first|go_simp<;>go_num|assumption), (by first|go_simp<;>go_num|assumption), (by first|go_simp<;>go_num|assumption), (by first|go_simp<;>go_num|assumption), (by first|go_simp<;>go_num|assumption), (by first|go_simp<;>go_num|assumption), (by first|go_simp<;>go_num|assumption), (by first|go_simp<;>go_num|assumption), Lib.hid (Ext.refl _), Lib.hid Own.nil, by simp, Lib.hid (.inl ⟨rfl, rfl, fun z hz => by simp at hz⟩)⟩
    clear f16 f1 f2 f3 f7 hd f HHS
    rintro m f J2 ⟨j, u, p, M, hj, rfl, f19, f18, f17, f16, f1, f2, f3, f7, hd, HX2, HU, hML, HP⟩
    have HXH2 := Lib.hid (HXH1.out.trans HX2.out)
    obtain ⟨ua, un, rfl⟩ := own_slice HU.out
    have hxk2 : cellAt J2 b1 (o1 + k) = some (.int .i64 x) := (HX2.out.cellAt hbb).trans hxk
    have HB9 : Hid (J1.n ≤ J2.n) := Lib.hid HX2.out.n
    have hbig : ((M.map (Value.int .i64)).length + 1) * max 8 1 ≤ 1073741824 := by rw [List.length_map]; simp; omega
    have HBIG := Lib.hid hbig
    have hbig2 : ((M.map (Value.int .i64) ++ [Value.int .i64 x]).length + 1) * max 8 1 ≤ 1073741824 := by simp; omega
    have HBIG2 := Lib.hid hbig2
    clear hbig hbig2
    by_cases hjl : j < a.length
    · have hji : (j : Int) < (a.length : Int) := by omega
      obtain ⟨b2, o2, sp2, rfl, hbb2, hxj1⟩ := (HAI.out.ext HXH1.out).at_ hjl
      have hxj := (HX2.out.cellAt hbb2).trans hxj1
      have HTK := Lib.hid (List.take_succ_eq_append_getElem hjl)
      generalize a[j] = y at hxj hxj1 HTK
      by_cases hxy : x < y
      · rcases HP.out with ⟨rfl, hM, hno⟩ | ⟨rfl, hM, hyes⟩
        · have HM2 : Hid (M ++ [x] ++ [y] = insX x (a.take (j + 1))) := Lib.hid (by rw [HTK.out, insX_snoc hno hxy, hM])
          have HY2 : Hid (∃ z, z ∈ a.take (j + 1) ∧ x < z) := Lib.hid ⟨y, by rw [HTK.out]; simp, hxy⟩
          have hMl : M.length ≤ j := by rw [hM]; exact List.length_take_le _ _
          clear hM hno
          repeat' (first|(with_reducible first|refine zA ?_|refine zB fun K hK=>?_|refine zC fun K2 hK2=>?_|refine zD ?_|refine zE ?_|refine zF ?_|refine zG ?_|refine zH ?_|refine zI ?_|refine zM ?_|refine zN ?_|refine zO ?_|refine zP ?_|refine zQ ?_|refine zR ?_)|((with_reducible refine zU (hK _ _ ?_));clear hK K)|((with_reducible refine zV ?_ ?_ fun K1 K3 d hdst h1 h3=>?_);rfl;exact yB rfl;cases hdst;go_simp)|((with_reducible refine zW fun K1 K3 h1 h3=>?_);go_simp)|((first|refine h1 ?_|refine h3 ?_);clear h1 h3 K1 K3)|((first|refine zX (fun hb=>h1 ?_) (fun hb=>h3 ?_)|refine zX (fun hb=>h3 ?_) (fun hb=>h1 ?_))<;>(clear h1 h3 K1 K3;(try have hb2:=yC hb);(try have hb2:=yD hb);(try have hb2:=yE hb);(try have hb2:=yF hb);(try have hb2:=yG hb)))|(refine fun (K2:_→AHeap→Prop) hK2=>?_)|((with_reducible refine zY ?_ ?_);decide)|((with_reducible first|refine zZ ?_ (fun K hK=>?_)|refine yA ?_ (fun K hK=>?_));(focus go_simp;done);go_simp;refine hK _ _ ?_;clear hK K)|((with_reducible refine yH mixed rfl ?_ 20 fun K0 hK0=>?_);kernel_rfl)|(with_reducible first|exact yI|exact yJ|refine yK ?_|refine yL ?_|refine yM ?_)|((with_reducible first|refine yN ?_ ?_|refine yO ?_ ?_|refine yP ?_ ?_);rfl)|((with_reducible refine yQ ?_ ?_);rfl;refine hK0 _ _ ?_;clear hK0 K0)|((with_reducible refine yR ?_ ?_ ?_ ?_);rfl;rfl;rfl)|((with_reducible refine yS ?_ ?_ ?_ fun K2 hK2=>?_);rfl;rfl;exact yB rfl)|((with_reducible refine yT ?_ ?_ ?_ ?_ fun K1 K3 d hdst h1 h3=>?_);rfl;rfl;rfl;exact yB rfl;cases hdst;go_simp)|((with_reducible refine yU ?_ ?_ ?_ ?_ fun K1 K3 d hdst h1 h3=>?_);rfl;rfl;rfl;exact yB rfl;cases hdst;go_simp)|((with_reducible refine yV ?_ ?_ (fun K2 hK2=>?_) ?_);rfl;exact yB rfl)|((with_reducible refine yW ?_ ?_ ?_ ?_ (fun K2 hK2=>?_) ?_);rfl;exact yB rfl;rfl;(focus go_simp;done))|((with_reducible refine yX ?_ ?_ ?_ (fun K2 hK2=>?_) ?_);rfl;rfl;exact yB rfl)|((with_reducible refine yY ?_ ?_ (fun K2 hK2=>?_) ?_);rfl;rfl)|((with_reducible refine yZ ?_ ?_);(first|rfl|(dsimp only;decide +kernel)))|((with_reducible refine xA ?_ ?_);(focus go_simp;done))|(go_simp;(try go_bits);(try first | ((refine one_k el22 sz3 ze3 rfl (by decide) (by decide) rfl rfl ?_); go_simp) | ((refine append_k el22 sz3 by3 ze3 rfl (by decide) (HU.out.ext (Ext.push _)) (srcCells_new rfl) (by decide) rfl (by rw [List.all_append, oneV_ints]; rfl) HBIG.out (by rw [AHeap.n_push]; have := HB9.out; omega) fun v2 H4 ho4 hg4 => ?_); (obtain ⟨a4, n4, rfl⟩ := own_slice ho4); (have HO4 := Lib.hid ho4); (have HG4 := Lib.hid hg4); (have HX4 := Lib.hid (hg4.ext (HU.out.ext (Ext.push _)) (Nat.le_refl _) (HX2.out.push' _))); (have hx4b : cellAt H4 b1 (o1 + k) = some (.int .i64 x) := (HX4.out.cellAt hbb).trans hxk); (have hx4a : cellAt H4 b2 (o2 + j) = some (.int .i64 y) := (HX4.out.cellAt hbb2).trans hxj1); clear ho4 hg4; go_simp) | ((refine append_k el22 sz3 by3 ze3 rfl (by decide) (HO4.out.ext (Ext.push _)) (srcCells_new rfl) (by decide) rfl (by rw [List.all_append, List.all_append, oneV_ints]; rfl) HBIG2.out (by rw [AHeap.n_push]; have := HB9.out; have := HX4.out.n; omega) fun v5 H5 ho5 hg5 => ?_); (have HO5 := Lib.hid ho5); (have HX5 := Lib.hid (hg5.ext (HO4.out.ext (Ext.push _)) (Nat.le_refl _) (HX4.out.push' _))); (have hx5 : cellAt H5 b1 (o1 + k) = some (.int .i64 x) := (HX5.out.cellAt hbb).trans hxk); clear ho5 hg5; go_simp));(first|(refine hK2 _ _ ?_ ?_<;>clear hK2 K2)|(refine hK2 _ _ ?_;clear hK2 K2))))
          all_goals (refine Post.round_normal ⟨a.length - (j + 1), by omega, j + 1, v5, true, M ++ [x] ++ [y], by omega, rfl, (by first|go_simp<;>go_num|assumption), (by first|go_simp<;>go_num|assumption), (by first|go_simp<;>go_num|assumption), (by first|go_simp<;>go_num|assumption), (by first|go_simp<;>go_num|assumption), (by first|go_simp<;>go_num|assumption), (by first|go_simp<;>go_num|assumption), (by first|go_simp<;>go_num|assumption), (by first|go_simp<;>go_num|assumption), HX5, Lib.hid (by rw [List.map_append, List.map_append]; exact HO5.out), by simp; omega, Lib.hid (.inr ⟨rfl, HM2.out, HY2.out⟩)⟩)
        · have HM2 : Hid (M ++ [y] = insX x (a.take (j + 1))) := Lib.hid (by rw [HTK.out, insX_put hyes, hM])
          have HY2 : Hid (∃ z, z ∈ a.take (j + 1) ∧ x < z) := Lib.hid (by obtain ⟨z, hz, hxz⟩ := hyes; exact ⟨z, by rw [HTK.out]; exact List.mem_append_left _ hz, hxz⟩)
          clear hM hyes
          repeat' (first|(with_reducible first|refine zA ?_|refine zB fun K hK=>?_|refine zC fun K2 hK2=>?_|refine zD ?_|refine zE ?_|refine zF ?_|refine zG ?_|refine zH ?_|refine zI ?_|refine zM ?_|refine zN ?_|refine zO ?_|refine zP ?_|refine zQ ?_|refine zR ?_)|((with_reducible refine zU (hK _ _ ?_));clear hK K)|((with_reducible refine zV ?_ ?_ fun K1 K3 d hdst h1 h3=>?_);rfl;exact yB rfl;cases hdst;go_simp)|((with_reducible refine zW fun K1 K3 h1 h3=>?_);go_simp)|((first|refine h1 ?_|refine h3 ?_);clear h1 h3 K1 K3)|((first|refine zX (fun hb=>h1 ?_) (fun hb=>h3 ?_)|refine zX (fun hb=>h3 ?_) (fun hb=>h1 ?_))<;>(clear h1 h3 K1 K3;(try have hb2:=yC hb);(try have hb2:=yD hb);(try have hb2:=yE hb);(try have hb2:=yF hb);(try have hb2:=yG hb)))|(refine fun (K2:_→AHeap→Prop) hK2=>?_)|((with_reducible refine zY ?_ ?_);decide)|((with_reducible first|refine zZ ?_ (fun K hK=>?_)|refine yA ?_ (fun K hK=>?_));(focus go_simp;done);go_simp;refine hK _ _ ?_;clear hK K)|((with_reducible refine yH mixed rfl ?_ 20 fun K0 hK0=>?_);kernel_rfl)|(with_reducible first|exact yI|exact yJ|refine yK ?_|refine yL ?_|refine yM ?_)|((with_reducible first|refine yN ?_ ?_|refine yO ?_ ?_|refine yP ?_ ?_);rfl)|((with_reducible refine yQ ?_ ?_);rfl;refine hK0 _ _ ?_;clear hK0 K0)|((with_reducible refine yR ?_ ?_ ?_ ?_);rfl;rfl;rfl)|((with_reducible refine yS ?_ ?_ ?_ fun K2 hK2=>?_);rfl;rfl;exact yB rfl)|((with_reducible refine yT ?_ ?_ ?_ ?_ fun K1 K3 d hdst h1 h3=>?_);rfl;rfl;rfl;exact yB rfl;cases hdst;go_simp)|((with_reducible refine yU ?_ ?_ ?_ ?_ fun K1 K3 d hdst h1 h3=>?_);rfl;rfl;rfl;exact yB rfl;cases hdst;go_simp)|((with_reducible refine yV ?_ ?_ (fun K2 hK2=>?_) ?_);rfl;exact yB rfl)|((with_reducible refine yW ?_ ?_ ?_ ?_ (fun K2 hK2=>?_) ?_);rfl;exact yB rfl;rfl;(focus go_simp;done))|((with_reducible refine yX ?_ ?_ ?_ (fun K2 hK2=>?_) ?_);rfl;rfl;exact yB rfl)|((with_reducible refine yY ?_ ?_ (fun K2 hK2=>?_) ?_);rfl;rfl)|((with_reducible refine yZ ?_ ?_);(first|rfl|(dsimp only;decide +kernel)))|((with_reducible refine xA ?_ ?_);(focus go_simp;done))|(go_simp;(try go_bits);(try first | ((refine one_k el22 sz3 ze3 rfl (by decide) (by decide) rfl rfl ?_); go_simp) | ((refine append_k el22 sz3 by3 ze3 rfl (by decide) (HU.out.ext (Ext.push _)) (srcCells_new rfl) (by decide) rfl (by rw [List.all_append, oneV_ints]; rfl) HBIG.out (by rw [AHeap.n_push]; have := HB9.out; omega) fun v2 H4 ho4 hg4 => ?_); (obtain ⟨a4, n4, rfl⟩ := own_slice ho4); (have HO4 := Lib.hid ho4); (have HG4 := Lib.hid hg4); (have HX4 := Lib.hid (hg4.ext (HU.out.ext (Ext.push _)) (Nat.le_refl _) (HX2.out.push' _))); (have hx4b : cellAt H4 b1 (o1 + k) = some (.int .i64 x) := (HX4.out.cellAt hbb).trans hxk); (have hx4a : cellAt H4 b2 (o2 + j) = some (.int .i64 y) := (HX4.out.cellAt hbb2).trans hxj1); clear ho4 hg4; go_simp));(first|(refine hK2 _ _ ?_ ?_<;>clear hK2 K2)|(refine hK2 _ _ ?_;clear hK2 K2))))
          all_goals (refine Post.round_normal ⟨a.length - (j + 1), by omega, j + 1, .slice a4 n4 n4, true, M ++ [y], by omega, rfl, (by first|go_simp<;>go_num|assumption), (by first|go_simp<;>go_num|assumption), (by first|go_simp<;>go_num|assumption), (by first|go_simp<;>go_num|assumption), (by first|go_simp<;>go_num|assumption), (by first|go_simp<;>go_num|assumption), (by first|go_simp<;>go_num|assumption), (by first|go_simp<;>go_num|assumption), (by first|go_simp<;>go_num|assumption), HX4, Lib.hid (by rw [List.map_append]; exact HO4.out), by simp; omega, Lib.hid (.inr ⟨rfl, HM2.out, HY2.out⟩)⟩)
      · have hyx : ¬ x < y := hxy
        rcases HP.out with ⟨rfl, hM, hno⟩ | ⟨rfl, hM, hyes⟩
        · have HM2 : Hid (M ++ [y] = a.take (j + 1)) := Lib.hid (by rw [HTK.out, hM])
          have HY2 : Hid (∀ z, z ∈ a.take (j + 1) → ¬ x < z) := Lib.hid (fun z hz => by
            rw [HTK.out] at hz
            rcases List.mem_append.1 hz with hz | hz
            · exact hno z hz
            · rw [List.mem_singleton] at hz; rw [hz]; exact hyx)
          clear hM hno
          repeat' (first|(with_reducible first|refine zA ?_|refine zB fun K hK=>?_|refine zC fun K2 hK2=>?_|refine zD ?_|refine zE ?_|refine zF ?_|refine zG ?_|refine zH ?_|refine zI ?_|refine zM ?_|refine zN ?_|refine zO ?_|refine zP ?_|refine zQ ?_|refine zR ?_)|((with_reducible refine zU (hK _ _ ?_));clear hK K)|((with_reducible refine zV ?_ ?_ fun K1 K3 d hdst h1 h3=>?_);rfl;exact yB rfl;cases hdst;go_simp)|((with_reducible refine zW fun K1 K3 h1 h3=>?_);go_simp)|((first|refine h1 ?_|refine h3 ?_);clear h1 h3 K1 K3)|((first|refine zX (fun hb=>h1 ?_) (fun hb=>h3 ?_)|refine zX (fun hb=>h3 ?_) (fun hb=>h1 ?_))<;>(clear h1 h3 K1 K3;(try have hb2:=yC hb);(try have hb2:=yD hb);(try have hb2:=yE hb);(try have hb2:=yF hb);(try have hb2:=yG hb)))|(refine fun (K2:_→AHeap→Prop) hK2=>?_)|((with_reducible refine zY ?_ ?_);decide)|((with_reducible first|refine zZ ?_ (fun K hK=>?_)|refine yA ?_ (fun K hK=>?_));(focus go_simp;done);go_simp;refine hK _ _ ?_;clear hK K)|((with_reducible refine yH mixed rfl ?_ 20 fun K0 hK0=>?_);kernel_rfl)|(with_reducible first|exact yI|exact yJ|refine yK ?_|refine yL ?_|refine yM ?_)|((with_reducible first|refine yN ?_ ?_|refine yO ?_ ?_|refine yP ?_ ?_);rfl)|((with_reducible refine yQ ?_ ?_);rfl;refine hK0 _ _ ?_;clear hK0 K0)|((with_reducible refine yR ?_ ?_ ?_ ?_);rfl;rfl;rfl)|((with_reducible refine yS ?_ ?_ ?_ fun K2 hK2=>?_);rfl;rfl;exact yB rfl)|((with_reducible refine yT ?_ ?_ ?_ ?_ fun K1 K3 d hdst h1 h3=>?_);rfl;rfl;rfl;exact yB rfl;cases hdst;go_simp)|((with_reducible refine yU ?_ ?_ ?_ ?_ fun K1 K3 d hdst h1 h3=>?_);rfl;rfl;rfl;exact yB rfl;cases hdst;go_simp)|((with_reducible refine yV ?_ ?_ (fun K2 hK2=>?_) ?_);rfl;exact yB rfl)|((with_reducible refine yW ?_ ?_ ?_ ?_ (fun K2 hK2=>?_) ?_);rfl;exact yB rfl;rfl;(focus go_simp;done))|((with_reducible refine yX ?_ ?_ ?_ (fun K2 hK2=>?_) ?_);rfl;rfl;exact yB rfl)|((with_reducible refine yY ?_ ?_ (fun K2 hK2=>?_) ?_);rfl;rfl)|((with_reducible refine yZ ?_ ?_);(first|rfl|(dsimp only;decide +kernel)))|((with_reducible refine xA ?_ ?_);(focus go_simp;done))|(go_simp;(try go_bits);(try first | ((refine one_k el22 sz3 ze3 rfl (by decide) (by decide) rfl rfl ?_); go_simp) | ((refine append_k el22 sz3 by3 ze3 rfl (by decide) (HU.out.ext (Ext.push _)) (srcCells_new rfl) (by decide) rfl (by rw [List.all_append, oneV_ints]; rfl) HBIG.out (by rw [AHeap.n_push]; have := HB9.out; omega) fun v2 H4 ho4 hg4 => ?_); (obtain ⟨a4, n4, rfl⟩ := own_slice ho4); (have HO4 := Lib.hid ho4); (have HG4 := Lib.hid hg4); (have HX4 := Lib.hid (hg4.ext (HU.out.ext (Ext.push _)) (Nat.le_refl _) (HX2.out.push' _))); (have hx4b : cellAt H4 b1 (o1 + k) = some (.int .i64 x) := (HX4.out.cellAt hbb).trans hxk); (have hx4a : cellAt H4 b2 (o2 + j) = some (.int .i64 y) := (HX4.out.cellAt hbb2).trans hxj1); clear ho4 hg4; go_simp));(first|(refine hK2 _ _ ?_ ?_<;>clear hK2 K2)|(refine hK2 _ _ ?_;clear hK2 K2))))
          all_goals (refine Post.round_normal ⟨a.length - (j + 1), by omega, j + 1, .slice a4 n4 n4, false, M ++ [y], by omega, rfl, (by first|go_simp<;>go_num|assumption), (by first|go_simp<;>go_num|assumption), (by first|go_simp<;>go_num|assumption), (by first|go_simp<;>go_num|assumption), (by first|go_simp<;>go_num|assumption), (by first|go_simp<;>go_num|assumption), (by first|go_simp<;>go_num|assumption), (by first|go_simp<;>go_num|assumption), (by first|go_simp<;>go_num|assumption), HX4, Lib.hid (by rw [List.map_append]; exact HO4.out), by simp; omega, Lib.hid (.inl ⟨rfl, HM2.out, HY2.out⟩)⟩)
        · have HM2 : Hid (M ++ [y] = insX x (a.take (j + 1))) := Lib.hid (by rw [HTK.out, insX_put hyes, hM])
          have HY2 : Hid (∃ z, z ∈ a.take (j + 1) ∧ x < z) := Lib.hid (by obtain ⟨z, hz, hxz⟩ := hyes; exact ⟨z, by rw [HTK.out]; exact List.mem_append_left _ hz, hxz⟩)
          clear hM hyes
          repeat' (first|(with_reducible first|refine zA ?_|refine zB fun K hK=>?_|refine zC fun K2 hK2=>?_|refine zD ?_|refine zE ?_|refine zF ?_|refine zG ?_|refine zH ?_|refine zI ?_|refine zM ?_|refine zN ?_|refine zO ?_|refine zP ?_|refine zQ ?_|refine zR ?_)|((with_reducible refine zU (hK _ _ ?_));clear hK K)|((with_reducible refine zV ?_ ?_ fun K1 K3 d hdst h1 h3=>?_);rfl;exact yB rfl;cases hdst;go_simp)|((with_reducible refine zW fun K1 K3 h1 h3=>?_);go_simp)|((first|refine h1 ?_|refine h3 ?_);clear h1 h3 K1 K3)|((first|refine zX (fun hb=>h1 ?_) (fun hb=>h3 ?_)|refine zX (fun hb=>h3 ?_) (fun hb=>h1 ?_))<;>(clear h1 h3 K1 K3;(try have hb2:=yC hb);(try have hb2:=yD hb);(try have hb2:=yE hb);(try have hb2:=yF hb);(try have hb2:=yG hb)))|(refine fun (K2:_→AHeap→Prop) hK2=>?_)|((with_reducible refine zY ?_ ?_);decide)|((with_reducible first|refine zZ ?_ (fun K hK=>?_)|refine yA ?_ (fun K hK=>?_));(focus go_simp;done);go_simp;refine hK _ _ ?_;clear hK K)|((with_reducible refine yH mixed rfl ?_ 20 fun K0 hK0=>?_);kernel_rfl)|(with_reducible first|exact yI|exact yJ|refine yK ?_|refine yL ?_|refine yM ?_)|((with_reducible first|refine yN ?_ ?_|refine yO ?_ ?_|refine yP ?_ ?_);rfl)|((with_reducible refine yQ ?_ ?_);rfl;refine hK0 _ _ ?_;clear hK0 K0)|((with_reducible refine yR ?_ ?_ ?_ ?_);rfl;rfl;rfl)|((with_reducible refine yS ?_ ?_ ?_ fun K2 hK2=>?_);rfl;rfl;exact yB rfl)|((with_reducible refine yT ?_ ?_ ?_ ?_ fun K1 K3 d hdst h1 h3=>?_);rfl;rfl;rfl;exact yB rfl;cases hdst;go_simp)|((with_reducible refine yU ?_ ?_ ?_ ?_ fun K1 K3 d hdst h1 h3=>?_);rfl;rfl;rfl;exact yB rfl;cases hdst;go_simp)|((with_reducible refine yV ?_ ?_ (fun K2 hK2=>?_) ?_);rfl;exact yB rfl)|((with_reducible refine yW ?_ ?_ ?_ ?_ (fun K2 hK2=>?_) ?_);rfl;exact yB rfl;rfl;(focus go_simp;done))|((with_reducible refine yX ?_ ?_ ?_ (fun K2 hK2=>?_) ?_);rfl;rfl;exact yB rfl)|((with_reducible refine yY ?_ ?_ (fun K2 hK2=>?_) ?_);rfl;rfl)|((with_reducible refine yZ ?_ ?_);(first|rfl|(dsimp only;decide +kernel)))|((with_reducible refine xA ?_ ?_);(focus go_simp;done))|(go_simp;(try go_bits);(try first | ((refine one_k el22 sz3 ze3 rfl (by decide) (by decide) rfl rfl ?_); go_simp) | ((refine append_k el22 sz3 by3 ze3 rfl (by decide) (HU.out.ext (Ext.push _)) (srcCells_new rfl) (by decide) rfl (by rw [List.all_append, oneV_ints]; rfl) HBIG.out (by rw [AHeap.n_push]; have := HB9.out; omega) fun v2 H4 ho4 hg4 => ?_); (obtain ⟨a4, n4, rfl⟩ := own_slice ho4); (have HO4 := Lib.hid ho4); (have HG4 := Lib.hid hg4); (have HX4 := Lib.hid (hg4.ext (HU.out.ext (Ext.push _)) (Nat.le_refl _) (HX2.out.push' _))); (have hx4b : cellAt H4 b1 (o1 + k) = some (.int .i64 x) := (HX4.out.cellAt hbb).trans hxk); (have hx4a : cellAt H4 b2 (o2 + j) = some (.int .i64 y) := (HX4.out.cellAt hbb2).trans hxj1); clear ho4 hg4; go_simp));(first|(refine hK2 _ _ ?_ ?_<;>clear hK2 K2)|(refine hK2 _ _ ?_;clear hK2 K2))))
          all_goals (refine Post.round_normal ⟨a.length - (j + 1), by omega, j + 1, .slice a4 n4 n4, true, M ++ [y], by omega, rfl, (by first|go_simp<;>go_num|assumption), (by first|go_simp<;>go_num|assumption), (by first|go_simp<;>go_num|assumption), (by first|go_simp<;>go_num|assumption), (by first|go_simp<;>go_num|assumption), (by first|go_simp<;>go_num|assumption), (by first|go_simp<;>go_num|assumption), (by first|go_simp<;>go_num|assumption), (by first|go_simp<;>go_num|assumption), HX4, Lib.hid (by rw [List.map_append]; exact HO4.out), by simp; omega, Lib.hid (.inr ⟨rfl, HM2.out, HY2.out⟩)⟩)
    · have hji : ¬ (j : Int) < (a.length : Int) := by omega
      have hje : j = a.length := by omega
      subst hje
      have hP := HP.out
      rw [List.take_length] at hP
      have hq2 : cellsAt J2 H.n 0 3 = some [.int .i64 t.days, .slice ca t.closed.length cc, .slice fa t.flaws.length fc] := (HX2.out.cellsAt (Nat.lt_of_lt_of_le hnK HX1.out.n)).trans hq1
      have HCN := Lib.hid (fun (loops : List (Nat × LInfo)) (H9 : AHeap) (w : Value) (hx : Ext H H9) (hi : Ints H9 w (insX x a)) => can_s (loops := loops) (HV.out.ext hx) hi)
      rw [HEX2.out] at HCN
      have HLN : Hid ((insX x a).length ≤ 9223372036854775807) := Lib.hid (by
        rcases hP with ⟨-, hM, hno⟩ | ⟨-, hM, -⟩
        · rw [insX_end hno, List.length_append]; simp; omega
        · rw [← hM]; omega)
      have HNX3 := Lib.hid (fun h => HNX.out (.inr h))
      clear HP hjl HNX
      rcases hP with ⟨rfl, hM, hno⟩ | ⟨rfl, hM, -⟩
      · have HM2 : Hid (M ++ [x] = insX x a) := Lib.hid (by rw [insX_end hno, hM])
        clear hM hno
        generalize hcb : t.can (insX x a) = cb at HCN HNX3
        repeat' (first|(with_reducible first|refine zA ?_|refine zB fun K hK=>?_|refine zC fun K2 hK2=>?_|refine zD ?_|refine zE ?_|refine zF ?_|refine zG ?_|refine zH ?_|refine zI ?_|refine zM ?_|refine zN ?_|refine zO ?_|refine zP ?_|refine zQ ?_|refine zR ?_)|((with_reducible refine zU (hK _ _ ?_));clear hK K)|((with_reducible refine zV ?_ ?_ fun K1 K3 d hdst h1 h3=>?_);rfl;exact yB rfl;cases hdst;go_simp)|((with_reducible refine zW fun K1 K3 h1 h3=>?_);go_simp)|((first|refine h1 ?_|refine h3 ?_);clear h1 h3 K1 K3)|((first|refine zX (fun hb=>h1 ?_) (fun hb=>h3 ?_)|refine zX (fun hb=>h3 ?_) (fun hb=>h1 ?_))<;>(clear h1 h3 K1 K3;(try have hb2:=yC hb);(try have hb2:=yD hb);(try have hb2:=yE hb);(try have hb2:=yF hb);(try have hb2:=yG hb)))|(refine fun (K2:_→AHeap→Prop) hK2=>?_)|((with_reducible refine zY ?_ ?_);decide)|((with_reducible first|refine zZ ?_ (fun K hK=>?_)|refine yA ?_ (fun K hK=>?_));(focus go_simp;done);go_simp;refine hK _ _ ?_;clear hK K)|(go_simp;(try go_bits);(try first | ((refine one_k el22 sz3 ze3 rfl (by decide) (by decide) rfl rfl ?_); go_simp) | ((refine append_k el22 sz3 by3 ze3 rfl (by decide) (HU.out.ext (Ext.push _)) (srcCells_new rfl) (by decide) rfl (by rw [List.all_append, oneV_ints]; rfl) HBIG.out (by rw [AHeap.n_push]; have := HB9.out; omega) fun v2 H4 ho4 hg4 => ?_); (obtain ⟨a4, n4, rfl⟩ := own_slice ho4); (have HO4 := Lib.hid ho4); (have HX4 := Lib.hid (hg4.ext (HU.out.ext (Ext.push _)) (Nat.le_refl _) (HX2.out.push' _))); (have hq4 : cellsAt H4 H.n 0 3 = some [.int .i64 t.days, .slice ca t.closed.length cc, .slice fa t.flaws.length fc] := (HX4.out.cellsAt (Nat.lt_of_lt_of_le hnK HX1.out.n)).trans hq1); clear ho4 hg4; go_simp) | ((with_reducible show CallS _ _ _ _ _ _);refine CallS.mono (HCN.out _ _ _ (HXH1.out.trans HX4.out) (ints_own (by rw [← HM2.out, List.map_append]; exact HO4.out) HLN.out)) ?_; rintro _ _ ⟨rfl, h9⟩; rw [h9]; clear h9; go_simp));refine hK2 _ _ ?_;clear hK2 K2))
        · rfl
        · have hcf : cb = false := by assumption
          refine Post.round_normal ⟨b.length - (k + 1), by omega, k + 1, by omega, rfl, (by first|go_simp<;>go_num|assumption), (by first|go_simp<;>go_num|assumption), (by first|go_simp<;>go_num|assumption), (by first|go_simp<;>go_num|assumption), (by first|go_simp<;>go_num|assumption), (by first|go_simp<;>go_num|assumption), Lib.hid (HX1.out.trans HX4.out), Lib.hid (HNX3.out hcf)⟩
      · have HIM := Lib.hid (ints_own (hM ▸ HU.out) HLN.out)
        have HCN2 := Lib.hid (fun (loops : List (Nat × LInfo)) => HCN.out loops J2 _ HXH2.out HIM.out)
        clear hM
        generalize hcb : t.can (insX x a) = cb at HCN2 HNX3
        repeat' (first|(with_reducible first|refine zA ?_|refine zB fun K hK=>?_|refine zC fun K2 hK2=>?_|refine zD ?_|refine zE ?_|refine zF ?_|refine zG ?_|refine zH ?_|refine zI ?_|refine zM ?_|refine zN ?_|refine zO ?_|refine zP ?_|refine zQ ?_|refine zR ?_)|((with_reducible refine zU (hK _ _ ?_));clear hK K)|((with_reducible refine zV ?_ ?_ fun K1 K3 d hdst h1 h3=>?_);rfl;exact yB rfl;cases hdst;go_simp)|((with_reducible refine zW fun K1 K3 h1 h3=>?_);go_simp)|((first|refine h1 ?_|refine h3 ?_);clear h1 h3 K1 K3)|((first|refine zX (fun hb=>h1 ?_) (fun hb=>h3 ?_)|refine zX (fun hb=>h3 ?_) (fun hb=>h1 ?_))<;>(clear h1 h3 K1 K3;(try have hb2:=yC hb);(try have hb2:=yD hb);(try have hb2:=yE hb);(try have hb2:=yF hb);(try have hb2:=yG hb)))|(refine fun (K2:_→AHeap→Prop) hK2=>?_)|((with_reducible refine zY ?_ ?_);decide)|((with_reducible first|refine zZ ?_ (fun K hK=>?_)|refine yA ?_ (fun K hK=>?_));(focus go_simp;done);go_simp;refine hK _ _ ?_;clear hK K)|(go_simp;(try go_bits);(try first | ((with_reducible show CallS _ _ _ _ _ _);refine CallS.mono (HCN2.out _) ?_; rintro _ _ ⟨rfl, h9⟩; rw [h9]; clear h9; go_simp));refine hK2 _ _ ?_;clear hK2 K2))
        · rfl
        · have hcf : cb = false := by assumption
          refine Post.round_normal ⟨b.length - (k + 1), by omega, k + 1, by omega, rfl, (by first|go_simp<;>go_num|assumption), (by first|go_simp<;>go_num|assumption), (by first|go_simp<;>go_num|assumption), (by first|go_simp<;>go_num|assumption), (by first|go_simp<;>go_num|assumption), (by first|go_simp<;>go_num|assumption), Lib.hid (HX1.out.trans HX2.out), Lib.hid (HNX3.out hcf)⟩
  · exfalso
    obtain ⟨h1, h2, h3⟩ := HX0.out
    obtain ⟨j, hj, rfl⟩ := List.mem_iff_getElem.1 h1
    rcases HNO.out j hj (by omega) with h4 | h4
    · exact h2 h4
    · rw [h3] at h4; cases h4
end Go.Proofs.Try
namespace Go.Proofs.Try
open Go.ChangeShapes Go.WideShapes Go.ChangeAt Go.RowKit Go.Joins Go.Deep Go.Am
set_option maxRecDepth 100000


theorem fields30 : ∃ f0 f1 : Field, Try.prog.underlying 30 = some (.struct #[f0, f1]) ∧ (f0.type = 3 ∧ f1.type = 3) ∧ (f0.offset = 0 ∧ f1.offset = 1) ∧ Try.prog.cellsOf 3 = 1 ∧ Try.prog.cellsOf 30 = 2 :=
  ⟨(fieldOf Try.prog 30 0).getD default, (fieldOf Try.prog 30 1).getD default, by kernel_rfl, by refine ⟨?_, ?_⟩ <;> kernel_rfl, by refine ⟨?_, ?_⟩ <;> kernel_rfl, by kernel_rfl, by kernel_rfl⟩
theorem fields32 : ∃ f0 f1 f2 : Field, Try.prog.underlying 32 = some (.struct #[f0, f1, f2]) ∧ (f0.type = 3 ∧ f1.type = 30 ∧ f2.type = 3) ∧ (f0.offset = 0 ∧ f1.offset = 1 ∧ f2.offset = 3) ∧ Try.prog.cellsOf 3 = 1 ∧ Try.prog.cellsOf 30 = 2 ∧ Try.prog.cellsOf 32 = 4 :=
  ⟨(fieldOf Try.prog 32 0).getD default, (fieldOf Try.prog 32 1).getD default, (fieldOf Try.prog 32 2).getD default, by kernel_rfl, by refine ⟨?_, ?_, ?_⟩ <;> kernel_rfl, by refine ⟨?_, ?_, ?_⟩ <;> kernel_rfl, by kernel_rfl, by kernel_rfl, by kernel_rfl⟩

section
variable {H : Type} {enc : TypeId × Value → H} {w : World}
theorem span_cells {fuel : Nat} {a b : Value} {x : DataW H × List MemPlace} (h : DataW.trod enc Try.prog w 0 (fun _ => true) true fuel 30 [a, b] = some x) : ∃ lo hi : Int, a = .int .i64 lo ∧ b = .int .i64 hi := by
  obtain ⟨f0, f1, hu, ⟨t0, t1⟩, ⟨o0, o1⟩, h3, h6⟩ := fields30
  obtain ⟨xs, n, _, _, _, _, ht⟩ := DataW.trod_struct hu h
  have ht0 := ht 0 f0 rfl
  have ht1 := ht 1 f1 rfl
  rw [t0, o0, h3] at ht0
  rw [t1, o1, h3] at ht1
  have hlen : xs.length = 2 := by assumption
  rw [List.getElem?_eq_getElem (by omega)] at ht0 ht1
  obtain ⟨z0, hz0, _, _⟩ := DataW.trod_int Try.underlying3 (show DataW.trod enc Try.prog w 0 (fun _ => true) true n 3 [a] = _ from ht0)
  obtain ⟨z1, hz1, _, _⟩ := DataW.trod_int Try.underlying3 (show DataW.trod enc Try.prog w 0 (fun _ => true) true n 3 [b] = _ from ht1)
  injection hz0 with hz0 _
  injection hz1 with hz1 _
  exact ⟨z0, z1, hz0, hz1⟩
theorem flaw_cells {fuel : Nat} {cs : List Value} {x : DataW H × List MemPlace} (hc : cs.length = 4) (h : DataW.trod enc Try.prog w 0 (fun _ => true) true fuel 32 cs = some x) : ∃ q : Flaw, cs = q.cells := by
  obtain ⟨f0, f1, f2, hu, ⟨t0, t1, t2⟩, ⟨o0, o1, o2⟩, h3, h4, h6⟩ := fields32
  obtain ⟨xs, n, _, _, _, _, ht⟩ := DataW.trod_struct hu h
  obtain ⟨a, b, c, d, rfl⟩ : ∃ a b c d, cs = [a, b, c, d] := by
    match cs, hc with
    | [a, b, c, d], _ => exact ⟨a, b, c, d, rfl⟩
  have ht0 := ht 0 f0 rfl
  have ht1 := ht 1 f1 rfl
  have ht2 := ht 2 f2 rfl
  rw [t0, o0, h3] at ht0
  rw [t1, o1, h4] at ht1
  rw [t2, o2, h3] at ht2
  have hlen : xs.length = 3 := by assumption
  rw [List.getElem?_eq_getElem (by omega)] at ht0 ht1 ht2
  obtain ⟨z0, hz0, _, _⟩ := DataW.trod_int Try.underlying3 (show DataW.trod enc Try.prog w 0 (fun _ => true) true n 3 [a] = _ from ht0)
  obtain ⟨lo, hi, rfl, rfl⟩ := span_cells (show DataW.trod enc Try.prog w 0 (fun _ => true) true n 30 [b, c] = _ from ht1)
  obtain ⟨z2, hz2, _, _⟩ := DataW.trod_int Try.underlying3 (show DataW.trod enc Try.prog w 0 (fun _ => true) true n 3 [d] = _ from ht2)
  injection hz0 with hz0 _
  injection hz2 with hz2 _
  exact ⟨⟨z0, lo, hi, z2⟩, by rw [hz0, hz2]; rfl⟩
end
theorem add_at (b o j : Nat) : (⟨b, o, none⟩ : Addr).add j = ⟨b, o + j, none⟩ := by
  unfold Addr.add
  split
  · rename_i h; subst h; rfl
  · rfl
theorem cell_lt {w : World} {p : Addr} {v : Value} (h : w.cell? p = some v) : p.block < w.heap.size := by
  rcases Nat.lt_or_ge p.block w.heap.size with hlt | hge
  · exact hlt
  · unfold World.cell? at h
    rw [Array.getElem?_eq_none hge] at h
    cases h
theorem cell_spot {w : World} {p : Addr} {v : Value} (h : w.cell? p = some v) : p.spot = none := by
  unfold World.cell? at h
  split at h
  · split at h
    · cases h
    · rename_i h0; simpa using h0
  · cases h


theorem slice_abs {w : World} {a : Addr} {len cap size d : Nat} {us : List Value} (hl : len ≤ cap) (hc : len ≤ 9223372036854775807) (hus : us.length = len * size) (hsz : 0 < size) (hplain : ∀ (j : Nat) (u : Value), us[j]? = some u → absV w.heap.size 8 u = u) (hcell : ∀ (j : Nat) (u : Value), us[j]? = some u → w.cell? (a.add j) = some u) : Cells (absH w) (absV w.heap.size (d + 1) (.slice (some a) len cap)) size len us ∧ CutOk (absH w) (absV w.heap.size (d + 1) (.slice (some a) len cap)) := by
  by_cases h0 : len = 0
  · subst h0
    simp only [absV]
    split
    · exact ⟨⟨hus, hc, _, _, rfl, by simp, by omega⟩, fun b o sp n c e h => by cases e; omega⟩
    · rw [if_pos trivial]; exact ⟨⟨hus, hc, _, _, rfl, by simp, by omega⟩, fun b o sp n c e h => by cases e; omega⟩
  · have hpos : 0 < us.length := by rw [hus]; exact Nat.mul_pos (by omega) hsz
    have h1 := hcell 0 _ (List.getElem?_eq_getElem hpos)
    have e0 : a.add 0 = a := by unfold Addr.add; rw [if_pos rfl]
    rw [e0] at h1
    have hsp := cell_spot h1
    have hlt := cell_lt h1
    obtain ⟨b, o, sp⟩ := a
    simp only at hsp hlt
    subst hsp
    simp only [absV]
    rw [if_pos ⟨trivial, hlt, hl⟩]
    refine ⟨⟨hus, hc, _, _, rfl, by simp, fun _ => ⟨b, o, none, rfl, by rw [absH_n]; exact hlt, fun j u hu => ?_⟩⟩, fun b' o' sp' n' c' e h => ?_⟩
    · have h2 := hcell j u hu
      rw [add_at] at h2
      rw [abs_cell h2, hplain j u hu]
    · cases e
      refine ⟨rfl, hl, ?_⟩
      unfold World.cell? at h1
      split at h1
      · rename_i c e fz hc
        have hg : (absH w).get b = .ext (c.toList.map (absV w.heap.size 8)) 0 := by
          rw [absH_get w hlt, absO]; simp only at hc; rw [hc]
        simp [elemIsR, hg]
      · cases h1

section
variable {H : Type} {enc : TypeId × Value → H} {w : World}
theorem none_abs {w : World} {d size : Nat} : Cells (absH w) (absV w.heap.size (d + 1) (.slice none 0 0)) size 0 [] ∧ CutOk (absH w) (absV w.heap.size (d + 1) (.slice none 0 0)) :=
  ⟨⟨by simp, by omega, none, 0, rfl, fun _ => rfl, by simp⟩, fun b o sp n c e h => by cases e⟩
theorem ints_abs {fuel d : Nat} {v : Value} {x : DataW H × List MemPlace} (h : DataW.trod enc Try.prog w 0 (fun _ => true) true fuel 22 [v] = some x) : ∃ xs, Ints (absH w) (absV w.heap.size (d + 1) v) xs ∧ CutOk (absH w) (absV w.heap.size (d + 1) v) := by
  rcases open_ints Try.underlying22 Try.underlying3 (by kernel_rfl) h with ⟨hcs, _⟩ | ⟨a, l, c, zs, hcs, _, hl, hm, hz, _, hcell, _⟩
  · injection hcs with hcs _
    subst hcs
    exact ⟨[], none_abs⟩
  · injection hcs with hcs _
    subst hcs
    simp only [if_true] at hz
    have hlen : (zs.take l).length = l := by rw [List.length_take]; omega
    refine ⟨zs.take l, ?_⟩
    unfold Ints
    rw [hlen]
    refine slice_abs hl (by unfold maxLen at hm; omega) (by rw [List.length_map, hlen]; omega) (by decide) (fun j u hu => ?_) (fun j u hu => ?_)
    · rw [List.getElem?_map] at hu
      obtain ⟨z, _, rfl⟩ := Option.map_eq_some_iff.1 hu
      rfl
    · rw [List.getElem?_map] at hu
      obtain ⟨z, hz1, rfl⟩ := Option.map_eq_some_iff.1 hu
      rw [List.getElem?_take] at hz1
      split at hz1
      · have hj : j < zs.length := (List.getElem?_eq_some_iff.1 hz1).1
        rw [hcell j hj, List.getD_eq_getElem?_getD, hz1]
        rfl
      · cases hz1

theorem flaws_abs {fuel d : Nat} {v : Value} {x : DataW H × List MemPlace} (h : DataW.trod enc Try.prog w 0 (fun _ => true) true fuel 23 [v] = some x) : ∃ l, Flaws (absH w) (absV w.heap.size (d + 1) v) l := by
  rcases open_slice Try.underlying23 h with ⟨hcs, _⟩ | ⟨a, len, cap, m, n, D, Pl, hcs, _, hl, hm, hmm, _, hi⟩
  · injection hcs with hcs _
    subst hcs
    exact ⟨[], none_abs.1⟩
  · injection hcs with hcs _
    subst hcs
    simp only [if_true] at hmm
    obtain ⟨_, _, _, _, _, _, _, _, hC⟩ := fields32
    have hq : ∀ i, i < len → ∃ q : Flaw, ∀ j u, q.cells[j]? = some u → w.cell? (a.add (i * 4 + j)) = some u := by
      intro i h
      obtain ⟨cs', hc, ht'⟩ := hi i (by omega)
      rw [hC] at hc
      obtain ⟨_, hcl, hat⟩ := World.cells?_some hc
      obtain ⟨q, rfl⟩ := flaw_cells hcl ht'
      refine ⟨q, fun j u hu => ?_⟩
      have hj : j < 4 := (List.getElem?_eq_some_iff.1 hu).1
      rw [← Go.Deep.add_add, hat j hj]; exact hu
    obtain ⟨f, hf'⟩ := Classical.skolem.1 (fun i => show ∃ q : Flaw, i < len → ∀ j u, q.cells[j]? = some u → w.cell? (a.add (i * 4 + j)) = some u by
      by_cases hi : i < len
      · obtain ⟨q, hq⟩ := hq i hi; exact ⟨q, fun _ => hq⟩
      · exact ⟨⟨0, 0, 0, 0⟩, fun h => absurd h hi⟩)
    have hlen : ((List.range len).map f).length = len := by simp
    refine ⟨(List.range len).map f, ?_⟩
    unfold Flaws
    rw [hlen]
    have hget : ∀ j u, (flawCells ((List.range len).map f))[j]? = some u → ∃ k i, k < len ∧ j = k * 4 + i ∧ (f k).cells[i]? = some u := by
      intro j u hu
      have hj : j < len * 4 := by
        have := (List.getElem?_eq_some_iff.1 hu).1
        rw [flawCells_length, hlen] at this; exact this
      have hk : j / 4 < len := by omega
      have hi : j % 4 < 4 := Nat.mod_lt _ (by decide)
      have hcl : (f (j / 4)).cells.length = 4 := rfl
      have h1 := flawCells_get ((List.range len).map f) (j / 4) (by rw [hlen]; exact hk) (j % 4) ((f (j / 4)).cells[j % 4]'(by rw [hcl]; exact hi)) (by simp)
      have e : j / 4 * 4 + j % 4 = j := by omega
      rw [e, hu] at h1
      refine ⟨j / 4, j % 4, hk, e.symm, ?_⟩
      rw [List.getElem?_eq_getElem (by rw [hcl]; exact hi)]
      exact h1.symm ▸ rfl
    refine (slice_abs hl (by unfold maxLen at hm; omega) (by rw [flawCells_length, hlen]) (by decide) (fun j u hu => ?_) (fun j u hu => ?_)).1
    · obtain ⟨k, i, hk, rfl, hi⟩ := hget j u hu
      match i, hi with
      | 0, hi => cases hi; rfl
      | 1, hi => cases hi; rfl
      | 2, hi => cases hi; rfl
      | 3, hi => cases hi; rfl
      | i + 4, hi => simp [Flaw.cells] at hi
    · obtain ⟨k, i, hk, rfl, hi⟩ := hget j u hu
      exact hf' k hk i u hi
end

theorem ownOne : ownKnob Try.prog.godebug = none := by kernel_rfl
theorem laidOut : laidOutB Try.prog = true := by kernel_rfl

theorem fields25 : ∃ f0 f1 f2 : Field, Try.prog.underlying 25 = some (.struct #[f0, f1, f2]) ∧ (f0.type = 3 ∧ f1.type = 22 ∧ f2.type = 23) ∧ (f0.offset = 0 ∧ f1.offset = 1 ∧ f2.offset = 2) ∧ Try.prog.cellsOf 3 = 1 ∧ Try.prog.cellsOf 22 = 1 ∧ Try.prog.cellsOf 23 = 1 ∧ Try.prog.cellsOf 25 = 3 :=
  ⟨(fieldOf Try.prog 25 0).getD default, (fieldOf Try.prog 25 1).getD default, (fieldOf Try.prog 25 2).getD default, by kernel_rfl, by refine ⟨?_, ?_, ?_⟩ <;> kernel_rfl, by refine ⟨?_, ?_, ?_⟩ <;> kernel_rfl, by kernel_rfl, by kernel_rfl, by kernel_rfl, by kernel_rfl⟩
section
variable {H : Type} {enc : TypeId × Value → H} {w : World}
theorem tour_abs {r : Reach} {b0 : Nat} {v : Value} {d : DataW H} {p : List MemPlace} (hval : Value.okWide Try.prog w r b0 25 v) (h : DataW.Trod enc Try.prog w 0 (fun _ => true) true 25 v d p) : ∃ t, TourV (absH w) (absV w.heap.size 8 v) t := by
  obtain ⟨f0, f1, f2, hu, ⟨t0, t1, t2⟩, ⟨o0, o1, o2⟩, h3, h4, h5, h6⟩ := fields25
  obtain ⟨cs, rfl, hcs⟩ := okWide_struct hu hval
  obtain ⟨fuel, hf⟩ := h
  obtain ⟨xs, n, _, _, _, _, ht⟩ := DataW.trod_struct hu hf
  rw [h6] at hcs
  obtain ⟨a, b, c, rfl⟩ : ∃ a b c, cs = #[a, b, c] := by
    obtain ⟨l⟩ := cs
    match l, hcs with
    | [a, b, c], _ => exact ⟨a, b, c, rfl⟩
  have ht0 := ht 0 f0 rfl
  have ht1 := ht 1 f1 rfl
  have ht2 := ht 2 f2 rfl
  rw [t0, o0, h3] at ht0
  rw [t1, o1, h4] at ht1
  rw [t2, o2, h5] at ht2
  have hlen : xs.length = 3 := by assumption
  rw [List.getElem?_eq_getElem (by omega)] at ht0 ht1 ht2
  obtain ⟨z, hz, _, _⟩ := DataW.trod_int Try.underlying3 (show DataW.trod enc Try.prog w 0 (fun _ => true) true n 3 [a] = _ by simpa [Value.cells] using ht0)
  obtain ⟨ws, hw, _⟩ := ints_abs (d := 6) (v := b) (by simpa [Value.cells] using ht1)
  obtain ⟨l, hl⟩ := flaws_abs (d := 6) (v := c) (by simpa [Value.cells] using ht2)
  injection hz with hz _
  subst hz
  exact ⟨⟨z, ws, l⟩, _, _, by simp [absV], hw, hl⟩
theorem list_abs {r : Reach} {b0 : Nat} {v : Value} {d : DataW H} {p : List MemPlace} (hval : Value.okWide Try.prog w r b0 22 v) (h : DataW.Trod enc Try.prog w 0 (fun _ => true) true 22 v d p) : ∃ xs, Ints (absH w) (absV w.heap.size 8 v) xs ∧ CutOk (absH w) (absV w.heap.size 8 v) := by
  obtain ⟨a, len, cap, rfl⟩ := okWide_slice Try.underlying22 hval
  obtain ⟨fuel, hf⟩ := h
  exact ints_abs (d := 7) hf
end
end Go.Proofs.Try
