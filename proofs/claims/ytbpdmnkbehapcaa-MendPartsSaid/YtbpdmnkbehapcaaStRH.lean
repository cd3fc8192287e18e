/- Contracts of functions, walked. -/
import Derived.Test.YtbpdmnkbehapcaaStPE
set_option linter.all false
namespace Go.Proofs.Try
open Go Go.Am Go.RowKit
set_option maxRecDepth 100000


theorem Good.lohi {t : Tour} (hg : Good t) {l : Nat} (h : l < t.flaws.length) : 0 ≤ loN t.flaws l ∧ loN t.flaws l ≤ hiN t.flaws l ∧ hiN t.flaws l < t.days := by
  have h1 := hg.right _ (List.getElem_mem h)
  simp only [Flaw.right, Tour.isSpan, Tour.isDay, Bool.and_eq_true, win_iff, decide_eq_true_eq] at h1
  rw [loN, hiN, getD_in h]
  omega
theorem Good.inj {t : Tour} (hg : Good t) {i j : Nat} (hi : i < t.flaws.length) (hj : j < t.flaws.length) (he : (t.flaws[i]).id = (t.flaws[j]).id) : i = j := by
  have hnd := hg.nodup
  rw [List.nodup_iff_pairwise_ne, List.pairwise_iff_getElem] at hnd
  rcases Nat.lt_trichotomy i j with h | h | h
  · exact absurd (by rw [List.getElem_map, List.getElem_map]; exact he) (hnd i j (by simpa using hi) (by simpa using hj) h)
  · exact h
  · exact absurd (by rw [List.getElem_map, List.getElem_map]; exact he.symm) (hnd j i (by simpa using hj) (by simpa using hi) h)
theorem Good.at_id {t : Tour} (hg : Good t) {i : Nat} (hi : i < t.flaws.length) : atOf t.flaws (t.flaws[i]).id = i := by
  have hmm : (t.flaws[i]).id ∈ t.flaws.map (·.id) := List.mem_map.2 ⟨_, List.getElem_mem hi, rfl⟩
  exact hg.inj (atOf_lt hmm) hi (atOf_id hmm)
theorem best_jam {t : Tour} (hg : Good t) {C : Nat → Int} {m : Nat → Int} (hp : PlanD t.flaws t.D0 C) (hb : BestOf (canD t.flaws t.D0) m C t.flaws.length) {u : Nat} (hu : u < t.flaws.length) (hn : ¬ Has C u) {ids : List Int} (hl : t.listed ids = true) (hids : ∀ (i : Nat) (h : i < t.flaws.length), m u ≤ m i → (t.flaws[i]).id ∈ ids) : ∃ lo hi, t.isJam ids lo hi = true := by
  obtain ⟨S, hS⟩ := hb.cert u hu hn
  obtain ⟨L, T, fr, htr, hlt, hfr⟩ := trail_exists hp hn _ _ _ (Nat.le_refl _) (TrP.first (D := C) (D0 := t.D0) hu)
  have hLS : ∀ l, l ∈ L → S l ∨ l = u := fun l hl => by
    obtain ⟨j, hj, rfl⟩ := List.mem_iff_getElem.1 hl
    exact trail_cert hS htr (j + 1) j _ (Nat.lt_succ_self j) (List.getElem?_eq_getElem hj)
  have hfull : Full (canD t.flaws t.D0) C L := by
    rcases hfr with ⟨-, hf⟩ | ⟨d, l, -, hd, hT, hD⟩
    · exact hf
    · exfalso
      obtain ⟨hc, j, hj, -⟩ := htr.take d l hT
      obtain ⟨g, hg2, -⟩ := hS.days l (hLS l (List.mem_of_getElem? hj)) d hc
      omega
  have hne : L ≠ [] := fun h => by have := htr.head; rw [h] at this; cases this
  have huL : u ∈ L := List.mem_of_getElem? htr.head
  obtain ⟨a, ha, hmin⟩ := min_exists (loN t.flaws) L hne
  obtain ⟨b, hb2, hmax⟩ := min_exists (fun l => -(hiN t.flaws l)) L hne
  have hff : FullFor t.flaws t.D0 C u (loN t.flaws a) (hiN t.flaws b) L T := ⟨htr, hlt, hfull, ⟨a, ha, rfl⟩, hmin, ⟨b, hb2, rfl⟩, fun l hl => by have := hmax l hl; omega⟩
  have ga := hg.lohi (hlt a ha)
  have gb := hg.lohi (hlt b hb2)
  have hroom := hull_room hp hn (fun l hl => (hg.lohi (hlt l hl)).2.1) ga.1 hff
  refine ⟨loN t.flaws a, hiN t.flaws b, ?_⟩
  have h5 := hmin b hb2
  simp only [Tour.isJam, Tour.isSpan, Tour.isDay, Bool.and_eq_true, win_iff, decide_eq_true_eq]
  refine ⟨by omega, Nat.lt_of_lt_of_le hroom ?_⟩
  rw [inSpan_filter]
  have key := nodup_le (L.map fun l => (t.flaws.getD l nowhere).id) (ids.filter fun x => lies (t.flawOf x).lo (t.flawOf x).hi (loN t.flaws a) (hiN t.flaws b)) ?_ ?_
  · rwa [List.length_map] at key
  · rw [List.nodup_iff_pairwise_ne, List.pairwise_map]
    have hpw := htr.nodup
    rw [List.nodup_iff_pairwise_ne] at hpw
    refine List.Pairwise.imp_of_mem (fun {x y} hx hy hxy he => hxy ?_) hpw
    have hx1 := hlt x hx
    have hy1 := hlt y hy
    rw [getD_in hx1, getD_in hy1] at he
    exact hg.inj hx1 hy1 he
  · intro z hz
    obtain ⟨l, hl2, rfl⟩ := List.mem_map.1 hz
    have hl1 := hlt l hl2
    have hml : m u ≤ m l := by
      rcases hLS l hl2 with h | h
      · exact hS.merit l h
      · rw [h]; exact Int.le_refl _
    have hid := hids l hl1 hml
    rw [getD_in hl1]
    refine List.mem_filter.2 ⟨hid, ?_⟩
    have hat : t.flawOf (t.flaws[l]).id = t.flaws[l] := by
      have h3 := hg.at_id hl1
      rw [Tour.flawOf, h3, getD_in hl1]
    rw [hat]
    have h7 := hmin l hl2
    have h8 := hmax l hl2
    rw [loN, loN, getD_in hl1] at h7
    rw [lies, Bool.and_eq_true, decide_eq_true_eq, decide_eq_true_eq]
    refine ⟨h7, ?_⟩
    have h9 : hiN t.flaws l = (t.flaws[l]).hi := by rw [hiN, getD_in hl1]
    omega

theorem hall {t : Tour} (hg : Good t) {ids : List Int} (hl : t.listed ids = true) (hj : t.jam ids = none) : ∃ E, PlanD t.flaws t.D0 E ∧ ∀ x, x ∈ ids → Has E (atOf t.flaws x) := by
  obtain ⟨C, hp, hb⟩ := best_exists t (fun x => if x ∈ ids then 1 else 0)
  refine ⟨C, hp, fun x hx => Classical.byContradiction fun hn => ?_⟩
  have hm := listed_mem hl hx
  have hu := atOf_lt hm
  have hid := atOf_id hm
  obtain ⟨lo, hi, h⟩ := best_jam hg hp hb hu hn hl (fun i h hle => by
    rw [reM_merit hu, reM_merit h, hid, if_pos hx] at hle
    refine Classical.byContradiction fun hc => ?_
    rw [if_neg hc] at hle
    omega)
  rw [jam_none hj] at h
  cases h
end Go.Proofs.Try
namespace Go.Proofs.Try
open Go Go.Am Go.RowKit
set_option maxRecDepth 100000


def carryD (F G : List Flaw) (C : Nat → Int) (d : Nat) : Int :=
  if C d < 0 then C d else if F.getD (C d).toNat nowhere ∈ G then (atOf G (F.getD (C d).toNat nowhere).id : Int) else -1
theorem carryD_neg {F G : List Flaw} {C : Nat → Int} {d : Nat} (h : C d < 0) : carryD F G C d = C d := if_pos h
theorem carryD_in {F G : List Flaw} {C : Nat → Int} {d i : Nat} (h : C d = (i : Int)) (hi : i < F.length) (hm : F[i] ∈ G) : carryD F G C d = (atOf G (F[i]).id : Int) := by
  rw [carryD, if_neg (by omega), h, Int.toNat_natCast, getD_in hi, if_pos hm]
theorem carryD_out {F G : List Flaw} {C : Nat → Int} {d i : Nat} (h : C d = (i : Int)) (hi : i < F.length) (hm : F[i] ∉ G) : carryD F G C d = -1 := by
  rw [carryD, if_neg (by omega), h, Int.toNat_natCast, getD_in hi, if_neg hm]
theorem at_mem {G : List Flaw} (hn : (G.map (·.id)).Nodup) {a : Flaw} (h : a ∈ G) : ∃ hl : atOf G a.id < G.length, G[atOf G a.id] = a := by
  have hmm : a.id ∈ G.map (·.id) := List.mem_map.2 ⟨a, h, rfl⟩
  have h1 := atOf_lt hmm
  have h2 := atOf_id hmm
  refine ⟨h1, ?_⟩
  obtain ⟨k, hk, rfl⟩ := List.mem_iff_getElem.1 h
  rw [List.nodup_iff_pairwise_ne, List.pairwise_iff_getElem] at hn
  have : atOf G (G[k]).id = k := by
    rcases Nat.lt_trichotomy (atOf G (G[k]).id) k with h3 | h3 | h3
    · exact absurd (by rw [List.getElem_map, List.getElem_map]; exact h2) (hn _ k (by simpa using h1) (by simpa using hk) h3)
    · exact h3
    · exact absurd (by rw [List.getElem_map, List.getElem_map]; exact h2.symm) (hn k _ (by simpa using hk) (by simpa using h1) h3)
  simp only [this]
theorem carry_plan {F G : List Flaw} {D0 C : Nat → Int} (hF : (F.map (·.id)).Nodup) (hG : (G.map (·.id)).Nodup) (hp : PlanD F D0 C) : PlanD G D0 (carryD F G C) := by
  have key : ∀ d : Nat, (C d < 0 ∧ carryD F G C d = C d) ∨ ∃ (i : Nat) (hi : i < F.length), C d = (i : Int) ∧ ((F[i] ∈ G ∧ carryD F G C d = (atOf G (F[i]).id : Int)) ∨ (F[i] ∉ G ∧ carryD F G C d = -1)) := by
    intro d
    rcases Nat.lt_or_ge d 120 with h | h
    · rcases hp.val d h with h1 | h1 | ⟨i, h1, h2⟩
      · exact .inl ⟨by omega, carryD_neg (by omega)⟩
      · exact .inl ⟨by omega, carryD_neg (by omega)⟩
      · refine .inr ⟨i, h2, h1, ?_⟩
        by_cases hm : F[i] ∈ G
        · exact .inl ⟨hm, carryD_in h1 h2 hm⟩
        · exact .inr ⟨hm, carryD_out h1 h2 hm⟩
    · have := hp.out d h
      exact .inl ⟨by omega, carryD_neg (by omega)⟩
  refine ⟨fun d => ?_, fun d hd => ?_, fun d hd => ?_, ⟨fun d j hj => ?_, fun d e j hj hj2 => ?_⟩⟩
  · rw [← hp.closed d]
    rcases key d with ⟨h1, h2⟩ | ⟨i, hi, h1, ⟨-, h2⟩ | ⟨-, h2⟩⟩
    · rw [h2]
    · rw [h2]; omega
    · rw [h2]; omega
  · rcases key d with ⟨h1, h2⟩ | ⟨i, hi, h1, ⟨hm, h2⟩ | ⟨-, h2⟩⟩
    · rw [h2]
      rcases hp.val d hd with h3 | h3 | ⟨i, h3, -⟩
      · exact .inl h3
      · exact .inr (.inl h3)
      · omega
    · exact .inr (.inr ⟨_, h2, (at_mem hG hm).1⟩)
    · exact .inr (.inl h2)
  · have := hp.out d hd
    rw [carryD_neg (by omega), this]
  · rcases key d with ⟨h1, h2⟩ | ⟨i, hi, h1, ⟨hm, h2⟩ | ⟨-, h2⟩⟩
    · omega
    · obtain ⟨hl, he⟩ := at_mem hG hm
      have hjj : j = atOf G (F[i]).id := by omega
      subst hjj
      obtain ⟨-, c1, c2, c3, c4⟩ := hp.mat.ok d i h1
      rw [getD_in hi] at c3 c4
      exact ⟨hl, c1, c2, by rw [getD_in hl, he]; exact c3, by rw [getD_in hl, he]; exact c4⟩
    · omega
  · rcases key d with ⟨h1, h2⟩ | ⟨i, hi, h1, ⟨hm, h2⟩ | ⟨-, h2⟩⟩
    · omega
    · rcases key e with ⟨h1', h2'⟩ | ⟨i', hi', h1', ⟨hm', h2'⟩ | ⟨-, h2'⟩⟩
      · omega
      · obtain ⟨hl, he⟩ := at_mem hG hm
        obtain ⟨hl', he'⟩ := at_mem hG hm'
        have h3 : atOf G (F[i]).id = atOf G (F[i']).id := by omega
        have h4 : F[i] = F[i'] := by
          rw [← he, ← he']
          simp only [h3]
        have h5 : i = i' := by
          rw [List.nodup_iff_pairwise_ne, List.pairwise_iff_getElem] at hF
          rcases Nat.lt_trichotomy i i' with h6 | h6 | h6
          · exact absurd (by rw [List.getElem_map, List.getElem_map, h4]) (hF i i' (by simpa using hi) (by simpa using hi') h6)
          · exact h6
          · exact absurd (by rw [List.getElem_map, List.getElem_map, h4]) (hF i' i (by simpa using hi') (by simpa using hi) h6)
        subst h5
        exact hp.mat.one d e i h1 h1'
      · omega
    · omega
def partW (F G : List Flaw) (C : Nat → Int) : Nat → Int
  | 0 => 0
  | n + 1 => partW F G C n + if 0 ≤ C n ∧ F.getD (C n).toNat nowhere ∈ G then meritN F (C n).toNat else 0
theorem carry_worth {F G : List Flaw} {D0 C : Nat → Int} (hG : (G.map (·.id)).Nodup) (hp : PlanD F D0 C) : ∀ n, n ≤ 120 → worthD (meritN G) (carryD F G C) n = partW F G C n
  | 0, _ => rfl
  | n + 1, h => by
    rw [worthD, partW, carry_worth hG hp n (by omega)]
    congr 1
    rcases hp.val n (by omega) with h1 | h1 | ⟨i, h1, h2⟩
    · rw [carryD_neg (by omega), if_neg (by omega), if_neg (by omega)]
    · rw [carryD_neg (by omega), if_neg (by omega), if_neg (by omega)]
    · by_cases hm : F[i] ∈ G
      · obtain ⟨hl, he⟩ := at_mem hG hm
        rw [carryD_in h1 h2 hm, if_pos (by omega), h1, Int.toNat_natCast, Int.toNat_natCast, getD_in h2, if_pos ⟨by omega, hm⟩, meritN, meritN, getD_in hl, getD_in h2, he]
      · rw [carryD_out h1 h2 hm, if_neg (by omega), h1, Int.toNat_natCast, getD_in h2, if_neg (fun h => hm h.2)]
theorem part_all {F G : List Flaw} {D0 C : Nat → Int} (hp : PlanD F D0 C) (hs : ∀ a, a ∈ F → a ∈ G) : ∀ n, n ≤ 120 → partW F G C n = worthD (meritN F) C n
  | 0, _ => rfl
  | n + 1, h => by
    rw [worthD, partW, part_all hp hs n (by omega)]
    congr 1
    rcases hp.val n (by omega) with h1 | h1 | ⟨i, h1, h2⟩
    · rw [if_neg (by omega), if_neg (by omega)]
    · rw [if_neg (by omega), if_neg (by omega)]
    · rw [h1, Int.toNat_natCast, getD_in h2, if_pos ⟨by omega, hs _ (List.getElem_mem h2)⟩, if_pos (by omega)]
theorem part_two {F G K : List Flaw} {D0 C : Nat → Int} (hp : PlanD F D0 C) (hs : ∀ a, a ∈ F → (a ∈ G ∧ a ∉ K) ∨ (a ∉ G ∧ a ∈ K)) : ∀ n, n ≤ 120 → worthD (meritN F) C n = partW F G C n + partW F K C n
  | 0, _ => rfl
  | n + 1, h => by
    rw [worthD, partW, partW, part_two hp hs n (by omega)]
    rcases hp.val n (by omega) with h1 | h1 | ⟨i, h1, h2⟩
    · rw [if_neg (by omega), if_neg (by omega), if_neg (by omega)]; omega
    · rw [if_neg (by omega), if_neg (by omega), if_neg (by omega)]; omega
    · rw [h1, Int.toNat_natCast, getD_in h2, if_pos (by omega)]
      rcases hs _ (List.getElem_mem h2) with ⟨h3, h4⟩ | ⟨h3, h4⟩
      · rw [if_pos ⟨by omega, h3⟩, if_neg (fun h => h4 h.2)]; omega
      · rw [if_neg (fun h => h3 h.2), if_pos ⟨by omega, h4⟩]; omega
theorem plan_days {F : List Flaw} {D0 C : Nat → Int} (hp : PlanD F D0 C) : Days C 120 F.length := ⟨fun d i h => by
  have hc := hp.mat.ok d i h
  exact ⟨hc.2.1, hc.1⟩⟩
theorem plan_le {F : List Flaw} {D0 C E : Nat → Int} (hp : PlanD F D0 C) (hb : BestOf (canD F D0) (meritN F) C F.length) (hE : PlanD F D0 E) (h0 : ∀ a, a ∈ F → 0 ≤ a.merit) : worthD (meritN F) E 120 ≤ worthD (meritN F) C 120 :=
  best_worth hb hE.mat (plan_days hp) (plan_days hE) (fun i hi => by rw [meritN, getD_in hi]; exact h0 _ (List.getElem_mem hi))
theorem less_worth {F G : List Flaw} {D0 C E : Nat → Int} (hF : (F.map (·.id)).Nodup) (hG : (G.map (·.id)).Nodup) (hs : ∀ a, a ∈ F → a ∈ G) (hC : PlanD F D0 C) (hE : PlanD G D0 E) (hb : BestOf (canD G D0) (meritN G) E G.length) (h0 : ∀ a, a ∈ G → 0 ≤ a.merit) : worthD (meritN F) C 120 ≤ worthD (meritN G) E 120 := by
  have h1 := plan_le hE hb (carry_plan hF hG hC) h0
  rw [carry_worth hG hC 120 (Nat.le_refl _), part_all hC hs 120 (Nat.le_refl _)] at h1
  exact h1
theorem two_worth {F G K : List Flaw} {D0 C E E2 : Nat → Int} (hF : (F.map (·.id)).Nodup) (hG : (G.map (·.id)).Nodup) (hK : (K.map (·.id)).Nodup) (hs : ∀ a, a ∈ F → (a ∈ G ∧ a ∉ K) ∨ (a ∉ G ∧ a ∈ K)) (hC : PlanD F D0 C) (hE : PlanD G D0 E) (hE2 : PlanD K D0 E2) (hb : BestOf (canD G D0) (meritN G) E G.length) (hb2 : BestOf (canD K D0) (meritN K) E2 K.length) (h0 : ∀ a, a ∈ G → 0 ≤ a.merit) (h02 : ∀ a, a ∈ K → 0 ≤ a.merit) : worthD (meritN F) C 120 ≤ worthD (meritN G) E 120 + worthD (meritN K) E2 120 := by
  have h1 := plan_le hE hb (carry_plan hF hG hC) h0
  have h2 := plan_le hE2 hb2 (carry_plan hF hK hC) h02
  rw [carry_worth hG hC 120 (Nat.le_refl _)] at h1
  rw [carry_worth hK hC 120 (Nat.le_refl _)] at h2
  rw [part_two hC hs 120 (Nat.le_refl _)]
  omega
end Go.Proofs.Try
namespace Go.Proofs.Try
open Go Go.Am Go.RowKit
set_option maxRecDepth 100000


section
variable {H : AHeap} {β : Type} {kk : K β} {other : Unit → Option β} {dst : Option Tmp} {ty : TypeId} {src : String} {af : Array Edge} {g : Option (Nat × Bool)}
@[go_sem] theorem aBin_nil22 : aBin Try.prog .eql 22 (.slice none 0 0) (.slice none 0 0) H kk other = other () := by
  have h : nilEq Try.prog 22 (.slice none 0 0) (.slice none 0 0) = none := by kernel_rfl
  simp only [aBin, aEq, h]
@[go_sem] theorem aBin_some22 {a : Addr} {n c : Nat} : aBin Try.prog .eql 22 (.slice (some a) n c) (.slice none 0 0) H kk other = kk (.bool false) H := by
  have h : nilEq Try.prog 22 (.slice (some a) n c) (.slice none 0 0) = some false := by kernel_rfl
  simp only [aBin, aEq, h]
  rfl
theorem aPlain_nil22 {t' : TypeId} {x y : Operand} {ev : Operand → Value} (hx : ev x = .slice none 0 0) (hy : ev y = .slice none 0 0) : aPlain Try.prog ⟨dst, .binOp .eql 22 x y t', ty, src, af, g⟩ ev H kk = kk (.bool true) H := by
  rw [plain_of rfl]
  have e1 : ((Op.binOp .eql 22 x y t').operands.toList.all fun x => plainV 6 (ev x)) = true := by
    show ([x, y].all fun x => plainV 6 (ev x)) = true
    simp [hx, hy]
    rfl
  rw [if_pos e1]
  have e2 : pureOf Try.prog (execOp ev ⟨dst, .binOp .eql 22 x y t', ty, src, af, g⟩) = some (.value (.bool true)) := by
    simp only [execOp, hx, hy]
    kernel_rfl
  rw [e2]
  rfl
end
theorem ints_nil {H : AHeap} {a : Option Addr} {c : Nat} (h : a = none → c = 0) : Ints H (.slice a 0 c) [] := ⟨rfl, Nat.zero_le _, a, c, rfl, h, fun h => absurd h (Nat.lt_irrefl 0)⟩
set_option maxHeartbeats 2000000 in
theorem cloneInts_e {loops : List (Nat × LInfo)} {H : AHeap} {v : Value} {l : List Int} (hv : Ints H v l) (h2 : l.length ≤ 1000) : CallS Try.prog loops 91 [v] H fun r H' => (Ints H' r l ∧ ∃ a c, r = .slice a l.length c ∧ ∀ x, a = some x → H.n ≤ x.block ∧ x.block < H'.n) ∧ Ext H H' := by
  have HXI := Lib.hid hv
  obtain ⟨hl1, -, a, c, rfl, hnil, hsome⟩ := hv
  by_cases ha : a = none
  case' pos =>
    subst ha
    obtain rfl := hnil rfl
    have hl0 : l.length = 0 := by
      rcases Nat.eq_zero_or_pos l.length with h | h
      · exact h
      · obtain ⟨b, o, sp, h5, -⟩ := hsome h; cases h5
    obtain rfl : l = [] := List.length_eq_zero_iff.1 hl0
    clear hsome hl1 hl0 h2 hnil
    refine CallS.enter' Try.func91 rfl Try.ntmps91 (by simp) fun f hd hf => ?_
    have f0 := hf 0
    simp at f0
    clear hf
    repeat' (first|(with_reducible first|refine zA ?_|refine zB fun K hK=>?_|refine zC fun K2 hK2=>?_|refine zD ?_|refine zE ?_|refine zF ?_|refine zG ?_|refine zH ?_|refine zI ?_|refine zM ?_|refine zN ?_|refine zO ?_|refine zP ?_|refine zQ ?_|refine zR ?_)|((with_reducible refine zU (hK _ _ ?_));clear hK K)|((with_reducible refine zV ?_ ?_ fun K1 K3 d hdst h1 h3=>?_);rfl;exact yB rfl;cases hdst;go_simp)|((with_reducible refine zW fun K1 K3 h1 h3=>?_);go_simp)|((first|refine h1 ?_|refine h3 ?_);clear h1 h3 K1 K3)|((first|refine zX (fun hb=>h1 ?_) (fun hb=>h3 ?_)|refine zX (fun hb=>h3 ?_) (fun hb=>h1 ?_))<;>(clear h1 h3 K1 K3;(try have hb2:=yC hb);(try have hb2:=yD hb);(try have hb2:=yE hb);(try have hb2:=yF hb);(try have hb2:=yG hb)))|(refine fun (K2:_→AHeap→Prop) hK2=>?_)|((with_reducible refine zY ?_ ?_);decide)|((with_reducible first|refine zZ ?_ (fun K hK=>?_)|refine yA ?_ (fun K hK=>?_));(focus go_simp;done);go_simp;refine hK _ _ ?_;clear hK K)|(go_simp;(try go_bits);(try first | ((rw [aPlain_nil22 (by go_simp) (by go_simp)]); go_simp));refine hK2 _ _ ?_;clear hK2 K2))
    exact ⟨⟨ints_nil (fun _ => rfl), _, _, rfl, fun x h => by cases h⟩, Ext.refl _⟩
  case' neg =>
    obtain ⟨ad, rfl⟩ := Option.ne_none_iff_exists'.1 ha
    rcases Nat.eq_zero_or_pos l.length with h1 | h1
    case' inl =>
      obtain rfl : l = [] := List.length_eq_zero_iff.1 h1
      clear hsome hl1 h1 h2 hnil ha
      refine CallS.enter' Try.func91 rfl Try.ntmps91 (by simp) fun f hd hf => ?_
      have f0 := hf 0
      simp at f0
      clear hf
      repeat' (first|(with_reducible first|refine zA ?_|refine zB fun K hK=>?_|refine zC fun K2 hK2=>?_|refine zD ?_|refine zE ?_|refine zF ?_|refine zG ?_|refine zH ?_|refine zI ?_|refine zM ?_|refine zN ?_|refine zO ?_|refine zP ?_|refine zQ ?_|refine zR ?_)|((with_reducible refine zU (hK _ _ ?_));clear hK K)|((with_reducible refine zV ?_ ?_ fun K1 K3 d hdst h1 h3=>?_);rfl;exact yB rfl;cases hdst;go_simp)|((with_reducible refine zW fun K1 K3 h1 h3=>?_);go_simp)|((first|refine h1 ?_|refine h3 ?_);clear h1 h3 K1 K3)|((first|refine zX (fun hb=>h1 ?_) (fun hb=>h3 ?_)|refine zX (fun hb=>h3 ?_) (fun hb=>h1 ?_))<;>(clear h1 h3 K1 K3;(try have hb2:=yC hb);(try have hb2:=yD hb);(try have hb2:=yE hb);(try have hb2:=yF hb);(try have hb2:=yG hb)))|(refine fun (K2:_→AHeap→Prop) hK2=>?_)|((with_reducible refine zY ?_ ?_);decide)|((with_reducible first|refine zZ ?_ (fun K hK=>?_)|refine yA ?_ (fun K hK=>?_));(focus go_simp;done);go_simp;refine hK _ _ ?_;clear hK K)|(go_simp;(try go_bits);(try first | ((refine lit0_k el22 sz3 ze3 rfl (by decide) ?_); go_simp) | ((refine appendNil_k el22 sz3 srcCells_none ?_); go_simp));refine hK2 _ _ ?_;clear hK2 K2))
      exact ⟨⟨ints_nil (fun h => by cases h), _, _, rfl, fun x h => by cases h; exact ⟨Nat.le_refl _, by rw [AHeap.n_push]; exact Nat.lt_succ_self _⟩⟩, Ext.push _⟩
    case' inr =>
      obtain ⟨b, o, sp, he, hb, hcell⟩ := hsome h1
      cases he
      have hcells : cellsAt H b o (l.length * 1) = some (l.map (Value.int .i64)) := by
        have := cellsAt_of (H := H) (b := b) (o := o) (us := l.map (Value.int .i64)) (by intro h; rw [h] at hl1; simp at hl1; omega) hcell
        rw [List.length_map] at this
        rw [Nat.mul_one]; exact this
      have HCS := Lib.hid hcells
      clear hcell hsome hcells hl1 hnil ha
      refine CallS.enter' Try.func91 rfl Try.ntmps91 (by simp) fun f hd hf => ?_
      have f0 := hf 0
      simp at f0
      clear hf
      repeat' (first|(with_reducible first|refine zA ?_|refine zB fun K hK=>?_|refine zC fun K2 hK2=>?_|refine zD ?_|refine zE ?_|refine zF ?_|refine zG ?_|refine zH ?_|refine zI ?_|refine zM ?_|refine zN ?_|refine zO ?_|refine zP ?_|refine zQ ?_|refine zR ?_)|((with_reducible refine zU (hK _ _ ?_));clear hK K)|((with_reducible refine zV ?_ ?_ fun K1 K3 d hdst h1 h3=>?_);rfl;exact yB rfl;cases hdst;go_simp)|((with_reducible refine zW fun K1 K3 h1 h3=>?_);go_simp)|((first|refine h1 ?_|refine h3 ?_);clear h1 h3 K1 K3)|((first|refine zX (fun hb=>h1 ?_) (fun hb=>h3 ?_)|refine zX (fun hb=>h3 ?_) (fun hb=>h1 ?_))<;>(clear h1 h3 K1 K3;(try have hb2:=yC hb);(try have hb2:=yD hb);(try have hb2:=yE hb);(try have hb2:=yF hb);(try have hb2:=yG hb)))|(refine fun (K2:_→AHeap→Prop) hK2=>?_)|((with_reducible refine zY ?_ ?_);decide)|((with_reducible first|refine zZ ?_ (fun K hK=>?_)|refine yA ?_ (fun K hK=>?_));(focus go_simp;done);go_simp;refine hK _ _ ?_;clear hK K)|(go_simp;(try go_bits);(try first | ((refine lit0_k el22 sz3 ze3 rfl (by decide) ?_); go_simp) | ((refine append0_g (b := H.n) el22 sz3 by3 ze3 rfl (by decide) (AHeap.get_push_new) (by rw [AHeap.n_push]; omega) (srcCells_some h1 (((Ext.push _).cellsAt hb).trans HCS.out)) h1 (by simp) (oneV_ints _) (by simp; omega) fun H7 hn7 hg7 hk7 => ?_); (have HO7 := Lib.hid hg7); (have HN7 := Lib.hid hn7); (have HX7 := Lib.hid (grown_ext (Ext.push _) (Nat.le_refl _) hn7 hk7)); clear hn7 hg7 hk7; go_simp));refine hK2 _ _ ?_;clear hK2 K2))
      refine ⟨⟨⟨by simp, by omega, _, _, rfl, (fun h => by cases h), fun _ => ⟨_, 0, none, rfl, ?_, fun j u hu => ?_⟩⟩, _, _, rfl, fun x h => by cases h; rw [HN7.out]; simp only [AHeap.n_push]; omega⟩, HX7.out⟩
      · rw [HN7.out]; simp only [AHeap.n_push]; omega
      · have := HO7.out
        rw [AHeap.n_push] at this
        simp only [cellAt, this, Nat.zero_add]; exact hu

theorem st25q : structOk Try.prog 25 = true := by kernel_rfl
theorem flaws_own {H : AHeap} {base : Nat} {v : Value} {l : List Flaw} (h : Own H base v 32 4 (flawCells l)) (hl : l.length ≤ 9223372036854775807) : Flaws H v l := by
  rcases h with ⟨h1, h2⟩ | ⟨b, n, h1, h2, h3, h4, h5, h6⟩
  · subst h1
    have h3 := congrArg List.length h2
    rw [flawCells_length] at h3
    have h3 : l = [] := by
      cases l with
      | nil => rfl
      | cons a l => simp at h3
    subst h3
    exact flaws_nil H (fun _ => rfl)
  · subst h1
    have hn : n = l.length := by rw [flawCells_length] at h5; omega
    subst hn
    refine ⟨flawCells_length l, hl, _, _, rfl, (fun h => by cases h), fun _ => ⟨b, 0, none, rfl, h3, fun j u hu => ?_⟩⟩
    simp only [cellAt, h4, Nat.zero_add]; exact hu
theorem flawCells_append {l m : List Flaw} : flawCells (l ++ m) = flawCells l ++ flawCells m := by simp [flawCells]
def Tour.less (t : Tour) (ids : List Int) : Tour := ⟨t.days, t.closed, t.flaws.filter fun a => !decide (a.id ∈ ids)⟩
theorem filter_step {p : Flaw → Bool} {l : List Flaw} {k : Nat} (h : k < l.length) : (l.take (k + 1)).filter p = (l.take k).filter p ++ (if p l[k] = true then [l[k]] else []) := by
  rw [List.take_succ_eq_append_getElem h, List.filter_append]
  congr 1
  by_cases hp : p l[k] = true
  · rw [if_pos hp, List.filter_cons_of_pos hp]; rfl
  · rw [if_neg hp, List.filter_cons_of_neg hp]; rfl

set_option maxHeartbeats 4000000 in
theorem without_e {loops : List (Nat × LInfo)} {H : AHeap} {v lv : Value} {t : Tour} {ids : List Int} (hv : TourV H v t) (hl : Ints H lv ids) (hcl : t.closed.length ≤ 1000) (hfn : t.flaws.length ≤ 1000) : CallS Try.prog loops 60 [v, lv] H fun r H' => (∃ ca n1 cc fa n2 fc, r = .agg #[.int .i64 t.days, .slice ca n1 cc, .slice fa n2 fc] ∧ Ints H' (.slice ca n1 cc) t.closed ∧ Flaws H' (.slice fa n2 fc) (t.less ids).flaws ∧ (∀ x, ca = some x → H.n + 1 < x.block) ∧ ∀ x, fa = some x → H.n + 1 < x.block) ∧ Ext H H' := by
  have HL := Lib.hid hl
  obtain ⟨cv, fv, rfl, hc, hf⟩ := hv
  obtain ⟨hcl', ca, cc, rfl⟩ := hc.slice
  obtain ⟨hfl, fa, fc, rfl⟩ := hf.slice
  obtain ⟨hll, la, lc, rfl⟩ := hl.slice
  have HC := Lib.hid hc
  have HF := Lib.hid hf
  have HCL := Lib.hid (fun (loops : List (Nat × LInfo)) (H2 : AHeap) (hx : Ext H H2) => cloneInts_e (loops := loops) (hc.ext hx) hcl)
  have HCO := Lib.hid (fun (loops : List (Nat × LInfo)) (H2 : AHeap) (x : Int) (hx : Ext H H2) => contains_s (loops := loops) (x := x) (HL.out.ext hx))
  clear hc hf hl
  refine CallS.enter' Try.func60 rfl Try.ntmps60 (by simp) fun f hd hf => ?_
  have f0 := hf 0
  have f1 := hf 1
  simp at f0 f1
  clear hf
  repeat' (first|((with_reducible refine xA ?_ ?_); focus (go_simp; rw [aBuild_struct st25q ze25]; go_simp; done)) | ((with_reducible refine stop_seq (n := 2) ?_))|(with_reducible first|refine zA ?_|refine zB fun K hK=>?_|refine zC fun K2 hK2=>?_|refine zD ?_|refine zE ?_|refine zF ?_|refine zG ?_|refine zH ?_|refine zI ?_|refine zM ?_|refine zN ?_|refine zO ?_|refine zP ?_|refine zQ ?_|refine zR ?_)|((with_reducible refine zU (hK _ _ ?_));clear hK K)|((with_reducible refine zV ?_ ?_ fun K1 K3 d hdst h1 h3=>?_);rfl;exact yB rfl;cases hdst;go_simp)|((with_reducible refine zW fun K1 K3 h1 h3=>?_);go_simp)|((first|refine h1 ?_|refine h3 ?_);clear h1 h3 K1 K3)|((first|refine zX (fun hb=>h1 ?_) (fun hb=>h3 ?_)|refine zX (fun hb=>h3 ?_) (fun hb=>h1 ?_))<;>(clear h1 h3 K1 K3;(try have hb2:=yC hb);(try have hb2:=yD hb);(try have hb2:=yE hb);(try have hb2:=yF hb);(try have hb2:=yG hb)))|(refine fun (K2:_→AHeap→Prop) hK2=>?_)|((with_reducible refine zY ?_ ?_);decide)|((with_reducible first|refine zZ ?_ (fun K hK=>?_)|refine yA ?_ (fun K hK=>?_));(focus go_simp;done);go_simp;refine hK _ _ ?_;clear hK K)|((with_reducible refine yH mixed rfl ?_ 20 fun K0 hK0=>?_);kernel_rfl)|(with_reducible first|exact yI|exact yJ|refine yK ?_|refine yL ?_|refine yM ?_)|((with_reducible first|refine yN ?_ ?_|refine yO ?_ ?_|refine yP ?_ ?_);rfl)|((with_reducible refine yQ ?_ ?_);rfl;refine hK0 _ _ ?_;clear hK0 K0)|((with_reducible refine yR ?_ ?_ ?_ ?_);rfl;rfl;rfl)|((with_reducible refine yS ?_ ?_ ?_ fun K2 hK2=>?_);rfl;rfl;exact yB rfl)|((with_reducible refine yT ?_ ?_ ?_ ?_ fun K1 K3 d hdst h1 h3=>?_);rfl;rfl;rfl;exact yB rfl;cases hdst;go_simp)|((with_reducible refine yU ?_ ?_ ?_ ?_ fun K1 K3 d hdst h1 h3=>?_);rfl;rfl;rfl;exact yB rfl;cases hdst;go_simp)|((with_reducible refine yV ?_ ?_ (fun K2 hK2=>?_) ?_);rfl;exact yB rfl)|((with_reducible refine yW ?_ ?_ ?_ ?_ (fun K2 hK2=>?_) ?_);rfl;exact yB rfl;rfl;(focus go_simp;done))|((with_reducible refine yX ?_ ?_ ?_ (fun K2 hK2=>?_) ?_);rfl;rfl;exact yB rfl)|((with_reducible refine yY ?_ ?_ (fun K2 hK2=>?_) ?_);rfl;rfl)|((with_reducible refine yZ ?_ ?_);(first|rfl|(dsimp only;decide +kernel)))|((with_reducible refine xA ?_ ?_);(focus go_simp;done))|(go_simp;(try go_bits);(try first | ((with_reducible show CallS _ _ _ _ _ _);refine CallS.mono (HCL.out _ _ (by first | exact ((Ext.refl _).push' _).push' _ | exact (((Ext.refl _).push' _).push' _).push' _)) ?_; rintro cv2 H2 ⟨⟨hi2, ca2, cc2, rfl, hfr2⟩, hx2⟩; (have HI2 := Lib.hid hi2); (have HX2 := Lib.hid hx2); (have HFR2 := Lib.hid hfr2); (have hn2 : H.n < H2.n := by have := hx2.n; simp only [AHeap.n_push] at this; omega); (have hn2b : H.n + 1 < H2.n := by have := hx2.n; simp only [AHeap.n_push] at this; omega); (have hq0 : cellAt H2 H.n 0 = some (.int .i64 t.days) := (hx2.cellAt (by simp only [AHeap.n_push]; omega)).trans (by go_simp)); (have hq1 : cellAt H2 H.n 1 = some (.slice ca t.closed.length cc) := (hx2.cellAt (by simp only [AHeap.n_push]; omega)).trans (by go_simp)); (have hq2 : cellAt H2 H.n 2 = some (.slice fa t.flaws.length fc) := (hx2.cellAt (by simp only [AHeap.n_push]; omega)).trans (by go_simp)); (have hg1 : H2.get (H.n + 1) = .row [.int .i64 0, .slice none 0 0, .slice none 0 0] 25 := (hx2.get _ (by simp only [AHeap.n_push]; omega)).trans (by first | exact AHeap.get_push_new | exact (AHeap.get_push_old (by simp only [AHeap.n_push]; omega)).trans AHeap.get_push_new)); (try have hz2 : H2.get (H.n + 1 + 1) = .row [.int .i64 0, .slice none 0 0, .slice none 0 0] 25 := (hx2.get _ (by simp only [AHeap.n_push]; omega)).trans AHeap.get_push_new); (have HG1 := Lib.hid hg1); clear hi2 hx2 hg1 hfr2; go_simp) | ((rw [aBuild_struct st25q ze25]); go_simp));(first|(refine hK2 _ _ ?_ ?_<;>clear hK2 K2)|(refine hK2 _ _ ?_;clear hK2 K2))))
  · refine ⟨genC (fun f K => f.tmp 1 = .slice la ids.length lc ∧ f.tmp 2 = .pointer (some ⟨H.n, 0, none⟩) ∧ f.tmp 4 = .pointer (some ⟨H.n + 1, 0, none⟩) ∧ f.defers = [] ∧ ∃ q ca2 cc2, f.tmp 5 = .pointer (some ⟨q, 0, none⟩) ∧ H.n + 1 < q ∧ q < K.n ∧ K.get q = .row [.int .i64 t.days, .slice ca2 t.closed.length cc2, .slice none 0 0] 25 ∧ cellAt K H.n 2 = some (.slice fa t.flaws.length fc) ∧ K.get (H.n + 1) = .row [.int .i64 0, .slice none 0 0, .slice none 0 0] 25 ∧ Ext H K ∧ Ints K (.slice ca2 t.closed.length cc2) t.closed ∧ ∀ x, ca2 = some x → x.block ≠ q ∧ H.n + 1 < x.block) ⟨(by first|go_simp<;>go_num|assumption), (by first|go_simp<;>go_num|assumption), (by first|go_simp<;>go_num|assumption), (by first|go_simp<;>go_num|assumption), H2.n, ca2, cc2, (by first|go_simp<;>go_num|assumption), by omega, by rw [AHeap.n_push]; omega, AHeap.get_push_new, by go_simp, (AHeap.get_push_old hn2b).trans HG1.out, (((Ext.refl _).push' _).push' _ |>.trans HX2.out).push' _, HI2.out.ext (Ext.push _), fun x hx => ?_⟩ ?_⟩
    · obtain ⟨h1, h2⟩ := HFR2.out x hx
      simp only [AHeap.n_push] at h1
      exact ⟨by omega, by omega⟩
    clear f0 f1 hd f
    rintro f K ⟨f1, f2, f4, hd, q, ca2, cc2, f5, hq1, hq2, gq, hcf, gz, hxK, hiK, hne⟩
    have HXK := Lib.hid hxK
    have HIK := Lib.hid hiK
    have HNE := Lib.hid hne
    have GZ := Lib.hid gz
    clear hxK hiK hne gz
    repeat' (first|(with_reducible first|refine zA ?_|refine zB fun K hK=>?_|refine zC fun K2 hK2=>?_|refine zD ?_|refine zE ?_|refine zF ?_|refine zG ?_|refine zH ?_|refine zI ?_|refine zM ?_|refine zN ?_|refine zO ?_|refine zP ?_|refine zQ ?_|refine zR ?_)|((with_reducible refine zU (hK _ _ ?_));clear hK K)|((with_reducible refine zV ?_ ?_ fun K1 K3 d hdst h1 h3=>?_);rfl;exact yB rfl;cases hdst;go_simp)|((with_reducible refine zW fun K1 K3 h1 h3=>?_);go_simp)|((first|refine h1 ?_|refine h3 ?_);clear h1 h3 K1 K3)|((first|refine zX (fun hb=>h1 ?_) (fun hb=>h3 ?_)|refine zX (fun hb=>h3 ?_) (fun hb=>h1 ?_))<;>(clear h1 h3 K1 K3;(try have hb2:=yC hb);(try have hb2:=yD hb);(try have hb2:=yE hb);(try have hb2:=yF hb);(try have hb2:=yG hb)))|(refine fun (K2:_→AHeap→Prop) hK2=>?_)|((with_reducible refine zY ?_ ?_);decide)|((with_reducible first|refine zZ ?_ (fun K hK=>?_)|refine yA ?_ (fun K hK=>?_));(focus go_simp;done);go_simp;refine hK _ _ ?_;clear hK K)|(go_simp;(try go_bits);refine hK2 _ _ ?_;clear hK2 K2))
    refine CodeS.loop (fun m f K' => ∃ (k : Nat) (gv : Value), k ≤ t.flaws.length ∧ m = t.flaws.length - k ∧ f.tmp 17 = .int .i64 k ∧ f.tmp 16 = .int .i64 t.flaws.length ∧ f.tmp 15 = .slice fa t.flaws.length fc ∧ f.tmp 1 = .slice la ids.length lc ∧ f.tmp 4 = .pointer (some ⟨H.n + 1, 0, none⟩) ∧ f.tmp 5 = .pointer (some ⟨q, 0, none⟩) ∧ f.defers = [] ∧ Hid (Own K' K.n gv 32 4 (flawCells ((t.flaws.take k).filter fun a => !decide (a.id ∈ ids)))) ∧ Hid (K'.get q = .row [.int .i64 t.days, .slice ca2 t.closed.length cc2, gv] 25) ∧ Hid (∀ i, i < K.n → i ≠ q → K'.get i = K.get i) ∧ K.n ≤ K'.n) t.flaws.length ?_ ?_
    · exact ⟨0, .slice none 0 0, by omega, by omega, (by first|go_simp<;>go_num|assumption), (by first|go_simp<;>go_num|assumption), (by first|go_simp<;>go_num|assumption), (by first|go_simp<;>go_num|assumption), (by first|go_simp<;>go_num|assumption), (by first|go_simp<;>go_num|assumption), (by first|go_simp<;>go_num|assumption), Lib.hid Own.nil, Lib.hid gq, Lib.hid (fun _ _ _ => rfl), Nat.le_refl _⟩
    clear f1 f2 f4 f5 hd f gq hcf
    rintro m f K' ⟨k, gv, hk, rfl, f17, f16, f15, f1, f4, f5, hd, HU, HQ, HKK, hkn⟩
    obtain ⟨ga, gn, rfl⟩ := own_slice HU.out
    have hxH : Ext H K' := ⟨by have := HXK.out.n; omega, fun i hi => (HKK.out i (by have := HXK.out.n; omega) (by omega)).trans (HXK.out.get i hi)⟩
    have HXH := Lib.hid hxH
    clear hxH
    have hqq := HQ.out
    have hqn : q < K'.n := by omega
    have hcq2 : cellAt K' q 2 = some (.slice ga gn gn) := by simp [cellAt, hqq]
    by_cases hlt : k < t.flaws.length
    · have hki : (k : Int) < (t.flaws.length : Int) := by omega
      obtain ⟨b, o, sp, rfl, hb, hx4, -⟩ := (HF.out.ext HXH.out).at_ hlt
      have HFS := Lib.hid (filter_step (p := fun a => !decide (a.id ∈ ids)) hlt)
      generalize t.flaws[k] = a at hx4 HFS
      obtain ⟨ai, alo, ahi, am⟩ := a
      simp only [Flaw.cells] at hx4
      have HCN := Lib.hid (fun (loops : List (Nat × LInfo)) (H2 : AHeap) => HCO.out loops H2 ai)
      have hbig : ((flawCells ((t.flaws.take k).filter fun a => !decide (a.id ∈ ids))).length + 4) * max 32 1 ≤ 1073741824 := by
        have h1 := List.length_filter_le (fun a => !decide (a.id ∈ ids)) (t.flaws.take k)
        have h2 := List.length_take_le k t.flaws
        rw [flawCells_length]; simp; omega
      have HBIG := Lib.hid hbig
      have HKN := Lib.hid hkn
      clear hbig
      by_cases hm : ai ∈ ids
      · have HFS2 : Hid ((t.flaws.take (k + 1)).filter (fun a => !decide (a.id ∈ ids)) = (t.flaws.take k).filter (fun a => !decide (a.id ∈ ids))) := Lib.hid (by rw [HFS.out, if_neg (by simp [hm]), List.append_nil])
        rw [decide_eq_true hm] at HCN
        clear hm HFS
        repeat' (first|(with_reducible first|refine zA ?_|refine zB fun K hK=>?_|refine zC fun K2 hK2=>?_|refine zD ?_|refine zE ?_|refine zF ?_|refine zG ?_|refine zH ?_|refine zI ?_|refine zM ?_|refine zN ?_|refine zO ?_|refine zP ?_|refine zQ ?_|refine zR ?_)|((with_reducible refine zU (hK _ _ ?_));clear hK K)|((with_reducible refine zV ?_ ?_ fun K1 K3 d hdst h1 h3=>?_);rfl;exact yB rfl;cases hdst;go_simp)|((with_reducible refine zW fun K1 K3 h1 h3=>?_);go_simp)|((first|refine h1 ?_|refine h3 ?_);clear h1 h3 K1 K3)|((first|refine zX (fun hb=>h1 ?_) (fun hb=>h3 ?_)|refine zX (fun hb=>h3 ?_) (fun hb=>h1 ?_))<;>(clear h1 h3 K1 K3;(try have hb2:=yC hb);(try have hb2:=yD hb);(try have hb2:=yE hb);(try have hb2:=yF hb);(try have hb2:=yG hb)))|(refine fun (K2:_→AHeap→Prop) hK2=>?_)|((with_reducible refine zY ?_ ?_);decide)|((with_reducible first|refine zZ ?_ (fun K hK=>?_)|refine yA ?_ (fun K hK=>?_));(focus go_simp;done);go_simp;refine hK _ _ ?_;clear hK K)|(go_simp;(try go_bits);(try first | ((with_reducible show CallS _ _ _ _ _ _);refine CallS.mono (HCN.out _ _ (HXH.out.push' _)) ?_; rintro _ _ ⟨rfl, h9⟩; rw [h9]; clear h9; go_simp));refine hK2 _ _ ?_;clear hK2 K2))
        refine Post.round_normal ⟨t.flaws.length - (k + 1), by omega, k + 1, .slice ga gn gn, by omega, rfl, (by first|go_simp<;>go_num|assumption), (by first|go_simp<;>go_num|assumption), (by first|go_simp<;>go_num|assumption), (by first|go_simp<;>go_num|assumption), (by first|go_simp<;>go_num|assumption), (by first|go_simp<;>go_num|assumption), (by first|go_simp<;>go_num|assumption), Lib.hid (by rw [HFS2.out]; exact HU.out.ext (Ext.push _)), Lib.hid ((AHeap.get_push_old hqn).trans HQ.out), Lib.hid (fun i hi hne => (AHeap.get_push_old (by omega)).trans (HKK.out i hi hne)), by rw [AHeap.n_push]; omega⟩
      · have HFS2 : Hid ((t.flaws.take (k + 1)).filter (fun a => !decide (a.id ∈ ids)) = (t.flaws.take k).filter (fun a => !decide (a.id ∈ ids)) ++ [⟨ai, alo, ahi, am⟩]) := Lib.hid (by rw [HFS.out, if_pos (by simp [hm])])
        rw [decide_eq_false hm] at HCN
        clear hm HFS
        repeat' (first|(with_reducible first|refine zA ?_|refine zB fun K hK=>?_|refine zC fun K2 hK2=>?_|refine zD ?_|refine zE ?_|refine zF ?_|refine zG ?_|refine zH ?_|refine zI ?_|refine zM ?_|refine zN ?_|refine zO ?_|refine zP ?_|refine zQ ?_|refine zR ?_)|((with_reducible refine zU (hK _ _ ?_));clear hK K)|((with_reducible refine zV ?_ ?_ fun K1 K3 d hdst h1 h3=>?_);rfl;exact yB rfl;cases hdst;go_simp)|((with_reducible refine zW fun K1 K3 h1 h3=>?_);go_simp)|((first|refine h1 ?_|refine h3 ?_);clear h1 h3 K1 K3)|((first|refine zX (fun hb=>h1 ?_) (fun hb=>h3 ?_)|refine zX (fun hb=>h3 ?_) (fun hb=>h1 ?_))<;>(clear h1 h3 K1 K3;(try have hb2:=yC hb);(try have hb2:=yD hb);(try have hb2:=yE hb);(try have hb2:=yF hb);(try have hb2:=yG hb)))|(refine fun (K2:_→AHeap→Prop) hK2=>?_)|((with_reducible refine zY ?_ ?_);decide)|((with_reducible first|refine zZ ?_ (fun K hK=>?_)|refine yA ?_ (fun K hK=>?_));(focus go_simp;done);go_simp;refine hK _ _ ?_;clear hK K)|(go_simp;(try go_bits);(try first | ((with_reducible show CallS _ _ _ _ _ _);refine CallS.mono (HCN.out _ _ (HXH.out.push' _)) ?_; rintro _ _ ⟨rfl, h9⟩; rw [h9]; clear h9; go_simp) | ((refine one_k el23 sz32 ze32 rfl (by decide) (by decide) rfl rfl ?_); go_simp) | ((refine append_k el23 sz32 by32 ze32 rfl (by decide) (HU.out.ext (((Ext.refl _).push' _).push' _)) (srcCells_new rfl) (by decide) rfl (by rw [List.all_append, flawCells_one]; rfl) HBIG.out (by simp only [AHeap.n_push]; have := HKN.out; omega) fun v2 H4 ho4 hg4 => ?_); (obtain ⟨a4, n4, rfl⟩ := own_slice ho4); (have HO4 := Lib.hid ho4); (have HG4 := Lib.hid hg4); (have hq4 : H4.get q = .row [.int .i64 t.days, .slice ca2 t.closed.length cc2, .slice ga gn gn] 25 := (hg4.2 q (by simp only [AHeap.n_push]; omega) (fun b n hv hn => by have := (own_block HU.out hv hn).1; omega)).trans ((AHeap.get_push_old (by rw [AHeap.n_push]; omega)).trans ((AHeap.get_push_old hqn).trans HQ.out))); clear ho4 hg4; go_simp));refine hK2 _ _ ?_;clear hK2 K2))
        have hn4 := HG4.out.1
        simp only [AHeap.n_push] at hn4
        refine Post.round_normal ⟨t.flaws.length - (k + 1), by omega, k + 1, .slice a4 n4 n4, by omega, rfl, (by first|go_simp<;>go_num|assumption), (by first|go_simp<;>go_num|assumption), (by first|go_simp<;>go_num|assumption), (by first|go_simp<;>go_num|assumption), (by first|go_simp<;>go_num|assumption), (by first|go_simp<;>go_num|assumption), (by first|go_simp<;>go_num|assumption), Lib.hid ?_, Lib.hid AHeap.get_upd_same, Lib.hid (fun i hi hne => ?_), by rw [AHeap.n_upd]; omega⟩
        · rw [HFS2.out, flawCells_append]
          refine own_at HO4.out (by rw [AHeap.n_upd]; exact Nat.le_refl _) fun i n hv hn => ?_
          have := (own_block HO4.out hv hn).1
          rw [AHeap.get_upd_ne (by omega)]
        · rw [AHeap.get_upd_ne hne, HG4.out.2 i (by simp only [AHeap.n_push]; omega) (fun b n hv hn => by have := (own_block HU.out hv hn).1; omega), AHeap.get_push_old (by rw [AHeap.n_push]; omega), AHeap.get_push_old (by omega)]
          exact HKK.out i hi hne
    · have hki : ¬ (k : Int) < (t.flaws.length : Int) := by omega
      have hke : k = t.flaws.length := by omega
      subst hke
      rw [List.take_length] at HU
      have hcq : cellsAt K' q 0 3 = some [.int .i64 t.days, .slice ca2 t.closed.length cc2, .slice ga gn gn] := by simp [cellsAt, hqq]
      have hz1 : K'.get (H.n + 1) = .row [.int .i64 0, .slice none 0 0, .slice none 0 0] 25 := (HKK.out _ (by omega) (by omega)).trans GZ.out
      clear hlt hqq
      repeat' (first|(with_reducible first|refine zA ?_|refine zB fun K hK=>?_|refine zC fun K2 hK2=>?_|refine zD ?_|refine zE ?_|refine zF ?_|refine zG ?_|refine zH ?_|refine zI ?_|refine zM ?_|refine zN ?_|refine zO ?_|refine zP ?_|refine zQ ?_|refine zR ?_)|((with_reducible refine zU (hK _ _ ?_));clear hK K)|((with_reducible refine zV ?_ ?_ fun K1 K3 d hdst h1 h3=>?_);rfl;exact yB rfl;cases hdst;go_simp)|((with_reducible refine zW fun K1 K3 h1 h3=>?_);go_simp)|((first|refine h1 ?_|refine h3 ?_);clear h1 h3 K1 K3)|((first|refine zX (fun hb=>h1 ?_) (fun hb=>h3 ?_)|refine zX (fun hb=>h3 ?_) (fun hb=>h1 ?_))<;>(clear h1 h3 K1 K3;(try have hb2:=yC hb);(try have hb2:=yD hb);(try have hb2:=yE hb);(try have hb2:=yF hb);(try have hb2:=yG hb)))|(refine fun (K2:_→AHeap→Prop) hK2=>?_)|((with_reducible refine zY ?_ ?_);decide)|((with_reducible first|refine zZ ?_ (fun K hK=>?_)|refine yA ?_ (fun K hK=>?_));(focus go_simp;done);go_simp;refine hK _ _ ?_;clear hK K)|(go_simp;(try go_bits);refine hK2 _ _ ?_;clear hK2 K2))
      have hlen := List.length_filter_le (fun a => !decide (a.id ∈ ids)) t.flaws
      refine ⟨⟨_, _, _, _, _, _, rfl, ?_, ?_, fun x hx => (HNE.out x hx).2, fun x hx => ?_⟩, HXH.out.upd (by omega) _⟩
      · refine HIK.out.keep (by rw [AHeap.n_upd]; omega) fun _ x hx hxb => ?_
        obtain ⟨h1, h2⟩ := HNE.out x hx
        rw [AHeap.get_upd_ne (by omega)]
        exact HKK.out _ hxb h1
      · refine flaws_own (own_at HU.out (by rw [AHeap.n_upd]; exact Nat.le_refl _) fun i n hv hn => ?_) (by simp only [Tour.less]; omega)
        have := (own_block HU.out hv hn).1
        rw [AHeap.get_upd_ne (by omega)]
      · subst hx
        rcases HU.out with ⟨h1, -⟩ | ⟨b, n, h1, h2, -⟩
        · cases h1
        · cases h1; show H.n + 1 < b; omega
  · refine ⟨genC (fun f K => f.tmp 1 = .slice la ids.length lc ∧ f.tmp 2 = .pointer (some ⟨H.n, 0, none⟩) ∧ f.tmp 4 = .pointer (some ⟨H.n + 1, 0, none⟩) ∧ f.defers = [] ∧ ∃ q ca2 cc2, f.tmp 5 = .pointer (some ⟨q, 0, none⟩) ∧ H.n + 1 < q ∧ q < K.n ∧ K.get q = .row [.int .i64 t.days, .slice ca2 t.closed.length cc2, .slice none 0 0] 25 ∧ cellAt K H.n 2 = some (.slice fa t.flaws.length fc) ∧ K.get (H.n + 1) = .row [.int .i64 0, .slice none 0 0, .slice none 0 0] 25 ∧ Ext H K ∧ Ints K (.slice ca2 t.closed.length cc2) t.closed ∧ ∀ x, ca2 = some x → x.block ≠ q ∧ H.n + 1 < x.block) ⟨(by first|go_simp<;>go_num|assumption), (by first|go_simp<;>go_num|assumption), (by first|go_simp<;>go_num|assumption), (by first|go_simp<;>go_num|assumption), H.n + 2, ca2, cc2, (by first|go_simp<;>go_num|assumption), by omega, ?_, AHeap.get_upd_same, ?_, ?_, ?_, ?_, fun x hx => ?_⟩ ?_⟩
    · have := HX2.out.n
      simp only [AHeap.n_push] at this
      rw [AHeap.n_upd]; omega
    · rw [cellAt_get (AHeap.get_upd_ne (by omega))]; exact hq2
    · rw [AHeap.get_upd_ne (by omega)]; exact HG1.out
    · exact ((((Ext.refl _).push' _).push' _).push' _ |>.trans HX2.out).upd (by omega) _
    · refine HI2.out.keep (by rw [AHeap.n_upd]; exact Nat.le_refl _) fun _ x hx _ => AHeap.get_upd_ne ?_
      have := (HFR2.out x hx).1
      simp only [AHeap.n_push] at this
      omega
    · have := (HFR2.out x hx).1
      simp only [AHeap.n_push] at this
      exact ⟨by omega, by omega⟩
    clear f0 f1 hd f
    rintro f K ⟨f1, f2, f4, hd, q, ca2, cc2, f5, hq1, hq2, gq, hcf, gz, hxK, hiK, hne⟩
    have HXK := Lib.hid hxK
    have HIK := Lib.hid hiK
    have HNE := Lib.hid hne
    have GZ := Lib.hid gz
    clear hxK hiK hne gz
    repeat' (first|(with_reducible first|refine zA ?_|refine zB fun K hK=>?_|refine zC fun K2 hK2=>?_|refine zD ?_|refine zE ?_|refine zF ?_|refine zG ?_|refine zH ?_|refine zI ?_|refine zM ?_|refine zN ?_|refine zO ?_|refine zP ?_|refine zQ ?_|refine zR ?_)|((with_reducible refine zU (hK _ _ ?_));clear hK K)|((with_reducible refine zV ?_ ?_ fun K1 K3 d hdst h1 h3=>?_);rfl;exact yB rfl;cases hdst;go_simp)|((with_reducible refine zW fun K1 K3 h1 h3=>?_);go_simp)|((first|refine h1 ?_|refine h3 ?_);clear h1 h3 K1 K3)|((first|refine zX (fun hb=>h1 ?_) (fun hb=>h3 ?_)|refine zX (fun hb=>h3 ?_) (fun hb=>h1 ?_))<;>(clear h1 h3 K1 K3;(try have hb2:=yC hb);(try have hb2:=yD hb);(try have hb2:=yE hb);(try have hb2:=yF hb);(try have hb2:=yG hb)))|(refine fun (K2:_→AHeap→Prop) hK2=>?_)|((with_reducible refine zY ?_ ?_);decide)|((with_reducible first|refine zZ ?_ (fun K hK=>?_)|refine yA ?_ (fun K hK=>?_));(focus go_simp;done);go_simp;refine hK _ _ ?_;clear hK K)|(go_simp;(try go_bits);refine hK2 _ _ ?_;clear hK2 K2))
    refine CodeS.loop (fun m f K' => ∃ (k : Nat) (gv : Value), k ≤ t.flaws.length ∧ m = t.flaws.length - k ∧ f.tmp 17 = .int .i64 k ∧ f.tmp 16 = .int .i64 t.flaws.length ∧ f.tmp 15 = .slice fa t.flaws.length fc ∧ f.tmp 1 = .slice la ids.length lc ∧ f.tmp 4 = .pointer (some ⟨H.n + 1, 0, none⟩) ∧ f.tmp 5 = .pointer (some ⟨q, 0, none⟩) ∧ f.defers = [] ∧ Hid (Own K' K.n gv 32 4 (flawCells ((t.flaws.take k).filter fun a => !decide (a.id ∈ ids)))) ∧ Hid (K'.get q = .row [.int .i64 t.days, .slice ca2 t.closed.length cc2, gv] 25) ∧ Hid (∀ i, i < K.n → i ≠ q → K'.get i = K.get i) ∧ K.n ≤ K'.n) t.flaws.length ?_ ?_
    · exact ⟨0, .slice none 0 0, by omega, by omega, (by first|go_simp<;>go_num|assumption), (by first|go_simp<;>go_num|assumption), (by first|go_simp<;>go_num|assumption), (by first|go_simp<;>go_num|assumption), (by first|go_simp<;>go_num|assumption), (by first|go_simp<;>go_num|assumption), (by first|go_simp<;>go_num|assumption), Lib.hid Own.nil, Lib.hid gq, Lib.hid (fun _ _ _ => rfl), Nat.le_refl _⟩
    clear f1 f2 f4 f5 hd f gq hcf
    rintro m f K' ⟨k, gv, hk, rfl, f17, f16, f15, f1, f4, f5, hd, HU, HQ, HKK, hkn⟩
    obtain ⟨ga, gn, rfl⟩ := own_slice HU.out
    have hxH : Ext H K' := ⟨by have := HXK.out.n; omega, fun i hi => (HKK.out i (by have := HXK.out.n; omega) (by omega)).trans (HXK.out.get i hi)⟩
    have HXH := Lib.hid hxH
    clear hxH
    have hqq := HQ.out
    have hqn : q < K'.n := by omega
    have hcq2 : cellAt K' q 2 = some (.slice ga gn gn) := by simp [cellAt, hqq]
    by_cases hlt : k < t.flaws.length
    · have hki : (k : Int) < (t.flaws.length : Int) := by omega
      obtain ⟨b, o, sp, rfl, hb, hx4, -⟩ := (HF.out.ext HXH.out).at_ hlt
      have HFS := Lib.hid (filter_step (p := fun a => !decide (a.id ∈ ids)) hlt)
      generalize t.flaws[k] = a at hx4 HFS
      obtain ⟨ai, alo, ahi, am⟩ := a
      simp only [Flaw.cells] at hx4
      have HCN := Lib.hid (fun (loops : List (Nat × LInfo)) (H2 : AHeap) => HCO.out loops H2 ai)
      have hbig : ((flawCells ((t.flaws.take k).filter fun a => !decide (a.id ∈ ids))).length + 4) * max 32 1 ≤ 1073741824 := by
        have h1 := List.length_filter_le (fun a => !decide (a.id ∈ ids)) (t.flaws.take k)
        have h2 := List.length_take_le k t.flaws
        rw [flawCells_length]; simp; omega
      have HBIG := Lib.hid hbig
      have HKN := Lib.hid hkn
      clear hbig
      by_cases hm : ai ∈ ids
      · have HFS2 : Hid ((t.flaws.take (k + 1)).filter (fun a => !decide (a.id ∈ ids)) = (t.flaws.take k).filter (fun a => !decide (a.id ∈ ids))) := Lib.hid (by rw [HFS.out, if_neg (by simp [hm]), List.append_nil])
        rw [decide_eq_true hm] at HCN
        clear hm HFS
        repeat' (first|(with_reducible first|refine zA ?_|refine zB fun K hK=>?_|refine zC fun K2 hK2=>?_|refine zD ?_|refine zE ?_|refine zF ?_|refine zG ?_|refine zH ?_|refine zI ?_|refine zM ?_|refine zN ?_|refine zO ?_|refine zP ?_|refine zQ ?_|refine zR ?_)|((with_reducible refine zU (hK _ _ ?_));clear hK K)|((with_reducible refine zV ?_ ?_ fun K1 K3 d hdst h1 h3=>?_);rfl;exact yB rfl;cases hdst;go_simp)|((with_reducible refine zW fun K1 K3 h1 h3=>?_);go_simp)|((first|refine h1 ?_|refine h3 ?_);clear h1 h3 K1 K3)|((first|refine zX (fun hb=>h1 ?_) (fun hb=>h3 ?_)|refine zX (fun hb=>h3 ?_) (fun hb=>h1 ?_))<;>(clear h1 h3 K1 K3;(try have hb2:=yC hb);(try have hb2:=yD hb);(try have hb2:=yE hb);(try have hb2:=yF hb);(try have hb2:=yG hb)))|(refine fun (K2:_→AHeap→Prop) hK2=>?_)|((with_reducible refine zY ?_ ?_);decide)|((with_reducible first|refine zZ ?_ (fun K hK=>?_)|refine yA ?_ (fun K hK=>?_));(focus go_simp;done);go_simp;refine hK _ _ ?_;clear hK K)|(go_simp;(try go_bits);(try first | ((with_reducible show CallS _ _ _ _ _ _);refine CallS.mono (HCN.out _ _ (HXH.out.push' _)) ?_; rintro _ _ ⟨rfl, h9⟩; rw [h9]; clear h9; go_simp));refine hK2 _ _ ?_;clear hK2 K2))
        refine Post.round_normal ⟨t.flaws.length - (k + 1), by omega, k + 1, .slice ga gn gn, by omega, rfl, (by first|go_simp<;>go_num|assumption), (by first|go_simp<;>go_num|assumption), (by first|go_simp<;>go_num|assumption), (by first|go_simp<;>go_num|assumption), (by first|go_simp<;>go_num|assumption), (by first|go_simp<;>go_num|assumption), (by first|go_simp<;>go_num|assumption), Lib.hid (by rw [HFS2.out]; exact HU.out.ext (Ext.push _)), Lib.hid ((AHeap.get_push_old hqn).trans HQ.out), Lib.hid (fun i hi hne => (AHeap.get_push_old (by omega)).trans (HKK.out i hi hne)), by rw [AHeap.n_push]; omega⟩
      · have HFS2 : Hid ((t.flaws.take (k + 1)).filter (fun a => !decide (a.id ∈ ids)) = (t.flaws.take k).filter (fun a => !decide (a.id ∈ ids)) ++ [⟨ai, alo, ahi, am⟩]) := Lib.hid (by rw [HFS.out, if_pos (by simp [hm])])
        rw [decide_eq_false hm] at HCN
        clear hm HFS
        repeat' (first|(with_reducible first|refine zA ?_|refine zB fun K hK=>?_|refine zC fun K2 hK2=>?_|refine zD ?_|refine zE ?_|refine zF ?_|refine zG ?_|refine zH ?_|refine zI ?_|refine zM ?_|refine zN ?_|refine zO ?_|refine zP ?_|refine zQ ?_|refine zR ?_)|((with_reducible refine zU (hK _ _ ?_));clear hK K)|((with_reducible refine zV ?_ ?_ fun K1 K3 d hdst h1 h3=>?_);rfl;exact yB rfl;cases hdst;go_simp)|((with_reducible refine zW fun K1 K3 h1 h3=>?_);go_simp)|((first|refine h1 ?_|refine h3 ?_);clear h1 h3 K1 K3)|((first|refine zX (fun hb=>h1 ?_) (fun hb=>h3 ?_)|refine zX (fun hb=>h3 ?_) (fun hb=>h1 ?_))<;>(clear h1 h3 K1 K3;(try have hb2:=yC hb);(try have hb2:=yD hb);(try have hb2:=yE hb);(try have hb2:=yF hb);(try have hb2:=yG hb)))|(refine fun (K2:_→AHeap→Prop) hK2=>?_)|((with_reducible refine zY ?_ ?_);decide)|((with_reducible first|refine zZ ?_ (fun K hK=>?_)|refine yA ?_ (fun K hK=>?_));(focus go_simp;done);go_simp;refine hK _ _ ?_;clear hK K)|(go_simp;(try go_bits);(try first | ((with_reducible show CallS _ _ _ _ _ _);refine CallS.mono (HCN.out _ _ (HXH.out.push' _)) ?_; rintro _ _ ⟨rfl, h9⟩; rw [h9]; clear h9; go_simp) | ((refine one_k el23 sz32 ze32 rfl (by decide) (by decide) rfl rfl ?_); go_simp) | ((refine append_k el23 sz32 by32 ze32 rfl (by decide) (HU.out.ext (((Ext.refl _).push' _).push' _)) (srcCells_new rfl) (by decide) rfl (by rw [List.all_append, flawCells_one]; rfl) HBIG.out (by simp only [AHeap.n_push]; have := HKN.out; omega) fun v2 H4 ho4 hg4 => ?_); (obtain ⟨a4, n4, rfl⟩ := own_slice ho4); (have HO4 := Lib.hid ho4); (have HG4 := Lib.hid hg4); (have hq4 : H4.get q = .row [.int .i64 t.days, .slice ca2 t.closed.length cc2, .slice ga gn gn] 25 := (hg4.2 q (by simp only [AHeap.n_push]; omega) (fun b n hv hn => by have := (own_block HU.out hv hn).1; omega)).trans ((AHeap.get_push_old (by rw [AHeap.n_push]; omega)).trans ((AHeap.get_push_old hqn).trans HQ.out))); clear ho4 hg4; go_simp));refine hK2 _ _ ?_;clear hK2 K2))
        have hn4 := HG4.out.1
        simp only [AHeap.n_push] at hn4
        refine Post.round_normal ⟨t.flaws.length - (k + 1), by omega, k + 1, .slice a4 n4 n4, by omega, rfl, (by first|go_simp<;>go_num|assumption), (by first|go_simp<;>go_num|assumption), (by first|go_simp<;>go_num|assumption), (by first|go_simp<;>go_num|assumption), (by first|go_simp<;>go_num|assumption), (by first|go_simp<;>go_num|assumption), (by first|go_simp<;>go_num|assumption), Lib.hid ?_, Lib.hid AHeap.get_upd_same, Lib.hid (fun i hi hne => ?_), by rw [AHeap.n_upd]; omega⟩
        · rw [HFS2.out, flawCells_append]
          refine own_at HO4.out (by rw [AHeap.n_upd]; exact Nat.le_refl _) fun i n hv hn => ?_
          have := (own_block HO4.out hv hn).1
          rw [AHeap.get_upd_ne (by omega)]
        · rw [AHeap.get_upd_ne hne, HG4.out.2 i (by simp only [AHeap.n_push]; omega) (fun b n hv hn => by have := (own_block HU.out hv hn).1; omega), AHeap.get_push_old (by rw [AHeap.n_push]; omega), AHeap.get_push_old (by omega)]
          exact HKK.out i hi hne
    · have hki : ¬ (k : Int) < (t.flaws.length : Int) := by omega
      have hke : k = t.flaws.length := by omega
      subst hke
      rw [List.take_length] at HU
      have hcq : cellsAt K' q 0 3 = some [.int .i64 t.days, .slice ca2 t.closed.length cc2, .slice ga gn gn] := by simp [cellsAt, hqq]
      have hz1 : K'.get (H.n + 1) = .row [.int .i64 0, .slice none 0 0, .slice none 0 0] 25 := (HKK.out _ (by omega) (by omega)).trans GZ.out
      clear hlt hqq
      repeat' (first|(with_reducible first|refine zA ?_|refine zB fun K hK=>?_|refine zC fun K2 hK2=>?_|refine zD ?_|refine zE ?_|refine zF ?_|refine zG ?_|refine zH ?_|refine zI ?_|refine zM ?_|refine zN ?_|refine zO ?_|refine zP ?_|refine zQ ?_|refine zR ?_)|((with_reducible refine zU (hK _ _ ?_));clear hK K)|((with_reducible refine zV ?_ ?_ fun K1 K3 d hdst h1 h3=>?_);rfl;exact yB rfl;cases hdst;go_simp)|((with_reducible refine zW fun K1 K3 h1 h3=>?_);go_simp)|((first|refine h1 ?_|refine h3 ?_);clear h1 h3 K1 K3)|((first|refine zX (fun hb=>h1 ?_) (fun hb=>h3 ?_)|refine zX (fun hb=>h3 ?_) (fun hb=>h1 ?_))<;>(clear h1 h3 K1 K3;(try have hb2:=yC hb);(try have hb2:=yD hb);(try have hb2:=yE hb);(try have hb2:=yF hb);(try have hb2:=yG hb)))|(refine fun (K2:_→AHeap→Prop) hK2=>?_)|((with_reducible refine zY ?_ ?_);decide)|((with_reducible first|refine zZ ?_ (fun K hK=>?_)|refine yA ?_ (fun K hK=>?_));(focus go_simp;done);go_simp;refine hK _ _ ?_;clear hK K)|(go_simp;(try go_bits);refine hK2 _ _ ?_;clear hK2 K2))
      have hlen := List.length_filter_le (fun a => !decide (a.id ∈ ids)) t.flaws
      refine ⟨⟨_, _, _, _, _, _, rfl, ?_, ?_, fun x hx => (HNE.out x hx).2, fun x hx => ?_⟩, HXH.out.upd (by omega) _⟩
      · refine HIK.out.keep (by rw [AHeap.n_upd]; omega) fun _ x hx hxb => ?_
        obtain ⟨h1, h2⟩ := HNE.out x hx
        rw [AHeap.get_upd_ne (by omega)]
        exact HKK.out _ hxb h1
      · refine flaws_own (own_at HU.out (by rw [AHeap.n_upd]; exact Nat.le_refl _) fun i n hv hn => ?_) (by simp only [Tour.less]; omega)
        have := (own_block HU.out hv hn).1
        rw [AHeap.get_upd_ne (by omega)]
      · subst hx
        rcases HU.out with ⟨h1, -⟩ | ⟨b, n, h1, h2, -⟩
        · cases h1
        · cases h1; show H.n + 1 < b; omega
end Go.Proofs.Try
namespace Go.Proofs.Try
open Go Go.Am Go.RowKit
set_option maxRecDepth 100000


theorem errList_few {t : Tour} {ids : List Int} (h : errList t ids = 0) : Good t ∧ err t = 0 := by
  refine ⟨(good_list h).1, ?_⟩
  unfold errList at h
  split at h
  · rename_i h1; exact absurd h h1
  · rename_i h1; simpa using h1

set_option maxHeartbeats 2000000 in
theorem withoutT_e {loops : List (Nat × LInfo)} {H : AHeap} {v lv : Value} {t : Tour} {ids : List Int} (hv : TourV H v t) (hl : Ints H lv ids) (hcl : t.closed.length ≤ 1000) (hfn : t.flaws.length ≤ 1000) : CallS Try.prog loops 27 [v, lv] H fun r H' => (∃ cv fv d, (∃ a n c, cv = .slice a n c) ∧ (∃ a n c, fv = .slice a n c) ∧ r = .tuple #[.agg #[.int .i64 d, cv, fv], .int .i64 (errList t ids)] ∧ (errList t ids = 0 → TourV H' (.agg #[.int .i64 d, cv, fv]) (t.less ids))) ∧ Ext H H' := by
  have HV := Lib.hid hv
  have HL := Lib.hid hl
  have HCL := Lib.hid (fun (loops : List (Nat × LInfo)) (H2 : AHeap) (hx : Ext H H2) => checkList_s (loops := loops) (HV.out.ext hx) (HL.out.ext hx))
  have HWO := Lib.hid (fun (loops : List (Nat × LInfo)) (H2 : AHeap) (hx : Ext H H2) => without_e (loops := loops) (HV.out.ext hx) (HL.out.ext hx) hcl hfn)
  obtain ⟨cv, fv, rfl, hc, hf⟩ := hv
  obtain ⟨hcl', ca, cc, rfl⟩ := hc.slice
  obtain ⟨hfl, fa, fc, rfl⟩ := hf.slice
  obtain ⟨hll, la, lc, rfl⟩ := hl.slice
  clear hc hf hl
  by_cases he : errList t ids = 0
  · rw [he] at HCL ⊢
    refine CallS.enter' Try.func27 rfl Try.ntmps27 (by simp) fun f hd hf => ?_
    have f0 := hf 0
    have f1 := hf 1
    simp at f0 f1
    clear hf he
    repeat' (first|(with_reducible first|refine zA ?_|refine zB fun K hK=>?_|refine zC fun K2 hK2=>?_|refine zD ?_|refine zE ?_|refine zF ?_|refine zG ?_|refine zH ?_|refine zI ?_|refine zM ?_|refine zN ?_|refine zO ?_|refine zP ?_|refine zQ ?_|refine zR ?_)|((with_reducible refine zU (hK _ _ ?_));clear hK K)|((with_reducible refine zV ?_ ?_ fun K1 K3 d hdst h1 h3=>?_);rfl;exact yB rfl;cases hdst;go_simp)|((with_reducible refine zW fun K1 K3 h1 h3=>?_);go_simp)|((first|refine h1 ?_|refine h3 ?_);clear h1 h3 K1 K3)|((first|refine zX (fun hb=>h1 ?_) (fun hb=>h3 ?_)|refine zX (fun hb=>h3 ?_) (fun hb=>h1 ?_))<;>(clear h1 h3 K1 K3;(try have hb2:=yC hb);(try have hb2:=yD hb);(try have hb2:=yE hb);(try have hb2:=yF hb);(try have hb2:=yG hb)))|(refine fun (K2:_→AHeap→Prop) hK2=>?_)|((with_reducible refine zY ?_ ?_);decide)|((with_reducible first|refine zZ ?_ (fun K hK=>?_)|refine yA ?_ (fun K hK=>?_));(focus go_simp;done);go_simp;refine hK _ _ ?_;clear hK K)|(go_simp;(try go_bits);(try first |((with_reducible show CallS _ _ _ _ _ _);first|(refine CallS.mono (HCL.out _ _ (((Ext.refl _).push' _).push' _)) ?_; rintro _ _ ⟨rfl, rfl⟩)|(refine CallS.mono (HWO.out _ _ (((Ext.refl _).push' _).push' _)) ?_; rintro wv H2 ⟨⟨ca2, n1, cc2, fa2, n2, fc2, rfl, hc2, hf2, hr1, hr2⟩, hx2⟩; (have HX2 := Lib.hid hx2); (have HC2 := Lib.hid hc2); (have HF2 := Lib.hid hf2); (have HR1 := Lib.hid hr1); (have HR2 := Lib.hid hr2); (have hg1 : H2.get (H.n + 1) = .row [.int .i64 0, .slice none 0 0, .slice none 0 0] 25 := (hx2.get _ (by simp only [AHeap.n_push]; omega)).trans AHeap.get_push_new); clear hc2 hf2 hx2 hr1 hr2; go_simp)));refine hK2 _ _ ?_;clear hK2 K2))
    refine ⟨⟨_, _, _, ⟨_, _, _, rfl⟩, ⟨_, _, _, rfl⟩, rfl, fun _ => ⟨_, _, rfl, HC2.out.keep (by rw [AHeap.n_upd]; exact Nat.le_refl _) fun _ x hx _ => AHeap.get_upd_ne ?_, HF2.out.keep (by rw [AHeap.n_upd]; exact Nat.le_refl _) fun x hx _ => AHeap.get_upd_ne ?_⟩⟩, ((((Ext.refl _).push' _).push' _).trans HX2.out).upd (by omega) _⟩
    · have := HR1.out x hx
      simp only [AHeap.n_push] at this
      omega
    · have := HR2.out x hx
      simp only [AHeap.n_push] at this
      omega
  · have heb : (errList t ids != 0) = true := by simpa using he
    generalize errList t ids = er at HCL he heb ⊢
    refine CallS.enter' Try.func27 rfl Try.ntmps27 (by simp) fun f hd hf => ?_
    have f0 := hf 0
    have f1 := hf 1
    simp at f0 f1
    clear hf
    repeat' (first|(with_reducible first|refine zA ?_|refine zB fun K hK=>?_|refine zC fun K2 hK2=>?_|refine zD ?_|refine zE ?_|refine zF ?_|refine zG ?_|refine zH ?_|refine zI ?_|refine zM ?_|refine zN ?_|refine zO ?_|refine zP ?_|refine zQ ?_|refine zR ?_)|((with_reducible refine zU (hK _ _ ?_));clear hK K)|((with_reducible refine zV ?_ ?_ fun K1 K3 d hdst h1 h3=>?_);rfl;exact yB rfl;cases hdst;go_simp)|((with_reducible refine zW fun K1 K3 h1 h3=>?_);go_simp)|((first|refine h1 ?_|refine h3 ?_);clear h1 h3 K1 K3)|((first|refine zX (fun hb=>h1 ?_) (fun hb=>h3 ?_)|refine zX (fun hb=>h3 ?_) (fun hb=>h1 ?_))<;>(clear h1 h3 K1 K3;(try have hb2:=yC hb);(try have hb2:=yD hb);(try have hb2:=yE hb);(try have hb2:=yF hb);(try have hb2:=yG hb)))|(refine fun (K2:_→AHeap→Prop) hK2=>?_)|((with_reducible refine zY ?_ ?_);decide)|((with_reducible first|refine zZ ?_ (fun K hK=>?_)|refine yA ?_ (fun K hK=>?_));(focus go_simp;done);go_simp;refine hK _ _ ?_;clear hK K)|(go_simp;(try go_bits);(try first | ((with_reducible show CallS _ _ _ _ _ _);refine CallS.mono (HCL.out _ _ (((Ext.refl _).push' _).push' _)) ?_; rintro _ _ ⟨rfl, rfl⟩) | ((rw [aBuild_struct st25q ze25]); go_simp));refine hK2 _ _ ?_;clear hK2 K2))
    exact ⟨⟨_, _, 0, ⟨none, 0, 0, rfl⟩, ⟨none, 0, 0, rfl⟩, rfl, fun h => absurd h he⟩, ((Ext.refl _).push' _).push' _⟩

theorem errGo_ok (t : Tour) : ∀ (l : List Flaw) (seen : List Int), (∀ a, a ∈ l → a.right t = true) → (l.map (·.id)).Nodup → (∀ a, a ∈ l → a.id ∉ seen) → errGo t seen l = 0
  | [], _, _, _, _ => rfl
  | a :: l, seen, h1, h2, h3 => by
    rw [List.map_cons, List.nodup_cons] at h2
    rw [errGo, if_neg (by simp [h1 a (List.mem_cons_self ..)]), if_neg (h3 a (List.mem_cons_self ..))]
    refine errGo_ok t l _ (fun b hb => h1 b (List.mem_cons_of_mem _ hb)) h2.2 (fun b hb hs => ?_)
    simp only [List.mem_append, List.mem_singleton] at hs
    rcases hs with hs | hs
    · exact h3 b (List.mem_cons_of_mem _ hb) hs
    · exact h2.1 (by rw [← hs]; exact List.mem_map.2 ⟨b, hb, rfl⟩)
theorem err_sub {t : Tour} (hg : Good t) {F : List Flaw} (hs : ∀ a, a ∈ F → a ∈ t.flaws) (hn : (F.map (·.id)).Nodup) : err ⟨t.days, t.closed, F⟩ = 0 := by
  have hlen : F.length ≤ t.flaws.length := by
    have := nodup_len (F.map (·.id)) (t.flaws.map (·.id)) hn (fun x hx => by
      obtain ⟨a, ha, rfl⟩ := List.mem_map.1 hx
      exact List.mem_map.2 ⟨a, hs a ha, rfl⟩)
    simpa using this
  have hfew := hg.few
  have h1 : ¬ (win 1 60 t.days = false ∨ (⟨t.days, t.closed, F⟩ : Tour).areDays t.closed = false) := by
    rintro (h | h)
    · rw [hg.days] at h; cases h
    · have h2 : (⟨t.days, t.closed, F⟩ : Tour).areDays t.closed = t.areDays t.closed := rfl
      rw [h2, hg.closed] at h; cases h
  unfold err
  rw [if_neg h1, if_neg (by show ¬ 40 < F.length; omega)]
  exact errGo_ok _ F [] (fun a ha => hg.right a (hs a ha)) hn (fun a _ h => by cases h)
def rotF (F : List Flaw) (r : Nat) (k : Nat) : List Flaw := (List.range k).map fun i => F.getD ((i + r) % F.length) nowhere
theorem rotF_succ {F : List Flaw} {r k : Nat} (h : 0 < F.length) : rotF F r (k + 1) = rotF F r k ++ [F[(k + r) % F.length]'(Nat.mod_lt _ h)] := by
  simp only [rotF, List.range_succ, List.map_append, List.map_cons, List.map_nil]
  rw [getD_in (Nat.mod_lt _ h)]
theorem rotF_mem {F : List Flaw} {r : Nat} : ∀ a, a ∈ rotF F r F.length → a ∈ F := by
  intro a ha
  obtain ⟨i, hi, rfl⟩ := List.mem_map.1 ha
  have h : 0 < F.length := by have := List.mem_range.1 hi; omega
  rw [getD_in (Nat.mod_lt _ h)]
  exact List.getElem_mem _
theorem mod_inj {n r i j : Nat} (hi : i < n) (hj : j < n) (h : (i + r) % n = (j + r) % n) : i = j := by
  have h1 : (i + r) % n = (i + r % n) % n := by rw [Nat.add_mod, Nat.add_mod i (r % n), Nat.mod_mod]
  have h2 : (j + r) % n = (j + r % n) % n := by rw [Nat.add_mod, Nat.add_mod j (r % n), Nat.mod_mod]
  have h3 := Nat.mod_lt r (show 0 < n by omega)
  rw [h1, h2] at h
  generalize r % n = s at h h3
  rcases Nat.lt_or_ge (i + s) n with h4 | h4 <;> rcases Nat.lt_or_ge (j + s) n with h5 | h5
  · rw [Nat.mod_eq_of_lt h4, Nat.mod_eq_of_lt h5] at h; omega
  · rw [Nat.mod_eq_of_lt h4, Nat.mod_eq_sub_mod h5, Nat.mod_eq_of_lt (by omega)] at h; omega
  · rw [Nat.mod_eq_of_lt h5, Nat.mod_eq_sub_mod h4, Nat.mod_eq_of_lt (by omega)] at h; omega
  · rw [Nat.mod_eq_sub_mod h4, Nat.mod_eq_sub_mod h5, Nat.mod_eq_of_lt (by omega), Nat.mod_eq_of_lt (by omega)] at h; omega
theorem rotF_nodup {F : List Flaw} {r : Nat} (hn : (F.map (·.id)).Nodup) : ((rotF F r F.length).map (·.id)).Nodup := by
  rw [rotF, List.map_map, List.nodup_iff_pairwise_ne, List.pairwise_map]
  have hp : (List.range F.length).Pairwise (· ≠ ·) := by
    rw [← List.nodup_iff_pairwise_ne]; exact List.nodup_range
  refine List.Pairwise.imp_of_mem (fun {i j} hi hj hij he => hij ?_) hp
  have hi := List.mem_range.1 hi
  have hj := List.mem_range.1 hj
  have h0 : 0 < F.length := by omega
  simp only [Function.comp] at he
  rw [getD_in (Nat.mod_lt _ h0), getD_in (Nat.mod_lt _ h0)] at he
  rw [List.nodup_iff_pairwise_ne, List.pairwise_iff_getElem] at hn
  refine mod_inj hi hj (r := r) ?_
  rcases Nat.lt_trichotomy ((i + r) % F.length) ((j + r) % F.length) with h | h | h
  · exact absurd (by rw [List.getElem_map, List.getElem_map]; exact he) (hn _ _ (by simpa using Nat.mod_lt _ h0) (by simpa using Nat.mod_lt _ h0) h)
  · exact h
  · exact absurd (by rw [List.getElem_map, List.getElem_map]; exact he.symm) (hn _ _ (by simpa using Nat.mod_lt _ h0) (by simpa using Nat.mod_lt _ h0) h)
theorem rotF_all {F : List Flaw} {r : Nat} (hn : (F.map (·.id)).Nodup) : ∀ a, a ∈ F → a ∈ rotF F r F.length := by
  intro a ha
  -- as many different ones as there are
  refine Classical.byContradiction fun hc => ?_
  have h1 := rotF_nodup (r := r) hn
  have key := nodup_len (a :: rotF F r F.length) F (List.nodup_cons.2 ⟨hc, by
    rw [List.nodup_iff_pairwise_ne] at h1 ⊢
    rw [List.pairwise_map] at h1
    exact h1.imp (fun h e => h (by rw [e]))⟩) (fun b hb => by
    rcases List.mem_cons.1 hb with rfl | hb
    · exact ha
    · exact rotF_mem b hb)
  have hl9 : (rotF F r F.length).length = F.length := by simp [rotF]
  rw [List.length_cons, hl9] at key
  exact absurd key (by omega)
end Go.Proofs.Try
