/- Contracts of functions, walked. -/
import Derived.Test.YtgddlpegljkgpaaStSB0
import Derived.Test.YtgddlpegljkgpaaStCo
set_option linter.all false
namespace Go.Proofs.Try
open Go Go.Am Go.RowKit Go.Co
set_option maxRecDepth 100000

/-! Spans joined are in order and apart. -/
theorem insideL_ins (l : List (Int × Int)) (d : Int) : insideL l d = ins l d := rfl
theorem joinS_nil (x : Int × Int) : joinS [] x = [x] := rfl
theorem joinS_one (y x : Int × Int) : joinS [y] x = if y.2 + 1 = x.1 then [(y.1, x.2)] else [y, x] := by simp [joinS]
theorem joinS_two (y z : Int × Int) (t : List (Int × Int)) (x : Int × Int) : joinS (y :: z :: t) x = y :: joinS (z :: t) x := by
  unfold joinS
  have h : (y :: z :: t).getLast? = (z :: t).getLast? := by simp [List.getLast?_cons_cons]
  rw [h]
  cases (z :: t).getLast? with
  | none => rfl
  | some u =>
    simp only
    split <;> simp
theorem joinS_ord (x : Int × Int) (h1 : x.1 ≤ x.2) (h2 : x.2 ≤ 730) : ∀ (acc : List (Int × Int)) {c : Int}, ordS c acc → (∀ d, ins acc d = true → d + 1 ≤ x.1) → c ≤ x.1 → ordS c (joinS acc x)
  | [], c, _, _, h => by rw [joinS_nil]; exact ⟨h, h1, h2, trivial⟩
  | [y], c, ho, hd, h => by
    obtain ⟨g1, g2, g3, g4⟩ := ho
    have := hd y.2 (by rw [ins_cons]; simp [g2])
    rw [joinS_one]
    split
    · exact ⟨g1, by simp only; omega, h2, trivial⟩
    · exact ⟨g1, g2, g3, by omega, h1, h2, trivial⟩
  | y :: z :: t, c, ho, hd, h => by
    obtain ⟨g1, g2, g3, g4⟩ := ho
    have g5 := g4
    obtain ⟨k1, k2, k3, k4⟩ := g5
    have := hd z.2 (by rw [ins_cons, ins_cons]; simp [k2])
    rw [joinS_two]
    exact ⟨g1, g2, g3, joinS_ord x h1 h2 (z :: t) g4 (fun d hdd => hd d (by rw [ins_cons, hdd]; simp)) (by omega)⟩
theorem ordS_le : ∀ (l : List (Int × Int)) {c : Int}, ordS c l → ∀ y, y ∈ l → y.1 ≤ y.2
  | x :: t, c, h, y, hy => by
    rcases List.mem_cons.1 hy with rfl | hy
    · exact h.2.1
    · exact ordS_le t h.2.2.2 y hy
theorem joinS_ins {acc : List (Int × Int)} {x : Int × Int} {c : Int} (ho : ordS c acc) (hx : x.1 ≤ x.2) (d : Int) : ins (joinS acc x) d = (ins acc d || (decide (x.1 ≤ d) && decide (d ≤ x.2))) :=
  (joinS_ok acc x d (ordS_le acc ho) hx).2

def ordW : Int → List (Int × Int) → Prop
  | _, [] => True
  | b, x :: t => b ≤ x.1 ∧ x.1 ≤ x.2 ∧ x.2 ≤ 730 ∧ ordW (x.2 + 1) t
theorem ordW_mono : ∀ (l : List (Int × Int)) {b b' : Int}, b ≤ b' → ordW b' l → ordW b l
  | [], _, _, _, _ => trivial
  | _ :: _, _, _, h, hs => ⟨Int.le_trans h hs.1, hs.2⟩
theorem joinL_ord : ∀ (l acc : List (Int × Int)) {b : Int}, 0 ≤ b → ordS 0 acc → (∀ d, ins acc d = true → d + 1 ≤ b) → ordW b l → ordS 0 (l.foldl joinS acc)
  | [], acc, _, _, h, _, _ => h
  | x :: t, acc, b, hb, h, hd, hw => by
    obtain ⟨g1, g2, g3, g4⟩ := hw
    rw [List.foldl_cons]
    refine joinL_ord t _ (b := x.2 + 1) (by omega) (joinS_ord x g2 g3 acc h (fun d h5 => by have := hd d h5; omega) (by omega)) (fun d h5 => ?_) g4
    rw [joinS_ins h g2, Bool.or_eq_true] at h5
    rcases h5 with h5 | h5
    · have := hd d h5; omega
    · simp only [Bool.and_eq_true, decide_eq_true_eq] at h5; omega
theorem go_ordW (line w : Int) : ∀ (l : List Alt) (b : Int) (c : Has), sorted b l → b ≤ 730 → ordW b (offS (go line b c l) w)
  | [], b, c, _, h => by
    unfold offS
    rw [go]
    by_cases hc : c.offers w = true
    · simp only [List.filter_cons, hc, if_true, List.filter_nil, List.map_cons, List.map_nil]
      exact ⟨Int.le_refl _, h, Int.le_refl _, trivial⟩
    · simp only [List.filter_cons, hc, List.filter_nil]
      exact trivial
  | a :: t, b, c, hs, h => by
    obtain ⟨s1, s2, s3⟩ := hs
    rw [go]
    split
    · exact go_ordW line w t b c (sorted_mono t s1 s3) h
    · split
      · exact go_ordW line w t b c (sorted_mono t s1 s3) h
      · split
        · rename_i hlt
          have ih := go_ordW line w t a.day (c.after a) s3 s2
          unfold offS at ih ⊢
          by_cases hc : c.offers w = true
          · simp only [List.filter_cons, hc, if_true, List.map_cons]
            exact ⟨Int.le_refl _, by simp only; omega, by simp only; omega, ordW_mono _ (by simp only; omega) ih⟩
          · simp only [List.filter_cons, hc]
            exact ordW_mono _ s1 ih
        · exact ordW_mono _ s1 (go_ordW line w t a.day (c.after a) s3 s2)
theorem whenS_ord {s : Sheet} {line w : Int} (hs : sorted 0 s.alts) : ordS 0 (joinL (offS (strs s line) w)) :=
  joinL_ord _ [] (b := 0) (Int.le_refl _) trivial (fun d h => by cases h) (go_ordW line w s.alts 0 _ hs (by omega))
theorem whenS_ins {s : Sheet} {line w d : Int} (hs : sorted 0 s.alts) : ins (joinL (offS (strs s line) w)) d = (decide (0 ≤ d) && (decide (d ≤ 730) && (hasOn s line d).offers w)) := by
  by_cases hd : 0 ≤ d ∧ d ≤ 730
  · obtain ⟨hd0, hd1⟩ := hd
    rw [← insideL_ins, joinL, joinL_ok d _ [] (by simp) ?_, insideL_off, strs, go_any line d w s.alts 0 _ hs hd0 hd1]
    · simp [insideL, hasOn, hd0, hd1]
    · intro y hy
      unfold offS at hy
      obtain ⟨x, hx, rfl⟩ := List.mem_map.1 hy
      have hx2 := (List.mem_filter.1 hx).1
      exact (go_lo line s.alts 0 _ hs (by omega) x hx2).2
  · cases h : ins (joinL (offS (strs s line) w)) d with
    | true => exact absurd (ordS_ins _ (whenS_ord hs) d h) hd
    | false =>
      symm
      rw [Bool.eq_false_iff]
      intro h2
      simp only [Bool.and_eq_true, decide_eq_true_eq] at h2
      exact hd ⟨h2.1, h2.2.1⟩
end Go.Proofs.Try
