/- How many leaves there are; small facts on blocks of the call's own. -/
import Derived.Test.YtcoplbaopaigcaaGreatDoorDqD
import Derived.Test.YtcoplbaopaigcaaGreatDoorDqF
set_option linter.all false
namespace Go.Proofs.YtcoplbaopaigcaaGreatDoor
open Go.RowKit
theorem gone_gt {lv : Int} : ∀ {gl : List Int} {b : Int}, goneOk lv b gl = true → ∀ x ∈ gl, b < x ∧ x ≤ lv := by
  intro gl
  induction gl with
  | nil => intro b _ x hx; cases hx
  | cons n t ih =>
    intro b h x hx
    simp only [goneOk, Bool.and_eq_true, decide_eq_true_eq] at h
    rcases List.mem_cons.1 hx with rfl | hx
    · exact ⟨h.1.1, h.1.2⟩
    · have := ih h.2 x hx
      omega
def cnt (gl : List Int) (m : Int) : Nat := gl.countP (fun x => decide (x ≤ m))
theorem cnt_succ {lv : Int} : ∀ {gl : List Int} {b : Int}, goneOk lv b gl = true → ∀ m : Int, cnt gl (m + 1) = cnt gl m + if gl.contains (m + 1) = true then 1 else 0 := by
  intro gl
  induction gl with
  | nil => intro b _ m; rfl
  | cons n t ih =>
    intro b h m
    simp only [goneOk, Bool.and_eq_true, decide_eq_true_eq] at h
    have hg := gone_gt h.2
    have h1 := ih h.2 m
    unfold cnt at h1 ⊢
    rw [List.countP_cons, List.countP_cons, h1]
    by_cases hn : n = m + 1
    · have hnt : t.contains (m + 1) = false := by
        rw [← hn]
        simp only [List.contains_eq_mem, decide_eq_false_iff_not]
        intro hm
        have := hg n hm
        omega
      have e1 : decide (n ≤ m + 1) = true := by simpa using (by omega)
      have e2 : decide (n ≤ m) = false := by simpa using (by omega)
      have e3 : (n :: t).contains (m + 1) = true := by simp [hn]
      rw [e1, e2, e3, hnt]
      try simp
    · have e3 : (n :: t).contains (m + 1) = t.contains (m + 1) := by
        simp only [List.contains_cons]
        have : (m + 1 == n) = false := by simp; omega
        rw [this]; simp
      have e1 : decide (n ≤ m + 1) = decide (n ≤ m) := by rw [decide_eq_decide]; omega
      rw [e1, e3]
      exact Nat.add_right_comm _ _ _
theorem cnt_zero {lv : Int} {gl : List Int} (h : goneOk lv 0 gl = true) : cnt gl 0 = 0 := by
  unfold cnt
  rw [List.countP_eq_zero]
  intro x hx
  have := gone_gt h x hx
  simp; omega
theorem cnt_all {lv : Int} {gl : List Int} (h : goneOk lv 0 gl = true) : cnt gl lv = gl.length := by
  unfold cnt
  rw [List.countP_eq_length]
  intro x hx
  have := gone_gt h x hx
  simp; omega
theorem upTo_cnt {lv : Int} {gl : List Int} (h : goneOk lv 0 gl = true) (i : Nat) : ∀ m : Nat, (upTo i gl m).length + cnt gl m = m := by
  intro m
  induction m with
  | zero => rw [upTo_zero]; have := cnt_zero h; simpa using this
  | succ m ih =>
    have hc := cnt_succ h (m : Int)
    rw [upTo_succ, List.length_append]
    rw [show ((m + 1 : Nat) : Int) = (m : Int) + 1 by omega, hc]
    by_cases hg : gl.contains ((m : Int) + 1) = true
    · rw [if_pos hg, if_pos hg]; simp only [List.length_nil]; omega
    · rw [if_neg hg, if_neg hg]; simp only [List.length_cons, List.length_nil]; omega
/-- How many leaves the first k quires have, as the law counts. -/
def sumL (l : List Q) : Nat → Int
  | 0 => 0
  | k + 1 => sumL l k + match l[k]? with
    | some q => q.lv - q.gl.length
    | none => 0
theorem sumL_succ {l : List Q} {k : Nat} (hk : k < l.length) : sumL l (k + 1) = sumL l k + (l[k].lv - l[k].gl.length) := by rw [sumL, List.getElem?_eq_getElem hk]
theorem ok_parts {q : Q} (h : q.ok = true) : sOk q.s = true ∧ q.lv % 2 = 0 ∧ 2 ≤ q.lv ∧ q.lv ≤ 24 ∧ goneOk q.lv 0 q.gl = true := by
  unfold Q.ok qOkB at h
  simp only [Bool.and_eq_true, beq_iff_eq] at h
  obtain ⟨⟨⟨h1, h2⟩, h3⟩, h4⟩ := h
  obtain ⟨h5, h6⟩ := win_iff.1 h3
  refine ⟨h1, ?_, h5, h6, h4⟩
  rw [Int.tmod_eq_emod_of_nonneg (by omega)] at h2
  exact h2
theorem sumL_eq {l : List Q} (h : ∀ q ∈ l, q.ok = true) : ∀ k, k ≤ l.length → sumL l k = (firstL l k).length := by
  intro k
  induction k with
  | zero => intro _; rfl
  | succ k ih =>
    intro hk
    have hq := ok_parts (h l[k] (List.getElem_mem _))
    have hc := upTo_cnt hq.2.2.2.2 k l[k].lv.toNat
    rw [sumL_succ (by omega), firstL_succ (by omega), ih (by omega), List.length_append]
    have ha : cnt l[k].gl (l[k].lv.toNat : Nat) = l[k].gl.length := by
      rw [show ((l[k].lv.toNat : Nat) : Int) = l[k].lv by omega]; exact cnt_all hq.2.2.2.2
    rw [ha] at hc
    omega
theorem err_all {qs : List Q} (h : err qs = 0) : ∀ q ∈ qs, q.ok = true := by
  unfold err at h
  by_cases h40 : 40 < qs.length
  · rw [if_pos h40] at h; exact absurd h (by omega)
  · rw [if_neg h40] at h; exact ok_of_errGo qs [] h
theorem nodup_upTo (i : Nat) (gl : List Int) (m : Nat) : (upTo i gl m).Nodup := by
  induction m with
  | zero => rw [upTo_zero]; exact List.nodup_nil
  | succ m ih =>
    rw [upTo_succ]
    split
    · simpa using ih
    · rw [List.nodup_append]
      refine ⟨ih, by simp, ?_⟩
      intro a ha b hb
      simp only [List.mem_singleton] at hb
      subst hb
      have := (mem_upTo.1 ha).2.2.1
      intro e
      rw [e] at this
      simp only at this
      omega
theorem nodup_firstL (l : List Q) : ∀ k, k ≤ l.length → (firstL l k).Nodup := by
  intro k
  induction k with
  | zero => intro _; exact List.nodup_nil
  | succ k ih =>
    intro hk
    rw [firstL_succ (by omega), List.nodup_append]
    refine ⟨ih (by omega), nodup_upTo _ _ _, ?_⟩
    intro a ha b hb e
    obtain ⟨i, _, hi, h1, _⟩ := (mem_firstL k (by omega)).1 ha
    have h2 := (mem_upTo.1 hb).1
    rw [e, h2] at h1
    omega
theorem nodup_leavesL (l : List Q) : (leavesL l).Nodup := nodup_firstL l _ (Nat.le_refl _)
theorem ixL_get {l : List (Int × Int)} (hn : l.Nodup) {k : Nat} {f : Int × Int} (hf : l[k]? = some f) : ixL f l = k := by
  refine ixL_at hf fun j hj hjk e => ?_
  obtain ⟨hk, he⟩ := List.getElem?_eq_some_iff.1 hf
  have := List.pairwise_iff_getElem.1 hn j k hj hk hjk
  exact this (by rw [e, he])
end Go.Proofs.YtcoplbaopaigcaaGreatDoor
namespace Go.Proofs.YtcoplbaopaigcaaGreatDoor
open Go.RowKit
/-- A block of the call's own: its first two cells. -/
structure Has (w : World) (b : Nat) (x y : Value) : Prop where
  lt : b < w.heap.size
  c0 : w.cell? ⟨b, 0, none⟩ = some x
  c1 : w.cell? ⟨b, 1, none⟩ = some y
theorem Has.below {w w' : World} {b : Nat} {x y : Value} (h : Has w b x y) (hb : Below w.heap.size w w') : Has w' b x y :=
  ⟨Nat.lt_of_lt_of_le h.lt hb.size, (cellB hb h.lt h.c0).1, (cellB hb h.lt h.c1).1⟩
theorem Has.alloc {w : World} {b : Nat} {x y : Value} (h : Has w b x y) (o : Obj) : Has (w.alloc o) b x y := h.below ((Below.refl _ _).alloc (Nat.le_refl _) o)
theorem Has.alls {w : World} {b : Nat} {x y : Value} (h : Has w b x y) : (∀ o, (w.alloc o).cell? ⟨b, 0, none⟩ = some x) ∧ (∀ o, (w.alloc o).cell? ⟨b, 1, none⟩ = some y) := ⟨fun o => (h.alloc o).c0, fun o => (h.alloc o).c1⟩
theorem Has.new (w : World) (t : TypeId) (x y : Value) : Has (w.alloc (.cells #[x, y] t)) w.heap.size x y := by
  have hb : Blk (w.alloc (.cells #[x, y] t)) w.heap.size t #[x, y] := Blk.new _ _ _
  exact ⟨by simp, by rw [hb.cell]; rfl, by rw [hb.cell]; rfl⟩
/-- A block of the call's own: its four cells. -/
structure Has4 (w : World) (b : Nat) (x y z u : Value) : Prop where
  lt : b < w.heap.size
  c0 : w.cell? ⟨b, 0, none⟩ = some x
  c1 : w.cell? ⟨b, 1, none⟩ = some y
  c2 : w.cell? ⟨b, 2, none⟩ = some z
  c3 : w.cell? ⟨b, 3, none⟩ = some u
theorem Has4.below {w w' : World} {b : Nat} {x y z u : Value} (h : Has4 w b x y z u) (hb : Below w.heap.size w w') : Has4 w' b x y z u :=
  ⟨Nat.lt_of_lt_of_le h.lt hb.size, (cellB hb h.lt h.c0).1, (cellB hb h.lt h.c1).1, (cellB hb h.lt h.c2).1, (cellB hb h.lt h.c3).1⟩
theorem Has4.alloc {w : World} {b : Nat} {x y z u : Value} (h : Has4 w b x y z u) (o : Obj) : Has4 (w.alloc o) b x y z u := h.below ((Below.refl _ _).alloc (Nat.le_refl _) o)
theorem Has4.new (w : World) (t : TypeId) (x y z u : Value) : Has4 (w.alloc (.cells #[x, y, z, u] t)) w.heap.size x y z u := by
  have hb : Blk (w.alloc (.cells #[x, y, z, u] t)) w.heap.size t #[x, y, z, u] := Blk.new _ _ _
  exact ⟨by simp, by rw [hb.cell]; rfl, by rw [hb.cell]; rfl, by rw [hb.cell]; rfl, by rw [hb.cell]; rfl⟩
theorem below_next {w wa wb : World} {o : Obj} (h : Below w.heap.size w wa) (hb : Below (wa.alloc o).heap.size (wa.alloc o) wb) : Below w.heap.size w wb :=
  h.trans ((((Below.refl _ _).alloc (Nat.le_refl _) o).trans (hb.mono (by simp))).mono h.size)
theorem below_go {w wa wb : World} (h : Below w.heap.size w wa) (hb : Below wa.heap.size wa wb) : Below w.heap.size w wb := h.trans (hb.mono h.size)
end Go.Proofs.YtcoplbaopaigcaaGreatDoor
