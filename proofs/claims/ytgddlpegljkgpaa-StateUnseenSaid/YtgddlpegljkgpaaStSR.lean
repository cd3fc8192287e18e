/- Contracts of functions, walked. -/
import Derived.Test.YtgddlpegljkgpaaChecked
import Derived.Test.YtgddlpegljkgpaaRows
import Derived.Below
import Derived.Carry
import Derived.Deep.Slices
import Derived.Deep.Fields
import Derived.ChangeSame
import Derived.ProofKit
import Derived.OpenShut
import Derived.ShutString
import Derived.ChangeOld
import Derived.Lib.SmallJoins
import Derived.Test.YtgddlpegljkgpaaStTB
import Derived.Test.YtgddlpegljkgpaaStSP
import Derived.Test.YtgddlpegljkgpaaStUH
import Derived.Test.YtgddlpegljkgpaaStS3
import Derived.Test.YtgddlpegljkgpaaStSN
set_option linter.all false
namespace Go.Proofs.Try
open Go Go.Am Go.RowKit Go.Co
set_option maxRecDepth 100000

theorem fitsV_form' (s : Sheet) (c : Copy) (days : List Int) : ∃ n b, fitsV s c days = .tuple #[.int .i64 n, .bool b, .int .i64 (errFits s c days)] ∧ (errFits s c days = 0 → b = true → FitsOk s c days) := by
  unfold fitsV FitsOk
  by_cases h : errFits s c days = 0
  · rw [if_pos h, h]
    cases hf : fitsR s c days with
    | none => exact ⟨0, true, rfl, fun _ _ => ⟨rfl, rfl⟩⟩
    | some i => exact ⟨i, false, rfl, fun _ h => by cases h⟩
  · rw [if_neg h]
    exact ⟨0, false, rfl, fun h1 => absurd h1 h⟩
structure Known (s : Sheet) (c : Copy) (x : Course) (p n : Nat) : Prop where
  ord : x.ord
  p1 : 1 ≤ p
  len : x.open_.length = n
  n1 : 1 ≤ n
  n40 : n ≤ 40
  ext : errExt s c = if x.made p then 0 else 9
  fin : ∀ i d, i < n → x.op i d = true → c.beg ≤ d ∧ d ≤ c.fin
  fin0 : 0 ≤ c.fin ∧ c.fin ≤ 730
theorem known {s : Sheet} {c : Copy} (h : errCopy s c = 0) : Known s c (courseOf s c) c.per.toNat c.words.length := by
  obtain ⟨he0, hlen, hwo, hb0, hb1, hb2, hp1, -⟩ := errCopy_ok h
  have hwl := win_iff.1 (err_ok he0).2.1
  refine ⟨courseOf_ord h, by omega, courseOf_len s c, by omega, by omega, by rw [errExt, if_neg (by simp [h])], fun i d hi ho => ?_, by omega⟩
  have h1 := courseOf_ins h hi (d := d)
  rw [Course.op, h1] at ho
  simp only [Bool.and_eq_true, decide_eq_true_eq] at ho
  omega
theorem fitsOk_fit {s : Sheet} {c : Copy} {days : List Int} : FitsOk s c days ↔ errCopy s c = 0 ∧ (courseOf s c).fit c.per.toNat days := by
  constructor
  · rintro ⟨h1, h2⟩
    obtain ⟨h3, h4⟩ := errFits_ok h1
    exact ⟨h3, by rw [courseOf_len]; exact h4, fitsR_iff.1 h2⟩
  · rintro ⟨h1, h2, h3⟩
    rw [courseOf_len] at h2
    exact ⟨by rw [errFits, if_neg (by simp [h1]), if_pos h2], fitsR_iff.2 h3⟩
theorem fitsOk_V {s : Sheet} {c : Copy} {days : List Int} (h : FitsOk s c days) : fitsV s c days = .tuple #[.int .i64 0, .bool true, .int .i64 0] := fitsV_ok h.1 (fitsR_iff.1 h.2)
theorem errExt_ok {s : Sheet} {c : Copy} (h : errExt s c = 0) : errCopy s c = 0 ∧ (courseOf s c).made c.per.toNat = true := by
  unfold errExt at h
  split at h
  · rename_i h1; exact absurd h h1
  · rename_i h1
    split at h
    · rename_i h2; exact ⟨by simpa using h1, h2⟩
    · cases h
theorem fit_ext {s : Sheet} {c : Copy} {days : List Int} (h : FitsOk s c days) : errExt s c = 0 := by
  obtain ⟨h1, h2⟩ := fitsOk_fit.1 h
  have k := known h1
  rw [k.ext, ((courseOf s c).fit_early k.ord k.p1 h2).1]; rfl
theorem first_fits {s : Sheet} {c : Copy} (h : errExt s c = 0) : FitsOk s c (firstL s c) := by
  obtain ⟨h1, h2⟩ := errExt_ok h
  have k := known h1
  rw [firstL, if_pos h]
  exact fitsOk_fit.2 ⟨h1, (courseOf s c).early_fit k.ord k.p1 h2⟩
theorem last_fits {s : Sheet} {c : Copy} (h : errExt s c = 0) : FitsOk s c (lastL s c) := by
  obtain ⟨h1, h2⟩ := errExt_ok h
  have k := known h1
  rw [lastL, if_pos h]
  exact fitsOk_fit.2 ⟨h1, (courseOf s c).late_fit k.ord k.p1 h2⟩
theorem first_below {s : Sheet} {c : Copy} {days : List Int} (h : FitsOk s c days) : belowL (firstL s c) days days.length = true := by
  obtain ⟨h1, h2⟩ := fitsOk_fit.1 h
  have he := fit_ext h
  have k := known h1
  have h3 := (fitsOk_fit.1 (first_fits he)).2.1
  rw [firstL, if_pos he] at h3 ⊢
  exact belowL_iff.2 ⟨by have := h2.1; omega, Nat.le_refl _, ((courseOf s c).fit_early k.ord k.p1 h2).2⟩
theorem last_below {s : Sheet} {c : Copy} {days : List Int} (h : FitsOk s c days) : belowL days (lastL s c) days.length = true := by
  obtain ⟨h1, h2⟩ := fitsOk_fit.1 h
  have he := fit_ext h
  have k := known h1
  have h3 := (fitsOk_fit.1 (last_fits he)).2.1
  rw [lastL, if_pos he] at h3 ⊢
  exact belowL_iff.2 ⟨Nat.le_refl _, by have := h2.1; omega, (courseOf s c).fit_late k.ord k.p1 h2⟩
end Go.Proofs.Try
namespace Go.Proofs.Try
open Go Go.Am Go.RowKit Go.Co

theorem ends_ok {s : Sheet} {c : Copy} (h : errExt s c = 0) : (∀ i j, i ≤ j → j < s.words.length → (firstL s c).getD i 0 ≤ (firstL s c).getD j 0) ∧ (∀ i j, i ≤ j → j < s.words.length → (lastL s c).getD i 0 ≤ (lastL s c).getD j 0) ∧ ∀ i, i < s.words.length → (firstL s c).getD i 0 ≤ (lastL s c).getD i 0 := by
  obtain ⟨h0, hm, e1, e2, g1, g2, -, -⟩ := ends_n h
  have k := known h0
  have hf := (courseOf s c).early_fit k.ord k.p1 hm
  have hl := (courseOf s c).late_fit k.ord k.p1 hm
  rw [e1] at g1
  rw [e2] at g2
  rw [e1, e2]
  refine ⟨fun i j hij hj => ?_, fun i j hij hj => ?_, fun i hi => ?_⟩
  · have := (courseOf s c).fit_mono k.ord hf (j - i) i (by omega)
    rwa [show i + (j - i) = j by omega] at this
  · have := (courseOf s c).fit_mono k.ord hl (j - i) i (by omega)
    rwa [show i + (j - i) = j by omega] at this
  · exact (courseOf s c).early_late k.ord k.p1 hm i (by rw [← hf.1, g1]; exact hi)
theorem fits_ends {s : Sheet} {c : Copy} {days : List Int} (h : FitsOk s c days) : errExt s c = 0 ∧ days.length = s.words.length ∧ ∀ i, i < s.words.length → (firstL s c).getD i 0 ≤ days.getD i 0 ∧ days.getD i 0 ≤ (lastL s c).getD i 0 := by
  have he := fit_ext h
  obtain ⟨h1, h2⟩ := fitsOk_fit.1 h
  have hl : days.length = s.words.length := by rw [h2.1, courseOf_len, (errCopy_ok h1).2.1]
  have b1 := (belowL_iff.1 (first_below h)).2.2
  have b2 := (belowL_iff.1 (last_below h)).2.2
  exact ⟨he, hl, fun i hi => ⟨b1 i (by omega), b2 i (by omega)⟩⟩
theorem errExts_iff {s : Sheet} {c d : Copy} : errExts s c d = 0 ↔ errExt s c = 0 ∧ errExt s d = 0 := by
  refine ⟨errExts_ok, fun ⟨h1, h2⟩ => ?_⟩
  rw [errExts, if_neg (by simp [(ends_n h1).1]), if_neg (by simp [(ends_n h2).1]), if_neg (by simp [h1]), h2]
theorem sortL_nil {l : List Int} (h : l = []) : sortL l = [] := by rw [h]; rfl

structure OrdersOk (s : Sheet) (c d : Copy) (xs ys : List Int) (p q p2 : Bool) : Prop where
  may : p = true → q = true
  back : p = true → p2 = false
  none : p = true → bSure s d c = []
  fit1 : FitsOk s c xs → FitsOk s d ys → p = true → xs.getD (xs.length - 1) 0 < ys.getD 0 0
  fit2 : FitsOk s c xs → FitsOk s d ys → xs.getD (xs.length - 1) 0 < ys.getD 0 0 → q = true
theorem orders_ok (s : Sheet) (c d : Copy) (xs ys : List Int) : ∃ p q e p2 q2 e2, befV s c d = .tuple #[.bool p, .bool q, .int .i64 e] ∧ befV s d c = .tuple #[.bool p2, .bool q2, .int .i64 e2] ∧ errExts s d c = e2 ∧ ((e = 0 ∧ e2 = 0 ∧ OrdersOk s c d xs ys p q p2) ∨ (e ≠ 0 ∧ e2 ≠ 0 ∧ p = false ∧ q = false)) := by
  by_cases h : errExts s c d = 0
  · have h' : errExts s d c = 0 := by rw [errExts_iff] at h ⊢; exact ⟨h.2, h.1⟩
    obtain ⟨h1, h2⟩ := errExts_iff.1 h
    obtain ⟨f1, l1, fl1⟩ := ends_ok h1
    obtain ⟨f2, l2, fl2⟩ := ends_ok h2
    obtain ⟨g1, -, -, -, -, -, n1, -⟩ := ends_n h1
    refine ⟨_, _, _, _, _, _, by rw [befV, if_pos h], by rw [befV, if_pos h'], h', .inl ⟨rfl, rfl, ?_⟩⟩
    have a1 := f1 0 (s.words.length - 1) (by omega) (by omega)
    have a2 := l1 0 (s.words.length - 1) (by omega) (by omega)
    have a3 := f2 0 (s.words.length - 1) (by omega) (by omega)
    have a4 := l2 0 (s.words.length - 1) (by omega) (by omega)
    have a5 := fl1 0 (by omega)
    have a6 := fl2 0 (by omega)
    have a7 := fl1 (s.words.length - 1) (by omega)
    have a8 := fl2 (s.words.length - 1) (by omega)
    refine ⟨fun hp => ?_, fun hp => ?_, fun hp => ?_, fun hx hy hp => ?_, fun hx hy hp => ?_⟩
    · simp only [decide_eq_true_eq] at hp ⊢; omega
    · simp only [decide_eq_true_eq, decide_eq_false_iff_not] at hp ⊢; omega
    · simp only [decide_eq_true_eq] at hp
      rw [bSure, if_pos h', idsL]
      refine sortL_nil ?_
      rw [List.map_eq_nil_iff, List.filter_eq_nil_iff]
      intro a ha hab
      obtain ⟨e1, e2, e3, -, -⟩ := (err_alts (errCopy_ok g1).1).1 a ha
      have b1 := l2 0 a.to.toNat (by omega) (by omega)
      have b2 := f1 a.to.toNat (s.words.length - 1) (by omega) (by omega)
      simp only [bef, Bool.and_eq_true, Bool.not_eq_true', decide_eq_false_iff_not, decide_eq_true_eq] at hab
      omega
    · simp only [decide_eq_true_eq] at hp
      obtain ⟨-, k1, k2⟩ := fits_ends hx
      obtain ⟨-, k3, k4⟩ := fits_ends hy
      have b1 := k2 (s.words.length - 1) (by omega)
      have b2 := k4 0 (by omega)
      rw [k1]; omega
    · obtain ⟨-, k1, k2⟩ := fits_ends hx
      obtain ⟨-, k3, k4⟩ := fits_ends hy
      have b1 := k2 (s.words.length - 1) (by omega)
      have b2 := k4 0 (by omega)
      rw [k1] at hp
      simp only [decide_eq_true_eq]; omega
  · have h' : ¬ errExts s d c = 0 := by rw [errExts_iff] at h ⊢; exact fun h9 => h ⟨h9.2, h9.1⟩
    exact ⟨_, _, _, _, _, _, by rw [befV, if_neg h], by rw [befV, if_neg h'], rfl, .inr ⟨h, h', rfl, rfl⟩⟩
end Go.Proofs.Try
namespace Go.Proofs.Try
open Go Go.Am Go.RowKit Go.Co

theorem idsL_mem {s : Sheet} {acc : Alt → Bool} {i : Int} : i ∈ idsL s acc ↔ ∃ a, a ∈ s.alts ∧ acc a = true ∧ a.id = i := by
  rw [idsL, sortL_mem, List.mem_map]
  constructor
  · rintro ⟨a, h1, h2⟩
    rw [List.mem_filter] at h1
    exact ⟨a, h1.1, h1.2, h2⟩
  · rintro ⟨a, h1, h2, h3⟩
    exact ⟨a, List.mem_filter.2 ⟨h1, h2⟩, h3⟩
theorem alts_id {s : Sheet} (h : err s = 0) {a b : Alt} (ha : a ∈ s.alts) (hb : b ∈ s.alts) (hi : a.id = b.id) : a = b := by
  have hn := (err_alts h).2
  have key : ∀ (l : List Alt), (l.map Alt.id).Nodup → a ∈ l → b ∈ l → a = b := by
    intro l
    induction l with
    | nil => intro _ h; cases h
    | cons x t ih =>
      intro hd h1 h2
      rw [List.map_cons, List.nodup_cons] at hd
      rcases List.mem_cons.1 h1 with rfl | h1'
      · rcases List.mem_cons.1 h2 with rfl | h2'
        · rfl
        · exact absurd (List.mem_map.2 ⟨b, h2', hi.symm⟩) hd.1
      · rcases List.mem_cons.1 h2 with rfl | h2'
        · exact absurd (List.mem_map.2 ⟨a, h1', hi⟩) hd.1
        · exact ih hd.2 h1' h2'
  exact key _ hn ha hb
theorem idsL_of {s : Sheet} (h : err s = 0) {acc : Alt → Bool} {a : Alt} (ha : a ∈ s.alts) : a.id ∈ idsL s acc ↔ acc a = true := by
  rw [idsL_mem]
  constructor
  · rintro ⟨b, h1, h2, h3⟩
    rw [alts_id h ha h1 h3.symm]; exact h2
  · exact fun h1 => ⟨a, ha, h1, rfl⟩
structure FollowOk (s : Sheet) (c d : Copy) (a : Alt) (k : Nat) : Prop where
  to : a.to = k
  lt : k < s.words.length
  days : (lastL s c).getD k 0 < (firstL s d).getD k 0
  may : a.id ∈ bMay s c d
  before : a.id ∈ sureL s d
  own : ¬ a.id ∈ sureL s c
  back : ∀ b, b ∈ s.alts → b.to = a.to → ¬ b.id ∈ bSure s d c
theorem follow_ok {s : Sheet} {c d : Copy} (h : errExts s c d = 0) {a : Alt} (ha : a ∈ s.alts) (hs : a.id ∈ bSure s c d) : ∃ k, FollowOk s c d a k := by
  have h' : errExts s d c = 0 := by rw [errExts_iff] at h ⊢; exact ⟨h.2, h.1⟩
  obtain ⟨h1, h2⟩ := errExts_iff.1 h
  obtain ⟨-, -, fl1⟩ := ends_ok h1
  obtain ⟨-, -, fl2⟩ := ends_ok h2
  obtain ⟨g1, -⟩ := ends_n h1
  have he := (errCopy_ok g1).1
  obtain ⟨t1, t2, t3, -, -⟩ := (err_alts he).1 a ha
  rw [bSure, if_pos h, idsL_of he ha] at hs
  simp only [bef, Bool.and_eq_true, Bool.not_eq_true', decide_eq_false_iff_not, decide_eq_true_eq] at hs
  have b1 := fl1 a.to.toNat (by omega)
  have b2 := fl2 a.to.toNat (by omega)
  refine ⟨a.to.toNat, by omega, by omega, by omega, ?_, ?_, ?_, fun b hb hbt hbs => ?_⟩
  · rw [bMay, if_pos h, idsL_of he ha]
    simp only [bef, Bool.and_eq_true, Bool.not_eq_true', decide_eq_false_iff_not, decide_eq_true_eq]; omega
  · rw [sureL, if_pos h2, idsL_of he ha]
    simp only [bef, decide_eq_true_eq]; omega
  · rw [sureL, if_pos h1, idsL_of he ha]
    simp only [bef, decide_eq_true_eq]; omega
  · rw [bSure, if_pos h', idsL_of he hb] at hbs
    simp only [bef, Bool.and_eq_true, Bool.not_eq_true', decide_eq_false_iff_not, decide_eq_true_eq, hbt] at hbs
    omega
end Go.Proofs.Try
namespace Go.Proofs.Try
open Go Go.Am Go.RowKit Go.Co

theorem errGo_filter (n : Int) (p : Alt → Bool) : ∀ (l : List Alt) (d d' : Int) (seen seen' : List Int), errGo n d seen l = 0 → d' ≤ d → (∀ i, i ∈ seen' → i ∈ seen) → errGo n d' seen' (l.filter p) = 0
  | [], _, _, _, _, _, _, _ => rfl
  | a :: t, d, d', seen, seen', h, hd, hs => by
    rw [errGo] at h
    split at h
    · cases h
    · rename_i h1
      split at h
      · cases h
      · rename_i h2
        have hr : a.right n = true := by
          cases hx : a.right n with
          | true => rfl
          | false => exact absurd (.inl hx) h1
        have hda : d ≤ a.day := by
          rcases Int.lt_or_le a.day d with hx | hx
          · exact absurd (.inr hx) h1
          · exact hx
        by_cases hp : p a = true
        · rw [List.filter_cons_of_pos hp, errGo, if_neg (by simp [hr]; omega), if_neg (fun h9 => h2 (hs _ h9))]
          exact errGo_filter n p t _ _ _ _ h (Int.le_refl _) (fun i hi => by
            rcases List.mem_append.1 hi with hi | hi
            · exact List.mem_append.2 (.inl (hs i hi))
            · exact List.mem_append.2 (.inr hi))
        · rw [List.filter_cons_of_neg hp]
          exact errGo_filter n p t _ _ _ _ h (by omega) (fun i hi => List.mem_append.2 (.inl (hs i hi)))
theorem err_less {s : Sheet} (h : err s = 0) (ids : List Int) : err (lessS s ids) = 0 := by
  unfold err at h ⊢
  split at h
  · cases h
  · rename_i h1
    split at h
    · cases h
    · rename_i h2
      rw [if_neg (show ¬ (win 1 40 ((lessS s ids).words.length : Int) = false ∨ wordsOk 1 (lessS s ids).words = false) from h1), if_neg (show ¬ 40 < (lessS s ids).alts.length by have := List.length_filter_le (fun a : Alt => !decide (a.id ∈ ids)) s.alts; show ¬ 40 < (s.alts.filter _).length; omega)]
      exact errGo_filter _ _ _ _ _ _ _ h (Int.le_refl _) (fun _ h => h)
theorem errCopy_less {s : Sheet} {c : Copy} (h : errCopy s c = 0) (ids : List Int) : errCopy (lessS s ids) c = 0 := by
  have he := err_less (errCopy_ok h).1 ids
  have h0 := (errCopy_ok h).1
  rw [errCopy, if_neg (by simp [h0])] at h
  rw [errCopy, if_neg (by simp [he])]
  exact h
theorem atDay_filter (line d : Int) (p : Alt → Bool) : ∀ (l : List Alt) (c : Has), (∀ a, a ∈ l → p a = false → ¬ (win a.frm a.to line = true ∧ a.day ≤ d)) → atDay line d c (l.filter p) = atDay line d c l
  | [], _, _ => rfl
  | a :: t, c, h => by
    have ht := fun c => atDay_filter line d p t c (fun b hb => h b (List.mem_cons_of_mem _ hb))
    cases hp : p a with
    | true => rw [List.filter_cons_of_pos hp, atDay, atDay]; split <;> exact ht _
    | false =>
      rw [List.filter_cons_of_neg (by simp [hp]), atDay, if_neg (h a (List.mem_cons_self) hp)]
      exact ht c
theorem hasOn_less {s : Sheet} {ids : List Int} {line d : Int} (h : ∀ a, a ∈ s.alts → a.id ∈ ids → ¬ (win a.frm a.to line = true ∧ a.day ≤ d)) : hasOn (lessS s ids) line d = hasOn s line d := by
  rw [hasOn, hasOn]
  exact atDay_filter line d _ s.alts _ (fun a ha hp => h a ha (by simpa using hp))
theorem op_iff {s : Sheet} {c : Copy} (h : errCopy s c = 0) {i : Nat} (hi : i < c.words.length) (d : Int) : (courseOf s c).op i d = true ↔ (c.beg ≤ d ∧ d ≤ c.fin) ∧ (hasOn s i d).offers (c.words.getD i 0) = true := by
  rw [Course.op, courseOf_ins h hi]; simp
theorem course_late {s : Sheet} {c : Copy} {ids : List Int} (h : errCopy s c = 0) (hl : ∀ a, a ∈ s.alts → a.id ∈ ids → c.fin < a.day) : courseOf (lessS s ids) c = courseOf s c := by
  have h' := errCopy_less h ids
  have hat : ∀ i, i < c.words.length → rowOf (lessS s ids) c i = rowOf s c i := fun i hi => by
    have o1 := courseOf_ord h' i
    have o2 := courseOf_ord h i
    rw [courseOf_at _ _ hi] at o1 o2
    refine ordS_eq _ _ o1 o2 (fun d => ?_)
    have g1 := courseOf_ins h' hi d
    have g2 := courseOf_ins h hi d
    rw [courseOf_at _ _ hi] at g1 g2
    rw [g1, g2]
    by_cases hd : d ≤ c.fin
    · rw [hasOn_less (fun a ha hi9 h9 => by have := hl a ha hi9; omega)]
    · simp [hd]
  unfold courseOf
  congr 1
  exact List.map_congr_left (fun i hi => hat i (List.mem_range.1 hi))
theorem late_same {s : Sheet} {c : Copy} {ids : List Int} (h : errExt s c = 0) (hl : ∀ a, a ∈ s.alts → a.id ∈ ids → c.fin < a.day) : errExt (lessS s ids) c = 0 ∧ firstL (lessS s ids) c = firstL s c ∧ lastL (lessS s ids) c = lastL s c := by
  obtain ⟨h0, hm, e1, e2, -⟩ := ends_n h
  have hc := course_late h0 hl
  have h' := errCopy_less h0 ids
  have he : errExt (lessS s ids) c = 0 := by rw [errExt, if_neg (by simp [h']), hc, hm]; rfl
  exact ⟨he, by rw [firstL, if_pos he, hc, e1], by rw [lastL, if_pos he, hc, e2]⟩
theorem unseen_same {s : Sheet} {c : Copy} {a : Alt} (h : errExt s c = 0) (ha : a ∈ s.alts) (hn : ¬ a.id ∈ maybeL s c) : errExt (lessS s [a.id]) c = 0 ∧ firstL (lessS s [a.id]) c = firstL s c := by
  obtain ⟨h0, hm, e1, e2, g1, g2, -⟩ := ends_n h
  have he0 := (errCopy_ok h0).1
  have hlen := (errCopy_ok h0).2.1
  obtain ⟨m1, m2, m3⟩ := ends_ok h
  rw [maybeL, if_pos h, idsL_of he0 ha] at hn
  have hday : (lastL s c).getD a.to.toNat 0 < a.day := by simp only [bef, decide_eq_true_eq] at hn; omega
  obtain ⟨t1, t2, t3, -, -⟩ := (err_alts he0).1 a ha
  have h' := errCopy_less h0 [a.id]
  have k := known h0
  have k' := known h'
  have hop : ∀ i d, i < c.words.length → d ≤ (lastL s c).getD i 0 → (courseOf (lessS s [a.id]) c).op i d = (courseOf s c).op i d := fun i d hi hd => by
    rw [Bool.eq_iff_iff, op_iff h' hi, op_iff h0 hi]
    rw [hasOn_less (fun b hb hbi hbw => by
      have hba : b = a := alts_id he0 hb ha (by simpa using hbi)
      subst hba
      have hw := win_iff.1 hbw.1
      have := m2 i b.to.toNat (by omega) (by omega)
      omega)]
  have hF := (courseOf s c).early_fit k.ord k.p1 hm
  have hlF : (firstL s c).length = c.words.length := by rw [g1, hlen]
  rw [e1] at hlF
  have hfit : (courseOf (lessS s [a.id]) c).fit c.per.toNat ((courseOf s c).early c.per.toNat 0) := by
    refine ⟨by rw [courseOf_len]; exact hlF, fun i hi => ?_⟩
    have := hF.2 i hi
    refine ⟨?_, this.2⟩
    rw [hop i _ (by omega) (by have := m3 i (by omega); rw [e1] at this; exact this)]
    exact this.1
  obtain ⟨hm', hle⟩ := (courseOf (lessS s [a.id]) c).fit_early k'.ord k'.p1 hfit
  have hE := (courseOf (lessS s [a.id]) c).early_fit k'.ord k'.p1 hm'
  have hlE : ((courseOf (lessS s [a.id]) c).early c.per.toNat 0).length = c.words.length := by rw [hE.1, courseOf_len]
  have hfit2 : (courseOf s c).fit c.per.toNat ((courseOf (lessS s [a.id]) c).early c.per.toNat 0) := by
    refine ⟨by rw [courseOf_len]; exact hlE, fun i hi => ?_⟩
    have h5 := hE.2 i hi
    refine ⟨?_, h5.2⟩
    rw [← hop i _ (by omega) (by
      have h6 := hle i (by omega)
      have h7 := m3 i (by omega)
      rw [e1] at h7; omega)]
    exact h5.1
  have hge := ((courseOf s c).fit_early k.ord k.p1 hfit2).2
  have hex : errExt (lessS s [a.id]) c = 0 := by rw [errExt, if_neg (by simp [h']), hm']; rfl
  refine ⟨hex, ?_⟩
  rw [firstL, if_pos hex, e1]
  refine List.ext_getElem (by rw [hlE, hlF]) fun i h1 h2 => ?_
  have a1 := hle i (by omega)
  have a2 := hge i (by omega)
  have e3 : ((courseOf s c).early c.per.toNat 0).getD i 0 = ((courseOf s c).early c.per.toNat 0)[i] := by simp [List.getD_eq_getElem?_getD, h2]
  have e4 : ((courseOf (lessS s [a.id]) c).early c.per.toNat 0).getD i 0 = ((courseOf (lessS s [a.id]) c).early c.per.toNat 0)[i] := by simp [List.getD_eq_getElem?_getD, h1]
  rw [e3, e4] at a1
  rw [e3, e4] at a2
  omega
end Go.Proofs.Try
namespace Go.Proofs.Try
open Go Go.Am Go.RowKit
set_option maxRecDepth 100000

section
variable {H : AHeap} {ev : Operand → Value} {dst : Option Tmp} {ty t' : TypeId} {src : String} {af : Array Edge} {g : Option (Nat × Bool)} {x y : Operand}
theorem eqlF4 (x y : Operand) (a b : Bool) : pureOf Try.prog (do eqGuard .eql 4 x y (.bool a) (.bool b); binOp .eql 4 (.bool a) (.bool b)) = some (.bool (a == b)) := by
  rw [pureOf_bind, show pureOf Try.prog (eqGuard .eql 4 x y (.bool a) (.bool b)) = some () by kernel_rfl]
  dsimp only [Option.bind]
  rw [show binOp .eql 4 (.bool a) (.bool b) = (do pure (.bool (← Op.equal 4 (.bool a) (.bool b)))) from rfl]
  rw [pureOf_bind, show Op.equal 4 (.bool a) (.bool b) = Op.equalIn (9999 + 1) 4 (.bool a) (.bool b) from rfl, pEq4]
  rfl
theorem eqlB_k {kp : Value → AHeap → Option Prop} {a b : Bool} (hx : ev x = .bool a) (hy : ev y = .bool b) (h : Holds (kp (.bool (a == b)) H)) : Holds (aPlain Try.prog ⟨dst, .binOp .eql 4 x y t', ty, src, af, g⟩ ev H kp) := by
  have hr : pureOf Try.prog (execOp ev ⟨dst, .binOp .eql 4 x y t', ty, src, af, g⟩) = some (.value (.bool (a == b))) := by
    have h0 : execOp ev ⟨dst, .binOp .eql 4 x y t', ty, src, af, g⟩ = (do pure (.value (← (do eqGuard .eql 4 x y (ev x) (ev y); binOp .eql 4 (ev x) (ev y))))) := rfl
    rw [h0, hx, hy, pureOf_bind, eqlF4]; rfl
  rw [plain_of rfl, hr]
  have ho : (Op.binOp .eql 4 x y t').operands.toList.all (fun x => plainV 6 (ev x)) = true := by
    show (#[x, y].toList.all fun x => plainV 6 (ev x)) = _
    simp [hx, hy]; exact ⟨rfl, rfl⟩
  rw [if_pos ho]; exact h
@[go_sem] theorem aBin_boolE {β : Type} {kk : K β} {other : Unit → Option β} {t : TypeId} {a b : Bool} : aBin Try.prog .eql t (.bool a) (.bool b) H kk other = other () := by
  have h : nilEq Try.prog t (.bool a) (.bool b) = none := by
    unfold nilEq
    split <;> simp_all
  simp only [aBin, aEq, h]
end
end Go.Proofs.Try
namespace Go.Proofs.Try
open Go Go.Am Go.RowKit Go.Co

theorem few_alts {s : Sheet} (hf : fewB s = true) (h : err s = 0) : s.alts.length ≤ 12 := by
  have := (err_ok h).2.2.2
  simp only [fewB, Bool.and_eq_true, Bool.or_eq_true, decide_eq_true_eq] at hf
  omega
theorem fewX {s : Sheet} {c d : Copy} (hf : fewB s = true) (h : errExts s c d = 0) : s.alts.length ≤ 12 := few_alts hf (errCopy_ok (ends_n (errExts_ok h).1).1).1
theorem fewY {s : Sheet} {c : Copy} (hf : fewB s = true) (h : errExt s c = 0) : s.alts.length ≤ 12 := few_alts hf (errCopy_ok (ends_n h).1).1
theorem cell_of {H : AHeap} {b n : Nat} {l : List Value} {u : Value} {j : Nat} (h : cellsAt H b 0 n = some l) (hl : l[j]? = some u) : cellAt H b j = some u := by
  unfold cellsAt at h
  unfold cellAt
  cases hg : H.get b with
  | row c e =>
    rw [hg] at h
    simp only [Nat.zero_add, List.drop_zero] at h
    split at h
    · injection h with h; subst h
      rw [List.getElem?_take] at hl
      split at hl
      · exact hl
      · cases hl
    · cases h
  | ext c e =>
    rw [hg] at h
    simp only [Nat.zero_add, List.drop_zero] at h
    split at h
    · injection h with h; subst h
      rw [List.getElem?_take] at hl
      split at hl
      · exact hl
      · cases hl
    · cases h
  | _ => rw [hg] at h; cases h
end Go.Proofs.Try
namespace Go.Proofs.Try
open Go Go.Am Go.RowKit Go.Co
set_option maxRecDepth 100000

theorem withoutFn_e {loops : List (Nat × LInfo)} {H : AHeap} {sv iv : Value} {s : Sheet} {ids : List Int} (hs : SheetV H sv s) (hi : Ints H iv ids) (he : err s = 0) (hi2 : ids.length ≤ 1000) : CallS Try.prog loops 39 [sv, iv] H fun r H' => (∃ wa wn aa an, r = .tuple #[.agg #[.slice wa wn wn, .slice aa an an], .int .i64 0] ∧ SheetV H' (.agg #[.slice wa wn wn, .slice aa an an]) (lessS s ids)) ∧ Ext H H' := by
  have HS := Lib.hid hs
  have HII := Lib.hid hi
  obtain ⟨wv, av, rfl, hw, ha⟩ := hs
  obtain ⟨hwl, wa, wc, rfl⟩ := hw.slice
  obtain ⟨hal, aa, ac, rfl⟩ := ha.slice
  obtain ⟨hil, ia, ic, rfl⟩ := hi.slice
  clear hw ha hi
  have hok := err_ok he
  have hww := win_iff.1 hok.2.1
  have HWO := Lib.hid (fun (loops : List (Nat × LInfo)) (H' : AHeap) (hx : Ext H H') => without_e (loops := loops) (HS.out.ext hx) (HII.out.ext hx) (by omega) (by omega) (by have := hok.2.2.2; omega) hi2)
  have HCK := Lib.hid (fun (loops : List (Nat × LInfo)) (H' : AHeap) (hx : Ext H H') => check_s (loops := loops) (HS.out.ext hx))
  rw [he] at HCK
  clear hok hww he
  have HX1 : Hid (Ext H ((H.push (.row [Value.slice wa s.words.length wc, Value.slice aa s.alts.length ac] 25)).push (.row [Value.slice none 0 0, Value.slice none 0 0] 25))) := Lib.hid (((Ext.refl _).push' _).push' _)
  refine CallS.enter' Try.func39 rfl Try.ntmps39 (by simp) fun f hd hf => ?_
  have f0 := hf 0
  have f1 := hf 1
  simp at f0 f1
  clear hf
  repeat' (first|(with_reducible first|refine zA ?_|refine zB fun K hK=>?_|refine zC fun K2 hK2=>?_|refine zD ?_|refine zE ?_|refine zF ?_|refine zG ?_|refine zH ?_|refine zI ?_|refine zM ?_|refine zN ?_|refine zO ?_|refine zP ?_|refine zQ ?_|refine zR ?_)|((with_reducible refine zU (hK _ _ ?_));clear hK K)|((with_reducible refine zV ?_ ?_ fun K1 K3 d hdst h1 h3=>?_);rfl;exact yB rfl;cases hdst;go_simp)|((with_reducible refine zW fun K1 K3 h1 h3=>?_);go_simp)|((first|refine h1 ?_|refine h3 ?_);clear h1 h3 K1 K3)|((first|refine zX (fun hb=>h1 ?_) (fun hb=>h3 ?_)|refine zX (fun hb=>h3 ?_) (fun hb=>h1 ?_))<;>(clear h1 h3 K1 K3;(try have hb2:=yC hb);(try have hb2:=yD hb);(try have hb2:=yE hb);(try have hb2:=yF hb);(try have hb2:=yG hb)))|(refine fun (K2:_→AHeap→Prop) hK2=>?_)|((with_reducible refine zY ?_ ?_);decide)|((with_reducible first|refine zZ ?_ (fun K hK=>?_)|refine yA ?_ (fun K hK=>?_));(focus go_simp;done);go_simp;refine hK _ _ ?_;clear hK K)|(go_simp;(try go_bits);(try first |((with_reducible show CallS _ _ _ _ _ _);first|(refine CallS.mono (HCK.out _ _ HX1.out) ?_; rintro _ _ ⟨rfl, h9⟩; rw [h9]; clear h9)|(refine CallS.mono (HWO.out _ _ HX1.out) ?_; rintro _ H2 ⟨hv, ⟨wa2, wn2, aa2, an2, rfl⟩, hx⟩; (have HV2 := Lib.hid hv); (have HX2 := Lib.hid (HX1.out.trans hx)); (have hg2 : H2.get (H.n + 1) = .row [Value.slice none 0 0, Value.slice none 0 0] 25 := by rw [hx.get _ (by simp only [AHeap.n_push]; omega), get_at (by simp only [AHeap.n_push])]); (have hn2 : H.n + 1 < H2.n := by have := hx.n; simp only [AHeap.n_push] at this; omega); clear hv hx)));refine hK2 _ _ ?_;clear hK2 K2))
  refine ⟨⟨_, _, _, _, rfl, HV2.out _ (by rw [AHeap.n_upd]; omega) fun i h1 h2 => ?_⟩, HX2.out.upd (by omega) _⟩
  simp only [AHeap.n_push] at h1
  rw [AHeap.get_upd_ne (by omega)]
section
variable {P : Program} {cx : Cx} {H : AHeap} {f : AF} {dst : Option Tmp} {ty : TypeId} {src : String} {af : Array Edge} {g : Option (Nat × Bool)}
theorem rem_v {K : Value → AHeap → Prop} {t t' : TypeId} {x y : Operand} {a b : Int} (hx : f.eval x = .int .i64 a) (hy : f.eval y = .int .i64 b) (ha : 0 ≤ a) (hb : 1 ≤ b) (h : K (.int .i64 (a % b)) H) : HoldsV (aPlain P ⟨dst, .binOp .rem t x y t', ty, src, af, g⟩ (evR (opReads ⟨dst, .binOp .rem t x y t', ty, src, af, g⟩) f) H pairK) K := by
  rw [aPlain_rem (a := a) (b := b) (by rw [evR_self (by simp [Op.operands])]; exact hx) (by rw [evR_self (by simp [Op.operands])]; exact hy) ha hb]; exact h
theorem convT5 {x : Operand} {a : Int} (ev : Operand → Value) (hx : ev x = .int .u8 a) : pureOf Try.prog (execOp ev ⟨dst, .convert 5 3 x, ty, src, af, g⟩) = some (.value (.int .i64 (IntKind.i64.wrap a))) := by
  simp only [execOp, hx]
  kernel_rfl
theorem conv_v {K : Value → AHeap → Prop} {x : Operand} {a : Int} (hx : f.eval x = .int .u8 a) (ha : 0 ≤ a ∧ a ≤ 255) (h : K (.int .i64 a) H) : HoldsV (valA Try.prog ⟨dst, .convert 5 3 x, ty, src, af, g⟩ (Am.decode (Op.convert 5 3 x)) (evR (opReads ⟨dst, .convert 5 3 x, ty, src, af, g⟩) f) H pairK) K := by
  show HoldsV (aPlain Try.prog ⟨dst, .convert 5 3 x, ty, src, af, g⟩ (evR (opReads ⟨dst, .convert 5 3 x, ty, src, af, g⟩) f) H pairK) K
  rw [aPlain_conv (a := a) (q := .u8) (fun ev hx => convT5 ev hx) (by rw [evR_self (by simp [Op.operands])]; exact hx) (by omega)]; exact h
end
theorem u8_inU {l : Int} (h : (Lit.int .u8 l).wf = true) : 0 ≤ l ∧ l ≤ 255 := by
  simp [Lit.wf, IntKind.min, IntKind.max, IntKind.bits, IntKind.signed] at h
  omega
def lateIds (s : Sheet) (c : Copy) (k : Nat) : List Int := ((s.alts.take k).filter fun a => decide (c.fin < a.day)).map Alt.id
theorem lateIds_len (s : Sheet) (c : Copy) (k : Nat) : (lateIds s c k).length ≤ k := by
  rw [lateIds, List.length_map]
  have h1 := List.length_filter_le (fun a : Alt => decide (c.fin < a.day)) (s.alts.take k)
  rw [List.length_take] at h1
  omega
theorem lateIds_succ {s : Sheet} {c : Copy} {k : Nat} (h : k < s.alts.length) : lateIds s c (k + 1) = lateIds s c k ++ if c.fin < s.alts[k].day then [s.alts[k].id] else [] := by
  rw [lateIds, List.take_succ_eq_append_getElem h, List.filter_append, List.map_append, lateIds]
  by_cases hc : c.fin < s.alts[k].day <;> simp [List.filter, hc]
theorem lateIds_ok {s : Sheet} {c : Copy} (he : err s = 0) : ∀ a, a ∈ s.alts → a.id ∈ lateIds s c s.alts.length → c.fin < a.day := by
  intro a ha hm
  rw [lateIds, List.take_length, List.mem_map] at hm
  obtain ⟨b, hb, hbi⟩ := hm
  rw [List.mem_filter] at hb
  rw [alts_id he ha hb.1 hbi.symm]
  simpa using hb.2

set_option maxHeartbeats 16000000 in
theorem law15 {H : AHeap} {sv cv : Value} {s : Sheet} {c : Copy} {n8 : Int} (hv : SheetV H sv s) (hc : CopyV H cv c) (h8 : (Lit.int .u8 n8).wf = true) : CallS Try.prog [] 15 [sv, cv, .int .u8 n8] H fun r _ => r = .bool true := by
  have HV := Lib.hid hv
  have HC := Lib.hid hc
  obtain ⟨wv, av, rfl, hw, ha⟩ := hv
  obtain ⟨hwl, wa, wc, rfl⟩ := hw.slice
  obtain ⟨hal, aa, ac, rfl⟩ := ha.slice
  have HA := Lib.hid ha
  obtain ⟨cv, rfl, hcw⟩ := hc
  obtain ⟨hcl, ca, cc, rfl⟩ := hcw.slice
  clear hw ha hcw
  have hn8 := u8_inU h8
  clear h8
  have HF1 := Lib.hid (fun (loops : List (Nat × LInfo)) (H' : AHeap) (hx : Ext H H') => first_e (loops := loops) (HV.out.ext hx) (HC.out.ext hx))
  have HL1 := Lib.hid (fun (loops : List (Nat × LInfo)) (H' : AHeap) (hx : Ext H H') => last_e (loops := loops) (HV.out.ext hx) (HC.out.ext hx))
  have HS1 := Lib.hid (fun (loops : List (Nat × LInfo)) (H' : AHeap) (hx : Ext H H') (hf : fewB s = true) => seen_e (loops := loops) (HV.out.ext hx) (HC.out.ext hx) (fun h => fewY hf h))
  have HX1 : Hid (Ext H ((H.push (.row [Value.slice wa s.words.length wc, Value.slice aa s.alts.length ac] 25)).push (.row [Value.slice ca c.words.length cc, .int .i64 c.beg, .int .i64 c.fin, .int .i64 c.per] 27))) := Lib.hid (((Ext.refl _).push' _).push' _)
  have HCELLS : Hid (∀ H' : AHeap, Ext ((H.push (.row [Value.slice wa s.words.length wc, Value.slice aa s.alts.length ac] 25)).push (.row [Value.slice ca c.words.length cc, .int .i64 c.beg, .int .i64 c.fin, .int .i64 c.per] 27)) H' → cellsAt H' H.n 0 2 = some [Value.slice wa s.words.length wc, Value.slice aa s.alts.length ac] ∧ cellsAt H' (H.n + 1) 0 4 = some [Value.slice ca c.words.length cc, .int .i64 c.beg, .int .i64 c.fin, .int .i64 c.per] ∧ H.n + 1 < H'.n ∧ H.n < H'.n ∧ cellAt H' H.n 1 = some (Value.slice aa s.alts.length ac) ∧ cellAt H' (H.n + 1) 2 = some (.int .i64 c.fin)) := Lib.hid (fun H' hx => by
    refine ⟨?_, ?_, ?_, ?_, ?_, ?_⟩
    · rw [hx.cellsAt (by simp only [AHeap.n_push]; omega), cellsAt_push, if_neg (by simp only [AHeap.n_push]; omega), cellsAt_push, if_pos rfl]; rfl
    · rw [hx.cellsAt (by simp only [AHeap.n_push]; omega), cellsAt_push, if_pos (by simp only [AHeap.n_push])]; rfl
    · have := hx.n; simp only [AHeap.n_push] at this; omega
    · have := hx.n; simp only [AHeap.n_push] at this; omega
    · rw [hx.cellAt (by simp only [AHeap.n_push]; omega), cellAt_push, if_neg (by simp only [AHeap.n_push]; omega), cellAt_push, if_pos rfl]; rfl
    · rw [hx.cellAt (by simp only [AHeap.n_push]; omega), cellAt_push, if_pos (by simp only [AHeap.n_push])]; rfl)
  by_cases her : errExt s c = 0
  · have herr := (errCopy_ok (ends_n her).1).1
    have h40 := (err_ok herr).2.2.2
    have HW1 := Lib.hid (fun (loops : List (Nat × LInfo)) (H' : AHeap) (iv : Value) (ids : List Int) (hx : Ext H H') (hi : Ints H' iv ids) (hl : ids.length ≤ 1000) => withoutFn_e (loops := loops) (HV.out.ext hx) hi herr hl)
    have HUS := Lib.hid (fun (a : Alt) (ha : a ∈ s.alts) (hn : ¬ a.id ∈ maybeL s c) => unseen_same her ha hn)
    have HLS := Lib.hid (late_same her (lateIds_ok (s := s) (c := c) herr))
    rw [her] at HF1 HL1 HS1
    generalize hfw : fewB s = fw at HS1
    have HFW := Lib.hid hfw
    clear hfw herr her
    generalize hq1 : firstL s c = F1 at HF1 HUS HLS
    generalize hq2 : lastL s c = L1 at HL1 HLS
    generalize maybeL s c = M1 at HS1 HUS
    generalize sureL s c = M0 at HS1
    clear hq1 hq2
    refine CallS.enter' Try.func15 rfl Try.ntmps15 (by simp) fun f hd hf => ?_
    have f0 := hf 0
    have f1 := hf 1
    have f2 := hf 2
    simp at f0 f1 f2
    clear hf
    by_cases hz : s.alts.length = 0
    · have hzi : ((s.alts.length : Int) == 0) = true := by simp [hz]
      clear hz
      repeat' (first|(with_reducible first|refine zA ?_|refine zB fun K hK=>?_|refine zC fun K2 hK2=>?_|refine zD ?_|refine zE ?_|refine zF ?_|refine zG ?_|refine zH ?_|refine zI ?_|refine zM ?_|refine zN ?_|refine zO ?_|refine zP ?_|refine zQ ?_|refine zR ?_)|((with_reducible refine zU (hK _ _ ?_));clear hK K)|((with_reducible refine zV ?_ ?_ fun K1 K3 d hdst h1 h3=>?_);rfl;exact yB rfl;cases hdst;go_simp)|((with_reducible refine zW fun K1 K3 h1 h3=>?_);go_simp)|((first|refine h1 ?_|refine h3 ?_);clear h1 h3 K1 K3)|((first|refine zX (fun hb=>h1 ?_) (fun hb=>h3 ?_)|refine zX (fun hb=>h3 ?_) (fun hb=>h1 ?_))<;>(clear h1 h3 K1 K3;(try have hb2:=yC hb);(try have hb2:=yD hb);(try have hb2:=yE hb);(try have hb2:=yF hb);(try have hb2:=yG hb)))|(refine fun (K2:_→AHeap→Prop) hK2=>?_)|((with_reducible refine zY ?_ ?_);decide)|((with_reducible first|refine zZ ?_ (fun K hK=>?_)|refine yA ?_ (fun K hK=>?_));(focus go_simp;done);go_simp;refine hK _ _ ?_;clear hK K)|(go_simp;(try go_bits);(try first |((with_reducible show CallS _ _ _ _ _ _);first|(refine CallS.mono head_s ?_; rintro _ _ ⟨rfl, h9⟩; rw [h9]; clear h9; go_simp)|(refine CallS.mono (few_s (s := s) (HV.out.ext HX1.out)) ?_; rintro _ _ ⟨rfl, h9⟩; rw [h9, HFW.out]; clear h9; go_simp)|(refine CallS.mono (brief_s (c := c) (HC.out.ext HX1.out)) ?_; rintro _ _ ⟨rfl, h9⟩; rw [h9]; clear h9; go_simp)));refine hK2 _ _ ?_;clear hK2 K2))
      all_goals try rfl
    have hzi : ((s.alts.length : Int) == 0) = false := by simpa using hz
    obtain ⟨q, hq⟩ : ∃ q : Nat, n8 % (s.alts.length : Int) = (q : Int) := ⟨(n8 % (s.alts.length : Int)).toNat, by have := Int.emod_nonneg n8 (show (s.alts.length : Int) ≠ 0 by omega); omega⟩
    have hqlt : q < s.alts.length := by have := Int.emod_lt_of_pos n8 (show (0 : Int) < s.alts.length by omega); omega
    have hqi : (q : Int) < (s.alts.length : Nat) := by omega
    have hpos : (1 : Int) ≤ (s.alts.length : Int) := by omega
    have HQ := Lib.hid hq
    clear hz hq
    repeat' (first|(with_reducible first|refine zA ?_|refine zB fun K hK=>?_|refine zC fun K2 hK2=>?_|refine zD ?_|refine zE ?_|refine zF ?_|refine zG ?_|refine zH ?_|refine zI ?_|refine zM ?_|refine zN ?_|refine zO ?_|refine zP ?_|refine zQ ?_|refine zR ?_)|((with_reducible refine zU (hK _ _ ?_));clear hK K)|((with_reducible refine zV ?_ ?_ fun K1 K3 d hdst h1 h3=>?_);rfl;exact yB rfl;cases hdst;go_simp)|((with_reducible refine zW fun K1 K3 h1 h3=>?_);go_simp)|((first|refine h1 ?_|refine h3 ?_);clear h1 h3 K1 K3)|((first|refine zX (fun hb=>h1 ?_) (fun hb=>h3 ?_)|refine zX (fun hb=>h3 ?_) (fun hb=>h1 ?_))<;>(clear h1 h3 K1 K3;(try have hb2:=yC hb);(try have hb2:=yD hb);(try have hb2:=yE hb);(try have hb2:=yF hb);(try have hb2:=yG hb)))|(refine fun (K2:_→AHeap→Prop) hK2=>?_)|((with_reducible refine zY ?_ ?_);decide)|((with_reducible first|refine zZ ?_ (fun K hK=>?_)|refine yA ?_ (fun K hK=>?_));(focus go_simp;done);go_simp;refine hK _ _ ?_;clear hK K)|(go_simp;(try go_bits);(try first |((with_reducible show CallS _ _ _ _ _ _);first|(refine CallS.mono head_s ?_; rintro _ _ ⟨rfl, h9⟩; rw [h9]; clear h9; go_simp)|(refine CallS.mono (few_s (s := s) (HV.out.ext HX1.out)) ?_; rintro _ _ ⟨rfl, h9⟩; rw [h9, HFW.out]; clear h9; go_simp)|(refine CallS.mono (brief_s (c := c) (HC.out.ext HX1.out)) ?_; rintro _ _ ⟨rfl, h9⟩; rw [h9]; clear h9; go_simp)|(refine CallS.mono (HF1.out _ _ HX1.out) ?_; rintro _ H2 ⟨⟨fv, rfl, hi1⟩, hx⟩; (obtain ⟨-, fa, fc, rfl⟩ := hi1.slice); (have HI1 := Lib.hid hi1); (have HZ2 := Lib.hid hx); (obtain ⟨ck0, ck1, ck2, ck3, -⟩ := HCELLS.out _ hx); clear hi1 hx)|(refine CallS.mono (HL1.out _ _ (HX1.out.trans HZ2.out)) ?_; rintro _ H3 ⟨⟨lv, rfl, hi1⟩, hx⟩; (obtain ⟨-, la, lc, rfl⟩ := hi1.slice); (have HI2 := Lib.hid hi1); (have HI13 := Lib.hid (HI1.out.ext hx)); (have HZ3 := Lib.hid (HZ2.out.trans hx)); (obtain ⟨dk0, dk1, dk2, dk3, -⟩ := HCELLS.out _ HZ3.out); clear hi1 hx)|(refine CallS.mono (HS1.out _ _ (HX1.out.trans HZ3.out) (by simpa using ‹(!fw) = false›)) ?_; rintro _ H4 ⟨⟨pv, mv, rfl, -, hi1⟩, hx⟩; (obtain ⟨-, ma, mc, rfl⟩ := hi1.slice); (have HM4 := Lib.hid hi1); (have HI14 := Lib.hid (HI13.out.ext hx)); (have HI24 := Lib.hid (HI2.out.ext hx)); (have HZ4 := Lib.hid (HZ3.out.trans hx)); (obtain ⟨ek0, ek1, ek2, ek3, ek4, ek5⟩ := HCELLS.out _ HZ4.out); clear hi1 hx)));refine hK2 _ _ ?_;clear hK2 K2))
    all_goals try rfl
    obtain ⟨b, o, sp, rfl, hb, hx6, -⟩ := (HA.out.ext (HX1.out.trans HZ4.out)).at_ hqlt
    have hus := HUS.out _ (List.getElem_mem hqlt)
    generalize s.alts[q] = a at hx6 hus
    obtain ⟨i1, i2, i3, i4, i5, i6⟩ := a
    have hx6' : cellsAt H4 b (o + q * 6) 6 = some [.int .i64 i1, .int .i64 i2, .int .i64 i3, .int .i64 i4, .int .i64 i5, .int .i64 i6] := hx6
    have HUZ : Hid (¬ i1 ∈ M1 → errExt (lessS s [i1]) c = 0 ∧ firstL (lessS s [i1]) c = F1) := Lib.hid hus
    have hb4 : b < H4.n := hb
    clear hx6 hus HF1 HL1 HS1 HI1 HI13 HI2 ck0 ck1 ck2 ck3 dk0 dk1 dk2 dk3
    repeat' (first|((with_reducible refine stop_if (n := 10) ?_)) | ((with_reducible refine xA ?_ ?_); focus (refine conv_v (a := n8) (by go_simp) hn8 rfl; done)) | ((with_reducible refine xA ?_ ?_); focus (go_simp; refine rem_v (a := n8) (b := (s.alts.length : Int)) (by go_simp) (by go_simp) hn8.1 hpos ?_; rw [HQ.out]; done))|(with_reducible first|refine zA ?_|refine zB fun K hK=>?_|refine zC fun K2 hK2=>?_|refine zD ?_|refine zE ?_|refine zF ?_|refine zG ?_|refine zH ?_|refine zI ?_|refine zM ?_|refine zN ?_|refine zO ?_|refine zP ?_|refine zQ ?_|refine zR ?_)|((with_reducible refine zU (hK _ _ ?_));clear hK K)|((with_reducible refine zV ?_ ?_ fun K1 K3 d hdst h1 h3=>?_);rfl;exact yB rfl;cases hdst;go_simp)|((with_reducible refine zW fun K1 K3 h1 h3=>?_);go_simp)|((first|refine h1 ?_|refine h3 ?_);clear h1 h3 K1 K3)|((first|refine zX (fun hb=>h1 ?_) (fun hb=>h3 ?_)|refine zX (fun hb=>h3 ?_) (fun hb=>h1 ?_))<;>(clear h1 h3 K1 K3;(try have hb2:=yC hb);(try have hb2:=yD hb);(try have hb2:=yE hb);(try have hb2:=yF hb);(try have hb2:=yG hb)))|(refine fun (K2:_→AHeap→Prop) hK2=>?_)|((with_reducible refine zY ?_ ?_);decide)|((with_reducible first|refine zZ ?_ (fun K hK=>?_)|refine yA ?_ (fun K hK=>?_));(focus go_simp;done);go_simp;refine hK _ _ ?_;clear hK K)|((with_reducible refine yH mixed rfl ?_ 20 fun K0 hK0=>?_);kernel_rfl)|(with_reducible first|exact yI|exact yJ|refine yK ?_|refine yL ?_|refine yM ?_)|((with_reducible first|refine yN ?_ ?_|refine yO ?_ ?_|refine yP ?_ ?_);rfl)|((with_reducible refine yQ ?_ ?_);rfl;refine hK0 _ _ ?_;clear hK0 K0)|((with_reducible refine yR ?_ ?_ ?_ ?_);rfl;rfl;rfl)|((with_reducible refine yS ?_ ?_ ?_ fun K2 hK2=>?_);rfl;rfl;exact yB rfl)|((with_reducible refine yT ?_ ?_ ?_ ?_ fun K1 K3 d hdst h1 h3=>?_);rfl;rfl;rfl;exact yB rfl;cases hdst;go_simp)|((with_reducible refine yU ?_ ?_ ?_ ?_ fun K1 K3 d hdst h1 h3=>?_);rfl;rfl;rfl;exact yB rfl;cases hdst;go_simp)|((with_reducible refine yV ?_ ?_ (fun K2 hK2=>?_) ?_);rfl;exact yB rfl)|((with_reducible refine yW ?_ ?_ ?_ ?_ (fun K2 hK2=>?_) ?_);rfl;exact yB rfl;rfl;(focus go_simp;done))|((with_reducible refine yX ?_ ?_ ?_ (fun K2 hK2=>?_) ?_);rfl;rfl;exact yB rfl)|((with_reducible refine yY ?_ ?_ (fun K2 hK2=>?_) ?_);rfl;rfl)|((with_reducible refine yZ ?_ ?_);(first|rfl|(dsimp only;decide +kernel)))|((with_reducible refine xA ?_ ?_);(focus go_simp;done))|(go_simp;(try go_bits);(try first | ((refine conv_v (a := n8) (by go_simp) hn8 ?_); go_simp) | ((refine rem_v (a := n8) (b := (s.alts.length : Int)) (by go_simp) (by go_simp) hn8.1 hpos ?_); rw [HQ.out]; go_simp));(first|(refine hK2 _ _ ?_ ?_<;>clear hK2 K2)|(refine hK2 _ _ ?_;clear hK2 K2))))
    have HX4 := Lib.hid (HX1.out.trans HZ4.out)
    refine ⟨CodeS.cut (fun f H' => f.tmp 3 = .pointer (some ⟨H.n, 0, none⟩) ∧ f.tmp 4 = .pointer (some ⟨H.n + 1, 0, none⟩) ∧ f.tmp 7 = .bool true ∧ f.tmp 8 = .slice fa F1.length fc ∧ f.tmp 10 = .slice la L1.length lc ∧ f.defers = [] ∧ Hid (Ext H4 H')) ?_ ?_⟩
    · have HHA := Lib.hid (fun (loops : List (Nat × LInfo)) (H' : AHeap) (hx : Ext H4 H') => has_s (loops := loops) (w := i1) (HM4.out.ext hx))
      by_cases hin : i1 ∈ M1
      · rw [decide_eq_true hin] at HHA
        repeat' (first|(with_reducible first|refine zA ?_|refine zB fun K hK=>?_|refine zC fun K2 hK2=>?_|refine zD ?_|refine zE ?_|refine zF ?_|refine zG ?_|refine zH ?_|refine zI ?_|refine zM ?_|refine zN ?_|refine zO ?_|refine zP ?_|refine zQ ?_|refine zR ?_)|((with_reducible refine zU (hK _ _ ?_));clear hK K)|((with_reducible refine zV ?_ ?_ fun K1 K3 d hdst h1 h3=>?_);rfl;exact yB rfl;cases hdst;go_simp)|((with_reducible refine zW fun K1 K3 h1 h3=>?_);go_simp)|((first|refine h1 ?_|refine h3 ?_);clear h1 h3 K1 K3)|((first|refine zX (fun hb=>h1 ?_) (fun hb=>h3 ?_)|refine zX (fun hb=>h3 ?_) (fun hb=>h1 ?_))<;>(clear h1 h3 K1 K3;(try have hb2:=yC hb);(try have hb2:=yD hb);(try have hb2:=yE hb);(try have hb2:=yF hb);(try have hb2:=yG hb)))|(refine fun (K2:_→AHeap→Prop) hK2=>?_)|((with_reducible refine zY ?_ ?_);decide)|((with_reducible first|refine zZ ?_ (fun K hK=>?_)|refine yA ?_ (fun K hK=>?_));(focus go_simp;done);go_simp;refine hK _ _ ?_;clear hK K)|(go_simp;(try go_bits);(try first | ((with_reducible show CallS _ _ _ _ _ _);refine CallS.mono (HHA.out _ _ (Ext.push _)) ?_; rintro _ _ ⟨rfl, h9⟩; rw [h9]; clear h9; go_simp));refine hK2 _ _ ?_;clear hK2 K2))
        exact ⟨(by first|go_simp<;>go_num|assumption), (by first|go_simp<;>go_num|assumption), (by first|go_simp<;>go_num|assumption), (by first|go_simp<;>go_num|assumption), (by first|go_simp<;>go_num|assumption), (by first|go_simp<;>go_num|assumption), Lib.hid (Ext.push _)⟩
      · rw [decide_eq_false hin] at HHA
        obtain ⟨hu1, hu2⟩ := HUZ.out hin
        have HFL := Lib.hid (fun (loops : List (Nat × LInfo)) (H' : AHeap) (v : Value) (hs : SheetV H' v (lessS s [i1])) (hx : Ext H H') => first_e (loops := loops) hs (HC.out.ext hx))
        rw [hu1, hu2] at HFL
        have HOI : Hid (Ints ((H4.push (.row [.int .i64 i1, .int .i64 i2, .int .i64 i3, .int .i64 i4, .int .i64 i5, .int .i64 i6] 61)).push (.row [.int .i64 i1] 3)) (.slice (some ⟨H4.n + 1, 0, none⟩) 1 1) [i1]) := Lib.hid (ints_of_own (l := [i1]) (own_new (base := 0) (size := 1) (Nat.zero_le _) (by simp only [AHeap.n_push]; omega) (get_at (by rw [AHeap.n_push])) rfl (by decide)) (by simp))
        repeat' (first|(with_reducible first|refine zA ?_|refine zB fun K hK=>?_|refine zC fun K2 hK2=>?_|refine zD ?_|refine zE ?_|refine zF ?_|refine zG ?_|refine zH ?_|refine zI ?_|refine zM ?_|refine zN ?_|refine zO ?_|refine zP ?_|refine zQ ?_|refine zR ?_)|((with_reducible refine zU (hK _ _ ?_));clear hK K)|((with_reducible refine zV ?_ ?_ fun K1 K3 d hdst h1 h3=>?_);rfl;exact yB rfl;cases hdst;go_simp)|((with_reducible refine zW fun K1 K3 h1 h3=>?_);go_simp)|((first|refine h1 ?_|refine h3 ?_);clear h1 h3 K1 K3)|((first|refine zX (fun hb=>h1 ?_) (fun hb=>h3 ?_)|refine zX (fun hb=>h3 ?_) (fun hb=>h1 ?_))<;>(clear h1 h3 K1 K3;(try have hb2:=yC hb);(try have hb2:=yD hb);(try have hb2:=yE hb);(try have hb2:=yF hb);(try have hb2:=yG hb)))|(refine fun (K2:_→AHeap→Prop) hK2=>?_)|((with_reducible refine zY ?_ ?_);decide)|((with_reducible first|refine zZ ?_ (fun K hK=>?_)|refine yA ?_ (fun K hK=>?_));(focus go_simp;done);go_simp;refine hK _ _ ?_;clear hK K)|(go_simp;(try go_bits);(try first |((with_reducible show CallS _ _ _ _ _ _);first|(refine CallS.mono (HHA.out _ _ (Ext.push _)) ?_; rintro _ _ ⟨rfl, h9⟩; rw [h9]; clear h9; go_simp)|(refine CallS.mono (HW1.out _ _ _ [i1] ((HX4.out.push' _).push' _) HOI.out (by simp)) ?_; rintro _ H6 ⟨⟨wa6, wn6, aa6, an6, rfl, hs6⟩, hx⟩; (have HS6 := Lib.hid hs6); (have HY6 : Hid (Ext H4 H6) := Lib.hid (((Ext.push _).push' _).trans hx)); (have hk6 : cellsAt H6 (H.n + 1) 0 4 = some [Value.slice ca c.words.length cc, .int .i64 c.beg, .int .i64 c.fin, .int .i64 c.per] := (HY6.out.cellsAt ek2).trans ek1); (have hn6 : H.n + 1 < H6.n := by have := HY6.out.n; omega); clear hs6 hx)|(refine CallS.mono (HFL.out _ _ _ (HS6.out.ext (Ext.push _)) ((HX4.out.trans HY6.out).push' _)) ?_; rintro _ H7 ⟨⟨lv7, rfl, hi7⟩, hx⟩; (have HI7 := Lib.hid hi7); (have HY7 := Lib.hid ((HY6.out.push' _).trans hx)); clear hi7 hx)|(refine CallS.mono (sameInts_s (xs := F1) (ys := F1) HI7.out (HI14.out.ext HY7.out)) ?_; rintro _ _ ⟨rfl, h9⟩; rw [h9]; clear h9; go_simp))|((refine one_k el22 sz3 ze3 rfl (by decide) (by decide) rfl rfl ?_); go_simp));refine hK2 _ _ ?_;clear hK2 K2))
        exact ⟨(by first|go_simp<;>go_num|assumption), (by first|go_simp<;>go_num|assumption), (by first|go_simp<;>go_num|assumption), (by first|go_simp<;>go_num|assumption), (by first|go_simp<;>go_num|assumption), (by first|go_simp<;>go_num|assumption), HY7⟩
    · clear f0 f1 f2 hd f hx6' HUZ HM4 HQ hqlt hqi
      rintro f H5 ⟨f3, f4, f7, f8, f10, hd, HX5⟩
      repeat' (first|(with_reducible first|refine zA ?_|refine zB fun K hK=>?_|refine zC fun K2 hK2=>?_|refine zD ?_|refine zE ?_|refine zF ?_|refine zG ?_|refine zH ?_|refine zI ?_|refine zM ?_|refine zN ?_|refine zO ?_|refine zP ?_|refine zQ ?_|refine zR ?_)|((with_reducible refine zU (hK _ _ ?_));clear hK K)|((with_reducible refine zV ?_ ?_ fun K1 K3 d hdst h1 h3=>?_);rfl;exact yB rfl;cases hdst;go_simp)|((with_reducible refine zW fun K1 K3 h1 h3=>?_);go_simp)|((first|refine h1 ?_|refine h3 ?_);clear h1 h3 K1 K3)|((first|refine zX (fun hb=>h1 ?_) (fun hb=>h3 ?_)|refine zX (fun hb=>h3 ?_) (fun hb=>h1 ?_))<;>(clear h1 h3 K1 K3;(try have hb2:=yC hb);(try have hb2:=yD hb);(try have hb2:=yE hb);(try have hb2:=yF hb);(try have hb2:=yG hb)))|(refine fun (K2:_→AHeap→Prop) hK2=>?_)|((with_reducible refine zY ?_ ?_);decide)|((with_reducible first|refine zZ ?_ (fun K hK=>?_)|refine yA ?_ (fun K hK=>?_));(focus go_simp;done);go_simp;refine hK _ _ ?_;clear hK K)|(go_simp;(try go_bits);refine hK2 _ _ ?_;clear hK2 K2))
      refine CodeS.loop (fun m f H' => ∃ (k : Nat) (v : Value), k ≤ s.alts.length ∧ m = s.alts.length - k ∧ f.tmp 22 = .int .i64 k ∧ f.tmp 21 = v ∧ f.tmp 3 = .pointer (some ⟨H.n, 0, none⟩) ∧ f.tmp 4 = .pointer (some ⟨H.n + 1, 0, none⟩) ∧ f.tmp 7 = .bool true ∧ f.tmp 8 = .slice fa F1.length fc ∧ f.tmp 10 = .slice la L1.length lc ∧ f.defers = [] ∧ Hid (Ext H5 H') ∧ Hid (Own H' H5.n v 3 1 ((lateIds s c k).map (Value.int .i64)))) s.alts.length ?_ ?_
      · exact ⟨0, .slice none 0 0, by simp, by simp, (by first|go_simp<;>go_num|assumption), (by first|go_simp<;>go_num|assumption), (by first|go_simp<;>go_num|assumption), (by first|go_simp<;>go_num|assumption), (by first|go_simp<;>go_num|assumption), (by first|go_simp<;>go_num|assumption), (by first|go_simp<;>go_num|assumption), (by first|go_simp<;>go_num|assumption), Lib.hid (Ext.refl _), Lib.hid Own.nil⟩
      clear f3 f4 f7 f8 f10 hd f
      rintro m f H' ⟨k, v, hk, rfl, f22, f21, f3, f4, f7, f8, f10, hd, HY, HO⟩
      have HYY := Lib.hid (HX5.out.trans HY.out)
      have hn1 : H.n < H'.n := by have := HYY.out.n; omega
      have hn2 : H.n + 1 < H'.n := by have := HYY.out.n; omega
      have hs1 : cellAt H' H.n 1 = some (Value.slice (some ⟨b, o, sp⟩) s.alts.length ac) := (HYY.out.cellAt (by omega)).trans ek4
      have hs2 : cellAt H' (H.n + 1) 2 = some (.int .i64 c.fin) := (HYY.out.cellAt (by omega)).trans ek5
      have hs0 : cellsAt H' H.n 0 2 = some [Value.slice wa s.words.length wc, Value.slice (some ⟨b, o, sp⟩) s.alts.length ac] := (HYY.out.cellsAt (by omega)).trans ek0
      have hs3 : cellsAt H' (H.n + 1) 0 4 = some [Value.slice ca c.words.length cc, .int .i64 c.beg, .int .i64 c.fin, .int .i64 c.per] := (HYY.out.cellsAt (by omega)).trans ek1
      by_cases hlt : k < s.alts.length
      · obtain ⟨b', o', sp', heq, hb', -, hx7⟩ := (HA.out.ext (HX4.out.trans HYY.out)).at_ hlt
        have HT := Lib.hid (lateIds_succ (c := c) hlt)
        have hlen := lateIds_len s c k
        have HLEN := Lib.hid (show (lateIds s c k).length ≤ 40 by omega)
        generalize hC2 : lateIds s c (k + 1) = C2 at HT
        have HC2 := Lib.hid hC2
        generalize lateIds s c k = C1 at HT HO HLEN
        generalize s.alts[k] = a at hx7 HT
        obtain ⟨j1, j2, j3, j4, j5, j6⟩ := a
        have hy0 : cellAt H' b' (o' + k * 6) = some (.int .i64 j1) := hx7 0 (.int .i64 j1) rfl
        have hy2 : cellAt H' b' (o' + k * 6 + 2) = some (.int .i64 j3) := hx7 2 (.int .i64 j3) rfl
        cases heq
        have HTT : Hid (C2 = C1 ++ if c.fin < j3 then [j1] else []) := HT
        have hbb : b < H'.n := hb'
        clear hx7 hlen hC2 HT
        repeat' (first|(with_reducible first|refine zA ?_|refine zB fun K hK=>?_|refine zC fun K2 hK2=>?_|refine zD ?_|refine zE ?_|refine zF ?_|refine zG ?_|refine zH ?_|refine zI ?_|refine zM ?_|refine zN ?_|refine zO ?_|refine zP ?_|refine zQ ?_|refine zR ?_)|((with_reducible refine zU (hK _ _ ?_));clear hK K)|((with_reducible refine zV ?_ ?_ fun K1 K3 d hdst h1 h3=>?_);rfl;exact yB rfl;cases hdst;go_simp)|((with_reducible refine zW fun K1 K3 h1 h3=>?_);go_simp)|((first|refine h1 ?_|refine h3 ?_);clear h1 h3 K1 K3)|((first|refine zX (fun hb=>h1 ?_) (fun hb=>h3 ?_)|refine zX (fun hb=>h3 ?_) (fun hb=>h1 ?_))<;>(clear h1 h3 K1 K3;(try have hb2:=yC hb);(try have hb2:=yD hb);(try have hb2:=yE hb);(try have hb2:=yF hb);(try have hb2:=yG hb)))|(refine fun (K2:_→AHeap→Prop) hK2=>?_)|((with_reducible refine zY ?_ ?_);decide)|((with_reducible first|refine zZ ?_ (fun K hK=>?_)|refine yA ?_ (fun K hK=>?_));(focus go_simp;done);go_simp;refine hK _ _ ?_;clear hK K)|((with_reducible refine yH mixed rfl ?_ 20 fun K0 hK0=>?_);kernel_rfl)|(with_reducible first|exact yI|exact yJ|refine yK ?_|refine yL ?_|refine yM ?_)|((with_reducible first|refine yN ?_ ?_|refine yO ?_ ?_|refine yP ?_ ?_);rfl)|((with_reducible refine yQ ?_ ?_);rfl;refine hK0 _ _ ?_;clear hK0 K0)|((with_reducible refine yR ?_ ?_ ?_ ?_);rfl;rfl;rfl)|((with_reducible refine yS ?_ ?_ ?_ fun K2 hK2=>?_);rfl;rfl;exact yB rfl)|((with_reducible refine yT ?_ ?_ ?_ ?_ fun K1 K3 d hdst h1 h3=>?_);rfl;rfl;rfl;exact yB rfl;cases hdst;go_simp)|((with_reducible refine yU ?_ ?_ ?_ ?_ fun K1 K3 d hdst h1 h3=>?_);rfl;rfl;rfl;exact yB rfl;cases hdst;go_simp)|((with_reducible refine yV ?_ ?_ (fun K2 hK2=>?_) ?_);rfl;exact yB rfl)|((with_reducible refine yW ?_ ?_ ?_ ?_ (fun K2 hK2=>?_) ?_);rfl;exact yB rfl;rfl;(focus go_simp;done))|((with_reducible refine yX ?_ ?_ ?_ (fun K2 hK2=>?_) ?_);rfl;rfl;exact yB rfl)|((with_reducible refine yY ?_ ?_ (fun K2 hK2=>?_) ?_);rfl;rfl)|((with_reducible refine yZ ?_ ?_);(first|rfl|(dsimp only;decide +kernel)))|((with_reducible refine xA ?_ ?_);(focus go_simp;done))|(go_simp;(try go_bits);(try first | ((refine one_k el22 sz3 ze3 rfl (by decide) (by decide) rfl rfl ?_); go_simp) | ((refine append_k2 el22 sz3 by3 ze3 rfl (by decide) (HO.out.ext (Ext.push _)) (srcCells_new rfl) (by decide) rfl (by rw [List.all_append, oneV_list_int]; rfl) (by have := HLEN.out; rw [List.length_map]; show (C1.length + 1) * 8 ≤ 1073741824; omega) (by have := HY.out.n; rw [AHeap.n_push]; omega) fun v2 H6 ho6 hg6 => ?_); (have HO6 := Lib.hid ho6); (have HG6 := Lib.hid hg6); clear ho6 hg6; go_simp));(first|(refine hK2 _ _ ?_ ?_<;>clear hK2 K2)|(refine hK2 _ _ ?_;clear hK2 K2))))
        · have hcc : c.fin < j3 := by simpa using ‹decide (c.fin < j3) = true›
          refine Post.round_normal ⟨s.alts.length - (k + 1), by omega, k + 1, v2, by omega, rfl, (by first|go_simp<;>go_num|assumption), (by first|go_simp<;>go_num|assumption), (by first|go_simp<;>go_num|assumption), (by first|go_simp<;>go_num|assumption), (by first|go_simp<;>go_num|assumption), (by first|go_simp<;>go_num|assumption), (by first|go_simp<;>go_num|assumption), (by first|go_simp<;>go_num|assumption), Lib.hid (HG6.out.ext (HO.out.ext (Ext.push _)) (Nat.le_refl _) (HY.out.push' _)), Lib.hid ?_⟩
          rw [HC2.out, HTT.out, if_pos hcc, List.map_append]
          exact HO6.out.mono (by have := HY.out.n; rw [AHeap.n_push]; omega)
        · have hcc : ¬ c.fin < j3 := by simpa using ‹decide (c.fin < j3) = false›
          refine Post.round_normal ⟨s.alts.length - (k + 1), by omega, k + 1, v, by omega, rfl, (by first|go_simp<;>go_num|assumption), (by first|go_simp<;>go_num|assumption), (by first|go_simp<;>go_num|assumption), (by first|go_simp<;>go_num|assumption), (by first|go_simp<;>go_num|assumption), (by first|go_simp<;>go_num|assumption), (by first|go_simp<;>go_num|assumption), (by first|go_simp<;>go_num|assumption), HY, Lib.hid ?_⟩
          rw [HC2.out, HTT.out, if_neg hcc, List.append_nil]
          exact HO.out
      · have hke : k = s.alts.length := by omega
        subst hke
        have hll := lateIds_len s c s.alts.length
        obtain ⟨he2, hf2, hl2⟩ := HLS.out
        have HOI := Lib.hid (ints_of_own HO.out (by omega))
        have HLL := Lib.hid (show (lateIds s c s.alts.length).length ≤ 1000 by omega)
        have HFL := Lib.hid (fun (loops : List (Nat × LInfo)) (H' : AHeap) (v : Value) (hs : SheetV H' v (lessS s (lateIds s c s.alts.length))) (hx : Ext H H') => first_e (loops := loops) hs (HC.out.ext hx))
        have HGL := Lib.hid (fun (loops : List (Nat × LInfo)) (H' : AHeap) (v : Value) (hs : SheetV H' v (lessS s (lateIds s c s.alts.length))) (hx : Ext H H') => last_e (loops := loops) hs (HC.out.ext hx))
        rw [he2, hf2] at HFL
        rw [he2, hl2] at HGL
        have HXH := Lib.hid (HX4.out.trans HYY.out)
        clear he2 hf2 hl2 hll HO HLS
        generalize lateIds s c s.alts.length = IDS at HOI HLL HFL HGL
        repeat' (first|(with_reducible first|refine zA ?_|refine zB fun K hK=>?_|refine zC fun K2 hK2=>?_|refine zD ?_|refine zE ?_|refine zF ?_|refine zG ?_|refine zH ?_|refine zI ?_|refine zM ?_|refine zN ?_|refine zO ?_|refine zP ?_|refine zQ ?_|refine zR ?_)|((with_reducible refine zU (hK _ _ ?_));clear hK K)|((with_reducible refine zV ?_ ?_ fun K1 K3 d hdst h1 h3=>?_);rfl;exact yB rfl;cases hdst;go_simp)|((with_reducible refine zW fun K1 K3 h1 h3=>?_);go_simp)|((first|refine h1 ?_|refine h3 ?_);clear h1 h3 K1 K3)|((first|refine zX (fun hb=>h1 ?_) (fun hb=>h3 ?_)|refine zX (fun hb=>h3 ?_) (fun hb=>h1 ?_))<;>(clear h1 h3 K1 K3;(try have hb2:=yC hb);(try have hb2:=yD hb);(try have hb2:=yE hb);(try have hb2:=yF hb);(try have hb2:=yG hb)))|(refine fun (K2:_→AHeap→Prop) hK2=>?_)|((with_reducible refine zY ?_ ?_);decide)|((with_reducible first|refine zZ ?_ (fun K hK=>?_)|refine yA ?_ (fun K hK=>?_));(focus go_simp;done);go_simp;refine hK _ _ ?_;clear hK K)|(go_simp;(try go_bits);(try first |((with_reducible show CallS _ _ _ _ _ _);first|(refine CallS.mono (HW1.out _ _ _ IDS HXH.out HOI.out HLL.out) ?_; rintro _ H6 ⟨⟨wa6, wn6, aa6, an6, rfl, hs6⟩, hx⟩; (have HS6 := Lib.hid hs6); (have HY6 : Hid (Ext H' H6) := Lib.hid hx); (have hk6 : cellsAt H6 (H.n + 1) 0 4 = some [Value.slice ca c.words.length cc, .int .i64 c.beg, .int .i64 c.fin, .int .i64 c.per] := (hx.cellsAt hn2).trans hs3); (have hn6 : H.n + 1 < H6.n := by have := hx.n; omega); clear hs6 hx)|(refine CallS.mono (HFL.out _ _ _ (HS6.out.ext (Ext.push _)) ((HXH.out.trans HY6.out).push' _)) ?_; rintro _ H7 ⟨⟨lv7, rfl, hi7⟩, hx⟩; (have HI7 := Lib.hid hi7); (have HZ7 := Lib.hid hx); (have HY7 := Lib.hid ((HY6.out.push' _).trans hx)); (have hk7 : cellsAt H7 (H.n + 1) 0 4 = some [Value.slice ca c.words.length cc, .int .i64 c.beg, .int .i64 c.fin, .int .i64 c.per] := by rw [hx.cellsAt (by rw [AHeap.n_push]; omega), cellsAt_push, if_neg (by omega)]; exact hk6); (have hk7' : cellsAt H7 H6.n 0 2 = some [.slice wa6 wn6 wn6, .slice aa6 an6 an6] := by rw [hx.cellsAt (by rw [AHeap.n_push]; omega), cellsAt_push, if_pos rfl]; rfl); clear hi7 hx)|(refine CallS.mono (HGL.out _ _ _ ((HS6.out.ext (Ext.push _)).ext HZ7.out) (HXH.out.trans HY7.out)) ?_; rintro _ H8 ⟨⟨lv8, rfl, hi8⟩, hx⟩; (have HI8 := Lib.hid hi8); (have HI78 := Lib.hid (HI7.out.ext hx)); (have HY8 := Lib.hid (HY7.out.trans hx)); clear hi8 hx)|(refine CallS.mono (sameInts_s (xs := F1) (ys := F1) HI78.out ((HI14.out.ext HYY.out).ext HY8.out)) ?_; rintro _ _ ⟨rfl, h9⟩; rw [h9]; clear h9; go_simp)|(refine CallS.mono (sameInts_s (xs := L1) (ys := L1) HI8.out ((HI24.out.ext HYY.out).ext HY8.out)) ?_; rintro _ _ ⟨rfl, h9⟩; rw [h9]; clear h9; go_simp)));refine hK2 _ _ ?_;clear hK2 K2))
        all_goals rfl
  · generalize hfw : fewB s = fw at HS1
    have HFW := Lib.hid hfw
    clear hfw
    generalize errExt s c = e at HF1 HL1 HS1 her
    have hez : (e != 0) = true := by simpa using her
    refine CallS.enter' Try.func15 rfl Try.ntmps15 (by simp) fun f hd hf => ?_
    have f0 := hf 0
    have f1 := hf 1
    have f2 := hf 2
    simp at f0 f1 f2
    clear hf
    repeat' (first|(with_reducible first|refine zA ?_|refine zB fun K hK=>?_|refine zC fun K2 hK2=>?_|refine zD ?_|refine zE ?_|refine zF ?_|refine zG ?_|refine zH ?_|refine zI ?_|refine zM ?_|refine zN ?_|refine zO ?_|refine zP ?_|refine zQ ?_|refine zR ?_)|((with_reducible refine zU (hK _ _ ?_));clear hK K)|((with_reducible refine zV ?_ ?_ fun K1 K3 d hdst h1 h3=>?_);rfl;exact yB rfl;cases hdst;go_simp)|((with_reducible refine zW fun K1 K3 h1 h3=>?_);go_simp)|((first|refine h1 ?_|refine h3 ?_);clear h1 h3 K1 K3)|((first|refine zX (fun hb=>h1 ?_) (fun hb=>h3 ?_)|refine zX (fun hb=>h3 ?_) (fun hb=>h1 ?_))<;>(clear h1 h3 K1 K3;(try have hb2:=yC hb);(try have hb2:=yD hb);(try have hb2:=yE hb);(try have hb2:=yF hb);(try have hb2:=yG hb)))|(refine fun (K2:_→AHeap→Prop) hK2=>?_)|((with_reducible refine zY ?_ ?_);decide)|((with_reducible first|refine zZ ?_ (fun K hK=>?_)|refine yA ?_ (fun K hK=>?_));(focus go_simp;done);go_simp;refine hK _ _ ?_;clear hK K)|(go_simp;(try go_bits);(try first |((with_reducible show CallS _ _ _ _ _ _);first|(refine CallS.mono head_s ?_; rintro _ _ ⟨rfl, h9⟩; rw [h9]; clear h9; go_simp)|(refine CallS.mono (few_s (s := s) (HV.out.ext HX1.out)) ?_; rintro _ _ ⟨rfl, h9⟩; rw [h9, HFW.out]; clear h9; go_simp)|(refine CallS.mono (brief_s (c := c) (HC.out.ext HX1.out)) ?_; rintro _ _ ⟨rfl, h9⟩; rw [h9]; clear h9; go_simp)|(refine CallS.mono (HF1.out _ _ HX1.out) ?_; rintro _ H2 ⟨⟨fv, rfl, -⟩, hx⟩; (have HZ2 := Lib.hid hx); (obtain ⟨ck0, ck1, ck2, ck3, -⟩ := HCELLS.out _ hx); clear hx)|(refine CallS.mono (HL1.out _ _ (HX1.out.trans HZ2.out)) ?_; rintro _ H3 ⟨⟨lv, rfl, -⟩, hx⟩; (have HZ3 := Lib.hid (HZ2.out.trans hx)); (obtain ⟨dk0, dk1, dk2, dk3, -⟩ := HCELLS.out _ HZ3.out); clear hx)|(refine CallS.mono (HS1.out _ _ (HX1.out.trans HZ3.out) (by simpa using ‹(!fw) = false›)) ?_; rintro _ H4 ⟨⟨pv, mv, rfl, -, -⟩, hx⟩; clear hx)));refine hK2 _ _ ?_;clear hK2 K2))
    all_goals first
      | rfl
      | simp
end Go.Proofs.Try
namespace Go.Proofs.Try
open Go.ChangeShapes Go.WideShapes Go.ChangeAt Go.RowKit Go.Joins Go.Deep Go.Am
set_option maxRecDepth 100000


section
variable {H : Type} {enc : TypeId × Value → H} {P : Program} {w : World} {base : Nat} {spare : Nat → Bool} {held : Bool}
theorem open_slice_fields {t e : TypeId} {fs : Array Field} {fuel : Nat} {cs : List Value} {x : DataW H × List MemPlace} (ht : P.underlying t = some (.slice e)) (he : P.underlying e = some (.struct fs))
    (hone : oneCellFields P fs = true) (hC : P.cellsOf e = fs.size) (h : DataW.trod enc P w base spare held fuel t cs = some x) :
    (cs = [.slice none 0 0] ∧ x = (.nil, [])) ∨
    ∃ (a : Addr) (len cap m : Nat) (D : Nat → DataW H) (Pl : Nat → List MemPlace), cs = [.slice (some a) len cap] ∧ base ≤ a.block ∧ len ≤ cap ∧ cap ≤ maxLen ∧ m = (if spare a.block then cap else len) ∧
      x = (.slice ((List.range len).map D) ((List.range (m - len)).map fun j => D (len + j)), MemPlace.row a (m * fs.size) ++ (List.range m).flatMap Pl) ∧
      ∀ i, i < m → ∃ (ys : List (DataW H × List MemPlace)) (n : Nat), D i = .agg (ys.map (·.1)) ∧ Pl i = ys.flatMap (·.2) ∧ ys.length = fs.size ∧
        ∀ (j : Nat) (f : Field), fs[j]? = some f → ∃ (v : Value) (y : DataW H × List MemPlace), w.cell? (a.add (i * fs.size + j)) = some v ∧ ys[j]? = some y ∧ DataW.trod enc P w base spare held n f.type [v] = some y := by
  rcases open_slice ht h with h0 | ⟨a, len, cap, m, n, D, Pl, hcs, hb, hl, hm, hmm, hx, hi⟩
  · exact .inl h0
  · refine .inr ⟨a, len, cap, m, D, Pl, hcs, hb, hl, hm, hmm, by rw [hC] at hx; exact hx, fun i him => ?_⟩
    obtain ⟨cs', hc, ht'⟩ := hi i him
    rw [hC] at hc
    obtain ⟨ys, n', hn', hy, hlen, hyl, hf⟩ := DataW.trod_struct he ht'
    obtain ⟨_, hcl, hat⟩ := World.cells?_some hc
    simp only [Prod.mk.injEq] at hy
    refine ⟨ys, n', hy.1, hy.2, hyl, fun j f hj => ?_⟩
    obtain ⟨ho, hk⟩ := hone_of hone j f hj
    have hjl : j < fs.size := (Array.getElem?_eq_some_iff.1 hj).1
    have hcell := hat j hjl
    have hv : cs'[j]? = some (cs'[j]'(by omega)) := List.getElem?_eq_getElem (by omega)
    have h1 := hf j f hj
    rw [ho, hk] at h1
    have hone' : (cs'.drop j).take 1 = [cs'[j]'(by omega)] := by
      rw [List.drop_eq_getElem_cons (by omega)]
      rfl
    rw [hone'] at h1
    have hys : ys[j]? = some (ys[j]'(by omega)) := List.getElem?_eq_getElem (by omega)
    refine ⟨_, _, ?_, hys, h1.trans hys⟩
    rw [← Go.Deep.add_add, hcell, hv]
end
theorem add_at (b o j : Nat) : (⟨b, o, none⟩ : Addr).add j = ⟨b, o + j, none⟩ := by
  unfold Addr.add
  split
  · rename_i h; subst h; rfl
  · rfl
theorem cell_lt {w : World} {p : Addr} {v : Value} (h : w.cell? p = some v) : p.block < w.heap.size := by
  rcases Nat.lt_or_ge p.block w.heap.size with hlt | hge
  · exact hlt
  · unfold World.cell? at h
    rw [Array.getElem?_eq_none hge] at h
    cases h
theorem cell_spot {w : World} {p : Addr} {v : Value} (h : w.cell? p = some v) : p.spot = none := by
  unfold World.cell? at h
  split at h
  · split at h
    · cases h
    · rename_i h0; simpa using h0
  · cases h

theorem slice_abs {w : World} {a : Addr} {len cap size d : Nat} {us : List Value} (hl : len ≤ cap) (hc : len ≤ 9223372036854775807) (hus : us.length = len * size) (hsz : 0 < size) (hplain : ∀ (j : Nat) (u : Value), us[j]? = some u → absV w.heap.size 8 u = u) (hcell : ∀ (j : Nat) (u : Value), us[j]? = some u → w.cell? (a.add j) = some u) : Cells (absH w) (absV w.heap.size (d + 1) (.slice (some a) len cap)) size len us := by
  by_cases h0 : len = 0
  · subst h0
    simp only [absV]
    split
    · exact ⟨hus, hc, _, _, rfl, by omega⟩
    · rw [if_pos trivial]; exact ⟨hus, hc, _, _, rfl, by omega⟩
  · have hpos : 0 < us.length := by rw [hus]; exact Nat.mul_pos (by omega) hsz
    have h1 := hcell 0 _ (List.getElem?_eq_getElem hpos)
    have e0 : a.add 0 = a := by unfold Addr.add; rw [if_pos rfl]
    rw [e0] at h1
    have hsp := cell_spot h1
    have hlt := cell_lt h1
    obtain ⟨b, o, sp⟩ := a
    simp only at hsp hlt
    subst hsp
    simp only [absV]
    rw [if_pos ⟨trivial, hlt, hl⟩]
    refine ⟨hus, hc, _, _, rfl, fun _ => ⟨b, o, none, rfl, by rw [absH_n]; exact hlt, fun j u hu => ?_⟩⟩
    have h2 := hcell j u hu
    rw [add_at] at h2
    rw [abs_cell h2, hplain j u hu]

section
variable {H : Type} {enc : TypeId × Value → H} {w : World}
theorem ints_abs {fuel d : Nat} {v : Value} {x : DataW H × List MemPlace} (h : DataW.trod enc Try.prog w 0 (fun _ => true) true fuel 22 [v] = some x) : ∃ xs, Ints (absH w) (absV w.heap.size (d + 1) v) xs := by
  rcases open_ints Try.underlying22 Try.underlying3 (by kernel_rfl) h with ⟨hcs, _⟩ | ⟨a, l, c, zs, hcs, _, hl, hm, hz, _, hcell, _⟩
  · injection hcs with hcs _
    subst hcs
    exact ⟨[], rfl, by simp, none, 0, rfl, by simp⟩
  · injection hcs with hcs _
    subst hcs
    simp only [if_true] at hz
    have hlen : (zs.take l).length = l := by rw [List.length_take]; omega
    refine ⟨zs.take l, ?_⟩
    unfold Ints
    rw [hlen]
    refine slice_abs hl (by unfold maxLen at hm; omega) (by rw [List.length_map, hlen]; omega) (by decide) (fun j u hu => ?_) (fun j u hu => ?_)
    · rw [List.getElem?_map] at hu
      obtain ⟨z, _, rfl⟩ := Option.map_eq_some_iff.1 hu
      rfl
    · rw [List.getElem?_map] at hu
      obtain ⟨z, hz1, rfl⟩ := Option.map_eq_some_iff.1 hu
      rw [List.getElem?_take] at hz1
      split at hz1
      · have hj : j < zs.length := (List.getElem?_eq_some_iff.1 hz1).1
        rw [hcell j hj, List.getD_eq_getElem?_getD, hz1]
        rfl
      · cases hz1

theorem alts_abs {fuel d : Nat} {v : Value} {x : DataW H × List MemPlace} (h : DataW.trod enc Try.prog w 0 (fun _ => true) true fuel 23 [v] = some x) : ∃ l, Alts (absH w) (absV w.heap.size (d + 1) v) l := by
  rcases open_slice_fields Try.underlying23 Try.underlying61 (by kernel_rfl) (by kernel_rfl) h with ⟨hcs, _⟩ | ⟨a, len, cap, m, D, Pl, hcs, _, hl, hm, hmm, _, hf⟩
  · injection hcs with hcs _
    subst hcs
    exact ⟨[], rfl, by simp, none, 0, rfl, by simp⟩
  · injection hcs with hcs _
    subst hcs
    simp only [if_true] at hmm
    have hq : ∀ i, i < len → ∃ q : Alt, ∀ j u, q.cells[j]? = some u → w.cell? (a.add (i * 6 + j)) = some u := by
      intro i hi
      obtain ⟨ys, n, _, _, _, hj⟩ := hf i (by omega)
      obtain ⟨v0, y0, hc0, _, ht0⟩ := hj 0 _ rfl
      obtain ⟨v1, y1, hc1, _, ht1⟩ := hj 1 _ rfl
      obtain ⟨v2, y2, hc2, _, ht2⟩ := hj 2 _ rfl
      obtain ⟨v3, y3, hc3, _, ht3⟩ := hj 3 _ rfl
      obtain ⟨v4, y4, hc4, _, ht4⟩ := hj 4 _ rfl
      obtain ⟨v5, y5, hc5, _, ht5⟩ := hj 5 _ rfl
      obtain ⟨z0, hz0, _, _⟩ := DataW.trod_int Try.underlying3 ht0
      obtain ⟨z1, hz1, _, _⟩ := DataW.trod_int Try.underlying3 ht1
      obtain ⟨z2, hz2, _, _⟩ := DataW.trod_int Try.underlying3 ht2
      obtain ⟨z3, hz3, _, _⟩ := DataW.trod_int Try.underlying3 ht3
      obtain ⟨z4, hz4, _, _⟩ := DataW.trod_int Try.underlying3 ht4
      obtain ⟨z5, hz5, _, _⟩ := DataW.trod_int Try.underlying3 ht5
      injection hz0 with hz0 _
      injection hz1 with hz1 _
      injection hz2 with hz2 _
      injection hz3 with hz3 _
      injection hz4 with hz4 _
      injection hz5 with hz5 _
      subst hz0 hz1 hz2 hz3 hz4 hz5
      refine ⟨⟨z0, z1, z2, z3, z4, z5⟩, fun j u hu => ?_⟩
      match j, hu with
      | 0, hu => cases hu; exact hc0
      | 1, hu => cases hu; exact hc1
      | 2, hu => cases hu; exact hc2
      | 3, hu => cases hu; exact hc3
      | 4, hu => cases hu; exact hc4
      | 5, hu => cases hu; exact hc5
      | j + 6, hu => simp [Alt.cells] at hu
    obtain ⟨f, hf'⟩ := Classical.skolem.1 (fun i => show ∃ q : Alt, i < len → ∀ j u, q.cells[j]? = some u → w.cell? (a.add (i * 6 + j)) = some u by
      by_cases hi : i < len
      · obtain ⟨q, hq⟩ := hq i hi; exact ⟨q, fun _ => hq⟩
      · exact ⟨⟨0, 0, 0, 0, 0, 0⟩, fun h => absurd h hi⟩)
    have hlen : ((List.range len).map f).length = len := by simp
    refine ⟨(List.range len).map f, ?_⟩
    unfold Alts
    rw [hlen]
    have hget : ∀ j u, (altCells ((List.range len).map f))[j]? = some u → ∃ k i, k < len ∧ j = k * 6 + i ∧ (f k).cells[i]? = some u := by
      intro j u hu
      have hj : j < len * 6 := by
        have := (List.getElem?_eq_some_iff.1 hu).1
        rw [altCells_length, hlen] at this; exact this
      have hk : j / 6 < len := by omega
      have hi : j % 6 < 6 := Nat.mod_lt _ (by decide)
      have hcl : (f (j / 6)).cells.length = 6 := rfl
      have h1 := altCells_get ((List.range len).map f) (j / 6) (by rw [hlen]; exact hk) (j % 6) ((f (j / 6)).cells[j % 6]'(by rw [hcl]; exact hi)) (by simp)
      have e : j / 6 * 6 + j % 6 = j := by omega
      rw [e, hu] at h1
      refine ⟨j / 6, j % 6, hk, e.symm, ?_⟩
      rw [List.getElem?_eq_getElem (by rw [hcl]; exact hi)]
      exact h1.symm ▸ rfl
    refine slice_abs hl (by unfold maxLen at hm; omega) (by rw [altCells_length, hlen]) (by decide) (fun j u hu => ?_) (fun j u hu => ?_)
    · obtain ⟨k, i, hk, rfl, hi⟩ := hget j u hu
      match i, hi with
      | 0, hi => cases hi; rfl
      | 1, hi => cases hi; rfl
      | 2, hi => cases hi; rfl
      | 3, hi => cases hi; rfl
      | 4, hi => cases hi; rfl
      | 5, hi => cases hi; rfl
      | i + 6, hi => simp [Alt.cells] at hi
    · obtain ⟨k, i, hk, rfl, hi⟩ := hget j u hu
      exact hf' k hk i u hi
end

theorem ownOne : ownKnob Try.prog.godebug = none := by kernel_rfl
theorem laidOut : laidOutB Try.prog = true := by kernel_rfl

theorem fields25 : ∃ f0 f1 : Field, Try.prog.underlying 25 = some (.struct #[f0, f1]) ∧ f0.type = 22 ∧ f1.type = 23 ∧ f0.offset = 0 ∧ f1.offset = 1 ∧ Try.prog.cellsOf 22 = 1 ∧ Try.prog.cellsOf 23 = 1 ∧ Try.prog.cellsOf 25 = 2 :=
  ⟨(fieldOf Try.prog 25 0).getD default, (fieldOf Try.prog 25 1).getD default, by kernel_rfl, by kernel_rfl, by kernel_rfl, by kernel_rfl, by kernel_rfl, by kernel_rfl, by kernel_rfl, by kernel_rfl⟩

section
variable {H : Type} {enc : TypeId × Value → H} {w : World}
theorem sheet_abs {r : Reach} {b0 : Nat} {v : Value} {d : DataW H} {p : List MemPlace} (hval : Value.okWide Try.prog w r b0 25 v) (h : DataW.Trod enc Try.prog w 0 (fun _ => true) true 25 v d p) : ∃ s, SheetV (absH w) (absV w.heap.size 8 v) s := by
  obtain ⟨f0, f1, hu, h0, h1, h2, h3, h4, h5, h6⟩ := fields25
  obtain ⟨cs, rfl, hcs⟩ := okWide_struct hu hval
  obtain ⟨fuel, hf⟩ := h
  obtain ⟨y0, y1, n, _, _, ht0, ht1⟩ := trod_struct2 hu hf
  rw [h6] at hcs
  obtain ⟨a, b, rfl⟩ : ∃ a b, cs = #[a, b] := by
    obtain ⟨l⟩ := cs
    match l, hcs with
    | [a, b], _ => exact ⟨a, b, rfl⟩
  rw [h0, h2, h4] at ht0
  rw [h1, h3, h5] at ht1
  obtain ⟨xs, hx⟩ := ints_abs (d := 6) (v := a) (by simpa [Value.cells] using ht0)
  obtain ⟨l, hl⟩ := alts_abs (d := 6) (v := b) (by simpa [Value.cells] using ht1)
  exact ⟨⟨xs, l⟩, _, _, by simp [absV], hx, hl⟩
end

theorem fields27 : ∃ f0 f1 f2 f3 : Field, Try.prog.underlying 27 = some (.struct #[f0, f1, f2, f3]) ∧ (f0.type = 22 ∧ f1.type = 3 ∧ f2.type = 3 ∧ f3.type = 3) ∧ (f0.offset = 0 ∧ f1.offset = 1 ∧ f2.offset = 2 ∧ f3.offset = 3) ∧ Try.prog.cellsOf 22 = 1 ∧ Try.prog.cellsOf 3 = 1 ∧ Try.prog.cellsOf 27 = 4 :=
  ⟨(fieldOf Try.prog 27 0).getD default, (fieldOf Try.prog 27 1).getD default, (fieldOf Try.prog 27 2).getD default, (fieldOf Try.prog 27 3).getD default, by kernel_rfl, by refine ⟨?_, ?_, ?_, ?_⟩ <;> kernel_rfl, by refine ⟨?_, ?_, ?_, ?_⟩ <;> kernel_rfl, by kernel_rfl, by kernel_rfl, by kernel_rfl⟩
section
variable {H : Type} {enc : TypeId × Value → H} {w : World}
theorem copy_abs {r : Reach} {b0 : Nat} {v : Value} {d : DataW H} {p : List MemPlace} (hval : Value.okWide Try.prog w r b0 27 v) (h : DataW.Trod enc Try.prog w 0 (fun _ => true) true 27 v d p) : ∃ c, CopyV (absH w) (absV w.heap.size 8 v) c := by
  obtain ⟨f0, f1, f2, f3, hu, ⟨t0, t1, t2, t3⟩, ⟨o0, o1, o2, o3⟩, h4, h5, h6⟩ := fields27
  obtain ⟨cs, rfl, hcs⟩ := okWide_struct hu hval
  obtain ⟨fuel, hf⟩ := h
  obtain ⟨xs, n, _, _, _, _, ht⟩ := DataW.trod_struct hu hf
  rw [h6] at hcs
  obtain ⟨a, b, c, e, rfl⟩ : ∃ a b c e, cs = #[a, b, c, e] := by
    obtain ⟨l⟩ := cs
    match l, hcs with
    | [a, b, c, e], _ => exact ⟨a, b, c, e, rfl⟩
  have ht0 := ht 0 f0 rfl
  have ht1 := ht 1 f1 rfl
  have ht2 := ht 2 f2 rfl
  have ht3 := ht 3 f3 rfl
  rw [t0, o0, h4] at ht0
  rw [t1, o1, h5] at ht1
  rw [t2, o2, h5] at ht2
  rw [t3, o3, h5] at ht3
  have hlen : xs.length = 4 := by assumption
  rw [List.getElem?_eq_getElem (by omega)] at ht0 ht1 ht2 ht3
  obtain ⟨ws, hx⟩ := ints_abs (d := 6) (v := a) (by simpa [Value.cells] using ht0)
  obtain ⟨z1, hz1, _, _⟩ := DataW.trod_int Try.underlying3 (show DataW.trod enc Try.prog w 0 (fun _ => true) true n 3 [b] = _ by simpa [Value.cells] using ht1)
  obtain ⟨z2, hz2, _, _⟩ := DataW.trod_int Try.underlying3 (show DataW.trod enc Try.prog w 0 (fun _ => true) true n 3 [c] = _ by simpa [Value.cells] using ht2)
  obtain ⟨z3, hz3, _, _⟩ := DataW.trod_int Try.underlying3 (show DataW.trod enc Try.prog w 0 (fun _ => true) true n 3 [e] = _ by simpa [Value.cells] using ht3)
  injection hz1 with hz1 _
  injection hz2 with hz2 _
  injection hz3 with hz3 _
  subst hz1 hz2 hz3
  exact ⟨⟨ws, z1, z2, z3⟩, _, by simp [absV], hx⟩
theorem list_abs {r : Reach} {b0 : Nat} {v : Value} {d : DataW H} {p : List MemPlace} (hval : Value.okWide Try.prog w r b0 22 v) (h : DataW.Trod enc Try.prog w 0 (fun _ => true) true 22 v d p) : ∃ xs, Ints (absH w) (absV w.heap.size 8 v) xs := by
  obtain ⟨a, len, cap, rfl⟩ := okWide_slice Try.underlying22 hval
  obtain ⟨fuel, hf⟩ := h
  exact ints_abs (d := 7) hf
end
end Go.Proofs.Try
