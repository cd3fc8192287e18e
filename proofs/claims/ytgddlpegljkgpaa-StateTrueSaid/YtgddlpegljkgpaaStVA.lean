/- Contracts of functions, walked. -/
import Derived.Test.YtgddlpegljkgpaaStSF
import Derived.Test.YtgddlpegljkgpaaAwB
import Derived.Test.YtgddlpegljkgpaaStSN
import Derived.Test.YtgddlpegljkgpaaStUF0
import Derived.Test.YtgddlpegljkgpaaStTS
set_option linter.all false
namespace Go.Proofs.Try
open Go Go.Am Go.RowKit
set_option maxRecDepth 100000

theorem Spans.src {H : AHeap} {a : Option Addr} {n c : Nat} {l : List (Int × Int)} (h : Spans H (.slice a n c) l) (hn : 0 < n) : srcCells H 2 (.slice a n c) = some (n, spanCells l) ∧ n = l.length := by
  obtain ⟨h1, h2, a', c', h3, h4⟩ := h
  cases h3
  obtain ⟨b, o, sp, rfl, h6, h7⟩ := h4 hn
  have hne : spanCells l ≠ [] := by intro e; rw [e] at h1; simp at h1; omega
  have := cellsAt_of hne h7
  rw [h1] at this
  exact ⟨srcCells_some hn this, rfl⟩

end Go.Proofs.Try
namespace Go.Proofs.Try
open Go Go.Am Go.RowKit
set_option maxRecDepth 100000

def putL (s : Sheet) (line w : Int) : Nat → List (Int × Int) → List (Int × Int)
  | 0, acc => acc
  | k + 1, acc => putL s line w k (if (hasOn s line (730 - k)).offers w = true then joinS acc (730 - k, 730 - k) else acc)
def refReads (s : Sheet) (line d : Int) : List Int := if readsErr s line d = 0 then (hasOn s line d).reads else []
end Go.Proofs.Try
namespace Go.Proofs.Try
open Go Go.Am Go.RowKit
set_option maxRecDepth 100000

section
variable {H : AHeap} {kp : Value → AHeap → Option Prop} {ev : Operand → Value} {dst : Option Tmp} {ty t' : TypeId} {src : String} {af : Array Edge} {g : Option (Nat × Bool)} {x y : Operand} {β : Type} {kk : K β} {other : Unit → Option β}
@[go_sem] theorem aBin_aggN {t : TypeId} {a b : Array Value} : aBin Try.prog .neq t (.agg a) (.agg b) H kk other = other () := by
  have h : nilEq Try.prog t (.agg a) (.agg b) = none := by
    unfold nilEq
    split <;> simp_all
  simp only [aBin, aEq, h]
end


end Go.Proofs.Try
namespace Go.Proofs.Try
open Go Go.Am Go.RowKit
set_option maxRecDepth 100000



def hasAt (s : Sheet) (line day : Int) : Has := atDay line day ⟨s.words[line.toNat]!, 0, false⟩ s.alts

theorem readsErr_ok {s : Sheet} {line day : Int} (h : readsErr s line day = 0) : errLine s line = 0 ∧ 0 ≤ day ∧ day ≤ 730 := by
  unfold readsErr at h
  by_cases h1 : errLine s line = 0
  · rw [if_pos h1] at h
    by_cases h2 : win 0 730 day = true
    · exact ⟨h1, win_iff.1 h2⟩
    · rw [if_neg h2] at h; cases h
  · rw [if_neg h1] at h; exact absurd h h1

theorem readsAt_eq {s : Sheet} {line day : Int} (h : readsErr s line day = 0) : readsAt s line day = (hasAt s line day).reads := by
  obtain ⟨h1, h2, h3⟩ := readsErr_ok h
  obtain ⟨he, hl0, hl1⟩ := errLine_ok h1
  obtain ⟨x, hx1, hx2, hx3⟩ := go_ok line day s.alts 0 ⟨s.words[line.toNat]!, 0, false⟩ (err_ok he).1 h2 h3
  rw [readsAt, if_pos h, findS, strs, hx1]
  simp only [Option.getD_some, hx2, hasAt]

end Go.Proofs.Try
namespace Go.Proofs.Try
open Go Go.Am Go.RowKit Go.Co
set_option maxRecDepth 100000

theorem refReads_eq (s : Sheet) (line d : Int) : refReads s line d = readsAt s line d := by
  by_cases h : readsErr s line d = 0
  · rw [readsAt_eq h, refReads, if_pos h]; rfl
  · rw [refReads, if_neg h, readsAt, if_neg h]
end Go.Proofs.Try
namespace Go.Proofs.Try
open Go Go.Am Go.RowKit Go.Co

theorem few_alts {s : Sheet} (hf : fewB s = true) (h : err s = 0) : s.alts.length ≤ 12 := by
  have := (err_ok h).2.2.2
  simp only [fewB, Bool.and_eq_true, Bool.or_eq_true, decide_eq_true_eq] at hf
  omega
theorem fewY {s : Sheet} {c : Copy} (hf : fewB s = true) (h : errExt s c = 0) : s.alts.length ≤ 12 := few_alts hf (errCopy_ok (ends_n h).1).1
end Go.Proofs.Try
namespace Go.Proofs.Try
open Go Go.Am Go.RowKit Go.Co
set_option maxRecDepth 100000

theorem after_words {c : Has} {a : Alt} {n : Int} (ha : a.right n = true) (h1 : win 0 9999 c.text = true) (h2 : win 0 9999 c.margin = true) : win 0 9999 (c.after a).text = true ∧ win 0 9999 (c.after a).margin = true := by
  have hs : a.suits = true := by simp only [Alt.right, Bool.and_eq_true] at ha; exact ha.2.2.2.2
  have hz : win 0 9999 0 = true := by decide
  have hw : a.kind = 3 ∨ a.kind = 4 → win 0 9999 a.word = true := fun h => by
    rw [Alt.suits, if_neg (by omega), if_pos h, Bool.and_eq_true, win_iff] at hs
    rw [win_iff]; omega
  unfold Has.after
  split
  · exact ⟨h1, h2⟩
  split
  · exact ⟨hz, h2⟩
  split
  · exact ⟨hz, hz⟩
  split
  · exact ⟨h1, hw (.inl ‹_›)⟩
  split
  · exact ⟨hw (.inr ‹_›), hz⟩
  · exact ⟨h1, h2⟩
theorem atDay_words (line d n : Int) : ∀ (l : List Alt) (c : Has), (∀ a, a ∈ l → a.right n = true) → win 0 9999 c.text = true → win 0 9999 c.margin = true → win 0 9999 (atDay line d c l).text = true ∧ win 0 9999 (atDay line d c l).margin = true
  | [], c, _, h1, h2 => ⟨h1, h2⟩
  | a :: t, c, hr, h1, h2 => by
    rw [atDay]
    split
    · have h3 := after_words (hr a (by simp)) h1 h2
      exact atDay_words line d n t _ (fun b hb => hr b (by simp [hb])) h3.1 h3.2
    · exact atDay_words line d n t _ (fun b hb => hr b (by simp [hb])) h1 h2
theorem hasOn_words {s : Sheet} (h : err s = 0) {i : Nat} (hi : i < s.words.length) (d : Int) : win 0 9999 (hasOn s i d).text = true ∧ win 0 9999 (hasOn s i d).margin = true := by
  have hg : errGo s.words.length 0 [] s.alts = 0 := by
    unfold err at h
    split at h
    · cases h
    · split at h
      · cases h
      · exact h
  refine atDay_words _ _ _ _ _ (errGo_all _ _ _ _ hg).1 ?_ (show win 0 9999 0 = true by decide)
  have h2 := (err_ok h).2.2.1
  rw [wordsOk, List.all_eq_true] at h2
  have h3 := win_iff.1 (h2 s.words[i] (List.getElem_mem hi))
  have h4 : s.words[(i : Int).toNat]! = s.words[i] := by simp [hi]
  show win 0 9999 (s.words[(i : Int).toNat]!) = true
  rw [h4, win_iff]; omega

def pickW (l : List Int) (b : Bool) : Int := if 1 < l.length ∧ b = true then l.getD 1 0 else if 0 < l.length then l.getD 0 0 else 0
theorem reads0 {s : Sheet} (h : err s = 0) {i : Nat} (hi : i < s.words.length) {d : Int} (h0 : 0 ≤ d) (h1 : d ≤ 730) : readsErr s i d = 0 := by
  have hl : errLine s i = 0 := by rw [errLine, if_neg (show ¬ err s ≠ 0 by simp [h]), if_pos (win_iff.2 ⟨by omega, by omega⟩)]
  rw [readsErr, if_pos hl, if_pos (win_iff.2 ⟨h0, h1⟩)]
theorem pick_ok {s : Sheet} (h : err s = 0) {i : Nat} (hi : i < s.words.length) {d : Int} (h0 : 0 ≤ d) (h1 : d ≤ 730) (b : Bool) : (hasOn s i d).offers (pickW (readsAt s i d) b) = true ∧ win 0 9999 (pickW (readsAt s i d) b) = true := by
  have hr := reads0 h hi h0 h1
  rw [← refReads_eq, refReads, if_pos hr]
  obtain ⟨w1, w2⟩ := hasOn_words h hi d
  generalize hasOn s i d = c at w1 w2
  have hm : pickW c.reads b ∈ c.reads ∨ (pickW c.reads b = 0 ∧ c.reads.length = 0) := by
    unfold pickW
    generalize c.reads = l
    rcases l with _ | ⟨x, _ | ⟨y, t⟩⟩
    · right; simp
    · left; simp
    · left
      split <;> simp
  constructor
  · rw [← reads_offers]
    rcases hm with hm | ⟨h5, h6⟩
    · simp [hm]
    · rw [h5, h6]; simp
  · generalize pickW c.reads b = w at hm
    rcases hm with hm | ⟨h5, -⟩
    · unfold Has.reads at hm
      rw [List.mem_append] at hm
      rcases hm with hm | hm
      · split at hm
        · cases hm
        · rw [List.mem_singleton] at hm; rw [hm]; exact w1
      · split at hm
        · cases hm
        · rw [List.mem_singleton] at hm; rw [hm]; exact w2
    · rw [h5]; decide

structure Built (s : Sheet) (p : Nat) (now : Int) (days words : List Int) (k : Nat) : Prop where
  dl : days.length = k
  wl : words.length = k
  le : ∀ j, j < k → days.getD j 0 ≤ now
  n0 : 0 ≤ now
  top : now ≤ 299 + 19 * (k : Int)
  ok : ∀ j, j < k → 0 ≤ days.getD j 0 ∧ days.getD j 0 ≤ 730 ∧ (hasOn s j (days.getD j 0)).offers (words.getD j 0) = true ∧ win 0 9999 (words.getD j 0) = true
  low : ∀ j, j < k → lowL p days j ≤ days.getD j 0
theorem getD_app {l : List Int} {x : Int} {j : Nat} (h : j < l.length) : (l ++ [x]).getD j 0 = l.getD j 0 := by
  simp [List.getD, List.getElem?_append, h]
theorem getD_last {l : List Int} {x : Int} : (l ++ [x]).getD l.length 0 = x := by
  simp [List.getD]
theorem Built.zero {s : Sheet} {p : Nat} {now : Int} (h0 : 0 ≤ now) (h1 : now ≤ 299) : Built s p now [] [] 0 :=
  ⟨rfl, rfl, fun j hj => by omega, h0, by omega, fun j hj => by omega, fun j hj => by omega⟩
theorem Built.step {s : Sheet} {p k : Nat} {now now2 : Int} {days words : List Int} (he : err s = 0) (hb : Built s p now days words k) (hp : 1 ≤ p) (hk : k < s.words.length) (h8 : s.words.length ≤ 8) (h1 : now ≤ now2) (h2 : now2 ≤ now + 19) (h3 : p ≤ k → days.getD (k - p) 0 < now2) (b : Bool) : Built s p now2 (days ++ [now2]) (words ++ [pickW (readsAt s k now2) b]) (k + 1) := by
  obtain ⟨dl, wl, le, n0, top, ok, low⟩ := hb
  have hlow : ∀ j, j < k → lowL p (days ++ [now2]) j = lowL p days j := fun j hj => by
    unfold lowL
    rw [show (days ++ [now2]).getD (j - 1) 0 = days.getD (j - 1) 0 from getD_app (by omega), show (days ++ [now2]).getD (j - p) 0 = days.getD (j - p) 0 from getD_app (by omega)]
  have hlast : (days ++ [now2]).getD k 0 = now2 := by rw [← dl]; exact getD_last
  have hlastw : ∀ x, (words ++ [x]).getD k 0 = x := fun x => by rw [← wl]; exact getD_last
  refine ⟨by simp [dl], by simp [wl], fun j hj => ?_, by omega, by omega, fun j hj => ?_, fun j hj => ?_⟩
  · by_cases hjk : j < k
    · rw [getD_app (by omega)]; have := le j hjk; omega
    · rw [show j = k by omega, hlast]; omega
  · by_cases hjk : j < k
    · rw [getD_app (by omega), getD_app (by omega)]; exact ok j hjk
    · rw [show j = k by omega, hlast, hlastw]
      have h5 := pick_ok he hk (show 0 ≤ now2 by omega) (show now2 ≤ 730 by omega) b
      exact ⟨by omega, by omega, h5.1, h5.2⟩
  · by_cases hjk : j < k
    · rw [getD_app (by omega), hlow j hjk]; exact low j hjk
    · rw [show j = k by omega, hlast]
      have e1 : 1 ≤ k → (days ++ [now2]).getD (k - 1) 0 ≤ now2 := fun h => by rw [getD_app (by omega)]; have := le (k - 1) (by omega); omega
      have e2 : p ≤ k → (days ++ [now2]).getD (k - p) 0 + 1 ≤ now2 := fun h => by rw [getD_app (by omega)]; have := h3 h; omega
      unfold lowL
      split
      · rename_i hpk
        have := e2 hpk
        split
        · have := e1 ‹_›; omega
        · omega
      · split
        · exact e1 ‹_›
        · omega
theorem Built.fits {s : Sheet} {p : Nat} {now : Int} {days words : List Int} (he : err s = 0) (hp : 1 ≤ p) (hp2 : p ≤ 40) (hb : Built s p now days words s.words.length) : FitsOk s ⟨words, 0, 730, p⟩ days := by
  obtain ⟨dl, wl, -, -, -, ok, low⟩ := hb
  have hc : errCopy s ⟨words, 0, 730, p⟩ = 0 := by
    have hw : wordsOk 0 words = true := by
      rw [wordsOk, List.all_eq_true]
      intro x hx
      obtain ⟨j, hj, rfl⟩ := List.mem_iff_getElem.1 hx
      have := (ok j (by omega)).2.2.2
      rwa [List.getD_eq_getElem?_getD, List.getElem?_eq_getElem hj] at this
    rw [errCopy, if_neg (by simp [he]), if_pos]
    simp only [copyOk, Bool.and_eq_true, decide_eq_true_eq, win_iff]
    exact ⟨wl, hw, by omega, by omega, by omega, by omega⟩
  refine fitsOk_fit.2 ⟨hc, by rw [courseOf_len]; show days.length = words.length; omega, fun i hi => ⟨?_, ?_⟩⟩
  · rw [Course.op, courseOf_ins hc (by show i < words.length; omega)]
    obtain ⟨o1, o2, o3, -⟩ := ok i (by omega)
    simp only [Bool.and_eq_true, decide_eq_true_eq]
    exact ⟨⟨o1, o2⟩, o3⟩
  · have := low i (by omega)
    rwa [show (Copy.per ⟨words, 0, 730, (p : Int)⟩).toNat = p from by show ((p : Int)).toNat = p; omega]

theorem took_long {s : Sheet} {c : Copy} {days : List Int} {lo hi : Int} (h : FitsOk s c days) (hl : LongOk s c lo hi) : lo ≤ days.getD (days.length - 1) 0 - days.getD 0 0 ∧ days.getD (days.length - 1) 0 - days.getD 0 0 ≤ hi := by
  obtain ⟨he, hlen, hends⟩ := fits_ends h
  obtain ⟨h0, hf⟩ := fitsOk_fit.1 h
  have hcl := (errCopy_ok h0).2.1
  have k := known h0
  unfold LongOk at hl
  split at hl
  · rename_i h1
    obtain ⟨rfl, rfl⟩ := hl
    rw [show days.length - 1 = 0 by omega]; omega
  · obtain ⟨hs, rfl⟩ := hl
    have n1 := k.n1
    have a1 := hends 0 (by omega)
    have a2 := hends (s.words.length - 1) (by omega)
    have hfp := (courseOf s c).fit_poss k.ord k.p1 hf (k := 0) (by omega)
    have h3 := hs.le _ hfp
    obtain ⟨-, -, h6, -⟩ := (courseOf s c).early_from (b := days.getD 0 0) k.ord k.p1 hf (Int.le_refl _)
    have h8 := h6 (days.length - 1) (by omega)
    have h9 : (courseOf s c).took c.per.toNat (days.getD 0 0) = ((courseOf s c).early c.per.toNat (days.getD 0 0)).getD (days.length - 1) 0 - days.getD 0 0 := by rw [Course.took, courseOf_len, hcl, hlen]
    rw [hcl, hlen] at *
    omega
theorem days_poss {s : Sheet} {c : Copy} {days : List Int} (h : FitsOk s c days) {k : Nat} (hk : k < days.length) : errPoss s c k = 0 ∧ insideL (possL s c k) (days.getD k 0) = true := by
  obtain ⟨he, hlen, -⟩ := fits_ends h
  obtain ⟨h0, hf⟩ := fitsOk_fit.1 h
  have kn := known h0
  have hE : errPoss s c k = 0 := by
    
    have hl : errLine s k = 0 := by rw [errLine, if_neg (show ¬ err s ≠ 0 by simp [(errCopy_ok h0).1]), if_pos (win_iff.2 ⟨by omega, by omega⟩)]
    rw [errPoss, if_neg (show ¬ errCopy s c ≠ 0 by simp [h0]), if_neg (show ¬ errLine s k ≠ 0 by simp [hl]), he]
  refine ⟨hE, ?_⟩
  rw [possL, if_pos hE, insideL_ins, Int.toNat_natCast]
  exact (courseOf s c).fit_poss kn.ord kn.p1 hf hk
theorem seen_before {s : Sheet} {c : Copy} {days : List Int} {a : Alt} (h : FitsOk s c days) (ha : a ∈ s.alts) : ((∃ m : Nat, a.frm ≤ m ∧ (m : Int) ≤ a.to ∧ a.day ≤ days.getD m 0) → a.id ∈ maybeL s c) ∧ ((∀ m : Nat, a.frm ≤ m → (m : Int) ≤ a.to → days.getD m 0 < a.day) → ¬ a.id ∈ sureL s c) := by
  obtain ⟨he, hlen, hends⟩ := fits_ends h
  obtain ⟨h0, hf⟩ := fitsOk_fit.1 h
  have hes := (errCopy_ok h0).1
  obtain ⟨e1, e2, e3, -, -⟩ := (err_alts hes).1 a ha
  obtain ⟨-, f2, -⟩ := ends_ok he
  constructor
  · rintro ⟨m, m1, m2, m3⟩
    rw [maybeL, if_pos he, idsL_of hes ha, bef, decide_eq_true_eq]
    have b1 := (hends m (by omega)).2
    have b2 := f2 m a.to.toNat (by omega) (by omega)
    omega
  · intro hm
    rw [sureL, if_pos he, idsL_of hes ha, bef, decide_eq_true_eq]
    have b1 := (hends a.to.toNat (by omega)).1
    have b2 := hm a.to.toNat (by omega) (by omega)
    omega
end Go.Proofs.Try
