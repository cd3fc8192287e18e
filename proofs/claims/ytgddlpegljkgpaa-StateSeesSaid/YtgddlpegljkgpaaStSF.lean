/- Contracts of functions, walked. -/
import Derived.Test.YtgddlpegljkgpaaStTB
import Derived.Test.YtgddlpegljkgpaaStS8
import Derived.Test.YtgddlpegljkgpaaStSN
import Derived.Test.YtgddlpegljkgpaaAwB
set_option linter.all false
namespace Go.Proofs.Try
open Go Go.Am Go.RowKit Go.Co
theorem clampL_get (xs : List Int) {i : Nat} (hi : i < xs.length) : (clampL xs).getD i 0 = clampI (xs.getD i 0) := by
  simp [clampL, List.getD_eq_getElem?_getD, hi]
def Course.holds (x : Course) (p : Nat) (fl : List Int) : Bool := holdGo x p (clampL fl) fl.length 0
theorem Course.holds_le {x : Course} {p : Nat} {fl g : List Int} (h : x.ord) (hp : 1 ≤ p) (hf : x.holds p fl = true) (hl : fl.length ≤ g.length) (hg : x.fit p g) : ∀ i, i < fl.length → fl.getD i 0 ≤ g.getD i 0 := by
  intro i hi
  have h1 := floors_ok (op := x.op) hp (fun i f => x.nx_ok h i f) (clampL fl) g fl.length (fun j hj => (holdGo_iff _ _).1 hf j (Nat.zero_le _) (by omega)) (fun j hj => hg.2 j (by omega)) i hi
  rw [clampL_get fl hi] at h1
  have := x.fit_in h hg i (by omega)
  simp only [clampI] at h1
  omega
theorem clampL_id {g : List Int} (h : ∀ i, i < g.length → -1 ≤ g.getD i 0 ∧ g.getD i 0 ≤ 731) : clampL g = g := by
  refine List.ext_getElem (by rw [clampL_length]) fun i h1 h2 => ?_
  have := h i h2
  have h3 := clampL_get g h2
  rw [List.getD_eq_getElem?_getD, List.getElem?_eq_getElem h1, List.getD_eq_getElem?_getD, List.getElem?_eq_getElem h2] at h3
  rw [List.getD_eq_getElem?_getD, List.getElem?_eq_getElem h2] at this
  simp only [Option.getD_some] at h3 this
  rw [h3]; simp only [clampI]; omega
theorem Course.early_to {x : Course} {p : Nat} (h : x.ord) (hp : 1 ≤ p) : FitTo x.op p (x.early p 0) (x.early p 0).length ∧ (x.early p 0).length ≤ x.open_.length :=
  ⟨(early_ok (op := x.op) hp (fun i f => x.nx_ok h i f) x.open_.length (frm := 0)).2.1, (early_ok (op := x.op) hp (fun i f => x.nx_ok h i f) x.open_.length (frm := 0)).1⟩
theorem Course.early_in0 {x : Course} {p : Nat} (h : x.ord) (hp : 1 ≤ p) : ∀ i, i < (x.early p 0).length → 0 ≤ (x.early p 0).getD i 0 ∧ (x.early p 0).getD i 0 ≤ 730 := fun i hi => x.op_in h i _ ((x.early_to h hp).1 i hi).1
theorem Course.early_nx {x : Course} {p : Nat} (h : x.ord) (hp : 1 ≤ p) {j : Nat} (hj : j < (x.early p 0).length) : (x.early p 0).getD j 0 ≤ x.nx j (lowL p (x.early p 0) j) := by
  obtain ⟨hft, hl⟩ := x.early_to h hp
  have hin := x.early_in0 (p := p) h hp
  have hE := early_ok (op := x.op) hp (fun i f => x.nx_ok h i f) x.open_.length (frm := 0)
  generalize hd : x.nx j (lowL p (x.early p 0) j) = d
  rcases x.nx_ok h j (lowL p (x.early p 0) j) with ⟨h1, _⟩ | ⟨h1, h2, h3, h4⟩
  · have := (hin j hj).2; omega
  · rw [hd] at h1 h2 h3
    have htl : ((x.early p 0).take j).length = j := by simp; omega
    have e0 : ((x.early p 0).take j ++ [d]).getD j 0 = d := by
      have := @getD_snoc ((x.early p 0).take j) d
      rw [htl] at this; exact this
    have hfit : FitTo x.op p ((x.early p 0).take j ++ [d]) (j + 1) := by
      intro i hi
      have hlow : lowL p ((x.early p 0).take j ++ [d]) i = lowL p (x.early p 0) i := lowL_same hp fun k hk => by
        rw [getD_app (by omega)]
        simp [List.getD_eq_getElem?_getD, show k < j by omega]
      rw [hlow]
      by_cases hij : i = j
      · subst hij
        rw [e0]; exact ⟨h3, h2⟩
      · have e : ((x.early p 0).take j ++ [d]).getD i 0 = (x.early p 0).getD i 0 := by
          rw [getD_app (by omega)]
          simp [List.getD_eq_getElem?_getD, show i < j by omega]
        rw [e]; exact hft i (by omega)
    have := (hE.2.2.2 ((x.early p 0).take j ++ [d]) (j + 1) (by omega) hfit (fun i hi => (x.op_in h i _ (hfit i hi).1).1)).2 j (by omega)
    rw [e0] at this
    exact this
theorem Course.early_holds {x : Course} {p : Nat} (h : x.ord) (hp : 1 ≤ p) : x.holds p (x.early p 0) = true := by
  have hin := x.early_in0 (p := p) h hp
  rw [Course.holds, clampL_id (fun i hi => by have := hin i hi; omega), holdGo_iff]
  exact fun j _ hj => x.early_nx h hp (by omega)
theorem early_stop {nx : Nat → Int → Int} {p : Nat} {frm : Int} : ∀ (k : Nat) (days : List Int), (Co.early nx p frm k days).length < days.length + k → nx (Co.early nx p frm k days).length (max frm (lowL p (Co.early nx p frm k days) (Co.early nx p frm k days).length)) = 731
  | 0, days, h => by simp [Co.early] at h
  | k + 1, days, h => by
    rw [Co.early] at h ⊢
    split
    · assumption
    · rename_i h1
      rw [if_neg h1] at h
      exact early_stop k _ (by simp; omega)
theorem Course.clash_holds {x : Course} {p : Nat} {fin : Int} (h : x.ord) (hp : 1 ≤ p) (hm : x.made p = false) (hf : 0 ≤ fin ∧ fin ≤ 730) : x.holds p (x.early p 0 ++ [fin + 1]) = true ∧ (x.early p 0 ++ [fin + 1]).length ≤ x.open_.length := by
  obtain ⟨hft, hl⟩ := x.early_to h hp
  have hin := x.early_in0 (p := p) h hp
  have hlt : (x.early p 0).length < x.open_.length := by
    have : (x.early p 0).length ≠ x.open_.length := by simpa [Course.made] using hm
    omega
  refine ⟨?_, by simp; omega⟩
  have hlen : (x.early p 0 ++ [fin + 1]).length = (x.early p 0).length + 1 := by simp
  rw [Course.holds, clampL_id, holdGo_iff]
  · intro j _ hj
    rw [lowL_app hp (by omega)]
    rcases Nat.lt_or_ge j (x.early p 0).length with h1 | h1
    · rw [getD_app h1]; exact x.early_nx h hp h1
    · have : j = (x.early p 0).length := by omega
      subst this
      rw [getD_snoc]
      have hs := early_stop (nx := x.nx) (p := p) (frm := 0) x.open_.length [] (by rw [List.length_nil, Nat.zero_add]; exact hlt)
      have h0 : 0 ≤ lowL p (x.early p 0) (x.early p 0).length := by
        unfold lowL
        split
        · split
          · have := hin ((x.early p 0).length - 1) (by omega); omega
          · have := hin ((x.early p 0).length - p)
            by_cases h9 : (x.early p 0).length = 0
            · omega
            · omega
        · split
          · exact (hin ((x.early p 0).length - 1) (by omega)).1
          · exact Int.le_refl 0
      change x.nx (x.early p 0).length (max 0 (lowL p (x.early p 0) (x.early p 0).length)) = 731 at hs
      rw [show max 0 (lowL p (x.early p 0) (x.early p 0).length) = lowL p (x.early p 0) (x.early p 0).length by omega] at hs
      omega
  · intro i hi
    rcases Nat.lt_or_ge i (x.early p 0).length with h1 | h1
    · rw [getD_app h1]; have := hin i h1; omega
    · have : i = (x.early p 0).length := by omega
      subst this
      rw [getD_snoc]; omega
theorem Course.not_made {x : Course} {p : Nat} {fin : Int} {fl : List Int} (h : x.ord) (hp : 1 ≤ p) (hf : x.holds p fl = true) (hl : fl.length ≤ x.open_.length) (h1 : 1 ≤ fl.length) (hop : ∀ i d, i < x.open_.length → x.op i d = true → d ≤ fin) (hg : fin < fl.getD (fl.length - 1) 0) : x.made p = false := by
  rw [Bool.eq_false_iff]
  intro hm
  have hfit := x.early_fit h hp hm
  have h2 := x.holds_le h hp hf (by rw [hfit.1]; exact hl) hfit (fl.length - 1) (by omega)
  have h3 := hop _ _ (by omega) (hfit.2 (fl.length - 1) (by rw [hfit.1]; omega)).1
  omega
def Course.ceils (x : Course) (p : Nat) (ce : List Int) : Bool := x.mir.holds p (flipD (clampL ce))
theorem Course.ceils_le {x : Course} {p : Nat} {ce g : List Int} (h : x.ord) (hp : 1 ≤ p) (hf : x.ceils p ce = true) (hl : ce.length = g.length) (hg : x.fit p g) : ∀ i, i < g.length → g.getD i 0 ≤ ce.getD i 0 := by
  intro i hi
  have hcl : (flipD (clampL ce)).length = g.length := by rw [flipD_len, clampL_length]; exact hl
  have h1 := x.mir.holds_le (Course.mir_ord h) hp hf (by rw [hcl, flipD_len]; omega) (x.mir_fit h hp hg)
  have h2 := flip_le (a := flipD (clampL ce)) hcl (fun j hj => h1 j (by omega)) i hi
  rw [flipD_flip, clampL_get ce (by omega)] at h2
  have := x.fit_in h hg i hi
  simp only [clampI] at h2
  omega
theorem Course.late_ceils {x : Course} {p : Nat} (h : x.ord) (hp : 1 ≤ p) (hm : x.made p = true) : x.ceils p (x.late p) = true := by
  have hf := x.late_fit h hp hm
  have h1 := clampL_id (fun i hi => by have := x.fit_in h hf i hi; omega)
  rw [Course.ceils, h1, Course.late, flipD_flip]
  exact x.mir.early_holds (Course.mir_ord h) hp
end Go.Proofs.Try
namespace Go.Proofs.Try
open Go Go.Am Go.RowKit Go.Co

theorem Course.late_len_made {x : Course} {p : Nat} (h : x.ord) (hp : 1 ≤ p) (hm : x.made p = true) : (x.late p).length = x.open_.length := (x.late_fit h hp hm).1
theorem Course.late_get {x : Course} {p : Nat} (h : x.ord) (hp : 1 ≤ p) (hm : x.made p = true) {i : Nat} (hi : i < x.open_.length) : (x.late p).getD i 0 = 730 - (x.mir.early p 0).getD (x.open_.length - 1 - i) 0 := by
  have hl : (x.mir.early p 0).length = x.open_.length := by rw [← flipD_len, ← Course.late, x.late_len_made h hp hm]
  rw [Course.late, flipD_get (by omega), hl]
theorem Course.late_top {x : Course} {p : Nat} (h : x.ord) (hp : 1 ≤ p) (hm : x.made p = true) {i : Nat} (hi : i < x.open_.length) {e : Int} (ho : x.op i e = true) (h1 : i + 1 < x.open_.length → e ≤ (x.late p).getD (i + 1) 0) (h2 : i + p < x.open_.length → e + 1 ≤ (x.late p).getD (i + p) 0) : e ≤ (x.late p).getD i 0 := by
  have hl : (x.mir.early p 0).length = x.open_.length := by rw [← flipD_len, ← Course.late, x.late_len_made h hp hm]
  have hin := x.op_in h i e ho
  have hmo : x.mir.op (x.open_.length - 1 - i) (730 - e) = true := by
    rw [x.mir_op (by omega), show x.open_.length - 1 - (x.open_.length - 1 - i) = i by omega, show (730 : Int) - (730 - e) = e by omega]; exact ho
  have hlow : lowL p (x.mir.early p 0) (x.open_.length - 1 - i) ≤ 730 - e := by
    have g1 : 1 ≤ x.open_.length - 1 - i → (x.mir.early p 0).getD (x.open_.length - 1 - i - 1) 0 ≤ 730 - e := fun hh => by
      have := h1 (by omega)
      rw [x.late_get h hp hm (by omega), show x.open_.length - 1 - (i + 1) = x.open_.length - 1 - i - 1 by omega] at this
      omega
    have g2 : p ≤ x.open_.length - 1 - i → (x.mir.early p 0).getD (x.open_.length - 1 - i - p) 0 + 1 ≤ 730 - e := fun hh => by
      have := h2 (by omega)
      rw [x.late_get h hp hm (by omega), show x.open_.length - 1 - (i + p) = x.open_.length - 1 - i - p by omega] at this
      omega
    unfold lowL
    split
    · rename_i g
      have := g2 g
      split
      · rename_i g'; have := g1 g'; omega
      · omega
    · split
      · rename_i g'; exact g1 g'
      · omega
  have hnx := x.mir.early_nx (Course.mir_ord h) hp (j := x.open_.length - 1 - i) (by omega)
  rw [x.late_get h hp hm hi]
  rcases x.mir.nx_ok (Course.mir_ord h) (x.open_.length - 1 - i) (lowL p (x.mir.early p 0) (x.open_.length - 1 - i)) with ⟨_, g⟩ | ⟨_, _, _, g⟩
  · have := g (730 - e) hlow
    rw [Course.op] at hmo; rw [hmo] at this; cases this
  · have := g (730 - e) hlow (by rw [Course.op] at hmo; exact hmo)
    omega
theorem Course.late_bound {x : Course} {p : Nat} (h : x.ord) (hp : 1 ≤ p) (hm : x.made p = true) {i : Nat} (hi : i < x.open_.length) : x.op i ((x.late p).getD i 0) = true ∧ (i + 1 < x.open_.length → (x.late p).getD i 0 ≤ (x.late p).getD (i + 1) 0) ∧ (i + p < x.open_.length → (x.late p).getD i 0 + 1 ≤ (x.late p).getD (i + p) 0) := by
  have hf := x.late_fit h hp hm
  have hin := x.fit_in h hf
  refine ⟨(hf.2 i (by rw [hf.1]; exact hi)).1, fun hh => ?_, fun hh => ?_⟩
  · have := (lowL_iff (by have := hin (i + 1) (by rw [hf.1]; exact hh); omega)).1 (hf.2 (i + 1) (by rw [hf.1]; exact hh)).2
    have := this.1 (by omega)
    simpa using this
  · have := (lowL_iff (by have := hin (i + p) (by rw [hf.1]; exact hh); omega)).1 (hf.2 (i + p) (by rw [hf.1]; exact hh)).2
    have := this.2 (by omega)
    simpa using this
theorem rowCell {H : AHeap} {b : Nat} {L : List Int} {k : Nat} (h : H.get b = .row (L.map (Value.int .i64)) 3) (hk : k < L.length) : cellAt H b k = some (.int .i64 (L.getD k 0)) := by
  simp [cellAt, h, List.getD_eq_getElem?_getD, hk]
structure LateOk (s : Sheet) (c : Copy) (lt : List Int) (n p : Nat) : Prop where
  len : lt.length = n
  at_ : ∀ i, i < n → (hasOn s i (lt.getD i 0)).offers (c.words.getD i 0) = true ∧ c.beg ≤ lt.getD i 0 ∧ lt.getD i 0 ≤ c.fin
  next : ∀ i, i + 1 < n → lt.getD i 0 ≤ lt.getD (i + 1) 0
  per : ∀ i, i + p < n → lt.getD i 0 + 1 ≤ lt.getD (i + p) 0
  top : ∀ i e, i < n → c.beg ≤ e → e ≤ c.fin → (hasOn s i e).offers (c.words.getD i 0) = true → (i + 1 < n → e ≤ lt.getD (i + 1) 0) → (i + p < n → e + 1 ≤ lt.getD (i + p) 0) → e ≤ lt.getD i 0
theorem late_ok {s : Sheet} {c : Copy} (he : errCopy s c = 0) (hm : (courseOf s c).made c.per.toNat = true) : LateOk s c ((courseOf s c).late c.per.toNat) c.words.length c.per.toNat := by
  have hor := courseOf_ord he
  have hp : 1 ≤ c.per.toNat := by have := (errCopy_ok he).2.2.2.2.2.2.1; omega
  have hl := courseOf_len s c
  have hop : ∀ i d, i < c.words.length → ((courseOf s c).op i d = true ↔ (c.beg ≤ d ∧ d ≤ c.fin) ∧ (hasOn s i d).offers (c.words.getD i 0) = true) := fun i d hi => by
    rw [Course.op, courseOf_ins he hi]; simp
  refine ⟨by rw [(courseOf s c).late_len_made hor hp hm, hl], fun i hi => ?_, fun i hi => ?_, fun i hi => ?_, fun i e hi h1 h2 h3 h4 h5 => ?_⟩
  · have h := ((courseOf s c).late_bound hor hp hm (i := i) (by omega)).1
    rw [hop _ _ hi] at h
    exact ⟨h.2, h.1.1, h.1.2⟩
  · exact ((courseOf s c).late_bound hor hp hm (i := i) (by omega)).2.1 (by omega)
  · exact ((courseOf s c).late_bound hor hp hm (i := i) (by omega)).2.2 (by omega)
  · refine (courseOf s c).late_top hor hp hm (i := i) (by omega) ((hop i e hi).2 ⟨⟨h1, h2⟩, h3⟩) (fun h => h4 (by omega)) (fun h => h5 (by omega))
theorem own_posn {H : AHeap} {base : Nat} {v : Value} {L : List Int} {n : Nat} (h : Own H base v 3 1 (L.map (Value.int .i64))) (hn : L.length = n) (h0 : 0 < n) : ∃ b, v = .slice (some ⟨b, 0, none⟩) n n ∧ base ≤ b ∧ b < H.n ∧ H.get b = .row (L.map (Value.int .i64)) 3 := by
  rcases h with ⟨_, h2⟩ | ⟨b, m, h1, h2, h3, h4, h5, h6⟩
  · have : L = [] := by simpa using h2
    rw [this] at hn; simp at hn; omega
  · have : m = n := by simp at h5; omega
    subst this
    exact ⟨b, h1, h2, h3, h4⟩
theorem ends_n {s : Sheet} {c : Copy} (h : errExt s c = 0) : errCopy s c = 0 ∧ (courseOf s c).made c.per.toNat = true ∧ firstL s c = (courseOf s c).early c.per.toNat 0 ∧ lastL s c = (courseOf s c).late c.per.toNat ∧ (firstL s c).length = s.words.length ∧ (lastL s c).length = s.words.length ∧ 1 ≤ s.words.length ∧ s.words.length ≤ 40 := by
  have h0 : errCopy s c = 0 := by
    unfold errExt at h
    split at h
    · rename_i h1; exact absurd h h1
    · rename_i h1; simpa using h1
  have hm : (courseOf s c).made c.per.toNat = true := by
    rw [errExt, if_neg (by simp [h0])] at h
    split at h
    · rename_i h1; exact h1
    · cases h
  obtain ⟨he0, hlen, -, -, -, -, hp1, -⟩ := errCopy_ok h0
  have hw := win_iff.1 (err_ok he0).2.1
  have hl := courseOf_len s c
  have e1 : firstL s c = (courseOf s c).early c.per.toNat 0 := by rw [firstL, if_pos h]
  have e2 : lastL s c = (courseOf s c).late c.per.toNat := by rw [lastL, if_pos h]
  refine ⟨h0, hm, e1, e2, ?_, ?_, by omega, by omega⟩
  · rw [e1, ((courseOf s c).early_fit (courseOf_ord h0) (by omega) hm).1]; omega
  · rw [e2, (courseOf s c).late_len_made (courseOf_ord h0) (by omega) hm]; omega
end Go.Proofs.Try
namespace Go.Proofs.Try
open Go Go.Am Go.RowKit Go.Co
set_option maxRecDepth 100000

@[go_sem] theorem slHiI {β : Type} {kk : K β} {H : AHeap} {b n c k : Nat} {q : IntKind} (hg : elemIsR H b 3 = true) (hk : k ≤ c) (hc : 0 < c) : aSlice Try.prog 22 (.slice (some ⟨b, 0, none⟩) n c) none (some (.int q (k : Int))) H kk = kk (.slice (some ⟨b, 0, none⟩) k c) H := by
  have h1 : hiOf n c (some (.int q (k : Int))) = some k := by show (if k ≤ c then some k else none) = _; rw [if_pos hk]
  simp only [aSlice, el22, h1, loOf, sz3, Nat.zero_le, if_true, sliceOn, hg, Bool.not_true, Bool.false_eq_true, if_false, hc, Nat.zero_mul, Nat.add_zero, Nat.sub_zero]
@[go_sem] theorem slLoI {β : Type} {kk : K β} {H : AHeap} {b n k : Nat} {q : IntKind} (hg : elemIsR H b 3 = true) (hk : k < n) : aSlice Try.prog 22 (.slice (some ⟨b, 0, none⟩) n n) (some (.int q (k : Int))) none H kk = kk (.slice (some ⟨b, k, none⟩) (n - k) (n - k)) H := by
  have h1 : loOf (some (.int q (k : Int))) = some k := rfl
  simp only [aSlice, el22, h1, hiOf, sz3, sliceOn, hg, Bool.not_true, Bool.false_eq_true, if_false, show k ≤ n from by omega, hk, if_true, Nat.zero_add, Nat.mul_one]
@[go_sem] theorem slEndI {β : Type} {kk : K β} {H : AHeap} {b n : Nat} {q : IntKind} (hg : elemIsR H b 3 = true) (hk : 0 < n) : aSlice Try.prog 22 (.slice (some ⟨b, 0, none⟩) n n) (some (.int q (n : Int))) none H kk = kk (.slice (some ⟨b, 0, some 1⟩) 0 0) H := by
  have h1 : loOf (some (.int q (n : Int))) = some n := rfl
  simp only [aSlice, el22, h1, hiOf, sz3, sliceOn, hg, Bool.not_true, Bool.false_eq_true, if_false, show n ≤ n from by omega, show ¬ n < n from by omega, show ¬ n = 0 from by omega, if_true, show n - n = 0 from by omega]
@[go_sem] theorem slNilI {β : Type} {kk : K β} {H : AHeap} {q : IntKind} : aSlice Try.prog 22 (.slice none 0 0) none (some (.int q 0)) H kk = kk (.slice none 0 0) H := by
  have h1 : hiOf 0 0 (some (.int q 0)) = some 0 := rfl
  simp only [aSlice, el22, h1, loOf, sz3, Nat.zero_le, if_true, sliceOn, Nat.sub_zero]
@[go_sem] theorem slNilLoI {β : Type} {kk : K β} {H : AHeap} {q : IntKind} : aSlice Try.prog 22 (.slice none 0 0) (some (.int q 0)) none H kk = kk (.slice none 0 0) H := by
  have h1 : loOf (some (.int q 0)) = some 0 := rfl
  simp only [aSlice, el22, h1, hiOf, sz3, Nat.le_refl, if_true, sliceOn, Nat.sub_zero]
@[go_sem] theorem elemIsR_oldI {H : AHeap} {o : AObj} {b : Nat} {e : TypeId} (h : b < H.n) : elemIsR (H.push o) b e = elemIsR H b e := by
  simp only [elemIsR, AHeap.get_push_old h]
theorem stop_seq {P : Program} {cx : Cx} {f : AF} {H : AHeap} {Q : Post} {n : Nat} {ops : Array Oper} {b : Bool} {z : Code} (h : Stop (CodeS P cx (.seq (.region n ops b) z) f H Q)) : CodeS P cx (.seq (.region n ops b) z) f H Q := h.out
theorem cellsRow {H : AHeap} {b o m : Nat} {l : List Value} {e : TypeId} (h : H.get b = .row l e) (hm : o + m ≤ l.length) : cellsAt H b o m = some ((l.drop o).take m) := by
  simp [cellsAt, h, hm]

set_option maxHeartbeats 4000000 in
theorem insert_b {loops : List (Nat × LInfo)} {H : AHeap} {b n : Nat} {L : List Int} {x : Int} (hg : H.get b = .row (L.map (Value.int .i64)) 3) (hb : b < H.n) (hl : L.length = n) (hn : n ≤ 1000) (hn1 : 0 < n) : CallS Try.prog loops 79 [.slice (some ⟨b, 0, none⟩) n n, .int .i64 x] H fun r H' => Own H' H.n r 3 1 ((insL L x).map (Value.int .i64)) ∧ Ext H H' := by
  have HL := Lib.hid hl
  have HG0 := Lib.hid hg
  have HIN : Hid (insL L x = L.take (posL x L n) ++ x :: L.drop (posL x L n)) := Lib.hid (by rw [insL, hl])
  generalize insL L x = res at HIN
  clear hl hg
  refine CallS.enter' Try.func79 rfl Try.ntmps79 (by simp) fun f hd hf => ?_
  have f0 := hf 0
  have f1 := hf 1
  simp at f0 f1
  clear hf
  repeat' (first|((with_reducible refine stop_block (n := 0) ?_))|(with_reducible first|refine zA ?_|refine zB fun K hK=>?_|refine zC fun K2 hK2=>?_|refine zD ?_|refine zE ?_|refine zF ?_|refine zG ?_|refine zH ?_|refine zI ?_|refine zM ?_|refine zN ?_|refine zO ?_|refine zP ?_|refine zQ ?_|refine zR ?_)|((with_reducible refine zU (hK _ _ ?_));clear hK K)|((with_reducible refine zV ?_ ?_ fun K1 K3 d hdst h1 h3=>?_);rfl;exact yB rfl;cases hdst;go_simp)|((with_reducible refine zW fun K1 K3 h1 h3=>?_);go_simp)|((first|refine h1 ?_|refine h3 ?_);clear h1 h3 K1 K3)|((first|refine zX (fun hb=>h1 ?_) (fun hb=>h3 ?_)|refine zX (fun hb=>h3 ?_) (fun hb=>h1 ?_))<;>(clear h1 h3 K1 K3;(try have hb2:=yC hb);(try have hb2:=yD hb);(try have hb2:=yE hb);(try have hb2:=yF hb);(try have hb2:=yG hb)))|(refine fun (K2:_→AHeap→Prop) hK2=>?_)|((with_reducible refine zY ?_ ?_);decide)|((with_reducible first|refine zZ ?_ (fun K hK=>?_)|refine yA ?_ (fun K hK=>?_));(focus go_simp;done);go_simp;refine hK _ _ ?_;clear hK K)|(go_simp;(try go_bits);refine hK2 _ _ ?_;clear hK2 K2))
  refine ⟨CodeS.cut (fun f H' => ∃ k : Nat, k ≤ n ∧ Hid (posL x L n = k) ∧ f.tmp 5 = .int .i64 k ∧ f.tmp 0 = .slice (some ⟨b, 0, none⟩) n n ∧ f.tmp 1 = .int .i64 x ∧ f.defers = [] ∧ H' = H) ?_ ?_⟩
  · repeat' (first|(with_reducible first|refine zA ?_|refine zB fun K hK=>?_|refine zC fun K2 hK2=>?_|refine zD ?_|refine zE ?_|refine zF ?_|refine zG ?_|refine zH ?_|refine zI ?_|refine zM ?_|refine zN ?_|refine zO ?_|refine zP ?_|refine zQ ?_|refine zR ?_)|((with_reducible refine zU (hK _ _ ?_));clear hK K)|((with_reducible refine zV ?_ ?_ fun K1 K3 d hdst h1 h3=>?_);rfl;exact yB rfl;cases hdst;go_simp)|((with_reducible refine zW fun K1 K3 h1 h3=>?_);go_simp)|((first|refine h1 ?_|refine h3 ?_);clear h1 h3 K1 K3)|((first|refine zX (fun hb=>h1 ?_) (fun hb=>h3 ?_)|refine zX (fun hb=>h3 ?_) (fun hb=>h1 ?_))<;>(clear h1 h3 K1 K3;(try have hb2:=yC hb);(try have hb2:=yD hb);(try have hb2:=yE hb);(try have hb2:=yF hb);(try have hb2:=yG hb)))|(refine fun (K2:_→AHeap→Prop) hK2=>?_)|((with_reducible refine zY ?_ ?_);decide)|((with_reducible first|refine zZ ?_ (fun K hK=>?_)|refine yA ?_ (fun K hK=>?_));(focus go_simp;done);go_simp;refine hK _ _ ?_;clear hK K)|(go_simp;(try go_bits);refine hK2 _ _ ?_;clear hK2 K2))
    refine CodeS.loop (fun m f H' => ∃ (k : Nat) (kk : Int), k ≤ n ∧ k = m ∧ kk = (k : Int) ∧ f.tmp 5 = .int .i64 kk ∧ f.tmp 0 = .slice (some ⟨b, 0, none⟩) n n ∧ f.tmp 1 = .int .i64 x ∧ f.defers = [] ∧ Hid (posL x L n = posL x L k) ∧ H' = H) n ?_ ?_
    · exact ⟨n, n, Nat.le_refl _, rfl, rfl, (by first|go_simp<;>go_num|assumption), (by first|go_simp<;>go_num|assumption), (by first|go_simp<;>go_num|assumption), (by first|go_simp<;>go_num|assumption), Lib.hid rfl, rfl⟩
    clear f0 f1 hd f
    rintro m f H' ⟨k, kk, hk, rfl, hkk, f5, f0, f1, hd, HP, rfl⟩
    rcases Nat.eq_zero_or_pos k with hk0 | hk0
    · subst hk0
      have : kk = 0 := by omega
      subst this
      clear hkk
      repeat' (first|(with_reducible first|refine zA ?_|refine zB fun K hK=>?_|refine zC fun K2 hK2=>?_|refine zD ?_|refine zE ?_|refine zF ?_|refine zG ?_|refine zH ?_|refine zI ?_|refine zM ?_|refine zN ?_|refine zO ?_|refine zP ?_|refine zQ ?_|refine zR ?_)|((with_reducible refine zU (hK _ _ ?_));clear hK K)|((with_reducible refine zV ?_ ?_ fun K1 K3 d hdst h1 h3=>?_);rfl;exact yB rfl;cases hdst;go_simp)|((with_reducible refine zW fun K1 K3 h1 h3=>?_);go_simp)|((first|refine h1 ?_|refine h3 ?_);clear h1 h3 K1 K3)|((first|refine zX (fun hb=>h1 ?_) (fun hb=>h3 ?_)|refine zX (fun hb=>h3 ?_) (fun hb=>h1 ?_))<;>(clear h1 h3 K1 K3;(try have hb2:=yC hb);(try have hb2:=yD hb);(try have hb2:=yE hb);(try have hb2:=yF hb);(try have hb2:=yG hb)))|(refine fun (K2:_→AHeap→Prop) hK2=>?_)|((with_reducible refine zY ?_ ?_);decide)|((with_reducible first|refine zZ ?_ (fun K hK=>?_)|refine yA ?_ (fun K hK=>?_));(focus go_simp;done);go_simp;refine hK _ _ ?_;clear hK K)|((with_reducible refine yH mixed rfl ?_ 20 fun K0 hK0=>?_);kernel_rfl)|(with_reducible first|exact yI|exact yJ|refine yK ?_|refine yL ?_|refine yM ?_)|((with_reducible first|refine yN ?_ ?_|refine yO ?_ ?_|refine yP ?_ ?_);rfl)|((with_reducible refine yQ ?_ ?_);rfl;refine hK0 _ _ ?_;clear hK0 K0)|((with_reducible refine yR ?_ ?_ ?_ ?_);rfl;rfl;rfl)|((with_reducible refine yS ?_ ?_ ?_ fun K2 hK2=>?_);rfl;rfl;exact yB rfl)|((with_reducible refine yT ?_ ?_ ?_ ?_ fun K1 K3 d hdst h1 h3=>?_);rfl;rfl;rfl;exact yB rfl;cases hdst;go_simp)|((with_reducible refine yU ?_ ?_ ?_ ?_ fun K1 K3 d hdst h1 h3=>?_);rfl;rfl;rfl;exact yB rfl;cases hdst;go_simp)|((with_reducible refine yV ?_ ?_ (fun K2 hK2=>?_) ?_);rfl;exact yB rfl)|((with_reducible refine yW ?_ ?_ ?_ ?_ (fun K2 hK2=>?_) ?_);rfl;exact yB rfl;rfl;(focus go_simp;done))|((with_reducible refine yX ?_ ?_ ?_ (fun K2 hK2=>?_) ?_);rfl;rfl;exact yB rfl)|((with_reducible refine yY ?_ ?_ (fun K2 hK2=>?_) ?_);rfl;rfl)|((with_reducible refine yZ ?_ ?_);(first|rfl|(dsimp only;decide +kernel)))|((with_reducible refine xA ?_ ?_);(focus go_simp;done))|(go_simp;(try go_bits);(first|(refine hK2 _ _ ?_ ?_<;>clear hK2 K2)|(refine hK2 _ _ ?_;clear hK2 K2))))
      exact ⟨0, Nat.zero_le _, Lib.hid (by rw [HP.out]; rfl), (by first|go_simp<;>go_num|assumption), (by first|go_simp<;>go_num|assumption), (by first|go_simp<;>go_num|assumption), (by first|go_simp<;>go_num|assumption), rfl⟩
    · obtain ⟨j, rfl⟩ : ∃ j, k = j + 1 := ⟨k - 1, by omega⟩
      have hkj : kk = (j : Int) + 1 := by omega
      subst hkj
      clear hkk hk0
      have hc : cellAt H' b j = some (.int .i64 (L.getD j 0)) := rowCell HG0.out (by rw [HL.out]; omega)
      have HPS : Hid (posL x L (j + 1) = if L.getD j 0 > x then posL x L j else j + 1) := Lib.hid rfl
      generalize L.getD j 0 = y at hc HPS
      have hj0 : (0 : Int) < (j : Int) + 1 := by omega
      have hj1 : (j : Int) < (n : Int) := by omega
      repeat' (first|(with_reducible first|refine zA ?_|refine zB fun K hK=>?_|refine zC fun K2 hK2=>?_|refine zD ?_|refine zE ?_|refine zF ?_|refine zG ?_|refine zH ?_|refine zI ?_|refine zM ?_|refine zN ?_|refine zO ?_|refine zP ?_|refine zQ ?_|refine zR ?_)|((with_reducible refine zU (hK _ _ ?_));clear hK K)|((with_reducible refine zV ?_ ?_ fun K1 K3 d hdst h1 h3=>?_);rfl;exact yB rfl;cases hdst;go_simp)|((with_reducible refine zW fun K1 K3 h1 h3=>?_);go_simp)|((first|refine h1 ?_|refine h3 ?_);clear h1 h3 K1 K3)|((first|refine zX (fun hb=>h1 ?_) (fun hb=>h3 ?_)|refine zX (fun hb=>h3 ?_) (fun hb=>h1 ?_))<;>(clear h1 h3 K1 K3;(try have hb2:=yC hb);(try have hb2:=yD hb);(try have hb2:=yE hb);(try have hb2:=yF hb);(try have hb2:=yG hb)))|(refine fun (K2:_→AHeap→Prop) hK2=>?_)|((with_reducible refine zY ?_ ?_);decide)|((with_reducible first|refine zZ ?_ (fun K hK=>?_)|refine yA ?_ (fun K hK=>?_));(focus go_simp;done);go_simp;refine hK _ _ ?_;clear hK K)|((with_reducible refine yH mixed rfl ?_ 20 fun K0 hK0=>?_);kernel_rfl)|(with_reducible first|exact yI|exact yJ|refine yK ?_|refine yL ?_|refine yM ?_)|((with_reducible first|refine yN ?_ ?_|refine yO ?_ ?_|refine yP ?_ ?_);rfl)|((with_reducible refine yQ ?_ ?_);rfl;refine hK0 _ _ ?_;clear hK0 K0)|((with_reducible refine yR ?_ ?_ ?_ ?_);rfl;rfl;rfl)|((with_reducible refine yS ?_ ?_ ?_ fun K2 hK2=>?_);rfl;rfl;exact yB rfl)|((with_reducible refine yT ?_ ?_ ?_ ?_ fun K1 K3 d hdst h1 h3=>?_);rfl;rfl;rfl;exact yB rfl;cases hdst;go_simp)|((with_reducible refine yU ?_ ?_ ?_ ?_ fun K1 K3 d hdst h1 h3=>?_);rfl;rfl;rfl;exact yB rfl;cases hdst;go_simp)|((with_reducible refine yV ?_ ?_ (fun K2 hK2=>?_) ?_);rfl;exact yB rfl)|((with_reducible refine yW ?_ ?_ ?_ ?_ (fun K2 hK2=>?_) ?_);rfl;exact yB rfl;rfl;(focus go_simp;done))|((with_reducible refine yX ?_ ?_ ?_ (fun K2 hK2=>?_) ?_);rfl;rfl;exact yB rfl)|((with_reducible refine yY ?_ ?_ (fun K2 hK2=>?_) ?_);rfl;rfl)|((with_reducible refine yZ ?_ ?_);(first|rfl|(dsimp only;decide +kernel)))|((with_reducible refine xA ?_ ?_);(focus go_simp;done))|(go_simp;(try go_bits);(first|(refine hK2 _ _ ?_ ?_<;>clear hK2 K2)|(refine hK2 _ _ ?_;clear hK2 K2))))
      · have hxy : y > x := by have := ‹decide (x < y) = true›; simpa using this
        exact Post.round_normal ⟨j, by omega, j, j, by omega, rfl, rfl, (by first|go_simp<;>go_num|assumption), (by first|go_simp<;>go_num|assumption), (by first|go_simp<;>go_num|assumption), (by first|go_simp<;>go_num|assumption), Lib.hid (by rw [HP.out, HPS.out, if_pos hxy]), rfl⟩
      · have hxy : ¬ y > x := by have := ‹decide (x < y) = false›; simp at this; omega
        exact ⟨j + 1, hk, Lib.hid (by rw [HP.out, HPS.out, if_neg hxy]), (by first|go_simp<;>go_num|assumption), (by first|go_simp<;>go_num|assumption), (by first|go_simp<;>go_num|assumption), (by first|go_simp<;>go_num|assumption), rfl⟩
  clear f0 f1 hd f
  rintro f H' ⟨k, hk, HP, f5, f0, f1, hd, rfl⟩
  rw [HP.out] at HIN
  have he := elemIsR_row HG0.out
  have HC1 : Hid (∀ G : AHeap, Ext H' G → cellsAt G b 0 (k * 1) = some ((L.take k).map (Value.int .i64))) := Lib.hid (fun G hx => by
    rw [cellsRow ((hx.get _ hb).trans HG0.out) (by simp [HL.out]; omega)]; simp)
  have HC2 : Hid (∀ G : AHeap, Ext H' G → cellsAt G b k ((n - k) * 1) = some ((L.drop k).map (Value.int .i64))) := Lib.hid (fun G hx => by
    rw [cellsRow ((hx.get _ hb).trans HG0.out) (by simp [HL.out]; omega)]
    rw [Nat.mul_one, List.map_drop, List.take_of_length_le (by simp [HL.out])])
  have HT1 : Hid (((L.take k).map (Value.int .i64)).length = k * 1) := Lib.hid (by simp [HL.out]; omega)
  have HT2 : Hid (((L.drop k).map (Value.int .i64)).length = (n - k) * 1) := Lib.hid (by simp [HL.out])
  have hb0 : b ≤ H'.n := by omega
  have hbp : b < H'.n + 1 := by omega
  repeat' (first|((with_reducible refine stop_seq (n := 4) ?_))|(with_reducible first|refine zA ?_|refine zB fun K hK=>?_|refine zC fun K2 hK2=>?_|refine zD ?_|refine zE ?_|refine zF ?_|refine zG ?_|refine zH ?_|refine zI ?_|refine zM ?_|refine zN ?_|refine zO ?_|refine zP ?_|refine zQ ?_|refine zR ?_)|((with_reducible refine zU (hK _ _ ?_));clear hK K)|((with_reducible refine zV ?_ ?_ fun K1 K3 d hdst h1 h3=>?_);rfl;exact yB rfl;cases hdst;go_simp)|((with_reducible refine zW fun K1 K3 h1 h3=>?_);go_simp)|((first|refine h1 ?_|refine h3 ?_);clear h1 h3 K1 K3)|((first|refine zX (fun hb=>h1 ?_) (fun hb=>h3 ?_)|refine zX (fun hb=>h3 ?_) (fun hb=>h1 ?_))<;>(clear h1 h3 K1 K3;(try have hb2:=yC hb);(try have hb2:=yD hb);(try have hb2:=yE hb);(try have hb2:=yF hb);(try have hb2:=yG hb)))|(refine fun (K2:_→AHeap→Prop) hK2=>?_)|((with_reducible refine zY ?_ ?_);decide)|((with_reducible first|refine zZ ?_ (fun K hK=>?_)|refine yA ?_ (fun K hK=>?_));(focus go_simp;done);go_simp;refine hK _ _ ?_;clear hK K)|(go_simp;(try go_bits);refine hK2 _ _ ?_;clear hK2 K2))
  refine ⟨CodeS.cut (fun f H2 => ∃ v : Value, f.tmp 6 = v ∧ f.tmp 5 = .int .i64 k ∧ f.tmp 0 = .slice (some ⟨b, 0, none⟩) n n ∧ f.tmp 1 = .int .i64 x ∧ f.defers = [] ∧ Hid (Ext H' H2) ∧ ((Hid (k = 0) ∧ v = .slice (some ⟨H'.n, 0, none⟩) 0 0 ∧ H'.n < H2.n ∧ Hid (H2.get H'.n = .row [] 3)) ∨ (0 < k ∧ Hid (Own H2 H'.n v 3 1 ((L.take k).map (Value.int .i64)))))) ?_ ?_⟩
  · rcases Nat.eq_zero_or_pos k with hk0 | hk0
    · have HK0 := Lib.hid hk0
      have hn0 : 0 < n := hn1
      clear hk0
      repeat' (first|(with_reducible first|refine zA ?_|refine zB fun K hK=>?_|refine zC fun K2 hK2=>?_|refine zD ?_|refine zE ?_|refine zF ?_|refine zG ?_|refine zH ?_|refine zI ?_|refine zM ?_|refine zN ?_|refine zO ?_|refine zP ?_|refine zQ ?_|refine zR ?_)|((with_reducible refine zU (hK _ _ ?_));clear hK K)|((with_reducible refine zV ?_ ?_ fun K1 K3 d hdst h1 h3=>?_);rfl;exact yB rfl;cases hdst;go_simp)|((with_reducible refine zW fun K1 K3 h1 h3=>?_);go_simp)|((first|refine h1 ?_|refine h3 ?_);clear h1 h3 K1 K3)|((first|refine zX (fun hb=>h1 ?_) (fun hb=>h3 ?_)|refine zX (fun hb=>h3 ?_) (fun hb=>h1 ?_))<;>(clear h1 h3 K1 K3;(try have hb2:=yC hb);(try have hb2:=yD hb);(try have hb2:=yE hb);(try have hb2:=yF hb);(try have hb2:=yG hb)))|(refine fun (K2:_→AHeap→Prop) hK2=>?_)|((with_reducible refine zY ?_ ?_);decide)|((with_reducible first|refine zZ ?_ (fun K hK=>?_)|refine yA ?_ (fun K hK=>?_));(focus go_simp;done);go_simp;refine hK _ _ ?_;clear hK K)|(go_simp;(try go_bits);(try first | ((refine lit0_k el22 sz3 ze3 rfl (by decide) ?_); go_simp) | ((refine appendNil_k el22 sz3 (by rw [HK0.out]; exact srcCells_none) ?_); go_simp));refine hK2 _ _ ?_;clear hK2 K2))
      exact ⟨_, (by first|go_simp<;>go_num|assumption), (by first|go_simp<;>go_num|assumption), (by first|go_simp<;>go_num|assumption), (by first|go_simp<;>go_num|assumption), (by first|go_simp<;>go_num|assumption), Lib.hid (Ext.push _), .inl ⟨HK0, rfl, by rw [AHeap.n_push]; omega, Lib.hid AHeap.get_push_new⟩⟩
    · repeat' (first|(with_reducible first|refine zA ?_|refine zB fun K hK=>?_|refine zC fun K2 hK2=>?_|refine zD ?_|refine zE ?_|refine zF ?_|refine zG ?_|refine zH ?_|refine zI ?_|refine zM ?_|refine zN ?_|refine zO ?_|refine zP ?_|refine zQ ?_|refine zR ?_)|((with_reducible refine zU (hK _ _ ?_));clear hK K)|((with_reducible refine zV ?_ ?_ fun K1 K3 d hdst h1 h3=>?_);rfl;exact yB rfl;cases hdst;go_simp)|((with_reducible refine zW fun K1 K3 h1 h3=>?_);go_simp)|((first|refine h1 ?_|refine h3 ?_);clear h1 h3 K1 K3)|((first|refine zX (fun hb=>h1 ?_) (fun hb=>h3 ?_)|refine zX (fun hb=>h3 ?_) (fun hb=>h1 ?_))<;>(clear h1 h3 K1 K3;(try have hb2:=yC hb);(try have hb2:=yD hb);(try have hb2:=yE hb);(try have hb2:=yF hb);(try have hb2:=yG hb)))|(refine fun (K2:_→AHeap→Prop) hK2=>?_)|((with_reducible refine zY ?_ ?_);decide)|((with_reducible first|refine zZ ?_ (fun K hK=>?_)|refine yA ?_ (fun K hK=>?_));(focus go_simp;done);go_simp;refine hK _ _ ?_;clear hK K)|(go_simp;(try go_bits);(try first | ((refine lit0_k el22 sz3 ze3 rfl (by decide) ?_); go_simp) | ((refine append0_g (b := H'.n) el22 sz3 by3 ze3 rfl (by decide) (AHeap.get_push_new) (by rw [AHeap.n_push]; omega) (srcCells_some hk0 (HC1.out _ (Ext.push _))) hk0 HT1.out oneV_list_int (by rw [HT1.out]; show k * 1 * 8 ≤ 1073741824; omega) fun H7 hn7 hg7 hk7 => ?_); (have HO7 := Lib.hid (own_new (base := H'.n) (by rw [AHeap.n_push]; omega) (by omega) hg7 HT1.out hk0)); (have HX7 := Lib.hid (grown_ext (Ext.push _) (Nat.le_refl _) hn7 hk7)); clear hn7 hg7 hk7; go_simp));refine hK2 _ _ ?_;clear hK2 K2))
      exact ⟨_, (by first|go_simp<;>go_num|assumption), (by first|go_simp<;>go_num|assumption), (by first|go_simp<;>go_num|assumption), (by first|go_simp<;>go_num|assumption), (by first|go_simp<;>go_num|assumption), HX7, .inr ⟨hk0, HO7⟩⟩
  · clear f5 f0 f1 hd f he
    rintro f H2 ⟨v, f6, f5, f0, f1, hd, HX, hcase⟩
    repeat' (first|((with_reducible refine stop_seq (n := 5) ?_))|(with_reducible first|refine zA ?_|refine zB fun K hK=>?_|refine zC fun K2 hK2=>?_|refine zD ?_|refine zE ?_|refine zF ?_|refine zG ?_|refine zH ?_|refine zI ?_|refine zM ?_|refine zN ?_|refine zO ?_|refine zP ?_|refine zQ ?_|refine zR ?_)|((with_reducible refine zU (hK _ _ ?_));clear hK K)|((with_reducible refine zV ?_ ?_ fun K1 K3 d hdst h1 h3=>?_);rfl;exact yB rfl;cases hdst;go_simp)|((with_reducible refine zW fun K1 K3 h1 h3=>?_);go_simp)|((first|refine h1 ?_|refine h3 ?_);clear h1 h3 K1 K3)|((first|refine zX (fun hb=>h1 ?_) (fun hb=>h3 ?_)|refine zX (fun hb=>h3 ?_) (fun hb=>h1 ?_))<;>(clear h1 h3 K1 K3;(try have hb2:=yC hb);(try have hb2:=yD hb);(try have hb2:=yE hb);(try have hb2:=yF hb);(try have hb2:=yG hb)))|(refine fun (K2:_→AHeap→Prop) hK2=>?_)|((with_reducible refine zY ?_ ?_);decide)|((with_reducible first|refine zZ ?_ (fun K hK=>?_)|refine yA ?_ (fun K hK=>?_));(focus go_simp;done);go_simp;refine hK _ _ ?_;clear hK K)|(go_simp;(try go_bits);refine hK2 _ _ ?_;clear hK2 K2))
    refine ⟨CodeS.cut (fun f H3 => ∃ v : Value, f.tmp 6 = v ∧ f.tmp 5 = .int .i64 k ∧ f.tmp 0 = .slice (some ⟨b, 0, none⟩) n n ∧ f.tmp 1 = .int .i64 x ∧ f.defers = [] ∧ Hid (Ext H' H3) ∧ Hid (Own H3 H'.n v 3 1 ((L.take k).map (Value.int .i64) ++ [Value.int .i64 x]))) ?_ ?_⟩
    · rcases hcase with ⟨HK0, rfl, hn2, HR⟩ | ⟨hk0, HO⟩
      · repeat' (first|(with_reducible first|refine zA ?_|refine zB fun K hK=>?_|refine zC fun K2 hK2=>?_|refine zD ?_|refine zE ?_|refine zF ?_|refine zG ?_|refine zH ?_|refine zI ?_|refine zM ?_|refine zN ?_|refine zO ?_|refine zP ?_|refine zQ ?_|refine zR ?_)|((with_reducible refine zU (hK _ _ ?_));clear hK K)|((with_reducible refine zV ?_ ?_ fun K1 K3 d hdst h1 h3=>?_);rfl;exact yB rfl;cases hdst;go_simp)|((with_reducible refine zW fun K1 K3 h1 h3=>?_);go_simp)|((first|refine h1 ?_|refine h3 ?_);clear h1 h3 K1 K3)|((first|refine zX (fun hb=>h1 ?_) (fun hb=>h3 ?_)|refine zX (fun hb=>h3 ?_) (fun hb=>h1 ?_))<;>(clear h1 h3 K1 K3;(try have hb2:=yC hb);(try have hb2:=yD hb);(try have hb2:=yE hb);(try have hb2:=yF hb);(try have hb2:=yG hb)))|(refine fun (K2:_→AHeap→Prop) hK2=>?_)|((with_reducible refine zY ?_ ?_);decide)|((with_reducible first|refine zZ ?_ (fun K hK=>?_)|refine yA ?_ (fun K hK=>?_));(focus go_simp;done);go_simp;refine hK _ _ ?_;clear hK K)|(go_simp;(try go_bits);(try first | ((refine one_k el22 sz3 ze3 rfl (by decide) (by decide) rfl rfl ?_); go_simp) | ((refine append0_g (b := H'.n) el22 sz3 by3 ze3 rfl (by decide) ((AHeap.get_push_old (by omega)).trans HR.out) (by rw [AHeap.n_push]; omega) (srcCells_new rfl) (by decide) rfl rfl (by show 1 * 8 ≤ 1073741824; omega) fun H7 hn7 hg7 hk7 => ?_); (have HO7 : Hid (Own H7 H'.n (.slice (some ⟨_, 0, none⟩) 1 1) 3 1 ((L.take k).map (Value.int .i64) ++ [Value.int .i64 x])) := Lib.hid (by rw [HK0.out]; exact own_new (by simp only [AHeap.n_push]; omega) (by omega) hg7 rfl (by decide))); (have HX7 := Lib.hid (grown_ext (HX.out.push' _) (Nat.le_refl _) hn7 hk7)); clear hn7 hg7 hk7; go_simp));refine hK2 _ _ ?_;clear hK2 K2))
        exact ⟨_, (by first|go_simp<;>go_num|assumption), (by first|go_simp<;>go_num|assumption), (by first|go_simp<;>go_num|assumption), (by first|go_simp<;>go_num|assumption), (by first|go_simp<;>go_num|assumption), HX7, HO7⟩
      · have hx2 := HX.out.n
        repeat' (first|(with_reducible first|refine zA ?_|refine zB fun K hK=>?_|refine zC fun K2 hK2=>?_|refine zD ?_|refine zE ?_|refine zF ?_|refine zG ?_|refine zH ?_|refine zI ?_|refine zM ?_|refine zN ?_|refine zO ?_|refine zP ?_|refine zQ ?_|refine zR ?_)|((with_reducible refine zU (hK _ _ ?_));clear hK K)|((with_reducible refine zV ?_ ?_ fun K1 K3 d hdst h1 h3=>?_);rfl;exact yB rfl;cases hdst;go_simp)|((with_reducible refine zW fun K1 K3 h1 h3=>?_);go_simp)|((first|refine h1 ?_|refine h3 ?_);clear h1 h3 K1 K3)|((first|refine zX (fun hb=>h1 ?_) (fun hb=>h3 ?_)|refine zX (fun hb=>h3 ?_) (fun hb=>h1 ?_))<;>(clear h1 h3 K1 K3;(try have hb2:=yC hb);(try have hb2:=yD hb);(try have hb2:=yE hb);(try have hb2:=yF hb);(try have hb2:=yG hb)))|(refine fun (K2:_→AHeap→Prop) hK2=>?_)|((with_reducible refine zY ?_ ?_);decide)|((with_reducible first|refine zZ ?_ (fun K hK=>?_)|refine yA ?_ (fun K hK=>?_));(focus go_simp;done);go_simp;refine hK _ _ ?_;clear hK K)|(go_simp;(try go_bits);(try first | ((refine one_k el22 sz3 ze3 rfl (by decide) (by decide) rfl rfl ?_); go_simp) | ((refine append_k2 el22 sz3 by3 ze3 rfl (by decide) (HO.out.ext (Ext.push _)) (srcCells_new rfl) (by decide) rfl (by rw [List.all_append, oneV_list_int]; rfl) (by rw [HT1.out]; show (k * 1 + 1) * 8 ≤ 1073741824; omega) (by rw [AHeap.n_push]; omega) fun v7 H7 ho7 hg7 => ?_); (have HO7 := Lib.hid (ho7.mono (base' := H'.n) (by rw [AHeap.n_push]; omega))); (have HX7 := Lib.hid (hg7.ext (HO.out.ext (Ext.push _)) (Nat.le_refl _) (HX.out.push' _))); clear ho7 hg7; go_simp));refine hK2 _ _ ?_;clear hK2 K2))
        exact ⟨_, (by first|go_simp<;>go_num|assumption), (by first|go_simp<;>go_num|assumption), (by first|go_simp<;>go_num|assumption), (by first|go_simp<;>go_num|assumption), (by first|go_simp<;>go_num|assumption), HX7, HO7⟩
    · clear f6 f5 f0 f1 hd f hcase HX v
      rintro f H3 ⟨v, f6, f5, f0, f1, hd, HX, HO⟩
      have he := elemIsR_row ((HX.out.get b hb).trans HG0.out)
      obtain ⟨va, vn, rfl⟩ := own_slice HO.out
      have hx3 := HX.out.n
      have HRES : Hid (res.map (Value.int .i64) = (L.take k).map (Value.int .i64) ++ [Value.int .i64 x] ++ (L.drop k).map (Value.int .i64)) := Lib.hid (by rw [HIN.out]; simp)
      by_cases hkn : k < n
      · have hkn2 : 0 < n - k := by omega
        repeat' (first|(with_reducible first|refine zA ?_|refine zB fun K hK=>?_|refine zC fun K2 hK2=>?_|refine zD ?_|refine zE ?_|refine zF ?_|refine zG ?_|refine zH ?_|refine zI ?_|refine zM ?_|refine zN ?_|refine zO ?_|refine zP ?_|refine zQ ?_|refine zR ?_)|((with_reducible refine zU (hK _ _ ?_));clear hK K)|((with_reducible refine zV ?_ ?_ fun K1 K3 d hdst h1 h3=>?_);rfl;exact yB rfl;cases hdst;go_simp)|((with_reducible refine zW fun K1 K3 h1 h3=>?_);go_simp)|((first|refine h1 ?_|refine h3 ?_);clear h1 h3 K1 K3)|((first|refine zX (fun hb=>h1 ?_) (fun hb=>h3 ?_)|refine zX (fun hb=>h3 ?_) (fun hb=>h1 ?_))<;>(clear h1 h3 K1 K3;(try have hb2:=yC hb);(try have hb2:=yD hb);(try have hb2:=yE hb);(try have hb2:=yF hb);(try have hb2:=yG hb)))|(refine fun (K2:_→AHeap→Prop) hK2=>?_)|((with_reducible refine zY ?_ ?_);decide)|((with_reducible first|refine zZ ?_ (fun K hK=>?_)|refine yA ?_ (fun K hK=>?_));(focus go_simp;done);go_simp;refine hK _ _ ?_;clear hK K)|(go_simp;(try go_bits);(try first | ((refine append_k2 el22 sz3 by3 ze3 rfl (by decide) HO.out (srcCells_some hkn2 (HC2.out _ HX.out)) hkn2 HT2.out (by rw [List.all_append, List.all_append, oneV_list_int, oneV_list_int]; rfl) (by rw [List.length_append, HT1.out, HT2.out]; show (k * 1 + 1 + (n - k) * 1) * 8 ≤ 1073741824; omega) hx3 fun v7 H7 ho7 hg7 => ?_); (have HO7 := Lib.hid (ho7.mono (base' := H'.n) hx3)); (have HX7 := Lib.hid (hg7.ext HO.out (Nat.le_refl _) HX.out)); clear ho7 hg7; go_simp));refine hK2 _ _ ?_;clear hK2 K2))
        exact ⟨by rw [HRES.out]; exact HO7.out, HX7.out⟩
      · have hke : k = n := by omega
        subst hke
        have hd0 : L.drop k = [] := List.drop_eq_nil_of_le (by rw [HL.out]; omega)
        repeat' (first|(with_reducible first|refine zA ?_|refine zB fun K hK=>?_|refine zC fun K2 hK2=>?_|refine zD ?_|refine zE ?_|refine zF ?_|refine zG ?_|refine zH ?_|refine zI ?_|refine zM ?_|refine zN ?_|refine zO ?_|refine zP ?_|refine zQ ?_|refine zR ?_)|((with_reducible refine zU (hK _ _ ?_));clear hK K)|((with_reducible refine zV ?_ ?_ fun K1 K3 d hdst h1 h3=>?_);rfl;exact yB rfl;cases hdst;go_simp)|((with_reducible refine zW fun K1 K3 h1 h3=>?_);go_simp)|((first|refine h1 ?_|refine h3 ?_);clear h1 h3 K1 K3)|((first|refine zX (fun hb=>h1 ?_) (fun hb=>h3 ?_)|refine zX (fun hb=>h3 ?_) (fun hb=>h1 ?_))<;>(clear h1 h3 K1 K3;(try have hb2:=yC hb);(try have hb2:=yD hb);(try have hb2:=yE hb);(try have hb2:=yF hb);(try have hb2:=yG hb)))|(refine fun (K2:_→AHeap→Prop) hK2=>?_)|((with_reducible refine zY ?_ ?_);decide)|((with_reducible first|refine zZ ?_ (fun K hK=>?_)|refine yA ?_ (fun K hK=>?_));(focus go_simp;done);go_simp;refine hK _ _ ?_;clear hK K)|(go_simp;(try go_bits);(try first | ((refine appendNil_k el22 sz3 srcCells_none ?_); go_simp));refine hK2 _ _ ?_;clear hK2 K2))
        exact ⟨by rw [HRES.out, hd0, List.map_nil, List.append_nil]; exact HO.out, HX.out⟩
theorem insert_0 {loops : List (Nat × LInfo)} {H : AHeap} {x : Int} : CallS Try.prog loops 79 [.slice none 0 0, .int .i64 x] H fun r H' => Own H' H.n r 3 1 (([x]).map (Value.int .i64)) ∧ Ext H H' := by
  refine CallS.enter' Try.func79 rfl Try.ntmps79 (by simp) fun f hd hf => ?_
  have f0 := hf 0
  have f1 := hf 1
  simp at f0 f1
  clear hf
  repeat' (first|(with_reducible first|refine zA ?_|refine zB fun K hK=>?_|refine zC fun K2 hK2=>?_|refine zD ?_|refine zE ?_|refine zF ?_|refine zG ?_|refine zH ?_|refine zI ?_|refine zM ?_|refine zN ?_|refine zO ?_|refine zP ?_|refine zQ ?_|refine zR ?_)|((with_reducible refine zU (hK _ _ ?_));clear hK K)|((with_reducible refine zV ?_ ?_ fun K1 K3 d hdst h1 h3=>?_);rfl;exact yB rfl;cases hdst;go_simp)|((with_reducible refine zW fun K1 K3 h1 h3=>?_);go_simp)|((first|refine h1 ?_|refine h3 ?_);clear h1 h3 K1 K3)|((first|refine zX (fun hb=>h1 ?_) (fun hb=>h3 ?_)|refine zX (fun hb=>h3 ?_) (fun hb=>h1 ?_))<;>(clear h1 h3 K1 K3;(try have hb2:=yC hb);(try have hb2:=yD hb);(try have hb2:=yE hb);(try have hb2:=yF hb);(try have hb2:=yG hb)))|(refine fun (K2:_→AHeap→Prop) hK2=>?_)|((with_reducible refine zY ?_ ?_);decide)|((with_reducible first|refine zZ ?_ (fun K hK=>?_)|refine yA ?_ (fun K hK=>?_));(focus go_simp;done);go_simp;refine hK _ _ ?_;clear hK K)|(go_simp;(try go_bits);refine hK2 _ _ ?_;clear hK2 K2))
  refine CodeS.loop (fun m f H' => f.tmp 5 = .int .i64 0 ∧ f.tmp 0 = .slice none 0 0 ∧ f.tmp 1 = .int .i64 x ∧ f.defers = [] ∧ H' = H) 0 ?_ ?_
  · exact ⟨(by first|go_simp<;>go_num|assumption), (by first|go_simp<;>go_num|assumption), (by first|go_simp<;>go_num|assumption), (by first|go_simp<;>go_num|assumption), rfl⟩
  clear f0 f1 hd f
  rintro m f H' ⟨f5, f0, f1, hd, rfl⟩
  repeat' (first|(with_reducible first|refine zA ?_|refine zB fun K hK=>?_|refine zC fun K2 hK2=>?_|refine zD ?_|refine zE ?_|refine zF ?_|refine zG ?_|refine zH ?_|refine zI ?_|refine zM ?_|refine zN ?_|refine zO ?_|refine zP ?_|refine zQ ?_|refine zR ?_)|((with_reducible refine zU (hK _ _ ?_));clear hK K)|((with_reducible refine zV ?_ ?_ fun K1 K3 d hdst h1 h3=>?_);rfl;exact yB rfl;cases hdst;go_simp)|((with_reducible refine zW fun K1 K3 h1 h3=>?_);go_simp)|((first|refine h1 ?_|refine h3 ?_);clear h1 h3 K1 K3)|((first|refine zX (fun hb=>h1 ?_) (fun hb=>h3 ?_)|refine zX (fun hb=>h3 ?_) (fun hb=>h1 ?_))<;>(clear h1 h3 K1 K3;(try have hb2:=yC hb);(try have hb2:=yD hb);(try have hb2:=yE hb);(try have hb2:=yF hb);(try have hb2:=yG hb)))|(refine fun (K2:_→AHeap→Prop) hK2=>?_)|((with_reducible refine zY ?_ ?_);decide)|((with_reducible first|refine zZ ?_ (fun K hK=>?_)|refine yA ?_ (fun K hK=>?_));(focus go_simp;done);go_simp;refine hK _ _ ?_;clear hK K)|(go_simp;(try go_bits);(try first | ((refine lit0_k el22 sz3 ze3 rfl (by decide) ?_); go_simp) | ((refine appendNil_k el22 sz3 srcCells_none ?_); go_simp)| ((refine one_k el22 sz3 ze3 rfl (by decide) (by decide) rfl rfl ?_); go_simp) | ((refine append0_g (b := H'.n) el22 sz3 by3 ze3 rfl (by decide) ((AHeap.get_push_old (by rw [AHeap.n_push]; omega)).trans AHeap.get_push_new) (by simp only [AHeap.n_push]; omega) (srcCells_new rfl) (by decide) rfl rfl (by show 1 * 8 ≤ 1073741824; omega) fun H7 hn7 hg7 hk7 => ?_); (have HO7 : Hid (Own H7 H'.n (.slice (some ⟨_, 0, none⟩) 1 1) 3 1 [Value.int .i64 x]) := Lib.hid (own_new (by simp only [AHeap.n_push]; omega) (by omega) hg7 rfl (by decide))); (have HX7 := Lib.hid (grown_ext ((Ext.push _).push' _) (Nat.le_refl _) hn7 hk7)); clear hn7 hg7 hk7; go_simp));refine hK2 _ _ ?_;clear hK2 K2))
  exact ⟨HO7.out, HX7.out⟩
theorem insert_o {loops : List (Nat × LInfo)} {H : AHeap} {bs : Nat} {v : Value} {L : List Int} {x : Int} (ho : Own H bs v 3 1 (L.map (Value.int .i64))) (hn : L.length ≤ 1000) : CallS Try.prog loops 79 [v, .int .i64 x] H fun r H' => Own H' H.n r 3 1 ((insL L x).map (Value.int .i64)) ∧ Ext H H' := by
  rcases ho with ⟨h1, h2⟩ | ⟨b, m, h1, h2, h3, h4, h5, h6⟩
  · have : L = [] := by simpa using h2
    subst this
    rw [h1]
    exact insert_0
  · rw [h1]
    have hm : L.length = m := by simpa using h5
    exact insert_b h4 h3 hm (by omega) h6
end Go.Proofs.Try
namespace Go.Proofs.Try
open Go Go.Am Go.RowKit
set_option maxRecDepth 100000


theorem in_s {loops : List (Nat × LInfo)} {H : AHeap} {n lo hi : Int} : CallS Try.prog loops 60 [.int .i64 n, .int .i64 lo, .int .i64 hi] H fun v H' => v = .bool (win lo hi n) ∧ H' = H := by
  refine CallS.enter' Try.func60 rfl Try.ntmps60 (by simp) fun f hd hf => ?_
  have f0 := hf 0
  have f1 := hf 1
  have f2 := hf 2
  simp at f0 f1 f2
  clear hf
  unfold win
  repeat' (first|(with_reducible first|refine zA ?_|refine zB fun K hK=>?_|refine zC fun K2 hK2=>?_|refine zD ?_|refine zE ?_|refine zF ?_|refine zG ?_|refine zH ?_|refine zI ?_|refine zM ?_|refine zN ?_|refine zO ?_|refine zP ?_|refine zQ ?_|refine zR ?_)|((with_reducible refine zU (hK _ _ ?_));clear hK K)|((with_reducible refine zV ?_ ?_ fun K1 K3 d hdst h1 h3=>?_);rfl;exact yB rfl;cases hdst;go_simp)|((with_reducible refine zW fun K1 K3 h1 h3=>?_);go_simp)|((first|refine h1 ?_|refine h3 ?_);clear h1 h3 K1 K3)|((first|refine zX (fun hb=>h1 ?_) (fun hb=>h3 ?_)|refine zX (fun hb=>h3 ?_) (fun hb=>h1 ?_))<;>(clear h1 h3 K1 K3;(try have hb2:=yC hb);(try have hb2:=yD hb);(try have hb2:=yE hb);(try have hb2:=yF hb);(try have hb2:=yG hb)))|(refine fun (K2:_→AHeap→Prop) hK2=>?_)|((with_reducible refine zY ?_ ?_);decide)|((with_reducible first|refine zZ ?_ (fun K hK=>?_)|refine yA ?_ (fun K hK=>?_));(focus go_simp;done);go_simp;refine hK _ _ ?_;clear hK K)|(go_simp;(try go_bits);refine hK2 _ _ ?_;clear hK2 K2))
  all_goals (refine ⟨?_, rfl⟩; simp [*])
theorem day_s {loops : List (Nat × LInfo)} {H : AHeap} {n : Int} : CallS Try.prog loops 61 [.int .i64 n] H fun v H' => v = .bool (win 0 730 n) ∧ H' = H := by
  refine CallS.enter' Try.func61 rfl Try.ntmps61 (by simp) fun f hd hf => ?_
  have f0 := hf 0
  simp at f0
  clear hf
  repeat' (first|(with_reducible first|refine zA ?_|refine zB fun K hK=>?_|refine zC fun K2 hK2=>?_|refine zD ?_|refine zE ?_|refine zF ?_|refine zG ?_|refine zH ?_|refine zI ?_|refine zM ?_|refine zN ?_|refine zO ?_|refine zP ?_|refine zQ ?_|refine zR ?_)|((with_reducible refine zU (hK _ _ ?_));clear hK K)|((with_reducible refine zV ?_ ?_ fun K1 K3 d hdst h1 h3=>?_);rfl;exact yB rfl;cases hdst;go_simp)|((with_reducible refine zW fun K1 K3 h1 h3=>?_);go_simp)|((first|refine h1 ?_|refine h3 ?_);clear h1 h3 K1 K3)|((first|refine zX (fun hb=>h1 ?_) (fun hb=>h3 ?_)|refine zX (fun hb=>h3 ?_) (fun hb=>h1 ?_))<;>(clear h1 h3 K1 K3;(try have hb2:=yC hb);(try have hb2:=yD hb);(try have hb2:=yE hb);(try have hb2:=yF hb);(try have hb2:=yG hb)))|(refine fun (K2:_→AHeap→Prop) hK2=>?_)|((with_reducible refine zY ?_ ?_);decide)|((with_reducible first|refine zZ ?_ (fun K hK=>?_)|refine yA ?_ (fun K hK=>?_));(focus go_simp;done);go_simp;refine hK _ _ ?_;clear hK K)|(go_simp;(try go_bits);(try first | ((with_reducible show CallS _ _ _ _ _ _);refine CallS.mono in_s ?_; rintro _ _ ⟨rfl, rfl⟩));refine hK2 _ _ ?_;clear hK2 K2))
  exact ⟨rfl, rfl⟩

def refR (a : Alt) (n : Int) : Bool := win 1 1099511627776 a.id && (win 0 730 a.day && (win 0 (n - 1) a.frm && (win a.frm (n - 1) a.to && a.suits)))
theorem refR_eq (a : Alt) (n : Int) : a.right n = refR a n := by
  have h : (win 0 a.to a.frm && win 0 (n - 1) a.to) = (win 0 (n - 1) a.frm && win a.frm (n - 1) a.to) := by
    rw [Bool.eq_iff_iff]; simp only [Bool.and_eq_true, win_iff]; omega
  unfold Alt.right refR
  rw [← Bool.and_assoc (win 0 a.to a.frm), h, Bool.and_assoc]

theorem refRight_s {loops : List (Nat × LInfo)} {H : AHeap} {sv : Value} {s : Sheet} {a : Alt} (hv : SheetV H sv s) : CallS Try.prog loops 69 [sv, a.val] H fun v H' => v = .bool (a.right s.words.length) ∧ H' = H := by
  refine CallS.forget (R := fun v => v = .bool (a.right s.words.length)) (by rintro v rfl; rfl) ?_
  obtain ⟨wv, av, rfl, hw, ha⟩ := hv
  obtain ⟨hwl, wa, wc, rfl⟩ := hw.slice
  obtain ⟨hal, aa, ac, rfl⟩ := ha.slice
  clear hw ha
  rw [refR_eq]
  generalize he : refR a s.words.length = er
  have HE := Lib.hid he
  clear he
  obtain ⟨i, kd, dy, fr, to, wd⟩ := a
  refine CallS.enter' Try.func69 rfl Try.ntmps69 (by simp) fun f hd hf => ?_
  have f0 := hf 0
  have f1 := hf 1
  simp [Alt.val] at f0 f1
  clear hf
  repeat' (first|(with_reducible first|refine zA ?_|refine zB fun K hK=>?_|refine zC fun K2 hK2=>?_|refine zD ?_|refine zE ?_|refine zF ?_|refine zG ?_|refine zH ?_|refine zI ?_|refine zM ?_|refine zN ?_|refine zO ?_|refine zP ?_|refine zQ ?_|refine zR ?_)|((with_reducible refine zU (hK _ _ ?_));clear hK K)|((with_reducible refine zV ?_ ?_ fun K1 K3 d hdst h1 h3=>?_);rfl;exact yB rfl;cases hdst;go_simp)|((with_reducible refine zW fun K1 K3 h1 h3=>?_);go_simp)|((first|refine h1 ?_|refine h3 ?_);clear h1 h3 K1 K3)|((first|refine zX (fun hb=>h1 ?_) (fun hb=>h3 ?_)|refine zX (fun hb=>h3 ?_) (fun hb=>h1 ?_))<;>(clear h1 h3 K1 K3;(try have hb2:=yC hb);(try have hb2:=yD hb);(try have hb2:=yE hb);(try have hb2:=yF hb);(try have hb2:=yG hb)))|(refine fun (K2:_→AHeap→Prop) hK2=>?_)|((with_reducible refine zY ?_ ?_);decide)|((with_reducible first|refine zZ ?_ (fun K hK=>?_)|refine yA ?_ (fun K hK=>?_));(focus go_simp;done);go_simp;refine hK _ _ ?_;clear hK K)|(go_simp;(try go_bits);(try first |((with_reducible show CallS _ _ _ _ _ _);first|(refine CallS.mono in_s ?_; rintro _ _ ⟨rfl, rfl⟩)|(refine CallS.mono day_s ?_; rintro _ _ ⟨rfl, rfl⟩)));refine hK2 _ _ ?_;clear hK2 K2))
  all_goals (refine ⟨?_, ((Ext.refl _).push' _).push' _⟩; rw [← HE.out]; simp_all [refR, Alt.suits]; done)
end Go.Proofs.Try
namespace Go.Proofs.Try
open Go Go.Am Go.RowKit
set_option maxRecDepth 100000

def prevDay (l : List Alt) (k : Nat) : Int := if k = 0 then 0 else (l.getD (k - 1) ⟨0, 0, 0, 0, 0, 0⟩).day

set_option maxHeartbeats 4000000 in
theorem refCheck_s {loops : List (Nat × LInfo)} {H : AHeap} {v : Value} {s : Sheet} (hv : SheetV H v s) : CallS Try.prog loops 28 [v] H fun r H' => r = .int .i64 (err s) ∧ H' = H := by
  refine CallS.forget (R := fun v => v = .int .i64 (err s)) (by rintro v rfl; rfl) ?_
  have HV := Lib.hid hv
  obtain ⟨wv, av, rfl, hw, ha⟩ := hv
  obtain ⟨hwl, wa, wc, rfl⟩ := hw.slice
  obtain ⟨hal, aa, ac, rfl⟩ := ha.slice
  have HW := Lib.hid hw
  have HA := Lib.hid ha
  clear hw ha
  generalize he : err s = er
  have HE := Lib.hid he
  clear he
  refine CallS.enter' Try.func28 rfl Try.ntmps28 (by simp) fun f hd hf => ?_
  have f0 := hf 0
  simp at f0
  clear hf
  repeat' (first|(with_reducible first|refine zA ?_|refine zB fun K hK=>?_|refine zC fun K2 hK2=>?_|refine zD ?_|refine zE ?_|refine zF ?_|refine zG ?_|refine zH ?_|refine zI ?_|refine zM ?_|refine zN ?_|refine zO ?_|refine zP ?_|refine zQ ?_|refine zR ?_)|((with_reducible refine zU (hK _ _ ?_));clear hK K)|((with_reducible refine zV ?_ ?_ fun K1 K3 d hdst h1 h3=>?_);rfl;exact yB rfl;cases hdst;go_simp)|((with_reducible refine zW fun K1 K3 h1 h3=>?_);go_simp)|((first|refine h1 ?_|refine h3 ?_);clear h1 h3 K1 K3)|((first|refine zX (fun hb=>h1 ?_) (fun hb=>h3 ?_)|refine zX (fun hb=>h3 ?_) (fun hb=>h1 ?_))<;>(clear h1 h3 K1 K3;(try have hb2:=yC hb);(try have hb2:=yD hb);(try have hb2:=yE hb);(try have hb2:=yF hb);(try have hb2:=yG hb)))|(refine fun (K2:_→AHeap→Prop) hK2=>?_)|((with_reducible refine zY ?_ ?_);decide)|((with_reducible first|refine zZ ?_ (fun K hK=>?_)|refine yA ?_ (fun K hK=>?_));(focus go_simp;done);go_simp;refine hK _ _ ?_;clear hK K)|(go_simp;(try go_bits);(try first | ((with_reducible show CallS _ _ _ _ _ _);refine CallS.mono in_s ?_; rintro _ _ ⟨rfl, rfl⟩));refine hK2 _ _ ?_;clear hK2 K2))
  · refine ⟨?_, (Ext.refl _).push' _⟩
    have hw : win 1 40 (s.words.length : Int) = false := by simpa using hb
    rw [← HE.out]; simp [err, hw]
  have hw1 : win 1 40 (s.words.length : Int) = true := by simpa using hb
  refine CodeS.loop (fun m f H' => ∃ k : Nat, k ≤ s.words.length ∧ m = s.words.length - k ∧ f.tmp 3 = .int .i64 k ∧ f.tmp 1 = .pointer (some ⟨H.n, 0, none⟩) ∧ f.defers = [] ∧ Hid (wordsOk 1 (s.words.drop k) = wordsOk 1 s.words) ∧ H' = H.push (.row [Value.slice wa s.words.length wc, Value.slice aa s.alts.length ac] 25)) s.words.length ?_ ?_
  · exact ⟨0, by simp, by simp, (by first|go_simp<;>go_num|assumption), (by first|go_simp<;>go_num|assumption), (by first|go_simp<;>go_num|assumption), Lib.hid (by simp), rfl⟩
  clear f0 hd f hb
  rintro m f H' ⟨k, hk, rfl, f3, f1, hd, HG, rfl⟩
  by_cases hlt : k < s.words.length
  · obtain ⟨b, o, sp, rfl, hb, hx⟩ := HW.out.at_ hlt
    have HD := Lib.hid (List.drop_eq_getElem_cons hlt)
    generalize s.words[k] = y at hx HD
    repeat' (first|(with_reducible first|refine zA ?_|refine zB fun K hK=>?_|refine zC fun K2 hK2=>?_|refine zD ?_|refine zE ?_|refine zF ?_|refine zG ?_|refine zH ?_|refine zI ?_|refine zM ?_|refine zN ?_|refine zO ?_|refine zP ?_|refine zQ ?_|refine zR ?_)|((with_reducible refine zU (hK _ _ ?_));clear hK K)|((with_reducible refine zV ?_ ?_ fun K1 K3 d hdst h1 h3=>?_);rfl;exact yB rfl;cases hdst;go_simp)|((with_reducible refine zW fun K1 K3 h1 h3=>?_);go_simp)|((first|refine h1 ?_|refine h3 ?_);clear h1 h3 K1 K3)|((first|refine zX (fun hb=>h1 ?_) (fun hb=>h3 ?_)|refine zX (fun hb=>h3 ?_) (fun hb=>h1 ?_))<;>(clear h1 h3 K1 K3;(try have hb2:=yC hb);(try have hb2:=yD hb);(try have hb2:=yE hb);(try have hb2:=yF hb);(try have hb2:=yG hb)))|(refine fun (K2:_→AHeap→Prop) hK2=>?_)|((with_reducible refine zY ?_ ?_);decide)|((with_reducible first|refine zZ ?_ (fun K hK=>?_)|refine yA ?_ (fun K hK=>?_));(focus go_simp;done);go_simp;refine hK _ _ ?_;clear hK K)|(go_simp;(try go_bits);(try first | ((with_reducible show CallS _ _ _ _ _ _);refine CallS.mono in_s ?_; rintro _ _ ⟨rfl, rfl⟩));refine hK2 _ _ ?_;clear hK2 K2))
    · refine ⟨?_, Ext.push _⟩
      have hw : win 1 9999 y = false := by simpa using hb
      have hw2 : wordsOk 1 s.words = false := by rw [← HG.out, HD.out]; simp [wordsOk, hw]
      rw [← HE.out]; simp [err, hw2]
    · have hw : win 1 9999 y = true := by simpa using hb
      refine Post.round_normal ⟨s.words.length - (k + 1), by omega, k + 1, by omega, rfl, (by first|go_simp<;>go_num|assumption), (by first|go_simp<;>go_num|assumption), (by first|go_simp<;>go_num|assumption), Lib.hid ?_, rfl⟩
      rw [← HG.out, HD.out]; simp [wordsOk, hw]
  · have hw2 : wordsOk 1 s.words = true := by rw [← HG.out, List.drop_eq_nil_of_le (by omega)]; rfl
    clear HG
    repeat' (first|(with_reducible first|refine zA ?_|refine zB fun K hK=>?_|refine zC fun K2 hK2=>?_|refine zD ?_|refine zE ?_|refine zF ?_|refine zG ?_|refine zH ?_|refine zI ?_|refine zM ?_|refine zN ?_|refine zO ?_|refine zP ?_|refine zQ ?_|refine zR ?_)|((with_reducible refine zU (hK _ _ ?_));clear hK K)|((with_reducible refine zV ?_ ?_ fun K1 K3 d hdst h1 h3=>?_);rfl;exact yB rfl;cases hdst;go_simp)|((with_reducible refine zW fun K1 K3 h1 h3=>?_);go_simp)|((first|refine h1 ?_|refine h3 ?_);clear h1 h3 K1 K3)|((first|refine zX (fun hb=>h1 ?_) (fun hb=>h3 ?_)|refine zX (fun hb=>h3 ?_) (fun hb=>h1 ?_))<;>(clear h1 h3 K1 K3;(try have hb2:=yC hb);(try have hb2:=yD hb);(try have hb2:=yE hb);(try have hb2:=yF hb);(try have hb2:=yG hb)))|(refine fun (K2:_→AHeap→Prop) hK2=>?_)|((with_reducible refine zY ?_ ?_);decide)|((with_reducible first|refine zZ ?_ (fun K hK=>?_)|refine yA ?_ (fun K hK=>?_));(focus go_simp;done);go_simp;refine hK _ _ ?_;clear hK K)|(go_simp;(try go_bits);refine hK2 _ _ ?_;clear hK2 K2))
    · refine ⟨?_, Ext.push _⟩
      rw [← HE.out]; simp [err, hw1, hw2]; omega
    have HE2 : Hid (errGo s.words.length 0 [] s.alts = er) := Lib.hid (by rw [← HE.out]; simp [err, hw1, hw2]; omega)
    clear HE hb hb2 hw1 hw2
    refine CodeS.loop (fun m f H' => ∃ k : Nat, k ≤ s.alts.length ∧ m = s.alts.length - k ∧ f.tmp 4 = .int .i64 k ∧ f.tmp 1 = .pointer (some ⟨H.n, 0, none⟩) ∧ f.defers = [] ∧ Hid (errGo s.words.length (prevDay s.alts k) ((s.alts.take k).map (·.id)) (s.alts.drop k) = er) ∧ Ext (H.push (.row [Value.slice wa s.words.length wc, Value.slice aa s.alts.length ac] 25)) H') s.alts.length ?_ ?_
    · exact ⟨0, by simp, by simp, (by first|go_simp<;>go_num|assumption), (by first|go_simp<;>go_num|assumption), (by first|go_simp<;>go_num|assumption), Lib.hid (by simpa [prevDay] using HE2.out), Ext.refl _⟩
    clear f3 f1 hd HE2 f
    rintro m f H' ⟨k, hk, rfl, f4, f1, hd, HG, hx⟩
    have hc0 : cellAt H' H.n 0 = some (Value.slice wa s.words.length wc) := by rw [hx.cellAt (by rw [AHeap.n_push]; omega), cellAt_new]; rfl
    have hc1 : cellAt H' H.n 1 = some (Value.slice aa s.alts.length ac) := by rw [hx.cellAt (by rw [AHeap.n_push]; omega), cellAt_new]; rfl
    have hc2 : cellsAt H' H.n 0 2 = some [Value.slice wa s.words.length wc, Value.slice aa s.alts.length ac] := by rw [hx.cellsAt (by rw [AHeap.n_push]; omega), cellsAt_new]; rfl
    have hn0 : H.n < H'.n := by have := hx.n; rw [AHeap.n_push] at this; omega
    have HX := Lib.hid hx
    clear hx
    by_cases hlt : k < s.alts.length
    · obtain ⟨b, o, sp, rfl, hb, hx6, -⟩ := (HA.out.ext ((Ext.push _).trans HX.out)).at_ hlt
      have HD := Lib.hid (List.drop_eq_getElem_cons hlt)
      have HT := Lib.hid (List.take_succ_eq_append_getElem hlt)
      have HP : Hid (prevDay s.alts (k + 1) = (s.alts[k]).day) := Lib.hid (by simp [prevDay, hlt])
      generalize s.alts[k] = a at hx6 HD HT HP
      obtain ⟨i, kd, dy, fr, to, wd⟩ := a
      simp only [Alt.cells] at hx6
      have HR1 : Hid (Alt.right ⟨i, kd, dy, fr, to, wd⟩ s.words.length = false ∨ dy < prevDay s.alts k → (1 : Int) = er) := Lib.hid (fun h => by rw [← HG.out, HD.out, errGo, if_pos h])
      have HR2 : Hid (Alt.right ⟨i, kd, dy, fr, to, wd⟩ s.words.length = true → ¬ dy < prevDay s.alts k → errGo s.words.length (prevDay s.alts k) ((s.alts.take k).map (·.id)) (s.alts.drop k) = if i ∈ (s.alts.take k).map (·.id) then 6 else errGo s.words.length dy ((s.alts.take k).map (·.id) ++ [i]) (s.alts.drop (k + 1))) := Lib.hid (fun h h2 => by rw [HD.out, errGo, if_neg (by simp [h, h2])])
      have HR0 : Hid (Alt.right ⟨i, kd, dy, fr, to, wd⟩ s.words.length = true → 0 ≤ dy) := Lib.hid (fun h => by simp only [Alt.right, Bool.and_eq_true, win_iff] at h; exact h.2.1.1)
      have hrr : ∀ (loops : List (Nat × LInfo)) (H2 : AHeap), Ext H' H2 → CallS Try.prog loops 69 [.agg #[Value.slice wa s.words.length wc, Value.slice (some ⟨b, o, sp⟩) s.alts.length ac], Alt.val ⟨i, kd, dy, fr, to, wd⟩] H2 fun v H' => v = .bool (Alt.right ⟨i, kd, dy, fr, to, wd⟩ s.words.length) ∧ H' = H2 := fun loops H2 hx => refRight_s (HV.out.ext (((Ext.push _).trans HX.out).trans hx))
      generalize Alt.right ⟨i, kd, dy, fr, to, wd⟩ s.words.length = rr at HR1 HR2 HR0 hrr
      have HRR := Lib.hid hrr
      clear hrr
      rcases Nat.eq_zero_or_pos k with hk0 | hk0
      case' inl =>
        subst hk0
        simp only [Nat.zero_mul, Nat.add_zero] at hx6
        repeat' (first|(with_reducible first|refine zA ?_|refine zB fun K hK=>?_|refine zC fun K2 hK2=>?_|refine zD ?_|refine zE ?_|refine zF ?_|refine zG ?_|refine zH ?_|refine zI ?_|refine zM ?_|refine zN ?_|refine zO ?_|refine zP ?_|refine zQ ?_|refine zR ?_)|((with_reducible refine zU (hK _ _ ?_));clear hK K)|((with_reducible refine zV ?_ ?_ fun K1 K3 d hdst h1 h3=>?_);rfl;exact yB rfl;cases hdst;go_simp)|((with_reducible refine zW fun K1 K3 h1 h3=>?_);go_simp)|((first|refine h1 ?_|refine h3 ?_);clear h1 h3 K1 K3)|((first|refine zX (fun hb=>h1 ?_) (fun hb=>h3 ?_)|refine zX (fun hb=>h3 ?_) (fun hb=>h1 ?_))<;>(clear h1 h3 K1 K3;(try have hb2:=yC hb);(try have hb2:=yD hb);(try have hb2:=yE hb);(try have hb2:=yF hb);(try have hb2:=yG hb)))|(refine fun (K2:_→AHeap→Prop) hK2=>?_)|((with_reducible refine zY ?_ ?_);decide)|((with_reducible first|refine zZ ?_ (fun K hK=>?_)|refine yA ?_ (fun K hK=>?_));(focus go_simp;done);go_simp;refine hK _ _ ?_;clear hK K)|((with_reducible refine yH mixed rfl ?_ 20 fun K0 hK0=>?_);kernel_rfl)|(with_reducible first|exact yI|exact yJ|refine yK ?_|refine yL ?_|refine yM ?_)|((with_reducible first|refine yN ?_ ?_|refine yO ?_ ?_|refine yP ?_ ?_);rfl)|((with_reducible refine yQ ?_ ?_);rfl;refine hK0 _ _ ?_;clear hK0 K0)|((with_reducible refine yR ?_ ?_ ?_ ?_);rfl;rfl;rfl)|((with_reducible refine yS ?_ ?_ ?_ fun K2 hK2=>?_);rfl;rfl;exact yB rfl)|((with_reducible refine yT ?_ ?_ ?_ ?_ fun K1 K3 d hdst h1 h3=>?_);rfl;rfl;rfl;exact yB rfl;cases hdst;go_simp)|((with_reducible refine yU ?_ ?_ ?_ ?_ fun K1 K3 d hdst h1 h3=>?_);rfl;rfl;rfl;exact yB rfl;cases hdst;go_simp)|((with_reducible refine yV ?_ ?_ (fun K2 hK2=>?_) ?_);rfl;exact yB rfl)|((with_reducible refine yW ?_ ?_ ?_ ?_ (fun K2 hK2=>?_) ?_);rfl;exact yB rfl;rfl;(focus go_simp;done))|((with_reducible refine yX ?_ ?_ ?_ (fun K2 hK2=>?_) ?_);rfl;rfl;exact yB rfl)|((with_reducible refine yY ?_ ?_ (fun K2 hK2=>?_) ?_);rfl;rfl)|((with_reducible refine yZ ?_ ?_);(first|rfl|(dsimp only;decide +kernel)))|((with_reducible refine xA ?_ ?_);(focus go_simp;done))|(go_simp;(try go_bits);(try first | ((with_reducible show CallS _ _ _ _ _ _);refine CallS.mono (HRR.out _ _ (Ext.push _)) ?_; rintro _ _ ⟨rfl, rfl⟩));(first|(refine hK2 _ _ ?_ ?_<;>clear hK2 K2)|(refine hK2 _ _ ?_;clear hK2 K2))))
        all_goals (try (exact ⟨by rw [HR1.out (.inl (by simpa using hb))], ((Ext.push _).trans HX.out).push' _⟩))
        have hq1 : rr = true := by simpa using hb
        have hq2 := HR0.out hq1
        have HQ : Hid (rr = true ∧ ¬ dy < prevDay s.alts 0) := Lib.hid ⟨hq1, by simp [prevDay]; omega⟩
        clear hq1 hq2 hb
        have hQ := HR2.out HQ.out.1 HQ.out.2
        have HQ2 := Lib.hid hQ
        clear hQ
        refine CodeS.loop (fun m f H'' => ∃ j : Nat, j ≤ 0 ∧ m = 0 - j ∧ f.tmp 6 = .int .i64 j ∧ f.tmp 4 = .int .i64 0 ∧ f.tmp 1 = .pointer (some ⟨H.n, 0, none⟩) ∧ f.tmp 5 = .pointer (some ⟨H'.n, 0, none⟩) ∧ f.defers = [] ∧ Hid (i ∉ (s.alts.take j).map (·.id)) ∧ H'' = H'.push (AObj.row [Value.int IntKind.i64 i, Value.int IntKind.i64 kd, Value.int IntKind.i64 dy, Value.int IntKind.i64 fr, Value.int IntKind.i64 to, Value.int IntKind.i64 wd] 61)) 0 ?_ ?_
        · exact ⟨0, by simp, by simp, (by first|go_simp<;>go_num|assumption), (by first|go_simp<;>go_num|assumption), (by first|go_simp<;>go_num|assumption), (by first|go_simp<;>go_num|assumption), (by first|go_simp<;>go_num|assumption), Lib.hid (by simp), rfl⟩
        clear f4 f1 hd f HRR
        rintro m f H'' ⟨j, hj, rfl, f6, f4, f1, f5, hd, HN, rfl⟩
        by_cases hjk : j < 0
        · exact absurd hjk (Nat.not_lt_zero _)
        · have hjk2 : j = 0 := by omega
          rw [hjk2] at f6 HN
          clear hj hjk hjk2
          repeat' (first|(with_reducible first|refine zA ?_|refine zB fun K hK=>?_|refine zC fun K2 hK2=>?_|refine zD ?_|refine zE ?_|refine zF ?_|refine zG ?_|refine zH ?_|refine zI ?_|refine zM ?_|refine zN ?_|refine zO ?_|refine zP ?_|refine zQ ?_|refine zR ?_)|((with_reducible refine zU (hK _ _ ?_));clear hK K)|((with_reducible refine zV ?_ ?_ fun K1 K3 d hdst h1 h3=>?_);rfl;exact yB rfl;cases hdst;go_simp)|((with_reducible refine zW fun K1 K3 h1 h3=>?_);go_simp)|((first|refine h1 ?_|refine h3 ?_);clear h1 h3 K1 K3)|((first|refine zX (fun hb=>h1 ?_) (fun hb=>h3 ?_)|refine zX (fun hb=>h3 ?_) (fun hb=>h1 ?_))<;>(clear h1 h3 K1 K3;(try have hb2:=yC hb);(try have hb2:=yD hb);(try have hb2:=yE hb);(try have hb2:=yF hb);(try have hb2:=yG hb)))|(refine fun (K2:_→AHeap→Prop) hK2=>?_)|((with_reducible refine zY ?_ ?_);decide)|((with_reducible first|refine zZ ?_ (fun K hK=>?_)|refine yA ?_ (fun K hK=>?_));(focus go_simp;done);go_simp;refine hK _ _ ?_;clear hK K)|(go_simp;(try go_bits);refine hK2 _ _ ?_;clear hK2 K2))
          refine Post.round_normal ⟨s.alts.length - (0 + 1), by omega, 0 + 1, by omega, rfl, (by first|go_simp<;>go_num|assumption), (by first|go_simp<;>go_num|assumption), (by first|go_simp<;>go_num|assumption), Lib.hid ?_, HX.out.trans (Ext.push _)⟩
          have h9 := HQ2.out
          rw [if_neg HN.out] at h9
          rw [HP.out, HT.out, List.map_append, ← HG.out, h9]
          rfl
      case' inr =>
        obtain ⟨b2, o2, sp2, he2, -, -, hxp⟩ := (HA.out.ext ((Ext.push _).trans HX.out)).at_ (k := k - 1) (by omega)
        cases he2
        have hpd := hxp 2 _ rfl
        have HP2 : Hid (prevDay s.alts k = (s.alts[k - 1]).day) := Lib.hid (by simp [prevDay, show k ≠ 0 by omega, show k - 1 < s.alts.length by omega])
        generalize s.alts[k - 1] = pa at hpd HP2
        obtain ⟨pi, pk, pd, pf, pt, pw⟩ := pa
        simp only at hpd
        clear hxp
        have h0i : (0 : Int) ≤ (k : Int) - 1 := by omega
        have h1i : (k : Int) - 1 < (s.alts.length : Int) := by omega
        have h2i : (1 : Int) ≤ (k : Int) := by omega
        have h3i : 1 ≤ k := by omega
        repeat' (first|(with_reducible first|refine zA ?_|refine zB fun K hK=>?_|refine zC fun K2 hK2=>?_|refine zD ?_|refine zE ?_|refine zF ?_|refine zG ?_|refine zH ?_|refine zI ?_|refine zM ?_|refine zN ?_|refine zO ?_|refine zP ?_|refine zQ ?_|refine zR ?_)|((with_reducible refine zU (hK _ _ ?_));clear hK K)|((with_reducible refine zV ?_ ?_ fun K1 K3 d hdst h1 h3=>?_);rfl;exact yB rfl;cases hdst;go_simp)|((with_reducible refine zW fun K1 K3 h1 h3=>?_);go_simp)|((first|refine h1 ?_|refine h3 ?_);clear h1 h3 K1 K3)|((first|refine zX (fun hb=>h1 ?_) (fun hb=>h3 ?_)|refine zX (fun hb=>h3 ?_) (fun hb=>h1 ?_))<;>(clear h1 h3 K1 K3;(try have hb2:=yC hb);(try have hb2:=yD hb);(try have hb2:=yE hb);(try have hb2:=yF hb);(try have hb2:=yG hb)))|(refine fun (K2:_→AHeap→Prop) hK2=>?_)|((with_reducible refine zY ?_ ?_);decide)|((with_reducible first|refine zZ ?_ (fun K hK=>?_)|refine yA ?_ (fun K hK=>?_));(focus go_simp;done);go_simp;refine hK _ _ ?_;clear hK K)|((with_reducible refine yH mixed rfl ?_ 20 fun K0 hK0=>?_);kernel_rfl)|(with_reducible first|exact yI|exact yJ|refine yK ?_|refine yL ?_|refine yM ?_)|((with_reducible first|refine yN ?_ ?_|refine yO ?_ ?_|refine yP ?_ ?_);rfl)|((with_reducible refine yQ ?_ ?_);rfl;refine hK0 _ _ ?_;clear hK0 K0)|((with_reducible refine yR ?_ ?_ ?_ ?_);rfl;rfl;rfl)|((with_reducible refine yS ?_ ?_ ?_ fun K2 hK2=>?_);rfl;rfl;exact yB rfl)|((with_reducible refine yT ?_ ?_ ?_ ?_ fun K1 K3 d hdst h1 h3=>?_);rfl;rfl;rfl;exact yB rfl;cases hdst;go_simp)|((with_reducible refine yU ?_ ?_ ?_ ?_ fun K1 K3 d hdst h1 h3=>?_);rfl;rfl;rfl;exact yB rfl;cases hdst;go_simp)|((with_reducible refine yV ?_ ?_ (fun K2 hK2=>?_) ?_);rfl;exact yB rfl)|((with_reducible refine yW ?_ ?_ ?_ ?_ (fun K2 hK2=>?_) ?_);rfl;exact yB rfl;rfl;(focus go_simp;done))|((with_reducible refine yX ?_ ?_ ?_ (fun K2 hK2=>?_) ?_);rfl;rfl;exact yB rfl)|((with_reducible refine yY ?_ ?_ (fun K2 hK2=>?_) ?_);rfl;rfl)|((with_reducible refine yZ ?_ ?_);(first|rfl|(dsimp only;decide +kernel)))|((with_reducible refine xA ?_ ?_);(focus go_simp;done))|(go_simp;(try go_bits);(try first | ((with_reducible show CallS _ _ _ _ _ _);refine CallS.mono (HRR.out _ _ (Ext.push _)) ?_; rintro _ _ ⟨rfl, rfl⟩));(first|(refine hK2 _ _ ?_ ?_<;>clear hK2 K2)|(refine hK2 _ _ ?_;clear hK2 K2))))
        all_goals (try (exact ⟨by rw [HR1.out (.inr (by rw [HP2.out]; exact hb2))], ((Ext.push _).trans HX.out).push' _⟩))
        all_goals (try (exact ⟨by rw [HR1.out (.inl (by simpa using hb))], ((Ext.push _).trans HX.out).push' _⟩))
        have HQ : Hid (rr = true ∧ ¬ dy < prevDay s.alts k) := Lib.hid ⟨by simpa using ‹(!rr) = false›, by rw [HP2.out]; simp only; omega⟩
        clear hb hb2
        have hQ := HR2.out HQ.out.1 HQ.out.2
        have HQ2 := Lib.hid hQ
        clear hQ
        refine CodeS.loop (fun m f H'' => ∃ j : Nat, j ≤ k ∧ m = k - j ∧ f.tmp 6 = .int .i64 j ∧ f.tmp 4 = .int .i64 k ∧ f.tmp 1 = .pointer (some ⟨H.n, 0, none⟩) ∧ f.tmp 5 = .pointer (some ⟨H'.n, 0, none⟩) ∧ f.defers = [] ∧ Hid (i ∉ (s.alts.take j).map (·.id)) ∧ H'' = H'.push (AObj.row [Value.int IntKind.i64 i, Value.int IntKind.i64 kd, Value.int IntKind.i64 dy, Value.int IntKind.i64 fr, Value.int IntKind.i64 to, Value.int IntKind.i64 wd] 61)) k ?_ ?_
        · exact ⟨0, by simp, by simp, (by first|go_simp<;>go_num|assumption), (by first|go_simp<;>go_num|assumption), (by first|go_simp<;>go_num|assumption), (by first|go_simp<;>go_num|assumption), (by first|go_simp<;>go_num|assumption), Lib.hid (by simp), rfl⟩
        clear f4 f1 hd f HRR
        rintro m f H'' ⟨j, hj, rfl, f6, f4, f1, f5, hd, HN, rfl⟩
        by_cases hjk : j < k
        · obtain ⟨b3, o3, sp3, he3, -, -, hx3⟩ := (HA.out.ext ((Ext.push _).trans HX.out)).at_ (k := j) (by omega)
          cases he3
          have hc3 := hx3 0 _ rfl
          have HT3 := Lib.hid (List.take_succ_eq_append_getElem (l := s.alts) (i := j) (by omega))
          have HE3 : Hid ((s.alts[j]).id ∈ (s.alts.take k).map (·.id)) := Lib.hid (List.mem_map.2 ⟨s.alts[j], List.mem_take_iff_getElem.2 ⟨j, by omega, rfl⟩, rfl⟩)
          generalize s.alts[j] = aj at hc3 HT3 HE3
          obtain ⟨ji, jk, jd, jf, jt, jw⟩ := aj
          simp only [Nat.add_zero] at hc3
          clear hx3
          have hjn : j < s.alts.length := by omega
          repeat' (first|(with_reducible first|refine zA ?_|refine zB fun K hK=>?_|refine zC fun K2 hK2=>?_|refine zD ?_|refine zE ?_|refine zF ?_|refine zG ?_|refine zH ?_|refine zI ?_|refine zM ?_|refine zN ?_|refine zO ?_|refine zP ?_|refine zQ ?_|refine zR ?_)|((with_reducible refine zU (hK _ _ ?_));clear hK K)|((with_reducible refine zV ?_ ?_ fun K1 K3 d hdst h1 h3=>?_);rfl;exact yB rfl;cases hdst;go_simp)|((with_reducible refine zW fun K1 K3 h1 h3=>?_);go_simp)|((first|refine h1 ?_|refine h3 ?_);clear h1 h3 K1 K3)|((first|refine zX (fun hb=>h1 ?_) (fun hb=>h3 ?_)|refine zX (fun hb=>h3 ?_) (fun hb=>h1 ?_))<;>(clear h1 h3 K1 K3;(try have hb2:=yC hb);(try have hb2:=yD hb);(try have hb2:=yE hb);(try have hb2:=yF hb);(try have hb2:=yG hb)))|(refine fun (K2:_→AHeap→Prop) hK2=>?_)|((with_reducible refine zY ?_ ?_);decide)|((with_reducible first|refine zZ ?_ (fun K hK=>?_)|refine yA ?_ (fun K hK=>?_));(focus go_simp;done);go_simp;refine hK _ _ ?_;clear hK K)|((with_reducible refine yH mixed rfl ?_ 20 fun K0 hK0=>?_);kernel_rfl)|(with_reducible first|exact yI|exact yJ|refine yK ?_|refine yL ?_|refine yM ?_)|((with_reducible first|refine yN ?_ ?_|refine yO ?_ ?_|refine yP ?_ ?_);rfl)|((with_reducible refine yQ ?_ ?_);rfl;refine hK0 _ _ ?_;clear hK0 K0)|((with_reducible refine yR ?_ ?_ ?_ ?_);rfl;rfl;rfl)|((with_reducible refine yS ?_ ?_ ?_ fun K2 hK2=>?_);rfl;rfl;exact yB rfl)|((with_reducible refine yT ?_ ?_ ?_ ?_ fun K1 K3 d hdst h1 h3=>?_);rfl;rfl;rfl;exact yB rfl;cases hdst;go_simp)|((with_reducible refine yU ?_ ?_ ?_ ?_ fun K1 K3 d hdst h1 h3=>?_);rfl;rfl;rfl;exact yB rfl;cases hdst;go_simp)|((with_reducible refine yV ?_ ?_ (fun K2 hK2=>?_) ?_);rfl;exact yB rfl)|((with_reducible refine yW ?_ ?_ ?_ ?_ (fun K2 hK2=>?_) ?_);rfl;exact yB rfl;rfl;(focus go_simp;done))|((with_reducible refine yX ?_ ?_ ?_ (fun K2 hK2=>?_) ?_);rfl;rfl;exact yB rfl)|((with_reducible refine yY ?_ ?_ (fun K2 hK2=>?_) ?_);rfl;rfl)|((with_reducible refine yZ ?_ ?_);(first|rfl|(dsimp only;decide +kernel)))|((with_reducible refine xA ?_ ?_);(focus go_simp;done))|(go_simp;(try go_bits);(first|(refine hK2 _ _ ?_ ?_<;>clear hK2 K2)|(refine hK2 _ _ ?_;clear hK2 K2))))
          · refine ⟨?_, ((Ext.push _).trans HX.out).push' _⟩
            have hq : ji = i := by simpa using hb
            have hm := HE3.out
            rw [hq] at hm
            rw [← HG.out, HQ2.out, if_pos hm]
          · refine Post.round_normal ⟨k - (j + 1), by omega, j + 1, by omega, rfl, (by first|go_simp<;>go_num|assumption), (by first|go_simp<;>go_num|assumption), (by first|go_simp<;>go_num|assumption), (by first|go_simp<;>go_num|assumption), (by first|go_simp<;>go_num|assumption), Lib.hid ?_, rfl⟩
            have hq : ¬ ji = i := by simpa using hb
            rw [HT3.out, List.map_append, List.mem_append]
            rintro (h | h)
            · exact HN.out h
            · simp at h; exact hq h.symm
        · have hjk2 : j = k := by omega
          rw [hjk2] at f6 HN
          clear hj hjk hjk2
          repeat' (first|(with_reducible first|refine zA ?_|refine zB fun K hK=>?_|refine zC fun K2 hK2=>?_|refine zD ?_|refine zE ?_|refine zF ?_|refine zG ?_|refine zH ?_|refine zI ?_|refine zM ?_|refine zN ?_|refine zO ?_|refine zP ?_|refine zQ ?_|refine zR ?_)|((with_reducible refine zU (hK _ _ ?_));clear hK K)|((with_reducible refine zV ?_ ?_ fun K1 K3 d hdst h1 h3=>?_);rfl;exact yB rfl;cases hdst;go_simp)|((with_reducible refine zW fun K1 K3 h1 h3=>?_);go_simp)|((first|refine h1 ?_|refine h3 ?_);clear h1 h3 K1 K3)|((first|refine zX (fun hb=>h1 ?_) (fun hb=>h3 ?_)|refine zX (fun hb=>h3 ?_) (fun hb=>h1 ?_))<;>(clear h1 h3 K1 K3;(try have hb2:=yC hb);(try have hb2:=yD hb);(try have hb2:=yE hb);(try have hb2:=yF hb);(try have hb2:=yG hb)))|(refine fun (K2:_→AHeap→Prop) hK2=>?_)|((with_reducible refine zY ?_ ?_);decide)|((with_reducible first|refine zZ ?_ (fun K hK=>?_)|refine yA ?_ (fun K hK=>?_));(focus go_simp;done);go_simp;refine hK _ _ ?_;clear hK K)|(go_simp;(try go_bits);refine hK2 _ _ ?_;clear hK2 K2))
          refine Post.round_normal ⟨s.alts.length - (k + 1), by omega, k + 1, by omega, rfl, (by first|go_simp<;>go_num|assumption), (by first|go_simp<;>go_num|assumption), (by first|go_simp<;>go_num|assumption), Lib.hid ?_, HX.out.trans (Ext.push _)⟩
          have h9 := HQ2.out
          rw [if_neg HN.out] at h9
          rw [HP.out, HT.out, List.map_append, ← HG.out, h9]
          rfl
    · repeat' (first|(with_reducible first|refine zA ?_|refine zB fun K hK=>?_|refine zC fun K2 hK2=>?_|refine zD ?_|refine zE ?_|refine zF ?_|refine zG ?_|refine zH ?_|refine zI ?_|refine zM ?_|refine zN ?_|refine zO ?_|refine zP ?_|refine zQ ?_|refine zR ?_)|((with_reducible refine zU (hK _ _ ?_));clear hK K)|((with_reducible refine zV ?_ ?_ fun K1 K3 d hdst h1 h3=>?_);rfl;exact yB rfl;cases hdst;go_simp)|((with_reducible refine zW fun K1 K3 h1 h3=>?_);go_simp)|((first|refine h1 ?_|refine h3 ?_);clear h1 h3 K1 K3)|((first|refine zX (fun hb=>h1 ?_) (fun hb=>h3 ?_)|refine zX (fun hb=>h3 ?_) (fun hb=>h1 ?_))<;>(clear h1 h3 K1 K3;(try have hb2:=yC hb);(try have hb2:=yD hb);(try have hb2:=yE hb);(try have hb2:=yF hb);(try have hb2:=yG hb)))|(refine fun (K2:_→AHeap→Prop) hK2=>?_)|((with_reducible refine zY ?_ ?_);decide)|((with_reducible first|refine zZ ?_ (fun K hK=>?_)|refine yA ?_ (fun K hK=>?_));(focus go_simp;done);go_simp;refine hK _ _ ?_;clear hK K)|(go_simp;(try go_bits);refine hK2 _ _ ?_;clear hK2 K2))
      refine ⟨?_, (Ext.push _).trans HX.out⟩
      rw [← HG.out, List.drop_eq_nil_of_le (by omega)]; rfl
end Go.Proofs.Try
namespace Go.Proofs.Try
open Go Go.Am Go.RowKit
set_option maxRecDepth 100000


def validA (s : Sheet) (c : Copy) : Bool := decide (c.words.length = s.words.length) && (win 0 730 c.beg && (win 0 730 c.fin && (decide (c.beg ≤ c.fin) && win 1 40 c.per)))
theorem copyOk_eq (s : Sheet) (c : Copy) : copyOk s c = (validA s c && wordsOk 0 c.words) := by
  rw [Bool.eq_iff_iff]
  simp only [copyOk, validA, Bool.and_eq_true, decide_eq_true_eq, win_iff]
  constructor
  · rintro ⟨h1, h2, h3, h4, h5⟩; exact ⟨⟨h1, by omega, by omega, by omega, h5⟩, h2⟩
  · rintro ⟨⟨h1, h2, h3, h4, h5⟩, h6⟩; exact ⟨h1, h6, by omega, by omega, h5⟩

theorem valid_s {loops : List (Nat × LInfo)} {H : AHeap} {sv cv : Value} {s : Sheet} {c : Copy} (hs : SheetV H sv s) (hc : CopyV H cv c) : CallS Try.prog loops 70 [sv, cv] H fun r H' => r = .bool (copyOk s c) ∧ H' = H := by
  refine CallS.forget (R := fun v => v = .bool (copyOk s c)) (by rintro v rfl; rfl) ?_
  obtain ⟨wv, av, rfl, hw, ha⟩ := hs
  obtain ⟨hwl, wa, wc, rfl⟩ := hw.slice
  obtain ⟨hal, aa, ac, rfl⟩ := ha.slice
  obtain ⟨cv, rfl, hcw⟩ := hc
  obtain ⟨hcl, ca, cc, rfl⟩ := hcw.slice
  have HCW := Lib.hid hcw
  clear hw ha hcw
  rw [copyOk_eq]
  generalize he : (validA s c && wordsOk 0 c.words) = er
  have HE := Lib.hid he
  clear he
  refine CallS.enter' Try.func70 rfl Try.ntmps70 (by simp) fun f hd hf => ?_
  have f0 := hf 0
  have f1 := hf 1
  simp at f0 f1
  clear hf
  repeat' (first|(with_reducible first|refine zA ?_|refine zB fun K hK=>?_|refine zC fun K2 hK2=>?_|refine zD ?_|refine zE ?_|refine zF ?_|refine zG ?_|refine zH ?_|refine zI ?_|refine zM ?_|refine zN ?_|refine zO ?_|refine zP ?_|refine zQ ?_|refine zR ?_)|((with_reducible refine zU (hK _ _ ?_));clear hK K)|((with_reducible refine zV ?_ ?_ fun K1 K3 d hdst h1 h3=>?_);rfl;exact yB rfl;cases hdst;go_simp)|((with_reducible refine zW fun K1 K3 h1 h3=>?_);go_simp)|((first|refine h1 ?_|refine h3 ?_);clear h1 h3 K1 K3)|((first|refine zX (fun hb=>h1 ?_) (fun hb=>h3 ?_)|refine zX (fun hb=>h3 ?_) (fun hb=>h1 ?_))<;>(clear h1 h3 K1 K3;(try have hb2:=yC hb);(try have hb2:=yD hb);(try have hb2:=yE hb);(try have hb2:=yF hb);(try have hb2:=yG hb)))|(refine fun (K2:_→AHeap→Prop) hK2=>?_)|((with_reducible refine zY ?_ ?_);decide)|((with_reducible first|refine zZ ?_ (fun K hK=>?_)|refine yA ?_ (fun K hK=>?_));(focus go_simp;done);go_simp;refine hK _ _ ?_;clear hK K)|(go_simp;(try go_bits);(try first |((with_reducible show CallS _ _ _ _ _ _);first|(refine CallS.mono in_s ?_; rintro _ _ ⟨rfl, rfl⟩)|(refine CallS.mono day_s ?_; rintro _ _ ⟨rfl, rfl⟩)));refine hK2 _ _ ?_;clear hK2 K2))
  all_goals (try (refine ⟨?_, ((Ext.refl _).push' _).push' _⟩; rw [← HE.out]; simp_all [validA, nat_neb]; done))
  all_goals (try (refine ⟨?_, ((Ext.refl _).push' _).push' _⟩; rw [← HE.out]; simp_all [validA, nat_neb]; omega))
  have hva : validA s c = true := by simp_all [validA, nat_neb]; try omega
  refine CodeS.loop (fun m f H' => ∃ k : Nat, k ≤ c.words.length ∧ m = c.words.length - k ∧ f.tmp 5 = .int .i64 k ∧ f.tmp 3 = .pointer (some ⟨H.n + 1, 0, none⟩) ∧ f.defers = [] ∧ Hid (wordsOk 0 (c.words.drop k) = er) ∧ H' = (H.push (.row [Value.slice wa s.words.length wc, Value.slice aa s.alts.length ac] 25)).push (.row [Value.slice ca c.words.length cc, .int .i64 c.beg, .int .i64 c.fin, .int .i64 c.per] 27)) c.words.length ?_ ?_
  · exact ⟨0, by simp, by simp, (by first|go_simp<;>go_num|assumption), (by first|go_simp<;>go_num|assumption), (by first|go_simp<;>go_num|assumption), Lib.hid (by rw [← HE.out, hva]; simp), rfl⟩
  clear f0 f1 hd f HE hva
  rintro m f H' ⟨k, hk, rfl, f5, f3, hd, HG, rfl⟩
  by_cases hlt : k < c.words.length
  · obtain ⟨b, o, sp, rfl, hb, hx⟩ := HCW.out.at_ hlt
    have HD := Lib.hid (List.drop_eq_getElem_cons hlt)
    generalize c.words[k] = y at hx HD
    have hbn : b < H.n + 1 := by omega
    repeat' (first|(with_reducible first|refine zA ?_|refine zB fun K hK=>?_|refine zC fun K2 hK2=>?_|refine zD ?_|refine zE ?_|refine zF ?_|refine zG ?_|refine zH ?_|refine zI ?_|refine zM ?_|refine zN ?_|refine zO ?_|refine zP ?_|refine zQ ?_|refine zR ?_)|((with_reducible refine zU (hK _ _ ?_));clear hK K)|((with_reducible refine zV ?_ ?_ fun K1 K3 d hdst h1 h3=>?_);rfl;exact yB rfl;cases hdst;go_simp)|((with_reducible refine zW fun K1 K3 h1 h3=>?_);go_simp)|((first|refine h1 ?_|refine h3 ?_);clear h1 h3 K1 K3)|((first|refine zX (fun hb=>h1 ?_) (fun hb=>h3 ?_)|refine zX (fun hb=>h3 ?_) (fun hb=>h1 ?_))<;>(clear h1 h3 K1 K3;(try have hb2:=yC hb);(try have hb2:=yD hb);(try have hb2:=yE hb);(try have hb2:=yF hb);(try have hb2:=yG hb)))|(refine fun (K2:_→AHeap→Prop) hK2=>?_)|((with_reducible refine zY ?_ ?_);decide)|((with_reducible first|refine zZ ?_ (fun K hK=>?_)|refine yA ?_ (fun K hK=>?_));(focus go_simp;done);go_simp;refine hK _ _ ?_;clear hK K)|(go_simp;(try go_bits);(try first | ((with_reducible show CallS _ _ _ _ _ _);refine CallS.mono in_s ?_; rintro _ _ ⟨rfl, rfl⟩));refine hK2 _ _ ?_;clear hK2 K2))
    · refine ⟨?_, ((Ext.refl _).push' _).push' _⟩
      have hw : win 0 9999 y = false := by simpa using ‹(!win 0 9999 y) = true›
      rw [← HG.out, HD.out]; simp [wordsOk, hw]
    · have hw : win 0 9999 y = true := by simpa using ‹(!win 0 9999 y) = false›
      refine Post.round_normal ⟨c.words.length - (k + 1), by omega, k + 1, by omega, rfl, (by first|go_simp<;>go_num|assumption), (by first|go_simp<;>go_num|assumption), (by first|go_simp<;>go_num|assumption), Lib.hid ?_, rfl⟩
      rw [← HG.out, HD.out]; simp [wordsOk, hw]
  · repeat' (first|(with_reducible first|refine zA ?_|refine zB fun K hK=>?_|refine zC fun K2 hK2=>?_|refine zD ?_|refine zE ?_|refine zF ?_|refine zG ?_|refine zH ?_|refine zI ?_|refine zM ?_|refine zN ?_|refine zO ?_|refine zP ?_|refine zQ ?_|refine zR ?_)|((with_reducible refine zU (hK _ _ ?_));clear hK K)|((with_reducible refine zV ?_ ?_ fun K1 K3 d hdst h1 h3=>?_);rfl;exact yB rfl;cases hdst;go_simp)|((with_reducible refine zW fun K1 K3 h1 h3=>?_);go_simp)|((first|refine h1 ?_|refine h3 ?_);clear h1 h3 K1 K3)|((first|refine zX (fun hb=>h1 ?_) (fun hb=>h3 ?_)|refine zX (fun hb=>h3 ?_) (fun hb=>h1 ?_))<;>(clear h1 h3 K1 K3;(try have hb2:=yC hb);(try have hb2:=yD hb);(try have hb2:=yE hb);(try have hb2:=yF hb);(try have hb2:=yG hb)))|(refine fun (K2:_→AHeap→Prop) hK2=>?_)|((with_reducible refine zY ?_ ?_);decide)|((with_reducible first|refine zZ ?_ (fun K hK=>?_)|refine yA ?_ (fun K hK=>?_));(focus go_simp;done);go_simp;refine hK _ _ ?_;clear hK K)|(go_simp;(try go_bits);refine hK2 _ _ ?_;clear hK2 K2))
    refine ⟨?_, ((Ext.refl _).push' _).push' _⟩
    rw [← HG.out, List.drop_eq_nil_of_le (by omega)]; rfl

theorem refCheckCopy_s {loops : List (Nat × LInfo)} {H : AHeap} {sv cv : Value} {s : Sheet} {c : Copy} (hs : SheetV H sv s) (hc : CopyV H cv c) : CallS Try.prog loops 30 [sv, cv] H fun r H' => r = .int .i64 (errCopy s c) ∧ H' = H := by
  refine CallS.forget (R := fun v => v = .int .i64 (errCopy s c)) (by rintro v rfl; rfl) ?_
  have HV := Lib.hid hs
  have HC := Lib.hid hc
  obtain ⟨wv, av, rfl, hw, ha⟩ := hs
  obtain ⟨hwl, wa, wc, rfl⟩ := hw.slice
  obtain ⟨hal, aa, ac, rfl⟩ := ha.slice
  obtain ⟨cv, rfl, hcw⟩ := hc
  obtain ⟨hcl, ca, cc, rfl⟩ := hcw.slice
  clear hw ha hcw
  generalize he : errCopy s c = er
  have HE := Lib.hid he
  clear he
  refine CallS.enter' Try.func30 rfl Try.ntmps30 (by simp) fun f hd hf => ?_
  have f0 := hf 0
  have f1 := hf 1
  simp at f0 f1
  clear hf
  repeat' (first|(with_reducible first|refine zA ?_|refine zB fun K hK=>?_|refine zC fun K2 hK2=>?_|refine zD ?_|refine zE ?_|refine zF ?_|refine zG ?_|refine zH ?_|refine zI ?_|refine zM ?_|refine zN ?_|refine zO ?_|refine zP ?_|refine zQ ?_|refine zR ?_)|((with_reducible refine zU (hK _ _ ?_));clear hK K)|((with_reducible refine zV ?_ ?_ fun K1 K3 d hdst h1 h3=>?_);rfl;exact yB rfl;cases hdst;go_simp)|((with_reducible refine zW fun K1 K3 h1 h3=>?_);go_simp)|((first|refine h1 ?_|refine h3 ?_);clear h1 h3 K1 K3)|((first|refine zX (fun hb=>h1 ?_) (fun hb=>h3 ?_)|refine zX (fun hb=>h3 ?_) (fun hb=>h1 ?_))<;>(clear h1 h3 K1 K3;(try have hb2:=yC hb);(try have hb2:=yD hb);(try have hb2:=yE hb);(try have hb2:=yF hb);(try have hb2:=yG hb)))|(refine fun (K2:_→AHeap→Prop) hK2=>?_)|((with_reducible refine zY ?_ ?_);decide)|((with_reducible first|refine zZ ?_ (fun K hK=>?_)|refine yA ?_ (fun K hK=>?_));(focus go_simp;done);go_simp;refine hK _ _ ?_;clear hK K)|(go_simp;(try go_bits);(try first |((with_reducible show CallS _ _ _ _ _ _);first|(refine CallS.mono (refCheck_s (s := s) (HV.out.ext (((Ext.refl _).push' _).push' _))) ?_; rintro _ _ ⟨rfl, rfl⟩)|(refine CallS.mono (valid_s (s := s) (c := c) (HV.out.ext (((Ext.refl _).push' _).push' _)) (HC.out.ext (((Ext.refl _).push' _).push' _))) ?_; rintro _ _ ⟨rfl, rfl⟩)));refine hK2 _ _ ?_;clear hK2 K2))
  all_goals
    refine ⟨?_, ((Ext.refl _).push' _).push' _⟩
    rw [← HE.out]
    simp_all [errCopy]

theorem atDay_lost (line d : Int) (c : Has) (h : c.lost = true) : ∀ l : List Alt, atDay line d c l = c
  | [] => rfl
  | a :: t => by
    rw [atDay]
    have : c.after a = c := by simp [Has.after, h]
    rw [this, atDay_lost line d c h t]; simp


theorem on_e {loops : List (Nat × LInfo)} {H : AHeap} {sv : Value} {s : Sheet} {line d : Int} (hs : SheetV H sv s) (hl0 : 0 ≤ line) (hl1 : line < s.words.length) : CallS Try.prog loops 62 [sv, .int .i64 line, .int .i64 d] H fun r H' => r = (hasOn s line d).val ∧ Ext H H' := by
  obtain ⟨wv, av, rfl, hw, ha⟩ := hs
  obtain ⟨hwl, wa, wc, rfl⟩ := hw.slice
  obtain ⟨hal, aa, ac, rfl⟩ := ha.slice
  have HA := Lib.hid ha
  obtain ⟨ln, rfl⟩ := Int.eq_ofNat_of_zero_le hl0
  have hln : ln < s.words.length := by omega
  obtain ⟨bw, ow, sw, rfl, hbw, hcw⟩ := hw.at_ hln
  generalize he : hasOn s ln d = er
  have HE : Hid (atDay ln d ⟨s.words[ln], 0, false⟩ s.alts = er) := Lib.hid (by rw [← he, hasOn]; simp [hln])
  generalize s.words[ln] = w0 at hcw HE
  clear hw ha he
  refine CallS.enter' Try.func62 rfl Try.ntmps62 (by simp) fun f hd hf => ?_
  have f0 := hf 0
  have f1 := hf 1
  have f2 := hf 2
  simp at f0 f1 f2
  clear hf
  repeat' (first|(with_reducible first|refine zA ?_|refine zB fun K hK=>?_|refine zC fun K2 hK2=>?_|refine zD ?_|refine zE ?_|refine zF ?_|refine zG ?_|refine zH ?_|refine zI ?_|refine zM ?_|refine zN ?_|refine zO ?_|refine zP ?_|refine zQ ?_|refine zR ?_)|((with_reducible refine zU (hK _ _ ?_));clear hK K)|((with_reducible refine zV ?_ ?_ fun K1 K3 d hdst h1 h3=>?_);rfl;exact yB rfl;cases hdst;go_simp)|((with_reducible refine zW fun K1 K3 h1 h3=>?_);go_simp)|((first|refine h1 ?_|refine h3 ?_);clear h1 h3 K1 K3)|((first|refine zX (fun hb=>h1 ?_) (fun hb=>h3 ?_)|refine zX (fun hb=>h3 ?_) (fun hb=>h1 ?_))<;>(clear h1 h3 K1 K3;(try have hb2:=yC hb);(try have hb2:=yD hb);(try have hb2:=yE hb);(try have hb2:=yF hb);(try have hb2:=yG hb)))|(refine fun (K2:_→AHeap→Prop) hK2=>?_)|((with_reducible refine zY ?_ ?_);decide)|((with_reducible first|refine zZ ?_ (fun K hK=>?_)|refine yA ?_ (fun K hK=>?_));(focus go_simp;done);go_simp;refine hK _ _ ?_;clear hK K)|(go_simp;(try go_bits);refine hK2 _ _ ?_;clear hK2 K2))
  refine CodeS.loop (fun m f H' => ∃ (k : Nat) (c : Has), k ≤ s.alts.length ∧ m = s.alts.length - k ∧ f.tmp 8 = .int .i64 k ∧ f.tmp 3 = .pointer (some ⟨H.n, 0, none⟩) ∧ f.tmp 1 = .int .i64 ln ∧ f.tmp 2 = .int .i64 d ∧ f.tmp 6 = .pointer (some ⟨H.n + 1, 0, none⟩) ∧ f.tmp 7 = .pointer (some ⟨H.n + 2, 0, none⟩) ∧ f.defers = [] ∧ Hid (atDay ln d c (s.alts.drop k) = er) ∧ H.n + 2 < H'.n ∧ Ext H H' ∧ H'.get H.n = .row [Value.slice (some ⟨bw, ow, sw⟩) s.words.length wc, Value.slice aa s.alts.length ac] 25 ∧ H'.get (H.n + 1) = .row [.int .i64 0, .int .i64 0, .bool false] 104 ∧ H'.get (H.n + 2) = .row [.int .i64 c.text, .int .i64 c.margin, .bool c.lost] 104) s.alts.length ?_ ?_
  · refine ⟨0, ⟨w0, 0, false⟩, by simp, by simp, (by first|go_simp<;>go_num|assumption), (by first|go_simp<;>go_num|assumption), (by first|go_simp<;>go_num|assumption), (by first|go_simp<;>go_num|assumption), (by first|go_simp<;>go_num|assumption), (by first|go_simp<;>go_num|assumption), (by first|go_simp<;>go_num|assumption), HE, by simp only [AHeap.n_push]; omega, ((Ext.refl _).push' _).push' _ |>.push' _, ?_, ?_, ?_⟩
    · rw [AHeap.get_push_old (by simp only [AHeap.n_push]; omega), AHeap.get_push_old (by simp only [AHeap.n_push]; omega), AHeap.get_push_new]
    · rw [AHeap.get_push_old (by simp only [AHeap.n_push]; omega), show H.n + 1 = (H.push (AObj.row [Value.slice (some ⟨bw, ow, sw⟩) s.words.length wc, Value.slice aa s.alts.length ac] 25)).n by rw [AHeap.n_push], AHeap.get_push_new]
    · rw [show H.n + 2 = ((H.push (AObj.row [Value.slice (some ⟨bw, ow, sw⟩) s.words.length wc, Value.slice aa s.alts.length ac] 25)).push (AObj.row [Value.int IntKind.i64 0, Value.int IntKind.i64 0, Value.bool false] 104)).n by rw [AHeap.n_push, AHeap.n_push], AHeap.get_push_new]
  clear f0 f1 f2 hd f HE hcw
  rintro m f H' ⟨k, c, hk, rfl, f8, f3, f1, f2, f6, f7, hd, HG, hn, hx, hg0, hg1, hg2⟩
  obtain ⟨ct, cm, cl⟩ := c
  have hc0 : cellAt H' H.n 0 = some (Value.slice (some ⟨bw, ow, sw⟩) s.words.length wc) := by simp [cellAt, hg0]
  have hc1 : cellAt H' H.n 1 = some (Value.slice aa s.alts.length ac) := by simp [cellAt, hg0]
  have hc2 : cellsAt H' (H.n + 2) 0 3 = some [.int .i64 ct, .int .i64 cm, .bool cl] := by simp [cellsAt, hg2]
  have hc3 : cellAt H' (H.n + 2) 2 = some (.bool cl) := by simp [cellAt, hg2]
  have hn0 : H.n < H'.n := by omega
  have hn1 : H.n + 1 < H'.n := by omega
  have HX := Lib.hid hx
  have HG0 := Lib.hid hg0
  have HG1 := Lib.hid hg1
  clear hx hg0
  by_cases hlt : k < s.alts.length
  · clear hg1
    obtain ⟨b, o, sp, rfl, hb, hx6, -⟩ := (HA.out.ext HX.out).at_ hlt
    have HD := Lib.hid (List.drop_eq_getElem_cons hlt)
    generalize s.alts[k] = a at hx6 HD
    obtain ⟨i, kd, dy, fr, to, wd⟩ := a
    simp only [Alt.cells] at hx6
    have hne : H.n + 2 ≠ H'.n := by omega
    repeat' (first|(with_reducible first|refine zA ?_|refine zB fun K hK=>?_|refine zC fun K2 hK2=>?_|refine zD ?_|refine zE ?_|refine zF ?_|refine zG ?_|refine zH ?_|refine zI ?_|refine zM ?_|refine zN ?_|refine zO ?_|refine zP ?_|refine zQ ?_|refine zR ?_)|((with_reducible refine zU (hK _ _ ?_));clear hK K)|((with_reducible refine zV ?_ ?_ fun K1 K3 d hdst h1 h3=>?_);rfl;exact yB rfl;cases hdst;go_simp)|((with_reducible refine zW fun K1 K3 h1 h3=>?_);go_simp)|((first|refine h1 ?_|refine h3 ?_);clear h1 h3 K1 K3)|((first|refine zX (fun hb=>h1 ?_) (fun hb=>h3 ?_)|refine zX (fun hb=>h3 ?_) (fun hb=>h1 ?_))<;>(clear h1 h3 K1 K3;(try have hb2:=yC hb);(try have hb2:=yD hb);(try have hb2:=yE hb);(try have hb2:=yF hb);(try have hb2:=yG hb)))|(refine fun (K2:_→AHeap→Prop) hK2=>?_)|((with_reducible refine zY ?_ ?_);decide)|((with_reducible first|refine zZ ?_ (fun K hK=>?_)|refine yA ?_ (fun K hK=>?_));(focus go_simp;done);go_simp;refine hK _ _ ?_;clear hK K)|(go_simp;(try go_bits);refine hK2 _ _ ?_;clear hK2 K2))
    all_goals
      refine Post.round_normal ⟨s.alts.length - (k + 1), by omega, k + 1, (if win fr to ln = true ∧ dy ≤ d then Has.after ⟨ct, cm, cl⟩ ⟨i, kd, dy, fr, to, wd⟩ else ⟨ct, cm, cl⟩), by omega, rfl, (by first|go_simp<;>go_num|assumption), (by first|go_simp<;>go_num|assumption), (by first|go_simp<;>go_num|assumption), (by first|go_simp<;>go_num|assumption), (by first|go_simp<;>go_num|assumption), (by first|go_simp<;>go_num|assumption), (by first|go_simp<;>go_num|assumption), Lib.hid ?_, ?_, ?_, ?_, ?_, ?_⟩
      · rw [← HG.out, HD.out, atDay]; split <;> rfl
      · simp only [AHeap.n_push, AHeap.n_upd]; omega
      · first | exact HX.out.push' _ | exact (HX.out.upd (by omega) _).push' _
      · first | (rw [AHeap.get_push_old (by omega)]; exact HG0.out) | (rw [AHeap.get_push_old (by rw [AHeap.n_upd]; omega), AHeap.get_upd_ne (by omega)]; exact HG0.out)
      · first | (rw [AHeap.get_push_old (by omega)]; exact HG1.out) | (rw [AHeap.get_push_old (by rw [AHeap.n_upd]; omega), AHeap.get_upd_ne (by omega)]; exact HG1.out)
      · clear HG HD HX HG0 HG1 hc0 hc1 hc2 hc3 hx6 HA hd f8 f3 f1 f2 f6 f7
        first
          | (rw [AHeap.get_push_old (by omega), if_neg (by rw [win_iff]; omega)]; exact hg2)
          | (rw [if_pos ⟨win_iff.2 ⟨by omega, by omega⟩, by omega⟩, AHeap.get_push_old (by omega)]; rw [hg2]; first | (simp [Has.after, *]; done) | (simp_all [Has.after]; done))
          | (rw [if_pos ⟨win_iff.2 ⟨by omega, by omega⟩, by omega⟩, AHeap.get_push_old (by rw [AHeap.n_upd]; omega), AHeap.get_upd_same]; clear hg2; simp [Has.after, *]; done)
  · repeat' (first|(with_reducible first|refine zA ?_|refine zB fun K hK=>?_|refine zC fun K2 hK2=>?_|refine zD ?_|refine zE ?_|refine zF ?_|refine zG ?_|refine zH ?_|refine zI ?_|refine zM ?_|refine zN ?_|refine zO ?_|refine zP ?_|refine zQ ?_|refine zR ?_)|((with_reducible refine zU (hK _ _ ?_));clear hK K)|((with_reducible refine zV ?_ ?_ fun K1 K3 d hdst h1 h3=>?_);rfl;exact yB rfl;cases hdst;go_simp)|((with_reducible refine zW fun K1 K3 h1 h3=>?_);go_simp)|((first|refine h1 ?_|refine h3 ?_);clear h1 h3 K1 K3)|((first|refine zX (fun hb=>h1 ?_) (fun hb=>h3 ?_)|refine zX (fun hb=>h3 ?_) (fun hb=>h1 ?_))<;>(clear h1 h3 K1 K3;(try have hb2:=yC hb);(try have hb2:=yD hb);(try have hb2:=yE hb);(try have hb2:=yF hb);(try have hb2:=yG hb)))|(refine fun (K2:_→AHeap→Prop) hK2=>?_)|((with_reducible refine zY ?_ ?_);decide)|((with_reducible first|refine zZ ?_ (fun K hK=>?_)|refine yA ?_ (fun K hK=>?_));(focus go_simp;done);go_simp;refine hK _ _ ?_;clear hK K)|(go_simp;(try go_bits);refine hK2 _ _ ?_;clear hK2 K2))
    refine ⟨?_, ?_⟩
    · rw [← HG.out, List.drop_eq_nil_of_le (by omega)]; rfl
    · exact HX.out.upd (by omega) _

theorem can_s {loops : List (Nat × LInfo)} {H : AHeap} {sv : Value} {s : Sheet} {line d w : Int} (hs : SheetV H sv s) (hl0 : 0 ≤ line) (hl1 : line < s.words.length) : CallS Try.prog loops 65 [sv, .int .i64 line, .int .i64 d, .int .i64 w] H fun r H' => r = .bool ((hasOn s line d).offers w) ∧ H' = H := by
  refine CallS.forget (R := fun v => v = .bool ((hasOn s line d).offers w)) (by rintro v rfl; rfl) ?_
  have HON := Lib.hid (fun (loops : List (Nat × LInfo)) (H2 : AHeap) (hx : Ext H H2) => on_e (loops := loops) (d := d) (hs.ext hx) hl0 hl1)
  obtain ⟨wv, av, rfl, hw, ha⟩ := hs
  obtain ⟨hwl, wa, wc, rfl⟩ := hw.slice
  obtain ⟨hal, aa, ac, rfl⟩ := ha.slice
  clear hw ha
  generalize hasOn s line d = c at HON
  obtain ⟨ct, cm, cl⟩ := c
  refine CallS.enter' Try.func65 rfl Try.ntmps65 (by simp) fun f hd hf => ?_
  have f0 := hf 0
  have f1 := hf 1
  have f2 := hf 2
  have f3 := hf 3
  simp at f0 f1 f2 f3
  clear hf
  repeat' (first|(with_reducible first|refine zA ?_|refine zB fun K hK=>?_|refine zC fun K2 hK2=>?_|refine zD ?_|refine zE ?_|refine zF ?_|refine zG ?_|refine zH ?_|refine zI ?_|refine zM ?_|refine zN ?_|refine zO ?_|refine zP ?_|refine zQ ?_|refine zR ?_)|((with_reducible refine zU (hK _ _ ?_));clear hK K)|((with_reducible refine zV ?_ ?_ fun K1 K3 d hdst h1 h3=>?_);rfl;exact yB rfl;cases hdst;go_simp)|((with_reducible refine zW fun K1 K3 h1 h3=>?_);go_simp)|((first|refine h1 ?_|refine h3 ?_);clear h1 h3 K1 K3)|((first|refine zX (fun hb=>h1 ?_) (fun hb=>h3 ?_)|refine zX (fun hb=>h3 ?_) (fun hb=>h1 ?_))<;>(clear h1 h3 K1 K3;(try have hb2:=yC hb);(try have hb2:=yD hb);(try have hb2:=yE hb);(try have hb2:=yF hb);(try have hb2:=yG hb)))|(refine fun (K2:_→AHeap→Prop) hK2=>?_)|((with_reducible refine zY ?_ ?_);decide)|((with_reducible first|refine zZ ?_ (fun K hK=>?_)|refine yA ?_ (fun K hK=>?_));(focus go_simp;done);go_simp;refine hK _ _ ?_;clear hK K)|(go_simp;(try go_bits);(try first | ((with_reducible show CallS _ _ _ _ _ _);refine CallS.mono (HON.out _ _ (Ext.push _)) ?_; rintro _ H2 ⟨rfl, hx⟩; (have HX := Lib.hid hx); clear hx; (try simp only [Has.val])));refine hK2 _ _ ?_;clear hK2 K2))
  all_goals
    refine ⟨?_, (((Ext.push _).trans HX.out)).push' _⟩
    simp_all [Has.offers]
end Go.Proofs.Try
