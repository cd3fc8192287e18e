/- Contracts of functions, walked. -/
set_option linter.all false
/-! Days of lines, one behind the other: pure. -/
namespace Go.Co

abbrev Sp := Int × Int
def ins (l : List Sp) (d : Int) : Bool := l.any fun x => decide (x.1 ≤ d) && decide (d ≤ x.2)
theorem ins_nil (d : Int) : ins [] d = false := rfl
theorem ins_cons (x : Sp) (l : List Sp) (d : Int) : ins (x :: l) d = ((decide (x.1 ≤ d) && decide (d ≤ x.2)) || ins l d) := rfl

/-- Spans in order, apart from each other, up to the last day. -/
def ordS : Int → List Sp → Prop
  | _, [] => True
  | b, x :: t => b ≤ x.1 ∧ x.1 ≤ x.2 ∧ x.2 ≤ 730 ∧ ordS (x.2 + 2) t
theorem ordS_mono : ∀ (l : List Sp) {b b' : Int}, b ≤ b' → ordS b' l → ordS b l
  | [], _, _, _, _ => trivial
  | _ :: _, _, _, h, hs => ⟨Int.le_trans h hs.1, hs.2⟩
theorem ordS_ins : ∀ (l : List Sp) {b : Int}, ordS b l → ∀ d, ins l d = true → b ≤ d ∧ d ≤ 730
  | [], _, _, d, h => by cases h
  | x :: t, b, hs, d, h => by
    obtain ⟨h1, h2, h3, h4⟩ := hs
    rw [ins_cons, Bool.or_eq_true] at h
    rcases h with h | h
    · simp only [Bool.and_eq_true, decide_eq_true_eq] at h; omega
    · have := ordS_ins t h4 d h; omega

def nextS : List Sp → Int → Int
  | [], _ => 731
  | x :: t, f => if f ≤ x.2 then max f x.1 else nextS t f

def NextOk (p : Int → Bool) (f d : Int) : Prop := (d = 731 ∧ ∀ e, f ≤ e → p e = false) ∨ (d ≤ 730 ∧ f ≤ d ∧ p d = true ∧ ∀ e, f ≤ e → p e = true → d ≤ e)
theorem nextS_ok : ∀ (l : List Sp) {b : Int}, ordS b l → ∀ f, NextOk (ins l) f (nextS l f)
  | [], _, _, f => .inl ⟨rfl, fun _ _ => rfl⟩
  | x :: t, b, hs, f => by
    obtain ⟨h1, h2, h3, h4⟩ := hs
    rw [nextS]
    by_cases hf : f ≤ x.2
    · rw [if_pos hf]
      refine .inr ⟨by omega, by omega, ?_, fun e he hp => ?_⟩
      · rw [ins_cons]; simp only [Bool.or_eq_true, Bool.and_eq_true, decide_eq_true_eq]; left; omega
      · rw [ins_cons, Bool.or_eq_true] at hp
        rcases hp with hp | hp
        · simp only [Bool.and_eq_true, decide_eq_true_eq] at hp; omega
        · have := ordS_ins t h4 e hp; omega
    · rw [if_neg hf]
      have hne : ∀ e, f ≤ e → ins (x :: t) e = ins t e := by
        intro e he
        rw [ins_cons]
        have : decide (e ≤ x.2) = false := by simp; omega
        simp [this]
      rcases nextS_ok t h4 f with ⟨h5, h6⟩ | ⟨h5, h6, h7, h8⟩
      · exact .inl ⟨h5, fun e he => by rw [hne e he]; exact h6 e he⟩
      · exact .inr ⟨h5, h6, by rw [hne _ h6]; exact h7, fun e he hp => h8 e he (by rw [← hne e he]; exact hp)⟩

/-- Two lists of spans in order and apart with the same days are the same. -/
theorem ordS_eq : ∀ (l m : List Sp) {b c : Int}, ordS b l → ordS c m → (∀ d, ins l d = ins m d) → l = m
  | [], [], _, _, _, _, _ => rfl
  | [], y :: u, _, _, _, h2, h => by
    obtain ⟨g1, g2, g3, g4⟩ := h2
    have := h y.1
    rw [ins_nil, ins_cons] at this
    simp [g2] at this
  | x :: t, [], _, _, h1, _, h => by
    obtain ⟨g1, g2, g3, g4⟩ := h1
    have := h x.1
    rw [ins_nil, ins_cons] at this
    simp [g2] at this
  | x :: t, y :: u, b, c, h1, h2, h => by
    obtain ⟨f1, f2, f3, f4⟩ := h1
    obtain ⟨g1, g2, g3, g4⟩ := h2
    have hx : ∀ d, ins (x :: t) d = true ↔ (x.1 ≤ d ∧ d ≤ x.2) ∨ ins t d = true := by intro d; rw [ins_cons]; simp
    have hy : ∀ d, ins (y :: u) d = true ↔ (y.1 ≤ d ∧ d ≤ y.2) ∨ ins u d = true := by intro d; rw [ins_cons]; simp
    have hh : ∀ d, ((x.1 ≤ d ∧ d ≤ x.2) ∨ ins t d = true) ↔ ((y.1 ≤ d ∧ d ≤ y.2) ∨ ins u d = true) := by
      intro d; rw [← hx, ← hy, h d]
    have ht := ordS_ins t f4
    have hu := ordS_ins u g4
    have e1 : x.1 = y.1 := by
      have a1 := (hh x.1).1 (.inl (by omega))
      have a2 := (hh y.1).2 (.inl (by omega))
      rcases a1 with a1 | a1
      · rcases a2 with a2 | a2
        · omega
        · have := ht _ a2; omega
      · have := hu _ a1
        rcases a2 with a2 | a2
        · omega
        · have := ht _ a2; omega
    have e2 : x.2 = y.2 := by
      rcases Int.lt_trichotomy x.2 y.2 with hlt | heq | hgt
      · have a1 := (hh (x.2 + 1)).2 (.inl (by omega))
        rcases a1 with a1 | a1
        · omega
        · have := ht _ a1; omega
      · exact heq
      · have a1 := (hh (y.2 + 1)).1 (.inl (by omega))
        rcases a1 with a1 | a1
        · omega
        · have := hu _ a1; omega
    have e3 : x = y := Prod.ext e1 e2
    subst e3
    rw [ordS_eq t u f4 g4 (fun d => ?_)]
    rw [Bool.eq_iff_iff]
    have := hh d
    constructor
    · intro hd
      have h5 := ht _ hd
      rcases this.1 (.inr hd) with h6 | h6
      · omega
      · exact h6
    · intro hd
      have h5 := hu _ hd
      rcases this.2 (.inr hd) with h6 | h6
      · omega
      · exact h6

/-- What of spans lies within another one. -/
def cutS (lo hi : Int) : List Sp → List Sp
  | [] => []
  | x :: t => if max x.1 lo ≤ min x.2 hi then (max x.1 lo, min x.2 hi) :: cutS lo hi t else cutS lo hi t
theorem cutS_le (lo hi : Int) : ∀ l : List Sp, (cutS lo hi l).length ≤ l.length
  | [] => Nat.le_refl _
  | x :: t => by
    have := cutS_le lo hi t
    rw [cutS]; split <;> simp <;> omega
theorem cutS_ord (lo hi : Int) : ∀ (l : List Sp) {b : Int}, ordS b l → ordS (max b lo) (cutS lo hi l)
  | [], _, _ => trivial
  | x :: t, b, hs => by
    obtain ⟨h1, h2, h3, h4⟩ := hs
    have := cutS_ord lo hi t h4
    rw [cutS]
    split
    · refine ⟨by simp only; omega, by simpa using by omega, by simp only; omega, ordS_mono _ (by simp only; omega) this⟩
    · exact ordS_mono _ (by omega) this
theorem cutS_ins (lo hi d : Int) : ∀ (l : List Sp), ins (cutS lo hi l) d = (ins l d && (decide (lo ≤ d) && decide (d ≤ hi)))
  | [] => rfl
  | x :: t => by
    have := cutS_ins lo hi d t
    rw [cutS]
    split
    · rw [ins_cons, ins_cons, this, Bool.eq_iff_iff]
      simp only [Bool.or_eq_true, Bool.and_eq_true, decide_eq_true_eq]
      constructor
      · rintro (h | h)
        · exact ⟨.inl (by omega), by omega, by omega⟩
        · exact ⟨.inr h.1, h.2⟩
      · rintro ⟨h | h, h2⟩
        · left; omega
        · exact .inr ⟨h, h2⟩
    · rw [ins_cons, this, Bool.eq_iff_iff]
      simp only [Bool.or_eq_true, Bool.and_eq_true, decide_eq_true_eq]
      constructor
      · rintro ⟨h, h2⟩; exact ⟨.inr h, h2⟩
      · rintro ⟨h | h, h2⟩
        · omega
        · exact ⟨h, h2⟩

/-- Days the other way round. -/
def flipS (l : List Sp) : List Sp := (l.reverse).map fun x => (730 - x.2, 730 - x.1)
theorem flipS_cons (x : Sp) (l : List Sp) : flipS (x :: l) = flipS l ++ [(730 - x.2, 730 - x.1)] := by simp [flipS]
theorem flipS_ins (d : Int) (l : List Sp) : ins (flipS l) d = ins l (730 - d) := by
  induction l with
  | nil => rfl
  | cons x t ih =>
    have e : ins (flipS t ++ [(730 - x.2, 730 - x.1)]) d = (ins (flipS t) d || (decide (730 - x.2 ≤ d) && decide (d ≤ 730 - x.1))) := by simp [ins]
    rw [flipS_cons, e, ih, ins_cons, Bool.or_comm]
    congr 1
    rw [Bool.eq_iff_iff]; simp only [Bool.and_eq_true, decide_eq_true_eq]; omega
theorem ordS_snoc : ∀ (l : List Sp) {b : Int} (x : Sp), ordS b l → (∀ d, ins l d = true → d + 2 ≤ x.1) → b ≤ x.1 → x.1 ≤ x.2 → x.2 ≤ 730 → ordS b (l ++ [x])
  | [], b, x, _, _, h1, h2, h3 => ⟨h1, h2, h3, trivial⟩
  | y :: t, b, x, hs, hd, h1, h2, h3 => by
    obtain ⟨g1, g2, g3, g4⟩ := hs
    have hy : y.2 + 2 ≤ x.1 := hd y.2 (by rw [ins_cons]; simp [g2])
    exact ⟨g1, g2, g3, ordS_snoc t x g4 (fun d h => hd d (by rw [ins_cons, h]; simp)) hy h2 h3⟩
theorem flipS_ord : ∀ (l : List Sp) {b : Int}, 0 ≤ b → ordS b l → ordS 0 (flipS l)
  | [], _, _, _ => trivial
  | x :: t, b, hb, hs => by
    obtain ⟨h1, h2, h3, h4⟩ := hs
    rw [flipS_cons]
    refine ordS_snoc _ _ (flipS_ord t (b := x.2 + 2) (by omega) h4) (fun d hd => ?_) (by simp only; omega) (by simp only; omega) (by simp only; omega)
    rw [flipS_ins] at hd
    have := ordS_ins t h4 _ hd
    simp only; omega

/-! ## Days that fit -/

def lowL (per : Nat) (days : List Int) (line : Nat) : Int :=
  if per ≤ line then max (if 1 ≤ line then days.getD (line - 1) 0 else 0) (days.getD (line - per) 0 + 1) else if 1 ≤ line then days.getD (line - 1) 0 else 0
theorem lowL_mono {per : Nat} {a b : List Int} {i : Nat} (hp : 1 ≤ per) (h : ∀ j, j < i → a.getD j 0 ≤ b.getD j 0) : lowL per a i ≤ lowL per b i := by
  have h1 : 1 ≤ i → a.getD (i - 1) 0 ≤ b.getD (i - 1) 0 := fun hi => h _ (by omega)
  have h2 : per ≤ i → a.getD (i - per) 0 ≤ b.getD (i - per) 0 := fun hi => h _ (by omega)
  unfold lowL
  split
  · rename_i g
    have := h2 g
    split
    · rename_i g1; have := h1 g1; omega
    · omega
  · split
    · rename_i g1; exact h1 g1
    · omega
theorem lowL_same {per : Nat} {a b : List Int} {i : Nat} (hp : 1 ≤ per) (h : ∀ j, j < i → a.getD j 0 = b.getD j 0) : lowL per a i = lowL per b i :=
  Int.le_antisymm (lowL_mono hp fun j hj => Int.le_of_eq (h j hj)) (lowL_mono hp fun j hj => Int.le_of_eq (h j hj).symm)
theorem getD_app {a b : List Int} {j : Nat} (h : j < a.length) : (a ++ b).getD j 0 = a.getD j 0 := by
  simp [List.getD_eq_getElem?_getD, List.getElem?_append_left h]
theorem getD_snoc {a : List Int} {x : Int} : (a ++ [x]).getD a.length 0 = x := by simp [List.getD_eq_getElem?_getD]
theorem lowL_app {per : Nat} {a b : List Int} {i : Nat} (hp : 1 ≤ per) (h : i ≤ a.length) : lowL per (a ++ b) i = lowL per a i := lowL_same hp fun j hj => getD_app (by omega)

/-- Days for the first k lines fit. -/
def FitTo (op : Nat → Int → Bool) (per : Nat) (days : List Int) (k : Nat) : Prop := ∀ i, i < k → op i (days.getD i 0) = true ∧ lowL per days i ≤ days.getD i 0

def early (nx : Nat → Int → Int) (per : Nat) (frm : Int) : Nat → List Int → List Int
  | 0, days => days
  | k + 1, days => if nx days.length (max frm (lowL per days days.length)) = 731 then days else early nx per frm k (days ++ [nx days.length (max frm (lowL per days days.length))])

theorem early_spec {op : Nat → Int → Bool} {nx : Nat → Int → Int} {per : Nat} {frm : Int} (hp : 1 ≤ per) (hnx : ∀ i f, NextOk (op i) f (nx i f)) : ∀ (k : Nat) (days : List Int),
    (FitTo op per days days.length) → (∀ i, i < days.length → frm ≤ days.getD i 0) →
    days.length ≤ (early nx per frm k days).length ∧ (early nx per frm k days).length ≤ days.length + k ∧ FitTo op per (early nx per frm k days) (early nx per frm k days).length ∧ (∀ i, i < (early nx per frm k days).length → frm ≤ (early nx per frm k days).getD i 0) ∧
    ∀ (g : List Int) (m : Nat), m ≤ days.length + k → FitTo op per g m → (∀ i, i < m → frm ≤ g.getD i 0) → (∀ i, i < days.length → i < m → days.getD i 0 ≤ g.getD i 0) →
      m ≤ (early nx per frm k days).length ∧ ∀ i, i < m → (early nx per frm k days).getD i 0 ≤ g.getD i 0
  | 0, days, hf, hfrm => by
    refine ⟨Nat.le_refl _, Nat.le_refl _, hf, hfrm, fun g m hm _ _ hle => ?_⟩
    have e : early nx per frm 0 days = days := rfl
    rw [e]
    exact ⟨hm, fun i hi => hle i (by omega) hi⟩
  | k + 1, days, hf, hfrm => by
    rw [early]
    have hN := hnx days.length (max frm (lowL per days days.length))
    generalize hd : nx days.length (max frm (lowL per days days.length)) = d at hN
    have key : ∀ (g : List Int) (m : Nat), FitTo op per g m → (∀ i, i < m → frm ≤ g.getD i 0) → (∀ i, i < days.length → i < m → days.getD i 0 ≤ g.getD i 0) → days.length < m → max frm (lowL per days days.length) ≤ g.getD days.length 0 ∧ op days.length (g.getD days.length 0) = true := by
      intro g m hg hgf hle hlt
      have h1 := hg _ hlt
      have h2 := hgf _ hlt
      have h3 : lowL per days days.length ≤ lowL per g days.length := lowL_mono hp fun j hj => hle j hj (by omega)
      exact ⟨by omega, h1.1⟩
    by_cases h731 : d = 731
    · rw [if_pos h731]
      refine ⟨Nat.le_refl _, by omega, hf, hfrm, fun g m hm hg hgf hle => ?_⟩
      have hml : m ≤ days.length := by
        rcases Nat.lt_or_ge days.length m with hlt | hge
        · obtain ⟨k1, k2⟩ := key g m hg hgf hle hlt
          rcases hN with ⟨_, hN⟩ | ⟨hN, _⟩
          · rw [hN _ k1] at k2; cases k2
          · omega
        · exact hge
      exact ⟨hml, fun i hi => hle i (by omega) hi⟩
    · rw [if_neg h731]
      obtain ⟨n1, n2, n3, n4⟩ : d ≤ 730 ∧ max frm (lowL per days days.length) ≤ d ∧ op days.length d = true ∧ ∀ e, max frm (lowL per days days.length) ≤ e → op days.length e = true → d ≤ e := by
        rcases hN with ⟨h, _⟩ | h
        · exact absurd h h731
        · exact h
      have hlen : (days ++ [d]).length = days.length + 1 := by simp
      have hgd : ∀ i, i < days.length + 1 → (i < days.length ∧ (days ++ [d]).getD i 0 = days.getD i 0) ∨ (i = days.length ∧ (days ++ [d]).getD i 0 = d) := by
        intro i hi
        rcases Nat.lt_or_ge i days.length with h | h
        · exact .inl ⟨h, getD_app h⟩
        · have : i = days.length := by omega
          subst this
          exact .inr ⟨rfl, getD_snoc⟩
      obtain ⟨e1, e2, e3, e4, e5⟩ := early_spec hp hnx (frm := frm) k (days ++ [d]) (by
        intro i hi
        rw [hlen] at hi
        rw [lowL_app hp (by omega)]
        rcases hgd i hi with ⟨h, e⟩ | ⟨h, e⟩
        · rw [e]; exact hf i h
        · rw [e, h]; exact ⟨n3, by omega⟩) (by
        intro i hi
        rw [hlen] at hi
        rcases hgd i hi with ⟨h, e⟩ | ⟨h, e⟩
        · rw [e]; exact hfrm i h
        · rw [e]; omega)
      refine ⟨by omega, by omega, e3, e4, fun g m hm hg hgf hle => e5 g m (by omega) hg hgf fun i hi him => ?_⟩
      rw [hlen] at hi
      rcases hgd i hi with ⟨h, e⟩ | ⟨h, e⟩
      · rw [e]; exact hle i h him
      · rw [e, h]
        obtain ⟨k1, k2⟩ := key g m hg hgf hle (by omega)
        exact n4 _ k1 k2

/-- The earliest days. -/
theorem early_ok {op : Nat → Int → Bool} {nx : Nat → Int → Int} {per : Nat} {frm : Int} (hp : 1 ≤ per) (hnx : ∀ i f, NextOk (op i) f (nx i f)) (n : Nat) :
    (early nx per frm n []).length ≤ n ∧ FitTo op per (early nx per frm n []) (early nx per frm n []).length ∧ (∀ i, i < (early nx per frm n []).length → frm ≤ (early nx per frm n []).getD i 0) ∧
    ∀ (g : List Int) (m : Nat), m ≤ n → FitTo op per g m → (∀ i, i < m → frm ≤ g.getD i 0) → m ≤ (early nx per frm n []).length ∧ ∀ i, i < m → (early nx per frm n []).getD i 0 ≤ g.getD i 0 := by
  obtain ⟨_, h2, h3, h4, h5⟩ := early_spec hp hnx (frm := frm) n [] (fun i hi => by simp at hi) (fun i hi => by simp at hi)
  exact ⟨by simpa using h2, h3, h4, fun g m hm hg hgf => h5 g m (by simpa using hm) hg hgf fun i hi => by simp at hi⟩

/-! ## The other way round -/

def flipD (l : List Int) : List Int := (l.reverse).map fun d => 730 - d
theorem flipD_len (l : List Int) : (flipD l).length = l.length := by simp [flipD]
theorem flipD_get {l : List Int} {i : Nat} (h : i < l.length) : (flipD l).getD i 0 = 730 - l.getD (l.length - 1 - i) 0 := by
  have h2 : l.length - 1 - i < l.length := by omega
  rw [List.getD_eq_getElem?_getD, List.getD_eq_getElem?_getD, flipD, List.getElem?_map, List.getElem?_reverse h, List.getElem?_eq_getElem h2]
  rfl
theorem flipD_flip (l : List Int) : flipD (flipD l) = l := by
  simp only [flipD, ← List.map_reverse, List.reverse_reverse, List.map_map]
  conv => rhs; rw [← List.map_id l]
  apply List.map_congr_left
  intro x _
  simp only [Function.comp, id]; omega

theorem lowL_iff {per : Nat} {l : List Int} {i : Nat} (h0 : 0 ≤ l.getD i 0) : lowL per l i ≤ l.getD i 0 ↔ (1 ≤ i → l.getD (i - 1) 0 ≤ l.getD i 0) ∧ (per ≤ i → l.getD (i - per) 0 + 1 ≤ l.getD i 0) := by
  unfold lowL
  by_cases h1 : per ≤ i
  · by_cases h2 : 1 ≤ i
    · rw [if_pos h1, if_pos h2]; omega
    · rw [if_pos h1, if_neg h2]; omega
  · by_cases h2 : 1 ≤ i
    · rw [if_neg h1, if_pos h2]; omega
    · rw [if_neg h1, if_neg h2]; omega

theorem fit_flip {op op' : Nat → Int → Bool} {per : Nat} {l : List Int} (hp : 1 ≤ per) (hin : ∀ i d, op i d = true → 0 ≤ d ∧ d ≤ 730) (hop : ∀ i d, i < l.length → op' i d = op (l.length - 1 - i) (730 - d)) (h : FitTo op per l l.length) : FitTo op' per (flipD l) l.length := by
  intro i hi
  have hj : l.length - 1 - i < l.length := by omega
  obtain ⟨h1, h2⟩ := h _ hj
  have hr := hin _ _ h1
  have hg := flipD_get hi
  refine ⟨by rw [hop i _ hi, hg, show (730 : Int) - (730 - l.getD (l.length - 1 - i) 0) = l.getD (l.length - 1 - i) 0 by omega]; exact h1, ?_⟩
  rw [lowL_iff (by rw [hg]; omega)]
  constructor
  · intro h1i
    have hk : l.length - 1 - (i - 1) < l.length := by omega
    have hq := h _ hk
    have hq0 := hin _ _ hq.1
    have h3 := ((lowL_iff hq0.1).1 hq.2).1 (by omega)
    rw [hg, flipD_get (by omega)]
    rw [show l.length - 1 - (i - 1) - 1 = l.length - 1 - i by omega] at h3
    omega
  · intro hpi
    have hk : l.length - 1 - (i - per) < l.length := by omega
    have hq := h _ hk
    have hq0 := hin _ _ hq.1
    have h3 := ((lowL_iff hq0.1).1 hq.2).2 (by omega)
    rw [hg, flipD_get (by omega)]
    rw [show l.length - 1 - (i - per) - per = l.length - 1 - i by omega] at h3
    omega

/-! ## Lattice -/
def zipL (f : Int → Int → Int) : List Int → List Int → List Int
  | x :: t, y :: u => f x y :: zipL f t u
  | _, _ => []
theorem zipL_len (f : Int → Int → Int) : ∀ (a b : List Int), a.length = b.length → (zipL f a b).length = a.length
  | [], [], _ => rfl
  | x :: t, y :: u, h => by simp [zipL, zipL_len f t u (by simpa using h)]
  | [], _ :: _, h => by simp at h
  | _ :: _, [], h => by simp at h
theorem zipL_get (f : Int → Int → Int) : ∀ (a b : List Int) (i : Nat), a.length = b.length → i < a.length → (zipL f a b).getD i 0 = f (a.getD i 0) (b.getD i 0)
  | [], [], i, _, h => by simp at h
  | x :: t, y :: u, 0, _, _ => rfl
  | x :: t, y :: u, i + 1, h, hi => by
    have := zipL_get f t u i (by simpa using h) (by simpa using hi)
    simpa [zipL] using this
  | [], _ :: _, _, h, _ => by simp at h
  | _ :: _, [], _, h, _ => by simp at h
theorem fit_min {op : Nat → Int → Bool} {per : Nat} {a b : List Int} (hp : 1 ≤ per) (hin : ∀ i d, op i d = true → 0 ≤ d ∧ d ≤ 730) (hl : a.length = b.length) (ha : FitTo op per a a.length) (hb : FitTo op per b b.length) : FitTo op per (zipL min a b) a.length := by
  intro i hi
  obtain ⟨a1, a2⟩ := ha i hi
  obtain ⟨b1, b2⟩ := hb i (by omega)
  have ra := hin _ _ a1
  have rb := hin _ _ b1
  have hg := zipL_get min a b i hl hi
  rw [lowL_iff ra.1] at a2
  rw [lowL_iff rb.1] at b2
  refine ⟨?_, ?_⟩
  · rw [hg]
    rcases Int.le_total (a.getD i 0) (b.getD i 0) with h | h
    · rw [Int.min_eq_left h]; exact a1
    · rw [Int.min_eq_right h]; exact b1
  · rw [lowL_iff (by rw [hg]; omega), hg]
    constructor
    · intro h1
      have := a2.1 h1; have := b2.1 h1
      rw [zipL_get min a b (i - 1) hl (by omega)]; omega
    · intro h1
      have := a2.2 h1; have := b2.2 h1
      rw [zipL_get min a b (i - per) hl (by omega)]; omega
theorem fit_max {op : Nat → Int → Bool} {per : Nat} {a b : List Int} (hp : 1 ≤ per) (hin : ∀ i d, op i d = true → 0 ≤ d ∧ d ≤ 730) (hl : a.length = b.length) (ha : FitTo op per a a.length) (hb : FitTo op per b b.length) : FitTo op per (zipL max a b) a.length := by
  intro i hi
  obtain ⟨a1, a2⟩ := ha i hi
  obtain ⟨b1, b2⟩ := hb i (by omega)
  have ra := hin _ _ a1
  have rb := hin _ _ b1
  have hg := zipL_get max a b i hl hi
  rw [lowL_iff ra.1] at a2
  rw [lowL_iff rb.1] at b2
  refine ⟨?_, ?_⟩
  · rw [hg]
    rcases Int.le_total (a.getD i 0) (b.getD i 0) with h | h
    · rw [Int.max_eq_right h]; exact b1
    · rw [Int.max_eq_left h]; exact a1
  · rw [lowL_iff (by rw [hg]; omega), hg]
    constructor
    · intro h1
      have := a2.1 h1; have := b2.1 h1
      rw [zipL_get max a b (i - 1) hl (by omega)]; omega
    · intro h1
      have := a2.2 h1; have := b2.2 h1
      rw [zipL_get max a b (i - per) hl (by omega)]; omega

/-! ## Floors -/
theorem floors_ok {op : Nat → Int → Bool} {nx : Nat → Int → Int} {per : Nat} (hp : 1 ≤ per) (hnx : ∀ i f, NextOk (op i) f (nx i f)) (fl g : List Int) (m : Nat) (hfl : ∀ i, i < m → fl.getD i 0 ≤ nx i (lowL per fl i)) (hg : FitTo op per g m) : ∀ i, i < m → fl.getD i 0 ≤ g.getD i 0 := by
  intro i
  induction i using Nat.strongRecOn with
  | ind i ih =>
    intro hi
    have h1 := hfl i hi
    obtain ⟨g1, g2⟩ := hg i hi
    have h3 : lowL per fl i ≤ lowL per g i := lowL_mono hp fun j hj => ih j hj (by omega)
    rcases hnx i (lowL per fl i) with ⟨h4, h5⟩ | ⟨h4, h5, h6, h7⟩
    · rw [h5 _ (by omega)] at g1; cases g1
    · have := h7 _ (by omega) g1; omega
end Go.Co
