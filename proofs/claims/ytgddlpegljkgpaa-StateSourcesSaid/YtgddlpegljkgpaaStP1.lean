/- Contracts of functions, walked. -/
import Derived.Test.YtgddlpegljkgpaaStS2
set_option linter.all false
namespace Go.Proofs.Try
open Go Go.Am Go.RowKit

/-! What a line has, and when. -/

structure Has where
  text : Int
  margin : Int
  lost : Bool
  deriving DecidableEq

def Has.cells (c : Has) : List Value := [.int .i64 c.text, .int .i64 c.margin, .bool c.lost]
def Has.val (c : Has) : Value := .agg #[.int .i64 c.text, .int .i64 c.margin, .bool c.lost]
def Has.after (c : Has) (a : Alt) : Has := if c.lost then c else if a.kind = 1 then ⟨0, c.margin, c.lost⟩ else if a.kind = 2 then ⟨0, 0, true⟩ else if a.kind = 3 then ⟨c.text, a.word, c.lost⟩ else if a.kind = 4 then ⟨a.word, 0, false⟩ else c
def Has.reads (c : Has) : List Int := (if c.text = 0 then [] else [c.text]) ++ (if c.margin = 0 ∨ c.margin = c.text then [] else [c.margin])
def Has.offers (c : Has) (w : Int) : Bool := if w = 0 then (c.text == 0 && c.margin == 0) else (c.text == w || c.margin == w)

structure Str where
  lo : Int
  hi : Int
  has : Has
  deriving DecidableEq
def Str.cells (x : Str) : List Value := [.int .i64 x.lo, .int .i64 x.hi, .int .i64 x.has.text, .int .i64 x.has.margin, .bool x.has.lost]
def Str.val (x : Str) : Value := .agg #[.int .i64 x.lo, .int .i64 x.hi, .int .i64 x.has.text, .int .i64 x.has.margin, .bool x.has.lost]

def go (line : Int) : Int → Has → List Alt → List Str
  | b, c, [] => [⟨b, 730, c⟩]
  | b, c, a :: t => if win a.frm a.to line = false then go line b c t else if c.after a = c then go line b c t else if b < a.day then ⟨b, a.day - 1, c⟩ :: go line a.day (c.after a) t else go line a.day (c.after a) t
def atDay (line d : Int) : Has → List Alt → Has
  | c, [] => c
  | c, a :: t => if win a.frm a.to line = true ∧ a.day ≤ d then atDay line d (c.after a) t else atDay line d c t

def sorted : Int → List Alt → Prop
  | _, [] => True
  | b, a :: t => b ≤ a.day ∧ a.day ≤ 730 ∧ sorted a.day t
theorem sorted_mono : ∀ (l : List Alt) {b b' : Int}, b ≤ b' → sorted b' l → sorted b l
  | [], _, _, _, _ => trivial
  | _ :: _, _, _, h, hs => ⟨Int.le_trans h hs.1, hs.2⟩

theorem atDay_below (line d : Int) (c : Has) : ∀ (l : List Alt) (b : Int), sorted b l → d < b → atDay line d c l = c
  | [], _, _, _ => rfl
  | a :: t, b, h, hd => by
    have h1 := h.1
    rw [atDay, if_neg (by omega)]
    exact atDay_below line d c t b (sorted_mono t h1 h.2.2) hd

theorem go_ok (line d : Int) : ∀ (l : List Alt) (b : Int) (c : Has), sorted b l → b ≤ d → d ≤ 730 →
    (∃ x, (go line b c l).find? (fun x => decide (d ≤ x.hi)) = some x ∧ x.has = atDay line d c l ∧ x.lo ≤ d)
  | [], b, c, _, h1, h2 => ⟨⟨b, 730, c⟩, by simp [go, h2], rfl, h1⟩
  | a :: t, b, c, hs, h1, h2 => by
    obtain ⟨s1, s2, s3⟩ := hs
    have hsb : sorted b t := sorted_mono t s1 s3
    rw [go]
    by_cases hw : win a.frm a.to line = false
    · rw [if_pos hw, atDay, if_neg (by simp [hw])]
      exact go_ok line d t b c hsb h1 h2
    · rw [if_neg hw]
      have hw' : win a.frm a.to line = true := by simpa using hw
      by_cases hc : c.after a = c
      · rw [if_pos hc]
        have : atDay line d c (a :: t) = atDay line d c t := by
          rw [atDay]
          split
          · rw [hc]
          · rfl
        rw [this]
        exact go_ok line d t b c hsb h1 h2
      · rw [if_neg hc]
        by_cases hd : a.day ≤ d
        · have hat : atDay line d c (a :: t) = atDay line d (c.after a) t := by rw [atDay, if_pos ⟨hw', hd⟩]
          rw [hat]
          obtain ⟨x, hx1, hx2, hx3⟩ := go_ok line d t a.day (c.after a) s3 hd h2
          by_cases hb : b < a.day
          · rw [if_pos hb]
            exact ⟨x, by rw [List.find?_cons]; simp only [show decide (d ≤ a.day - 1) = false by simp; omega]; exact hx1, hx2, hx3⟩
          · rw [if_neg hb]; exact ⟨x, hx1, hx2, hx3⟩
        · have hb : b < a.day := by omega
          rw [if_pos hb]
          refine ⟨⟨b, a.day - 1, c⟩, by rw [List.find?_cons]; simp only [show decide (d ≤ a.day - 1) = true by simp; omega], ?_, h1⟩
          rw [atDay, if_neg (fun h => hd h.2)]
          exact (atDay_below line d c t a.day s3 (by omega)).symm

def Str.covers (x : Str) (d : Int) : Bool := win x.lo x.hi d
theorem go_lo (line : Int) : ∀ (l : List Alt) (b : Int) (c : Has), sorted b l → b ≤ 730 → ∀ x, x ∈ go line b c l → b ≤ x.lo ∧ x.lo ≤ x.hi
  | [], b, c, _, h, x, hx => by
    simp only [go, List.mem_singleton] at hx
    subst hx; exact ⟨Int.le_refl _, h⟩
  | a :: t, b, c, hs, h, x, hx => by
    obtain ⟨s1, s2, s3⟩ := hs
    have hsb : sorted b t := sorted_mono t s1 s3
    rw [go] at hx
    split at hx
    · exact go_lo line t b c hsb h x hx
    · split at hx
      · exact go_lo line t b c hsb h x hx
      · split at hx
        · rcases List.mem_cons.1 hx with rfl | hx
          · exact ⟨Int.le_refl _, by simp; omega⟩
          · have := go_lo line t a.day (c.after a) s3 s2 x hx
            exact ⟨by omega, this.2⟩
        · have := go_lo line t a.day (c.after a) s3 s2 x hx
          exact ⟨by omega, this.2⟩

theorem any_below (line d w : Int) (l : List Alt) (b : Int) (c : Has) (hs : sorted b l) (hb : b ≤ 730) (hd : d < b) : (go line b c l).any (fun x => x.has.offers w && x.covers d) = false := by
  rw [List.any_eq_false]
  intro x hx
  have := go_lo line l b c hs hb x hx
  simp only [Bool.and_eq_true, not_and]
  intro _
  simp only [Str.covers, win_iff]
  omega

theorem go_any (line d w : Int) : ∀ (l : List Alt) (b : Int) (c : Has), sorted b l → b ≤ d → d ≤ 730 → (go line b c l).any (fun x => x.has.offers w && x.covers d) = (atDay line d c l).offers w
  | [], b, c, _, h1, h2 => by simp [go, atDay, Str.covers, win, h1, h2]
  | a :: t, b, c, hs, h1, h2 => by
    obtain ⟨s1, s2, s3⟩ := hs
    have hsb : sorted b t := sorted_mono t s1 s3
    rw [go]
    by_cases hw : win a.frm a.to line = false
    · rw [if_pos hw, atDay, if_neg (by simp [hw])]
      exact go_any line d w t b c hsb h1 h2
    · rw [if_neg hw]
      have hw' : win a.frm a.to line = true := by simpa using hw
      by_cases hc : c.after a = c
      · rw [if_pos hc]
        have : atDay line d c (a :: t) = atDay line d c t := by
          rw [atDay]
          split
          · rw [hc]
          · rfl
        rw [this]
        exact go_any line d w t b c hsb h1 h2
      · rw [if_neg hc]
        by_cases hd : a.day ≤ d
        · have hat : atDay line d c (a :: t) = atDay line d (c.after a) t := by rw [atDay, if_pos ⟨hw', hd⟩]
          rw [hat, ← go_any line d w t a.day (c.after a) s3 hd h2]
          by_cases hb : b < a.day
          · rw [if_pos hb]
            have : Str.covers ⟨b, a.day - 1, c⟩ d = false := by simp [Str.covers, win]; omega
            simp [this]
          · rw [if_neg hb]
        · have hb : b < a.day := by omega
          have hat : atDay line d c (a :: t) = c := by rw [atDay, if_neg (fun h => hd h.2), atDay_below line d c t a.day s3 (by omega)]
          rw [if_pos hb, hat, List.any_cons, any_below line d w t a.day _ s3 s2 (by omega)]
          have : Str.covers ⟨b, a.day - 1, c⟩ d = true := by simp [Str.covers, win]; omega
          simp [this]

/-! Spans, joined. -/

def joinS (acc : List (Int × Int)) (x : Int × Int) : List (Int × Int) := match acc.getLast? with
  | some y => if y.2 + 1 = x.1 then acc.dropLast ++ [(y.1, x.2)] else acc ++ [x]
  | none => acc ++ [x]
def joinL (l : List (Int × Int)) : List (Int × Int) := l.foldl joinS []
def insideL (l : List (Int × Int)) (d : Int) : Bool := l.any fun x => win x.1 x.2 d

theorem joinS_ok (acc : List (Int × Int)) (x : Int × Int) (d : Int) (ha : ∀ y, y ∈ acc → y.1 ≤ y.2) (hx : x.1 ≤ x.2) : (∀ y, y ∈ joinS acc x → y.1 ≤ y.2) ∧ insideL (joinS acc x) d = (insideL acc d || win x.1 x.2 d) := by
  have hplain : (∀ y, y ∈ acc ++ [x] → y.1 ≤ y.2) ∧ insideL (acc ++ [x]) d = (insideL acc d || win x.1 x.2 d) := by
    refine ⟨fun y hy => ?_, by simp [insideL]⟩
    rcases List.mem_append.1 hy with h | h
    · exact ha y h
    · rw [List.mem_singleton.1 h]; exact hx
  unfold joinS
  cases hl : acc.getLast? with
  | none => exact hplain
  | some y =>
    simp only
    split
    · rename_i he
      have hacc : acc = acc.dropLast ++ [y] := by
        have hne : acc ≠ [] := by rintro rfl; simp at hl
        have h2 : acc.getLast hne = y := by
          rw [List.getLast?_eq_some_getLast hne] at hl; exact Option.some.inj hl
        rw [← h2]; exact (List.dropLast_concat_getLast hne).symm
      have hy : y.1 ≤ y.2 := ha y (by rw [hacc]; simp)
      refine ⟨fun z hz => ?_, ?_⟩
      · rcases List.mem_append.1 hz with h | h
        · exact ha z ((List.dropLast_subset acc) h)
        · rw [List.mem_singleton.1 h]; simp only; omega
      · conv => rhs; rw [hacc]
        simp only [insideL, List.any_append, List.any_cons, List.any_nil, Bool.or_false]
        have : win y.1 x.2 d = (win y.1 y.2 d || win x.1 x.2 d) := by
          rw [Bool.eq_iff_iff]; simp only [Bool.or_eq_true, win_iff]; omega
        rw [this, Bool.or_assoc]
    · exact hplain

theorem joinL_ok (d : Int) : ∀ (l acc : List (Int × Int)), (∀ y, y ∈ acc → y.1 ≤ y.2) → (∀ y, y ∈ l → y.1 ≤ y.2) → insideL (l.foldl joinS acc) d = (insideL acc d || insideL l d)
  | [], acc, _, _ => by simp [insideL]
  | x :: l, acc, ha, hl => by
    obtain ⟨h1, h2⟩ := joinS_ok acc x d ha (hl x (List.mem_cons_self ..))
    rw [List.foldl_cons, joinL_ok d l _ h1 (fun y hy => hl y (List.mem_cons_of_mem _ hy)), h2]
    simp [insideL, Bool.or_assoc]

/-! What the law asks. -/

theorem reads_len (c : Has) : c.reads.length ≤ 2 := by
  unfold Has.reads
  split <;> split <;> simp

theorem reads_offers (c : Has) (w : Int) : (decide (w ∈ c.reads) || (decide (w = 0) && decide (c.reads.length = 0))) = c.offers w := by
  obtain ⟨t, m, l⟩ := c
  rw [Bool.eq_iff_iff]
  by_cases hw : w = 0 <;> by_cases ht : t = 0 <;> by_cases hm : m = 0 <;> by_cases hmt : m = t <;> simp [Has.reads, Has.offers, *] <;> first | omega | (constructor <;> intro h <;> rcases h with h | h <;> first | (left; omega) | (right; omega)) | skip

theorem atDay_same (line d : Int) : ∀ (l : List Alt) (c : Has), (∀ a, a ∈ l → a.day ≠ d) → atDay line (d - 1) c l = atDay line d c l
  | [], _, _ => rfl
  | a :: t, c, h => by
    have h1 := h a (List.mem_cons_self ..)
    rw [atDay, atDay]
    have h2 : (a.day ≤ d - 1) ↔ (a.day ≤ d) := by omega
    simp only [h2]
    split
    · exact atDay_same line d t _ fun x hx => h x (List.mem_cons_of_mem _ hx)
    · exact atDay_same line d t _ fun x hx => h x (List.mem_cons_of_mem _ hx)

theorem atDay_first (line : Int) (l : List Alt) (c : Has) (hs : sorted 0 l) (h : ∀ a, a ∈ l → a.day ≠ 0) : atDay line 0 c l = c := by
  cases l with
  | nil => rfl
  | cons a t =>
    have h1 := h a (List.mem_cons_self ..)
    have h2 := hs.1
    rw [atDay, if_neg (by omega)]
    exact atDay_below line 0 c t a.day hs.2.2 (by omega)

theorem errGo_sorted (n : Int) : ∀ (l : List Alt) (day : Int) (seen : List Int), errGo n day seen l = 0 → sorted day l
  | [], _, _, _ => trivial
  | a :: t, day, seen, h => by
    rw [errGo] at h
    split at h
    · cases h
    · split at h
      · cases h
      · rename_i h1 h2
        have hr : a.right n = true := by
          cases hx : a.right n with
          | true => rfl
          | false => exact absurd (.inl hx) h1
        have hd : day ≤ a.day := by
          rcases Int.lt_or_le a.day day with hx | hx
          · exact absurd (.inr hx) h1
          · exact hx
        simp only [Alt.right, Bool.and_eq_true, win_iff] at hr
        exact ⟨hd, hr.2.1.2, errGo_sorted n t a.day _ h⟩
theorem err_ok {s : Sheet} (h : err s = 0) : sorted 0 s.alts ∧ win 1 40 s.words.length = true ∧ wordsOk 1 s.words = true ∧ s.alts.length ≤ 40 := by
  unfold err at h
  split at h
  · cases h
  · split at h
    · cases h
    · rename_i h1 h2
      have h3 := errGo_sorted _ _ _ _ h
      refine ⟨h3, ?_, ?_, by omega⟩
      · cases hx : win 1 40 (s.words.length : Int) with
        | true => rfl
        | false => exact absurd (.inl hx) h1
      · cases hx : wordsOk 1 s.words with
        | true => rfl
        | false => exact absurd (.inr hx) h1
end Go.Proofs.Try
