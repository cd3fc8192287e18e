/- Contracts of functions, walked. -/
import Derived.Test.YtgddlpegljkgpaaGreatStSA
import Derived.Test.YtgddlpegljkgpaaGreatAmS
import Derived.Test.YtgddlpegljkgpaaGreatStS3
import Derived.Test.YtgddlpegljkgpaaGreatAwB
set_option linter.all false
namespace Go.Proofs.Tryz
open Go Go.Am Go.RowKit
set_option maxRecDepth 100000

theorem head_s {loops : List (Nat × LInfo)} {H : AHeap} : CallS Tryz.prog loops 8 [] H fun r H' => r = .bool true ∧ H' = H := CallS.of_calls rfl rfl sanity_calls
theorem insideL_off (l : List Str) (w d : Int) : insideL (offS l w) d = l.any fun x => x.has.offers w && x.covers d := by
  induction l with
  | nil => rfl
  | cons x t ih =>
    have e : offS (x :: t) w = (if x.has.offers w = true then [(x.lo, x.hi)] else []) ++ offS t w := by
      unfold offS
      by_cases h : x.has.offers w = true <;> simp [h]
    rw [e, List.any_cons, ← ih]
    by_cases h : x.has.offers w = true <;> simp [h, insideL, Str.covers]
def hasOn (s : Sheet) (line d : Int) : Has := atDay line d ⟨s.words[line.toNat]!, 0, false⟩ s.alts
end Go.Proofs.Tryz
namespace Go.Co

abbrev Sp := Int × Int
def ins (l : List Sp) (d : Int) : Bool := l.any fun x => decide (x.1 ≤ d) && decide (d ≤ x.2)
theorem ins_cons (x : Sp) (l : List Sp) (d : Int) : ins (x :: l) d = ((decide (x.1 ≤ d) && decide (d ≤ x.2)) || ins l d) := rfl

def ordS : Int → List Sp → Prop
  | _, [] => True
  | b, x :: t => b ≤ x.1 ∧ x.1 ≤ x.2 ∧ x.2 ≤ 730 ∧ ordS (x.2 + 2) t
theorem ordS_mono : ∀ (l : List Sp) {b b' : Int}, b ≤ b' → ordS b' l → ordS b l
  | [], _, _, _, _ => trivial
  | _ :: _, _, _, h, hs => ⟨Int.le_trans h hs.1, hs.2⟩
theorem ordS_ins : ∀ (l : List Sp) {b : Int}, ordS b l → ∀ d, ins l d = true → b ≤ d ∧ d ≤ 730
  | [], _, _, d, h => by cases h
  | x :: t, b, hs, d, h => by
    obtain ⟨h1, h2, h3, h4⟩ := hs
    rw [ins_cons, Bool.or_eq_true] at h
    rcases h with h | h
    · simp only [Bool.and_eq_true, decide_eq_true_eq] at h; omega
    · have := ordS_ins t h4 d h; omega

def nextS : List Sp → Int → Int
  | [], _ => 731
  | x :: t, f => if f ≤ x.2 then max f x.1 else nextS t f

def NextOk (p : Int → Bool) (f d : Int) : Prop := (d = 731 ∧ ∀ e, f ≤ e → p e = false) ∨ (d ≤ 730 ∧ f ≤ d ∧ p d = true ∧ ∀ e, f ≤ e → p e = true → d ≤ e)
theorem nextS_ok : ∀ (l : List Sp) {b : Int}, ordS b l → ∀ f, NextOk (ins l) f (nextS l f)
  | [], _, _, f => .inl ⟨rfl, fun _ _ => rfl⟩
  | x :: t, b, hs, f => by
    obtain ⟨h1, h2, h3, h4⟩ := hs
    rw [nextS]
    by_cases hf : f ≤ x.2
    · rw [if_pos hf]
      refine .inr ⟨by omega, by omega, ?_, fun e he hp => ?_⟩
      · rw [ins_cons]; simp only [Bool.or_eq_true, Bool.and_eq_true, decide_eq_true_eq]; left; omega
      · rw [ins_cons, Bool.or_eq_true] at hp
        rcases hp with hp | hp
        · simp only [Bool.and_eq_true, decide_eq_true_eq] at hp; omega
        · have := ordS_ins t h4 e hp; omega
    · rw [if_neg hf]
      have hne : ∀ e, f ≤ e → ins (x :: t) e = ins t e := by
        intro e he
        rw [ins_cons]
        have : decide (e ≤ x.2) = false := by simp; omega
        simp [this]
      rcases nextS_ok t h4 f with ⟨h5, h6⟩ | ⟨h5, h6, h7, h8⟩
      · exact .inl ⟨h5, fun e he => by rw [hne e he]; exact h6 e he⟩
      · exact .inr ⟨h5, h6, by rw [hne _ h6]; exact h7, fun e he hp => h8 e he (by rw [← hne e he]; exact hp)⟩

def cutS (lo hi : Int) : List Sp → List Sp
  | [] => []
  | x :: t => if max x.1 lo ≤ min x.2 hi then (max x.1 lo, min x.2 hi) :: cutS lo hi t else cutS lo hi t
theorem cutS_le (lo hi : Int) : ∀ l : List Sp, (cutS lo hi l).length ≤ l.length
  | [] => Nat.le_refl _
  | x :: t => by
    have := cutS_le lo hi t
    rw [cutS]; split <;> simp <;> omega
theorem cutS_ord (lo hi : Int) : ∀ (l : List Sp) {b : Int}, ordS b l → ordS (max b lo) (cutS lo hi l)
  | [], _, _ => trivial
  | x :: t, b, hs => by
    obtain ⟨h1, h2, h3, h4⟩ := hs
    have := cutS_ord lo hi t h4
    rw [cutS]
    split
    · refine ⟨by simp only; omega, by simpa using by omega, by simp only; omega, ordS_mono _ (by simp only; omega) this⟩
    · exact ordS_mono _ (by omega) this
theorem cutS_ins (lo hi d : Int) : ∀ (l : List Sp), ins (cutS lo hi l) d = (ins l d && (decide (lo ≤ d) && decide (d ≤ hi)))
  | [] => rfl
  | x :: t => by
    have := cutS_ins lo hi d t
    rw [cutS]
    split
    · rw [ins_cons, ins_cons, this, Bool.eq_iff_iff]
      simp only [Bool.or_eq_true, Bool.and_eq_true, decide_eq_true_eq]
      constructor
      · rintro (h | h)
        · exact ⟨.inl (by omega), by omega, by omega⟩
        · exact ⟨.inr h.1, h.2⟩
      · rintro ⟨h | h, h2⟩
        · left; omega
        · exact .inr ⟨h, h2⟩
    · rw [ins_cons, this, Bool.eq_iff_iff]
      simp only [Bool.or_eq_true, Bool.and_eq_true, decide_eq_true_eq]
      constructor
      · rintro ⟨h, h2⟩; exact ⟨.inr h, h2⟩
      · rintro ⟨h | h, h2⟩
        · omega
        · exact ⟨h, h2⟩

def flipS (l : List Sp) : List Sp := (l.reverse).map fun x => (730 - x.2, 730 - x.1)
theorem flipS_cons (x : Sp) (l : List Sp) : flipS (x :: l) = flipS l ++ [(730 - x.2, 730 - x.1)] := by simp [flipS]
theorem flipS_ins (d : Int) (l : List Sp) : ins (flipS l) d = ins l (730 - d) := by
  induction l with
  | nil => rfl
  | cons x t ih =>
    have e : ins (flipS t ++ [(730 - x.2, 730 - x.1)]) d = (ins (flipS t) d || (decide (730 - x.2 ≤ d) && decide (d ≤ 730 - x.1))) := by simp [ins]
    rw [flipS_cons, e, ih, ins_cons, Bool.or_comm]
    congr 1
    rw [Bool.eq_iff_iff]; simp only [Bool.and_eq_true, decide_eq_true_eq]; omega
theorem ordS_snoc : ∀ (l : List Sp) {b : Int} (x : Sp), ordS b l → (∀ d, ins l d = true → d + 2 ≤ x.1) → b ≤ x.1 → x.1 ≤ x.2 → x.2 ≤ 730 → ordS b (l ++ [x])
  | [], b, x, _, _, h1, h2, h3 => ⟨h1, h2, h3, trivial⟩
  | y :: t, b, x, hs, hd, h1, h2, h3 => by
    obtain ⟨g1, g2, g3, g4⟩ := hs
    have hy : y.2 + 2 ≤ x.1 := hd y.2 (by rw [ins_cons]; simp [g2])
    exact ⟨g1, g2, g3, ordS_snoc t x g4 (fun d h => hd d (by rw [ins_cons, h]; simp)) hy h2 h3⟩
theorem flipS_ord : ∀ (l : List Sp) {b : Int}, 0 ≤ b → ordS b l → ordS 0 (flipS l)
  | [], _, _, _ => trivial
  | x :: t, b, hb, hs => by
    obtain ⟨h1, h2, h3, h4⟩ := hs
    rw [flipS_cons]
    refine ordS_snoc _ _ (flipS_ord t (b := x.2 + 2) (by omega) h4) (fun d hd => ?_) (by simp only; omega) (by simp only; omega) (by simp only; omega)
    rw [flipS_ins] at hd
    have := ordS_ins t h4 _ hd
    simp only; omega


def lowL (per : Nat) (days : List Int) (line : Nat) : Int :=
  if per ≤ line then max (if 1 ≤ line then days.getD (line - 1) 0 else 0) (days.getD (line - per) 0 + 1) else if 1 ≤ line then days.getD (line - 1) 0 else 0
theorem lowL_mono {per : Nat} {a b : List Int} {i : Nat} (hp : 1 ≤ per) (h : ∀ j, j < i → a.getD j 0 ≤ b.getD j 0) : lowL per a i ≤ lowL per b i := by
  have h1 : 1 ≤ i → a.getD (i - 1) 0 ≤ b.getD (i - 1) 0 := fun hi => h _ (by omega)
  have h2 : per ≤ i → a.getD (i - per) 0 ≤ b.getD (i - per) 0 := fun hi => h _ (by omega)
  unfold lowL
  split
  · rename_i g
    have := h2 g
    split
    · rename_i g1; have := h1 g1; omega
    · omega
  · split
    · rename_i g1; exact h1 g1
    · omega
theorem lowL_same {per : Nat} {a b : List Int} {i : Nat} (hp : 1 ≤ per) (h : ∀ j, j < i → a.getD j 0 = b.getD j 0) : lowL per a i = lowL per b i :=
  Int.le_antisymm (lowL_mono hp fun j hj => Int.le_of_eq (h j hj)) (lowL_mono hp fun j hj => Int.le_of_eq (h j hj).symm)
theorem getD_app {a b : List Int} {j : Nat} (h : j < a.length) : (a ++ b).getD j 0 = a.getD j 0 := by
  simp [List.getD_eq_getElem?_getD, List.getElem?_append_left h]
theorem getD_snoc {a : List Int} {x : Int} : (a ++ [x]).getD a.length 0 = x := by simp [List.getD_eq_getElem?_getD]
theorem lowL_app {per : Nat} {a b : List Int} {i : Nat} (hp : 1 ≤ per) (h : i ≤ a.length) : lowL per (a ++ b) i = lowL per a i := lowL_same hp fun j hj => getD_app (by omega)

def FitTo (op : Nat → Int → Bool) (per : Nat) (days : List Int) (k : Nat) : Prop := ∀ i, i < k → op i (days.getD i 0) = true ∧ lowL per days i ≤ days.getD i 0

def early (nx : Nat → Int → Int) (per : Nat) (frm : Int) : Nat → List Int → List Int
  | 0, days => days
  | k + 1, days => if nx days.length (max frm (lowL per days days.length)) = 731 then days else early nx per frm k (days ++ [nx days.length (max frm (lowL per days days.length))])

theorem early_spec {op : Nat → Int → Bool} {nx : Nat → Int → Int} {per : Nat} {frm : Int} (hp : 1 ≤ per) (hnx : ∀ i f, NextOk (op i) f (nx i f)) : ∀ (k : Nat) (days : List Int),
    (FitTo op per days days.length) → (∀ i, i < days.length → frm ≤ days.getD i 0) →
    days.length ≤ (early nx per frm k days).length ∧ (early nx per frm k days).length ≤ days.length + k ∧ FitTo op per (early nx per frm k days) (early nx per frm k days).length ∧ (∀ i, i < (early nx per frm k days).length → frm ≤ (early nx per frm k days).getD i 0) ∧
    ∀ (g : List Int) (m : Nat), m ≤ days.length + k → FitTo op per g m → (∀ i, i < m → frm ≤ g.getD i 0) → (∀ i, i < days.length → i < m → days.getD i 0 ≤ g.getD i 0) →
      m ≤ (early nx per frm k days).length ∧ ∀ i, i < m → (early nx per frm k days).getD i 0 ≤ g.getD i 0
  | 0, days, hf, hfrm => by
    refine ⟨Nat.le_refl _, Nat.le_refl _, hf, hfrm, fun g m hm _ _ hle => ?_⟩
    have e : early nx per frm 0 days = days := rfl
    rw [e]
    exact ⟨hm, fun i hi => hle i (by omega) hi⟩
  | k + 1, days, hf, hfrm => by
    rw [early]
    have hN := hnx days.length (max frm (lowL per days days.length))
    generalize hd : nx days.length (max frm (lowL per days days.length)) = d at hN
    have key : ∀ (g : List Int) (m : Nat), FitTo op per g m → (∀ i, i < m → frm ≤ g.getD i 0) → (∀ i, i < days.length → i < m → days.getD i 0 ≤ g.getD i 0) → days.length < m → max frm (lowL per days days.length) ≤ g.getD days.length 0 ∧ op days.length (g.getD days.length 0) = true := by
      intro g m hg hgf hle hlt
      have h1 := hg _ hlt
      have h2 := hgf _ hlt
      have h3 : lowL per days days.length ≤ lowL per g days.length := lowL_mono hp fun j hj => hle j hj (by omega)
      exact ⟨by omega, h1.1⟩
    by_cases h731 : d = 731
    · rw [if_pos h731]
      refine ⟨Nat.le_refl _, by omega, hf, hfrm, fun g m hm hg hgf hle => ?_⟩
      have hml : m ≤ days.length := by
        rcases Nat.lt_or_ge days.length m with hlt | hge
        · obtain ⟨k1, k2⟩ := key g m hg hgf hle hlt
          rcases hN with ⟨_, hN⟩ | ⟨hN, _⟩
          · rw [hN _ k1] at k2; cases k2
          · omega
        · exact hge
      exact ⟨hml, fun i hi => hle i (by omega) hi⟩
    · rw [if_neg h731]
      obtain ⟨n1, n2, n3, n4⟩ : d ≤ 730 ∧ max frm (lowL per days days.length) ≤ d ∧ op days.length d = true ∧ ∀ e, max frm (lowL per days days.length) ≤ e → op days.length e = true → d ≤ e := by
        rcases hN with ⟨h, _⟩ | h
        · exact absurd h h731
        · exact h
      have hlen : (days ++ [d]).length = days.length + 1 := by simp
      have hgd : ∀ i, i < days.length + 1 → (i < days.length ∧ (days ++ [d]).getD i 0 = days.getD i 0) ∨ (i = days.length ∧ (days ++ [d]).getD i 0 = d) := by
        intro i hi
        rcases Nat.lt_or_ge i days.length with h | h
        · exact .inl ⟨h, getD_app h⟩
        · have : i = days.length := by omega
          subst this
          exact .inr ⟨rfl, getD_snoc⟩
      obtain ⟨e1, e2, e3, e4, e5⟩ := early_spec hp hnx (frm := frm) k (days ++ [d]) (by
        intro i hi
        rw [hlen] at hi
        rw [lowL_app hp (by omega)]
        rcases hgd i hi with ⟨h, e⟩ | ⟨h, e⟩
        · rw [e]; exact hf i h
        · rw [e, h]; exact ⟨n3, by omega⟩) (by
        intro i hi
        rw [hlen] at hi
        rcases hgd i hi with ⟨h, e⟩ | ⟨h, e⟩
        · rw [e]; exact hfrm i h
        · rw [e]; omega)
      refine ⟨by omega, by omega, e3, e4, fun g m hm hg hgf hle => e5 g m (by omega) hg hgf fun i hi him => ?_⟩
      rw [hlen] at hi
      rcases hgd i hi with ⟨h, e⟩ | ⟨h, e⟩
      · rw [e]; exact hle i h him
      · rw [e, h]
        obtain ⟨k1, k2⟩ := key g m hg hgf hle (by omega)
        exact n4 _ k1 k2

theorem early_ok {op : Nat → Int → Bool} {nx : Nat → Int → Int} {per : Nat} {frm : Int} (hp : 1 ≤ per) (hnx : ∀ i f, NextOk (op i) f (nx i f)) (n : Nat) :
    (early nx per frm n []).length ≤ n ∧ FitTo op per (early nx per frm n []) (early nx per frm n []).length ∧ (∀ i, i < (early nx per frm n []).length → frm ≤ (early nx per frm n []).getD i 0) ∧
    ∀ (g : List Int) (m : Nat), m ≤ n → FitTo op per g m → (∀ i, i < m → frm ≤ g.getD i 0) → m ≤ (early nx per frm n []).length ∧ ∀ i, i < m → (early nx per frm n []).getD i 0 ≤ g.getD i 0 := by
  obtain ⟨_, h2, h3, h4, h5⟩ := early_spec hp hnx (frm := frm) n [] (fun i hi => by simp at hi) (fun i hi => by simp at hi)
  exact ⟨by simpa using h2, h3, h4, fun g m hm hg hgf => h5 g m (by simpa using hm) hg hgf fun i hi => by simp at hi⟩


def flipD (l : List Int) : List Int := (l.reverse).map fun d => 730 - d
theorem flipD_len (l : List Int) : (flipD l).length = l.length := by simp [flipD]
theorem flipD_get {l : List Int} {i : Nat} (h : i < l.length) : (flipD l).getD i 0 = 730 - l.getD (l.length - 1 - i) 0 := by
  have h2 : l.length - 1 - i < l.length := by omega
  rw [List.getD_eq_getElem?_getD, List.getD_eq_getElem?_getD, flipD, List.getElem?_map, List.getElem?_reverse h, List.getElem?_eq_getElem h2]
  rfl
theorem floors_ok {op : Nat → Int → Bool} {nx : Nat → Int → Int} {per : Nat} (hp : 1 ≤ per) (hnx : ∀ i f, NextOk (op i) f (nx i f)) (fl g : List Int) (m : Nat) (hfl : ∀ i, i < m → fl.getD i 0 ≤ nx i (lowL per fl i)) (hg : FitTo op per g m) : ∀ i, i < m → fl.getD i 0 ≤ g.getD i 0 := by
  intro i
  induction i using Nat.strongRecOn with
  | ind i ih =>
    intro hi
    have h1 := hfl i hi
    obtain ⟨g1, g2⟩ := hg i hi
    have h3 : lowL per fl i ≤ lowL per g i := lowL_mono hp fun j hj => ih j hj (by omega)
    rcases hnx i (lowL per fl i) with ⟨h4, h5⟩ | ⟨h4, h5, h6, h7⟩
    · rw [h5 _ (by omega)] at g1; cases g1
    · have := h7 _ (by omega) g1; omega
end Go.Co
namespace Go.Proofs.Tryz
open Go Go.Am Go.RowKit Go.Co
set_option maxRecDepth 100000

theorem insideL_ins (l : List (Int × Int)) (d : Int) : insideL l d = ins l d := rfl
theorem joinS_nil (x : Int × Int) : joinS [] x = [x] := rfl
theorem joinS_one (y x : Int × Int) : joinS [y] x = if y.2 + 1 = x.1 then [(y.1, x.2)] else [y, x] := by simp [joinS]
theorem joinS_two (y z : Int × Int) (t : List (Int × Int)) (x : Int × Int) : joinS (y :: z :: t) x = y :: joinS (z :: t) x := by
  unfold joinS
  have h : (y :: z :: t).getLast? = (z :: t).getLast? := by simp [List.getLast?_cons_cons]
  rw [h]
  cases (z :: t).getLast? with
  | none => rfl
  | some u =>
    simp only
    split <;> simp
theorem joinS_ord (x : Int × Int) (h1 : x.1 ≤ x.2) (h2 : x.2 ≤ 730) : ∀ (acc : List (Int × Int)) {c : Int}, ordS c acc → (∀ d, ins acc d = true → d + 1 ≤ x.1) → c ≤ x.1 → ordS c (joinS acc x)
  | [], c, _, _, h => by rw [joinS_nil]; exact ⟨h, h1, h2, trivial⟩
  | [y], c, ho, hd, h => by
    obtain ⟨g1, g2, g3, g4⟩ := ho
    have := hd y.2 (by rw [ins_cons]; simp [g2])
    rw [joinS_one]
    split
    · exact ⟨g1, by simp only; omega, h2, trivial⟩
    · exact ⟨g1, g2, g3, by omega, h1, h2, trivial⟩
  | y :: z :: t, c, ho, hd, h => by
    obtain ⟨g1, g2, g3, g4⟩ := ho
    have g5 := g4
    obtain ⟨k1, k2, k3, k4⟩ := g5
    have := hd z.2 (by rw [ins_cons, ins_cons]; simp [k2])
    rw [joinS_two]
    exact ⟨g1, g2, g3, joinS_ord x h1 h2 (z :: t) g4 (fun d hdd => hd d (by rw [ins_cons, hdd]; simp)) (by omega)⟩
theorem ordS_le : ∀ (l : List (Int × Int)) {c : Int}, ordS c l → ∀ y, y ∈ l → y.1 ≤ y.2
  | x :: t, c, h, y, hy => by
    rcases List.mem_cons.1 hy with rfl | hy
    · exact h.2.1
    · exact ordS_le t h.2.2.2 y hy
theorem joinS_ins {acc : List (Int × Int)} {x : Int × Int} {c : Int} (ho : ordS c acc) (hx : x.1 ≤ x.2) (d : Int) : ins (joinS acc x) d = (ins acc d || (decide (x.1 ≤ d) && decide (d ≤ x.2))) :=
  (joinS_ok acc x d (ordS_le acc ho) hx).2

def ordW : Int → List (Int × Int) → Prop
  | _, [] => True
  | b, x :: t => b ≤ x.1 ∧ x.1 ≤ x.2 ∧ x.2 ≤ 730 ∧ ordW (x.2 + 1) t
theorem ordW_mono : ∀ (l : List (Int × Int)) {b b' : Int}, b ≤ b' → ordW b' l → ordW b l
  | [], _, _, _, _ => trivial
  | _ :: _, _, _, h, hs => ⟨Int.le_trans h hs.1, hs.2⟩
theorem joinL_ord : ∀ (l acc : List (Int × Int)) {b : Int}, 0 ≤ b → ordS 0 acc → (∀ d, ins acc d = true → d + 1 ≤ b) → ordW b l → ordS 0 (l.foldl joinS acc)
  | [], acc, _, _, h, _, _ => h
  | x :: t, acc, b, hb, h, hd, hw => by
    obtain ⟨g1, g2, g3, g4⟩ := hw
    rw [List.foldl_cons]
    refine joinL_ord t _ (b := x.2 + 1) (by omega) (joinS_ord x g2 g3 acc h (fun d h5 => by have := hd d h5; omega) (by omega)) (fun d h5 => ?_) g4
    rw [joinS_ins h g2, Bool.or_eq_true] at h5
    rcases h5 with h5 | h5
    · have := hd d h5; omega
    · simp only [Bool.and_eq_true, decide_eq_true_eq] at h5; omega
theorem go_ordW (line w : Int) : ∀ (l : List Alt) (b : Int) (c : Has), sorted b l → b ≤ 730 → ordW b (offS (go line b c l) w)
  | [], b, c, _, h => by
    unfold offS
    rw [go]
    by_cases hc : c.offers w = true
    · simp only [List.filter_cons, hc, if_true, List.filter_nil, List.map_cons, List.map_nil]
      exact ⟨Int.le_refl _, h, Int.le_refl _, trivial⟩
    · simp only [List.filter_cons, hc, List.filter_nil]
      exact trivial
  | a :: t, b, c, hs, h => by
    obtain ⟨s1, s2, s3⟩ := hs
    rw [go]
    split
    · exact go_ordW line w t b c (sorted_mono t s1 s3) h
    · split
      · exact go_ordW line w t b c (sorted_mono t s1 s3) h
      · split
        · rename_i hlt
          have ih := go_ordW line w t a.day (c.after a) s3 s2
          unfold offS at ih ⊢
          by_cases hc : c.offers w = true
          · simp only [List.filter_cons, hc, if_true, List.map_cons]
            exact ⟨Int.le_refl _, by simp only; omega, by simp only; omega, ordW_mono _ (by simp only; omega) ih⟩
          · simp only [List.filter_cons, hc]
            exact ordW_mono _ s1 ih
        · exact ordW_mono _ s1 (go_ordW line w t a.day (c.after a) s3 s2)
theorem whenS_ord {s : Sheet} {line w : Int} (hs : sorted 0 s.alts) : ordS 0 (joinL (offS (strs s line) w)) :=
  joinL_ord _ [] (b := 0) (Int.le_refl _) trivial (fun d h => by cases h) (go_ordW line w s.alts 0 _ hs (by omega))
theorem whenS_ins {s : Sheet} {line w d : Int} (hs : sorted 0 s.alts) : ins (joinL (offS (strs s line) w)) d = (decide (0 ≤ d) && (decide (d ≤ 730) && (hasOn s line d).offers w)) := by
  by_cases hd : 0 ≤ d ∧ d ≤ 730
  · obtain ⟨hd0, hd1⟩ := hd
    rw [← insideL_ins, joinL, joinL_ok d _ [] (by simp) ?_, insideL_off, strs, go_any line d w s.alts 0 _ hs hd0 hd1]
    · simp [insideL, hasOn, hd0, hd1]
    · intro y hy
      unfold offS at hy
      obtain ⟨x, hx, rfl⟩ := List.mem_map.1 hy
      have hx2 := (List.mem_filter.1 hx).1
      exact (go_lo line s.alts 0 _ hs (by omega) x hx2).2
  · cases h : ins (joinL (offS (strs s line) w)) d with
    | true => exact absurd (ordS_ins _ (whenS_ord hs) d h) hd
    | false =>
      symm
      rw [Bool.eq_false_iff]
      intro h2
      simp only [Bool.and_eq_true, decide_eq_true_eq] at h2
      exact hd ⟨h2.1, h2.2.1⟩
end Go.Proofs.Tryz
namespace Go.Proofs.Tryz
open Go Go.Am Go.RowKit
set_option maxRecDepth 100000

section
variable {H : AHeap} {β : Type} {kk : K β}
theorem st7 : structOk Tryz.prog 7 = true := by kernel_rfl
@[go_sem] theorem bu7 {parts : List (Nat × Value)} : aBuild Tryz.prog 7 parts H kk = match fillB Tryz.prog 7 [.int .i64 0, .int .i64 0, .bool false, .int .u8 0] parts with
    | some l => if l.all oneV = true then kk (.agg l.toArray) H else none
    | none => none := aBuild_struct st7 ze7
theorem st8 : structOk Tryz.prog 8 = true := by kernel_rfl
@[go_sem] theorem bu8 {parts : List (Nat × Value)} : aBuild Tryz.prog 8 parts H kk = match fillB Tryz.prog 8 [.int .i64 0, .int .i64 0, .bool false, .int .u8 0] parts with
    | some l => if l.all oneV = true then kk (.agg l.toArray) H else none
    | none => none := aBuild_struct st8 ze8
theorem st14 : structOk Tryz.prog 14 = true := by kernel_rfl
@[go_sem] theorem bu14 {parts : List (Nat × Value)} : aBuild Tryz.prog 14 parts H kk = match fillB Tryz.prog 14 [.string ⟨#[]⟩, .int .u64 0] parts with
    | some l => if l.all oneV = true then kk (.agg l.toArray) H else none
    | none => none := aBuild_struct st14 ze14
theorem st19 : structOk Tryz.prog 19 = true := by kernel_rfl
@[go_sem] theorem bu19 {parts : List (Nat × Value)} : aBuild Tryz.prog 19 parts H kk = match fillB Tryz.prog 19 [.pointer none] parts with
    | some l => if l.all oneV = true then kk (.agg l.toArray) H else none
    | none => none := aBuild_struct st19 ze19
theorem st25 : structOk Tryz.prog 25 = true := by kernel_rfl
@[go_sem] theorem bu25 {parts : List (Nat × Value)} : aBuild Tryz.prog 25 parts H kk = match fillB Tryz.prog 25 [.slice none 0 0, .slice none 0 0] parts with
    | some l => if l.all oneV = true then kk (.agg l.toArray) H else none
    | none => none := aBuild_struct st25 ze25
theorem st27 : structOk Tryz.prog 27 = true := by kernel_rfl
@[go_sem] theorem bu27 {parts : List (Nat × Value)} : aBuild Tryz.prog 27 parts H kk = match fillB Tryz.prog 27 [.slice none 0 0, .int .i64 0, .int .i64 0, .int .i64 0] parts with
    | some l => if l.all oneV = true then kk (.agg l.toArray) H else none
    | none => none := aBuild_struct st27 ze27
theorem st37 : structOk Tryz.prog 37 = true := by kernel_rfl
@[go_sem] theorem bu37 {parts : List (Nat × Value)} : aBuild Tryz.prog 37 parts H kk = match fillB Tryz.prog 37 [.slice none 0 0, .int .i64 0] parts with
    | some l => if l.all oneV = true then kk (.agg l.toArray) H else none
    | none => none := aBuild_struct st37 ze37
theorem st58 : structOk Tryz.prog 58 = true := by kernel_rfl
@[go_sem] theorem bu58 {parts : List (Nat × Value)} : aBuild Tryz.prog 58 parts H kk = match fillB Tryz.prog 58 [.int .i64 0, .int .i64 0, .int .i64 0, .int .i64 0, .int .i64 0, .int .i64 0] parts with
    | some l => if l.all oneV = true then kk (.agg l.toArray) H else none
    | none => none := aBuild_struct st58 ze58
theorem st126 : structOk Tryz.prog 126 = true := by kernel_rfl
@[go_sem] theorem bu126 {parts : List (Nat × Value)} : aBuild Tryz.prog 126 parts H kk = match fillB Tryz.prog 126 [.int .i64 0, .int .i64 0, .bool false] parts with
    | some l => if l.all oneV = true then kk (.agg l.toArray) H else none
    | none => none := aBuild_struct st126 ze126
theorem st79 : structOk Tryz.prog 79 = true := by kernel_rfl
@[go_sem] theorem bu79 {parts : List (Nat × Value)} : aBuild Tryz.prog 79 parts H kk = match fillB Tryz.prog 79 [.slice none 0 0, .int .i64 0] parts with
    | some l => if l.all oneV = true then kk (.agg l.toArray) H else none
    | none => none := aBuild_struct st79 ze79
theorem st86 : structOk Tryz.prog 86 = true := by kernel_rfl
@[go_sem] theorem bu86 {parts : List (Nat × Value)} : aBuild Tryz.prog 86 parts H kk = match fillB Tryz.prog 86 [.slice none 0 0, .int .i64 0, .slice none 0 0, .slice none 0 0] parts with
    | some l => if l.all oneV = true then kk (.agg l.toArray) H else none
    | none => none := aBuild_struct st86 ze86
theorem st200 : structOk Tryz.prog 200 = true := by kernel_rfl
@[go_sem] theorem bu200 {parts : List (Nat × Value)} : aBuild Tryz.prog 200 parts H kk = match fillB Tryz.prog 200 [.pointer none, .pointer none, .pointer none, .string ⟨#[]⟩] parts with
    | some l => if l.all oneV = true then kk (.agg l.toArray) H else none
    | none => none := aBuild_struct st200 ze200
theorem st203 : structOk Tryz.prog 203 = true := by kernel_rfl
@[go_sem] theorem bu203 {parts : List (Nat × Value)} : aBuild Tryz.prog 203 parts H kk = match fillB Tryz.prog 203 [] parts with
    | some l => if l.all oneV = true then kk (.agg l.toArray) H else none
    | none => none := aBuild_struct st203 ze203
theorem st211 : structOk Tryz.prog 211 = true := by kernel_rfl
@[go_sem] theorem bu211 {parts : List (Nat × Value)} : aBuild Tryz.prog 211 parts H kk = match fillB Tryz.prog 211 [.int .u64 0, .int .u64 0, .int .u32 0, .int .u8 0, .int .u8 0, .int .u8 0, .int .u8 0, .nilFunc, .pointer none, .int .i32 0, .int .i32 0] parts with
    | some l => if l.all oneV = true then kk (.agg l.toArray) H else none
    | none => none := aBuild_struct st211 ze211
end
end Go.Proofs.Tryz
namespace Go.Proofs.Tryz
open Go Go.Am Go.RowKit
set_option maxRecDepth 100000


structure Copy where
  words : List Int
  beg : Int
  fin : Int
  per : Int

def CopyV (H : AHeap) (v : Value) (c : Copy) : Prop := ∃ wv, v = .agg #[wv, .int .i64 c.beg, .int .i64 c.fin, .int .i64 c.per] ∧ Ints H wv c.words
theorem CopyV.ext {H H' : AHeap} {v : Value} {c : Copy} (h : CopyV H v c) (hx : Ext H H') : CopyV H' v c := by
  obtain ⟨w, h1, h2⟩ := h
  exact ⟨w, h1, h2.ext hx⟩

theorem nat_neb {a b : Nat} : ((a : Int) != (b : Int)) = !decide (a = b) := by rw [Bool.eq_iff_iff]; simp; omega
theorem brief_s {loops : List (Nat × LInfo)} {H : AHeap} {cv : Value} {c : Copy} (hc : CopyV H cv c) : CallS Tryz.prog loops 10 [cv] H fun r H' => r = .bool (decide (c.words.length ≤ 50)) ∧ H' = H := by
  refine CallS.forget (R := fun v => v = .bool (decide (c.words.length ≤ 50))) (by rintro v rfl; rfl) ?_
  obtain ⟨wv, rfl, hw⟩ := hc
  obtain ⟨hwl, wa, wc, rfl⟩ := hw.slice
  clear hw
  refine CallS.enter' Tryz.func10 rfl Tryz.ntmps10 (by simp) fun f hd hf => ?_
  have f0 := hf 0
  simp at f0
  clear hf
  repeat' (first|(with_reducible first|refine zA ?_|refine zB fun K hK=>?_|refine zC fun K2 hK2=>?_|refine zD ?_|refine zE ?_|refine zF ?_|refine zG ?_|refine zH ?_|refine zI ?_|refine zM ?_|refine zN ?_|refine zO ?_|refine zP ?_|refine zQ ?_|refine zR ?_)|((with_reducible refine zU (hK _ _ ?_));clear hK K)|((with_reducible refine zV ?_ ?_ fun K1 K3 d hdst h1 h3=>?_);rfl;exact yB rfl;cases hdst;go_simp)|((with_reducible refine zW fun K1 K3 h1 h3=>?_);go_simp)|((first|refine h1 ?_|refine h3 ?_);clear h1 h3 K1 K3)|((first|refine zX (fun hb=>h1 ?_) (fun hb=>h3 ?_)|refine zX (fun hb=>h3 ?_) (fun hb=>h1 ?_))<;>(clear h1 h3 K1 K3;(try have hb2:=yC hb);(try have hb2:=yD hb);(try have hb2:=yE hb);(try have hb2:=yF hb);(try have hb2:=yG hb)))|(refine fun (K2:_→AHeap→Prop) hK2=>?_)|((with_reducible refine zY ?_ ?_);decide)|((with_reducible first|refine zZ ?_ (fun K hK=>?_)|refine yA ?_ (fun K hK=>?_));(focus go_simp;done);go_simp;refine hK _ _ ?_;clear hK K)|(go_simp;(try go_bits);refine hK2 _ _ ?_;clear hK2 K2))
  refine ⟨?_, (Ext.refl _).push' _⟩
  simp only [Value.bool.injEq]
  rw [decide_eq_decide]; omega

def copyOk (s : Sheet) (c : Copy) : Bool := decide (c.words.length = s.words.length) && (wordsOk 0 c.words && (win 0 c.fin c.beg && (win 0 730 c.fin && win 1 40 c.per)))
def errCopy (s : Sheet) (c : Copy) : Int := if err s ≠ 0 then err s else if copyOk s c then 0 else 1
theorem errCopy_ok {s : Sheet} {c : Copy} (h : errCopy s c = 0) : err s = 0 ∧ c.words.length = s.words.length ∧ wordsOk 0 c.words = true ∧ 0 ≤ c.beg ∧ c.beg ≤ c.fin ∧ c.fin ≤ 730 ∧ 1 ≤ c.per ∧ c.per ≤ 40 := by
  unfold errCopy at h
  split at h
  · rename_i h1; exact absurd h h1
  · rename_i h1
    split at h
    · rename_i h2
      simp only [copyOk, Bool.and_eq_true, decide_eq_true_eq, win_iff] at h2
      exact ⟨by simpa using h1, h2.1, h2.2.1, h2.2.2.1.1, h2.2.2.1.2, h2.2.2.2.1.2, h2.2.2.2.2.1, h2.2.2.2.2.2⟩
    · cases h

theorem checkCopy_s {loops : List (Nat × LInfo)} {H : AHeap} {sv cv : Value} {s : Sheet} {c : Copy} (hs : SheetV H sv s) (hc : CopyV H cv c) : CallS Tryz.prog loops 42 [sv, cv] H fun r H' => r = .int .i64 (errCopy s c) ∧ H' = H := by
  refine CallS.forget (R := fun v => v = .int .i64 (errCopy s c)) (by rintro v rfl; rfl) ?_
  have HV := Lib.hid hs
  have HC := Lib.hid hc
  obtain ⟨wv, av, rfl, hw, ha⟩ := hs
  obtain ⟨hwl, wa, wc, rfl⟩ := hw.slice
  obtain ⟨hal, aa, ac, rfl⟩ := ha.slice
  obtain ⟨cv, rfl, hcw⟩ := hc
  obtain ⟨hcl, ca, cc, rfl⟩ := hcw.slice
  have HCW := Lib.hid hcw
  clear hw ha hcw
  generalize he : errCopy s c = er
  have HE := Lib.hid he
  clear he
  refine CallS.enter' Tryz.func42 rfl Tryz.ntmps42 (by simp) fun f hd hf => ?_
  have f0 := hf 0
  have f1 := hf 1
  simp at f0 f1
  clear hf
  repeat' (first|(with_reducible first|refine zA ?_|refine zB fun K hK=>?_|refine zC fun K2 hK2=>?_|refine zD ?_|refine zE ?_|refine zF ?_|refine zG ?_|refine zH ?_|refine zI ?_|refine zM ?_|refine zN ?_|refine zO ?_|refine zP ?_|refine zQ ?_|refine zR ?_)|((with_reducible refine zU (hK _ _ ?_));clear hK K)|((with_reducible refine zV ?_ ?_ fun K1 K3 d hdst h1 h3=>?_);rfl;exact yB rfl;cases hdst;go_simp)|((with_reducible refine zW fun K1 K3 h1 h3=>?_);go_simp)|((first|refine h1 ?_|refine h3 ?_);clear h1 h3 K1 K3)|((first|refine zX (fun hb=>h1 ?_) (fun hb=>h3 ?_)|refine zX (fun hb=>h3 ?_) (fun hb=>h1 ?_))<;>(clear h1 h3 K1 K3;(try have hb2:=yC hb);(try have hb2:=yD hb);(try have hb2:=yE hb);(try have hb2:=yF hb);(try have hb2:=yG hb)))|(refine fun (K2:_→AHeap→Prop) hK2=>?_)|((with_reducible refine zY ?_ ?_);decide)|((with_reducible first|refine zZ ?_ (fun K hK=>?_)|refine yA ?_ (fun K hK=>?_));(focus go_simp;done);go_simp;refine hK _ _ ?_;clear hK K)|(go_simp;(try go_bits);(try first |((with_reducible show CallS _ _ _ _ _ _);first|(refine CallS.mono within_s ?_; rintro _ _ ⟨rfl, rfl⟩)|(refine CallS.mono (check_s (s := s) (HV.out.ext (((Ext.refl _).push' _).push' _))) ?_; rintro _ _ ⟨rfl, rfl⟩)|(refine CallS.mono (areWords_s (HCW.out.ext (((Ext.refl _).push' _).push' _))) ?_; rintro _ _ ⟨rfl, rfl⟩)));refine hK2 _ _ ?_;clear hK2 K2))
  all_goals
    refine ⟨?_, ((Ext.refl _).push' _).push' _⟩
    rw [← HE.out]
  · have h1 : err s ≠ 0 := by simpa using hb
    rw [errCopy, if_pos h1]
  all_goals
    have h1 : err s = 0 := by simpa using ‹(err s != 0) = false›
    rw [errCopy, if_neg (by simp [h1])]
  all_goals simp_all [copyOk, nat_neb]

end Go.Proofs.Tryz
namespace Go.Proofs.Tryz
open Go Go.Am Go.RowKit Go.Co
set_option maxRecDepth 100000


theorem cutS_app (lo hi : Int) (x : Int × Int) (t : List (Int × Int)) : cutS lo hi (x :: t) = (if max x.1 lo ≤ min x.2 hi then [(max x.1 lo, min x.2 hi)] else []) ++ cutS lo hi t := by
  rw [cutS]; split <;> rfl

theorem cut_e {loops : List (Nat × LInfo)} {H : AHeap} {v : Value} {l : List (Int × Int)} {lo hi : Int} (hv : Spans H v l) (hl : l.length ≤ 1000) : CallS Tryz.prog loops 89 [v, .agg #[.int .i64 lo, .int .i64 hi]] H fun r H' => Own H' H.n r 68 2 (spanCells (cutS lo hi l)) ∧ Ext H H' := by
  obtain ⟨hlen, a, c, rfl⟩ := hv.slice
  have HV := Lib.hid hv
  clear hv
  generalize hr : cutS lo hi l = res
  have HE := Lib.hid hr
  clear hr
  refine CallS.enter' Tryz.func89 rfl Tryz.ntmps89 (by simp) fun f hd hf => ?_
  have f0 := hf 0
  have f1 := hf 1
  simp at f0 f1
  clear hf
  repeat' (first|(with_reducible first|refine zA ?_|refine zB fun K hK=>?_|refine zC fun K2 hK2=>?_|refine zD ?_|refine zE ?_|refine zF ?_|refine zG ?_|refine zH ?_|refine zI ?_|refine zM ?_|refine zN ?_|refine zO ?_|refine zP ?_|refine zQ ?_|refine zR ?_)|((with_reducible refine zU (hK _ _ ?_));clear hK K)|((with_reducible refine zV ?_ ?_ fun K1 K3 d hdst h1 h3=>?_);rfl;exact yB rfl;cases hdst;go_simp)|((with_reducible refine zW fun K1 K3 h1 h3=>?_);go_simp)|((first|refine h1 ?_|refine h3 ?_);clear h1 h3 K1 K3)|((first|refine zX (fun hb=>h1 ?_) (fun hb=>h3 ?_)|refine zX (fun hb=>h3 ?_) (fun hb=>h1 ?_))<;>(clear h1 h3 K1 K3;(try have hb2:=yC hb);(try have hb2:=yD hb);(try have hb2:=yE hb);(try have hb2:=yF hb);(try have hb2:=yG hb)))|(refine fun (K2:_→AHeap→Prop) hK2=>?_)|((with_reducible refine zY ?_ ?_);decide)|((with_reducible first|refine zZ ?_ (fun K hK=>?_)|refine yA ?_ (fun K hK=>?_));(focus go_simp;done);go_simp;refine hK _ _ ?_;clear hK K)|(go_simp;(try go_bits);refine hK2 _ _ ?_;clear hK2 K2))
  refine CodeS.loop (fun m f H' => ∃ (k : Nat) (v : Value) (acc : List (Int × Int)), k ≤ l.length ∧ m = l.length - k ∧ f.tmp 10 = .int .i64 k ∧ f.tmp 9 = .int .i64 l.length ∧ f.tmp 8 = .slice a l.length c ∧ f.tmp 3 = .pointer (some ⟨H.n, 0, none⟩) ∧ f.tmp 5 = v ∧ f.defers = [] ∧ Hid (acc ++ cutS lo hi (l.drop k) = res) ∧ acc.length ≤ k ∧ H.n < H'.n ∧ Ext H H' ∧ H'.get H.n = .row [.int .i64 lo, .int .i64 hi] 68 ∧ Own H' (H.n + 1) v 68 2 (spanCells acc)) l.length ?_ ?_
  · refine ⟨0, .slice none 0 0, [], by simp, by simp, (by first|go_simp<;>go_num|assumption), (by first|go_simp<;>go_num|assumption), (by first|go_simp<;>go_num|assumption), (by first|go_simp<;>go_num|assumption), (by first|go_simp<;>go_num|assumption), (by first|go_simp<;>go_num|assumption), Lib.hid (by simpa using HE.out), by simp, by rw [AHeap.n_push]; omega, Ext.push _, AHeap.get_push_new, Own.nil⟩
  clear f0 f1 hd f HE
  rintro m f H' ⟨k, v, acc, hk, rfl, f10, f9, f8, f3, f5, hd, HG, hal, hn, hx, hg0, ho⟩
  have hc0 : cellAt H' H.n 0 = some (.int .i64 lo) := by simp [cellAt, hg0]
  have hc1 : cellAt H' H.n 1 = some (.int .i64 hi) := by simp [cellAt, hg0]
  have HX := Lib.hid hx
  have HO := Lib.hid ho
  have HG0 := Lib.hid hg0
  have hne : ¬ (H.n = H'.n) := by omega
  clear hx ho hg0
  by_cases hlt : k < l.length
  · obtain ⟨b, o, sp, rfl, hb, hx2⟩ := (HV.out.ext HX.out).cells_at hlt
    have HD := Lib.hid (List.drop_eq_getElem_cons hlt)
    generalize l[k] = y at hx2 HD
    obtain ⟨p, q⟩ := y
    simp only at hx2
    have hbig : ((spanCells acc).length + 2) * max 16 1 ≤ 1073741824 := by rw [spanCells_length]; simp; omega
    have HBIG := Lib.hid hbig
    clear hbig
    repeat' (first|(with_reducible first|refine zA ?_|refine zB fun K hK=>?_|refine zC fun K2 hK2=>?_|refine zD ?_|refine zE ?_|refine zF ?_|refine zG ?_|refine zH ?_|refine zI ?_|refine zM ?_|refine zN ?_|refine zO ?_|refine zP ?_|refine zQ ?_|refine zR ?_)|((with_reducible refine zU (hK _ _ ?_));clear hK K)|((with_reducible refine zV ?_ ?_ fun K1 K3 d hdst h1 h3=>?_);rfl;exact yB rfl;cases hdst;go_simp)|((with_reducible refine zW fun K1 K3 h1 h3=>?_);go_simp)|((first|refine h1 ?_|refine h3 ?_);clear h1 h3 K1 K3)|((first|refine zX (fun hb=>h1 ?_) (fun hb=>h3 ?_)|refine zX (fun hb=>h3 ?_) (fun hb=>h1 ?_))<;>(clear h1 h3 K1 K3;(try have hb2:=yC hb);(try have hb2:=yD hb);(try have hb2:=yE hb);(try have hb2:=yF hb);(try have hb2:=yG hb)))|(refine fun (K2:_→AHeap→Prop) hK2=>?_)|((with_reducible refine zY ?_ ?_);decide)|((with_reducible first|refine zZ ?_ (fun K hK=>?_)|refine yA ?_ (fun K hK=>?_));(focus go_simp;done);go_simp;refine hK _ _ ?_;clear hK K)|(go_simp;(try go_bits);(try first | ((refine one_k el64 sz68 ze68 rfl (by decide) (by decide) rfl rfl ?_); go_simp) | ((refine append_k2 el64 sz68 by68 ze68 rfl (by decide) (HO.out.ext ((Ext.push _).trans (Ext.push _))) (srcCells_new rfl) (by decide) rfl (by rw [List.all_append, spanCells_one]; rfl) HBIG.out (by simp only [AHeap.n_push]; omega) fun v2 H4 ho4 hg4 => ?_); (have HO4 := Lib.hid ho4); (have HG4 := Lib.hid hg4); clear ho4 hg4; go_simp));refine hK2 _ _ ?_;clear hK2 K2))
    · have hle : max p lo ≤ min q hi := by simpa using hb
      have hx4 : Ext H H4 := HG4.out.ext (HO.out.ext ((Ext.push _).trans (Ext.push _))) (by omega) ((HX.out.push' _).push' _)
      refine Post.round_normal ⟨l.length - (k + 1), by omega, k + 1, v2, acc ++ [(max p lo, min q hi)], by omega, rfl, (by first|go_simp<;>go_num|assumption), (by first|go_simp<;>go_num|assumption), (by first|go_simp<;>go_num|assumption), (by first|go_simp<;>go_num|assumption), (by first|go_simp<;>go_num|assumption), (by first|go_simp<;>go_num|assumption), Lib.hid ?_, by simp; omega, ?_, hx4, ?_, ?_⟩
      · rw [← HG.out, HD.out, cutS_app, if_pos hle]; simp
      · have := HG4.out.1; simp only [AHeap.n_push] at this; omega
      · rw [HG4.out.2 _ (by simp only [AHeap.n_push]; omega) (fun b n hv hn => by have := (own_block HO.out hv hn).1; omega), AHeap.get_push_old (by simp only [AHeap.n_push]; omega), AHeap.get_push_old hn]; exact HG0.out
      · rw [spanCells_app]; exact HO4.out.mono (by simp only [AHeap.n_push]; omega)
    · have hle : ¬ max p lo ≤ min q hi := by simpa using hb
      refine Post.round_normal ⟨l.length - (k + 1), by omega, k + 1, v, acc, by omega, rfl, (by first|go_simp<;>go_num|assumption), (by first|go_simp<;>go_num|assumption), (by first|go_simp<;>go_num|assumption), (by first|go_simp<;>go_num|assumption), (by first|go_simp<;>go_num|assumption), (by first|go_simp<;>go_num|assumption), Lib.hid ?_, by omega, by rw [AHeap.n_push]; omega, HX.out.push' _, ?_, HO.out.ext (Ext.push _)⟩
      · rw [← HG.out, HD.out, cutS_app, if_neg hle]; simp
      · rw [AHeap.get_push_old hn]; exact HG0.out
  · repeat' (first|(with_reducible first|refine zA ?_|refine zB fun K hK=>?_|refine zC fun K2 hK2=>?_|refine zD ?_|refine zE ?_|refine zF ?_|refine zG ?_|refine zH ?_|refine zI ?_|refine zM ?_|refine zN ?_|refine zO ?_|refine zP ?_|refine zQ ?_|refine zR ?_)|((with_reducible refine zU (hK _ _ ?_));clear hK K)|((with_reducible refine zV ?_ ?_ fun K1 K3 d hdst h1 h3=>?_);rfl;exact yB rfl;cases hdst;go_simp)|((with_reducible refine zW fun K1 K3 h1 h3=>?_);go_simp)|((first|refine h1 ?_|refine h3 ?_);clear h1 h3 K1 K3)|((first|refine zX (fun hb=>h1 ?_) (fun hb=>h3 ?_)|refine zX (fun hb=>h3 ?_) (fun hb=>h1 ?_))<;>(clear h1 h3 K1 K3;(try have hb2:=yC hb);(try have hb2:=yD hb);(try have hb2:=yE hb);(try have hb2:=yF hb);(try have hb2:=yG hb)))|(refine fun (K2:_→AHeap→Prop) hK2=>?_)|((with_reducible refine zY ?_ ?_);decide)|((with_reducible first|refine zZ ?_ (fun K hK=>?_)|refine yA ?_ (fun K hK=>?_));(focus go_simp;done);go_simp;refine hK _ _ ?_;clear hK K)|(go_simp;(try go_bits);refine hK2 _ _ ?_;clear hK2 K2))
    refine ⟨?_, HX.out⟩
    have hr : acc = res := by rw [← HG.out, List.drop_eq_nil_of_le (by omega)]; simp [cutS]
    rw [← hr]
    exact HO.out.mono (by omega)

theorem until87_s {loops : List (Nat × LInfo)} {H : AHeap} {x : Int × Int} {q : Nat} {d : Int} (hq : q < H.n) (hg : cellAt H q 0 = some (.int .i64 d)) : CallS Tryz.prog loops 119 [spanVal x, .pointer (some ⟨q, 0, none⟩)] H fun v H' => v = .bool (decide (d ≤ x.2)) ∧ H' = H := by
  refine CallS.forget (R := fun v => v = .bool (decide (d ≤ x.2))) (by rintro v rfl; rfl) ?_
  obtain ⟨lo, hi⟩ := x
  refine CallS.enter' Tryz.func119 rfl Tryz.ntmps119 (by simp) fun f hd hf => ?_
  have f0 := hf 0
  have f1 := hf 1
  simp [spanVal] at f0 f1
  clear hf
  repeat' (first|(with_reducible first|refine zA ?_|refine zB fun K hK=>?_|refine zC fun K2 hK2=>?_|refine zD ?_|refine zE ?_|refine zF ?_|refine zG ?_|refine zH ?_|refine zI ?_|refine zM ?_|refine zN ?_|refine zO ?_|refine zP ?_|refine zQ ?_|refine zR ?_)|((with_reducible refine zU (hK _ _ ?_));clear hK K)|((with_reducible refine zV ?_ ?_ fun K1 K3 d hdst h1 h3=>?_);rfl;exact yB rfl;cases hdst;go_simp)|((with_reducible refine zW fun K1 K3 h1 h3=>?_);go_simp)|((first|refine h1 ?_|refine h3 ?_);clear h1 h3 K1 K3)|((first|refine zX (fun hb=>h1 ?_) (fun hb=>h3 ?_)|refine zX (fun hb=>h3 ?_) (fun hb=>h1 ?_))<;>(clear h1 h3 K1 K3;(try have hb2:=yC hb);(try have hb2:=yD hb);(try have hb2:=yE hb);(try have hb2:=yF hb);(try have hb2:=yG hb)))|(refine fun (K2:_→AHeap→Prop) hK2=>?_)|((with_reducible refine zY ?_ ?_);decide)|((with_reducible first|refine zZ ?_ (fun K hK=>?_)|refine yA ?_ (fun K hK=>?_));(focus go_simp;done);go_simp;refine hK _ _ ?_;clear hK K)|(go_simp;(try go_bits);refine hK2 _ _ ?_;clear hK2 K2))
  exact ⟨rfl, (Ext.refl _).push' _⟩
def findD (l : List (Int × Int)) (d : Int) : Option (Int × Int) := l.find? fun x => decide (d ≤ x.2)
theorem findD_next (l : List (Int × Int)) (d : Int) : nextS l d = match findD l d with | some x => max d x.1 | none => 731 := by
  induction l with
  | nil => rfl
  | cons x t ih =>
    rw [nextS]
    by_cases h : d ≤ x.2
    · simp [findD, h]
    · rw [if_neg h, ih]; simp [findD, h]
theorem find87_e {loops : List (Nat × LInfo)} {H : AHeap} {lv : Value} {l : List (Int × Int)} {q : Nat} {d : Int} (hl : Spans H lv l) (hq : q < H.n) (hg : cellAt H q 0 = some (.int .i64 d)) : CallS Tryz.prog loops 118 [lv, .func (.func 119) #[] #[.pointer (some ⟨q, 0, none⟩)]] H fun v H' => v = .tuple #[spanVal ((findD l d).getD (0, 0)), .bool (findD l d).isSome] ∧ Ext H H' := by
  obtain ⟨hlen, a, c, rfl⟩ := hl.slice
  have HV := Lib.hid hl
  clear hl
  generalize he : findD l d = er
  have HE := Lib.hid he
  clear he
  refine CallS.enter' Tryz.func118 rfl Tryz.ntmps118 (by simp) fun f hd hf => ?_
  have f0 := hf 0
  have f1 := hf 1
  simp at f0 f1
  clear hf
  repeat' (first|(with_reducible first|refine zA ?_|refine zB fun K hK=>?_|refine zC fun K2 hK2=>?_|refine zD ?_|refine zE ?_|refine zF ?_|refine zG ?_|refine zH ?_|refine zI ?_|refine zM ?_|refine zN ?_|refine zO ?_|refine zP ?_|refine zQ ?_|refine zR ?_)|((with_reducible refine zU (hK _ _ ?_));clear hK K)|((with_reducible refine zV ?_ ?_ fun K1 K3 d hdst h1 h3=>?_);rfl;exact yB rfl;cases hdst;go_simp)|((with_reducible refine zW fun K1 K3 h1 h3=>?_);go_simp)|((first|refine h1 ?_|refine h3 ?_);clear h1 h3 K1 K3)|((first|refine zX (fun hb=>h1 ?_) (fun hb=>h3 ?_)|refine zX (fun hb=>h3 ?_) (fun hb=>h1 ?_))<;>(clear h1 h3 K1 K3;(try have hb2:=yC hb);(try have hb2:=yD hb);(try have hb2:=yE hb);(try have hb2:=yF hb);(try have hb2:=yG hb)))|(refine fun (K2:_→AHeap→Prop) hK2=>?_)|((with_reducible refine zY ?_ ?_);decide)|((with_reducible first|refine zZ ?_ (fun K hK=>?_)|refine yA ?_ (fun K hK=>?_));(focus go_simp;done);go_simp;refine hK _ _ ?_;clear hK K)|(go_simp;(try go_bits);refine hK2 _ _ ?_;clear hK2 K2))
  refine CodeS.loop (fun m f H' => ∃ k : Nat, k ≤ l.length ∧ m = l.length - k ∧ f.tmp 11 = .int .i64 k ∧ f.tmp 9 = .slice a l.length c ∧ f.tmp 10 = .int .i64 l.length ∧ f.tmp 1 = .func (.func 119) #[] #[.pointer (some ⟨q, 0, none⟩)] ∧ f.tmp 4 = .pointer (some ⟨H.n, 0, none⟩) ∧ f.defers = [] ∧ H.n < H'.n ∧ H'.get H.n = .row [.int .i64 0, .int .i64 0] 68 ∧ Hid (findD (l.drop k) d = er) ∧ Hid (Ext H H')) l.length ?_ ?_
  · exact ⟨0, by simp, by simp, (by first|go_simp<;>go_num|assumption), (by first|go_simp<;>go_num|assumption), (by first|go_simp<;>go_num|assumption), (by first|go_simp<;>go_num|assumption), (by first|go_simp<;>go_num|assumption), (by first|go_simp<;>go_num|assumption), by rw [AHeap.n_push]; omega, AHeap.get_push_new, Lib.hid (by simpa using HE.out), Lib.hid (Ext.push _)⟩
  clear f0 f1 hd f HE
  rintro m f H' ⟨k, hk, rfl, f11, f9, f10, f1, f4, hd, hn, hg4, HG, HX⟩
  have hq' : q < H'.n := Nat.lt_of_lt_of_le hq HX.out.n
  have hg' : cellAt H' q 0 = some (.int .i64 d) := (HX.out.cellAt hq).trans hg
  have hne : (H'.n = H.n) = False := by simp; omega
  have hne' : (H.n = H'.n) = False := by simp; omega
  by_cases hlt : k < l.length
  · obtain ⟨b, o, sp, rfl, hb, hx⟩ := (HV.out.ext HX.out).cells_at hlt
    have HD := Lib.hid (List.drop_eq_getElem_cons hlt)
    generalize l[k] = y at hx HD
    obtain ⟨lo, hi⟩ := y
    simp only at hx
    repeat' (first|(with_reducible first|refine zA ?_|refine zB fun K hK=>?_|refine zC fun K2 hK2=>?_|refine zD ?_|refine zE ?_|refine zF ?_|refine zG ?_|refine zH ?_|refine zI ?_|refine zM ?_|refine zN ?_|refine zO ?_|refine zP ?_|refine zQ ?_|refine zR ?_)|((with_reducible refine zU (hK _ _ ?_));clear hK K)|((with_reducible refine zV ?_ ?_ fun K1 K3 d hdst h1 h3=>?_);rfl;exact yB rfl;cases hdst;go_simp)|((with_reducible refine zW fun K1 K3 h1 h3=>?_);go_simp)|((first|refine h1 ?_|refine h3 ?_);clear h1 h3 K1 K3)|((first|refine zX (fun hb=>h1 ?_) (fun hb=>h3 ?_)|refine zX (fun hb=>h3 ?_) (fun hb=>h1 ?_))<;>(clear h1 h3 K1 K3;(try have hb2:=yC hb);(try have hb2:=yD hb);(try have hb2:=yE hb);(try have hb2:=yF hb);(try have hb2:=yG hb)))|(refine fun (K2:_→AHeap→Prop) hK2=>?_)|((with_reducible refine zY ?_ ?_);decide)|((with_reducible first|refine zZ ?_ (fun K hK=>?_)|refine yA ?_ (fun K hK=>?_));(focus go_simp;done);go_simp;refine hK _ _ ?_;clear hK K)|(go_simp;(try go_bits);(try first | ((with_reducible show CallS _ _ _ _ _ _);refine CallS.mono (until87_s (x := (lo, hi)) (d := d) (by rw [AHeap.n_push]; omega) (by rw [cellAt_old hq']; exact hg')) ?_; rintro _ _ ⟨rfl, rfl⟩));refine hK2 _ _ ?_;clear hK2 K2))
    · have hh : d ≤ hi := by simpa using hb
      have hr : er = some (lo, hi) := by
        rw [← HG.out, HD.out, findD, List.find?_cons]; simp [hh]
      rw [hr]
      exact ⟨rfl, (HX.out.upd (Nat.le_refl _) _).push' _⟩
    · have hh : ¬ d ≤ hi := by simpa using hb
      refine Post.round_normal ⟨l.length - (k + 1), by omega, k + 1, by omega, rfl, (by first|go_simp<;>go_num|assumption), (by first|go_simp<;>go_num|assumption), (by first|go_simp<;>go_num|assumption), (by first|go_simp<;>go_num|assumption), (by first|go_simp<;>go_num|assumption), (by first|go_simp<;>go_num|assumption), ?_, ?_, Lib.hid ?_, Lib.hid (HX.out.push' _)⟩
      · rw [AHeap.n_push]; omega
      · rw [AHeap.get_push_old hn]; exact hg4
      · rw [← HG.out, HD.out, findD, findD, List.find?_cons]; simp [hh]
  · repeat' (first|(with_reducible first|refine zA ?_|refine zB fun K hK=>?_|refine zC fun K2 hK2=>?_|refine zD ?_|refine zE ?_|refine zF ?_|refine zG ?_|refine zH ?_|refine zI ?_|refine zM ?_|refine zN ?_|refine zO ?_|refine zP ?_|refine zQ ?_|refine zR ?_)|((with_reducible refine zU (hK _ _ ?_));clear hK K)|((with_reducible refine zV ?_ ?_ fun K1 K3 d hdst h1 h3=>?_);rfl;exact yB rfl;cases hdst;go_simp)|((with_reducible refine zW fun K1 K3 h1 h3=>?_);go_simp)|((first|refine h1 ?_|refine h3 ?_);clear h1 h3 K1 K3)|((first|refine zX (fun hb=>h1 ?_) (fun hb=>h3 ?_)|refine zX (fun hb=>h3 ?_) (fun hb=>h1 ?_))<;>(clear h1 h3 K1 K3;(try have hb2:=yC hb);(try have hb2:=yD hb);(try have hb2:=yE hb);(try have hb2:=yF hb);(try have hb2:=yG hb)))|(refine fun (K2:_→AHeap→Prop) hK2=>?_)|((with_reducible refine zY ?_ ?_);decide)|((with_reducible first|refine zZ ?_ (fun K hK=>?_)|refine yA ?_ (fun K hK=>?_));(focus go_simp;done);go_simp;refine hK _ _ ?_;clear hK K)|(go_simp;(try go_bits);refine hK2 _ _ ?_;clear hK2 K2))
    have hr : er = none := by rw [← HG.out, List.drop_eq_nil_of_le (by omega)]; rfl
    rw [hr]
    exact ⟨rfl, (HX.out.upd (Nat.le_refl _) _).push' _⟩

def Rows (H : AHeap) (v : Value) (L : List (List (Int × Int))) : Prop := ∃ vs, Cells H v 1 L.length vs ∧ ∀ (i : Nat) (h : i < L.length), ∃ u, vs[i]? = some u ∧ Spans H u L[i]
theorem Rows.ext {H H' : AHeap} {v : Value} {L : List (List (Int × Int))} (h : Rows H v L) (hx : Ext H H') : Rows H' v L := by
  obtain ⟨vs, h1, h2⟩ := h
  exact ⟨vs, h1.ext hx, fun i hi => by obtain ⟨u, h3, h4⟩ := h2 i hi; exact ⟨u, h3, h4.ext hx⟩⟩
theorem Rows.slice {H : AHeap} {v : Value} {L : List (List (Int × Int))} (h : Rows H v L) : L.length ≤ 9223372036854775807 ∧ ∃ a c, v = .slice a L.length c := by
  obtain ⟨vs, ⟨h1, h2, a', c', h3, h4⟩, h5⟩ := h
  exact ⟨h2, a', c', h3⟩
theorem Rows.at_ {H : AHeap} {a : Option Addr} {n c : Nat} {L : List (List (Int × Int))} (h : Rows H (.slice a n c) L) {k : Nat} (hk : k < L.length) : ∃ b o sp u, a = some ⟨b, o, sp⟩ ∧ b < H.n ∧ cellAt H b (o + k) = some u ∧ Spans H u L[k] := by
  obtain ⟨vs, ⟨h1, h2, a', c', h3, h4⟩, h5⟩ := h
  cases h3
  obtain ⟨b, o, sp, h5', h6, h7⟩ := h4 (by omega)
  obtain ⟨u, h8, h9⟩ := h5 k hk
  exact ⟨b, o, sp, u, h5', h6, h7 k u h8, h9⟩
structure Course where
  open_ : List (List (Int × Int))
  per : Int
def CourseV (H : AHeap) (v : Value) (x : Course) : Prop := ∃ ov, v = .agg #[ov, .int .i64 x.per] ∧ Rows H ov x.open_
theorem CourseV.ext {H H' : AHeap} {v : Value} {x : Course} (h : CourseV H v x) (hx : Ext H H') : CourseV H' v x := by
  obtain ⟨w, h1, h2⟩ := h
  exact ⟨w, h1, h2.ext hx⟩
def Course.at_ (x : Course) (i : Nat) : List (Int × Int) := x.open_.getD i []

theorem next_s {loops : List (Nat × LInfo)} {H : AHeap} {v : Value} {x : Course} {k : Nat} {d : Int} (hv : CourseV H v x) (hk : k < x.open_.length) : CallS Tryz.prog loops 96 [v, .int .i64 k, .int .i64 d] H fun r H' => r = .int .i64 (nextS (x.at_ k) d) ∧ H' = H := by
  refine CallS.forget (R := fun v => v = .int .i64 (nextS (x.at_ k) d)) (by rintro v rfl; rfl) ?_
  obtain ⟨ov, rfl, ho⟩ := hv
  obtain ⟨hol, oa, oc, rfl⟩ := ho.slice
  obtain ⟨b, o, sp, u, rfl, hb, hc, hu⟩ := ho.at_ hk
  have HU := Lib.hid hu
  have hat : x.at_ k = x.open_[k] := by simp [Course.at_, hk]
  rw [hat, findD_next]
  generalize x.open_[k] = l at HU
  clear hu ho hat
  obtain ⟨hll, la, lc, rfl⟩ := HU.out.slice
  generalize hfd : findD l d = fd
  have HFD := Lib.hid hfd
  clear hfd
  refine CallS.enter' Tryz.func96 rfl Tryz.ntmps96 (by simp) fun f hd hf => ?_
  have f0 := hf 0
  have f1 := hf 1
  have f2 := hf 2
  simp at f0 f1 f2
  clear hf
  rcases fd with _ | ⟨lo, hi⟩
  · repeat' (first|(with_reducible first|refine zA ?_|refine zB fun K hK=>?_|refine zC fun K2 hK2=>?_|refine zD ?_|refine zE ?_|refine zF ?_|refine zG ?_|refine zH ?_|refine zI ?_|refine zM ?_|refine zN ?_|refine zO ?_|refine zP ?_|refine zQ ?_|refine zR ?_)|((with_reducible refine zU (hK _ _ ?_));clear hK K)|((with_reducible refine zV ?_ ?_ fun K1 K3 d hdst h1 h3=>?_);rfl;exact yB rfl;cases hdst;go_simp)|((with_reducible refine zW fun K1 K3 h1 h3=>?_);go_simp)|((first|refine h1 ?_|refine h3 ?_);clear h1 h3 K1 K3)|((first|refine zX (fun hb=>h1 ?_) (fun hb=>h3 ?_)|refine zX (fun hb=>h3 ?_) (fun hb=>h1 ?_))<;>(clear h1 h3 K1 K3;(try have hb2:=yC hb);(try have hb2:=yD hb);(try have hb2:=yE hb);(try have hb2:=yF hb);(try have hb2:=yG hb)))|(refine fun (K2:_→AHeap→Prop) hK2=>?_)|((with_reducible refine zY ?_ ?_);decide)|((with_reducible first|refine zZ ?_ (fun K hK=>?_)|refine yA ?_ (fun K hK=>?_));(focus go_simp;done);go_simp;refine hK _ _ ?_;clear hK K)|(go_simp;(try go_bits);(try first | ((with_reducible show CallS _ _ _ _ _ _);refine CallS.mono (find87_e (d := d) (HU.out.ext (((Ext.refl _).push' _).push' _)) (by simp only [AHeap.n_push]; omega) (by go_simp)) ?_; rintro _ H2 ⟨rfl, hx⟩; rw [HFD.out]; (have HX := Lib.hid hx); clear hx; go_simp));refine hK2 _ _ ?_;clear hK2 K2))
    exact ⟨rfl, (((Ext.refl _).push' _).push' _).trans (HX.out.push' _)⟩
  · repeat' (first|(with_reducible first|refine zA ?_|refine zB fun K hK=>?_|refine zC fun K2 hK2=>?_|refine zD ?_|refine zE ?_|refine zF ?_|refine zG ?_|refine zH ?_|refine zI ?_|refine zM ?_|refine zN ?_|refine zO ?_|refine zP ?_|refine zQ ?_|refine zR ?_)|((with_reducible refine zU (hK _ _ ?_));clear hK K)|((with_reducible refine zV ?_ ?_ fun K1 K3 d hdst h1 h3=>?_);rfl;exact yB rfl;cases hdst;go_simp)|((with_reducible refine zW fun K1 K3 h1 h3=>?_);go_simp)|((first|refine h1 ?_|refine h3 ?_);clear h1 h3 K1 K3)|((first|refine zX (fun hb=>h1 ?_) (fun hb=>h3 ?_)|refine zX (fun hb=>h3 ?_) (fun hb=>h1 ?_))<;>(clear h1 h3 K1 K3;(try have hb2:=yC hb);(try have hb2:=yD hb);(try have hb2:=yE hb);(try have hb2:=yF hb);(try have hb2:=yG hb)))|(refine fun (K2:_→AHeap→Prop) hK2=>?_)|((with_reducible refine zY ?_ ?_);decide)|((with_reducible first|refine zZ ?_ (fun K hK=>?_)|refine yA ?_ (fun K hK=>?_));(focus go_simp;done);go_simp;refine hK _ _ ?_;clear hK K)|(go_simp;(try go_bits);(try first | ((with_reducible show CallS _ _ _ _ _ _);refine CallS.mono (find87_e (d := d) (HU.out.ext (((Ext.refl _).push' _).push' _)) (by simp only [AHeap.n_push]; omega) (by go_simp)) ?_; rintro _ H2 ⟨rfl, hx⟩; rw [HFD.out]; (have HX := Lib.hid hx); (have hcd : cellAt H2 (H.n + 1) 0 = some (.int .i64 d) := (hx.cellAt (by simp only [AHeap.n_push]; omega)).trans (by go_simp)); (have hnd : H.n + 1 < H2.n := by have := hx.n; simp only [AHeap.n_push] at this; omega); clear hx; go_simp));refine hK2 _ _ ?_;clear hK2 K2))
    exact ⟨rfl, (((Ext.refl _).push' _).push' _).trans (HX.out.push' _)⟩
end Go.Proofs.Tryz
namespace Go.Proofs.Tryz
open Go Go.Am Go.RowKit Go.Co
set_option maxRecDepth 100000


theorem lowest_s {loops : List (Nat × LInfo)} {H : AHeap} {v dv : Value} {x : Course} {k p : Nat} {days : List Int} (hv : CourseV H v x) (hd : Ints H dv days) (hk : k ≤ days.length) (hp : x.per = p) (hp1 : 1 ≤ p) (hb : ∀ j, j < k → -1 ≤ days.getD j 0 ∧ days.getD j 0 ≤ 731) : CallS Tryz.prog loops 45 [v, .int .i64 k, dv] H fun r H' => r = .int .i64 (lowL p days k) ∧ H' = H := by
  refine CallS.forget (R := fun v => v = .int .i64 (lowL p days k)) (by rintro v rfl; rfl) ?_
  obtain ⟨ov, rfl, ho⟩ := hv
  obtain ⟨hol, oa, oc, rfl⟩ := ho.slice
  clear ho
  rw [hp]
  clear hp
  obtain ⟨hdl, da, dc, rfl⟩ := hd.slice
  have HD := Lib.hid hd
  have HB := Lib.hid hb
  clear hd hb
  generalize hr : lowL p days k = r
  have HR := Lib.hid hr
  clear hr
  refine CallS.enter' Tryz.func45 rfl Tryz.ntmps45 (by simp) fun f hd hf => ?_
  have f0 := hf 0
  have f1 := hf 1
  have f2 := hf 2
  simp at f0 f1 f2
  clear hf
  rcases Nat.eq_zero_or_pos k with rfl | hk0
  · have h1 : ¬ ((1 : Int) ≤ (0 : Nat)) := by omega
    have h2 : ¬ ((p : Int) ≤ (0 : Nat)) := by omega
    have h3 : ¬ ((p : Int) ≤ 0) := by omega
    have h4 : ¬ (p = 0) := by omega
    have h5 : ¬ (p ≤ 0) := by omega
    repeat' (first|(with_reducible first|refine zA ?_|refine zB fun K hK=>?_|refine zC fun K2 hK2=>?_|refine zD ?_|refine zE ?_|refine zF ?_|refine zG ?_|refine zH ?_|refine zI ?_|refine zM ?_|refine zN ?_|refine zO ?_|refine zP ?_|refine zQ ?_|refine zR ?_)|((with_reducible refine zU (hK _ _ ?_));clear hK K)|((with_reducible refine zV ?_ ?_ fun K1 K3 d hdst h1 h3=>?_);rfl;exact yB rfl;cases hdst;go_simp)|((with_reducible refine zW fun K1 K3 h1 h3=>?_);go_simp)|((first|refine h1 ?_|refine h3 ?_);clear h1 h3 K1 K3)|((first|refine zX (fun hb=>h1 ?_) (fun hb=>h3 ?_)|refine zX (fun hb=>h3 ?_) (fun hb=>h1 ?_))<;>(clear h1 h3 K1 K3;(try have hb2:=yC hb);(try have hb2:=yD hb);(try have hb2:=yE hb);(try have hb2:=yF hb);(try have hb2:=yG hb)))|(refine fun (K2:_→AHeap→Prop) hK2=>?_)|((with_reducible refine zY ?_ ?_);decide)|((with_reducible first|refine zZ ?_ (fun K hK=>?_)|refine yA ?_ (fun K hK=>?_));(focus go_simp;done);go_simp;refine hK _ _ ?_;clear hK K)|(go_simp;(try go_bits);refine hK2 _ _ ?_;clear hK2 K2))
    refine ⟨?_, Ext.push _⟩
    rw [← HR.out]
    simp [lowL, show ¬ p ≤ 0 by omega]
  · obtain ⟨b, o, sp, rfl, hb, hc⟩ := HD.out.at_ (k := k - 1) (by omega)
    have hg1 : Hid (days.getD (k - 1) 0 = days[k - 1]) := Lib.hid (by simp [List.getD_eq_getElem?_getD, show k - 1 < days.length by omega])
    have hbd := HB.out (k - 1) (by omega)
    rw [hg1.out] at hbd
    generalize days[k - 1] = y at hc hg1 hbd
    have h0i : (0 : Int) ≤ (k : Int) - 1 := by omega
    have h1i : (k : Int) - 1 < (days.length : Int) := by omega
    have h2i : (1 : Int) ≤ (k : Int) := by omega
    have h3i : 1 ≤ k := by omega
    by_cases hpk : p ≤ k
    · obtain ⟨b2, o2, sp2, he2, hb2, hc2⟩ := HD.out.at_ (k := k - p) (by omega)
      cases he2
      have hg2 : Hid (days.getD (k - p) 0 = days[k - p]) := Lib.hid (by simp [List.getD_eq_getElem?_getD, show k - p < days.length by omega])
      have hbd2 := HB.out (k - p) (by omega)
      rw [hg2.out] at hbd2
      generalize days[k - p] = y2 at hc2 hg2 hbd2
      obtain ⟨hy1, hy2⟩ := hbd2
      have j0 : (0 : Int) ≤ (k : Int) - p := by omega
      have j1 : (k : Int) - p < (days.length : Int) := by omega
      have j2 : (p : Int) ≤ (k : Int) := by omega
      have j3 : ((k : Int) - (p : Int)).toNat = k - p := by omega
      repeat' (first|(with_reducible first|refine zA ?_|refine zB fun K hK=>?_|refine zC fun K2 hK2=>?_|refine zD ?_|refine zE ?_|refine zF ?_|refine zG ?_|refine zH ?_|refine zI ?_|refine zM ?_|refine zN ?_|refine zO ?_|refine zP ?_|refine zQ ?_|refine zR ?_)|((with_reducible refine zU (hK _ _ ?_));clear hK K)|((with_reducible refine zV ?_ ?_ fun K1 K3 d hdst h1 h3=>?_);rfl;exact yB rfl;cases hdst;go_simp)|((with_reducible refine zW fun K1 K3 h1 h3=>?_);go_simp)|((first|refine h1 ?_|refine h3 ?_);clear h1 h3 K1 K3)|((first|refine zX (fun hb=>h1 ?_) (fun hb=>h3 ?_)|refine zX (fun hb=>h3 ?_) (fun hb=>h1 ?_))<;>(clear h1 h3 K1 K3;(try have hb2:=yC hb);(try have hb2:=yD hb);(try have hb2:=yE hb);(try have hb2:=yF hb);(try have hb2:=yG hb)))|(refine fun (K2:_→AHeap→Prop) hK2=>?_)|((with_reducible refine zY ?_ ?_);decide)|((with_reducible first|refine zZ ?_ (fun K hK=>?_)|refine yA ?_ (fun K hK=>?_));(focus go_simp;done);go_simp;refine hK _ _ ?_;clear hK K)|(go_simp;(try go_bits);refine hK2 _ _ ?_;clear hK2 K2))
      refine ⟨?_, Ext.push _⟩
      rw [← HR.out]
      simp only [lowL, if_pos hpk, if_pos h3i, hg1.out, hg2.out]
    · have j2 : ¬ ((p : Int) ≤ (k : Int)) := by omega
      repeat' (first|(with_reducible first|refine zA ?_|refine zB fun K hK=>?_|refine zC fun K2 hK2=>?_|refine zD ?_|refine zE ?_|refine zF ?_|refine zG ?_|refine zH ?_|refine zI ?_|refine zM ?_|refine zN ?_|refine zO ?_|refine zP ?_|refine zQ ?_|refine zR ?_)|((with_reducible refine zU (hK _ _ ?_));clear hK K)|((with_reducible refine zV ?_ ?_ fun K1 K3 d hdst h1 h3=>?_);rfl;exact yB rfl;cases hdst;go_simp)|((with_reducible refine zW fun K1 K3 h1 h3=>?_);go_simp)|((first|refine h1 ?_|refine h3 ?_);clear h1 h3 K1 K3)|((first|refine zX (fun hb=>h1 ?_) (fun hb=>h3 ?_)|refine zX (fun hb=>h3 ?_) (fun hb=>h1 ?_))<;>(clear h1 h3 K1 K3;(try have hb2:=yC hb);(try have hb2:=yD hb);(try have hb2:=yE hb);(try have hb2:=yF hb);(try have hb2:=yG hb)))|(refine fun (K2:_→AHeap→Prop) hK2=>?_)|((with_reducible refine zY ?_ ?_);decide)|((with_reducible first|refine zZ ?_ (fun K hK=>?_)|refine yA ?_ (fun K hK=>?_));(focus go_simp;done);go_simp;refine hK _ _ ?_;clear hK K)|(go_simp;(try go_bits);refine hK2 _ _ ?_;clear hK2 K2))
      refine ⟨?_, Ext.push _⟩
      rw [← HR.out]
      simp only [lowL, if_neg hpk, if_pos h3i, hg1.out]
end Go.Proofs.Tryz
namespace Go.Proofs.Tryz
open Go Go.Am Go.RowKit Go.Co
set_option maxRecDepth 100000

def Course.nx (x : Course) (i : Nat) (f : Int) : Int := nextS (x.at_ i) f
def Course.ord (x : Course) : Prop := ∀ i, ordS 0 (x.at_ i)
theorem Course.nx_ok {x : Course} (h : x.ord) (i : Nat) (f : Int) : NextOk (ins (x.at_ i)) f (x.nx i f) := nextS_ok _ (h i) f
theorem Course.nx_in {x : Course} (h : x.ord) {i : Nat} {f : Int} (hn : x.nx i f ≠ 731) : 0 ≤ x.nx i f ∧ x.nx i f ≤ 730 := by
  rcases x.nx_ok h i f with ⟨h1, _⟩ | ⟨_, _, h3, _⟩
  · exact absurd h1 hn
  · exact ordS_ins _ (h i) _ h3
def Course.early (x : Course) (p : Nat) (frm : Int) : List Int := Co.early x.nx p frm x.open_.length []

theorem earliest_e {loops : List (Nat × LInfo)} {H : AHeap} {v : Value} {x : Course} {p : Nat} {frm : Int} (hv : CourseV H v x) (ho : x.ord) (hp : x.per = p) (hp1 : 1 ≤ p) (hn : x.open_.length ≤ 1000) : CallS Tryz.prog loops 54 [v, .int .i64 frm] H fun r H' => Own H' H.n r 3 1 ((x.early p frm).map (Value.int .i64)) ∧ Ext H H' := by
  have HV := Lib.hid hv
  obtain ⟨ov, rfl, hov⟩ := hv
  obtain ⟨hol, oa, oc, rfl⟩ := hov.slice
  have HP := Lib.hid hp
  have HOR := Lib.hid ho
  generalize hr : x.early p frm = res
  have HE : Hid (Co.early x.nx p frm x.open_.length [] = res) := Lib.hid hr
  clear hov hr hp ho
  refine CallS.enter' Tryz.func54 rfl Tryz.ntmps54 (by simp) fun f hd hf => ?_
  have f0 := hf 0
  have f1 := hf 1
  simp at f0 f1
  clear hf
  generalize hper : x.per = per at f0 HV
  have HPER := Lib.hid hper
  clear hper
  repeat' (first|(with_reducible first|refine zA ?_|refine zB fun K hK=>?_|refine zC fun K2 hK2=>?_|refine zD ?_|refine zE ?_|refine zF ?_|refine zG ?_|refine zH ?_|refine zI ?_|refine zM ?_|refine zN ?_|refine zO ?_|refine zP ?_|refine zQ ?_|refine zR ?_)|((with_reducible refine zU (hK _ _ ?_));clear hK K)|((with_reducible refine zV ?_ ?_ fun K1 K3 d hdst h1 h3=>?_);rfl;exact yB rfl;cases hdst;go_simp)|((with_reducible refine zW fun K1 K3 h1 h3=>?_);go_simp)|((first|refine h1 ?_|refine h3 ?_);clear h1 h3 K1 K3)|((first|refine zX (fun hb=>h1 ?_) (fun hb=>h3 ?_)|refine zX (fun hb=>h3 ?_) (fun hb=>h1 ?_))<;>(clear h1 h3 K1 K3;(try have hb2:=yC hb);(try have hb2:=yD hb);(try have hb2:=yE hb);(try have hb2:=yF hb);(try have hb2:=yG hb)))|(refine fun (K2:_→AHeap→Prop) hK2=>?_)|((with_reducible refine zY ?_ ?_);decide)|((with_reducible first|refine zZ ?_ (fun K hK=>?_)|refine yA ?_ (fun K hK=>?_));(focus go_simp;done);go_simp;refine hK _ _ ?_;clear hK K)|(go_simp;(try go_bits);refine hK2 _ _ ?_;clear hK2 K2))
  refine CodeS.loop (fun m f H' => ∃ (k : Nat) (v : Value) (acc : List Int), k ≤ x.open_.length ∧ acc.length = k ∧ m = x.open_.length - k ∧ f.tmp 11 = .int .i64 k ∧ f.tmp 10 = .int .i64 x.open_.length ∧ f.tmp 1 = .int .i64 frm ∧ f.tmp 2 = .pointer (some ⟨H.n, 0, none⟩) ∧ f.tmp 5 = v ∧ f.defers = [] ∧ Hid (Co.early x.nx p frm (x.open_.length - k) acc = res) ∧ Hid (∀ y, y ∈ acc → -1 ≤ y ∧ y ≤ 731) ∧ H.n < H'.n ∧ Ext H H' ∧ H'.get H.n = .row [Value.slice oa x.open_.length oc, .int .i64 per] 79 ∧ Own H' (H.n + 1) v 3 1 (acc.map (Value.int .i64))) x.open_.length ?_ ?_
  · refine ⟨0, .slice none 0 0, [], by simp, rfl, by simp, (by first|go_simp<;>go_num|assumption), (by first|go_simp<;>go_num|assumption), (by first|go_simp<;>go_num|assumption), (by first|go_simp<;>go_num|assumption), (by first|go_simp<;>go_num|assumption), (by first|go_simp<;>go_num|assumption), HE, Lib.hid (by simp), by rw [AHeap.n_push]; omega, Ext.push _, AHeap.get_push_new, Own.nil⟩
  clear f0 f1 hd f HE
  rintro m f H' ⟨k, v, acc, hk, hak, rfl, f11, f10, f1, f2, f5, hd, HG, HB, hn0, hx, hg0, ho⟩
  have hc2 : cellsAt H' H.n 0 2 = some [Value.slice oa x.open_.length oc, .int .i64 per] := by simp [cellsAt, hg0]
  have HX := Lib.hid hx
  have HO := Lib.hid ho
  have HG0 := Lib.hid hg0
  have HAK := Lib.hid hak
  clear hx ho hg0 hak
  by_cases hlt : k < x.open_.length
  · have hal : acc.length ≤ 1000 := by have := HAK.out; omega
    have HI : Hid (Ints H' v acc) := Lib.hid (ints_of_own HO.out (by omega))
    obtain ⟨-, va, vc, rfl⟩ := HI.out.slice
    have HLW := Lib.hid (fun (loops : List (Nat × LInfo)) => lowest_s (loops := loops) (k := k) (HV.out.ext HX.out) HI.out (by have := HAK.out; omega) HP.out hp1 (fun j hj => by have hjl : j < acc.length := (by have := HAK.out; omega); rw [List.getD_eq_getElem?_getD, List.getElem?_eq_getElem hjl]; exact HB.out _ (List.getElem_mem hjl)))
    have HNX := Lib.hid (fun (loops : List (Nat × LInfo)) (d : Int) => next_s (loops := loops) (d := d) (HV.out.ext HX.out) hlt)
    have HST : Hid (Co.early x.nx p frm (x.open_.length - k) acc = if x.nx k (max frm (lowL p acc k)) = 731 then acc else Co.early x.nx p frm (x.open_.length - (k + 1)) (acc ++ [x.nx k (max frm (lowL p acc k))])) := Lib.hid (by
      have := HAK.out
      rw [show x.open_.length - k = (x.open_.length - (k + 1)) + 1 by omega, Co.early, this])
    have HNI := Lib.hid (@Course.nx_in x HOR.out k (max frm (lowL p acc k)))
    have hbig : ((acc.map (Value.int .i64)).length + 1) * max 8 1 ≤ 1073741824 := by simp; omega
    have HBIG := Lib.hid hbig
    clear hbig
    generalize lowL p acc k = lw at HLW HST HNI
    generalize hdd : x.nx k (max frm lw) = d at HST HNI
    have HDD : Hid (nextS (x.at_ k) (max frm lw) = d) := Lib.hid hdd
    clear hdd
    repeat' (first|(with_reducible first|refine zA ?_|refine zB fun K hK=>?_|refine zC fun K2 hK2=>?_|refine zD ?_|refine zE ?_|refine zF ?_|refine zG ?_|refine zH ?_|refine zI ?_|refine zM ?_|refine zN ?_|refine zO ?_|refine zP ?_|refine zQ ?_|refine zR ?_)|((with_reducible refine zU (hK _ _ ?_));clear hK K)|((with_reducible refine zV ?_ ?_ fun K1 K3 d hdst h1 h3=>?_);rfl;exact yB rfl;cases hdst;go_simp)|((with_reducible refine zW fun K1 K3 h1 h3=>?_);go_simp)|((first|refine h1 ?_|refine h3 ?_);clear h1 h3 K1 K3)|((first|refine zX (fun hb=>h1 ?_) (fun hb=>h3 ?_)|refine zX (fun hb=>h3 ?_) (fun hb=>h1 ?_))<;>(clear h1 h3 K1 K3;(try have hb2:=yC hb);(try have hb2:=yD hb);(try have hb2:=yE hb);(try have hb2:=yF hb);(try have hb2:=yG hb)))|(refine fun (K2:_→AHeap→Prop) hK2=>?_)|((with_reducible refine zY ?_ ?_);decide)|((with_reducible first|refine zZ ?_ (fun K hK=>?_)|refine yA ?_ (fun K hK=>?_));(focus go_simp;done);go_simp;refine hK _ _ ?_;clear hK K)|((with_reducible refine yH mixed rfl ?_ 20 fun K0 hK0=>?_);kernel_rfl)|(with_reducible first|exact yI|exact yJ|refine yK ?_|refine yL ?_|refine yM ?_)|((with_reducible first|refine yN ?_ ?_|refine yO ?_ ?_|refine yP ?_ ?_);rfl)|((with_reducible refine yQ ?_ ?_);rfl;refine hK0 _ _ ?_;clear hK0 K0)|((with_reducible refine yR ?_ ?_ ?_ ?_);rfl;rfl;rfl)|((with_reducible refine yS ?_ ?_ ?_ fun K2 hK2=>?_);rfl;rfl;exact yB rfl)|((with_reducible refine yT ?_ ?_ ?_ ?_ fun K1 K3 d hdst h1 h3=>?_);rfl;rfl;rfl;exact yB rfl;cases hdst;go_simp)|((with_reducible refine yU ?_ ?_ ?_ ?_ fun K1 K3 d hdst h1 h3=>?_);rfl;rfl;rfl;exact yB rfl;cases hdst;go_simp)|((with_reducible refine yV ?_ ?_ (fun K2 hK2=>?_) ?_);rfl;exact yB rfl)|((with_reducible refine yW ?_ ?_ ?_ ?_ (fun K2 hK2=>?_) ?_);rfl;exact yB rfl;rfl;(focus go_simp;done))|((with_reducible refine yX ?_ ?_ ?_ (fun K2 hK2=>?_) ?_);rfl;rfl;exact yB rfl)|((with_reducible refine yY ?_ ?_ (fun K2 hK2=>?_) ?_);rfl;rfl)|((with_reducible refine yZ ?_ ?_);(first|rfl|(dsimp only;decide +kernel)))|((with_reducible refine xA ?_ ?_);(focus go_simp;done))|(go_simp;(try go_bits);(try first |((with_reducible show CallS _ _ _ _ _ _);first|(refine CallS.mono (HLW.out _) ?_; rintro _ _ ⟨rfl, rfl⟩)|(refine CallS.mono (HNX.out _ (max frm lw)) ?_; rintro _ _ ⟨rfl, rfl⟩; rw [HDD.out]))|((refine one_k el22 sz3 ze3 rfl (by decide) (by decide) rfl rfl ?_); go_simp)|((refine append_k2 el22 sz3 by3 ze3 rfl (by decide) (HO.out.ext (Ext.push _)) (srcCells_new rfl) (by decide) rfl (by simp [List.all_append, oneV_list_int, oneV]) HBIG.out (by simp only [AHeap.n_push]; omega) fun v2 H4 ho4 hg4 => ?_); (have HO4 := Lib.hid ho4); (have HG4 := Lib.hid hg4); clear ho4 hg4; go_simp));(first|(refine hK2 _ _ ?_ ?_<;>clear hK2 K2)|(refine hK2 _ _ ?_;clear hK2 K2))))
    · refine ⟨?_, HX.out⟩
      have h9 : d = 731 := by simpa using hb
      have hr : acc = res := by rw [← HG.out, HST.out, if_pos h9]
      rw [← hr]
      exact HO.out.mono (by omega)
    · have h9 : ¬ d = 731 := by simpa using hb
      have hx4 : Ext H H4 := HG4.out.ext (HO.out.ext (Ext.push _)) (by omega) (HX.out.push' _)
      refine Post.round_normal ⟨x.open_.length - (k + 1), by omega, k + 1, v2, acc ++ [d], by omega, by have := HAK.out; simp; omega, rfl, (by first|go_simp<;>go_num|assumption), (by first|go_simp<;>go_num|assumption), (by first|go_simp<;>go_num|assumption), (by first|go_simp<;>go_num|assumption), (by first|go_simp<;>go_num|assumption), (by first|go_simp<;>go_num|assumption), Lib.hid (by rw [← HG.out, HST.out, if_neg h9]), Lib.hid ?_, ?_, hx4, ?_, ?_⟩
      · intro y hy
        rcases List.mem_append.1 hy with h | h
        · exact HB.out y h
        · rw [List.mem_singleton.1 h]; have := HNI.out h9; omega
      · have := HG4.out.1; simp only [AHeap.n_push] at this; omega
      · rw [HG4.out.2 _ (by simp only [AHeap.n_push]; omega) (fun b n hv hn => by have := (own_block HO.out hv hn).1; omega), AHeap.get_push_old hn0]; exact HG0.out
      · rw [List.map_append]; exact HO4.out.mono (by simp only [AHeap.n_push]; omega)
  · repeat' (first|(with_reducible first|refine zA ?_|refine zB fun K hK=>?_|refine zC fun K2 hK2=>?_|refine zD ?_|refine zE ?_|refine zF ?_|refine zG ?_|refine zH ?_|refine zI ?_|refine zM ?_|refine zN ?_|refine zO ?_|refine zP ?_|refine zQ ?_|refine zR ?_)|((with_reducible refine zU (hK _ _ ?_));clear hK K)|((with_reducible refine zV ?_ ?_ fun K1 K3 d hdst h1 h3=>?_);rfl;exact yB rfl;cases hdst;go_simp)|((with_reducible refine zW fun K1 K3 h1 h3=>?_);go_simp)|((first|refine h1 ?_|refine h3 ?_);clear h1 h3 K1 K3)|((first|refine zX (fun hb=>h1 ?_) (fun hb=>h3 ?_)|refine zX (fun hb=>h3 ?_) (fun hb=>h1 ?_))<;>(clear h1 h3 K1 K3;(try have hb2:=yC hb);(try have hb2:=yD hb);(try have hb2:=yE hb);(try have hb2:=yF hb);(try have hb2:=yG hb)))|(refine fun (K2:_→AHeap→Prop) hK2=>?_)|((with_reducible refine zY ?_ ?_);decide)|((with_reducible first|refine zZ ?_ (fun K hK=>?_)|refine yA ?_ (fun K hK=>?_));(focus go_simp;done);go_simp;refine hK _ _ ?_;clear hK K)|(go_simp;(try go_bits);refine hK2 _ _ ?_;clear hK2 K2))
    refine ⟨?_, HX.out⟩
    have hr : acc = res := by rw [← HG.out, show x.open_.length - k = 0 by omega]; rfl
    rw [← hr]
    exact HO.out.mono (by omega)
end Go.Proofs.Tryz
