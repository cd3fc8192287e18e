/- Plain values, canonical heaps, structs, arrays, closures that give values one by one, appends. -/
import Derived.Test.YtokhhoihalpaoaaGreatDoorAwA
import Derived.Test.YtokhhoihalpaoaaGreatDoorAmD
set_option linter.all false
namespace Go.Am
open Go.RowKit

section
variable {P : Program} {H : AHeap} {cx : Cx} {f : AF} {k : AF → AHeap → Prop} {β : Type} {kk : K β} {other : Unit → Option β}
variable {dst : Option Tmp} {ty : TypeId} {src : String} {af : Array Edge} {g : Option (Nat × Bool)}


theorem pureOf_bind {α γ : Type} : ∀ (s : Sem α) (h : α → Sem γ), pureOf P (s >>= h) = (pureOf P s).bind fun a => pureOf P (h a) := by
  intro s h
  induction s with
  | pure a => rfl
  | program c ih => exact ih P
  | _ => rfl

def notV {β : Type} (v : Value) (H : AHeap) (kk : K β) : Option β := match v with
  | .bool b => kk (.bool !b) H
  | _ => none
@[go_sem] theorem notV_bool {b : Bool} : notV (.bool b) H kk = kk (.bool !b) H := rfl

def plainR {β : Type} (r : Option Next) (H : AHeap) (kk : K β) : Option β := match r with
  | some (.value v) => if plainV 6 v = true then kk v H else none
  | _ => none

theorem plain_of {o : Oper} {ev : Operand → Value} (h0 : okPlain o.op = true) : aPlain P o ev H kk = if o.op.operands.toList.all (fun x => plainV 6 (ev x)) = true then plainR (pureOf P (execOp ev o)) H kk else none := by
  unfold aPlain plainR
  rw [h0, Bool.true_and]
  split
  · split
    · rename_i v hv; rw [hv]; simp [forceV_spec]
    · rename_i hv
      split
      · rename_i v hv2; exact absurd hv2 (hv v)
      · rfl
  · rfl

theorem aPlain_not {t : TypeId} {x : Operand} {ev : Operand → Value} : aPlain P ⟨dst, .unOp .not t x, ty, src, af, g⟩ ev H kk = notV (ev x) H kk := by
  have ho : (Op.unOp .not t x).operands.toList.all (fun x => plainV 6 (ev x)) = plainV 6 (ev x) := by
    show (#[x].toList.all fun x => plainV 6 (ev x)) = _
    simp
  have hr : pureOf P (execOp ev ⟨dst, .unOp .not t x, ty, src, af, g⟩) = (pureOf P (Op.unary .not (ev x))).map Next.value := by
    simp only [execOp]
    rw [pureOf_bind]
    cases pureOf P (Op.unary .not (ev x)) <;> rfl
  rw [plain_of rfl, hr]
  show (if (Op.unOp .not t x).operands.toList.all (fun x => plainV 6 (ev x)) = true then _ else _) = _
  rw [ho]
  have hn : ∀ v, pureOf P (Op.unary .not v) = none → (if plainV 6 v = true then plainR ((pureOf P (Op.unary .not v)).map Next.value) H kk else none) = none := by
    intro v h0
    rw [h0]
    split <;> rfl
  generalize ev x = v
  cases v with
  | bool b => rfl
  | pointer a =>
    cases a with
    | none => exact hn _ rfl
    | some a => exact hn _ rfl
  | _ => exact hn _ rfl
attribute [go_sem] aPlain_not

@[go_sem] theorem opP_not {t : TypeId} {x : Operand} : opP P cx ⟨dst, .unOp .not t x, ty, src, af, g⟩ f H k = Holds (aPlain P ⟨dst, .unOp .not t x, ty, src, af, g⟩ f.eval H fun v H' => some (putP cx.sz f dst v fun f' => k f' H')) := rfl

end
end Go.Am
namespace Go.Am
open Go.RowKit


def Tr.put {α : Type} : Nat → Tr α → Nat → α → Tr α
  | 0, t, _, _ => t
  | d + 1, .e, i, v => if i = 0 then .n (some v) .e .e else if i % 2 = 1 then .n none (Tr.put d .e (i / 2) v) .e else .n none .e (Tr.put d .e (i / 2 - 1) v)
  | d + 1, .n u l r, i, v => if i = 0 then .n (some v) l r else if i % 2 = 1 then .n u (Tr.put d l (i / 2) v) r else .n u l (Tr.put d r (i / 2 - 1) v)

theorem Tr.setK_put {α β : Type} : ∀ (d : Nat) (t : Tr α) (i : Nat) (v : α) (k : Tr α → Option β), i < d → Tr.setK d t i v k = k (Tr.put d t i v) := by
  intro d
  induction d with
  | zero => intro t i v k h; omega
  | succ d ih =>
    intro t i v k h
    cases t with
    | e =>
      rw [Tr.setK_e, Tr.put]
      by_cases h0 : i = 0
      · rw [if_pos h0, if_pos h0]
      · rw [if_neg h0, if_neg h0]
        by_cases h1 : i % 2 = 1
        · rw [if_pos h1, if_pos h1, ih _ _ _ _ (by omega)]
        · rw [if_neg h1, if_neg h1, ih _ _ _ _ (by omega)]
    | n u l r =>
      rw [Tr.setK_n, Tr.put]
      by_cases h0 : i = 0
      · rw [if_pos h0, if_pos h0]
      · rw [if_neg h0, if_neg h0]
        by_cases h1 : i % 2 = 1
        · rw [if_pos h1, if_pos h1, ih _ _ _ _ (by omega)]
        · rw [if_neg h1, if_neg h1, ih _ _ _ _ (by omega)]

theorem Tr.upd_put {α : Type} (t : Tr α) (i : Nat) (v : α) : t.upd i v = Tr.put (i + 1) t i v := by
  have h1 := Tr.setK_upd t i v some
  have h2 := Tr.setK_put (i + 1) t i v some (Nat.lt_succ_self i)
  rw [h1] at h2
  exact Option.some.inj h2

theorem Tr.put_fuel {α : Type} : ∀ (d d' : Nat) (t : Tr α) (i : Nat) (v : α), i < d → i < d' → Tr.put d t i v = Tr.put d' t i v := by
  intro d
  induction d with
  | zero => intro d' t i v h; omega
  | succ d ih =>
    intro d' t i v h h'
    cases d' with
    | zero => omega
    | succ d' =>
      cases t with
      | e =>
        rw [Tr.put, Tr.put]
        by_cases h0 : i = 0
        · rw [if_pos h0, if_pos h0]
        · rw [if_neg h0, if_neg h0, ih d' _ (i / 2) v (by omega) (by omega), ih d' _ (i / 2 - 1) v (by omega) (by omega)]
      | n u l r =>
        rw [Tr.put, Tr.put]
        by_cases h0 : i = 0
        · rw [if_pos h0, if_pos h0]
        · rw [if_neg h0, if_neg h0, ih d' l (i / 2) v (by omega) (by omega), ih d' r (i / 2 - 1) v (by omega) (by omega)]

theorem Tr.put_same {α : Type} : ∀ (d : Nat) (t : Tr α) (i : Nat) (v u : α), i < d → Tr.put d (Tr.put d t i v) i u = Tr.put d t i u := by
  intro d
  induction d with
  | zero => intro t i v u h; omega
  | succ d ih =>
    intro t i v u h
    cases t with
    | e =>
      by_cases h0 : i = 0
      · simp [Tr.put, h0]
      · by_cases h1 : i % 2 = 1
        · simp [Tr.put, h0, h1, ih _ (i / 2) v u (by omega)]
        · simp [Tr.put, h0, h1, ih _ (i / 2 - 1) v u (by omega)]
    | n w l r =>
      by_cases h0 : i = 0
      · simp [Tr.put, h0]
      · by_cases h1 : i % 2 = 1
        · simp [Tr.put, h0, h1, ih _ (i / 2) v u (by omega)]
        · simp [Tr.put, h0, h1, ih _ (i / 2 - 1) v u (by omega)]

theorem Tr.put_comm {α : Type} : ∀ (d : Nat) (t : Tr α) (i j : Nat) (v u : α), i < d → j < d → i ≠ j → Tr.put d (Tr.put d t i v) j u = Tr.put d (Tr.put d t j u) i v := by
  intro d
  induction d with
  | zero => intro t i j v u h; omega
  | succ d ih =>
    intro t i j v u hi hj hij
    by_cases i0 : i = 0 <;> by_cases j0 : j = 0
    · omega
    · by_cases j1 : j % 2 = 1 <;> cases t <;> simp [Tr.put, i0, j0, j1]
    · by_cases i1 : i % 2 = 1 <;> cases t <;> simp [Tr.put, i0, j0, i1]
    · by_cases i1 : i % 2 = 1 <;> by_cases j1 : j % 2 = 1
      · cases t <;> simp [Tr.put, i0, j0, i1, j1, ih _ (i / 2) (j / 2) v u (by omega) (by omega) (by omega)]
      · cases t <;> simp [Tr.put, i0, j0, i1, j1]
      · cases t <;> simp [Tr.put, i0, j0, i1, j1]
      · cases t <;> simp [Tr.put, i0, j0, i1, j1, ih _ (i / 2 - 1) (j / 2 - 1) v u (by omega) (by omega) (by omega)]

theorem Tr.upd_same {α : Type} (t : Tr α) (i : Nat) (v u : α) : (t.upd i v).upd i u = t.upd i u := by
  simp only [Tr.upd_put]; exact Tr.put_same _ _ _ _ _ (Nat.lt_succ_self i)
theorem Tr.upd_comm {α : Type} (t : Tr α) {i j : Nat} (v u : α) (h : i ≠ j) : (t.upd i v).upd j u = (t.upd j u).upd i v := by
  simp only [Tr.upd_put]
  rw [Tr.put_fuel (i + 1) (i + j + 2) t i v (by omega) (by omega), Tr.put_fuel (j + 1) (i + j + 2) _ j u (by omega) (by omega), Tr.put_comm _ _ _ _ _ _ (by omega) (by omega) h, Tr.put_fuel (i + j + 2) (i + 1) _ i v (by omega) (by omega), Tr.put_fuel (i + j + 2) (j + 1) t j u (by omega) (by omega)]

section
variable {H : AHeap}
@[go_sem] theorem AHeap.upd_new (o o' : AObj) : (H.push o).upd H.n o' = H.push o' := by
  simp only [AHeap.upd, AHeap.push, Tr.upd_same]
@[go_sem] theorem AHeap.upd_below {i : Nat} (o o' : AObj) (h : i ≠ H.n) : (H.push o).upd i o' = (H.upd i o').push o := by
  simp only [AHeap.upd, AHeap.push]
  rw [Tr.upd_comm _ _ _ (Ne.symm h)]
theorem AHeap.upd_lt {i : Nat} (o o' : AObj) (h : i < H.n) : (H.push o).upd i o' = (H.upd i o').push o := AHeap.upd_below o o' (by omega)
@[go_sem] theorem AHeap.upd_upd (i : Nat) (o o' : AObj) : (H.upd i o).upd i o' = H.upd i o' := by simp only [AHeap.upd, Tr.upd_same]
attribute [go_sem] AHeap.upd_lt

@[go_sem] theorem setL_at0 {l xs : List Value} : setL l 0 xs = setL.put l xs := by cases l <;> rfl
@[go_sem] theorem setL_put_nil {l : List Value} : setL.put l [] = some l := by cases l <;> rfl
@[go_sem] theorem setL_put_cons {y x : Value} {l xs : List Value} : setL.put (y :: l) (x :: xs) = (setL.put l xs).map (x :: ·) := rfl

@[go_sem] theorem cellAt_upd_same {b i : Nat} {c : List Value} {t : TypeId} : cellAt (H.upd b (.row c t)) b i = c[i]? := by simp only [cellAt, AHeap.get_upd_same]
@[go_sem] theorem cellAt_upd_ne {b j i : Nat} {o : AObj} (h : b ≠ j) : cellAt (H.upd j o) b i = cellAt H b i := by simp only [cellAt, AHeap.get_upd_ne h]
@[go_sem] theorem cellsAt_upd_same {b i n : Nat} {c : List Value} {t : TypeId} : cellsAt (H.upd b (.row c t)) b i n = if i + n ≤ c.length then some ((c.drop i).take n) else none := by simp only [cellsAt, AHeap.get_upd_same]
@[go_sem] theorem cellsAt_upd_ne {b j i n : Nat} {o : AObj} (h : b ≠ j) : cellsAt (H.upd j o) b i n = cellsAt H b i n := by simp only [cellsAt, AHeap.get_upd_ne h]

theorem cellsAt_of {b o : Nat} {us : List Value} (hn : us ≠ []) (h : ∀ j u, us[j]? = some u → cellAt H b (o + j) = some u) : cellsAt H b o us.length = some us := by
  obtain ⟨c, hc, hcell⟩ : ∃ c : List Value, (∀ i, cellAt H b i = c[i]?) ∧ ∀ i n, cellsAt H b i n = if i + n ≤ c.length then some ((c.drop i).take n) else none := by
    have h0 : us[0]? = some (us[0]'(List.length_pos_iff.2 hn)) := List.getElem?_eq_getElem _
    have h1 := h 0 _ h0
    cases hg : H.get b with
    | row c e => exact ⟨c, fun i => by simp only [cellAt, hg], fun i n => by simp only [cellsAt, hg]⟩
    | ext c e => exact ⟨c, fun i => by simp only [cellAt, hg], fun i n => by simp only [cellsAt, hg]⟩
    | _ => simp [cellAt, hg] at h1
  have hlen : o + us.length ≤ c.length := by
    have hl : us.length - 1 < us.length := by have := List.length_pos_iff.2 hn; omega
    have h1 := h (us.length - 1) _ (List.getElem?_eq_getElem hl)
    rw [hc] at h1
    have := (List.getElem?_eq_some_iff.1 h1).1
    omega
  rw [hcell, if_pos hlen]
  congr 1
  apply List.ext_getElem?
  intro j
  rw [List.getElem?_take]
  by_cases hj : j < us.length
  · rw [if_pos hj, List.getElem?_drop, ← hc, h j _ (List.getElem?_eq_getElem hj), List.getElem?_eq_getElem hj]
  · rw [if_neg hj, List.getElem?_eq_none (by omega)]
end
end Go.Am
namespace Go.Am
open Go
variable {P : Program} {H : AHeap}

@[go_sem] theorem lt_one_self {a : Nat} : (a < a + 1) = True := by simp
@[go_sem] theorem lt_one_of {a b : Nat} (h : a < b) : (a < b + 1) = True := by simp; omega
@[go_sem] theorem ne_one_self {a : Nat} : (a = a + 1) = False := by simp
@[go_sem] theorem ne_one_self' {a : Nat} : (a + 1 = a) = False := by simp
@[go_sem] theorem ne_two_self {a : Nat} : (a = a + 1 + 1) = False := by simp; omega
@[go_sem] theorem ne_two_self' {a : Nat} : (a + 1 + 1 = a) = False := by simp; omega

@[go_sem] theorem cellAt_new_k {H : AHeap} {c : List Value} {t : TypeId} {b i : Nat} (h : b = H.n) : cellAt (H.push (.row c t)) b i = c[i]? := by rw [h, cellAt_new]
@[go_sem] theorem cellsAt_new_k {H : AHeap} {c : List Value} {t : TypeId} {b i n : Nat} (h : b = H.n) : cellsAt (H.push (.row c t)) b i n = if i + n ≤ c.length then some ((c.drop i).take n) else none := by rw [h, cellsAt_new]
@[go_sem] theorem AHeap.upd_new_k {H : AHeap} {b : Nat} (o o' : AObj) (h : b = H.n) : (H.push o).upd b o' = H.push o' := by rw [h, AHeap.upd_new]
end Go.Am
namespace Go.Am
open Go Go.RowKit

section
variable {P : Program} {H : AHeap} {cx : Cx} {f : AF} {k : AF → AHeap → Prop} {β : Type} {kk : K β} {other : Unit → Option β}

@[go_sem] theorem aIndexAddr_sp {t : TypeId} {q : IntKind} {i : Int} {b o n c : Nat} {sp : Option Nat} (h0 : 0 ≤ i) (h1 : i < n) :
    aIndexAddr P t (.slice (some ⟨b, o, sp⟩) n c) (.int q i) H kk = match elemT P t with
      | some e => match szT P e with
        | some size => kk (.pointer (some ⟨b, o + i.toNat * size, none⟩)) H
        | none => none
      | none => none := by
  obtain ⟨j, rfl⟩ := Int.eq_ofNat_of_zero_le h0
  have hj : j < n := by omega
  show aIndexAddr P t (.slice (some ⟨b, o, sp⟩) n c) (.int q (Int.ofNat j)) H kk = _
  simp only [aIndexAddr]
  cases he : elemT P t with
  | none => rfl
  | some e =>
    cases hs : szT P e with
    | none => simp [hs]
    | some size => simp [hs, if_pos hj]

def fillB (P : Program) (t : TypeId) (zero : List Value) : List (Nat × Value) → Option (List Value)
  | [] => some zero
  | (i, v) :: rest => match (fieldOf P t i).map (fun f => (f.type, f.offset)) with
    | none => none
    | some (ty, off) => if some (cellsOfV v).length ≠ szT P ty ∨ (cellsOfV v).all oneV = false then none else match setL zero off (cellsOfV v) with
      | none => none
      | some z => fillB P t z rest

@[go_sem] theorem fillB_nil {t : TypeId} {zero : List Value} : fillB P t zero [] = some zero := rfl
@[go_sem] theorem fillB_cons {t : TypeId} {zero : List Value} {i : Nat} {v : Value} {rest : List (Nat × Value)} : fillB P t zero ((i, v) :: rest) = match (fieldOf P t i).map (fun f => (f.type, f.offset)) with
    | none => none
    | some (ty, off) => if some (cellsOfV v).length ≠ szT P ty ∨ (cellsOfV v).all oneV = false then none else match setL zero off (cellsOfV v) with
      | none => none
      | some z => fillB P t z rest := by rw [fillB]

@[go_sem] theorem partsCells_nil {size : Nat} {zero : List Value} : partsCells P size zero [] = some zero := rfl
@[go_sem] theorem partsCells_cons {size : Nat} {zero : List Value} {i : Nat} {v : Value} {rest : List (Nat × Value)} : partsCells P size zero ((i, v) :: rest) = if (cellsOfV v).length ≠ size ∨ (cellsOfV v).all oneV = false then none else match setL zero (i * size) (cellsOfV v) with
    | none => none
    | some z => partsCells P size z rest := by rw [partsCells]; rfl

variable {dst : Option Tmp} {ty : TypeId} {src : String} {af : Array Edge} {g : Option (Nat × Bool)}
@[go_sem] theorem opP_index {t : TypeId} {x y : Operand} : opP P cx ⟨dst, .index t x y, ty, src, af, g⟩ f H k = Holds (aPlain P ⟨dst, .index t x y, ty, src, af, g⟩ f.eval H (fun v H' => some (putP cx.sz f dst v fun f' => k f' H'))) := rfl

@[go_sem] theorem aSliceArr_k {t e : TypeId} {n size b o : Nat} (ha : arrayT P t = some (n + 1, e)) (hs : szT P e = some size) : aSliceArr P t (.pointer (some ⟨b, o, none⟩)) none none H kk = kk (.slice (some ⟨b, o, some 0⟩) (n + 1) (n + 1)) H := by
  simp [aSliceArr, ha, hs, hiOf, loOf]

end
end Go.Am
namespace Go.Am
open Go

structure Step (D : Nat → Prop) (H : AHeap) (D' : Nat → Prop) (H' : AHeap) : Prop where
  n : H.n ≤ H'.n
  get : ∀ i, i < H.n → ¬ D i → H'.get i = H.get i
  new : ∀ i, D' i → D i ∨ H.n ≤ i

theorem Step.refl (D : Nat → Prop) (H : AHeap) : Step D H D H := ⟨Nat.le_refl _, fun _ _ _ => rfl, fun _ h => .inl h⟩
theorem Step.trans {D D' D'' : Nat → Prop} {H H' H'' : AHeap} (h : Step D H D' H') (h' : Step D' H' D'' H'') : Step D H D'' H'' := by
  refine ⟨Nat.le_trans h.n h'.n, fun i hi hd => ?_, fun i hd => ?_⟩
  · rw [h'.get i (Nat.lt_of_lt_of_le hi h.n) (fun h0 => (h.new i h0).elim hd (by omega))]
    exact h.get i hi hd
  · rcases h'.new i hd with h0 | h0
    · exact h.new i h0
    · exact .inr (Nat.le_trans h.n h0)
theorem Step.push {D D' : Nat → Prop} {H H' : AHeap} (h : Step D H D' H') (o : AObj) : Step D H D' (H'.push o) :=
  h.trans ⟨by rw [AHeap.n_push]; omega, fun i hi _ => AHeap.get_push_old hi, fun _ h => .inl h⟩
theorem Step.upd {D D' : Nat → Prop} {H H' : AHeap} (h : Step D H D' H') {i : Nat} (hi : D i ∨ H.n ≤ i) (o : AObj) : Step D H D' (H'.upd i o) := by
  refine ⟨by rw [AHeap.n_upd]; exact h.n, fun j hj hd => ?_, h.new⟩
  rw [AHeap.get_upd_ne (fun e => by subst e; exact hi.elim hd (by omega))]
  exact h.get j hj hd
theorem Step.ext {D D' : Nat → Prop} {H0 H H' : AHeap} (h : Step D H D' H') (hx : Ext H0 H) (hd : ∀ i, D i → H0.n ≤ i) : Ext H0 H' :=
  ⟨Nat.le_trans hx.n h.n, fun i hi => by
    rw [h.get i (Nat.lt_of_lt_of_le hi hx.n) (fun h0 => by have := hd i h0; omega)]
    exact hx.get i hi⟩
def LExt (ls loops : List (Nat × LInfo)) : Prop := ∀ l x, findLoop l ls = some x → findLoop l loops = some x
theorem LExt.nil (ls : List (Nat × LInfo)) : LExt [] ls := fun _ _ h => by simp [findLoop] at h
theorem LExt.cons {ls loops : List (Nat × LInfo)} (h : LExt ls loops) (l : Nat) (x : LInfo) : LExt ((l, x) :: ls) ((l, x) :: loops) := by
  intro l2 x2 h2
  simp only [findLoop] at h2 ⊢
  split
  · rename_i he; rw [if_pos he] at h2; exact h2
  · rename_i he; rw [if_neg he] at h2; exact h _ _ h2
theorem LExt.drop {ls loops : List (Nat × LInfo)} {l : Nat} {x : LInfo} (h : LExt ((l, x) :: ls) loops) (hl : ∀ l2 x2, findLoop l2 ls = some x2 → l2 ≠ l) : LExt ls loops := by
  intro l2 x2 h2
  refine h l2 x2 ?_
  simp only [findLoop]
  rw [if_neg (hl l2 x2 h2)]; exact h2
theorem LExt.refl (ls : List (Nat × LInfo)) : LExt ls ls := fun _ _ h => h

structure Gen (P : Program) (l : Nat) (ls : List (Nat × LInfo)) (Rd : Nat → Prop) (room : Nat) (It : Value → Prop) (S : List Value → (Nat → Prop) → AHeap → Prop) : Prop where
  own : ∀ {L D H}, S L D H → D l
  lt : ∀ {L D H i}, S L D H → D i → i < H.n
  rd : ∀ {L D H i}, S L D H → Rd i → i < H.n
  ready : ∀ {L D H}, S L D H → H.get l = .loop .ready none
  old : ∀ {L D H l2 x}, S L D H → findLoop l2 ls = some x → l2 < H.n
  keep : ∀ {L D H H'}, S L D H → H.n ≤ H'.n → (∀ i, D i ∨ Rd i → H'.get i = H.get i) → S L D H'
  round : ∀ {loops L D H v}, LExt ls loops → L.length < room → It v → S L D H → RoundS P loops l [v] H fun r H' => r = .bool true ∧ ∃ D', S (L ++ [v]) D' H' ∧ Step D H D' H'

section
variable {P : Program} {l : Nat} {ls : List (Nat × LInfo)} {Rd : Nat → Prop} {room : Nat} {It : Value → Prop} {S : List Value → (Nat → Prop) → AHeap → Prop} {L : List Value} {D : Nat → Prop} {H H' : AHeap}
theorem Gen.upd (hg : Gen P l ls Rd room It S) (h : S L D H) {i : Nat} (hi : ¬ D i) (hr : ¬ Rd i) (o : AObj) : S L D (H.upd i o) :=
  hg.keep h (by rw [AHeap.n_upd]; exact Nat.le_refl _) fun j hj => AHeap.get_upd_ne (fun e => by subst e; exact hj.elim hi hr)
end

def Gives (P : Program) (H0 : AHeap) (R : Nat → Prop) (N : Nat) (v : Value) (It : Value → Prop) (items : List Value) : Prop := ∃ (g : FuncId) (cap : Array Value), v = .func (.func g) #[] cap ∧ okFn P g = true ∧ (∀ i, R i → i < H0.n) ∧
  ∀ (loops ls : List (Nat × LInfo)) (H : AHeap) (l : Nat) (Rd : Nat → Prop) (room : Nat) (S : List Value → (Nat → Prop) → AHeap → Prop) (L : List Value) (D : Nat → Prop), LExt ls loops → Gen P l ls Rd room It S → S L D H → H0.n ≤ H.n → (∀ i, R i → H.get i = H0.get i ∧ ¬ D i) → L.length + N ≤ room →
    CallS P loops g ([.func (.yield l) #[] #[]] ++ cap.toList) H fun _ H' => ∃ D', S (L ++ items) D' H' ∧ Step D H D' H'
theorem Gives.ext {P : Program} {H H' : AHeap} {R : Nat → Prop} {N : Nat} {v : Value} {It : Value → Prop} {items : List Value} (h : Gives P H R N v It items) (hx : Ext H H') : Gives P H' R N v It items := by
  obtain ⟨g, cap, h1, h2, h3, h4⟩ := h
  exact ⟨g, cap, h1, h2, fun i hi => Nat.lt_of_lt_of_le (h3 i hi) hx.n, fun loops ls H2 l Rd room S L D a b c d e => h4 loops ls H2 l Rd room S L D a b c (Nat.le_trans hx.n d) (fun i hi => ⟨(e i hi).1.trans (hx.get i (h3 i hi)), (e i hi).2⟩)⟩
theorem Gives.lt {P : Program} {H : AHeap} {R : Nat → Prop} {N : Nat} {v : Value} {It : Value → Prop} {items : List Value} (h : Gives P H R N v It items) {i : Nat} (hi : R i) : i < H.n := by
  obtain ⟨g, cap, h1, h2, h3, h4⟩ := h
  exact h3 i hi

section
variable {P : Program} {H : AHeap} {f : AF}
theorem Post.body_kn {loops : List (Nat × LInfo)} {fn : Func} {R : Value → AHeap → Prop} (hd : f.defers = []) (h : ∀ K : Value → AHeap → Prop, (∀ v H, R v H → K v H) → resP P f H K fn.results.toList) : bodyS P loops fn R .normal f H := by
  show leaveP P loops fn f R f.defers H
  rw [hd]
  have h0 := h _ fun _ _ h => h
  unfold resP at h0
  split at h0
  · rename_i l hl; exact ⟨l, hl, h0⟩
  · exact h0.elim
@[go_sem] theorem cellsAt_upd_f {o : AObj} {b i j n : Nat} (h : (b = i) = False) : cellsAt (H.upd i o) b j n = cellsAt H b j n := by
  simp only [cellsAt, AHeap.get_upd_ne (of_eq_false h)]
@[go_sem] theorem cellAt_upd_f {o : AObj} {b i j : Nat} (h : (b = i) = False) : cellAt (H.upd i o) b j = cellAt H b j := by
  simp only [cellAt, AHeap.get_upd_ne (of_eq_false h)]
end
section
variable {P : Program} {H H0 : AHeap} {f : AF} {cx : Cx} {Q : Post}
@[go_sem] theorem AF.tmp_mk {d : List Deferred} {t : Tmp} : (⟨f.env, d⟩ : AF).tmp t = f.tmp t := rfl
end
def yA := @Post.body_kn
end Go.Am
namespace Go.Am
open Go
variable {P : Program} {H : AHeap}

theorem one_k {kp : Value → AHeap → Option Prop} {t e : TypeId} {size : Nat} {z v : Value} (he : elemT P t = some e) (hsz : szT P e = some size) (hz : zeroT P e = some z) (hzs : (cellsOfV z).length = size) (h0 : 0 < size) (hbig : size ≤ 65536) (hlen : (cellsOfV v).length = size) (hone : (cellsOfV v).all oneV = true)
    (h : Holds (kp (.slice (some ⟨H.n, 0, none⟩) 1 1) (H.push (.row (cellsOfV v) e)))) : Holds (aBuildSlice P t 1 [(0, v)] H kp) := by
  have hset : setL (repl (cellsOfV z) 1) (0 * size) (cellsOfV v) = some (cellsOfV v) := by
    rw [setL_eq _ _ _ (by simp [repl]; omega)]
    simp [repl, List.drop_eq_nil_of_le (show (cellsOfV z).length ≤ (cellsOfV v).length by omega)]
  simp only [aBuildSlice, he, hsz, hz]
  rw [if_neg (by omega)]
  have hp : partsCells P size (repl (cellsOfV z) 1) [(0, v)] = some (cellsOfV v) := by
    rw [partsCells, if_neg (by simp [hlen, hone])]
    simp only [hset]
    rfl
  simp only [hp, forceL_eq, AHeap.new_eq]
  rw [if_pos hone]
  exact h

theorem srcCells_new {l : List Value} {e : TypeId} {size : Nat} (hl : l.length = size) : srcCells (H.push (.row l e)) size (.slice (some ⟨H.n, 0, none⟩) 1 1) = some (1, l) := by
  subst hl
  simp [srcCells, cellsAt_new]

end Go.Am
namespace Go.Am
open Go

section
variable {P : Program} {cx : Cx} {H : AHeap} {f : AF} {B : List Nat} {k : AF → AHeap → Prop}

def stepT (P : Program) (cx : Cx) (l : List Oper) (B : List Nat) (n : Nat) (s : DSt) (k : AF → AHeap → Prop) : Prop := match allIn s.ex l.length with
  | true => k s.f s.H
  | false => loudsP P cx l.toArray B l 0 s fun s => treeP P cx l.toArray B n s k
theorem treeP_lit {l : List Oper} {n : Nat} {s : DSt} (h : passP P cx l.toArray l 0 s fun s => stepT P cx l B n s k) : treeP P cx l.toArray B (n + 1) s k := by
  rw [treeP]
  exact h
theorem stepT_done {l : List Oper} {n : Nat} {ex : List Nat} {qs : List Rec1} (h : allIn ex l.length = true) (hk : k f H) : stepT P cx l B n ⟨f, H, ex, qs⟩ k := by
  rw [stepT]; simp only [h]; exact hk
theorem stepT_more {l : List Oper} {n : Nat} {ex : List Nat} {qs : List Rec1} (h : allIn ex l.length = false) (hk : loudsP P cx l.toArray B l 0 ⟨f, H, ex, qs⟩ fun s => treeP P cx l.toArray B n s k) : stepT P cx l B n ⟨f, H, ex, qs⟩ k := by
  rw [stepT]; simp only [h]; exact hk
theorem CodeS.tree_lit {Q : Post} {l : List Oper} (hmix : P.follows .mixedOrders = true) {id : Nat} (hB : bitsBefore l [] = B) (hok : drawOk2 l B = true) (n : Nat) (h : ∀ k : AF → AHeap → Prop, (∀ f H, Q .normal f H → k f H) → treeP P cx l.toArray B n ⟨f, H, [], []⟩ k) : CodeS P cx (.region id l.toArray true) f H Q :=
  CodeS.tree hmix (by simpa using hB) (by simpa using hok) n (h _ fun _ _ h => h)

theorem passP_nil {ops : Array Oper} {j : Nat} {s : DSt} {k : DSt → Prop} (h : k s) : passP P cx ops [] j s k := h
theorem passP_skip {ops : Array Oper} {o : Oper} {rest : List Oper} {j : Nat} {ex : List Nat} {qs : List Rec1} {k : DSt → Prop} (h1 : (ex.contains j || !readyD ex o) = true) (h : passP P cx ops rest (j + 1) ⟨f, H, ex, qs⟩ k) : passP P cx ops (o :: rest) j ⟨f, H, ex, qs⟩ k := by
  rw [passP]; simp only [h1]; exact h
theorem passP_loud {ops : Array Oper} {o : Oper} {rest : List Oper} {j : Nat} {ex : List Nat} {qs : List Rec1} {k : DSt → Prop} (h1 : (ex.contains j || !readyD ex o) = false) (hg : o.guard = none) (hl : loud o.op = true) (h : passP P cx ops rest (j + 1) ⟨f, H, ex, qs⟩ k) : passP P cx ops (o :: rest) j ⟨f, H, ex, qs⟩ k := by
  rw [passP]; simp only [h1, wantedA, hg, hl]; exact h
theorem passP_q {ops : Array Oper} {op : Op} {ty : TypeId} {src : String} {af : Array Edge} {rest : List Oper} {j d : Nat} {ex : List Nat} {qs : List Rec1} {k : DSt → Prop} (h1 : (ex.contains j || !readyD ex ⟨some d, op, ty, src, af, none⟩) = false) (hl : loud op = false) (hlt : d < cx.sz)
    (h : ∀ K : Value → AHeap → Prop, (∀ v H', passP P cx ops rest (j + 1) ⟨f.upd d v, H, j :: ex, ⟨j, ⟨some d, op, ty, src, af, none⟩, f, v⟩ :: qs⟩ k → K v H') → HoldsV (valA P ⟨some d, op, ty, src, af, none⟩ (decode op) (evR (opReads ⟨some d, op, ty, src, af, none⟩) f) H pairK) K) : passP P cx ops (⟨some d, op, ty, src, af, none⟩ :: rest) j ⟨f, H, ex, qs⟩ k := by
  rw [passP]; simp only [h1, wantedA, hl, putP]
  exact h _ fun v _ hp => ⟨hlt, hp⟩
theorem passP_g {ops : Array Oper} {op : Op} {ty : TypeId} {src : String} {af : Array Edge} {rest : List Oper} {j d i : Nat} {want : Bool} {ex : List Nat} {qs : List Rec1} {k : DSt → Prop} (h1 : (ex.contains j || !readyD ex ⟨some d, op, ty, src, af, some (i, want)⟩) = false) (hj : hasDst ops i = true) (hl : loud op = false) (hlt : d < cx.sz)
    (h : ∀ (K1 K2 : Prop) (d0 : Tmp), dstOf ops i = d0 → ((∀ K : Value → AHeap → Prop, (∀ v H', passP P cx ops rest (j + 1) ⟨f.upd d v, H, j :: ex, ⟨j, ⟨some d, op, ty, src, af, some (i, want)⟩, f, v⟩ :: qs⟩ k → K v H') → HoldsV (valA P ⟨some d, op, ty, src, af, some (i, want)⟩ (decode op) (evR (opReads ⟨some d, op, ty, src, af, some (i, want)⟩) f) H pairK) K) → K1) →
      (passP P cx ops rest (j + 1) ⟨f.upd d undef, H, j :: ex, qs⟩ k → K2) → guardV (f.tmp d0) want K1 K2) : passP P cx ops (⟨some d, op, ty, src, af, some (i, want)⟩ :: rest) j ⟨f, H, ex, qs⟩ k := by
  unfold hasDst at hj
  cases hgi : ops.toList[i]? with
  | none => rw [hgi] at hj; cases hj
  | some g =>
    cases hgd : g.dst with
    | none => rw [hgi] at hj; simp [hgd] at hj
    | some d0 =>
      have h0 := h _ _ d0 (by simp only [dstOf, hgi, hgd]) (fun h => h) (fun h => h)
      rw [passP]; simp only [h1, wantedA, hgi, hgd]
      unfold guardV at h0
      split at h0
      · rename_i b hb
        rw [hb]
        simp only
        by_cases hbw : b = want
        · subst hbw
          simp only [beq_self_eq_true, hl, putP]
          exact h0.1 rfl _ fun v _ hp => ⟨hlt, hp⟩
        · have hbn : b = !want := by cases b <;> cases want <;> simp_all
          have : (b == want) = false := by simpa using hbw
          simp only [this, putP]
          exact ⟨hlt, h0.2 hbn⟩
      · rename_i l hb
        rw [hb]
        simp only [putP]
        exact ⟨hlt, h0⟩
      · exact h0.elim

def isVal (o : Op) : Bool := match decode o with
  | .call .. => false
  | .rest .. => false
  | _ => true
theorem loudsP_nil {ops : Array Oper} {j : Nat} {s : DSt} {k : DSt → Prop} : loudsP P cx ops B [] j s k := trivial
theorem loudsP_skip {ops : Array Oper} {o : Oper} {rest : List Oper} {j : Nat} {ex : List Nat} {qs : List Rec1} {k : DSt → Prop} (h1 : (ex.contains j || !readyD ex o) = true) (h : loudsP P cx ops B rest (j + 1) ⟨f, H, ex, qs⟩ k) : loudsP P cx ops B (o :: rest) j ⟨f, H, ex, qs⟩ k := by
  rw [loudsP]; simp only [h1]; exact h
theorem loudP_val {o : Oper} {j : Nat} {s : DSt} {k : DSt → Prop} (hv : isVal o.op = true) (h : HoldsV (valA P o (decode o.op) (evR (opReads o) s.f) s.H pairK) fun v H' => stableP P B j H' s.qs ∧ putP cx.sz s.f o.dst v fun f' => k ⟨f', H', j :: s.ex, keepQ B j s.qs⟩) : loudP P cx B o j s k := by
  unfold isVal at hv
  unfold loudP
  revert h hv
  cases decode o.op <;> intro hv h <;> first | exact h | (cases hv; done)
theorem loudsP_v {ops : Array Oper} {op : Op} {ty : TypeId} {src : String} {af : Array Edge} {rest : List Oper} {j d : Nat} {ex : List Nat} {qs : List Rec1} {k : DSt → Prop} (h1 : (ex.contains j || !readyD ex ⟨some d, op, ty, src, af, none⟩) = false) (hv : isVal op = true) (hlt : d < cx.sz)
    (h : ∀ K : Value → AHeap → Prop, (∀ v H', stableP P B j H' qs → k ⟨f.upd d v, H', j :: ex, keepQ B j qs⟩ → K v H') → HoldsV (valA P ⟨some d, op, ty, src, af, none⟩ (decode op) (evR (opReads ⟨some d, op, ty, src, af, none⟩) f) H pairK) K) (h2 : loudsP P cx ops B rest (j + 1) ⟨f, H, ex, qs⟩ k) : loudsP P cx ops B (⟨some d, op, ty, src, af, none⟩ :: rest) j ⟨f, H, ex, qs⟩ k := by
  rw [loudsP]; simp only [h1, wantedA]
  refine ⟨⟨trivial, loudP_val hv ?_⟩, h2⟩
  simp only [putP]
  exact h _ fun v H' hs hk => ⟨hs, hlt, hk⟩
theorem loudsP_u {ops : Array Oper} {op : Op} {ty : TypeId} {src : String} {af : Array Edge} {rest : List Oper} {j : Nat} {ex : List Nat} {qs : List Rec1} {k : DSt → Prop} (h1 : (ex.contains j || !readyD ex ⟨none, op, ty, src, af, none⟩) = false) (hv : isVal op = true)
    (h : ∀ K : Value → AHeap → Prop, (∀ v H', stableP P B j H' qs → k ⟨f, H', j :: ex, keepQ B j qs⟩ → K v H') → HoldsV (valA P ⟨none, op, ty, src, af, none⟩ (decode op) (evR (opReads ⟨none, op, ty, src, af, none⟩) f) H pairK) K) (h2 : loudsP P cx ops B rest (j + 1) ⟨f, H, ex, qs⟩ k) : loudsP P cx ops B (⟨none, op, ty, src, af, none⟩ :: rest) j ⟨f, H, ex, qs⟩ k := by
  rw [loudsP]; simp only [h1, wantedA]
  refine ⟨⟨trivial, loudP_val hv ?_⟩, h2⟩
  simp only [putP]
  exact h _ fun v H' hs hk => ⟨hs, hk⟩

theorem stableP_nil {i : Nat} : stableP P B i H [] := trivial
theorem stableP_keep {i j : Nat} : ∀ {qs : List Rec1}, stableP P B i H qs → stableP P B i H (keepQ B j qs)
  | [], _ => trivial
  | q :: qs, h => by
    unfold keepQ
    rw [List.filter_cons]
    split
    · exact ⟨h.1, stableP_keep h.2⟩
    · exact stableP_keep h.2
theorem stableP_pre {i : Nat} {q : Rec1} {qs : List Rec1} (h1 : precedes B q.j i = true) (h : stableP P B i H qs) : stableP P B i H (q :: qs) := ⟨.inl h1, h⟩
theorem stableP_re {i j : Nat} {o : Oper} {v : Value} {qs : List Rec1} (h1 : HoldsV (valA P o (decode o.op) (evR (opReads o) f) H pairK) fun u _ => u = v) (h : stableP P B i H qs) : stableP P B i H (⟨j, o, f, v⟩ :: qs) := ⟨.inr h1, h⟩

variable {β : Type} {kk : K β} {dst : Option Tmp} {ty : TypeId} {src : String} {af : Array Edge} {g : Option (Nat × Bool)}
theorem evR_self {o : Oper} {x : Operand} (h : x ∈ o.op.operands.toList) : evR (opReads o) f x = f.eval x := by
  cases x with
  | tmp t =>
    have : (opReads o).contains t = true := by
      rw [List.contains_iff_mem]
      unfold opReads
      rw [List.mem_filterMap]
      exact ⟨_, h, rfl⟩
    simp only [evR, this]; rfl
  | _ => rfl
@[go_sem] theorem vA_load {t : TypeId} {x : Operand} : valA P ⟨dst, .load t x, ty, src, af, g⟩ (decode (.load t x)) (evR (opReads ⟨dst, .load t x, ty, src, af, g⟩) f) H kk = aLoad P t (f.eval x) H kk := by
  rw [← evR_self (o := ⟨dst, .load t x, ty, src, af, g⟩) (f := f) (x := x) (by simp [Op.operands])]; rfl
@[go_sem] theorem vA_store {t : TypeId} {x y : Operand} : valA P ⟨dst, .store t x y, ty, src, af, g⟩ (decode (.store t x y)) (evR (opReads ⟨dst, .store t x y, ty, src, af, g⟩) f) H kk = aStore P t (f.eval x) (f.eval y) H kk := by
  rw [← evR_self (o := ⟨dst, .store t x y, ty, src, af, g⟩) (f := f) (x := x) (by simp [Op.operands]), ← evR_self (o := ⟨dst, .store t x y, ty, src, af, g⟩) (f := f) (x := y) (by simp [Op.operands])]; rfl
@[go_sem] theorem vA_fieldAddr {t : TypeId} {x : Operand} {i : Nat} : valA P ⟨dst, .fieldAddr t x i, ty, src, af, g⟩ (decode (.fieldAddr t x i)) (evR (opReads ⟨dst, .fieldAddr t x i, ty, src, af, g⟩) f) H kk = aFieldAddr P t (f.eval x) i H kk := by
  rw [← evR_self (o := ⟨dst, .fieldAddr t x i, ty, src, af, g⟩) (f := f) (x := x) (by simp [Op.operands])]; rfl
@[go_sem] theorem vA_indexAddr {t : TypeId} {x y : Operand} : valA P ⟨dst, .indexAddr t x y, ty, src, af, g⟩ (decode (.indexAddr t x y)) (evR (opReads ⟨dst, .indexAddr t x y, ty, src, af, g⟩) f) H kk = aIndexAddr P t (f.eval x) (f.eval y) H kk := by
  rw [← evR_self (o := ⟨dst, .indexAddr t x y, ty, src, af, g⟩) (f := f) (x := x) (by simp [Op.operands]), ← evR_self (o := ⟨dst, .indexAddr t x y, ty, src, af, g⟩) (f := f) (x := y) (by simp [Op.operands])]; rfl
@[go_sem] theorem vA_alloc {t : TypeId} : valA P ⟨dst, .alloc t, ty, src, af, g⟩ (decode (.alloc t)) (evR (opReads ⟨dst, .alloc t, ty, src, af, g⟩) f) H kk = aAlloc P t H kk := rfl
@[go_sem] theorem vA_assign {x : Operand} : valA P ⟨dst, .assign x, ty, src, af, g⟩ (decode (.assign x)) (evR (opReads ⟨dst, .assign x, ty, src, af, g⟩) f) H kk = kk (f.eval x) H := by
  rw [← evR_self (o := ⟨dst, .assign x, ty, src, af, g⟩) (f := f) (x := x) (by simp [Op.operands])]; rfl
@[go_sem] theorem vA_move {x : Operand} : valA P ⟨dst, .move x, ty, src, af, g⟩ (decode (.move x)) (evR (opReads ⟨dst, .move x, ty, src, af, g⟩) f) H kk = kk (f.eval x) H := by
  rw [← evR_self (o := ⟨dst, .move x, ty, src, af, g⟩) (f := f) (x := x) (by simp [Op.operands])]; rfl
@[go_sem] theorem vA_bin {op : BinOp} {t t' : TypeId} {x y : Operand} : valA P ⟨dst, .binOp op t x y t', ty, src, af, g⟩ (decode (.binOp op t x y t')) (evR (opReads ⟨dst, .binOp op t x y t', ty, src, af, g⟩) f) H kk = aBin P op t (f.eval x) (f.eval y) H kk fun _ => aPlain P ⟨dst, .binOp op t x y t', ty, src, af, g⟩ (evR (opReads ⟨dst, .binOp op t x y t', ty, src, af, g⟩) f) H kk := by
  rw [← evR_self (o := ⟨dst, .binOp op t x y t', ty, src, af, g⟩) (f := f) (x := x) (by simp [Op.operands]), ← evR_self (o := ⟨dst, .binOp op t x y t', ty, src, af, g⟩) (f := f) (x := y) (by simp [Op.operands])]; rfl
@[go_sem] theorem vA_pick {x y z : Operand} : valA P ⟨dst, .pick x y z, ty, src, af, g⟩ (decode (.pick x y z)) (evR (opReads ⟨dst, .pick x y z, ty, src, af, g⟩) f) H kk = aPick (f.eval x) (f.eval y) (f.eval z) H kk := by
  rw [← evR_self (o := ⟨dst, .pick x y z, ty, src, af, g⟩) (f := f) (x := x) (by simp [Op.operands]), ← evR_self (o := ⟨dst, .pick x y z, ty, src, af, g⟩) (f := f) (x := y) (by simp [Op.operands]), ← evR_self (o := ⟨dst, .pick x y z, ty, src, af, g⟩) (f := f) (x := z) (by simp [Op.operands])]; rfl
@[go_sem] theorem vA_build {t : TypeId} {parts : List (Nat × Operand)} : valA P ⟨dst, .build t parts.toArray, ty, src, af, g⟩ (decode (.build t parts.toArray)) (evR (opReads ⟨dst, .build t parts.toArray, ty, src, af, g⟩) f) H kk = aBuild P t (parts.map fun x => (x.1, f.eval x.2)) H kk := by
  have h : parts.map (fun x => (x.1, f.eval x.2)) = parts.map fun x => (x.1, evR (opReads ⟨dst, .build t parts.toArray, ty, src, af, g⟩) f x.2) := by
    apply List.map_congr_left
    intro x hx
    rw [evR_self (by simp [Op.operands]; exact ⟨_, hx⟩)]
  rw [h]; rfl
end
section
variable {P : Program} {H : AHeap} {f : AF} {β : Type} {kk : K β} {dst : Option Tmp} {ty : TypeId} {src : String} {af : Array Edge} {g : Option (Nat × Bool)}
@[go_sem] theorem vA_len {x : Operand} {ts : Array TypeId} : valA P ⟨dst, .call ⟨.builtin .len, #[x], ts⟩, ty, src, af, g⟩ (decode (.call ⟨.builtin .len, #[x], ts⟩)) (evR (opReads ⟨dst, .call ⟨.builtin .len, #[x], ts⟩, ty, src, af, g⟩) f) H kk =
    aBuiltin P .len ts [f.eval x] H kk fun _ => aPlain P ⟨dst, .call ⟨.builtin .len, #[x], ts⟩, ty, src, af, g⟩ (evR (opReads ⟨dst, .call ⟨.builtin .len, #[x], ts⟩, ty, src, af, g⟩) f) H kk := by
  rw [← evR_self (o := ⟨dst, .call ⟨.builtin .len, #[x], ts⟩, ty, src, af, g⟩) (f := f) (x := x) (by show x ∈ [x]; simp)]; rfl
end
@[go_sem] theorem int_lt_one {a : Int} : (a < a + 1) = True := by simp; omega
@[go_sem] theorem int_nat_pos {a : Nat} : ((0 : Int) ≤ (a : Int)) = True := by simp

section
variable {P : Program} {cx : Cx} {H : AHeap} {f : AF} {B : List Nat}
theorem loudP_call {x : Operand} {args : Array Operand} {ts : Array TypeId} {dst : Option Tmp} {ty : TypeId} {src : String} {af : Array Edge} {g : Option (Nat × Bool)} {j : Nat} {ex : List Nat} {qs : List Rec1} {k : DSt → Prop} (h : calleeP P cx.loops (f.eval x) (args.toList.map f.eval) H fun v H' => stableP P B j H' qs ∧ putP cx.sz f dst v fun f' => k ⟨f', H', j :: ex, keepQ B j qs⟩) :
    loudP P cx B ⟨dst, .call ⟨.value x, args, ts⟩, ty, src, af, g⟩ j ⟨f, H, ex, qs⟩ k := by
  have h1 : evR (opReads ⟨dst, .call ⟨.value x, args, ts⟩, ty, src, af, g⟩) f x = f.eval x := evR_self (by show x ∈ (Op.call ⟨.value x, args, ts⟩).operands.toList; simp [Op.operands, Call.operands])
  have h2 : args.toList.map (evR (opReads ⟨dst, .call ⟨.value x, args, ts⟩, ty, src, af, g⟩) f) = args.toList.map f.eval := by
    apply List.map_congr_left
    intro y hy
    refine evR_self ?_
    show y ∈ (Op.call ⟨.value x, args, ts⟩).operands.toList
    simp [Op.operands, Call.operands]
    exact .inr (by simpa using hy)
  show calleeP P cx.loops (evR (opReads ⟨dst, .call ⟨.value x, args, ts⟩, ty, src, af, g⟩) f x) (args.toList.map (evR (opReads ⟨dst, .call ⟨.value x, args, ts⟩, ty, src, af, g⟩) f)) H _
  rw [h1, h2]; exact h
theorem loudsP_c {ops : Array Oper} {x : Operand} {args : Array Operand} {ts : Array TypeId} {ty : TypeId} {src : String} {af : Array Edge} {rest : List Oper} {j d : Nat} {ex : List Nat} {qs : List Rec1} {k : DSt → Prop} (h1 : (ex.contains j || !readyD ex ⟨some d, .call ⟨.value x, args, ts⟩, ty, src, af, none⟩) = false) (hlt : d < cx.sz)
    (h : ∀ K : Value → AHeap → Prop, (∀ v H', stableP P B j H' qs → k ⟨f.upd d v, H', j :: ex, keepQ B j qs⟩ → K v H') → calleeP P cx.loops (f.eval x) (args.toList.map f.eval) H K) (h2 : loudsP P cx ops B rest (j + 1) ⟨f, H, ex, qs⟩ k) : loudsP P cx ops B (⟨some d, .call ⟨.value x, args, ts⟩, ty, src, af, none⟩ :: rest) j ⟨f, H, ex, qs⟩ k := by
  rw [loudsP]; simp only [h1, wantedA]
  refine ⟨⟨trivial, loudP_call ?_⟩, h2⟩
  simp only [putP]
  exact h _ fun v H' hs hk => ⟨hs, hlt, hk⟩
theorem loudsP_cg {ops : Array Oper} {x : Operand} {args : Array Operand} {ts : Array TypeId} {ty : TypeId} {src : String} {af : Array Edge} {i : Nat} {want : Bool} {rest : List Oper} {j d : Nat} {ex : List Nat} {qs : List Rec1} {k : DSt → Prop} (h1 : (ex.contains j || !readyD ex ⟨some d, .call ⟨.value x, args, ts⟩, ty, src, af, some (i, want)⟩) = false) (hlt : d < cx.sz) (hj : hasDst ops i = true) (hw : f.tmp (dstOf ops i) = .bool want)
    (h : ∀ K : Value → AHeap → Prop, (∀ v H', stableP P B j H' qs → k ⟨f.upd d v, H', j :: ex, keepQ B j qs⟩ → K v H') → calleeP P cx.loops (f.eval x) (args.toList.map f.eval) H K) (h2 : loudsP P cx ops B rest (j + 1) ⟨f, H, ex, qs⟩ k) : loudsP P cx ops B (⟨some d, .call ⟨.value x, args, ts⟩, ty, src, af, some (i, want)⟩ :: rest) j ⟨f, H, ex, qs⟩ k := by
  have hwant : wantedA ops f ⟨some d, .call ⟨.value x, args, ts⟩, ty, src, af, some (i, want)⟩ = some true := by
    unfold hasDst at hj
    cases hgi : ops.toList[i]? with
    | none => rw [hgi] at hj; cases hj
    | some g =>
      cases hgd : g.dst with
      | none => rw [hgi] at hj; simp [hgd] at hj
      | some d0 =>
        have hd : dstOf ops i = d0 := by simp only [dstOf, hgi, hgd]
        rw [hd] at hw
        simp only [wantedA, hgi, hgd, hw, beq_self_eq_true]
  rw [loudsP]; simp only [h1]
  refine ⟨⟨hwant, loudP_call ?_⟩, h2⟩
  simp only [putP]
  exact h _ fun v H' hs hk => ⟨hs, hlt, hk⟩
theorem passP_lg {ops : Array Oper} {op : Op} {ty : TypeId} {src : String} {af : Array Edge} {rest : List Oper} {j d i : Nat} {want : Bool} {ex : List Nat} {qs : List Rec1} {k : DSt → Prop} (h1 : (ex.contains j || !readyD ex ⟨some d, op, ty, src, af, some (i, want)⟩) = false) (hj : hasDst ops i = true) (hl : loud op = true) (hlt : d < cx.sz)
    (h : ∀ (K1 K2 : Prop) (d0 : Tmp), dstOf ops i = d0 → (passP P cx ops rest (j + 1) ⟨f, H, ex, qs⟩ k → K1) → (passP P cx ops rest (j + 1) ⟨f.upd d undef, H, j :: ex, qs⟩ k → K2) → guardV (f.tmp d0) want K1 K2) : passP P cx ops (⟨some d, op, ty, src, af, some (i, want)⟩ :: rest) j ⟨f, H, ex, qs⟩ k := by
  unfold hasDst at hj
  cases hgi : ops.toList[i]? with
  | none => rw [hgi] at hj; cases hj
  | some g =>
    cases hgd : g.dst with
    | none => rw [hgi] at hj; simp [hgd] at hj
    | some d0 =>
      have h0 := h _ _ d0 (by simp only [dstOf, hgi, hgd]) (fun h => h) (fun h => h)
      rw [passP]; simp only [h1, wantedA, hgi, hgd]
      unfold guardV at h0
      split at h0
      · rename_i b hb
        rw [hb]
        simp only
        by_cases hbw : b = want
        · subst hbw
          simp only [beq_self_eq_true, hl]
          exact h0.1 rfl
        · have hbn : b = !want := by cases b <;> cases want <;> simp_all
          have : (b == want) = false := by simpa using hbw
          simp only [this, putP]
          exact ⟨hlt, h0.2 hbn⟩
      · rename_i l hb
        rw [hb]
        simp only [putP]
        exact ⟨hlt, h0⟩
      · exact h0.elim
end
def yH := @CodeS.tree_lit
def yI := @loudsP_nil
def yJ := @stableP_nil
def yK := @treeP_lit
def yL := @passP_nil
def yM := @stableP_keep
def yN := @passP_skip
def yO := @loudsP_skip
def yP := @stepT_more
def yQ := @stepT_done
def yR := @passP_loud
def yS := @passP_q
def yT := @passP_g
def yU := @passP_lg
def yV := @loudsP_c
def yW := @loudsP_cg
def yX := @loudsP_v
def yY := @loudsP_u
def yZ := @stableP_pre
def xA := @stableP_re
end Go.Am
namespace Go.Am
open Go Go.RowKit

section
variable {P : Program} {H : AHeap} {f : AF} {β : Type} {kk : K β}
variable {dst : Option Tmp} {ty : TypeId} {src : String} {af : Array Edge} {g : Option (Nat × Bool)}

def maxA {β : Type} (P : Program) (ts : Array TypeId) (t : TypeId) (v u : Value) (H : AHeap) (kk : K β) : Option β := match v, u with
  | .int .i64 a, .int .i64 b => kk (.int .i64 (max a b)) H
  | v, u => if (plainV 6 v && plainV 6 u) = true then plainR (pureOf P (do pure (Next.value (← Builtin.max_ ts t #[v, u])))) H kk else none
def minA {β : Type} (P : Program) (ts : Array TypeId) (t : TypeId) (v u : Value) (H : AHeap) (kk : K β) : Option β := match v, u with
  | .int .i64 a, .int .i64 b => kk (.int .i64 (min a b)) H
  | v, u => if (plainV 6 v && plainV 6 u) = true then plainR (pureOf P (do pure (Next.value (← Builtin.min_ ts t #[v, u])))) H kk else none
@[go_sem] theorem maxA_int {ts : Array TypeId} {t : TypeId} {a b : Int} : maxA P ts t (.int .i64 a) (.int .i64 b) H kk = kk (.int .i64 (max a b)) H := rfl
@[go_sem] theorem minA_int {ts : Array TypeId} {t : TypeId} {a b : Int} : minA P ts t (.int .i64 a) (.int .i64 b) H kk = kk (.int .i64 (min a b)) H := rfl

theorem aPlain_max {x y : Operand} {ts : Array TypeId} {ev : Operand → Value} : aPlain P ⟨dst, .call ⟨.builtin .max, #[x, y], ts⟩, ty, src, af, g⟩ ev H kk = maxA P ts ty (ev x) (ev y) H kk := by
  rw [plain_of rfl]
  have e1 : ((Op.call ⟨.builtin .max, #[x, y], ts⟩).operands.toList.all fun x => plainV 6 (ev x)) = (plainV 6 (ev x) && plainV 6 (ev y)) := by
    show ([x, y].all fun x => plainV 6 (ev x)) = _
    simp
  have e2 : pureOf P (execOp ev ⟨dst, .call ⟨.builtin .max, #[x, y], ts⟩, ty, src, af, g⟩) = pureOf P (do pure (Next.value (← Builtin.max_ ts ty #[ev x, ev y]))) := by
    simp [execOp, resolve, invoke, builtin]
  show (if ((Op.call ⟨.builtin .max, #[x, y], ts⟩).operands.toList.all fun x => plainV 6 (ev x)) = true then _ else _) = _
  rw [e1, e2]
  generalize ev x = v
  generalize ev y = u
  symm
  unfold maxA
  split
  · rename_i a b
    have e3 : pureOf P (do pure (Next.value (← Builtin.max_ ts ty #[.int .i64 a, .int .i64 b]))) = some (.value (.int .i64 (if b > a then b else a))) := rfl
    rw [e3]
    have e4 : (if b > a then b else a) = max a b := by split <;> omega
    rw [e4, if_pos (show (plainV 6 (Value.int IntKind.i64 a) && plainV 6 (Value.int IntKind.i64 b)) = true from rfl)]; rfl
  · rfl
theorem aPlain_min {x y : Operand} {ts : Array TypeId} {ev : Operand → Value} : aPlain P ⟨dst, .call ⟨.builtin .min, #[x, y], ts⟩, ty, src, af, g⟩ ev H kk = minA P ts ty (ev x) (ev y) H kk := by
  rw [plain_of rfl]
  have e1 : ((Op.call ⟨.builtin .min, #[x, y], ts⟩).operands.toList.all fun x => plainV 6 (ev x)) = (plainV 6 (ev x) && plainV 6 (ev y)) := by
    show ([x, y].all fun x => plainV 6 (ev x)) = _
    simp
  have e2 : pureOf P (execOp ev ⟨dst, .call ⟨.builtin .min, #[x, y], ts⟩, ty, src, af, g⟩) = pureOf P (do pure (Next.value (← Builtin.min_ ts ty #[ev x, ev y]))) := by
    simp [execOp, resolve, invoke, builtin]
  show (if ((Op.call ⟨.builtin .min, #[x, y], ts⟩).operands.toList.all fun x => plainV 6 (ev x)) = true then _ else _) = _
  rw [e1, e2]
  generalize ev x = v
  generalize ev y = u
  symm
  unfold minA
  split
  · rename_i a b
    have e3 : pureOf P (do pure (Next.value (← Builtin.min_ ts ty #[.int .i64 a, .int .i64 b]))) = some (.value (.int .i64 (if b < a then b else a))) := rfl
    rw [e3]
    have e4 : (if b < a then b else a) = min a b := by split <;> omega
    rw [e4, if_pos (show (plainV 6 (Value.int IntKind.i64 a) && plainV 6 (Value.int IntKind.i64 b)) = true from rfl)]; rfl
  · rfl
attribute [go_sem] aPlain_max aPlain_min

@[go_sem] theorem vA_max {x y : Operand} {ts : Array TypeId} : valA P ⟨dst, .call ⟨.builtin .max, #[x, y], ts⟩, ty, src, af, g⟩ (decode (.call ⟨.builtin .max, #[x, y], ts⟩)) (evR (opReads ⟨dst, .call ⟨.builtin .max, #[x, y], ts⟩, ty, src, af, g⟩) f) H kk = maxA P ts ty (f.eval x) (f.eval y) H kk := by
  rw [← evR_self (o := ⟨dst, .call ⟨.builtin .max, #[x, y], ts⟩, ty, src, af, g⟩) (f := f) (x := x) (by show x ∈ [x, y]; simp), ← evR_self (o := ⟨dst, .call ⟨.builtin .max, #[x, y], ts⟩, ty, src, af, g⟩) (f := f) (x := y) (by show y ∈ [x, y]; simp), ← aPlain_max]; rfl
@[go_sem] theorem vA_min {x y : Operand} {ts : Array TypeId} : valA P ⟨dst, .call ⟨.builtin .min, #[x, y], ts⟩, ty, src, af, g⟩ (decode (.call ⟨.builtin .min, #[x, y], ts⟩)) (evR (opReads ⟨dst, .call ⟨.builtin .min, #[x, y], ts⟩, ty, src, af, g⟩) f) H kk = minA P ts ty (f.eval x) (f.eval y) H kk := by
  rw [← evR_self (o := ⟨dst, .call ⟨.builtin .min, #[x, y], ts⟩, ty, src, af, g⟩) (f := f) (x := x) (by show x ∈ [x, y]; simp), ← evR_self (o := ⟨dst, .call ⟨.builtin .min, #[x, y], ts⟩, ty, src, af, g⟩) (f := f) (x := y) (by show y ∈ [x, y]; simp), ← aPlain_min]; rfl
@[go_sem] theorem vA_buildSlice {t : TypeId} {n : Nat} {parts : List (Nat × Operand)} : valA P ⟨dst, .buildSlice t n parts.toArray, ty, src, af, g⟩ (decode (.buildSlice t n parts.toArray)) (evR (opReads ⟨dst, .buildSlice t n parts.toArray, ty, src, af, g⟩) f) H kk = aBuildSlice P t n (parts.map fun x => (x.1, f.eval x.2)) H kk := by
  have h : parts.map (fun x => (x.1, f.eval x.2)) = parts.map fun x => (x.1, evR (opReads ⟨dst, .buildSlice t n parts.toArray, ty, src, af, g⟩) f x.2) := by
    apply List.map_congr_left
    intro x hx
    rw [evR_self (by simp [Op.operands]; exact ⟨_, hx⟩)]
  rw [h]; rfl
@[go_sem] theorem vA_append {x y : Operand} {ts : Array TypeId} : valA P ⟨dst, .call ⟨.builtin .append, #[x, y], ts⟩, ty, src, af, g⟩ (decode (.call ⟨.builtin .append, #[x, y], ts⟩)) (evR (opReads ⟨dst, .call ⟨.builtin .append, #[x, y], ts⟩, ty, src, af, g⟩) f) H kk = aAppend P ts (f.eval x) (f.eval y) H kk := by
  rw [← evR_self (o := ⟨dst, .call ⟨.builtin .append, #[x, y], ts⟩, ty, src, af, g⟩) (f := f) (x := x) (by show x ∈ [x, y]; simp), ← evR_self (o := ⟨dst, .call ⟨.builtin .append, #[x, y], ts⟩, ty, src, af, g⟩) (f := f) (x := y) (by show y ∈ [x, y]; simp)]; rfl
@[go_sem] theorem vA_not {t : TypeId} {x : Operand} : valA P ⟨dst, .unOp .not t x, ty, src, af, g⟩ (decode (.unOp .not t x)) (evR (opReads ⟨dst, .unOp .not t x, ty, src, af, g⟩) f) H kk = notV (f.eval x) H kk := by
  rw [← evR_self (o := ⟨dst, .unOp .not t x, ty, src, af, g⟩) (f := f) (x := x) (by simp [Op.operands]), ← aPlain_not]; rfl
end
end Go.Am
namespace Go.Am
open Go
variable {P : Program} {H : AHeap}

end Go.Am
namespace Go.Am
open Go
variable {P : Program} {H : AHeap}

end Go.Am
namespace Go.Am
open Go

def pairA : Value → List Value
  | .tuple #[a, b] => [a, b]
  | v => [v]
@[go_sem] theorem pairA_mk {a b : Value} : pairA (.tuple #[a, b]) = [a, b] := rfl

structure Gen2 (P : Program) (l : Nat) (ls : List (Nat × LInfo)) (Rd : Nat → Prop) (room : Nat) (It : Value → Prop) (S : List Value → (Nat → Prop) → AHeap → Prop) : Prop where
  own : ∀ {L D H}, S L D H → D l
  lt : ∀ {L D H i}, S L D H → D i → i < H.n
  rd : ∀ {L D H i}, S L D H → Rd i → i < H.n
  ready : ∀ {L D H}, S L D H → H.get l = .loop .ready none
  old : ∀ {L D H l2 x}, S L D H → findLoop l2 ls = some x → l2 < H.n
  keep : ∀ {L D H H'}, S L D H → H.n ≤ H'.n → (∀ i, D i ∨ Rd i → H'.get i = H.get i) → S L D H'
  round : ∀ {loops L D H v}, LExt ls loops → L.length < room → It v → S L D H → RoundS P loops l (pairA v) H fun r H' => r = .bool true ∧ ∃ D', S (L ++ [v]) D' H' ∧ Step D H D' H'

section
variable {P : Program} {l : Nat} {ls : List (Nat × LInfo)} {Rd : Nat → Prop} {room : Nat} {It : Value → Prop} {S : List Value → (Nat → Prop) → AHeap → Prop} {L : List Value} {D : Nat → Prop} {H H' : AHeap}
theorem Gen2.upd (hg : Gen2 P l ls Rd room It S) (h : S L D H) {i : Nat} (hi : ¬ D i) (hr : ¬ Rd i) (o : AObj) : S L D (H.upd i o) :=
  hg.keep h (by rw [AHeap.n_upd]; exact Nat.le_refl _) fun j hj => AHeap.get_upd_ne (fun e => by subst e; exact hj.elim hi hr)
end

def Gives2 (P : Program) (H0 : AHeap) (R : Nat → Prop) (N : Nat) (v : Value) (It : Value → Prop) (items : List Value) : Prop := ∃ (g : FuncId) (cap : Array Value), v = .func (.func g) #[] cap ∧ okFn P g = true ∧ (∀ i, R i → i < H0.n) ∧
  ∀ (loops ls : List (Nat × LInfo)) (H : AHeap) (l : Nat) (Rd : Nat → Prop) (room : Nat) (S : List Value → (Nat → Prop) → AHeap → Prop) (L : List Value) (D : Nat → Prop), LExt ls loops → Gen2 P l ls Rd room It S → S L D H → H0.n ≤ H.n → (∀ i, R i → H.get i = H0.get i ∧ ¬ D i) → L.length + N ≤ room →
    CallS P loops g ([.func (.yield l) #[] #[]] ++ cap.toList) H fun _ H' => ∃ D', S (L ++ items) D' H' ∧ Step D H D' H'
theorem Gives2.ext {P : Program} {H H' : AHeap} {R : Nat → Prop} {N : Nat} {v : Value} {It : Value → Prop} {items : List Value} (h : Gives2 P H R N v It items) (hx : Ext H H') : Gives2 P H' R N v It items := by
  obtain ⟨g, cap, h1, h2, h3, h4⟩ := h
  exact ⟨g, cap, h1, h2, fun i hi => Nat.lt_of_lt_of_le (h3 i hi) hx.n, fun loops ls H2 l Rd room S L D a b c d e => h4 loops ls H2 l Rd room S L D a b c (Nat.le_trans hx.n d) (fun i hi => ⟨(e i hi).1.trans (hx.get i (h3 i hi)), (e i hi).2⟩)⟩
theorem Gives2.lt {P : Program} {H : AHeap} {R : Nat → Prop} {N : Nat} {v : Value} {It : Value → Prop} {items : List Value} (h : Gives2 P H R N v It items) {i : Nat} (hi : R i) : i < H.n := by
  obtain ⟨g, cap, h1, h2, h3, h4⟩ := h
  exact h3 i hi

section
variable {P : Program} {H H0 : AHeap} {f : AF} {cx : Cx} {Q : Post}
end
end Go.Am
namespace Go.Am
open Go

section
variable {P : Program} {H : AHeap} {f : AF} {β : Type} {kk : K β} {dst : Option Tmp} {ty : TypeId} {src : String} {af : Array Edge} {g : Option (Nat × Bool)}
@[go_sem] theorem vA_sliceHi {t : TypeId} {x y : Operand} : valA P ⟨dst, .slice t x none (some y) none, ty, src, af, g⟩ (decode (.slice t x none (some y) none)) (evR (opReads ⟨dst, .slice t x none (some y) none, ty, src, af, g⟩) f) H kk =
    (if isSliceV (f.eval x) then aSlice P t (f.eval x) none (some (f.eval y)) H kk else if isPtrV (f.eval x) then aSliceArr P t (f.eval x) none (some (f.eval y)) H kk else aPlain P ⟨dst, .slice t x none (some y) none, ty, src, af, g⟩ (evR (opReads ⟨dst, .slice t x none (some y) none, ty, src, af, g⟩) f) H kk) := by
  rw [← evR_self (o := ⟨dst, .slice t x none (some y) none, ty, src, af, g⟩) (f := f) (x := x) (by simp [Op.operands]), ← evR_self (o := ⟨dst, .slice t x none (some y) none, ty, src, af, g⟩) (f := f) (x := y) (by simp [Op.operands])]; rfl
@[go_sem] theorem vA_sliceLo {t : TypeId} {x y : Operand} : valA P ⟨dst, .slice t x (some y) none none, ty, src, af, g⟩ (decode (.slice t x (some y) none none)) (evR (opReads ⟨dst, .slice t x (some y) none none, ty, src, af, g⟩) f) H kk =
    (if isSliceV (f.eval x) then aSlice P t (f.eval x) (some (f.eval y)) none H kk else if isPtrV (f.eval x) then aSliceArr P t (f.eval x) (some (f.eval y)) none H kk else aPlain P ⟨dst, .slice t x (some y) none none, ty, src, af, g⟩ (evR (opReads ⟨dst, .slice t x (some y) none none, ty, src, af, g⟩) f) H kk) := by
  rw [← evR_self (o := ⟨dst, .slice t x (some y) none none, ty, src, af, g⟩) (f := f) (x := x) (by simp [Op.operands]), ← evR_self (o := ⟨dst, .slice t x (some y) none none, ty, src, af, g⟩) (f := f) (x := y) (by simp [Op.operands])]; rfl
@[go_sem] theorem vA_extract {x : Operand} {i : Nat} : valA P ⟨dst, .extract x i, ty, src, af, g⟩ (decode (.extract x i)) (evR (opReads ⟨dst, .extract x i, ty, src, af, g⟩) f) H kk = aExtract (f.eval x) i H kk := by
  rw [← evR_self (o := ⟨dst, .extract x i, ty, src, af, g⟩) (f := f) (x := x) (by simp [Op.operands])]; rfl
end
variable {P : Program} {H : AHeap} {K : Value → AHeap → Prop} {t e : TypeId} {size : Nat} {q : IntKind} {b n c : Nat} {l : List Value}
end Go.Am
namespace Go.Am
open Go
section
variable {P : Program} {H : AHeap} {β : Type} {kk : K β} {dst : Option Tmp} {ty : TypeId} {src : String} {af : Array Edge} {g : Option (Nat × Bool)}
@[go_sem] theorem intBin_quo {q : IntKind} {a b : Int} {other : Unit → Option β} : intBin .quo q a b H kk other = other () := rfl
theorem aPlain_quo {t t' : TypeId} {x y : Operand} {ev : Operand → Value} {a b : Int} (hx : ev x = .int .i64 a) (hy : ev y = .int .i64 b) (ha : 0 ≤ a ∧ a ≤ 9223372036854775807) (hb : 1 ≤ b) : aPlain P ⟨dst, .binOp .quo t x y t', ty, src, af, g⟩ ev H kk = kk (.int .i64 (a / b)) H := by
  rw [plain_of rfl]
  have e1 : ((Op.binOp .quo t x y t').operands.toList.all fun x => plainV 6 (ev x)) = true := by
    show ([x, y].all fun x => plainV 6 (ev x)) = true
    simp [hx, hy]
    exact ⟨rfl, rfl⟩
  rw [if_pos e1]
  have hb0 : ¬ b = 0 := by omega
  have e2 : pureOf P (execOp ev ⟨dst, .binOp .quo t x y t', ty, src, af, g⟩) = some (.value (.int .i64 (IntKind.i64.wrap (a.tdiv b)))) := by
    simp only [execOp, hx, hy]
    simp [eqGuard, binOp, Op.intDiv, hb0]
    rfl
  rw [e2, IntWalk.i64_quo a b ⟨ha.1, ha.2, hb⟩]
  rfl
@[go_sem] theorem intBin_rem {q : IntKind} {a b : Int} {other : Unit → Option β} : intBin .rem q a b H kk other = other () := rfl
theorem aPlain_rem {t t' : TypeId} {x y : Operand} {ev : Operand → Value} {a b : Int} (hx : ev x = .int .i64 a) (hy : ev y = .int .i64 b) (ha : 0 ≤ a) (hb : 1 ≤ b) : aPlain P ⟨dst, .binOp .rem t x y t', ty, src, af, g⟩ ev H kk = kk (.int .i64 (a % b)) H := by
  rw [plain_of rfl]
  have e1 : ((Op.binOp .rem t x y t').operands.toList.all fun x => plainV 6 (ev x)) = true := by
    show ([x, y].all fun x => plainV 6 (ev x)) = true
    simp [hx, hy]
    exact ⟨rfl, rfl⟩
  rw [if_pos e1]
  have hb0 : ¬ b = 0 := by omega
  have e2 : pureOf P (execOp ev ⟨dst, .binOp .rem t x y t', ty, src, af, g⟩) = some (.value (.int .i64 (a.tmod b))) := by
    simp only [execOp, hx, hy]
    simp [eqGuard, binOp, Op.intDiv, hb0]
    rfl
  rw [e2, Int.tmod_eq_emod_of_nonneg ha]
  rfl
end
section
variable {P : Program} {cx : Cx} {H : AHeap} {f : AF} {k : AF → AHeap → Prop} {β : Type} {kk : K β} {dst : Option Tmp} {ty : TypeId} {src : String} {af : Array Edge} {g : Option (Nat × Bool)}
theorem opP_convert {s d : TypeId} {x : Operand} : opP P cx ⟨dst, .convert s d x, ty, src, af, g⟩ f H k = Holds (aPlain P ⟨dst, .convert s d x, ty, src, af, g⟩ f.eval H fun v H' => some (putP cx.sz f dst v fun f' => k f' H')) := rfl
end
end Go.Am
namespace Go.Am
open Go
variable {P : Program} {H : AHeap}

theorem repl_one (z : Value) : ∀ n, repl [z] n = List.replicate n z
  | 0 => rfl
  | n + 1 => by
    show [z] ++ repl [z] n = _
    rw [repl_one z n, List.replicate_succ]; rfl
theorem makeSlice_eq {β : Type} {kk : K β} {t e : TypeId} {bytes n : Nat} {z : Value} (he : elemT P t = some e) (hsz : szT P e = some 1) (hby : bytesT P e = some bytes) (hz : zeroT P e = some z) (hzs : cellsOfV z = [z]) (hbig : n * max bytes 1 ≤ 1073741824) (hn : n ≤ 65536) {q q' : IntKind} :
    aMakeSlice P t (.int q (n : Int)) (.int q' (n : Int)) H kk = kk (.slice (some ⟨H.n, 0, none⟩) n n) (H.push (.row (List.replicate n z) e)) := by
  obtain ⟨i, hi, h1, h2⟩ := info_of hsz hby
  show (match elemT P t, Value.int q (Int.ofNat n), Value.int q' (Int.ofNat n) with
    | some e, .int _ (.ofNat n), .int _ (.ofNat c) => _
    | _, _, _ => _) = _
  simp only [he, hi, hz]
  rw [if_pos ⟨Nat.le_refl _, by rw [← h2] at hbig; exact hbig, by rw [h1]; omega, by rw [hzs, h1]; rfl⟩, AHeap.new_eq, hzs, repl_one]
theorem makeSlice_k {kp : Value → AHeap → Option Prop} {t e : TypeId} {bytes n : Nat} {z : Value} (he : elemT P t = some e) (hsz : szT P e = some 1) (hby : bytesT P e = some bytes) (hz : zeroT P e = some z) (hzs : cellsOfV z = [z]) (hbig : n * max bytes 1 ≤ 1073741824) (hn : n ≤ 65536) {q q' : IntKind}
    (h : Holds (kp (.slice (some ⟨H.n, 0, none⟩) n n) (H.push (.row (List.replicate n z) e)))) : Holds (aMakeSlice P t (.int q (n : Int)) (.int q' (n : Int)) H kp) := by
  rw [makeSlice_eq he hsz hby hz hzs hbig hn]; exact h
@[go_sem] theorem setL_ints {l : List Int} {k : Nat} {d : Int} {q : IntKind} (h : k < l.length) : setL (l.map (Value.int q)) k [Value.int q d] = some ((l.map (Value.int q)).set k (Value.int q d)) :=
  setL_one (by simpa using h)
@[go_sem] theorem oneV_set {l : List Int} {k : Nat} {d : Int} {q : IntKind} : ((l.map (Value.int q)).set k (Value.int q d)).all oneV = true := by
  rw [← List.map_set]; exact oneV_list_int
@[go_sem] theorem setL_set2 {l : List Int} {k i : Nat} {d u : Int} {q : IntKind} (h : k < l.length) : setL ((l.map (Value.int q)).set i (Value.int q u)) k [Value.int q d] = some (((l.map (Value.int q)).set i (Value.int q u)).set k (Value.int q d)) :=
  setL_one (by simpa using h)
@[go_sem] theorem oneV_set2 {l : List Int} {k i : Nat} {d u : Int} {q : IntKind} : (((l.map (Value.int q)).set i (Value.int q u)).set k (Value.int q d)).all oneV = true := by
  rw [← List.map_set, ← List.map_set]; exact oneV_list_int
structure Stop (p : Prop) : Prop where
  out : p
section
variable {cx : Cx} {f : AF} {Q : Post}
theorem stop_region {n : Nat} {ops : Array Oper} {b : Bool} (h : Stop (CodeS P cx (.region n ops b) f H Q)) : CodeS P cx (.region n ops b) f H Q := h.out
end
end Go.Am
namespace Go.Am
open Go
section
variable {P : Program} {H : AHeap} {β : Type} {kk : K β} {dst : Option Tmp} {ty : TypeId} {src : String} {af : Array Edge} {g : Option (Nat × Bool)}
@[go_sem] theorem intBin_mul {q : IntKind} {a b : Int} {other : Unit → Option β} : intBin .mul q a b H kk other = other () := rfl
def plainRest (P : Program) (o : Oper) (ev : Operand → Value) (H : AHeap) (kk : K β) : Option β := aPlain P o ev H kk
def mulV (P : Program) (o : Oper) (ev : Operand → Value) (v u : Value) (H : AHeap) (kk : K β) : Option β := match v, u with
  | .int .i64 a, .int .i64 b => kk (.int .i64 (IntKind.i64.wrap (a * b))) H
  | _, _ => plainRest P o ev H kk
@[go_sem] theorem mulV_int {o : Oper} {ev : Operand → Value} {a b : Int} : mulV P o ev (.int .i64 a) (.int .i64 b) H kk = kk (.int .i64 (IntKind.i64.wrap (a * b))) H := rfl
@[go_sem] theorem aPlain_mul {t t' : TypeId} {x y : Operand} {ev : Operand → Value} : aPlain P ⟨dst, .binOp .mul t x y t', ty, src, af, g⟩ ev H kk = mulV P ⟨dst, .binOp .mul t x y t', ty, src, af, g⟩ ev (ev x) (ev y) H kk := by
  unfold mulV
  split
  · rename_i a b hx hy
    rw [plain_of rfl]
    have e1 : ((Op.binOp .mul t x y t').operands.toList.all fun x => plainV 6 (ev x)) = true := by
      show ([x, y].all fun x => plainV 6 (ev x)) = true
      simp [hx, hy]
      exact ⟨rfl, rfl⟩
    rw [if_pos e1]
    have e2 : pureOf P (execOp ev ⟨dst, .binOp .mul t x y t', ty, src, af, g⟩) = some (.value (.int .i64 (IntKind.i64.wrap (a * b)))) := by
      simp only [execOp, hx, hy]
      simp [eqGuard, binOp]
      rfl
    rw [e2]
    rfl
  · rfl
variable {f : AF}
@[go_sem] theorem vA_lookup {t : TypeId} {x y : Operand} {ok : Bool} : valA P ⟨dst, .lookup t x y ok, ty, src, af, g⟩ (decode (.lookup t x y ok)) (evR (opReads ⟨dst, .lookup t x y ok, ty, src, af, g⟩) f) H kk = aLookup P t (f.eval x) (f.eval y) ok H kk := by
  rw [← evR_self (o := ⟨dst, .lookup t x y ok, ty, src, af, g⟩) (f := f) (x := x) (by show x ∈ [x, y]; simp), ← evR_self (o := ⟨dst, .lookup t x y ok, ty, src, af, g⟩) (f := f) (x := y) (by show y ∈ [x, y]; simp)]; rfl
end
end Go.Am
namespace Go.Am
open Go

structure GenS (P : Program) (l : Nat) (ls : List (Nat × LInfo)) (Rd : Nat → Prop) (room : Nat) (It : Value → Prop) (S : List Value → (Nat → Prop) → AHeap → Prop) (E : (Nat → Prop) → AHeap → Prop) : Prop where
  own : ∀ {L D H}, S L D H → D l
  lt : ∀ {L D H i}, S L D H → D i → i < H.n
  rd : ∀ {L D H i}, S L D H → Rd i → i < H.n
  ready : ∀ {L D H}, S L D H → H.get l = .loop .ready none
  keep : ∀ {L D H H'}, S L D H → H.n ≤ H'.n → (∀ i, D i ∨ Rd i → H'.get i = H.get i) → S L D H'
  round : ∀ {loops L D H v}, LExt ls loops → L.length < room → It v → S L D H → RoundS P loops l [v] H fun r H' => ∃ D', Step D H D' H' ∧ (r = .bool true ∧ S (L ++ [v]) D' H' ∨ r = .bool false ∧ E D' H')
  stop : ∀ {D H}, E D H → ∃ j, H.get l = .loop .done (some j)

def GivesS (P : Program) (H0 : AHeap) (R : Nat → Prop) (N : Nat) (v : Value) (It : Value → Prop) (items : List Value) : Prop := ∃ (g : FuncId) (cap : Array Value), v = .func (.func g) #[] cap ∧ okFn P g = true ∧ (∀ i, R i → i < H0.n) ∧
  ∀ (loops ls : List (Nat × LInfo)) (H : AHeap) (l : Nat) (Rd : Nat → Prop) (room : Nat) (S : List Value → (Nat → Prop) → AHeap → Prop) (E : (Nat → Prop) → AHeap → Prop) (L : List Value) (D : Nat → Prop), LExt ls loops → GenS P l ls Rd room It S E → S L D H → H0.n ≤ H.n → (∀ i, R i → H.get i = H0.get i ∧ ¬ D i) → L.length + N ≤ room →
    CallS P loops g ([.func (.yield l) #[] #[]] ++ cap.toList) H fun _ H' => ∃ D', Step D H D' H' ∧ (S (L ++ items) D' H' ∨ E D' H')
theorem GivesS.ext {P : Program} {H H' : AHeap} {R : Nat → Prop} {N : Nat} {v : Value} {It : Value → Prop} {items : List Value} (h : GivesS P H R N v It items) (hx : Ext H H') : GivesS P H' R N v It items := by
  obtain ⟨g, cap, h1, h2, h3, h4⟩ := h
  exact ⟨g, cap, h1, h2, fun i hi => Nat.lt_of_lt_of_le (h3 i hi) hx.n, fun loops ls H2 l Rd room S E L D a b c d e => h4 loops ls H2 l Rd room S E L D a b c (Nat.le_trans hx.n d) (fun i hi => ⟨(e i hi).1.trans (hx.get i (h3 i hi)), (e i hi).2⟩)⟩
theorem GivesS.lt {P : Program} {H : AHeap} {R : Nat → Prop} {N : Nat} {v : Value} {It : Value → Prop} {items : List Value} (h : GivesS P H R N v It items) {i : Nat} (hi : R i) : i < H.n := by
  obtain ⟨g, cap, h1, h2, h3, h4⟩ := h
  exact h3 i hi

section
variable {P : Program} {H : AHeap} {β : Type} {kk : K β} {dst : Option Tmp} {ty : TypeId} {src : String} {af : Array Edge} {g : Option (Nat × Bool)} {cx : Cx} {f : AF} {k : AF → AHeap → Prop}
def negV (v : Value) (H : AHeap) (kk : K β) (other : Unit → Option β) : Option β := match v with
  | .int .i64 a => kk (.int .i64 (IntKind.i64.wrap (0 - a))) H
  | _ => other ()
@[go_sem] theorem negV_int {a : Int} {other : Unit → Option β} : negV (.int .i64 a) H kk other = kk (.int .i64 (IntKind.i64.wrap (0 - a))) H := rfl
theorem aPlain_neg {t : TypeId} {x : Operand} {ev : Operand → Value} : aPlain P ⟨dst, .unOp .neg t x, ty, src, af, g⟩ ev H kk = negV (ev x) H kk fun _ => aPlain P ⟨dst, .unOp .neg t x, ty, src, af, g⟩ ev H kk := by
  unfold negV
  split
  · rename_i a hx
    rw [plain_of rfl]
    have ho : (Op.unOp .neg t x).operands.toList.all (fun x => plainV 6 (ev x)) = true := by
      show (#[x].toList.all fun x => plainV 6 (ev x)) = _
      simp [hx]
      rfl
    have hr : pureOf P (execOp ev ⟨dst, .unOp .neg t x, ty, src, af, g⟩) = some (.value (.int .i64 (IntKind.i64.wrap (0 - a)))) := by
      have h0 : pureOf P (execOp ev ⟨dst, .unOp .neg t x, ty, src, af, g⟩) = (pureOf P (Op.unary .neg (ev x))).map Next.value := by
        simp only [execOp]
        rw [pureOf_bind]
        cases pureOf P (Op.unary .neg (ev x)) <;> rfl
      rw [h0, hx]
      rfl
    rw [if_pos ho, hr]
    rfl
  · rfl
@[go_sem] theorem opP_neg {t : TypeId} {x : Operand} : opP P cx ⟨dst, .unOp .neg t x, ty, src, af, g⟩ f H k = Holds (negV (f.eval x) H (fun v H' => some (putP cx.sz f dst v fun f' => k f' H')) fun _ => aPlain P ⟨dst, .unOp .neg t x, ty, src, af, g⟩ f.eval H fun v H' => some (putP cx.sz f dst v fun f' => k f' H')) :=
  (show opP P cx ⟨dst, .unOp .neg t x, ty, src, af, g⟩ f H k = Holds (aPlain P ⟨dst, .unOp .neg t x, ty, src, af, g⟩ f.eval H fun v H' => some (putP cx.sz f dst v fun f' => k f' H')) from rfl).trans (congrArg Holds aPlain_neg)
@[go_sem] theorem vA_nilCheck {x : Operand} : valA P ⟨dst, .nilCheck x, ty, src, af, g⟩ (decode (.nilCheck x)) (evR (opReads ⟨dst, .nilCheck x, ty, src, af, g⟩) f) H kk = aNilCheck (f.eval x) H kk fun _ => aPlain P ⟨dst, .nilCheck x, ty, src, af, g⟩ (evR (opReads ⟨dst, .nilCheck x, ty, src, af, g⟩) f) H kk := by
  rw [← evR_self (o := ⟨dst, .nilCheck x, ty, src, af, g⟩) (f := f) (x := x) (by simp [Op.operands])]; rfl
@[go_sem] theorem vA_makeFunc {g0 : FuncId} {first captured : List Operand} : valA P ⟨dst, .makeFunc (.func g0) first.toArray captured.toArray, ty, src, af, g⟩ (decode (.makeFunc (.func g0) first.toArray captured.toArray)) (evR (opReads ⟨dst, .makeFunc (.func g0) first.toArray captured.toArray, ty, src, af, g⟩) f) H kk = kk (.func (.func g0) (first.map f.eval).toArray (captured.map f.eval).toArray) H := by
  have h1 : first.map f.eval = first.map fun x => evR (opReads ⟨dst, .makeFunc (.func g0) first.toArray captured.toArray, ty, src, af, g⟩) f x := by
    apply List.map_congr_left
    intro x hx
    rw [evR_self (by simp [Op.operands]; exact .inl hx)]
  have h2 : captured.map f.eval = captured.map fun x => evR (opReads ⟨dst, .makeFunc (.func g0) first.toArray captured.toArray, ty, src, af, g⟩) f x := by
    apply List.map_congr_left
    intro x hx
    rw [evR_self (by simp [Op.operands]; exact .inr hx)]
  rw [h1, h2]; rfl
end
end Go.Am
