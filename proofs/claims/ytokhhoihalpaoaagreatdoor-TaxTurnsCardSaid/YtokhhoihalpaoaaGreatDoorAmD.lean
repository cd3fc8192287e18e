/- Regions whose order is open; sets of ways; tables of proven calls. -/
import Derived.OrdersIn
import Derived.LoopNIn
import Derived.Test.YtokhhoihalpaoaaGreatDoorAmC
set_option linter.all false
namespace Go.Am
open Go.RowKit


theorem fold_bit {acc : List Nat} {i : Nat} : ∀ {l : List Edge} {s : Nat}, (l.foldl (fun s e => if Region.binds .any e then s ||| 2 ^ e.on ||| acc.getD e.on 0 else s) s).testBit i = true →
    s.testBit i = true ∨ ∃ e, e ∈ l ∧ Region.binds .any e = true ∧ (e.on = i ∨ (acc.getD e.on 0).testBit i = true)
  | [], s, h => .inl h
  | e :: l, s, h => by
    simp only [List.foldl_cons] at h
    rcases fold_bit h with h1 | ⟨e', he', hb, hr⟩
    · split at h1
      · rename_i hb
        rw [Nat.testBit_or, Nat.testBit_or, Bool.or_eq_true, Bool.or_eq_true] at h1
        rcases h1 with (h1 | h1) | h1
        · exact .inl h1
        · rw [Nat.testBit_two_pow] at h1
          exact .inr ⟨e, List.mem_cons_self .., hb, .inl (by simpa using h1)⟩
        · exact .inr ⟨e, List.mem_cons_self .., hb, .inr h1⟩
      · exact .inl h1
    · exact .inr ⟨e', List.mem_cons_of_mem _ he', hb, hr⟩

theorem bits_spec : ∀ (rest : List Oper) (acc : List Nat), (∀ i, i < acc.length → (bitsBefore rest acc).getD i 0 = acc.getD i 0) ∧
    ∀ j o, rest[j]? = some o → ∃ pre : List Nat, pre.length = acc.length + j ∧ (∀ i, i < pre.length → (bitsBefore rest acc).getD i 0 = pre.getD i 0) ∧
      (bitsBefore rest acc).getD (acc.length + j) 0 = o.after.toList.foldl (fun s e => if Region.binds .any e then s ||| 2 ^ e.on ||| pre.getD e.on 0 else s) 0
  | [], acc => ⟨fun _ _ => rfl, fun j o h => by simp at h⟩
  | o :: rest, acc => by
    obtain ⟨h1, h2⟩ := bits_spec rest (acc ++ [o.after.toList.foldl (fun s e => if Region.binds .any e then s ||| 2 ^ e.on ||| acc.getD e.on 0 else s) 0])
    have hpre : ∀ i, i < acc.length → (bitsBefore (o :: rest) acc).getD i 0 = acc.getD i 0 := by
      intro i hi
      rw [bitsBefore, h1 i (by simp; omega)]
      simp only [List.getD_eq_getElem?_getD]
      rw [List.getElem?_append_left hi]
    refine ⟨hpre, fun j p hp => ?_⟩
    cases j with
    | zero =>
      simp at hp; subst hp
      refine ⟨acc, rfl, hpre, ?_⟩
      rw [bitsBefore, h1 _ (by simp)]
      simp only [List.getD_eq_getElem?_getD]
      rw [List.getElem?_append_right (by omega)]
      simp
    | succ j =>
      obtain ⟨pre, hl, hpr, hv⟩ := h2 j p (by simpa using hp)
      refine ⟨pre, by rw [hl]; simp; omega, hpr, ?_⟩
      rw [bitsBefore]
      have : acc.length + (j + 1) = (acc ++ [o.after.toList.foldl (fun s e => if Region.binds .any e then s ||| 2 ^ e.on ||| acc.getD e.on 0 else s) 0]).length + j := by simp; omega
      rw [this]; exact hv

theorem prec_edge {ops : List Oper} {i j : Nat} {o : Oper} (ho : ops[j]? = some o) (h : precedes (bitsBefore ops []) i j = true) :
    ∃ e, e ∈ o.after.toList ∧ Region.binds .any e = true ∧ (e.on = i ∨ (e.on < j ∧ precedes (bitsBefore ops []) i e.on = true)) := by
  obtain ⟨pre, hl, hpr, hv⟩ := (bits_spec ops []).2 j o ho
  unfold precedes at h ⊢
  simp only [List.length_nil, Nat.zero_add] at hl hv
  rw [hv] at h
  rcases fold_bit h with h1 | ⟨e, he, hb, h1⟩
  · simp at h1
  · refine ⟨e, he, hb, ?_⟩
    rcases h1 with h1 | h1
    · exact .inl h1
    · rcases Nat.lt_or_ge e.on pre.length with h2 | h2
      · exact .inr ⟨by omega, by rw [hpr _ h2]; exact h1⟩
      · simp [List.getD_eq_getElem?_getD, List.getElem?_eq_none h2] at h1

def Closed (ops : List Oper) (S : Nat → Prop) : Prop := ∀ j o, ops[j]? = some o → S j → ∀ e, e ∈ o.after.toList → Region.binds .any e = true → S e.on

theorem closed_prec {ops : List Oper} {S : Nat → Prop} (hc : Closed ops S) (hlt : ∀ j, S j → j < ops.length) {i : Nat} : ∀ j, S j → precedes (bitsBefore ops []) i j = true → S i := by
  intro j
  induction j using Nat.strongRecOn with
  | _ j ih =>
    intro hj hp
    obtain ⟨o, ho⟩ : ∃ o, ops[j]? = some o := ⟨_, List.getElem?_eq_getElem (hlt j hj)⟩
    obtain ⟨e, he, hb, h1⟩ := prec_edge ho hp
    have hS := hc j o ho hj e he hb
    rcases h1 with h1 | ⟨h1, h2⟩
    · rw [← h1]; exact hS
    · exact ih _ h1 hS h2

theorem ready_prec {ops : List Oper} {S : Nat → Prop} (hc : Closed ops S) (hlt : ∀ j, S j → j < ops.length) {i j : Nat} {o : Oper} (ho : ops[j]? = some o) (hr : ∀ e, e ∈ o.after.toList → Region.binds .any e = true → S e.on)
    (hp : precedes (bitsBefore ops []) i j = true) : S i := by
  obtain ⟨e, he, hb, h1⟩ := prec_edge ho hp
  rcases h1 with h1 | ⟨_, h2⟩
  · rw [← h1]; exact hr e he hb
  · exact closed_prec hc hlt _ (hr e he hb) h2


section
variable {P : Program}

theorem k_load {β : Type} {H : AHeap} {k : K β} {r : β} {t : TypeId} {x : Value} (ha : aLoad P t x H k = some r) : ∃ v, k v H = some r := by
  unfold aLoad at ha
  repeat' (first | (cases ha; done) | exact ⟨_, ha⟩ | split at ha)

theorem k_field {β : Type} {H : AHeap} {k : K β} {r : β} {t : TypeId} {x : Value} {i : Nat} (ha : aFieldAddr P t x i H k = some r) : ∃ v, k v H = some r := by
  unfold aFieldAddr at ha
  repeat' (first | (cases ha; done) | exact ⟨_, ha⟩ | split at ha)

theorem k_index {β : Type} {H : AHeap} {k : K β} {r : β} {t : TypeId} {x i : Value} (ha : aIndexAddr P t x i H k = some r) : ∃ v, k v H = some r := by
  unfold aIndexAddr at ha
  repeat' (first | (cases ha; done) | exact ⟨_, ha⟩ | split at ha)

theorem k_extract {β : Type} {H : AHeap} {k : K β} {r : β} {x : Value} {i : Nat} (ha : aExtract x i H k = some r) : ∃ v, k v H = some r := by
  unfold aExtract at ha
  repeat' (first | (cases ha; done) | exact ⟨_, ha⟩ | split at ha)

theorem k_pick {β : Type} {H : AHeap} {k : K β} {r : β} {c a b : Value} (ha : aPick c a b H k = some r) : ∃ v, k v H = some r := by
  unfold aPick at ha
  repeat' (first | (cases ha; done) | exact ⟨_, ha⟩ | split at ha)

theorem k_lookup {β : Type} {H : AHeap} {k : K β} {r : β} {t : TypeId} {x i : Value} {ok : Bool} (ha : aLookup P t x i ok H k = some r) : ∃ v, k v H = some r := by
  unfold aLookup at ha
  repeat' (first | (cases ha; done) | exact ⟨_, ha⟩ | split at ha)

theorem k_sliceOn {β : Type} {H : AHeap} {k : K β} {r : β} {e : TypeId} {size : Nat} {a : Option Addr} {c h l : Nat} (ha : sliceOn e size a c h l H k = some r) : ∃ v, k v H = some r := by
  unfold sliceOn at ha
  repeat' (first | (cases ha; done) | exact ⟨_, ha⟩ | split at ha)

theorem k_sliceArr {β : Type} {H : AHeap} {k : K β} {r : β} {t : TypeId} {x : Value} {lo hi : Option Value} (ha : aSliceArr P t x lo hi H k = some r) : ∃ v, k v H = some r := by
  unfold aSliceArr at ha
  repeat' (first | (cases ha; done) | exact ⟨_, ha⟩ | split at ha)

theorem k_slice {β : Type} {H : AHeap} {k : K β} {r : β} {t : TypeId} {x : Value} {lo hi : Option Value} (ha : aSlice P t x lo hi H k = some r) : ∃ v, k v H = some r := by
  unfold aSlice at ha
  repeat' (first | (cases ha; done) | exact k_sliceOn ha | split at ha)

theorem k_build {β : Type} {H : AHeap} {k : K β} {r : β} {t : TypeId} {parts : List (Nat × Value)} (ha : aBuild P t parts H k = some r) : ∃ v, k v H = some r := by
  unfold aBuild at ha
  repeat' (first | (cases ha; done) | exact ⟨_, (forceL_spec ha).1⟩ | split at ha)

theorem k_plain {β : Type} {H : AHeap} {k : K β} {r : β} {o : Oper} {ev : Operand → Value} (ha : aPlain P o ev H k = some r) : ∃ v, k v H = some r := by
  unfold aPlain at ha
  simp only [forceV_spec] at ha
  repeat' (first | (cases ha; done) | exact ⟨_, ha⟩ | split at ha)

theorem k_eq {β : Type} {H : AHeap} {k : K β} {r : β} {other : Unit → Option β} (ho : other () = some r → ∃ v, k v H = some r) {t : TypeId} {x y : Value} {n : Bool} (ha : aEq P t x y n H k other = some r) : ∃ v, k v H = some r := by
  unfold aEq at ha
  repeat' (first | (cases ha; done) | exact ⟨_, ha⟩ | exact ho ha | split at ha)

theorem k_intBin {β : Type} {H : AHeap} {k : K β} {r : β} {other : Unit → Option β} (ho : other () = some r → ∃ v, k v H = some r) {op : BinOp} {q : IntKind} {a b : Int} (ha : intBin op q a b H k other = some r) : ∃ v, k v H = some r := by
  unfold intBin at ha
  repeat' (first | (cases ha; done) | exact ⟨_, ha⟩ | exact ho ha | split at ha)

theorem k_bin {β : Type} {H : AHeap} {k : K β} {r : β} {other : Unit → Option β} (ho : other () = some r → ∃ v, k v H = some r) {op : BinOp} {t : TypeId} {x y : Value} (ha : aBin P op t x y H k other = some r) : ∃ v, k v H = some r := by
  unfold aBin at ha
  repeat' (first | (cases ha; done) | exact k_intBin ho ha | exact k_eq ho ha | exact ho ha | split at ha)

theorem k_nil {β : Type} {H : AHeap} {k : K β} {r : β} {other : Unit → Option β} (ho : other () = some r → ∃ v, k v H = some r) {x : Value} (ha : aNilCheck x H k other = some r) : ∃ v, k v H = some r := by
  unfold aNilCheck at ha
  repeat' (first | (cases ha; done) | exact ⟨_, ha⟩ | exact ho ha | split at ha)

theorem k_len {β : Type} {H : AHeap} {k : K β} {r : β} {other : Unit → Option β} (ho : other () = some r → ∃ v, k v H = some r) {t : TypeId} {x : Value} (ha : aLen P t x H k other = some r) : ∃ v, k v H = some r := by
  unfold aLen at ha
  repeat' (first | (cases ha; done) | exact ⟨_, ha⟩ | exact ho ha | split at ha)

theorem quiet_k {β : Type} {o : Oper} {ev : Operand → Value} {H : AHeap} {k : K β} {r : β} (hq : loud o.op = false) (ha : valA P o (decode o.op) ev H k = some r) : ∃ v, k v H = some r := by
  have hp : aPlain P o ev H k = some r → ∃ v, k v H = some r := k_plain
  unfold loud at hq
  unfold valA at ha
  generalize decode o.op = d at hq ha
  cases d with
  | move x => exact ⟨_, ha⟩
  | bin op t x y => exact k_bin hp ha
  | extract x i => exact k_extract ha
  | indexAddr t x y => exact k_index ha
  | store => cases hq
  | call => cases hq
  | rest => cases hq
  | seldom s x =>
    cases s with
    | load t => exact k_load ha
    | fieldAddr s i => exact k_field ha
    | alloc t => cases hq
    | box t => cases hq
    | other op =>
      simp only [seldomA] at ha
      cases op with
      | pick => exact k_pick ha
      | build => exact k_build ha
      | slice t x lo hi mx =>
        simp only [aOper] at ha
        repeat' (first | (cases ha; done) | exact k_slice ha | exact k_sliceArr ha | exact hp ha | split at ha)
      | lookup => exact k_lookup ha
      | nilCheck x =>
        simp only [aOper] at ha
        exact k_nil (other := fun _ => aPlain P o ev H k) hp ha
      | unOp => exact hp ha
      | convert => exact hp ha
      | index => exact hp ha
      | typeAssert => exact hp ha
      | makeInterface => exact hp ha
      | call c =>
        obtain ⟨callee, args, ts⟩ := c
        cases callee with
        | builtin b =>
          cases b with
          | len =>
            simp only [aOper, aBuiltin] at ha
            repeat' (first | (cases ha; done) | exact k_len hp ha | exact hp ha | split at ha)
          | max => exact hp ha
          | min => exact hp ha
          | _ => cases hq
        | _ => cases hq
      | _ => cases hq

section
variable {ρ ρ' : Ren} {H : AHeap} {B : Nat} {w0 w : World}

theorem evR_ok {o : Oper} {f : AF} {a : Act} (h : ∀ t, t ∈ opReads o → VR P ρ (f.tmp t) (a.tmps.getD t undef)) : ∀ x, VR P ρ (evR (opReads o) f x) (a.eval x) := by
  intro x
  cases x with
  | tmp t =>
    simp only [evR]
    split
    · rename_i hc
      exact h t (by simpa using hc)
    · exact .poison
  | const v =>
    simp only [evR, AF.eval, Act.eval]
    split
    · rename_i hp; exact plain_refl 6 hp
    · exact .poison
  | global g => exact .poison
  | func g => exact VR.func_of .nil .nil

theorem wanted_at {ops : Array Oper} {f : AF} {a : Act} {o : Oper} {b : Bool} (h : ∀ g want p d, o.guard = some (g, want) → ops[g]? = some p → p.dst = some d → VR P ρ (f.tmp d) (a.tmps.getD d undef)) (hw : wantedA ops f o = some b) :
    Region.wanted o (yielded ops a.tmps) = b := by
  unfold wantedA at hw
  unfold Region.wanted
  split at hw
  · rename_i hg; cases hw; rw [hg]
  · rename_i j want hg
    rw [hg]
    simp only
    split at hw
    · rename_i hj
      cases hw
      have : ops[j]? = none := by simpa using hj
      simp [yielded, this]
    · rename_i g hj
      have hj' : ops[j]? = some g := by simpa using hj
      split at hw
      · rename_i hd
        cases hw
        simp [yielded, hj', hd]
      · rename_i d hd
        have ht := h j want g d hg hj' hd
        have hcase : a.tmps[d]? = some (a.tmps.getD d undef) ∨ (a.tmps[d]? = none ∧ a.tmps.getD d undef = undef) := by
          simp only [Array.getD_eq_getD_getElem?]
          cases hx : a.tmps[d]? with
          | none => exact .inr ⟨rfl, rfl⟩
          | some v => exact .inl rfl
        split at hw
        · rename_i b' hb
          cases hw
          rw [hb] at ht
          generalize hv : a.tmps.getD d undef = v' at ht hcase
          cases ht
          rcases hcase with h1 | ⟨_, h1⟩
          · simp [yielded, hj', hd, h1]
          · cases h1
        · rename_i cs hb
          cases hw
          rw [hb] at ht
          generalize hv : a.tmps.getD d undef = v' at ht hcase
          cases ht
          rcases hcase with h1 | ⟨h1, _⟩
          · simp [yielded, hj', hd, h1]
          · simp [yielded, hj', hd, h1]
        · cases hw

theorem reads_op {ops : List Oper} {o : Oper} {t : Tmp} (h : t ∈ opReads o) : t ∈ readsOf ops o := List.mem_append_left _ h
theorem reads_guard {ops : List Oper} {o p : Oper} {g : Nat} {want : Bool} {d : Tmp} (hg : o.guard = some (g, want)) (hp : ops[g]? = some p) (hd : p.dst = some d) : d ∈ readsOf ops o := by
  unfold readsOf
  refine List.mem_append_right _ ?_
  simp [hg, hp, hd]
end
end
end Go.Am
namespace Go.Am
open Go.RowKit

section
variable {P : Program} {ops : Array Oper}

theorem toList_get {o : Oper} {i : Nat} (h : ops[i]? = some o) : ops.toList[i]? = some o := by simpa using h

theorem of_toList_get {o : Oper} {i : Nat} (h : ops.toList[i]? = some o) : ops[i]? = some o := by simpa using h

theorem get_lt {o : Oper} {i : Nat} (h : ops[i]? = some o) : i < ops.size := (Array.getElem?_eq_some_iff.1 h).1

theorem get_of_lt {i : Nat} (h : i < ops.size) : ∃ o, ops[i]? = some o := ⟨_, Array.getElem?_eq_getElem h⟩

theorem put_getD {a : Act} {dst : Option Tmp} {v : Value} (hlt : ∀ d, dst = some d → d < a.tmps.size) (t : Tmp) : (a.put dst v).tmps.getD t undef = if dst = some t then v else a.tmps.getD t undef := by
  cases dst with
  | none => simp [Act.put]
  | some d =>
    by_cases hd : d = t
    · subst hd
      have := hlt d rfl
      simp [Act.put, this]
    · rw [if_neg (by simpa using hd)]
      simp only [Act.put, Array.getD_eq_getD_getElem?]
      rw [Array.getElem?_setIfInBounds_ne hd]

theorem put_size {a : Act} {dst : Option Tmp} {v : Value} : (a.put dst v).tmps.size = a.tmps.size := by cases dst <;> simp [Act.put]

theorem put_defers' {a : Act} {dst : Option Tmp} {v : Value} : (a.put dst v).defers = a.defers := by cases dst <;> simp [Act.put]

theorem decode_call {o : Op} {g : Operand} {args : List Operand} (h : decode o = .call g args) : ∃ a ts, o = .call { callee := .value g, args := a, argTypes := ts } ∧ args = a.toList := by
  cases o with
  | call c =>
    obtain ⟨callee, a, ts⟩ := c
    cases callee with
    | builtin b => cases b <;> simp [decode] at h
    | value x => simp only [decode, AOp.call.injEq] at h; obtain ⟨rfl, rfl⟩ := h; exact ⟨_, _, rfl, rfl⟩
    | invoke => simp [decode] at h
  | defer c =>
    obtain ⟨callee, a, ts⟩ := c
    cases callee <;> simp [decode] at h
  | next it s => cases s <;> simp [decode] at h
  | _ => simp [decode] at h

theorem decode_defer {o : Op} {c : Call} (h : o = .defer c) : ∃ n g args, decode o = .rest n g args := by
  subst h
  obtain ⟨callee, a, ts⟩ := c
  cases callee <;> exact ⟨_, _, _, rfl⟩


theorem filter_le {p p' : Nat → Bool} : ∀ {l : List Nat}, (∀ x, p' x = true → p x = true) → (l.filter p').length ≤ (l.filter p).length
  | [], _ => by simp
  | x :: xs, h => by
    have ih := filter_le (l := xs) h
    simp only [List.filter_cons]
    cases hp' : p' x with
    | true => rw [h x hp']; simp; exact ih
    | false =>
      cases hp : p x with
      | true => simp; omega
      | false => simpa using ih

theorem filter_lt {p p' : Nat → Bool} {i : Nat} (h : ∀ x, p' x = true → p x = true) (hp : p i = true) (hp' : p' i = false) : ∀ {l : List Nat}, i ∈ l → (l.filter p').length < (l.filter p).length
  | x :: xs, hm => by
    have hle := filter_le (l := xs) h
    simp only [List.filter_cons]
    by_cases hx : x = i
    · subst hx; rw [hp, hp']; simp; omega
    · have hm' : i ∈ xs := by
        cases hm with
        | head => exact absurd rfl hx
        | tail _ hm => exact hm
      have ih := filter_lt h hp hp' hm'
      cases hq' : p' x with
      | true => rw [h x hq']; simp; exact ih
      | false =>
        cases hq : p x with
        | true => simp; omega
        | false => simpa using ih
end
end Go.Am
namespace Go.Am
open Go.RowKit


theorem Tr.setK_e {α β : Type} {d i : Nat} {v : α} {k : Tr α → Option β} : Tr.setK (d + 1) (.e : Tr α) i v k =
    if i = 0 then k (.n (some v) .e .e) else if i % 2 = 1 then Tr.setK d .e (i / 2) v (fun l' => k (.n none l' .e)) else Tr.setK d .e (i / 2 - 1) v (fun r' => k (.n none .e r')) := by
  change @Bool.rec (fun _ => Option β) (@Bool.rec (fun _ => Option β) (Tr.setK d .e (Nat.pred (Nat.div i 2)) v fun r' => k (.n none .e r')) (Tr.setK d .e (Nat.div i 2) v fun l' => k (.n none l' .e)) (Nat.beq (Nat.mod i 2) 1)) (k (.n (some v) .e .e)) (Nat.beq i 0) = _
  by_cases h0 : i = 0
  · rw [if_pos h0, brec_true (by rw [beq0]; simp [h0])]
  · rw [if_neg h0, brec_false (by rw [beq0]; simp [h0])]
    by_cases h1 : i % 2 = 1
    · rw [if_pos h1, brec_true (by rw [beq1]; simp [h1])]; rfl
    · rw [if_neg h1, brec_false (by rw [beq1]; simp [h1])]; rfl

theorem Tr.setK_n {α β : Type} {d i : Nat} {v : α} {u : Option α} {l r : Tr α} {k : Tr α → Option β} : Tr.setK (d + 1) (.n u l r) i v k =
    if i = 0 then k (.n (some v) l r) else if i % 2 = 1 then Tr.setK d l (i / 2) v (fun l' => k (.n u l' r)) else Tr.setK d r (i / 2 - 1) v (fun r' => k (.n u l r')) := by
  change @Bool.rec (fun _ => Option β) (@Bool.rec (fun _ => Option β) (Tr.setK d r (Nat.pred (Nat.div i 2)) v fun r' => k (.n u l r')) (Tr.setK d l (Nat.div i 2) v fun l' => k (.n u l' r)) (Nat.beq (Nat.mod i 2) 1)) (k (.n (some v) l r)) (Nat.beq i 0) = _
  by_cases h0 : i = 0
  · rw [if_pos h0, brec_true (by rw [beq0]; simp [h0])]
  · rw [if_neg h0, brec_false (by rw [beq0]; simp [h0])]
    by_cases h1 : i % 2 = 1
    · rw [if_pos h1, brec_true (by rw [beq1]; simp [h1])]; rfl
    · rw [if_neg h1, brec_false (by rw [beq1]; simp [h1])]; rfl

theorem Tr.setK_total {α : Type} : ∀ (d : Nat) (t : Tr α) (i : Nat) (v : α), i < d → ∃ t', ∀ {β : Type} (k : Tr α → Option β), Tr.setK d t i v k = k t' := by
  intro d
  induction d with
  | zero => intro t i v h; omega
  | succ d ih =>
    intro t i v h
    by_cases h0 : i = 0
    · cases t with
      | e => exact ⟨_, fun k => by rw [Tr.setK_e, if_pos h0]⟩
      | n u l r => exact ⟨_, fun k => by rw [Tr.setK_n, if_pos h0]⟩
    · by_cases h1 : i % 2 = 1
      · cases t with
        | e =>
          obtain ⟨t', ht⟩ := ih (.e : Tr α) (i / 2) v (by omega)
          exact ⟨_, fun k => by rw [Tr.setK_e, if_neg h0, if_pos h1, ht]⟩
        | n u l r =>
          obtain ⟨t', ht⟩ := ih l (i / 2) v (by omega)
          exact ⟨_, fun k => by rw [Tr.setK_n, if_neg h0, if_pos h1, ht]⟩
      · cases t with
        | e =>
          obtain ⟨t', ht⟩ := ih (.e : Tr α) (i / 2 - 1) v (by omega)
          exact ⟨_, fun k => by rw [Tr.setK_e, if_neg h0, if_neg h1, ht]⟩
        | n u l r =>
          obtain ⟨t', ht⟩ := ih r (i / 2 - 1) v (by omega)
          exact ⟨_, fun k => by rw [Tr.setK_n, if_neg h0, if_neg h1, ht]⟩

noncomputable def Tr.upd {α : Type} (t : Tr α) (i : Nat) (v : α) : Tr α := Classical.choose (Tr.setK_total (i + 1) t i v (Nat.lt_succ_self i))

theorem Tr.setK_upd {α β : Type} (t : Tr α) (i : Nat) (v : α) (k : Tr α → Option β) : Tr.setK (i + 1) t i v k = k (t.upd i v) :=
  Classical.choose_spec (Tr.setK_total (i + 1) t i v (Nat.lt_succ_self i)) k

theorem Tr.get_upd {α : Type} (t : Tr α) (i j : Nat) (v : α) : (t.upd i v).get j = if j = i then some v else t.get j := by
  obtain ⟨t', h1, h2⟩ := Tr.setK_spec (i + 1) t i v (fun t => some t) (t.upd i v) (Tr.setK_upd t i v _)
  cases h1
  exact h2 j

noncomputable def AF.upd (f : AF) (d : Tmp) (v : Value) : AF := ⟨f.env.upd d v, f.defers⟩
theorem AF.tmp_upd (f : AF) (d t : Tmp) (v : Value) : (f.upd d v).tmp t = if t = d then v else f.tmp t := by
  simp only [AF.tmp, AF.upd, Tr.get_upd]
  by_cases h : t = d <;> simp [h]
theorem AF.defers_upd (f : AF) (d : Tmp) (v : Value) : (f.upd d v).defers = f.defers := rfl

theorem putA_eq {β : Type} {sz : Nat} {f : AF} {d : Tmp} {v : Value} {k : AF → Option β} (h : d < sz) : putA sz f (some d) v k = k (f.upd d v) := by
  unfold putA
  have hb : Nat.ble sz d = false := by
    rw [Bool.eq_false_iff]; intro h0
    exact Nat.not_le_of_lt h (Nat.le_of_ble_eq_true h0)
  simp only [hb, forceV_spec, Tr.setK_upd]
  rfl

noncomputable def AHeap.upd (H : AHeap) (i : Nat) (o : AObj) : AHeap := ⟨H.n, H.t.upd i o⟩
noncomputable def AHeap.push (H : AHeap) (o : AObj) : AHeap := ⟨H.n + 1, H.t.upd H.n o⟩
theorem AHeap.n_upd (H : AHeap) (i : Nat) (o : AObj) : (H.upd i o).n = H.n := rfl
theorem AHeap.n_push (H : AHeap) (o : AObj) : (H.push o).n = H.n + 1 := rfl
theorem AHeap.get_upd (H : AHeap) (i j : Nat) (o : AObj) : (H.upd i o).get j = if j = i then o else H.get j := by
  simp only [AHeap.get, AHeap.upd, Tr.get_upd]
  by_cases h : j = i <;> simp [h]
theorem AHeap.get_push (H : AHeap) (j : Nat) (o : AObj) : (H.push o).get j = if j = H.n then o else H.get j := by
  simp only [AHeap.get, AHeap.push, Tr.get_upd]
  by_cases h : j = H.n <;> simp [h]
theorem AHeap.set_eq {β : Type} (H : AHeap) (i : Nat) (o : AObj) (k : AHeap → Option β) : H.set i o k = k (H.upd i o) := by
  simp only [AHeap.set, Tr.setK_upd]; rfl
theorem AHeap.new_eq {β : Type} (H : AHeap) (o : AObj) (k : Nat → AHeap → Option β) : H.new o k = k H.n (H.push o) := by
  simp only [AHeap.new, Tr.setK_upd, forceN_spec]; rfl

theorem forceL_eq {β : Type} : ∀ (l : List Value) (k : List Value → Option β), forceL l k = if l.all oneV = true then k l else none
  | [], k => by simp [forceL]
  | x :: xs, k => by
    unfold forceL
    cases hx : oneV x with
    | false => simp [hx]
    | true => simp [hx, forceV_spec, forceL_eq xs]


abbrev Post := Exit → AF → AHeap → Prop

def SPost (P : Program) (ρ : Ren) (B : Nat) (w0 : World) (sz : Nat) (Q : Post) (e : Exit) (a' : Act) (w' : World) : Prop :=
  ∃ f H, Q e f H ∧ ∃ ρ', Le ρ ρ' ∧ HR P ρ' H B w0 w' ∧ AFR P ρ' sz f a'

def SCall (P : Program) (ρ : Ren) (B : Nat) (w0 : World) (R : Value → AHeap → Prop) (e : Ending) (w' : World) : Prop :=
  ∃ v H, R v H ∧ ∃ ρ' v', e = .returned v' ∧ Le ρ ρ' ∧ HR P ρ' H B w0 w' ∧ VR P ρ' v v'

def CodeS (P : Program) (cx : Cx) (c : Code) (f : AF) (H : AHeap) (Q : Post) : Prop :=
  ∀ (ρ : Ren) (B : Nat) (w0 w : World) (a : Act) (F : Fence), HR P ρ H B w0 w → LI P ρ cx.loops → FR ρ cx F → AFR P ρ cx.sz f a → c.wpIn F 0 P (SPost P ρ B w0 cx.sz Q) a w

def CallS (P : Program) (loops : List (Nat × LInfo)) (g : FuncId) (args : List Value) (H : AHeap) (R : Value → AHeap → Prop) : Prop :=
  ∀ (ρ : Ren) (B : Nat) (w0 w : World) (args' : List Value), HR P ρ H B w0 w → LI P ρ loops → VL P ρ args args' → CallsIn Fence.wide 0 P g args'.toArray w (SCall P ρ B w0 R)

def RoundS (P : Program) (loops : List (Nat × LInfo)) (l : Nat) (args : List Value) (H : AHeap) (R : Value → AHeap → Prop) : Prop :=
  (∃ x st pend, findLoop l loops = some x ∧ x.params.size = args.length ∧ H.get l = .loop st pend) ∧
  ∀ (ρ : Ren) (B : Nat) (w0 w : World) (args' : List Value) (y : Ent) (lp : LoopC) (fn : FuncId), HR P ρ H B w0 w → LI P ρ loops → VL P ρ args args' → ρ[l]? = some (some y) → y.lp = some lp →
    RoundIn Fence.wide 0 P y.b fn ((lp.params.zip args'.toArray).foldl (fun tmps (t, a) => tmps.setIfInBounds t a) lp.tmps) lp.assign lp.body w (SCall P ρ B w0 R)

section
variable {P : Program} {ρ ρ' : Ren} {H : AHeap} {B : Nat} {w0 w : World}

theorem SPost.mono {sz : Nat} {Q Q' : Post} {e : Exit} {a : Act} (hq : ∀ e f H, Q e f H → Q' e f H) (h : SPost P ρ B w0 sz Q e a w) : SPost P ρ B w0 sz Q' e a w := by
  obtain ⟨f, H, h1, h2⟩ := h; exact ⟨f, H, hq _ _ _ h1, h2⟩
theorem SPost.le {sz : Nat} {Q : Post} {e : Exit} {a : Act} (hl : Le ρ ρ') (h : SPost P ρ' B w0 sz Q e a w) : SPost P ρ B w0 sz Q e a w := by
  obtain ⟨f, H, h1, ρ2, hl2, h2⟩ := h; exact ⟨f, H, h1, ρ2, hl.trans hl2, h2⟩
theorem SCall.mono {R R' : Value → AHeap → Prop} {e : Ending} (hq : ∀ v H, R v H → R' v H) (h : SCall P ρ B w0 R e w) : SCall P ρ B w0 R' e w := by
  obtain ⟨v, H, h1, h2⟩ := h; exact ⟨v, H, hq _ _ h1, h2⟩
theorem SCall.le {R : Value → AHeap → Prop} {e : Ending} (hl : Le ρ ρ') (h : SCall P ρ' B w0 R e w) : SCall P ρ B w0 R e w := by
  obtain ⟨v, H, h1, ρ2, v', he, hl2, h2⟩ := h; exact ⟨v, H, h1, ρ2, v', he, hl.trans hl2, h2⟩

theorem CodeS.mono {cx : Cx} {c : Code} {f : AF} {Q Q' : Post} (h : CodeS P cx c f H Q) (hq : ∀ e f H, Q e f H → Q' e f H) : CodeS P cx c f H Q' :=
  fun ρ B w0 w a F h1 h2 h3 h4 => wpIn_mono (h ρ B w0 w a F h1 h2 h3 h4) fun _ _ _ hp => hp.mono hq
theorem CallS.mono {loops : List (Nat × LInfo)} {g : FuncId} {args : List Value} {R R' : Value → AHeap → Prop} (h : CallS P loops g args H R) (hq : ∀ v H, R v H → R' v H) : CallS P loops g args H R' :=
  fun ρ B w0 w args' h1 h2 h3 => CallsIn.mono (h ρ B w0 w args' h1 h2 h3) fun _ _ hp => hp.mono hq
theorem RoundS.mono {loops : List (Nat × LInfo)} {l : Nat} {args : List Value} {R R' : Value → AHeap → Prop} (h : RoundS P loops l args H R) (hq : ∀ v H, R v H → R' v H) : RoundS P loops l args H R' :=
  ⟨h.1, fun ρ B w0 w args' y lp fn h1 h2 h3 h4 h5 => RoundIn.mono (h.2 ρ B w0 w args' y lp fn h1 h2 h3 h4 h5) fun _ _ hp => hp.mono hq⟩

theorem CodeS.of_ok {cx : Cx} {c : Code} {f : AF} {outs : List Out} {Q : Post} (h : CodeOK P cx c f H outs) (hq : ∀ r, r ∈ outs → Q r.e r.f r.H) : CodeS P cx c f H Q :=
  fun ρ B w0 w a F h1 h2 h3 h4 => wpIn_mono (h ρ B w0 w a F h1 h2 h3 h4) fun e a' w' hp => by
    obtain ⟨r, hr, rfl, h5⟩ := hp; exact ⟨r.f, r.H, hq r hr, h5⟩
theorem CallS.of_ok {loops : List (Nat × LInfo)} {g : FuncId} {args : List Value} {outs : List Out} {R : Value → AHeap → Prop} (h : CallOK P false loops g args H outs) (hq : ∀ r, r ∈ outs → R r.v r.H) : CallS P loops g args H R :=
  fun ρ B w0 w args' h1 h2 h3 => CallsIn.mono (h ρ B w0 w args' h1 h2 h3) fun e w' hp => by
    obtain ⟨r, hr, ρ', v', h5⟩ := hp; exact ⟨r.v, r.H, hq r hr, ρ', v', h5⟩
theorem CallS.ok {loops : List (Nat × LInfo)} {g : FuncId} {args : List Value} {r : Out} (h : CallS P loops g args H fun v H' => v = r.v ∧ H' = r.H) : CallOK P false loops g args H [r] :=
  fun ρ B w0 w args' h1 h2 h3 => CallsIn.mono (h ρ B w0 w args' h1 h2 h3) fun e w' hp => by
    obtain ⟨v, H', ⟨rfl, rfl⟩, ρ', v', h5⟩ := hp; exact ⟨r, List.mem_singleton_self _, ρ', v', h5⟩


def Holds : Option Prop → Prop
  | some p => p
  | none => False
theorem holds_some {p : Prop} : Holds (some p) = p := rfl
theorem holds_none : Holds none = False := rfl
theorem holds_of {o : Option Prop} (h : Holds o) : ∃ p, o = some p ∧ p := by
  cases o with
  | none => exact h.elim
  | some p => exact ⟨p, rfl, h⟩

def putP (sz : Nat) (f : AF) (dst : Option Tmp) (v : Value) (k : AF → Prop) : Prop :=
  match dst with
  | none => k f
  | some d => d < sz ∧ k (f.upd d v)

theorem putP_ok {sz : Nat} {f : AF} {dst : Option Tmp} {v : Value} {k : AF → Prop} (h : putP sz f dst v k) :
    ∃ f', k f' ∧ f'.defers = f.defers ∧ (∀ d, dst = some d → d < sz) ∧ ∀ t, f'.tmp t = if dst = some t then v else f.tmp t := by
  cases dst with
  | none => exact ⟨f, h, rfl, (fun d hd => by cases hd), fun t => by simp⟩
  | some d =>
    refine ⟨f.upd d v, h.2, rfl, (fun d' hd => by cases hd; exact h.1), fun t => ?_⟩
    rw [AF.tmp_upd]
    by_cases ht : t = d
    · subst ht; simp
    · rw [if_neg ht, if_neg (by simpa using fun h : d = t => ht h.symm)]

def calleeP (P : Program) (loops : List (Nat × LInfo)) (g : Value) (args : List Value) (H : AHeap) (R : Value → AHeap → Prop) : Prop :=
  match aCallee P g args with
  | .fn g args => CallS P loops g args H R
  | .round l args => RoundS P loops l args H R
  | _ => False

def deferP (cx : Cx) (dst : Option Tmp) (g : Value) (args : List Value) (f : AF) (k : AF → Prop) : Prop :=
  match cx.round, g with
  | none, .func (.func g) first captured => putP cx.sz ⟨f.env, { target := .fn (.func g) captured, args := (first.toList ++ args).toArray } :: f.defers⟩ dst undef k
  | _, _ => False

def nextP (it : Value) (H : AHeap) (k : Value → AHeap → Prop) : Prop :=
  ∃ outs, aNext it H (fun v H' => some [⟨.normal, ⟨.e, []⟩, v, H'⟩]) = some outs ∧ ∀ r, r ∈ outs → k r.v r.H

def opP (P : Program) (cx : Cx) (o : Oper) (f : AF) (H : AHeap) (k : AF → AHeap → Prop) : Prop :=
  match decode o.op with
  | .call g args => calleeP P cx.loops (f.eval g) (args.map f.eval) H fun v H' => putP cx.sz f o.dst v fun f' => k f' H'
  | .rest n g args => match n with
    | 1 => deferP cx o.dst (f.eval g) (args.map f.eval) f fun f' => k f' H
    | 2 => nextP (f.eval g) H fun v H' => putP cx.sz f o.dst v fun f' => k f' H'
    | _ => False
  | d => Holds (valA P o d f.eval H fun v H' => some (putP cx.sz f o.dst v fun f' => k f' H'))

def opsP (P : Program) (cx : Cx) (ops : Array Oper) : List Oper → AF → AHeap → (AF → AHeap → Prop) → Prop
  | [], f, H, k => k f H
  | o :: rest, f, H, k => match wantedA ops f o with
    | some true => opP P cx o f H fun f' H' => opsP P cx ops rest f' H' k
    | some false => putP cx.sz f o.dst undef fun f' => opsP P cx ops rest f' H k
    | none => False

theorem callP_ok {cx : Cx} {o : Oper} {x : Operand} {args : Array Operand} {ts : Array TypeId} (hop : o.op = .call { callee := .value x, args, argTypes := ts })
    {f : AF} {a : Act} {F : Fence} {k : AF → AHeap → Prop} {next : Act → World → Prop} {Q : Exit → Act → World → Prop}
    (h : HR P ρ H B w0 w) (hl : LI P ρ cx.loops) (hF : FR ρ cx F) (hf : AFR P ρ cx.sz f a)
    (hnext : ∀ f' H' ρ' a' w', k f' H' → Le ρ ρ' → HR P ρ' H' B w0 w' → AFR P ρ' cx.sz f' a' → next a' w')
    (ha : calleeP P cx.loops (f.eval x) (args.toList.map f.eval) H fun v H' => putP cx.sz f o.dst v fun f' => k f' H') : o.wpIn F 0 P a w next Q := by
  have hsem : o.semAt F.round a.eval = execOp a.eval o := Oper.semAt_eq _ _ _ (fun c h0 => by rw [hop] at h0; cases h0)
  refine ⟨fun g _ => hF.fn g, ?_⟩
  rw [hsem]
  have fin : ∀ (e : Ending) (w' : World), SCall P ρ B w0 (fun v H' => putP cx.sz f o.dst v fun f' => k f' H') e w' →
      match e, w' with | .returned v, w'' => next (a.put o.dst v) w'' | .panicked chain, w'' => Q (.panic chain) a w'' | .outgrown, _ => LetsOut Q := by
    rintro e w' ⟨v, H', hk, ρ', v', rfl, hle, hHR, hv⟩
    obtain ⟨f', hk, hd, hlt, ht⟩ := putP_ok hk
    exact hnext f' H' ρ' _ w' hk hle hHR ((hf.mono hle).put hv hd hlt ht)
  unfold calleeP at ha
  split at ha
  · rename_i q args2 hcal
    obtain ⟨fn, first, captured, first', captured', hfn, hn, hb, hx, rfl, hv1, hv2⟩ := aCallee_fn (hf.eval x) hcal
    rw [run_call hop hx hfn hn hb, arr_of_list]
    have hc := ha ρ B w0 w _ h hl ((hv1.append (vl_map hf.eval args.toList)).append hv2)
    refine ⟨hF.depth, hF.calls (CallsIn.mono ?_ fun e w' he => fin e w' he)⟩
    simpa using hc
  · rename_i l args2 hcal
    obtain ⟨l', hx, hir, rfl⟩ := aCallee_round (hf.eval x) hcal
    obtain ⟨⟨x0, st, pend, hfl, hps, hg⟩, hround⟩ := ha
    obtain ⟨y, o', hy, hyb, hw, hor, _⟩ := h.at hir (by rw [hg]; simp) (by rw [hg]; rfl)
    rw [hg] at hor
    cases hor with
    | loop hk hlp hst hp =>
      rename_i r
      obtain ⟨y2, lp, hy2, _, hlp2, hpar, _⟩ := hl l x0 hfl
      rw [hy] at hy2; cases hy2
      rw [hlp] at hlp2; cases hlp2
      have hsz : args.size = r.params.size := by
        simp only at hpar
        rw [hpar, hps]; simp
      rw [run_yield_call hop hx hw hsz]
      have hv := vl_map hf.eval args.toList
      have := hround ρ B w0 w _ y _ r.fn h hl hv hy hlp
      refine ⟨hF.depth, hF.rounds (RoundIn.mono ?_ fun e w' he => fin e w' he)⟩
      rw [hyb] at this
      have hmap : (args.toList.map a.eval).toArray = args.map a.eval := by apply Array.ext'; simp
      rw [hmap] at this
      exact this
  · exact ha.elim

theorem deferP_ok {cx : Cx} {o : Oper} {x : Operand} {args : Array Operand} {ts : Array TypeId} (hop : o.op = .defer { callee := .value x, args, argTypes := ts })
    {f : AF} {a : Act} {F : Fence} {k : AF → Prop} {next : Act → World → Prop} {Q : Exit → Act → World → Prop} (hF : FR ρ cx F) (hf : AFR P ρ cx.sz f a)
    (hnext : ∀ f' a', k f' → AFR P ρ cx.sz f' a' → next a' w)
    (ha : deferP cx o.dst (f.eval x) (args.toList.map f.eval) f k) : o.wpIn F 0 P a w next Q := by
  unfold deferP at ha
  split at ha
  · rename_i q first captured hr hx
    have hF' : F = Fence.wide := by unfold FR at hF; rw [hr] at hF; exact hF
    subst hF'
    have hvx := hf.eval x
    rw [hx] at hvx
    generalize hax : a.eval x = xv at hvx
    cases hvx with
    | func _ hs hv hs2 hv2 =>
      rename_i first' captured'
      refine ⟨fun _ _ => trivial, ?_⟩
      have hrun : (o.semAt Fence.wide.round a.eval).run P w = .ok (.defer { target := .fn (.func q) captured', args := first' ++ args.map a.eval }) w := by
        show (execOp a.eval o).run P w = _
        simp [execOp, hop, resolve, hax, Deferred.ofValue]
      rw [hrun]
      obtain ⟨f', hk, hd, hlt, ht⟩ := putP_ok ha
      refine hnext f' _ hk ?_
      have h2 : AFR P ρ cx.sz (⟨f.env, { target := .fn (.func q) captured, args := (first.toList ++ args.toList.map f.eval).toArray } :: f.defers⟩ : AF)
          { a with defers := { target := .fn (.func q) captured', args := first' ++ args.map a.eval } :: a.defers } :=
        ⟨hf.size, hf.tmps, .cons (.fn q (vl_arr hs2 hv2) (by simpa using (vl_arr hs hv).append (vl_map hf.eval args.toList))) hf.defers⟩
      exact h2.put VR.undef hd hlt ht
  · exact ha.elim

theorem opP_ok {cx : Cx} {o : Oper} {f : AF} {a : Act} {F : Fence} {k : AF → AHeap → Prop} {next : Act → World → Prop} {Q : Exit → Act → World → Prop}
    (h : HR P ρ H B w0 w) (hl : LI P ρ cx.loops) (hF : FR ρ cx F) (hf : AFR P ρ cx.sz f a)
    (hnext : ∀ f' H' ρ' a' w', k f' H' → Le ρ ρ' → HR P ρ' H' B w0 w' → AFR P ρ' cx.sz f' a' → next a' w')
    (ha : opP P cx o f H k) : o.wpIn F 0 P a w next Q := by
  have hval : (∀ c, o.op ≠ .defer c) → Holds (valA P o (decode o.op) f.eval H fun v H' => some (putP cx.sz f o.dst v fun f' => k f' H')) → o.wpIn F 0 P a w next Q := by
    intro hnd hv
    obtain ⟨p, hp, hpp⟩ := holds_of hv
    obtain ⟨v, H', ρ', v', w', h1, h2, h3, h4, h5⟩ := valA_ok h hf.eval hp
    cases h1
    obtain ⟨f', hk, hd, hlt, ht⟩ := putP_ok hpp
    have hfin := hnext f' H' ρ' _ w' hk h2 h3 ((hf.mono h2).put h4 hd hlt ht)
    refine ⟨fun g _ => hF.fn g, ?_⟩
    rw [Oper.semAt_eq _ _ _ hnd]
    rcases h5 with h5 | ⟨h5, rfl⟩
    · rw [h5]; exact hfin
    · rw [h5]; exact hfin
  unfold opP at ha
  cases hop : o.op with
  | call c =>
    obtain ⟨callee, args, ts⟩ := c
    cases callee with
    | value x =>
      rw [hop] at ha
      exact callP_ok hop h hl hF hf hnext ha
    | builtin b =>
      cases b <;> first
        | (refine hval (fun c h0 => by rw [hop] at h0; cases h0) ?_; rw [hop] at ha ⊢; exact ha)
        | (rw [hop] at ha; simp [decode] at ha)
    | invoke x m => exact hval (fun c h0 => by rw [hop] at h0; cases h0) (by rw [hop] at ha ⊢; exact ha)
  | defer c =>
    obtain ⟨callee, args, ts⟩ := c
    cases callee with
    | value x =>
      rw [hop] at ha
      exact deferP_ok hop hF hf (fun f' a' hk hf' => hnext f' H ρ a' w hk (Le.refl _) h hf') ha
    | _ => rw [hop] at ha; simp [decode] at ha
  | next it s =>
    cases s with
    | true => exact hval (fun c h0 => by rw [hop] at h0; cases h0) (by rw [hop] at ha ⊢; exact ha)
    | false =>
      rw [hop] at ha
      simp only [decode] at ha
      obtain ⟨outs, ho, hall⟩ := ha
      obtain ⟨v, H', ρ', v', w', r', h1, hsub, h2, h3, h4, h5⟩ := aNext_ok (t := o.type) h (hf.eval it) ho
      cases h1
      obtain ⟨f', hk, hd, hlt, ht⟩ := putP_ok (hall _ (hsub _ (List.mem_singleton_self _)))
      have hfin := hnext f' H' ρ' _ w' hk h2 h3 ((hf.mono h2).put h4 hd hlt ht)
      refine ⟨fun g _ => hF.fn g, ?_⟩
      rw [Oper.semAt_eq _ _ _ (fun c h0 => by rw [hop] at h0; cases h0)]
      have : (execOp a.eval o).run P w = .ok (.value v') w' := by simp [execOp, hop, h5]
      rw [this]; exact hfin
  | _ => exact hval (fun c h0 => by rw [hop] at h0; cases h0) (by rw [hop] at ha ⊢; exact ha)

theorem opsP_ok {cx : Cx} {ops : Array Oper} {F : Fence} {Q : Exit → Act → World → Prop} {k : AF → AHeap → Prop} : ∀ (l : List Oper) (i : Nat) (ρ : Ren) (H : AHeap) (w : World) (f : AF) (a : Act),
    ops.toList.drop i = l → opsP P cx ops l f H k → HR P ρ H B w0 w → LI P ρ cx.loops → FR ρ cx F → AFR P ρ cx.sz f a →
    (∀ a w, SPost P ρ B w0 cx.sz (fun _ f H => k f H) .normal a w → Q .normal a w) → wpOpsIn F 0 P ops Q (List.range' i l.length) a w := by
  intro l
  induction l with
  | nil =>
    intro i ρ H w f a hdrop ha h hl hF hf hQ
    exact hQ _ _ ⟨f, H, ha, ρ, Le.refl _, h, hf⟩
  | cons o rest ih =>
    intro i ρ H w f a hdrop ha h hl hF hf hQ
    have hi : ops[i]? = some o := by
      have : (ops.toList.drop i)[0]? = some o := by rw [hdrop]; rfl
      rw [List.getElem?_drop] at this
      simpa using this
    have hdrop' : ops.toList.drop (i + 1) = rest := by
      have : (ops.toList.drop i).drop 1 = rest := by rw [hdrop]; rfl
      rwa [List.drop_drop] at this
    unfold opsP at ha
    simp only [List.length_cons, List.range'_succ, wpOpsIn, hi]
    split at ha
    · rename_i hw
      rw [wanted_ok hf hw]
      simp only [if_true]
      refine opP_ok h hl hF hf ?_ ha
      intro f' H' ρ' a' w' hk hle hHR hf'
      exact ih (i + 1) ρ' H' w' f' a' hdrop' hk hHR (hl.mono hle) (hF.mono hle) hf' (fun a w hp => hQ a w (hp.le hle))
    · rename_i hw
      rw [wanted_ok hf hw]
      simp only [Bool.false_eq_true, if_false]
      obtain ⟨f', hk, hd, hlt, ht⟩ := putP_ok ha
      exact ⟨fun g _ => hF.fn g, ih (i + 1) ρ H w f' _ hdrop' hk h hl hF (hf.put VR.undef hd hlt ht) hQ⟩
    · exact ha.elim
end
end Go.Am
namespace Go.Am
open Go.RowKit

section
variable {P : Program} {ρ ρ' : Ren} {H : AHeap} {B : Nat} {w0 w : World} {cx : Cx} {f : AF} {Q : Post}


theorem CodeS.skip (h : Q .normal f H) : CodeS P cx .skip f H Q := fun ρ B w0 w a F h1 h2 h3 h4 => wpIn_skip ⟨f, H, h, ρ, Le.refl _, h1, h4⟩
theorem CodeS.label {l : Nat} (h : Q .normal f H) : CodeS P cx (.label l) f H Q := fun ρ B w0 w a F h1 h2 h3 h4 => wpIn_label ⟨f, H, h, ρ, Le.refl _, h1, h4⟩
theorem CodeS.exit {id : Nat} (h : Q (.exit id) f H) : CodeS P cx (.exit id) f H Q := fun ρ B w0 w a F h1 h2 h3 h4 => wpIn_exit ⟨f, H, h, ρ, Le.refl _, h1, h4⟩
theorem CodeS.ret (h : Q .ret f H) : CodeS P cx .ret f H Q := fun ρ B w0 w a F h1 h2 h3 h4 => wpIn_ret ⟨f, H, h, ρ, Le.refl _, h1, h4⟩

theorem CodeS.region {id : Nat} {ops : Array Oper} (h : opsP P cx ops ops.toList f H fun f H => Q .normal f H) : CodeS P cx (.region id ops false) f H Q := by
  intro ρ B w0 w a F h1 h2 h3 h4
  refine wpIn_region ?_
  have := opsP_ok (B := B) (w0 := w0) (F := F) (Q := SPost P ρ B w0 cx.sz Q) (ops := ops) (cx := cx) ops.toList 0 ρ H w f a rfl h h1 h2 h3 h4 (fun a w hp => by
    obtain ⟨f, H, h5, h6⟩ := hp; exact ⟨f, H, h5, h6⟩)
  rw [List.range_eq_range']
  simpa using this

theorem CodeS.region_lit {id : Nat} {l : List Oper} (h : opsP P cx l.toArray l f H fun f H => Q .normal f H) : CodeS P cx (.region id l.toArray false) f H Q :=
  CodeS.region (by simpa using h)

def thenP (P : Program) (cx : Cx) (y : Code) (Q : Post) : Post := fun e f H => match e with
  | .normal => CodeS P cx y f H Q
  | e => Q e f H

theorem CodeS.seq {x y : Code} (h : CodeS P cx x f H (thenP P cx y Q)) : CodeS P cx (.seq x y) f H Q := by
  intro ρ B w0 w a F h1 h2 h3 h4
  refine wpIn_seq (wpIn_mono (h ρ B w0 w a F h1 h2 h3 h4) ?_)
  rintro e a' w' ⟨f', H', hp, ρ', hle, hHR, hf'⟩
  cases e with
  | normal => exact wpIn_mono (hp ρ' B w0 w' a' F hHR (h2.mono hle) (h3.mono hle) hf') fun e a w hq => hq.le hle
  | _ => exact ⟨f', H', hp, ρ', hle, hHR, hf'⟩

theorem CodeS.cond {c : Operand} {x y : Code} {b : Bool} (hb : f.eval c = .bool b) (h1 : b = true → CodeS P cx x f H Q) (h2 : b = false → CodeS P cx y f H Q) : CodeS P cx (.cond c x y) f H Q := by
  intro ρ B w0 w a F g1 g2 g3 g4
  have hv := g4.eval c
  rw [hb] at hv
  generalize hx : a.eval c = xv at hv
  cases hv
  cases b
  · exact wpIn_cond_false hx (h2 rfl ρ B w0 w a F g1 g2 g3 g4)
  · exact wpIn_cond_true hx (h1 rfl ρ B w0 w a F g1 g2 g3 g4)

def blockP (id : Nat) (Q : Post) : Post := fun e f H => match e with
  | .exit id' => if id' = id then Q .normal f H else Q (.exit id') f H
  | e => Q e f H

theorem CodeS.block {id : Nat} {c : Code} (h : CodeS P cx c f H (blockP id Q)) : CodeS P cx (.block id c) f H Q := by
  intro ρ B w0 w a F h1 h2 h3 h4
  refine wpIn_block (wpIn_mono (h ρ B w0 w a F h1 h2 h3 h4) ?_)
  rintro e a' w' ⟨f', H', hp, ρ', hle, hHR, hf'⟩
  cases e with
  | exit id' =>
    simp only [blockP] at hp
    simp only [Exit.inBlock]
    split at hp
    · rename_i hid; rw [if_pos hid]; exact ⟨f', H', hp, ρ', hle, hHR, hf'⟩
    · rename_i hid; rw [if_neg hid]; exact ⟨f', H', hp, ρ', hle, hHR, hf'⟩
  | _ => exact ⟨f', H', hp, ρ', hle, hHR, hf'⟩

def roundP (I : Nat → AF → AHeap → Prop) (m : Nat) (Q : Post) : Post := fun e f H => match e with
  | .normal => ∃ m', m' < m ∧ I m' f H
  | e => Q e f H

theorem CodeS.loop {c : Code} (I : Nat → AF → AHeap → Prop) (m : Nat) (h0 : I m f H) (hs : ∀ m f H, I m f H → CodeS P cx c f H (roundP I m Q)) : CodeS P cx (.loop c) f H Q := by
  have key : ∀ (j : Nat) (m : Nat) (f : AF) (H : AHeap), m < j → I m f H → ∀ (ρ0 ρ : Ren) (B : Nat) (w0 w : World) (a : Act) (F : Fence), Le ρ0 ρ → HR P ρ H B w0 w → LI P ρ cx.loops → FR ρ cx F → AFR P ρ cx.sz f a →
      Code.roundsIn F 0 P c (SPost P ρ0 B w0 cx.sz Q) j a w := by
    intro j
    induction j with
    | zero => intro m f H hm; omega
    | succ j ih =>
      intro m f H hm hI ρ0 ρ B w0 w a F hle0 h1 h2 h3 h4
      refine wpIn_mono (hs m f H hI ρ B w0 w a F h1 h2 h3 h4) ?_
      rintro e a' w' ⟨f', H', hp, ρ', hle, hHR, hf'⟩
      cases e with
      | normal =>
        obtain ⟨m', hm', hI'⟩ := hp
        exact ih m' f' H' (by omega) hI' ρ0 ρ' B w0 w' a' F (hle0.trans hle) hHR (h2.mono hle) (h3.mono hle) hf'
      | _ => exact ⟨f', H', hp, ρ', hle0.trans hle, hHR, hf'⟩
  intro ρ B w0 w a F h1 h2 h3 h4
  exact wpIn_loop_rounds (m + 1) (key (m + 1) m f H (Nat.lt_succ_self m) h0 ρ ρ B w0 w a F (Le.refl _) h1 h2 h3 h4)

def scopeP (Q : Post) : Post := fun e f H => match e with
  | .goto _ => False
  | e => Q e f H

theorem CodeS.scope {c : Code} (h : CodeS P cx c f H (scopeP Q)) : CodeS P cx (.scope c) f H Q := by
  intro ρ B w0 w a F h1 h2 h3 h4
  refine wpIn_scope (wpIn_mono (h ρ B w0 w a F h1 h2 h3 h4) ?_)
  rintro e a' w' ⟨f', H', hp, rest⟩
  cases e with
  | goto t => exact hp.elim
  | _ => exact ⟨f', H', hp, rest⟩


def CallDS (P : Program) (loops : List (Nat × LInfo)) (g : FuncId) (args : List Value) (H : AHeap) (R : AHeap → Prop) : Prop :=
  ∀ (ρ : Ren) (B : Nat) (w0 w : World) (args' : List Value), HR P ρ H B w0 w → LI P ρ loops → VL P ρ args args' → CallsDIn Fence.wide 0 P g args'.toArray .returning w fun e u w' => u = .returning ∧ SCall P ρ B w0 (fun _ H => R H) e w'

def leaveP (P : Program) (loops : List (Nat × LInfo)) (fn : Func) (f : AF) (R : Value → AHeap → Prop) : List Deferred → AHeap → Prop
  | [], H => ∃ l, resA P f H fn.results.toList = some l ∧ R (oneOf l) H
  | d :: ds, H => match d.target with
    | .collected r => H.get r = .defs false ∧ leaveP P loops fn f R ds (H.upd r (.defs true))
    | .fn (.func g) captured => (∃ fn', P.funcs[g]? = some fn' ∧ (fn'.name == "runtime.NumGoroutine") = false ∧ fn'.body.isNone = false) ∧ CallDS P loops g (d.args.toList ++ captured.toList) H fun H' => leaveP P loops fn f R ds H'
    | _ => False

theorem leaveP_ok {loops : List (Nat × LInfo)} {fn : Func} {sz : Nat} {R0 : Value → AHeap → Prop} {R : Ending → World → Prop} : ∀ (ds : List Deferred) (ds' : List Deferred) (ρ : Ren) (H : AHeap) (w : World) (a : Act),
    leaveP P loops fn f R0 ds H → HR P ρ H B w0 w → LI P ρ loops → AFR P ρ sz f a → L2 (DR P ρ) ds ds' → (∀ e w, SCall P ρ B w0 R0 e w → R e w) → LeavesInM Fence.wide 0 P fn a.tmps R ds' .returning w
  | _, _, ρ, H, w, a, ha, h, hl, hf, .nil, hR => by
    obtain ⟨l, hl0, hr⟩ := ha
    obtain ⟨v', h1, h2⟩ := results_ok h hf hl0
    exact ⟨v', h1, hR _ _ ⟨_, H, hr, ρ, v', rfl, Le.refl _, h, h2⟩⟩
  | _, _, ρ, H, w, a, ha, h, hl, hf, .cons hd hds, hR => by
    refine ⟨by simp, ?_⟩
    cases hd with
    | mark hir =>
      rename_i ds ds' r r'
      obtain ⟨hg, hk2⟩ := ha
      obtain ⟨x, o', hx, hxb, hw, hor, _⟩ := h.at hir (by rw [hg]; simp) (by rw [hg]; rfl)
      rw [hg] at hor
      cases hor with
      | defs hk =>
        subst hxb
        have hput := h.put (H' := H.upd r (.defs true)) (o := .defs true) (o' := .deferred none) hx rfl hw rfl (fun q => AHeap.get_upd H r q _) (.defs hk) (by rw [hg]; rfl)
        refine .inl ⟨x.b, _, rfl, ?_, leaveP_ok _ _ ρ _ _ a hk2 hput hl hf hds hR⟩
        simp only [Bool.false_eq_true, if_false] at hw
        simp [Instr.takeDeferred, getObj, setObj, Sem.run, hw]
    | fn g hc hag =>
      rename_i ds ds' c c' x x'
      obtain ⟨⟨fn', hfn, hn0, hb0⟩, hcall0⟩ := ha
      have hn' : ¬ fn'.name = "runtime.NumGoroutine" := by simpa using hn0
      have hb' : ¬ fn'.body = none := by intro h0; simp [h0] at hb0
      have hcall := hcall0 ρ B w0 w _ h hl (hag.append hc)
      have harr : (x'.toList ++ c'.toList).toArray = x' ++ c' := by apply Array.ext'; simp
      rw [harr] at hcall
      refine .inr ⟨fun h0 => by simp [Fence.wide] at h0, _, _, g, x' ++ c', rfl, by simp [invoke, callFunc, hfn, hn', hb'], fun _ _ => trivial, CallsDIn.mono hcall ?_⟩
      rintro e u w' ⟨rfl, v, H', hr, ρ', v', rfl, hle, hHR, hv⟩
      exact leaveP_ok _ _ ρ' H' w' a hr hHR (hl.mono hle) (hf.mono hle) (L2.mono (fun _ _ h => h.mono hle) hds) (fun e w hp => hR e w (hp.le hle))

def bodyS (P : Program) (loops : List (Nat × LInfo)) (fn : Func) (R : Value → AHeap → Prop) : Post := fun e f H => match e with
  | .normal => leaveP P loops fn f R f.defers H
  | .ret => leaveP P loops fn f R f.defers H
  | _ => False

theorem CallS.enter {loops : List (Nat × LInfo)} {g : FuncId} {fn : Func} {c : Code} {args : List Value} {R : Value → AHeap → Prop} {n : Nat} (hfn : P.funcs[g]? = some fn) (hb : fn.body = some c) (hn : fn.ntmps = n)
    (h : ∀ f : AF, f.defers = [] → (∀ j, f.tmp j = args.getD j undef) → CodeS P ⟨g, args.length + (n - args.length), none, loops⟩ c f H (bodyS P loops fn R)) : CallS P loops g args H R := by
  subst hn
  intro ρ B w0 w args' h1 h2 h3
  have hex : ∃ t : Tr Value, ∀ j, t.get j = if 0 ≤ j ∧ j < 0 + args.length then args[j - 0]? else (Tr.e : Tr Value).get j := by
    have go : ∀ (l : List Value) (i : Nat) (t : Tr Value), ∃ t' : Tr Value, ∀ j, t'.get j = if i ≤ j ∧ j < i + l.length then l[j - i]? else t.get j := by
      intro l
      induction l with
      | nil => intro i t; exact ⟨t, fun j => by rw [if_neg (by simp)]⟩
      | cons v vs ih =>
        intro i t
        obtain ⟨t', ht⟩ := ih (i + 1) (t.upd i v)
        refine ⟨t', fun j => ?_⟩
        rw [ht]
        by_cases hj : i + 1 ≤ j ∧ j < i + 1 + vs.length
        · rw [if_pos hj, if_pos (by simp; omega)]
          have : j - i = (j - (i + 1)) + 1 := by omega
          rw [this]; simp
        · rw [if_neg hj, Tr.get_upd]
          by_cases hji : j = i
          · subst hji; rw [if_pos rfl, if_pos (by simp)]; simp
          · rw [if_neg hji, if_neg (by simp; omega)]
    exact go args 0 .e
  obtain ⟨t, ht⟩ := hex
  have hf0 := enter_afr (m := fn.ntmps) h3 ht
  have htmp : ∀ j, (⟨t, []⟩ : AF).tmp j = args.getD j undef := by
    intro j
    simp only [AF.tmp, ht]
    by_cases hj : j < args.length
    · rw [if_pos (by omega)]; simp [List.getD_eq_getElem?_getD, List.getElem?_eq_getElem hj]
    · rw [if_neg (by omega), Tr.get_e]
      simp [List.getD_eq_getElem?_getD, List.getElem?_eq_none (Nat.le_of_not_lt hj)]
  refine callsIn_of_wp_marks hfn hb trivial ?_
  refine wpIn_mono (h ⟨t, []⟩ rfl htmp ρ B w0 w _ Fence.wide h1 h2 rfl hf0) ?_
  rintro e a' w' ⟨f', H', hp, ρ', hle, hHR, hf'⟩
  have hlv : leaveP P loops fn f' R f'.defers H' → LeavesInM Fence.wide 0 P fn a'.tmps (SCall P ρ B w0 R) a'.defers .returning w' := fun hp =>
    leaveP_ok _ _ ρ' H' w' a' hp hHR (h2.mono hle) hf' hf'.defers (fun e w hq => hq.le hle)
  cases e with
  | normal => exact hlv hp
  | ret => exact hlv hp
  | _ => exact hp.elim


theorem CallS.loops {g : FuncId} {args : List Value} {R : Value → AHeap → Prop} {loops : List (Nat × LInfo)} (h : CallS P [] g args H R) : CallS P loops g args H R :=
  fun ρ B w0 w args' hHR _ hv => h ρ B w0 w args' hHR (fun l x hx => by simp [findLoop] at hx) hv
end
end Go.Am
namespace Go.Am
open Go.RowKit


structure DOK2 (ops : List Oper) : Prop where
  edge : ∀ (j : Nat) (o : Oper), ops[j]? = some o → ∀ e, e ∈ o.after.toList → Region.binds .any e = true → e.on < j
  dst : ∀ (i j : Nat) (p o : Oper) (d : Tmp), ops[i]? = some p → ops[j]? = some o → p.dst = some d → o.dst = some d → i = j
  reads : ∀ (i j : Nat) (p o : Oper) (d : Tmp), ops[i]? = some p → ops[j]? = some o → p.dst = some d → d ∈ readsOf ops o → i = j ∨ precedes (bitsBefore ops []) i j = true ∨ precedes (bitsBefore ops []) j i = true

theorem drawOk2_dok {ops : List Oper} (h : drawOk2 ops (bitsBefore ops []) = true) : DOK2 ops := by
  unfold drawOk2 at h
  simp only [List.all_eq_true, List.mem_range] at h
  have hj : ∀ j o, ops[j]? = some o → _ := fun j o ho => by
    have := h j (List.getElem?_eq_some_iff.1 ho).1
    rw [ho] at this
    exact this
  have hij : ∀ i j p o, ops[i]? = some p → ops[j]? = some o → _ := fun i j p o hp ho => by
    have := hj j o ho
    simp only [Bool.and_eq_true, List.all_eq_true, List.mem_range] at this
    have := this.2 i (List.getElem?_eq_some_iff.1 hp).1
    rw [hp] at this
    exact this
  refine ⟨?_, ?_, ?_⟩
  · intro j o ho e he hb
    have := hj j o ho
    simp only [Bool.and_eq_true, List.all_eq_true] at this
    have := this.1 e he
    simpa [hb] using this
  · intro i j p o d hp ho hd hd2
    have := hij i j p o hp ho
    simp only [Bool.and_eq_true] at this
    have := this.1
    simp [hd, hd2] at this
    exact this
  · intro i j p o d hp ho hd hr
    have := hij i j p o hp ho
    simp only [Bool.and_eq_true] at this
    have := this.2
    simp only [hd, Bool.or_eq_true] at this
    rcases this with ((h1 | h1) | h1) | h1
    · simp at h1; exact absurd hr h1
    · exact .inl (by simpa using h1)
    · exact .inr (.inl h1)
    · exact .inr (.inr h1)

def HoldsV : Option (Value × AHeap) → (Value → AHeap → Prop) → Prop
  | some (v, H), k => k v H
  | none, _ => False
theorem holdsV_of {o : Option (Value × AHeap)} {k : Value → AHeap → Prop} (h : HoldsV o k) : ∃ v H, o = some (v, H) ∧ k v H := by
  cases o with
  | none => exact h.elim
  | some p => exact ⟨p.1, p.2, rfl, h⟩
@[go_sem] theorem holdsV_pair {v : Value} {H : AHeap} {k : Value → AHeap → Prop} : HoldsV (pairK v H) k = k v H := rfl
@[go_sem] theorem holdsV_none {k : Value → AHeap → Prop} : HoldsV none k = False := rfl

def passP (P : Program) (cx : Cx) (ops : Array Oper) : List Oper → Nat → DSt → (DSt → Prop) → Prop
  | [], _, s, k => k s
  | o :: rest, j, s, k =>
    match s.ex.contains j || !readyD s.ex o with
    | true => passP P cx ops rest (j + 1) s k
    | false => match wantedA ops s.f o with
      | some false => putP cx.sz s.f o.dst undef fun f' => passP P cx ops rest (j + 1) ⟨f', s.H, j :: s.ex, s.qs⟩ k
      | some true => match loud o.op with
        | true => passP P cx ops rest (j + 1) s k
        | false => HoldsV (valA P o (decode o.op) (evR (opReads o) s.f) s.H pairK) fun v _ => putP cx.sz s.f o.dst v fun f' => passP P cx ops rest (j + 1) ⟨f', s.H, j :: s.ex, ⟨j, o, s.f, v⟩ :: s.qs⟩ k
      | none => False

def stableP (P : Program) (B : List Nat) (i : Nat) (H : AHeap) : List Rec1 → Prop
  | [] => True
  | q :: qs => (precedes B q.j i = true ∨ HoldsV (valA P q.o (decode q.o.op) (evR (opReads q.o) q.f) H pairK) fun v _ => v = q.v) ∧ stableP P B i H qs

def loudP (P : Program) (cx : Cx) (B : List Nat) (o : Oper) (j : Nat) (s : DSt) (k : DSt → Prop) : Prop :=
  match decode o.op with
  | .call g args => calleeP P cx.loops (evR (opReads o) s.f g) (args.map (evR (opReads o) s.f)) s.H fun v H' => stableP P B j H' s.qs ∧ putP cx.sz s.f o.dst v fun f' => k ⟨f', H', j :: s.ex, keepQ B j s.qs⟩
  | .rest .. => False
  | d => HoldsV (valA P o d (evR (opReads o) s.f) s.H pairK) fun v H' => stableP P B j H' s.qs ∧ putP cx.sz s.f o.dst v fun f' => k ⟨f', H', j :: s.ex, keepQ B j s.qs⟩

def loudsP (P : Program) (cx : Cx) (ops : Array Oper) (B : List Nat) : List Oper → Nat → DSt → (DSt → Prop) → Prop
  | [], _, _, _ => True
  | o :: rest, j, s, k =>
    match s.ex.contains j || !readyD s.ex o with
    | true => loudsP P cx ops B rest (j + 1) s k
    | false => (wantedA ops s.f o = some true ∧ loudP P cx B o j s k) ∧ loudsP P cx ops B rest (j + 1) s k

def treeP (P : Program) (cx : Cx) (ops : Array Oper) (B : List Nat) : Nat → DSt → (AF → AHeap → Prop) → Prop
  | 0, _, _ => False
  | n + 1, s, k => passP P cx ops ops.toList 0 s fun s => match allIn s.ex ops.size with
    | true => k s.f s.H
    | false => loudsP P cx ops B ops.toList 0 s fun s => treeP P cx ops B n s k

section
variable {P : Program} {cx : Cx} {ops : Array Oper} {B0 : List Nat}

theorem allIn_spec {ex : List Nat} : ∀ {n : Nat}, allIn ex n = true ↔ ∀ j, j < n → ex.contains j = true
  | 0 => by simp [allIn]
  | n + 1 => by
    simp only [allIn, Bool.and_eq_true, allIn_spec (n := n)]
    constructor
    · rintro ⟨h1, h2⟩ j hj
      rcases Nat.lt_or_ge j n with h | h
      · exact h2 j h
      · have : j = n := by omega
        subst this; exact h1
    · intro h
      exact ⟨h n (by omega), fun j hj => h j (by omega)⟩

def Snap (ops : Array Oper) (f0 : AF) (V : Nat → Value) (j : Nat) (o : Oper) (fj : AF) : Prop := ∀ t, t ∈ readsOf ops.toList o →
  (∃ (l : Nat) (p : Oper), ops[l]? = some p ∧ p.dst = some t ∧ precedes (bitsBefore ops.toList []) l j = true ∧ fj.tmp t = V l) ∨
  ((∀ (l : Nat) (p : Oper), ops[l]? = some p → p.dst = some t → l = j ∨ precedes (bitsBefore ops.toList []) j l = true) ∧ fj.tmp t = f0.tmp t)

def Early (P : Program) (ops : Array Oper) (f0 : AF) (V : Nat → Value) (H : AHeap) (qs : List Rec1) (j : Nat) (o : Oper) : Prop :=
  ∃ fj, Snap ops f0 V j o fj ∧
    ((wantedA ops fj o = some false ∧ V j = undef) ∨
     (wantedA ops fj o = some true ∧ loud o.op = false ∧ (⟨j, o, fj, V j⟩ : Rec1) ∈ qs ∧ ∃ H', valA P o (decode o.op) (evR (opReads o) fj) H pairK = some (V j, H')))

structure AInv (P : Program) (cx : Cx) (ops : Array Oper) (f0 : AF) (V : Nat → Value) (SR : Nat → Prop) (s : DSt) : Prop where
  lt : ∀ j, s.ex.contains j = true → j < ops.size
  closed : Closed ops.toList fun j => s.ex.contains j = true
  sub : ∀ j, SR j → s.ex.contains j = true
  dlt : ∀ (j : Nat) (o : Oper) (d : Tmp), ops[j]? = some o → s.ex.contains j = true → o.dst = some d → d < cx.sz
  frame : ∀ t, (∃ (l : Nat) (p : Oper), s.ex.contains l = true ∧ ops[l]? = some p ∧ p.dst = some t ∧ s.f.tmp t = V l) ∨ ((∀ (l : Nat) (p : Oper), ops[l]? = some p → p.dst = some t → s.ex.contains l = false) ∧ s.f.tmp t = f0.tmp t)
  defers : s.f.defers = f0.defers
  early : ∀ (j : Nat) (o : Oper), ops[j]? = some o → s.ex.contains j = true → ¬ SR j → Early P ops f0 V s.H s.qs j o

variable {f0 : AF} {V : Nat → Value} {SR : Nat → Prop} {s : DSt}

theorem contains_cons {ex : List Nat} {i j : Nat} : (i :: ex).contains j = true ↔ j = i ∨ ex.contains j = true := by
  simp [List.contains_cons]

theorem AInv.snap (inv : AInv P cx ops f0 V SR s) (hd : DOK2 ops.toList) {j : Nat} {o : Oper} (ho : ops[j]? = some o) (hn : s.ex.contains j = false) (hr : readyD s.ex o = true) : Snap ops f0 V j o s.f := by
  intro t ht
  have hre : ∀ e, e ∈ o.after.toList → Region.binds .any e = true → s.ex.contains e.on = true := by
    intro e he hb
    have := (List.all_eq_true.1 hr) e he
    simpa [hb] using this
  have hlt : ∀ k, s.ex.contains k = true → k < ops.toList.length := fun k hk => by simpa using inv.lt k hk
  rcases inv.frame t with ⟨l, p, hl, hp, hpd, hv⟩ | ⟨hno, hv⟩
  · left
    refine ⟨l, p, hp, hpd, ?_, hv⟩
    rcases hd.reads l j p o t (toList_get hp) (toList_get ho) hpd ht with rfl | h1 | h1
    · rw [hl] at hn; cases hn
    · exact h1
    · have := closed_prec inv.closed hlt l hl h1
      rw [this] at hn; cases hn
  · right
    refine ⟨fun l p hp hpd => ?_, hv⟩
    rcases hd.reads l j p o t (toList_get hp) (toList_get ho) hpd ht with rfl | h1 | h1
    · exact .inl rfl
    · have := ready_prec inv.closed hlt (toList_get ho) hre h1
      have h2 := hno l p hp hpd
      rw [this] at h2; cases h2
    · exact .inr h1

def setVal (V : Nat → Value) (j : Nat) (v : Value) : Nat → Value := fun i => if i = j then v else V i

theorem Snap.setVal {j i : Nat} {o : Oper} {fi : AF} {v : Value} (h : Snap ops f0 V i o fi) (hn : precedes (bitsBefore ops.toList []) j i = false) : Snap ops f0 (setVal V j v) i o fi := by
  intro t ht
  rcases h t ht with ⟨l, p, h1, h2, h3, h4⟩ | h1
  · left
    refine ⟨l, p, h1, h2, h3, ?_⟩
    rw [h4]; unfold Am.setVal
    rw [if_neg]
    rintro rfl
    rw [hn] at h3; cases h3
  · exact .inr h1

theorem not_prec_new (inv : AInv P cx ops f0 V SR s) {j i : Nat} (hn : s.ex.contains j = false) (hi : s.ex.contains i = true) : precedes (bitsBefore ops.toList []) j i = false := by
  rw [Bool.eq_false_iff]
  intro h
  have := closed_prec inv.closed (fun k hk => by simpa using inv.lt k hk) i hi h
  rw [this] at hn; cases hn

theorem AInv.add (inv : AInv P cx ops f0 V SR s) (hd : DOK2 ops.toList) {j : Nat} {o : Oper} (ho : ops[j]? = some o) (hn : s.ex.contains j = false) (hr : readyD s.ex o = true) {v : Value} {f' : AF} {H' : AHeap} {qs' : List Rec1} {SR' : Nat → Prop}
    (hdef : f'.defers = s.f.defers) (hlt : ∀ d, o.dst = some d → d < cx.sz) (ht : ∀ t, f'.tmp t = if o.dst = some t then v else s.f.tmp t) (hSR : ∀ i, SR' i → i = j ∨ s.ex.contains i = true)
    (hearly : ∀ (i : Nat) (p : Oper), ops[i]? = some p → i = j ∨ s.ex.contains i = true → ¬ SR' i → Early P ops f0 (setVal V j v) H' qs' i p) : AInv P cx ops f0 (setVal V j v) SR' ⟨f', H', j :: s.ex, qs'⟩ := by
  have hre : ∀ e, e ∈ o.after.toList → Region.binds .any e = true → s.ex.contains e.on = true := by
    intro e he hb
    have := (List.all_eq_true.1 hr) e he
    simpa [hb] using this
  refine ⟨?_, ?_, ?_, ?_, ?_, ?_, ?_⟩
  · intro i hi
    rcases contains_cons.1 hi with rfl | hi
    · exact get_lt ho
    · exact inv.lt i hi
  · intro i p hp hi e he hb
    rcases contains_cons.1 hi with rfl | hi
    · have := of_toList_get hp
      rw [ho] at this; cases this
      exact contains_cons.2 (.inr (hre e he hb))
    · exact contains_cons.2 (.inr (inv.closed i p hp hi e he hb))
  · intro i hi; exact contains_cons.2 (hSR i hi)
  · intro i p d hp hi hpd
    rcases contains_cons.1 hi with rfl | hi
    · rw [ho] at hp; cases hp; exact hlt d hpd
    · exact inv.dlt i p d hp hi hpd
  · intro t
    simp only
    rw [ht]
    by_cases hot : o.dst = some t
    · left
      exact ⟨j, o, contains_cons.2 (.inl rfl), ho, hot, by rw [if_pos hot, setVal, if_pos rfl]⟩
    · rw [if_neg hot]
      rcases inv.frame t with ⟨l, p, h1, h2, h3, h4⟩ | ⟨h1, h2⟩
      · left
        refine ⟨l, p, contains_cons.2 (.inr h1), h2, h3, ?_⟩
        rw [h4, setVal, if_neg]
        rintro rfl
        rw [h1] at hn; cases hn
      · right
        refine ⟨fun l p hp hpd => ?_, h2⟩
        have h3 := h1 l p hp hpd
        rw [Bool.eq_false_iff]
        intro h4
        rcases contains_cons.1 h4 with rfl | h4
        · rw [ho] at hp; cases hp; exact hot hpd
        · rw [h3] at h4; cases h4
  · simp only; rw [hdef]; exact inv.defers
  · intro i p hp hi hns
    exact hearly i p hp (contains_cons.1 hi) hns

def Full (ops : Array Oper) (n : Nat) (s : DSt) : Prop := ∀ (i : Nat) (o : Oper), i < n → ops[i]? = some o → s.ex.contains i = false → readyD s.ex o = true → loud o.op = true

theorem Full.add {n j : Nat} {f' : AF} {H' : AHeap} {qs' : List Rec1} (h : Full ops n s) (hd : DOK2 ops.toList) (hj : n ≤ j) : Full ops n ⟨f', H', j :: s.ex, qs'⟩ := by
  intro i o hi ho hn hr
  refine h i o hi ho ?_ ?_
  · rw [Bool.eq_false_iff] at hn ⊢
    exact fun h0 => hn (contains_cons.2 (.inr h0))
  · unfold readyD at hr ⊢
    rw [List.all_eq_true] at hr ⊢
    intro e he
    have := hr e he
    cases hb : Region.binds .any e with
    | false => rfl
    | true =>
      simp only [hb, Bool.not_true, Bool.false_or] at this ⊢
      rcases contains_cons.1 this with h1 | h1
      · have := hd.edge i o (toList_get ho) e he hb
        omega
      · exact h1

theorem pass_ok (hd : DOK2 ops.toList) {k : DSt → Prop} : ∀ (l : List Oper) (j : Nat) (s : DSt) (V : Nat → Value), ops.toList.drop j = l → passP P cx ops l j s k → AInv P cx ops f0 V SR s → Full ops j s →
    ∃ s' V', k s' ∧ s'.H = s.H ∧ AInv P cx ops f0 V' SR s' ∧ Full ops ops.size s' ∧ (∀ i, SR i → V' i = V i) := by
  intro l
  induction l with
  | nil =>
    intro j s V hdrop h inv hfull
    refine ⟨s, V, h, rfl, inv, fun i o hi ho => hfull i o ?_ ho, fun _ _ => rfl⟩
    have : ops.toList.length ≤ j := List.drop_eq_nil_iff.1 hdrop
    simp at this; omega
  | cons o rest ih =>
    intro j s V hdrop h inv hfull
    have ho : ops[j]? = some o := by
      have : (ops.toList.drop j)[0]? = some o := by rw [hdrop]; rfl
      rw [List.getElem?_drop] at this
      simpa using this
    have hdrop' : ops.toList.drop (j + 1) = rest := by
      have : (ops.toList.drop j).drop 1 = rest := by rw [hdrop]; rfl
      rwa [List.drop_drop] at this
    unfold passP at h
    have skip : (s.ex.contains j || !readyD s.ex o) = true ∨ loud o.op = true → Full ops (j + 1) s := by
      intro hc i p hi hp hn hr
      rcases Nat.lt_or_ge i j with h1 | h1
      · exact hfull i p h1 hp hn hr
      · have : i = j := by omega
        subst this
        rw [ho] at hp; cases hp
        rcases hc with hc | hc
        · rw [hn, hr] at hc; cases hc
        · exact hc
    split at h
    · rename_i hc
      exact ih (j + 1) s V hdrop' h inv (skip (.inl hc))
    · rename_i hc
      have hn : s.ex.contains j = false := by
        cases h1 : s.ex.contains j with
        | false => rfl
        | true => rw [h1] at hc; cases hc
      have hr : readyD s.ex o = true := by
        cases h1 : readyD s.ex o with
        | true => rfl
        | false => rw [hn, h1] at hc; cases hc
      have hsnap := inv.snap hd ho hn hr
      have go : ∀ (v : Value) (f' : AF) (qs' : List Rec1), (∀ q, q ∈ s.qs → q ∈ qs') → passP P cx ops rest (j + 1) ⟨f', s.H, j :: s.ex, qs'⟩ k → f'.defers = s.f.defers → (∀ d, o.dst = some d → d < cx.sz) → (∀ t, f'.tmp t = if o.dst = some t then v else s.f.tmp t) →
          Early P ops f0 (setVal V j v) s.H qs' j o →
          ∃ s' V', k s' ∧ s'.H = s.H ∧ AInv P cx ops f0 V' SR s' ∧ Full ops ops.size s' ∧ (∀ i, SR i → V' i = V i) := by
        intro v f' qs' hq hpp hdef hlt ht hearly
        have inv' : AInv P cx ops f0 (setVal V j v) SR ⟨f', s.H, j :: s.ex, qs'⟩ := inv.add hd ho hn hr hdef hlt ht (fun i hi => .inr (inv.sub i hi)) (by
          intro i p hp hi hns
          by_cases hij : i = j
          · subst hij; rw [ho] at hp; cases hp; exact hearly
          · have hi := hi.resolve_left hij
            obtain ⟨fi, h1, h2⟩ := inv.early i p hp hi hns
            refine ⟨fi, h1.setVal (not_prec_new inv hn hi), ?_⟩
            have hV : setVal V j v i = V i := by rw [setVal, if_neg hij]
            rw [hV]
            rcases h2 with h2 | ⟨h2, h3, h4, h5⟩
            · exact .inl h2
            · exact .inr ⟨h2, h3, hq _ h4, h5⟩)
        obtain ⟨s', V', h1, h2, h3, h4, h5⟩ := ih (j + 1) _ _ hdrop' hpp inv' (by
          intro i p hi hp hn2 hr2
          rcases Nat.lt_or_ge i j with h1 | h1
          · exact (hfull.add hd (Nat.le_refl j)) i p h1 hp hn2 hr2
          · have : i = j := by omega
            subst this
            rw [contains_cons.2 (.inl rfl)] at hn2; cases hn2)
        refine ⟨s', V', h1, h2, h3, h4, fun i hi => ?_⟩
        rw [h5 i hi, setVal, if_neg]
        rintro rfl
        have := inv.sub _ hi
        rw [this] at hn; cases hn
      split at h
      · rename_i hw
        obtain ⟨f', hk, hdef, hlt, ht⟩ := putP_ok h
        refine go undef f' s.qs (fun _ h => h) hk hdef hlt ht ⟨s.f, ?_, .inl ⟨hw, by rw [setVal, if_pos rfl]⟩⟩
        refine hsnap.setVal ?_
        rw [Bool.eq_false_iff]; intro h0
        have := ready_prec inv.closed (fun k hk => by simpa using inv.lt k hk) (toList_get ho) (fun e he hb => by have := (List.all_eq_true.1 hr) e he; simpa [hb] using this) h0
        rw [this] at hn; cases hn
      · rename_i hw
        split at h
        · rename_i hl
          exact ih (j + 1) s V hdrop' h inv (skip (.inr hl))
        · rename_i hl
          obtain ⟨v, H1, hq, hqq⟩ := holdsV_of h
          obtain ⟨f', hk, hdef, hlt, ht⟩ := putP_ok hqq
          have hsn := hsnap.setVal (v := v) (j := j) (by
            rw [Bool.eq_false_iff]; intro h0
            have := ready_prec inv.closed (fun k hk => by simpa using inv.lt k hk) (toList_get ho) (fun e he hb => by have := (List.all_eq_true.1 hr) e he; simpa [hb] using this) h0
            rw [this] at hn; cases hn)
          refine go v f' (⟨j, o, s.f, v⟩ :: s.qs) (fun _ h => List.mem_cons_of_mem _ h) hk hdef hlt ht ⟨s.f, hsn, .inr ⟨hw, hl, ?_, ?_⟩⟩
          · rw [setVal, if_pos rfl]; exact List.mem_cons_self ..
          · exact ⟨H1, by rw [setVal, if_pos rfl]; exact hq⟩
      · exact h.elim

theorem stable_of {B : List Nat} {i : Nat} {H : AHeap} {qs : List Rec1} (h : stableP P B i H qs) (q : Rec1) (hq : q ∈ qs) (hn : precedes B q.j i = false) : ∃ H', valA P q.o (decode q.o.op) (evR (opReads q.o) q.f) H pairK = some (q.v, H') := by
  induction qs with
  | nil => cases hq
  | cons q0 qs ih =>
    cases hq with
    | head =>
      rcases h.1 with h1 | h1
      · rw [h1] at hn; cases hn
      · obtain ⟨v, H1, h2, h3⟩ := holdsV_of h1
        exact ⟨H1, by rw [h2, h3]⟩
    | tail _ hq => exact ih h.2 hq

theorem louds_at {B : List Nat} {k : DSt → Prop} : ∀ (l : List Oper) (j : Nat), ops.toList.drop j = l → loudsP P cx ops B l j s k → ∀ (i : Nat) (o : Oper), j ≤ i → ops[i]? = some o → s.ex.contains i = false → readyD s.ex o = true → wantedA ops s.f o = some true ∧ loudP P cx B o i s k := by
  intro l
  induction l with
  | nil =>
    intro j hdrop h i o hji ho
    have : ops.toList.length ≤ j := List.drop_eq_nil_iff.1 hdrop
    have := get_lt ho
    simp at *; omega
  | cons p rest ih =>
    intro j hdrop h i o hji ho hn hr
    have hp : ops[j]? = some p := by
      have : (ops.toList.drop j)[0]? = some p := by rw [hdrop]; rfl
      rw [List.getElem?_drop] at this
      simpa using this
    have hdrop' : ops.toList.drop (j + 1) = rest := by
      have : (ops.toList.drop j).drop 1 = rest := by rw [hdrop]; rfl
      rwa [List.drop_drop] at this
    unfold loudsP at h
    by_cases hij : i = j
    · subst hij
      rw [ho] at hp; cases hp
      rw [hn, hr] at h
      exact h.1
    · split at h
      · exact ih (j + 1) hdrop' h i o (by omega) ho hn hr
      · exact ih (j + 1) hdrop' h.2 i o (by omega) ho hn hr

variable {ρ : Ren} {B : Nat} {w0 w : World} {a : Act}

structure CInv (P : Program) (B : Nat) (w0 : World) (sz : Nat) (ops : Array Oper) (f0 : AF) (V : Nat → Value) (SR : Nat → Prop) (H : AHeap) (ρ : Ren) (a : Act) (w : World) : Prop where
  closed : Closed ops.toList SR
  lt : ∀ j, SR j → j < ops.toList.length
  heap : HR P ρ H B w0 w
  size : a.tmps.size = sz
  defers : L2 (DR P ρ) f0.defers a.defers
  done : ∀ (i : Nat) (o : Oper) (d : Tmp), ops[i]? = some o → SR i → o.dst = some d → VR P ρ (V i) (a.tmps.getD d undef)
  rest : ∀ d, (∀ (i : Nat) (o : Oper), ops[i]? = some o → SR i → o.dst ≠ some d) → VR P ρ (f0.tmp d) (a.tmps.getD d undef)

theorem CInv.reads (c : CInv P B w0 cx.sz ops f0 V SR s.H ρ a w) (hd : DOK2 ops.toList) {j : Nat} {o : Oper} {fj : AF} (ho : ops[j]? = some o) (hns : ¬ SR j) (hre : ∀ e, e ∈ o.after.toList → Region.binds .any e = true → SR e.on)
    (hsn : Snap ops f0 V j o fj) {t : Tmp} (ht : t ∈ readsOf ops.toList o) : VR P ρ (fj.tmp t) (a.tmps.getD t undef) := by
  rcases hsn t ht with ⟨l, p, hp, hpd, hpr, hv⟩ | ⟨hno, hv⟩
  · rw [hv]
    exact c.done l p t hp (ready_prec c.closed c.lt (toList_get ho) hre hpr) hpd
  · rw [hv]
    refine c.rest t fun i p hp hi hpd => ?_
    rcases hno i p hp hpd with rfl | h1
    · exact hns hi
    · exact hns (closed_prec c.closed c.lt i hi h1)

theorem CInv.next (c : CInv P B w0 cx.sz ops f0 V SR s.H ρ a w) (hd : DOK2 ops.toList) {ρ' : Ren} {w' : World} {H' : AHeap} (hle : Le ρ ρ') {j : Nat} {o : Oper} (ho : ops[j]? = some o) (hns : ¬ SR j) (hre : ∀ e, e ∈ o.after.toList → Region.binds .any e = true → SR e.on)
    (hlt : ∀ d, o.dst = some d → d < cx.sz) {v' : Value} {V' : Nat → Value} (hV : ∀ i, SR i → V' i = V i) (hv : VR P ρ' (V' j) v') {SR' : Nat → Prop} (hS : ∀ i, SR' i ↔ SR i ∨ i = j) (hheap : HR P ρ' H' B w0 w') : CInv P B w0 cx.sz ops f0 V' SR' H' ρ' (a.put o.dst v') w' := by
  have hlt' : ∀ d, o.dst = some d → d < a.tmps.size := by rw [c.size]; exact hlt
  refine ⟨?_, ?_, hheap, by rw [put_size]; exact c.size, by rw [put_defers']; exact L2.mono (fun _ _ h => h.mono hle) c.defers, ?_, ?_⟩
  · intro i p hp hi e he hb
    rcases (hS i).1 hi with h | rfl
    · exact (hS _).2 (.inl (c.closed i p hp h e he hb))
    · have := of_toList_get hp
      rw [ho] at this; cases this
      exact (hS _).2 (.inl (hre e he hb))
  · intro i hi
    rcases (hS i).1 hi with h | rfl
    · exact c.lt i h
    · simpa using get_lt ho
  · intro i p d hp hi hpd
    rw [put_getD hlt']
    rcases (hS i).1 hi with h | rfl
    · rw [if_neg fun h1 => hns (hd.dst i j p o d (toList_get hp) (toList_get ho) hpd h1 ▸ h), hV i h]
      exact (c.done i p d hp h hpd).mono hle
    · rw [ho] at hp; cases hp
      rw [if_pos hpd]; exact hv
  · intro d h
    rw [put_getD hlt', if_neg (h j o ho ((hS j).2 (.inr rfl)))]
    exact (c.rest d fun i p hp hi => h i p hp ((hS i).2 (.inl hi))).mono hle

def afterP (P : Program) (cx : Cx) (ops : Array Oper) (B : List Nat) (n : Nat) (k : AF → AHeap → Prop) (s : DSt) : Prop := match allIn s.ex ops.size with
  | true => k s.f s.H
  | false => loudsP P cx ops B ops.toList 0 s fun s => treeP P cx ops B n s k

theorem draws2 (hd : DOK2 ops.toList) (hB : bitsBefore ops.toList [] = B0) {k : AF → AHeap → Prop} {Fe : Fence} {Q : Exit → Act → World → Prop} : ∀ (fuel n : Nat) (listed : Array Bool) (ρ : Ren) (s : DSt) (V : Nat → Value) (a : Act) (w : World),
    listed.size = ops.size → ((List.range ops.size).filter fun j => !listed.getD j false).length ≤ fuel → LI P ρ cx.loops → FR ρ cx Fe →
    CInv P B w0 cx.sz ops f0 V (fun j => listed.getD j false = true) s.H ρ a w → AInv P cx ops f0 V (fun j => listed.getD j false = true) s → Full ops ops.size s → afterP P cx ops B0 n k s →
    (∀ ρ' f' H' a' w', k f' H' → Le ρ ρ' → HR P ρ' H' B w0 w' → AFR P ρ' cx.sz f' a' → Q .normal a' w') → wpAnyIn Fe 0 P .any ops Q fuel listed a w := by
  intro fuel
  have allS : ∀ (listed : Array Bool), listed.size = ops.size → Region.ready .any ops listed = [] → ∀ j, j < ops.size → listed.getD j false = true := by
    intro listed hsz hr j
    induction j using Nat.strongRecOn with
    | _ j ih =>
      intro hj
      obtain ⟨o, ho⟩ := get_of_lt hj
      cases hc : listed.getD j false with
      | true => rfl
      | false =>
        have hmem : j ∈ Region.ready .any ops listed := mem_ready.2 ⟨by
          simp only [Array.getD_eq_getD_getElem?] at hc ⊢
          rw [Array.getElem?_eq_getElem (by omega)] at hc ⊢
          exact hc, o, ho, fun e he hb => by
            have hlt := hd.edge j o (toList_get ho) e (by simpa using he) hb
            exact ih e.on hlt (by omega)⟩
        rw [hr] at hmem; cases hmem
  have fin : ∀ (n : Nat) (listed : Array Bool) (ρ : Ren) (s : DSt) (V : Nat → Value) (a : Act) (w : World), listed.size = ops.size →
      CInv P B w0 cx.sz ops f0 V (fun j => listed.getD j false = true) s.H ρ a w → AInv P cx ops f0 V (fun j => listed.getD j false = true) s → afterP P cx ops B0 n k s →
      (∀ ρ' f' H' a' w', k f' H' → Le ρ ρ' → HR P ρ' H' B w0 w' → AFR P ρ' cx.sz f' a' → Q .normal a' w') → Region.ready .any ops listed = [] → Q .normal a w := by
    intro n listed ρ s V a w hsz c inv haf hQ hr
    have hall := allS listed hsz hr
    have hex : allIn s.ex ops.size = true := allIn_spec.2 fun j hj => inv.sub j (hall j hj)
    unfold afterP at haf
    rw [hex] at haf
    refine hQ ρ s.f s.H a w haf (Le.refl _) c.heap ⟨c.size, fun t => ?_, by rw [inv.defers]; exact c.defers⟩
    rcases inv.frame t with ⟨l, p, h1, h2, h3, h4⟩ | ⟨h1, h2⟩
    · rw [h4]; exact c.done l p t h2 (hall l (get_lt h2)) h3
    · rw [h2]
      refine c.rest t fun i p hp hi hpd => ?_
      have := h1 i p hp hpd
      rw [inv.sub i hi] at this; cases this
  induction fuel with
  | zero =>
    intro n listed ρ s V a w hsz hlen hl hF c inv hfull haf hQ
    have hr : Region.ready .any ops listed = [] := by
      cases hr : Region.ready .any ops listed with
      | nil => rfl
      | cons j js =>
        exfalso
        have hj : j ∈ Region.ready .any ops listed := by rw [hr]; exact List.mem_cons_self ..
        obtain ⟨h0, o, ho, _⟩ := mem_ready.1 hj
        have hjl := get_lt ho
        have hj2 : j ∈ (List.range ops.size).filter fun j => !listed.getD j false := by
          rw [List.mem_filter, List.mem_range]
          refine ⟨hjl, ?_⟩
          simp only [Array.getD_eq_getD_getElem?] at h0 ⊢
          rw [Array.getElem?_eq_getElem (by omega)] at h0 ⊢
          simp at h0 ⊢; exact h0
        have := List.length_pos_of_mem hj2
        omega
    exact ⟨hr, fin n listed ρ s V a w hsz c inv haf hQ hr⟩
  | succ fuel ih =>
    intro n listed ρ s V a w hsz hlen hl hF c inv hfull haf hQ
    refine ⟨fin n listed ρ s V a w hsz c inv haf hQ, fun i hi => ?_⟩
    obtain ⟨h0, o, ho, hall⟩ := mem_ready.1 hi
    have hil := get_lt ho
    have hns0 : listed.getD i false = false := by
      simp only [Array.getD_eq_getD_getElem?] at h0 ⊢
      rw [Array.getElem?_eq_getElem (by omega)] at h0 ⊢
      exact h0
    have hns : ¬ listed.getD i false = true := by simp [hns0]
    have hre : ∀ e, e ∈ o.after.toList → Region.binds .any e = true → listed.getD e.on false = true := fun e he hb => hall e (by simpa using he) hb
    have hget : ∀ j, (listed.setIfInBounds i true).getD j false = true ↔ listed.getD j false = true ∨ j = i := by
      intro j
      simp only [Array.getD_eq_getD_getElem?]
      by_cases hji : j = i
      · subst hji
        rw [Array.getElem?_setIfInBounds_self_of_lt (by omega)]
        simp
      · rw [Array.getElem?_setIfInBounds_ne (fun h => hji h.symm)]
        simp [hji]
    have hlen2 : ((List.range ops.size).filter fun j => !(listed.setIfInBounds i true).getD j false).length ≤ fuel := by
      have := filter_lt (p := fun j => !listed.getD j false) (p' := fun j => !(listed.setIfInBounds i true).getD j false) (i := i) (l := List.range ops.size)
        (fun x hx => by
          simp only [Bool.not_eq_true'] at hx ⊢
          cases hc : listed.getD x false with
          | false => rfl
          | true =>
            have := (hget x).2 (.inl hc)
            rw [this] at hx; cases hx)
        (by simp [hns0]) (by have := (hget i).2 (.inr rfl); simp [this]) (by simpa using hil)
      omega
    unfold wpOpIn
    rw [ho]
    simp only
    cases hex : s.ex.contains i with
    | true =>
      -- it came up early
      obtain ⟨fi, hsn, hcase⟩ := inv.early i o ho hex hns
      have hreads : ∀ t, t ∈ readsOf ops.toList o → VR P ρ (fi.tmp t) (a.tmps.getD t undef) := fun t ht => c.reads (s := s) hd ho hns hre hsn ht
      have hev : ∀ x, VR P ρ (evR (opReads o) fi x) (a.eval x) := evR_ok fun t ht => hreads t (reads_op ht)
      have hwant : ∀ b, wantedA ops fi o = some b → Region.wanted o (yielded ops a.tmps) = b := fun b hb =>
        wanted_at (fun g want p d hg hp hdst => hreads d (reads_guard hg (toList_get hp) hdst)) hb
      have hlt : ∀ d, o.dst = some d → d < cx.sz := fun d hdd => inv.dlt i o d ho hex hdd
      have hgo : ∀ (ρ' : Ren) (v' : Value) (w' : World), Le ρ ρ' → HR P ρ' s.H B w0 w' → VR P ρ' (V i) v' → wpAnyIn Fe 0 P .any ops Q fuel (listed.setIfInBounds i true) (a.put o.dst v') w' := by
        intro ρ' v' w' hle hHR hvr
        refine ih n (listed.setIfInBounds i true) ρ' s V (a.put o.dst v') w' (by simpa using hsz) hlen2 (hl.mono hle) (hF.mono hle) (c.next (s := s) hd hle ho hns hre hlt (fun _ _ => rfl) hvr (fun j => hget j) hHR) ?_ hfull haf
          (fun ρ2 f2 H2 a2 w2 hk hle2 => hQ ρ2 f2 H2 a2 w2 hk (hle.trans hle2))
        exact ⟨inv.lt, inv.closed, fun j hj => by
          rcases (hget j).1 hj with h1 | rfl
          · exact inv.sub j h1
          · exact hex, inv.dlt, inv.frame, inv.defers, fun j p hp hj hnj => inv.early j p hp hj fun h1 => hnj ((hget j).2 (.inl h1))⟩
      rcases hcase with ⟨hw, hv⟩ | ⟨hw, hlo, _, H', hva⟩
      · rw [hwant _ hw]
        simp only [Bool.false_eq_true, if_false]
        exact ⟨fun _ _ => hF.fn _, hgo ρ undef w (Le.refl _) c.heap (by rw [hv]; exact VR.undef)⟩
      · rw [hwant _ hw]
        simp only [if_true]
        have hnd : ∀ c, o.op ≠ .defer c := by
          intro c hc
          obtain ⟨n, g, args, hdec⟩ := decode_defer hc
          rw [hdec] at hva
          simp [valA] at hva
        obtain ⟨v1, H2, ρ', v', w', h1, h2, h3, h4, h5⟩ := valA_ok c.heap hev hva
        obtain ⟨v2, hk2⟩ := quiet_k hlo hva
        simp only [pairK, Option.some.injEq, Prod.mk.injEq] at h1 hk2
        obtain ⟨rfl, rfl⟩ := h1
        obtain ⟨_, rfl⟩ := hk2
        refine ⟨fun g _ => hF.fn g, ?_⟩
        rw [Oper.semAt_eq _ _ _ hnd]
        have hfin := hgo ρ' v' w' h2 h3 h4
        rcases h5 with h5 | ⟨h5, rfl⟩
        · rw [h5]; exact hfin
        · rw [h5]; exact hfin
    | false =>
      -- it touches memory
      have hrd : readyD s.ex o = true := by
        unfold readyD
        rw [List.all_eq_true]
        intro e he
        cases hb : Region.binds .any e with
        | false => rfl
        | true =>
          simp only [Bool.not_true, Bool.false_or]
          exact inv.sub _ (hre e he hb)
      have hlo := hfull i o hil ho hex hrd
      have hnall : allIn s.ex ops.size = false := by
        rw [Bool.eq_false_iff]; intro h1
        have := allIn_spec.1 h1 i hil
        rw [hex] at this; cases this
      unfold afterP at haf
      rw [hnall] at haf
      obtain ⟨hw, hloud⟩ := louds_at ops.toList 0 rfl haf i o (Nat.zero_le _) ho hex hrd
      have hsn := inv.snap hd ho hex hrd
      have hreads : ∀ t, t ∈ readsOf ops.toList o → VR P ρ (s.f.tmp t) (a.tmps.getD t undef) := fun t ht => c.reads (s := s) hd ho hns hre hsn ht
      have hev : ∀ x, VR P ρ (evR (opReads o) s.f x) (a.eval x) := evR_ok fun t ht => hreads t (reads_op ht)
      have hwant : Region.wanted o (yielded ops a.tmps) = true :=
        wanted_at (fun g want p d hg hp hdst => hreads d (reads_guard hg (toList_get hp) hdst)) hw
      rw [hwant]
      simp only [if_true]
      have hnp : precedes (bitsBefore ops.toList []) i i = false := by
        rw [Bool.eq_false_iff]; intro h0
        have := ready_prec inv.closed (fun k hk => by simpa using inv.lt k hk) (toList_get ho) (fun e he hb => inv.sub _ (hre e he hb)) h0
        rw [hex] at this; cases this
      have hgo : ∀ (v : Value) (H' : AHeap) (ρ' : Ren) (v' : Value) (w' : World), (stableP P B0 i H' s.qs ∧ putP cx.sz s.f o.dst v fun f' => treeP P cx ops B0 n ⟨f', H', i :: s.ex, keepQ B0 i s.qs⟩ k) → Le ρ ρ' → HR P ρ' H' B w0 w' → VR P ρ' v v' →
          wpAnyIn Fe 0 P .any ops Q fuel (listed.setIfInBounds i true) (a.put o.dst v') w' := by
        rintro v H' ρ' v' w' ⟨hst, hput⟩ hle hHR hvr
        obtain ⟨f', hk, hdef, hlt, ht⟩ := putP_ok hput
        have inv' : AInv P cx ops f0 (setVal V i v) (fun j => (listed.setIfInBounds i true).getD j false = true) ⟨f', H', i :: s.ex, keepQ B0 i s.qs⟩ := by
          refine inv.add hd ho hex hrd hdef hlt ht (fun j hj => ?_) (fun j p hp hj hnj => ?_)
          · rcases (hget j).1 hj with h1 | rfl
            · exact .inr (inv.sub j h1)
            · exact .inl rfl
          · have hji : j ≠ i := by rintro rfl; exact hnj ((hget _).2 (.inr rfl))
            have hj := hj.resolve_left hji
            have hnj' : ¬ listed.getD j false = true := fun h1 => hnj ((hget j).2 (.inl h1))
            obtain ⟨fj, h1, h2⟩ := inv.early j p hp hj hnj'
            refine ⟨fj, h1.setVal (not_prec_new inv hex hj), ?_⟩
            have hV : setVal V i v j = V j := by rw [setVal, if_neg hji]
            rw [hV]
            rcases h2 with h2 | ⟨h2, h3, h4, h5⟩
            · exact .inl h2
            · have hpr : precedes B0 j i = false := by
                rw [← hB, Bool.eq_false_iff]; intro h6
                exact hnj' (ready_prec c.closed c.lt (toList_get ho) hre h6)
              refine .inr ⟨h2, h3, ?_, ?_⟩
              · unfold keepQ; rw [List.mem_filter]; exact ⟨h4, by simp [hpr]⟩
              · exact stable_of hst _ h4 hpr
        cases n with
        | zero => exact hk.elim
        | succ n =>
          unfold treeP at hk
          obtain ⟨s', V', h1, h2, h3, h4, h5⟩ := pass_ok hd ops.toList 0 _ _ rfl hk inv' (fun j p hj => by omega)
          have hV' : ∀ j, listed.getD j false = true → V' j = V j := by
            intro j hj
            rw [h5 j ((hget j).2 (.inl hj)), setVal, if_neg]
            rintro rfl
            exact hns hj
          have hVi : V' i = v := by rw [h5 i ((hget i).2 (.inr rfl)), setVal, if_pos rfl]
          refine ih n (listed.setIfInBounds i true) ρ' s' V' (a.put o.dst v') w' (by simpa using hsz) hlen2 (hl.mono hle) (hF.mono hle) ?_ h3 h4 h1
            (fun ρ2 f2 H2 a2 w2 hk hle2 => hQ ρ2 f2 H2 a2 w2 hk (hle.trans hle2))
          rw [h2]
          exact c.next (s := s) hd hle ho hns hre hlt hV' (by rw [hVi]; exact hvr) (fun j => hget j) hHR
      unfold loudP at hloud
      split at hloud
      · rename_i g args hdec
        obtain ⟨ar, ts, hop, rfl⟩ := decode_call hdec
        have hsem : o.semAt Fe.round a.eval = execOp a.eval o := Oper.semAt_eq _ _ _ (fun c h0 => by rw [hop] at h0; cases h0)
        refine ⟨fun g _ => hF.fn g, ?_⟩
        rw [hsem]
        unfold calleeP at hloud
        split at hloud
        · rename_i q args2 hcal
          obtain ⟨fn, first, captured, first', captured', hfn, hn, hb, hx, rfl, hv1, hv2⟩ := aCallee_fn (hev g) hcal
          rw [run_call hop hx hfn hn hb, arr_of_list]
          have hc := hloud ρ B w0 w _ c.heap hl ((hv1.append (vl_map hev ar.toList)).append hv2)
          refine ⟨hF.depth, hF.calls (CallsIn.mono (by simpa using hc) ?_)⟩
          rintro e w' ⟨v, H', hr, ρ', v', rfl, hle, hHR, hvr⟩
          exact hgo v H' ρ' v' w' hr hle hHR hvr
        · rename_i l args2 hcal
          obtain ⟨l', hx, hir, rfl⟩ := aCallee_round (hev g) hcal
          obtain ⟨⟨x0, st, pend, hfl, hps, hg⟩, hround⟩ := hloud
          obtain ⟨y, o', hy, hyb, hwo, hor, _⟩ := c.heap.at hir (by rw [hg]; simp) (by rw [hg]; rfl)
          rw [hg] at hor
          cases hor with
          | loop hk hlp hst hp =>
            rename_i r
            obtain ⟨y2, lp, hy2, _, hlp2, hpar, _⟩ := hl l x0 hfl
            rw [hy] at hy2; cases hy2
            rw [hlp] at hlp2; cases hlp2
            have hsz2 : ar.size = r.params.size := by
              simp only at hpar
              rw [hpar, hps]; simp
            rw [run_yield_call hop hx hwo hsz2]
            have hv := vl_map hev ar.toList
            have := hround ρ B w0 w _ y _ r.fn c.heap hl hv hy hlp
            refine ⟨hF.depth, hF.rounds (RoundIn.mono (R := SCall P ρ B w0 (fun v H' => stableP P B0 i H' s.qs ∧ putP cx.sz s.f o.dst v fun f' => treeP P cx ops B0 n ⟨f', H', i :: s.ex, keepQ B0 i s.qs⟩ k)) ?_ ?_)⟩
            · rw [hyb] at this
              have hmap : (ar.toList.map a.eval).toArray = ar.map a.eval := by apply Array.ext'; simp
              rw [hmap] at this
              exact this
            · rintro e w' ⟨v, H', hr, ρ', v', rfl, hle, hHR, hvr⟩
              exact hgo v H' ρ' v' w' hr hle hHR hvr
        · exact hloud.elim
      · exact hloud.elim
      · rename_i d hnc hnr
        obtain ⟨v, H', hva, hrest⟩ := holdsV_of hloud
        have hnd : ∀ c, o.op ≠ .defer c := by
          intro c hc
          obtain ⟨n, g, args, hdec⟩ := decode_defer hc
          exact hnr _ _ _ hdec
        obtain ⟨v1, H2, ρ', v', w', h1, h2, h3, h4, h5⟩ := valA_ok c.heap hev hva
        simp only [pairK, Option.some.injEq, Prod.mk.injEq] at h1
        obtain ⟨rfl, rfl⟩ := h1
        refine ⟨fun g _ => hF.fn g, ?_⟩
        rw [Oper.semAt_eq _ _ _ hnd]
        have hfin := hgo _ _ ρ' v' w' hrest h2 h3 h4
        rcases h5 with h5 | ⟨h5, rfl⟩
        · rw [h5]; exact hfin
        · rw [h5]; exact hfin

theorem CodeS.tree (hmix : P.follows .mixedOrders = true) {id : Nat} {f : AF} {H : AHeap} {Q : Post} (hB : bitsBefore ops.toList [] = B0) (hok : drawOk2 ops.toList B0 = true) (n : Nat) (h : treeP P cx ops B0 n ⟨f, H, [], []⟩ fun f H => Q .normal f H) : CodeS P cx (.region id ops true) f H Q := by
  have hd := drawOk2_dok (by rw [hB]; exact hok)
  cases n with
  | zero => exact h.elim
  | succ n =>
    intro ρ B w0 w a Fe h1 h2 h3 h4
    refine wpIn_region_any hmix ?_
    have hno : ∀ j, ¬ (Array.replicate ops.size false).getD j false = true := by
      intro j
      simp only [Array.getD_eq_getD_getElem?]
      rw [Array.getElem?_replicate]
      split <;> simp
    have inv0 : AInv P cx ops f (fun _ => undef) (fun j => (Array.replicate ops.size false).getD j false = true) ⟨f, H, [], []⟩ :=
      ⟨fun j hj => by simp at hj, fun j o _ hj => by simp at hj, fun j hj => absurd hj (hno j), fun j o d _ hj => by simp at hj, fun t => .inr ⟨fun _ _ _ _ => by simp, rfl⟩, rfl, fun j o _ hj => by simp at hj⟩
    unfold treeP at h
    obtain ⟨s', V', g1, g2, g3, g4, g5⟩ := pass_ok hd ops.toList 0 _ _ rfl h inv0 (fun j p hj => by omega)
    refine draws2 hd hB ops.size n (Array.replicate ops.size false) ρ s' V' a _ (by simp) (Nat.le_trans (List.length_filter_le _ _) (by simp)) h2 h3 ?_ g3 g4 g1 (fun ρ' f' H' a' w' hk hle hHR hf' => ⟨f', H', hk, ρ', hle, hHR, hf'⟩)
    rw [g2]
    exact ⟨fun j o _ hj => absurd hj (hno j), fun j hj => absurd hj (hno j), h1.drew, h4.size, h4.defers, fun i o d _ hj => absurd hj (hno i), fun d _ => h4.tmps d⟩
end
end Go.Am
namespace Go.Am
open Go.RowKit


section
variable {P : Program} {rec : Rec} {cx : Cx} {ops : Array Oper} {B : List Nat}

def Into (outs : List Out) (f : AF) (H : AHeap) : Prop := (⟨.normal, f, undef, H⟩ : Out) ∈ outs

theorem putA_P {sz : Nat} {f : AF} {dst : Option Tmp} {v : Value} {k : AF → Option (List Out)} {outs : List Out} {kp : AF → Prop} (h : putA sz f dst v k = some outs) (hk : ∀ f', k f' = some outs → kp f') : putP sz f dst v kp := by
  cases dst with
  | none => exact hk f h
  | some d =>
    by_cases hd : d < sz
    · rw [putA_eq hd] at h
      exact ⟨hd, hk _ h⟩
    · unfold putA at h
      have : Nat.ble sz d = true := Nat.ble_eq_true_of_le (Nat.le_of_not_lt hd)
      simp only [this] at h
      cases h

theorem passA_P {k : DSt → Option (List Out)} {outs : List Out} {kp : DSt → Prop} (hk : ∀ s, k s = some outs → kp s) : ∀ (l : List Oper) (j : Nat) (s : DSt), passA P cx ops l j s k = some outs → passP P cx ops l j s kp := by
  intro l
  induction l with
  | nil => intro j s h; exact hk s h
  | cons o rest ih =>
    intro j s h
    unfold passA at h
    unfold passP
    split at h
    · rename_i hc; rw [hc]; exact ih _ _ h
    · rename_i hc
      rw [hc]
      simp only
      split at h
      · rename_i hw; rw [hw]; exact putA_P h fun f' hf => ih _ _ hf
      · rename_i hw
        rw [hw]
        simp only
        split at h
        · rename_i hl; rw [hl]; exact ih _ _ h
        · rename_i hl
          rw [hl]
          simp only
          split at h
          · rename_i v H1 hv
            rw [hv]
            exact putA_P h fun f' hf => ih _ _ hf
          · cases h
      · cases h

theorem stableA_P {i : Nat} {H : AHeap} : ∀ {qs : List Rec1}, stableA P B i H qs = true → stableP P B i H qs
  | [], _ => trivial
  | q :: qs, h => by
    simp only [stableA, Bool.and_eq_true, Bool.or_eq_true] at h
    refine ⟨?_, stableA_P h.2⟩
    rcases h.1 with h1 | h1
    · exact .inl h1
    · right
      split at h1
      · rename_i v H1 hv
        rw [hv]; exact beqV_eq _ _ _ h1
      · cases h1

theorem behindA_P {o : Oper} {j : Nat} {s : DSt} {k : DSt → Option (List Out)} {outs : List Out} {kp : DSt → Prop} {v : Value} {H' : AHeap} (hk : ∀ s, k s = some outs → kp s) (h : behindA P cx B o j s k v H' = some outs) :
    stableP P B j H' s.qs ∧ putP cx.sz s.f o.dst v fun f' => kp ⟨f', H', j :: s.ex, keepQ B j s.qs⟩ := by
  unfold behindA at h
  split at h
  · rename_i hs; exact ⟨stableA_P hs, putA_P h fun f' hf => hk _ hf⟩
  · cases h

theorem RoundS.of_ok {loops : List (Nat × LInfo)} {l : Nat} {args : List Value} {H : AHeap} {outs : List Out} {R : Value → AHeap → Prop} (h : RoundOK P loops l args H outs) (hq : ∀ r, r ∈ outs → R r.v r.H) : RoundS P loops l args H R :=
  ⟨h.1, fun ρ B w0 w args' y lp fn h1 h2 h3 h4 h5 => RoundIn.mono (h.2 ρ B w0 w args' y lp fn h1 h2 h3 h4 h5) fun e w' hp => by
    obtain ⟨r, hr, ρ', v', h6⟩ := hp; exact ⟨r.v, r.H, hq r hr, ρ', v', h6⟩⟩

theorem loudA_P (hrec : RecOK P rec) {o : Oper} {j : Nat} {s : DSt} {k : DSt → Option (List Out)} {outs all : List Out} {kp : DSt → Prop} (hsub : ∀ x, x ∈ outs → x ∈ all) (hk : ∀ s outs', k s = some outs' → (∀ x, x ∈ outs' → x ∈ all) → kp s) (h : loudA P rec cx B o j s k = some outs) : loudP P cx B o j s kp := by
  unfold loudA at h
  unfold loudP
  have one : ∀ {l : List Out}, (bindO l fun r => behindA P cx B o j s k r.v r.H) = some outs → ∀ r, r ∈ l → stableP P B j r.H s.qs ∧ putP cx.sz s.f o.dst r.v fun f' => kp ⟨f', r.H, j :: s.ex, keepQ B j s.qs⟩ := by
    intro l hb r hr
    obtain ⟨outs', h1, h2⟩ := bindO_mem hb r hr
    exact behindA_P (fun s' hs => hk s' outs' hs fun x hx => hsub x (h2 x hx)) h1
  cases hdec : decode o.op with
  | call g args =>
    rw [hdec] at h
    simp only at h ⊢
    unfold calleeP
    split at h
    · rename_i q args2 hc
      rw [hc]
      split at h
      · rename_i l hl
        exact CallS.of_ok (hrec _ _ hl) (one h)
      · cases h
    · rename_i q args2 hc
      rw [hc]
      split at h
      · rename_i l hl
        exact RoundS.of_ok (hrec _ _ hl) (one h)
      · cases h
    · cases h
  | rest n g args => rw [hdec] at h; cases h
  | _ =>
    rw [hdec] at h
    simp only at h ⊢
    split at h
    · rename_i v H' hv
      rw [hv]
      exact behindA_P (fun s' hs => hk s' outs hs hsub) h
    · cases h

theorem loudsA_P (hrec : RecOK P rec) {s : DSt} {k : DSt → Option (List Out)} {all : List Out} {kp : DSt → Prop} (hk : ∀ s outs', k s = some outs' → (∀ x, x ∈ outs' → x ∈ all) → kp s) : ∀ (l : List Oper) (j : Nat) (outs : List Out), (∀ x, x ∈ outs → x ∈ all) → loudsA P rec cx ops B l j s k = some outs → loudsP P cx ops B l j s kp := by
  intro l
  induction l with
  | nil => intro j outs _ _; trivial
  | cons o rest ih =>
    intro j outs hsub h
    unfold loudsA at h
    unfold loudsP
    split at h
    · rename_i hc; rw [hc]; exact ih _ _ hsub h
    · rename_i hc
      rw [hc]
      simp only
      split at h
      · rename_i hw
        split at h
        · cases h
        · rename_i l1 hl1
          split at h
          · cases h
          · rename_i l2 hl2
            cases h
            exact ⟨⟨hw, loudA_P hrec (fun x hx => hsub x (List.mem_append_left _ hx)) hk hl1⟩, ih _ _ (fun x hx => hsub x (List.mem_append_right _ hx)) hl2⟩
      · cases h

theorem treeA_P (hrec : RecOK P rec) {all : List Out} : ∀ (n : Nat) (s : DSt) (outs : List Out), (∀ x, x ∈ outs → x ∈ all) → treeA P rec cx ops B n s = some outs → treeP P cx ops B n s (Into all) := by
  intro n
  induction n with
  | zero => intro s outs _ h; cases h
  | succ n ih =>
    intro s outs hsub h
    unfold treeA at h
    unfold treeP
    refine passA_P ?_ _ _ _ h
    intro s' hs
    split at hs
    · rename_i ha
      rw [ha]
      cases hs
      exact hsub _ (List.mem_singleton_self _)
    · rename_i ha
      rw [ha]
      exact loudsA_P hrec (fun s2 outs' h1 h2 => ih s2 outs' h2 h1) _ _ _ hsub hs

theorem drawA_ok (hrec : RecOK P rec) (hmix : P.follows .mixedOrders = true) {id : Nat} {f : AF} {H : AHeap} {outs : List Out} (ha : drawA P rec cx ops f H = some outs) : CodeOK P cx (.region id ops true) f H outs := by
  unfold drawA at ha
  split at ha
  · cases ha
  · rename_i hok
    have ht := treeA_P hrec (all := outs) _ _ _ (fun _ h => h) ha
    have hc : CodeS P cx (.region id ops true) f H fun e f H => e = .normal ∧ Into outs f H :=
      CodeS.tree hmix rfl hok _ (by
        have : (fun (f : AF) (H : AHeap) => Exit.normal = .normal ∧ Into outs f H) = Into outs := by
          funext f H; simp
        show treeP P cx ops _ _ _ (fun f H => Exit.normal = .normal ∧ Into outs f H)
        rw [this]; exact ht)
    intro ρ B w0 w a F h1 h2 h3 h4
    refine wpIn_mono (hc ρ B w0 w a F h1 h2 h3 h4) ?_
    rintro e a' w' ⟨f', H', ⟨rfl, hi⟩, ρ', hle, hHR, hf'⟩
    exact ⟨_, hi, rfl, ρ', hle, hHR, hf'⟩
end
end Go.Am
namespace Go.Am
open Go.RowKit

section
variable {P : Program}

theorem codeA_ok (hmix : P.follows .mixedOrders = true) {n : Nat} {rec : Rec} (hrec : RecOK P rec) {cx : Cx} {c : Code} {f : AF} {H : AHeap} {outs : List Out} (ha : codeA P n rec cx c f H = some outs) : CodeOK P cx c f H outs := by
  unfold codeA at ha
  split at ha
  · exact code_simple ha fun F Q a w h => wpIn_skip h
  · exact code_simple ha fun F Q a w h => wpIn_label h
  · rename_i id ops draw
    split at ha
    · intro ρ B w0 w a F h hl hF hf
      refine wpIn_region ?_
      have := opsA_ok (B := B) (w0 := w0) hrec (F := F) (Q := OutPost P ρ B w0 cx.sz outs) (ops := ops) (cx := cx) ops.toList 0 ρ H w f a outs rfl ha h hl hF hf (fun _ _ _ h => h)
      rw [List.range_eq_range']
      simpa using this
    · exact drawA_ok hrec hmix ha
  · exact seqA_ok hrec ha
  · exact condA_ok hrec ha
  · exact blockA_ok hrec ha
  · intro ρ B w0 w a F h hl hF hf
    exact wpIn_loop_rounds n (loopA_ok hrec n ρ H w f a outs ha h hl hF hf (fun _ _ _ h => h))
  · exact code_simple ha fun F Q a w h => wpIn_exit h
  · exact code_simple ha fun F Q a w h => wpIn_ret h
  · exact scopeA_ok hrec ha
  · exact rangeA_ok hrec ha
  · cases ha
  · cases ha

theorem stepA_ok (hmix : P.follows .mixedOrders = true) {n : Nat} {rec : Rec} (hrec : RecOK P rec) : RecOK P (stepA P n rec) := by
  intro t outs h
  unfold stepA at h
  cases t with
  | code cx c f H => exact codeA_ok hmix hrec h
  | call dm loops g args H => exact enterA_ok hrec h
  | round loops l args H => exact roundA_ok hrec h

end
end Go.Am
namespace Go.Am
open Go.RowKit

structure Entry where
  g : FuncId
  args : List Value
  H : AHeap
  outs : List Out

noncomputable section

def findT (g : FuncId) (args : List Value) (H : AHeap) : List Entry → Option (List Out)
  | [] => none
  | e :: es => match Nat.beq g e.g with
    | false => findT g args H es
    | true => match Nat.beq H.n e.H.n && beqVs args e.args && beqHeap H e.H H.n with
      | true => some e.outs
      | false => findT g args H es

def lookT (tbl : List Entry) (rec : Rec) : Rec := fun t => match t with
  | .call dm loops g args H => match dm with
    | false => match pureT g args (fun b o n => cellsAt H b o n) with
      | some v => some [⟨.normal, ⟨.e, []⟩, v, H⟩]
      | none => match findT g args H tbl with
        | some outs => some outs
        | none => rec (.call false loops g args H)
    | true => rec (.call true loops g args H)
  | t => rec t

def evT (P : Program) (tbl : List Entry) (n : Nat) : Task → Option (List Out) :=
  @Nat.rec (fun _ => Task → Option (List Out)) (fun _ => none) (fun n ih => stepA P n (lookT tbl ih)) n

def meets (r : Option (List Out)) (outs : List Out) : Bool := match r with
  | some l => l.all fun r => outs.any fun s => beqOut r s
  | none => false

def runs (P : Program) (tbl : List Entry) (n : Nat) (e : Entry) : Bool := meets (evT P tbl n (.call false [] e.g e.args e.H)) e.outs

def givesT (P : Program) (tbl : List Entry) (n : Nat) (g : FuncId) (args : List Value) (v : Value) : Bool :=
  match evT P tbl n (.call false [] g args ⟨0, .e⟩) with
  | some outs => outs.all fun r => plainV 6 r.v && beqV 8 r.v v
  | none => false
end

section
variable {P : Program}

def EntryOK (P : Program) (e : Entry) : Prop := CallOK P false [] e.g e.args e.H e.outs

def PureOK (P : Program) : Prop := ∀ g args H v, pureT g args (fun b o n => cellsAt H b o n) = some v → CallOK P false [] g args H [⟨.normal, ⟨.e, []⟩, v, H⟩]

theorem findT_ok {g : FuncId} {args : List Value} {H : AHeap} {outs : List Out} : ∀ {tbl : List Entry}, (∀ e, e ∈ tbl → EntryOK P e) → findT g args H tbl = some outs → CallOK P false [] g args H outs
  | [], _, h => by simp [findT] at h
  | e :: es, ht, h => by
    simp only [findT] at h
    split at h
    · exact findT_ok (fun x hx => ht x (List.mem_cons_of_mem _ hx)) h
    · rename_i hg
      split at h
      · rename_i hc
        cases h
        simp only [Bool.and_eq_true] at hc
        obtain ⟨⟨h1, h2⟩, h3⟩ := hc
        have h1 := Nat.eq_of_beq_eq_true h1
        have hg := Nat.eq_of_beq_eq_true hg
        have h2 : args = e.args := beqL_eq (beqV_eq 8) h2
        have he := ht e (List.mem_cons_self ..)
        intro ρ B w0 w args' hHR hl hv
        have := he ρ B w0 w args' (hHR.same h1 (beqHeap_eq h3)) hl (h2 ▸ hv)
        rw [hg]
        exact this
      · exact findT_ok (fun x hx => ht x (List.mem_cons_of_mem _ hx)) h

theorem CallOK.loops {g : FuncId} {args : List Value} {H : AHeap} {outs : List Out} {loops : List (Nat × LInfo)} (h : CallOK P false [] g args H outs) : CallOK P false loops g args H outs :=
  fun ρ B w0 w args' hHR _ hv => h ρ B w0 w args' hHR (fun l x hx => by simp [findLoop] at hx) hv

theorem lookT_ok {tbl : List Entry} (ht : ∀ e, e ∈ tbl → EntryOK P e) {rec : Rec} (hrec : RecOK P rec) (hpu : PureOK P) : RecOK P (lookT tbl rec) := by
  intro t outs h
  unfold lookT at h
  split at h
  · rename_i dm loops g args H
    split at h
    · split at h
      · rename_i v hf
        cases h
        exact CallOK.loops (hpu _ _ _ _ hf)
      · split at h
        · rename_i o hf
          cases h
          exact (findT_ok ht hf).loops
        · exact hrec _ _ h
    · exact hrec _ _ h
  · exact hrec _ _ h

theorem evT_ok (hmix : P.follows .mixedOrders = true) {tbl : List Entry} (ht : ∀ e, e ∈ tbl → EntryOK P e) (hpu : PureOK P) : ∀ n, RecOK P (evT P tbl n)
  | 0 => fun t outs h => by cases h
  | n + 1 => stepA_ok hmix (lookT_ok ht (evT_ok hmix ht hpu n) hpu)

theorem entry_ok (hmix : P.follows .mixedOrders = true) {tbl : List Entry} (ht : ∀ e, e ∈ tbl → EntryOK P e) {n : Nat} {e : Entry} (h : runs P tbl n e = true) (hpu : PureOK P := by exact fun _ _ _ _ h => by cases h) : EntryOK P e := by
  unfold runs meets at h
  split at h
  · rename_i l hev
    have hc := evT_ok hmix ht hpu n _ _ hev
    intro ρ B w0 w args' hHR hl hv
    refine CallsIn.mono (hc ρ B w0 w args' hHR hl hv) ?_
    rintro e' w' ⟨r, hr, ρ', v', he, hle, hHR', hv'⟩
    have h1 := (List.all_eq_true.1 h) r hr
    obtain ⟨s, hs, hb⟩ := List.any_eq_true.1 h1
    simp only [beqOut, Bool.and_eq_true] at hb
    obtain ⟨⟨h1, h2⟩, h3⟩ := hb
    have h1 : r.H.n = s.H.n := by simpa using h1
    exact ⟨s, hs, ρ', v', he, hle, hHR'.same h1 (beqHeap_eq h3), by rw [← beqV_eq _ _ _ h2]; exact hv'⟩
  · cases h

theorem calls_of_table (hmix : P.follows .mixedOrders = true) {tbl : List Entry} (ht : ∀ e, e ∈ tbl → EntryOK P e) {n : Nat} {g : FuncId} {args : List Value} {v : Value} (hp : args.all (plainV 6) = true) (h : givesT P tbl n g args v = true) (w : World) (hL : Laid w.heap.size w := by exact fun _ h => by cases h) (hpu : PureOK P := by exact fun _ _ _ _ h => by cases h) :
    Calls P g args.toArray w fun e w' => e = .returned v ∧ Below w.heap.size w w' := by
  unfold givesT at h
  split at h
  · rename_i outs hev
    have hHR : HR P [] (⟨0, .e⟩ : AHeap) w.heap.size w w := ⟨rfl, fun i x hx => by simp at hx, fun i hx => by simp at hx, fun i j x y hx => by simp at hx, Below.refl _ _, Nat.le_refl _, hL⟩
    have hargs : ∀ {l : List Value}, l.all (plainV 6) = true → VL P [] l l := by
      intro l
      induction l with
      | nil => exact fun _ => .nil
      | cons x xs ih =>
        intro hl
        simp only [List.all_cons, Bool.and_eq_true] at hl
        exact .cons (plain_refl 6 hl.1) (ih hl.2)
    have hc := evT_ok hmix ht hpu n _ _ hev [] w.heap.size w w args hHR (fun l x hx => by simp [findLoop] at hx) (hargs hp)
    refine callsIn_wide.1 (CallsIn.mono hc ?_)
    rintro e w' ⟨r, hr, ρ', v', rfl, hle, hHR', hv⟩
    have h1 := (List.all_eq_true.1 h) r hr
    simp only [Bool.and_eq_true] at h1
    have h2 := plain_eq 6 hv h1.1
    have h3 := beqV_eq _ _ _ h1.2
    exact ⟨by rw [h2, h3], hHR'.base⟩
  · cases h
end
end Go.Am
