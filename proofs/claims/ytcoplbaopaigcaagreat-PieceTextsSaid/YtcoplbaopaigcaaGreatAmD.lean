/- Regions whose order is open, and tables of proven calls. -/
import Derived.OrdersIn
import Derived.LoopNIn
import Derived.Test.YtcoplbaopaigcaaGreatAmC
set_option linter.all false
namespace Go.Am
open Go.RowKit

/-! ### Who comes ahead of whom -/

theorem fold_bit {acc : List Nat} {i : Nat} : ∀ {l : List Edge} {s : Nat}, (l.foldl (fun s e => if Region.binds .any e then s ||| 2 ^ e.on ||| acc.getD e.on 0 else s) s).testBit i = true →
    s.testBit i = true ∨ ∃ e, e ∈ l ∧ Region.binds .any e = true ∧ (e.on = i ∨ (acc.getD e.on 0).testBit i = true)
  | [], s, h => .inl h
  | e :: l, s, h => by
    simp only [List.foldl_cons] at h
    rcases fold_bit h with h1 | ⟨e', he', hb, hr⟩
    · split at h1
      · rename_i hb
        rw [Nat.testBit_or, Nat.testBit_or, Bool.or_eq_true, Bool.or_eq_true] at h1
        rcases h1 with (h1 | h1) | h1
        · exact .inl h1
        · rw [Nat.testBit_two_pow] at h1
          exact .inr ⟨e, List.mem_cons_self .., hb, .inl (by simpa using h1)⟩
        · exact .inr ⟨e, List.mem_cons_self .., hb, .inr h1⟩
      · exact .inl h1
    · exact .inr ⟨e', List.mem_cons_of_mem _ he', hb, hr⟩

theorem bits_spec : ∀ (rest : List Oper) (acc : List Nat), (∀ i, i < acc.length → (bitsBefore rest acc).getD i 0 = acc.getD i 0) ∧
    ∀ j o, rest[j]? = some o → ∃ pre : List Nat, pre.length = acc.length + j ∧ (∀ i, i < pre.length → (bitsBefore rest acc).getD i 0 = pre.getD i 0) ∧
      (bitsBefore rest acc).getD (acc.length + j) 0 = o.after.toList.foldl (fun s e => if Region.binds .any e then s ||| 2 ^ e.on ||| pre.getD e.on 0 else s) 0
  | [], acc => ⟨fun _ _ => rfl, fun j o h => by simp at h⟩
  | o :: rest, acc => by
    obtain ⟨h1, h2⟩ := bits_spec rest (acc ++ [o.after.toList.foldl (fun s e => if Region.binds .any e then s ||| 2 ^ e.on ||| acc.getD e.on 0 else s) 0])
    have hpre : ∀ i, i < acc.length → (bitsBefore (o :: rest) acc).getD i 0 = acc.getD i 0 := by
      intro i hi
      rw [bitsBefore, h1 i (by simp; omega)]
      simp only [List.getD_eq_getElem?_getD]
      rw [List.getElem?_append_left hi]
    refine ⟨hpre, fun j p hp => ?_⟩
    cases j with
    | zero =>
      simp at hp; subst hp
      refine ⟨acc, rfl, hpre, ?_⟩
      rw [bitsBefore, h1 _ (by simp)]
      simp only [List.getD_eq_getElem?_getD]
      rw [List.getElem?_append_right (by omega)]
      simp
    | succ j =>
      obtain ⟨pre, hl, hpr, hv⟩ := h2 j p (by simpa using hp)
      refine ⟨pre, by rw [hl]; simp; omega, hpr, ?_⟩
      rw [bitsBefore]
      have : acc.length + (j + 1) = (acc ++ [o.after.toList.foldl (fun s e => if Region.binds .any e then s ||| 2 ^ e.on ||| acc.getD e.on 0 else s) 0]).length + j := by simp; omega
      rw [this]; exact hv

theorem prec_edge {ops : List Oper} {i j : Nat} {o : Oper} (ho : ops[j]? = some o) (h : precedes (bitsBefore ops []) i j = true) :
    ∃ e, e ∈ o.after.toList ∧ Region.binds .any e = true ∧ (e.on = i ∨ (e.on < j ∧ precedes (bitsBefore ops []) i e.on = true)) := by
  obtain ⟨pre, hl, hpr, hv⟩ := (bits_spec ops []).2 j o ho
  unfold precedes at h ⊢
  simp only [List.length_nil, Nat.zero_add] at hl hv
  rw [hv] at h
  rcases fold_bit h with h1 | ⟨e, he, hb, h1⟩
  · simp at h1
  · refine ⟨e, he, hb, ?_⟩
    rcases h1 with h1 | h1
    · exact .inl h1
    · rcases Nat.lt_or_ge e.on pre.length with h2 | h2
      · exact .inr ⟨by omega, by rw [hpr _ h2]; exact h1⟩
      · simp [List.getD_eq_getElem?_getD, List.getElem?_eq_none h2] at h1

structure DOK (ops : List Oper) : Prop where
  edge : ∀ (j : Nat) (o : Oper), ops[j]? = some o → ∀ e, e ∈ o.after.toList → Region.binds .any e = true → e.on < j
  dst : ∀ (i j : Nat) (p o : Oper) (d : Tmp), ops[i]? = some p → ops[j]? = some o → p.dst = some d → o.dst = some d → i = j
  loud : ∀ (i j : Nat) (p o : Oper), ops[i]? = some p → ops[j]? = some o → i < j → Am.loud p.op = true → Am.loud o.op = true → precedes (bitsBefore ops []) i j = true
  reads : ∀ (i j : Nat) (p o : Oper) (d : Tmp), ops[i]? = some p → ops[j]? = some o → p.dst = some d → d ∈ readsOf ops o → i = j ∨ precedes (bitsBefore ops []) i j = true ∨ precedes (bitsBefore ops []) j i = true

theorem drawOk_dok {ops : List Oper} (h : drawOk ops = true) : DOK ops := by
  unfold drawOk at h
  simp only [List.all_eq_true, List.mem_range] at h
  have hj : ∀ j o, ops[j]? = some o → _ := fun j o ho => by
    have := h j (List.getElem?_eq_some_iff.1 ho).1
    rw [ho] at this
    exact this
  have hij : ∀ i j p o, ops[i]? = some p → ops[j]? = some o → _ := fun i j p o hp ho => by
    have := hj j o ho
    simp only [Bool.and_eq_true, List.all_eq_true, List.mem_range] at this
    have := this.2 i (List.getElem?_eq_some_iff.1 hp).1
    rw [hp] at this
    exact this
  refine ⟨?_, ?_, ?_, ?_⟩
  · intro j o ho e he hb
    have := hj j o ho
    simp only [Bool.and_eq_true, List.all_eq_true] at this
    have := this.1.1 e he
    simpa [hb] using this
  · intro i j p o d hp ho hd hd2
    have := hij i j p o hp ho
    simp only [Bool.and_eq_true] at this
    have := this.1.1
    simp [hd, hd2] at this
    exact this
  · intro i j p o hp ho hlt hl hl2
    have := hij i j p o hp ho
    simp only [Bool.and_eq_true] at this
    have := this.1.2
    simpa [hlt, hl, hl2] using this
  · intro i j p o d hp ho hd hr
    have := hij i j p o hp ho
    simp only [Bool.and_eq_true] at this
    have := this.2
    simp only [hd, Bool.or_eq_true] at this
    rcases this with ((h1 | h1) | h1) | h1
    · simp at h1; exact absurd hr h1
    · exact .inl (by simpa using h1)
    · exact .inr (.inl h1)
    · exact .inr (.inr h1)

def Closed (ops : List Oper) (S : Nat → Prop) : Prop := ∀ j o, ops[j]? = some o → S j → ∀ e, e ∈ o.after.toList → Region.binds .any e = true → S e.on

theorem closed_prec {ops : List Oper} {S : Nat → Prop} (hc : Closed ops S) (hlt : ∀ j, S j → j < ops.length) {i : Nat} : ∀ j, S j → precedes (bitsBefore ops []) i j = true → S i := by
  intro j
  induction j using Nat.strongRecOn with
  | _ j ih =>
    intro hj hp
    obtain ⟨o, ho⟩ : ∃ o, ops[j]? = some o := ⟨_, List.getElem?_eq_getElem (hlt j hj)⟩
    obtain ⟨e, he, hb, h1⟩ := prec_edge ho hp
    have hS := hc j o ho hj e he hb
    rcases h1 with h1 | ⟨h1, h2⟩
    · rw [← h1]; exact hS
    · exact ih _ h1 hS h2

theorem ready_prec {ops : List Oper} {S : Nat → Prop} (hc : Closed ops S) (hlt : ∀ j, S j → j < ops.length) {i j : Nat} {o : Oper} (ho : ops[j]? = some o) (hr : ∀ e, e ∈ o.after.toList → Region.binds .any e = true → S e.on)
    (hp : precedes (bitsBefore ops []) i j = true) : S i := by
  obtain ⟨e, he, hb, h1⟩ := prec_edge ho hp
  rcases h1 with h1 | ⟨_, h2⟩
  · rw [← h1]; exact hr e he hb
  · exact closed_prec hc hlt _ (hr e he hb) h2

theorem prec_lt {ops : List Oper} (hd : DOK ops) {i : Nat} : ∀ j, j < ops.length → precedes (bitsBefore ops []) i j = true → i < j := by
  intro j
  induction j using Nat.strongRecOn with
  | _ j ih =>
    intro hj hp
    obtain ⟨o, ho⟩ : ∃ o, ops[j]? = some o := ⟨_, List.getElem?_eq_getElem hj⟩
    obtain ⟨e, he, hb, h1⟩ := prec_edge ho hp
    have hlt := hd.edge j o ho e he hb
    rcases h1 with h1 | ⟨h1, h2⟩
    · omega
    · have := ih _ h1 (by omega) h2
      omega

/-! ### Quiet operations leave memory alone -/

section
variable {P : Program}

theorem k_load {β : Type} {H : AHeap} {k : K β} {r : β} {t : TypeId} {x : Value} (ha : aLoad P t x H k = some r) : ∃ v, k v H = some r := by
  unfold aLoad at ha
  repeat' (first | (cases ha; done) | exact ⟨_, ha⟩ | split at ha)

theorem k_field {β : Type} {H : AHeap} {k : K β} {r : β} {t : TypeId} {x : Value} {i : Nat} (ha : aFieldAddr P t x i H k = some r) : ∃ v, k v H = some r := by
  unfold aFieldAddr at ha
  repeat' (first | (cases ha; done) | exact ⟨_, ha⟩ | split at ha)

theorem k_index {β : Type} {H : AHeap} {k : K β} {r : β} {t : TypeId} {x i : Value} (ha : aIndexAddr P t x i H k = some r) : ∃ v, k v H = some r := by
  unfold aIndexAddr at ha
  repeat' (first | (cases ha; done) | exact ⟨_, ha⟩ | split at ha)

theorem k_extract {β : Type} {H : AHeap} {k : K β} {r : β} {x : Value} {i : Nat} (ha : aExtract x i H k = some r) : ∃ v, k v H = some r := by
  unfold aExtract at ha
  repeat' (first | (cases ha; done) | exact ⟨_, ha⟩ | split at ha)

theorem k_pick {β : Type} {H : AHeap} {k : K β} {r : β} {c a b : Value} (ha : aPick c a b H k = some r) : ∃ v, k v H = some r := by
  unfold aPick at ha
  repeat' (first | (cases ha; done) | exact ⟨_, ha⟩ | split at ha)

theorem k_lookup {β : Type} {H : AHeap} {k : K β} {r : β} {t : TypeId} {x i : Value} {ok : Bool} (ha : aLookup P t x i ok H k = some r) : ∃ v, k v H = some r := by
  unfold aLookup at ha
  repeat' (first | (cases ha; done) | exact ⟨_, ha⟩ | split at ha)

theorem k_sliceOn {β : Type} {H : AHeap} {k : K β} {r : β} {e : TypeId} {size : Nat} {a : Option Addr} {c h l : Nat} (ha : sliceOn e size a c h l H k = some r) : ∃ v, k v H = some r := by
  unfold sliceOn at ha
  repeat' (first | (cases ha; done) | exact ⟨_, ha⟩ | split at ha)

theorem k_slice {β : Type} {H : AHeap} {k : K β} {r : β} {t : TypeId} {x : Value} {lo hi : Option Value} (ha : aSlice P t x lo hi H k = some r) : ∃ v, k v H = some r := by
  unfold aSlice at ha
  repeat' (first | (cases ha; done) | exact k_sliceOn ha | split at ha)

theorem k_build {β : Type} {H : AHeap} {k : K β} {r : β} {t : TypeId} {parts : List (Nat × Value)} (ha : aBuild P t parts H k = some r) : ∃ v, k v H = some r := by
  unfold aBuild at ha
  repeat' (first | (cases ha; done) | exact ⟨_, (forceL_spec ha).1⟩ | split at ha)

theorem k_plain {β : Type} {H : AHeap} {k : K β} {r : β} {o : Oper} {ev : Operand → Value} (ha : aPlain P o ev H k = some r) : ∃ v, k v H = some r := by
  unfold aPlain at ha
  simp only [forceV_spec] at ha
  repeat' (first | (cases ha; done) | exact ⟨_, ha⟩ | split at ha)

theorem k_eq {β : Type} {H : AHeap} {k : K β} {r : β} {other : Unit → Option β} (ho : other () = some r → ∃ v, k v H = some r) {t : TypeId} {x y : Value} {n : Bool} (ha : aEq P t x y n H k other = some r) : ∃ v, k v H = some r := by
  unfold aEq at ha
  repeat' (first | (cases ha; done) | exact ⟨_, ha⟩ | exact ho ha | split at ha)

theorem k_intBin {β : Type} {H : AHeap} {k : K β} {r : β} {other : Unit → Option β} (ho : other () = some r → ∃ v, k v H = some r) {op : BinOp} {q : IntKind} {a b : Int} (ha : intBin op q a b H k other = some r) : ∃ v, k v H = some r := by
  unfold intBin at ha
  repeat' (first | (cases ha; done) | exact ⟨_, ha⟩ | exact ho ha | split at ha)

theorem k_bin {β : Type} {H : AHeap} {k : K β} {r : β} {other : Unit → Option β} (ho : other () = some r → ∃ v, k v H = some r) {op : BinOp} {t : TypeId} {x y : Value} (ha : aBin P op t x y H k other = some r) : ∃ v, k v H = some r := by
  unfold aBin at ha
  repeat' (first | (cases ha; done) | exact k_intBin ho ha | exact k_eq ho ha | exact ho ha | split at ha)

theorem k_nil {β : Type} {H : AHeap} {k : K β} {r : β} {other : Unit → Option β} (ho : other () = some r → ∃ v, k v H = some r) {x : Value} (ha : aNilCheck x H k other = some r) : ∃ v, k v H = some r := by
  unfold aNilCheck at ha
  repeat' (first | (cases ha; done) | exact ⟨_, ha⟩ | exact ho ha | split at ha)

theorem k_len {β : Type} {H : AHeap} {k : K β} {r : β} {other : Unit → Option β} (ho : other () = some r → ∃ v, k v H = some r) {t : TypeId} {x : Value} (ha : aLen P t x H k other = some r) : ∃ v, k v H = some r := by
  unfold aLen at ha
  repeat' (first | (cases ha; done) | exact ⟨_, ha⟩ | exact ho ha | split at ha)

theorem quiet_k {β : Type} {o : Oper} {ev : Operand → Value} {H : AHeap} {k : K β} {r : β} (hq : loud o.op = false) (ha : valA P o (decode o.op) ev H k = some r) : ∃ v, k v H = some r := by
  have hp : aPlain P o ev H k = some r → ∃ v, k v H = some r := k_plain
  unfold loud at hq
  unfold valA at ha
  generalize decode o.op = d at hq ha
  cases d with
  | move x => exact ⟨_, ha⟩
  | bin op t x y => exact k_bin hp ha
  | extract x i => exact k_extract ha
  | indexAddr t x y => exact k_index ha
  | store => cases hq
  | call => cases hq
  | rest => cases hq
  | seldom s x =>
    cases s with
    | load t => exact k_load ha
    | fieldAddr s i => exact k_field ha
    | alloc t => cases hq
    | box t => cases hq
    | other op =>
      simp only [seldomA] at ha
      cases op with
      | pick => exact k_pick ha
      | build => exact k_build ha
      | slice t x lo hi mx =>
        simp only [aOper] at ha
        repeat' (first | (cases ha; done) | exact k_slice ha | exact hp ha | split at ha)
      | lookup => exact k_lookup ha
      | nilCheck x =>
        simp only [aOper] at ha
        exact k_nil (other := fun _ => aPlain P o ev H k) hp ha
      | unOp => exact hp ha
      | convert => exact hp ha
      | index => exact hp ha
      | typeAssert => exact hp ha
      | makeInterface => exact hp ha
      | call c =>
        obtain ⟨callee, args, ts⟩ := c
        cases callee with
        | builtin b =>
          cases b with
          | len =>
            simp only [aOper, aBuiltin] at ha
            repeat' (first | (cases ha; done) | exact k_len hp ha | exact hp ha | split at ha)
          | max => exact hp ha
          | min => exact hp ha
          | _ => cases hq
        | _ => cases hq
      | _ => cases hq

section
variable {ρ ρ' : Ren} {H : AHeap} {B : Nat} {w0 w : World}

theorem evR_ok {o : Oper} {f : AF} {a : Act} (h : ∀ t, t ∈ opReads o → VR P ρ (f.tmp t) (a.tmps.getD t undef)) : ∀ x, VR P ρ (evR (opReads o) f x) (a.eval x) := by
  intro x
  cases x with
  | tmp t =>
    simp only [evR]
    split
    · rename_i hc
      exact h t (by simpa using hc)
    · exact .poison
  | const v =>
    simp only [evR, AF.eval, Act.eval]
    split
    · rename_i hp; exact plain_refl 6 hp
    · exact .poison
  | global g => exact .poison
  | func g => exact VR.func_of .nil .nil

theorem wanted_at {ops : Array Oper} {f : AF} {a : Act} {o : Oper} {b : Bool} (h : ∀ g want p d, o.guard = some (g, want) → ops[g]? = some p → p.dst = some d → VR P ρ (f.tmp d) (a.tmps.getD d undef)) (hw : wantedA ops f o = some b) :
    Region.wanted o (yielded ops a.tmps) = b := by
  unfold wantedA at hw
  unfold Region.wanted
  split at hw
  · rename_i hg; cases hw; rw [hg]
  · rename_i j want hg
    rw [hg]
    simp only
    split at hw
    · rename_i hj
      cases hw
      have : ops[j]? = none := by simpa using hj
      simp [yielded, this]
    · rename_i g hj
      have hj' : ops[j]? = some g := by simpa using hj
      split at hw
      · rename_i hd
        cases hw
        simp [yielded, hj', hd]
      · rename_i d hd
        have ht := h j want g d hg hj' hd
        have hcase : a.tmps[d]? = some (a.tmps.getD d undef) ∨ (a.tmps[d]? = none ∧ a.tmps.getD d undef = undef) := by
          simp only [Array.getD_eq_getD_getElem?]
          cases hx : a.tmps[d]? with
          | none => exact .inr ⟨rfl, rfl⟩
          | some v => exact .inl rfl
        split at hw
        · rename_i b' hb
          cases hw
          rw [hb] at ht
          generalize hv : a.tmps.getD d undef = v' at ht hcase
          cases ht
          rcases hcase with h1 | ⟨_, h1⟩
          · simp [yielded, hj', hd, h1]
          · cases h1
        · rename_i cs hb
          cases hw
          rw [hb] at ht
          generalize hv : a.tmps.getD d undef = v' at ht hcase
          cases ht
          rcases hcase with h1 | ⟨h1, _⟩
          · simp [yielded, hj', hd, h1]
          · simp [yielded, hj', hd, h1]
        · cases hw

theorem reads_op {ops : List Oper} {o : Oper} {t : Tmp} (h : t ∈ opReads o) : t ∈ readsOf ops o := List.mem_append_left _ h
theorem reads_guard {ops : List Oper} {o p : Oper} {g : Nat} {want : Bool} {d : Tmp} (hg : o.guard = some (g, want)) (hp : ops[g]? = some p) (hd : p.dst = some d) : d ∈ readsOf ops o := by
  unfold readsOf
  refine List.mem_append_right _ ?_
  simp [hg, hp, hd]
end
end
end Go.Am
namespace Go.Am
open Go.RowKit

section
variable {P : Program}

/-- What the run in the order of the text tells of one operation. -/
def Did (P : Program) (rec : Rec) (cx : Cx) (ops : Array Oper) (qs : List Rec1) (i : Nat) (o : Oper) (f f' : AF) (v : Value) (H H' : AHeap) : Prop :=
  (∀ d, o.dst = some d → d < cx.sz) ∧ (∀ t, f'.tmp t = if o.dst = some t then v else f.tmp t) ∧ f'.defers = f.defers ∧
  ((wantedA ops f o = some false ∧ v = undef ∧ H' = H) ∨
   (wantedA ops f o = some true ∧
     ((loud o.op = false ∧ H' = H ∧ (⟨i, o, f, v⟩ : Rec1) ∈ qs) ∨
      (loud o.op = true ∧ ((∃ g args q args2 r, decode o.op = .call g args ∧ aCallee P (evR (opReads o) f g) (args.map (evR (opReads o) f)) = .fn q args2 ∧ rec (.call false cx.loops q args2 H) = some [r] ∧ v = r.v ∧ H' = r.H) ∨
        valA P o (decode o.op) (evR (opReads o) f) H pairK = some (v, H'))))))

theorem Did.more {rec : Rec} {cx : Cx} {ops : Array Oper} {qs qs' : List Rec1} {i : Nat} {o : Oper} {f f' : AF} {v : Value} {H H' : AHeap} (h : Did P rec cx ops qs i o f f' v H H') (hq : ∀ q, q ∈ qs → q ∈ qs') : Did P rec cx ops qs' i o f f' v H H' := by
  obtain ⟨h1, h2, h3, h4⟩ := h
  refine ⟨h1, h2, h3, ?_⟩
  rcases h4 with h4 | ⟨h4, h5 | h5⟩
  · exact .inl h4
  · exact .inr ⟨h4, .inl ⟨h5.1, h5.2.1, hq _ h5.2.2⟩⟩
  · exact .inr ⟨h4, .inr h5⟩

/-- One step ahead, then the rest. -/
def shift {α : Type} (x : α) (F : Nat → α) : Nat → α
  | 0 => x
  | i + 1 => F i

theorem textA_spec {rec : Rec} {cx : Cx} {ops : Array Oper} {k : AF → List AHeap → List Rec1 → Option (List Out)} {r : List Out} : ∀ (rest : List Oper) (j : Nat) (f : AF) (H : AHeap) (hs : List AHeap) (qs : List Rec1), textA P rec cx ops rest j f H (H :: hs) qs k = some r →
    ∃ (F : Nat → AF) (V : Nat → Value) (K : Nat → AHeap) (hs' : List AHeap) (qs' : List Rec1), k (F rest.length) (K rest.length :: hs') qs' = some r ∧ F 0 = f ∧ K 0 = H ∧ (∀ q, q ∈ qs → q ∈ qs') ∧
      (∃ l : List AHeap, (K rest.length :: hs').reverse = hs.reverse ++ l ∧ ∀ i, i ≤ rest.length → l[i]? = some (K i)) ∧
      ∀ i o, rest[i]? = some o → Did P rec cx ops qs' (j + i) o (F i) (F (i + 1)) (V i) (K i) (K (i + 1))
  | [], j, f, H, hs, qs, h => by
    refine ⟨fun _ => f, fun _ => undef, fun _ => H, hs, qs, h, rfl, rfl, fun _ h => h, ⟨[H], by simp, fun i hi => ?_⟩, fun i o ho => by simp at ho⟩
    have : i = 0 := by simpa using hi
    subst this; rfl
  | o :: rest, j, f, H, hs, qs, h => by
    have go : ∀ (v : Value) (H' : AHeap) (qs2 : List Rec1), (∀ q, q ∈ qs → q ∈ qs2) → (putA cx.sz f o.dst v fun f' => textA P rec cx ops rest (j + 1) f' H' (H' :: (H :: hs)) qs2 k) = some r →
        (∀ (f' : AF), (∀ d, o.dst = some d → d < cx.sz) → (∀ t, f'.tmp t = if o.dst = some t then v else f.tmp t) → f'.defers = f.defers → Did P rec cx ops qs2 j o f f' v H H') →
        ∃ (F : Nat → AF) (V : Nat → Value) (K : Nat → AHeap) (hs' : List AHeap) (qs' : List Rec1), k (F (o :: rest).length) (K (o :: rest).length :: hs') qs' = some r ∧ F 0 = f ∧ K 0 = H ∧ (∀ q, q ∈ qs → q ∈ qs') ∧
          (∃ l : List AHeap, (K (o :: rest).length :: hs').reverse = hs.reverse ++ l ∧ ∀ i, i ≤ (o :: rest).length → l[i]? = some (K i)) ∧
          ∀ i p, (o :: rest)[i]? = some p → Did P rec cx ops qs' (j + i) p (F i) (F (i + 1)) (V i) (K i) (K (i + 1)) := by
      intro v H' qs2 hq hput hdid
      obtain ⟨f', hk, hd, hlt, ht⟩ := putA_spec hput
      obtain ⟨F, V, K, hs', qs', h1, h2, h3, h4, ⟨l, h5, h6⟩, h7⟩ := textA_spec rest (j + 1) f' H' (H :: hs) qs2 hk
      refine ⟨shift f F, shift v V, shift H K, hs', qs', h1, rfl, rfl, fun q hq0 => h4 q (hq q hq0), ⟨H :: l, ?_, ?_⟩, ?_⟩
      · show (K rest.length :: hs').reverse = _
        rw [h5]; simp
      · intro i hi
        cases i with
        | zero => rfl
        | succ i => exact h6 i (by simpa using hi)
      · intro i p hp
        cases i with
        | zero =>
          simp at hp; subst hp
          show Did P rec cx ops qs' j o f (F 0) v H (K 0)
          rw [h2, h3]
          exact (hdid f' hlt ht hd).more h4
        | succ i =>
          have := h7 i p (by simpa using hp)
          show Did P rec cx ops qs' (j + (i + 1)) p (F i) (F (i + 1)) (V i) (K i) (K (i + 1))
          rw [show j + (i + 1) = j + 1 + i by omega]; exact this
    simp only [textA] at h
    split at h
    · cases h
    · rename_i hw
      exact go undef H qs (fun _ h => h) h (fun f' h1 h2 h3 => ⟨h1, h2, h3, .inl ⟨hw, rfl, rfl⟩⟩)
    · rename_i hw
      split at h
      · rename_i hl
        split at h
        · rename_i v H1 hv
          exact go v H _ (fun q h => List.mem_cons_of_mem _ h) h (fun f' h1 h2 h3 => ⟨h1, h2, h3, .inr ⟨hw, .inl ⟨hl, rfl, List.mem_cons_self ..⟩⟩⟩)
        · cases h
      · rename_i hl
        split at h
        · rename_i g args hdec
          split at h
          · rename_i q args2 hc
            split at h
            · rename_i r1 hr1
              exact go r1.v r1.H qs (fun _ h => h) h (fun f' h1 h2 h3 => ⟨h1, h2, h3, .inr ⟨hw, .inr ⟨hl, .inl ⟨g, args, q, args2, r1, hdec, hc, hr1, rfl, rfl⟩⟩⟩⟩)
            · cases h
          · cases h
        · split at h
          · rename_i v H1 hv
            exact go v H1 qs (fun _ h => h) h (fun f' h1 h2 h3 => ⟨h1, h2, h3, .inr ⟨hw, .inr ⟨hl, .inr hv⟩⟩⟩)
          · cases h

/-! ### Filters -/

theorem filter_le {p p' : Nat → Bool} : ∀ {l : List Nat}, (∀ x, p' x = true → p x = true) → (l.filter p').length ≤ (l.filter p).length
  | [], _ => by simp
  | x :: xs, h => by
    have ih := filter_le (l := xs) h
    simp only [List.filter_cons]
    cases hp' : p' x with
    | true => rw [h x hp']; simp; exact ih
    | false =>
      cases hp : p x with
      | true => simp; omega
      | false => simpa using ih

theorem filter_lt {p p' : Nat → Bool} {i : Nat} (h : ∀ x, p' x = true → p x = true) (hp : p i = true) (hp' : p' i = false) : ∀ {l : List Nat}, i ∈ l → (l.filter p').length < (l.filter p).length
  | x :: xs, hm => by
    have hle := filter_le (l := xs) h
    simp only [List.filter_cons]
    by_cases hx : x = i
    · subst hx; rw [hp, hp']; simp; omega
    · have hm' : i ∈ xs := by
        cases hm with
        | head => exact absurd rfl hx
        | tail _ hm => exact hm
      have ih := filter_lt h hp hp' hm'
      cases hq' : p' x with
      | true => rw [h x hq']; simp; exact ih
      | false =>
        cases hq : p x with
        | true => simp; omega
        | false => simpa using ih
end
end Go.Am
namespace Go.Am
open Go.RowKit

section
variable {P : Program} {rec : Rec} {cx : Cx} {ops : Array Oper} {qs : List Rec1} {F : Nat → AF} {V : Nat → Value} {K : Nat → AHeap}

structure TX (P : Program) (rec : Rec) (cx : Cx) (ops : Array Oper) (qs : List Rec1) (F : Nat → AF) (V : Nat → Value) (K : Nat → AHeap) : Prop where
  did : ∀ (i : Nat) (o : Oper), ops[i]? = some o → Did P rec cx ops qs i o (F i) (F (i + 1)) (V i) (K i) (K (i + 1))
  st : ∀ q, q ∈ qs → ∀ m, m ∈ window ops.toList q.j → ∃ H', valA P q.o (decode q.o.op) (evR (opReads q.o) q.f) (K m) pairK = some (q.v, H')

theorem toList_get {o : Oper} {i : Nat} (h : ops[i]? = some o) : ops.toList[i]? = some o := by simpa using h
theorem of_toList_get {o : Oper} {i : Nat} (h : ops.toList[i]? = some o) : ops[i]? = some o := by simpa using h
theorem get_lt {o : Oper} {i : Nat} (h : ops[i]? = some o) : i < ops.size := (Array.getElem?_eq_some_iff.1 h).1
theorem get_of_lt {i : Nat} (h : i < ops.size) : ∃ o, ops[i]? = some o := ⟨_, Array.getElem?_eq_getElem h⟩

theorem TX.frame_none (tx : TX P rec cx ops qs F V K) {t : Tmp} : ∀ j, j ≤ ops.size → (∀ (i : Nat) (o : Oper), i < j → ops[i]? = some o → o.dst ≠ some t) → (F j).tmp t = (F 0).tmp t
  | 0, _, _ => rfl
  | j + 1, hj, h => by
    obtain ⟨o, ho⟩ := get_of_lt (show j < ops.size by omega)
    obtain ⟨_, ht, _⟩ := tx.did j o ho
    rw [ht, if_neg (h j o (by omega) ho)]
    exact tx.frame_none j (by omega) fun i p hi hp => h i p (by omega) hp

theorem TX.frame_some (tx : TX P rec cx ops qs F V K) (hd : DOK ops.toList) {t : Tmp} {i : Nat} {o : Oper} (ho : ops[i]? = some o) (hdst : o.dst = some t) : ∀ j, i < j → j ≤ ops.size → (F j).tmp t = V i
  | 0, h, _ => by omega
  | j + 1, h, hj => by
    obtain ⟨p, hp⟩ := get_of_lt (show j < ops.size by omega)
    obtain ⟨_, ht, _⟩ := tx.did j p hp
    rw [ht]
    by_cases hji : i = j
    · subst hji
      rw [ho] at hp; cases hp
      rw [if_pos hdst]
    · rw [if_neg fun h1 => hji (hd.dst i j o p t (toList_get ho) (toList_get hp) hdst h1)]
      exact tx.frame_some hd ho hdst j (by omega) (by omega)

theorem TX.quiet_heap (tx : TX P rec cx ops qs F V K) {i : Nat} {o : Oper} (ho : ops[i]? = some o) (hl : loud o.op = false) : K (i + 1) = K i := by
  obtain ⟨_, _, _, h⟩ := tx.did i o ho
  rcases h with ⟨_, _, h⟩ | ⟨_, ⟨_, h, _⟩ | ⟨h, _⟩⟩
  · exact h
  · exact h
  · rw [hl] at h; cases h

theorem TX.k_const (tx : TX P rec cx ops qs F V K) {m : Nat} : ∀ j, m ≤ j → j ≤ ops.size → (∀ (l : Nat) (o : Oper), m ≤ l → l < j → ops[l]? = some o → loud o.op = false) → K j = K m
  | 0, h, _, _ => by have : m = 0 := by omega
                     subst this; rfl
  | j + 1, h, hj, hq => by
    by_cases hm : m = j + 1
    · subst hm; rfl
    · obtain ⟨o, ho⟩ := get_of_lt (show j < ops.size by omega)
      rw [tx.quiet_heap ho (hq j o (by omega) (by omega) ho)]
      exact tx.k_const j (by omega) (by omega) fun l p h1 h2 hp => hq l p h1 (by omega) hp

theorem TX.defers (tx : TX P rec cx ops qs F V K) : ∀ j, j ≤ ops.size → (F j).defers = (F 0).defers
  | 0, _ => rfl
  | j + 1, hj => by
    obtain ⟨o, ho⟩ := get_of_lt (show j < ops.size by omega)
    obtain ⟨_, _, h, _⟩ := tx.did j o ho
    rw [h]; exact tx.defers j (by omega)

structure Inv (P : Program) (B : Nat) (w0 : World) (sz : Nat) (ops : Array Oper) (f0 : AF) (V : Nat → Value) (K : Nat → AHeap) (ρ : Ren) (S : Nat → Prop) (m : Nat) (a : Act) (w : World) : Prop where
  lt : ∀ j, S j → j < ops.toList.length
  closed : Closed ops.toList S
  mem : ∀ (l : Nat) (o : Oper), ops[l]? = some o → loud o.op = true → (S l ↔ l < m)
  can : canon ops.toList m = true
  mle : m ≤ ops.size
  heap : HR P ρ (K m) B w0 w
  size : a.tmps.size = sz
  defers : L2 (DR P ρ) f0.defers a.defers
  done : ∀ (i : Nat) (o : Oper) (d : Tmp), ops[i]? = some o → S i → o.dst = some d → VR P ρ (V i) (a.tmps.getD d undef)
  rest : ∀ d, (∀ (i : Nat) (o : Oper), ops[i]? = some o → S i → o.dst ≠ some d) → VR P ρ (f0.tmp d) (a.tmps.getD d undef)

theorem put_getD {a : Act} {dst : Option Tmp} {v : Value} (hlt : ∀ d, dst = some d → d < a.tmps.size) (t : Tmp) : (a.put dst v).tmps.getD t undef = if dst = some t then v else a.tmps.getD t undef := by
  cases dst with
  | none => simp [Act.put]
  | some d =>
    by_cases hd : d = t
    · subst hd
      have := hlt d rfl
      simp [Act.put, this]
    · rw [if_neg (by simpa using hd)]
      simp only [Act.put, Array.getD_eq_getD_getElem?]
      rw [Array.getElem?_setIfInBounds_ne hd]

theorem put_size {a : Act} {dst : Option Tmp} {v : Value} : (a.put dst v).tmps.size = a.tmps.size := by cases dst <;> simp [Act.put]
theorem put_defers' {a : Act} {dst : Option Tmp} {v : Value} : (a.put dst v).defers = a.defers := by cases dst <;> simp [Act.put]

variable {ρ ρ' : Ren} {B : Nat} {w0 w w' : World} {S S' : Nat → Prop} {m m' : Nat} {a : Act} {f0 : AF} {sz : Nat}

theorem Inv.next (inv : Inv P B w0 sz ops f0 V K ρ S m a w) (hd : DOK ops.toList) (hle : Le ρ ρ') {i : Nat} {o : Oper} {v' : Value} (ho : ops[i]? = some o) (hS : ∀ j, S' j ↔ S j ∨ j = i) (hns : ¬ S i)
    (hre : ∀ e, e ∈ o.after.toList → Region.binds .any e = true → S e.on) (hlt : ∀ d, o.dst = some d → d < sz) (hv : VR P ρ' (V i) v') (hcan : canon ops.toList m' = true) (hmle : m' ≤ ops.size)
    (hmem : ∀ (l : Nat) (p : Oper), ops[l]? = some p → loud p.op = true → (S' l ↔ l < m')) (hheap : HR P ρ' (K m') B w0 w') : Inv P B w0 sz ops f0 V K ρ' S' m' (a.put o.dst v') w' := by
  have hlt' : ∀ d, o.dst = some d → d < a.tmps.size := by rw [inv.size]; exact hlt
  refine ⟨?_, ?_, hmem, hcan, hmle, hheap, by rw [put_size]; exact inv.size, by rw [put_defers']; exact L2.mono (fun _ _ h => h.mono hle) inv.defers, ?_, ?_⟩
  · intro j hj
    rcases (hS j).1 hj with h | rfl
    · exact inv.lt j h
    · simpa using get_lt ho
  · intro j p hp hj e he hb
    rcases (hS j).1 hj with h | rfl
    · exact (hS _).2 (.inl (inv.closed j p hp h e he hb))
    · have := of_toList_get hp
      rw [ho] at this; cases this
      exact (hS _).2 (.inl (hre e he hb))
  · intro j p d hp hj hpd
    rw [put_getD hlt']
    rcases (hS j).1 hj with h | rfl
    · rw [if_neg fun h1 => hns (hd.dst j i p o d (toList_get hp) (toList_get ho) hpd h1 ▸ h)]
      exact (inv.done j p d hp h hpd).mono hle
    · rw [ho] at hp; cases hp
      rw [if_pos hpd]; exact hv
  · intro d h
    rw [put_getD hlt', if_neg (h i o ho ((hS i).2 (.inr rfl)))]
    exact (inv.rest d fun j p hp hj => h j p hp ((hS j).2 (.inl hj))).mono hle

theorem Inv.reads (inv : Inv P B w0 sz ops (F 0) V K ρ S m a w) (tx : TX P rec cx ops qs F V K) (hd : DOK ops.toList) {i : Nat} {o : Oper} (ho : ops[i]? = some o) (hns : ¬ S i)
    (hre : ∀ e, e ∈ o.after.toList → Region.binds .any e = true → S e.on) {t : Tmp} (ht : t ∈ readsOf ops.toList o) : VR P ρ ((F i).tmp t) (a.tmps.getD t undef) := by
  have hi := get_lt ho
  by_cases hex : ∃ (l : Nat) (p : Oper), ops[l]? = some p ∧ p.dst = some t
  · obtain ⟨l, p, hp, hpd⟩ := hex
    have huniq : ∀ (k : Nat) (q : Oper), ops[k]? = some q → q.dst = some t → k = l := fun k q hq hqd => hd.dst k l q p t (toList_get hq) (toList_get hp) hqd hpd
    have hfresh : ¬ S l → ¬ l < i → VR P ρ ((F i).tmp t) (a.tmps.getD t undef) := by
      intro hnS hnl
      rw [tx.frame_none i (by omega) fun k q hk hq hqd => by have := huniq k q hq hqd; omega]
      exact inv.rest t fun k q hq hk hqd => hnS (huniq k q hq hqd ▸ hk)
    rcases hd.reads l i p o t (toList_get hp) (toList_get ho) hpd ht with rfl | h1 | h1
    · exact hfresh hns (by omega)
    · have hSl := ready_prec inv.closed inv.lt (toList_get ho) hre h1
      have hlt := prec_lt hd i (by simpa using hi) h1
      rw [tx.frame_some hd hp hpd i hlt (by omega)]
      exact inv.done l p t hp hSl hpd
    · refine hfresh (fun hSl => hns (closed_prec inv.closed inv.lt l hSl h1)) ?_
      have := prec_lt hd l (by simpa using get_lt hp) h1
      omega
  · rw [tx.frame_none i (by omega) fun k q hk hq hqd => hex ⟨k, q, hq, hqd⟩]
    exact inv.rest t fun k q hq hk hqd => hex ⟨k, q, hq, hqd⟩

theorem Inv.place (inv : Inv P B w0 sz ops f0 V K ρ S m a w) (tx : TX P rec cx ops qs F V K) (hd : DOK ops.toList) {i : Nat} {o : Oper} (ho : ops[i]? = some o) (hns : ¬ S i)
    (hre : ∀ e, e ∈ o.after.toList → Region.binds .any e = true → S e.on) (hl : loud o.op = true) : m ≤ i ∧ K i = K m ∧ ∀ (l : Nat) (p : Oper), ops[l]? = some p → loud p.op = true → (S l ↔ l < i) := by
  have hi := get_lt ho
  have hmi : m ≤ i := by
    rcases Nat.lt_or_ge i m with h | h
    · exact absurd ((inv.mem i o ho hl).2 h) hns
    · exact h
  have hbelow : ∀ (l : Nat) (p : Oper), ops[l]? = some p → loud p.op = true → l < i → S l := fun l p hp hlp hli =>
    ready_prec inv.closed inv.lt (toList_get ho) hre (hd.loud l i p o (toList_get hp) (toList_get ho) hli hlp hl)
  refine ⟨hmi, tx.k_const i hmi (by omega) fun l p h1 h2 hp => ?_, fun l p hp hlp => ⟨fun h => ?_, fun h => hbelow l p hp hlp h⟩⟩
  · cases hlp : loud p.op with
    | false => rfl
    | true =>
      have := (inv.mem l p hp hlp).1 (hbelow l p hp hlp h2)
      omega
  · have := (inv.mem l p hp hlp).1 h
    omega

theorem Inv.window (inv : Inv P B w0 sz ops f0 V K ρ S m a w) {i : Nat} {o : Oper} (ho : ops[i]? = some o) (hns : ¬ S i)
    (hre : ∀ e, e ∈ o.after.toList → Region.binds .any e = true → S e.on) : m ∈ window ops.toList i := by
  unfold Am.window
  rw [List.mem_filter, List.mem_range, Bool.and_eq_true]
  refine ⟨by have := inv.mle; simp; omega, inv.can, ?_⟩
  unfold allowed
  simp only [List.all_eq_true, List.mem_range]
  intro l _
  split
  · rfl
  · rename_i p hp
    cases hlp : loud p.op with
    | false => simp
    | true =>
      have hm := inv.mem l p (of_toList_get hp) hlp
      simp only [Bool.not_true, Bool.false_or, Bool.and_eq_true, Bool.or_eq_true, Bool.not_eq_true', decide_eq_true_eq]
      refine ⟨?_, ?_⟩
      · cases h1 : precedes (bitsBefore ops.toList []) l i with
        | false => exact .inl rfl
        | true => exact .inr (hm.1 (ready_prec inv.closed inv.lt (toList_get ho) hre h1))
      · cases h1 : precedes (bitsBefore ops.toList []) i l with
        | false => exact .inl rfl
        | true =>
          refine .inr ?_
          rcases Nat.lt_or_ge l m with h2 | h2
          · exact absurd (closed_prec inv.closed inv.lt l (hm.2 h2) h1) hns
          · exact h2

theorem decode_call {o : Op} {g : Operand} {args : List Operand} (h : decode o = .call g args) : ∃ a ts, o = .call { callee := .value g, args := a, argTypes := ts } ∧ args = a.toList := by
  cases o with
  | call c =>
    obtain ⟨callee, a, ts⟩ := c
    cases callee with
    | builtin b => cases b <;> simp [decode] at h
    | value x => simp only [decode, AOp.call.injEq] at h; obtain ⟨rfl, rfl⟩ := h; exact ⟨_, _, rfl, rfl⟩
    | invoke => simp [decode] at h
  | defer c =>
    obtain ⟨callee, a, ts⟩ := c
    cases callee <;> simp [decode] at h
  | next it s => cases s <;> simp [decode] at h
  | _ => simp [decode] at h

theorem decode_defer {o : Op} {c : Call} (h : o = .defer c) : ∃ n g args, decode o = .rest n g args := by
  subst h
  obtain ⟨callee, a, ts⟩ := c
  cases callee <;> exact ⟨_, _, _, rfl⟩

theorem Inv.step (hrec : RecOK P rec) (inv : Inv P B w0 cx.sz ops (F 0) V K ρ S m a w) (tx : TX P rec cx ops qs F V K) (hd : DOK ops.toList) (hl : LI P ρ cx.loops) {Fe : Fence} (hF : FR ρ cx Fe) {i : Nat} {o : Oper} (ho : ops[i]? = some o)
    (hns : ¬ S i) (hre : ∀ e, e ∈ o.after.toList → Region.binds .any e = true → S e.on) (hS : ∀ j, S' j ↔ S j ∨ j = i) {Q : Exit → Act → World → Prop} {next : Act → World → Prop}
    (hnext : ∀ ρ' m' a' w', Le ρ ρ' → Inv P B w0 cx.sz ops (F 0) V K ρ' S' m' a' w' → next a' w') : wpOpIn Fe 0 P ops Q i next a w := by
  have hi := get_lt ho
  obtain ⟨hlt, _, _, hcase⟩ := tx.did i o ho
  have hreads : ∀ t, t ∈ readsOf ops.toList o → VR P ρ ((F i).tmp t) (a.tmps.getD t undef) := fun t ht => inv.reads tx hd ho hns hre ht
  have hev : ∀ x, VR P ρ (evR (opReads o) (F i) x) (a.eval x) := evR_ok fun t ht => hreads t (reads_op ht)
  have hwant : ∀ b, wantedA ops (F i) o = some b → Region.wanted o (yielded ops a.tmps) = b := fun b hb =>
    wanted_at (fun g want p d hg hp hdst => hreads d (reads_guard hg (toList_get hp) hdst)) hb
  -- what becomes of the place in memory
  have quiet : loud o.op = false → ∀ (l : Nat) (p : Oper), ops[l]? = some p → loud p.op = true → (S' l ↔ l < m) := by
    intro hq l p hp hlp
    rw [hS, ← inv.mem l p hp hlp]
    refine ⟨fun h => ?_, .inl⟩
    rcases h with h | rfl
    · exact h
    · rw [ho] at hp; cases hp; rw [hq] at hlp; cases hlp
  have noisy : loud o.op = true → ∀ (l : Nat) (p : Oper), ops[l]? = some p → loud p.op = true → (S' l ↔ l < i + 1) := by
    intro hq l p hp hlp
    obtain ⟨_, _, h⟩ := inv.place tx hd ho hns hre hq
    rw [hS, h l p hp hlp]
    omega
  have ncan : loud o.op = true → canon ops.toList (i + 1) = true := fun hq => by simp only [canon, toList_get ho]; exact hq
  unfold wpOpIn
  rw [ho]
  simp only
  rcases hcase with ⟨hw, hv, hH⟩ | ⟨hw, hcase⟩
  · rw [hwant _ hw]
    simp only [Bool.false_eq_true, if_false]
    refine ⟨fun _ _ => hF.fn _, ?_⟩
    have hvr : VR P ρ (V i) undef := by rw [hv]; exact VR.undef
    cases hlo : loud o.op with
    | false => exact hnext ρ m _ _ (Le.refl _) (inv.next hd (Le.refl _) ho hS hns hre hlt hvr inv.can inv.mle (quiet hlo) inv.heap)
    | true =>
      obtain ⟨_, hk, _⟩ := inv.place tx hd ho hns hre hlo
      refine hnext ρ (i + 1) _ _ (Le.refl _) (inv.next hd (Le.refl _) ho hS hns hre hlt hvr (ncan hlo) (by omega) (noisy hlo) ?_)
      rw [hH, hk]; exact inv.heap
  · rw [hwant _ hw]
    simp only [if_true]
    have hval : ∀ {H1 : AHeap} {v : Value} {H' : AHeap}, HR P ρ H1 B w0 w → valA P o (decode o.op) (evR (opReads o) (F i)) H1 pairK = some (v, H') →
        (∀ ρ' v' w', Le ρ ρ' → HR P ρ' H' B w0 w' → VR P ρ' v v' → next (a.put o.dst v') w') → o.wpIn Fe 0 P a w next Q := by
      intro H1 v H' hH1 hva hgo
      have hnd : ∀ c, o.op ≠ .defer c := by
        intro c hc
        obtain ⟨n, g, args, hdec⟩ := decode_defer hc
        rw [hdec] at hva
        simp [valA] at hva
      obtain ⟨v1, H2, ρ', v', w', h1, h2, h3, h4, h5⟩ := valA_ok hH1 hev hva
      simp only [pairK, Option.some.injEq, Prod.mk.injEq] at h1
      obtain ⟨rfl, rfl⟩ := h1
      refine ⟨fun g _ => hF.fn g, ?_⟩
      rw [Oper.semAt_eq _ _ _ hnd]
      have hfin := hgo ρ' v' w' h2 h3 h4
      rcases h5 with h5 | ⟨h5, rfl⟩
      · rw [h5]; exact hfin
      · rw [h5]; exact hfin
    rcases hcase with ⟨hlo, hH, hq⟩ | ⟨hlo, hcase⟩
    · -- quiet
      obtain ⟨H', hva⟩ := tx.st _ hq m (inv.window ho hns hre)
      simp only at hva
      obtain ⟨v1, hk1⟩ := quiet_k hlo hva
      simp only [pairK, Option.some.injEq, Prod.mk.injEq] at hk1
      obtain ⟨_, rfl⟩ := hk1
      refine hval inv.heap hva fun ρ' v' w' hle hHR hvr => ?_
      exact hnext ρ' m _ _ hle (inv.next hd hle ho hS hns hre hlt hvr inv.can inv.mle (quiet hlo) hHR)
    · obtain ⟨_, hk, _⟩ := inv.place tx hd ho hns hre hlo
      have hheap : HR P ρ (K i) B w0 w := by rw [hk]; exact inv.heap
      have fin : ∀ ρ' v' w', Le ρ ρ' → HR P ρ' (K (i + 1)) B w0 w' → VR P ρ' (V i) v' → next (a.put o.dst v') w' := fun ρ' v' w' hle hHR hvr =>
        hnext ρ' (i + 1) _ _ hle (inv.next hd hle ho hS hns hre hlt hvr (ncan hlo) (by omega) (noisy hlo) hHR)
      rcases hcase with ⟨g, args, q, args2, r, hdec, hcal, hr, hv, hH⟩ | hva
      · obtain ⟨ar, ts, hop, rfl⟩ := decode_call hdec
        obtain ⟨fn, first, captured, first', captured', hfn, hn, hb, hx, rfl, hv1, hv2⟩ := aCallee_fn (hev g) hcal
        have hsem : o.semAt Fe.round a.eval = execOp a.eval o := Oper.semAt_eq _ _ _ (fun c h0 => by rw [hop] at h0; cases h0)
        refine ⟨fun g _ => hF.fn g, ?_⟩
        rw [hsem, run_call hop hx hfn hn hb, arr_of_list]
        have hc := hrec _ _ hr ρ B w0 w _ hheap hl ((hv1.append (vl_map hev ar.toList)).append hv2)
        refine ⟨hF.depth, hF.calls (CallsIn.mono (by simpa using hc) ?_)⟩
        rintro e w' ⟨r1, hr1, ρ', v', rfl, hle, hHR, hvr⟩
        have : r1 = r := by simpa using hr1
        subst this
        exact fin ρ' v' w' hle (by rw [hH]; exact hHR) (by rw [hv]; exact hvr)
      · exact hval hheap hva fin

theorem draws (hrec : RecOK P rec) (tx : TX P rec cx ops qs F V K) (hd : DOK ops.toList) {Fe : Fence} {Q : Exit → Act → World → Prop} : ∀ (fuel : Nat) (listed : Array Bool) (ρ : Ren) (m : Nat) (a : Act) (w : World),
    listed.size = ops.size → ((List.range ops.size).filter fun j => !listed.getD j false).length ≤ fuel → LI P ρ cx.loops → FR ρ cx Fe → Inv P B w0 cx.sz ops (F 0) V K ρ (fun j => listed.getD j false = true) m a w →
    (∀ ρ' a' w', Le ρ ρ' → HR P ρ' (K ops.size) B w0 w' → AFR P ρ' cx.sz (F ops.size) a' → Q .normal a' w') → wpAnyIn Fe 0 P .any ops Q fuel listed a w := by
  intro fuel
  have allS : ∀ (listed : Array Bool), listed.size = ops.size → Region.ready .any ops listed = [] → ∀ j, j < ops.size → listed.getD j false = true := by
    intro listed hsz hr j
    induction j using Nat.strongRecOn with
    | _ j ih =>
      intro hj
      obtain ⟨o, ho⟩ := get_of_lt hj
      cases hc : listed.getD j false with
      | true => rfl
      | false =>
        have hmem : j ∈ Region.ready .any ops listed := mem_ready.2 ⟨by
          simp only [Array.getD_eq_getD_getElem?] at hc ⊢
          rw [Array.getElem?_eq_getElem (by omega)] at hc ⊢
          exact hc, o, ho, fun e he hb => by
            have hlt := hd.edge j o (toList_get ho) e (by simpa using he) hb
            exact ih e.on hlt (by omega)⟩
        rw [hr] at hmem; cases hmem
  have fin : ∀ (listed : Array Bool) (ρ : Ren) (m : Nat) (a : Act) (w : World), listed.size = ops.size → Inv P B w0 cx.sz ops (F 0) V K ρ (fun j => listed.getD j false = true) m a w →
      (∀ ρ' a' w', Le ρ ρ' → HR P ρ' (K ops.size) B w0 w' → AFR P ρ' cx.sz (F ops.size) a' → Q .normal a' w') → Region.ready .any ops listed = [] → Q .normal a w := by
    intro listed ρ m a w hsz inv hQ hr
    have hall := allS listed hsz hr
    refine hQ ρ a w (Le.refl _) ?_ ⟨inv.size, fun t => ?_, by rw [tx.defers _ (Nat.le_refl _)]; exact inv.defers⟩
    · rw [tx.k_const ops.size inv.mle (Nat.le_refl _) fun l o h1 h2 ho => ?_]
      · exact inv.heap
      · cases hlo : loud o.op with
        | false => rfl
        | true =>
          have := (inv.mem l o ho hlo).1 (hall l h2)
          omega
    · by_cases hex : ∃ (l : Nat) (p : Oper), ops[l]? = some p ∧ p.dst = some t
      · obtain ⟨l, p, hp, hpd⟩ := hex
        rw [tx.frame_some hd hp hpd _ (get_lt hp) (Nat.le_refl _)]
        exact inv.done l p t hp (hall l (get_lt hp)) hpd
      · rw [tx.frame_none _ (Nat.le_refl _) fun k q hk hq hqd => hex ⟨k, q, hq, hqd⟩]
        exact inv.rest t fun k q hq hk hqd => hex ⟨k, q, hq, hqd⟩
  induction fuel with
  | zero =>
    intro listed ρ m a w hsz hlen hl hF inv hQ
    have hr : Region.ready .any ops listed = [] := by
      cases hr : Region.ready .any ops listed with
      | nil => rfl
      | cons j js =>
        exfalso
        have hj : j ∈ Region.ready .any ops listed := by rw [hr]; exact List.mem_cons_self ..
        obtain ⟨h0, o, ho, _⟩ := mem_ready.1 hj
        have hjl := get_lt ho
        have hj2 : j ∈ (List.range ops.size).filter fun j => !listed.getD j false := by
          rw [List.mem_filter, List.mem_range]
          refine ⟨hjl, ?_⟩
          simp only [Array.getD_eq_getD_getElem?] at h0 ⊢
          rw [Array.getElem?_eq_getElem (by omega)] at h0 ⊢
          simp at h0 ⊢; exact h0
        have := List.length_pos_of_mem hj2
        omega
    exact ⟨hr, fin listed ρ m a w hsz inv hQ hr⟩
  | succ fuel ih =>
    intro listed ρ m a w hsz hlen hl hF inv hQ
    refine ⟨fin listed ρ m a w hsz inv hQ, fun i hi => ?_⟩
    obtain ⟨h0, o, ho, hall⟩ := mem_ready.1 hi
    have hil := get_lt ho
    have hns : listed.getD i false = false := by
      simp only [Array.getD_eq_getD_getElem?] at h0 ⊢
      rw [Array.getElem?_eq_getElem (by omega)] at h0 ⊢
      exact h0
    have hget : ∀ j, (listed.setIfInBounds i true).getD j false = true ↔ listed.getD j false = true ∨ j = i := by
      intro j
      simp only [Array.getD_eq_getD_getElem?]
      by_cases hji : j = i
      · subst hji
        rw [Array.getElem?_setIfInBounds_self_of_lt (by omega)]
        simp
      · rw [Array.getElem?_setIfInBounds_ne (fun h => hji h.symm)]
        simp [hji]
    refine inv.step hrec tx hd hl hF ho (by simp [hns]) (fun e he hb => hall e (by simpa using he) hb) hget ?_
    intro ρ' m' a' w' hle inv'
    refine ih (listed.setIfInBounds i true) ρ' m' a' w' (by simpa using hsz) ?_ (hl.mono hle) (hF.mono hle) inv' fun ρ2 a2 w2 hle2 => hQ ρ2 a2 w2 (hle.trans hle2)
    have := filter_lt (p := fun j => !listed.getD j false) (p' := fun j => !(listed.setIfInBounds i true).getD j false) (i := i) (l := List.range ops.size)
      (fun x hx => by
        simp only [Bool.not_eq_true'] at hx ⊢
        cases hc : listed.getD x false with
        | false => rfl
        | true =>
          have := (hget x).2 (.inl hc)
          rw [this] at hx; cases hx)
      (by simp [hns]) (by have := (hget i).2 (.inr rfl); simp [this]) (by simpa using hil)
    omega

theorem drawA_ok (hrec : RecOK P rec) (hmix : P.follows .mixedOrders = true) {id : Nat} {f : AF} {H : AHeap} {outs : List Out} (ha : drawA P rec cx ops f H = some outs) : CodeOK P cx (.region id ops true) f H outs := by
  unfold drawA at ha
  split at ha
  · cases ha
  · rename_i hok
    have hd := drawOk_dok hok
    obtain ⟨F, V, K, hs', qs', h1, h2, h3, _, ⟨l, h5, h6⟩, h7⟩ := textA_spec _ _ _ _ _ _ ha
    simp only at h1
    split at h1
    · cases h1
    · rename_i hst
      have tx : TX P rec cx ops qs' F V K := by
        refine ⟨fun i o ho => by have := h7 i o (by simpa using ho); simpa using this, fun q hq m hm => ?_⟩
        have hq1 := (List.all_eq_true.1 hst) q hq
        unfold stable at hq1
        have hm1 := (List.all_eq_true.1 hq1) m hm
        have hmle : m ≤ ops.toList.length := by
          unfold Am.window at hm
          have := (List.mem_filter.1 hm).1
          rw [List.mem_range] at this; omega
        have hget : (K ops.toList.length :: hs').reverse[m]? = some (K m) := by
          rw [h5]; simpa using h6 m hmle
        rw [hget] at hm1
        simp only at hm1
        split at hm1
        · rename_i v H' hv
          exact ⟨H', by rw [hv, beqV_eq _ _ _ hm1]⟩
        · cases hm1
      cases h1
      intro ρ B w0 w a Fe h hl hF hf
      refine wpIn_region_any hmix ?_
      have hinv : Inv P B w0 cx.sz ops (F 0) V K ρ (fun j => (Array.replicate ops.size false).getD j false = true) 0 a { w with drawn := w.drawn + 1 } := by
        have hno : ∀ j, ¬ (Array.replicate ops.size false).getD j false = true := by
          intro j
          simp only [Array.getD_eq_getD_getElem?]
          rw [Array.getElem?_replicate]
          split <;> simp
        refine ⟨fun j hj => absurd hj (hno j), fun j o _ hj => absurd hj (hno j), fun l o _ _ => ⟨fun hj => absurd hj (hno l), fun h => by omega⟩, rfl, by omega, ?_, hf.size, ?_, fun i o d _ hj => absurd hj (hno i), fun d _ => ?_⟩
        · rw [h3]; exact h.drew
        · rw [h2]; exact hf.defers
        · rw [h2]; exact hf.tmps d
      refine draws hrec tx hd ops.size (Array.replicate ops.size false) ρ 0 a _ (by simp) ?_ hl hF hinv ?_
      · exact Nat.le_trans (List.length_filter_le _ _) (by simp)
      · intro ρ' a' w' hle hHR hf'
        have hlen : ops.toList.length = ops.size := by simp
        rw [← hlen] at hHR hf'
        exact ⟨_, List.mem_singleton_self _, rfl, ρ', hle, hHR, hf'⟩
end
end Go.Am
namespace Go.Am
open Go.RowKit

section
variable {P : Program}

theorem codeA_ok (hmix : P.follows .mixedOrders = true) {n : Nat} {rec : Rec} (hrec : RecOK P rec) {cx : Cx} {c : Code} {f : AF} {H : AHeap} {outs : List Out} (ha : codeA P n rec cx c f H = some outs) : CodeOK P cx c f H outs := by
  unfold codeA at ha
  split at ha
  · exact code_simple ha fun F Q a w h => wpIn_skip h
  · exact code_simple ha fun F Q a w h => wpIn_label h
  · rename_i id ops draw
    split at ha
    · intro ρ B w0 w a F h hl hF hf
      refine wpIn_region ?_
      have := opsA_ok (B := B) (w0 := w0) hrec (F := F) (Q := OutPost P ρ B w0 cx.sz outs) (ops := ops) (cx := cx) ops.toList 0 ρ H w f a outs rfl ha h hl hF hf (fun _ _ _ h => h)
      rw [List.range_eq_range']
      simpa using this
    · exact drawA_ok hrec hmix ha
  · exact seqA_ok hrec ha
  · exact condA_ok hrec ha
  · exact blockA_ok hrec ha
  · intro ρ B w0 w a F h hl hF hf
    exact wpIn_loop_rounds n (loopA_ok hrec n ρ H w f a outs ha h hl hF hf (fun _ _ _ h => h))
  · exact code_simple ha fun F Q a w h => wpIn_exit h
  · exact code_simple ha fun F Q a w h => wpIn_ret h
  · exact scopeA_ok hrec ha
  · exact rangeA_ok hrec ha
  · cases ha
  · cases ha

theorem stepA_ok (hmix : P.follows .mixedOrders = true) {n : Nat} {rec : Rec} (hrec : RecOK P rec) : RecOK P (stepA P n rec) := by
  intro t outs h
  unfold stepA at h
  cases t with
  | code cx c f H => exact codeA_ok hmix hrec h
  | call dm loops g args H => exact enterA_ok hrec h
  | round loops l args H => exact roundA_ok hrec h

theorem ev_ok (hmix : P.follows .mixedOrders = true) : ∀ n, RecOK P (ev P n)
  | 0 => fun t outs h => by cases h
  | n + 1 => stepA_ok hmix (ev_ok hmix n)

/-- A closed call whose one way gives a plain value. -/
noncomputable def givesV (P : Program) (n : Nat) (g : FuncId) (args : List Value) (v : Value) : Bool :=
  match ev P n (.call false [] g args ⟨0, .e⟩) with
  | some outs => outs.all fun r => plainV 6 r.v && beqV 8 r.v v
  | none => false

theorem calls_of_gives (hmix : P.follows .mixedOrders = true) {n : Nat} {g : FuncId} {args : List Value} {v : Value} (hp : args.all (plainV 6) = true) (h : givesV P n g args v = true) (w : World) :
    Calls P g args.toArray w fun e w' => e = .returned v ∧ Below w.heap.size w w' := by
  unfold givesV at h
  split at h
  · rename_i outs hev
    have hHR : HR P [] (⟨0, .e⟩ : AHeap) w.heap.size w w := ⟨rfl, fun i x hx => by simp at hx, fun i hx => by simp at hx, fun i j x y hx => by simp at hx, Below.refl _ _, Nat.le_refl _⟩
    have hargs : ∀ {l : List Value}, l.all (plainV 6) = true → VL P [] l l := by
      intro l
      induction l with
      | nil => exact fun _ => .nil
      | cons x xs ih =>
        intro hl
        simp only [List.all_cons, Bool.and_eq_true] at hl
        exact .cons (plain_refl 6 hl.1) (ih hl.2)
    have hc := ev_ok hmix n _ _ hev [] w.heap.size w w args hHR (fun l x hx => by simp [findLoop] at hx) (hargs hp)
    refine callsIn_wide.1 (CallsIn.mono hc ?_)
    rintro e w' ⟨r, hr, ρ', v', rfl, hle, hHR', hv⟩
    have h1 := (List.all_eq_true.1 h) r hr
    simp only [Bool.and_eq_true] at h1
    have h2 := plain_eq 6 hv h1.1
    have h3 := beqV_eq _ _ _ h1.2
    exact ⟨by rw [h2, h3], hHR'.base⟩
  · cases h
end
end Go.Am
namespace Go.Am
open Go.RowKit

structure Entry where
  g : FuncId
  args : List Value
  H : AHeap
  outs : List Out

noncomputable section

def findT (g : FuncId) (args : List Value) (H : AHeap) : List Entry → Option (List Out)
  | [] => none
  | e :: es => match Nat.beq g e.g with
    | false => findT g args H es
    | true => match Nat.beq H.n e.H.n && beqVs args e.args && beqHeap H e.H H.n with
      | true => some e.outs
      | false => findT g args H es

def lookT (tbl : List Entry) (rec : Rec) : Rec := fun t => match t with
  | .call dm loops g args H => match dm with
    | false => match findT g args H tbl with
      | some outs => some outs
      | none => rec (.call false loops g args H)
    | true => rec (.call true loops g args H)
  | t => rec t

def evT (P : Program) (tbl : List Entry) (n : Nat) : Task → Option (List Out) :=
  @Nat.rec (fun _ => Task → Option (List Out)) (fun _ => none) (fun n ih => stepA P n (lookT tbl ih)) n

def meets (r : Option (List Out)) (outs : List Out) : Bool := match r with
  | some l => l.all fun r => outs.any fun s => beqOut r s
  | none => false

/-- One of a table's lines, run. -/
def runs (P : Program) (tbl : List Entry) (n : Nat) (e : Entry) : Bool := meets (evT P tbl n (.call false [] e.g e.args e.H)) e.outs

def givesT (P : Program) (tbl : List Entry) (n : Nat) (g : FuncId) (args : List Value) (v : Value) : Bool :=
  match evT P tbl n (.call false [] g args ⟨0, .e⟩) with
  | some outs => outs.all fun r => plainV 6 r.v && beqV 8 r.v v
  | none => false
end

section
variable {P : Program}

def EntryOK (P : Program) (e : Entry) : Prop := CallOK P false [] e.g e.args e.H e.outs

theorem findT_ok {g : FuncId} {args : List Value} {H : AHeap} {outs : List Out} : ∀ {tbl : List Entry}, (∀ e, e ∈ tbl → EntryOK P e) → findT g args H tbl = some outs → CallOK P false [] g args H outs
  | [], _, h => by simp [findT] at h
  | e :: es, ht, h => by
    simp only [findT] at h
    split at h
    · exact findT_ok (fun x hx => ht x (List.mem_cons_of_mem _ hx)) h
    · rename_i hg
      split at h
      · rename_i hc
        cases h
        simp only [Bool.and_eq_true] at hc
        obtain ⟨⟨h1, h2⟩, h3⟩ := hc
        have h1 := Nat.eq_of_beq_eq_true h1
        have hg := Nat.eq_of_beq_eq_true hg
        have h2 : args = e.args := beqL_eq (beqV_eq 8) h2
        have he := ht e (List.mem_cons_self ..)
        intro ρ B w0 w args' hHR hl hv
        have := he ρ B w0 w args' (hHR.same h1 (beqHeap_eq h3)) hl (h2 ▸ hv)
        rw [hg]
        exact this
      · exact findT_ok (fun x hx => ht x (List.mem_cons_of_mem _ hx)) h

theorem CallOK.loops {g : FuncId} {args : List Value} {H : AHeap} {outs : List Out} {loops : List (Nat × LInfo)} (h : CallOK P false [] g args H outs) : CallOK P false loops g args H outs :=
  fun ρ B w0 w args' hHR _ hv => h ρ B w0 w args' hHR (fun l x hx => by simp [findLoop] at hx) hv

theorem lookT_ok {tbl : List Entry} (ht : ∀ e, e ∈ tbl → EntryOK P e) {rec : Rec} (hrec : RecOK P rec) : RecOK P (lookT tbl rec) := by
  intro t outs h
  unfold lookT at h
  split at h
  · rename_i dm loops g args H
    split at h
    · split at h
      · rename_i o hf
        cases h
        exact (findT_ok ht hf).loops
      · exact hrec _ _ h
    · exact hrec _ _ h
  · exact hrec _ _ h

theorem evT_ok (hmix : P.follows .mixedOrders = true) {tbl : List Entry} (ht : ∀ e, e ∈ tbl → EntryOK P e) : ∀ n, RecOK P (evT P tbl n)
  | 0 => fun t outs h => by cases h
  | n + 1 => stepA_ok hmix (lookT_ok ht (evT_ok hmix ht n))

theorem entry_ok (hmix : P.follows .mixedOrders = true) {tbl : List Entry} (ht : ∀ e, e ∈ tbl → EntryOK P e) {n : Nat} {e : Entry} (h : runs P tbl n e = true) : EntryOK P e := by
  unfold runs meets at h
  split at h
  · rename_i l hev
    have hc := evT_ok hmix ht n _ _ hev
    intro ρ B w0 w args' hHR hl hv
    refine CallsIn.mono (hc ρ B w0 w args' hHR hl hv) ?_
    rintro e' w' ⟨r, hr, ρ', v', he, hle, hHR', hv'⟩
    have h1 := (List.all_eq_true.1 h) r hr
    obtain ⟨s, hs, hb⟩ := List.any_eq_true.1 h1
    simp only [beqOut, Bool.and_eq_true] at hb
    obtain ⟨⟨h1, h2⟩, h3⟩ := hb
    have h1 : r.H.n = s.H.n := by simpa using h1
    exact ⟨s, hs, ρ', v', he, hle, hHR'.same h1 (beqHeap_eq h3), by rw [← beqV_eq _ _ _ h2]; exact hv'⟩
  · cases h

theorem calls_of_table (hmix : P.follows .mixedOrders = true) {tbl : List Entry} (ht : ∀ e, e ∈ tbl → EntryOK P e) {n : Nat} {g : FuncId} {args : List Value} {v : Value} (hp : args.all (plainV 6) = true) (h : givesT P tbl n g args v = true) (w : World) :
    Calls P g args.toArray w fun e w' => e = .returned v ∧ Below w.heap.size w w' := by
  unfold givesT at h
  split at h
  · rename_i outs hev
    have hHR : HR P [] (⟨0, .e⟩ : AHeap) w.heap.size w w := ⟨rfl, fun i x hx => by simp at hx, fun i hx => by simp at hx, fun i j x y hx => by simp at hx, Below.refl _ _, Nat.le_refl _⟩
    have hargs : ∀ {l : List Value}, l.all (plainV 6) = true → VL P [] l l := by
      intro l
      induction l with
      | nil => exact fun _ => .nil
      | cons x xs ih =>
        intro hl
        simp only [List.all_cons, Bool.and_eq_true] at hl
        exact .cons (plain_refl 6 hl.1) (ih hl.2)
    have hc := evT_ok hmix ht n _ _ hev [] w.heap.size w w args hHR (fun l x hx => by simp [findLoop] at hx) (hargs hp)
    refine callsIn_wide.1 (CallsIn.mono hc ?_)
    rintro e w' ⟨r, hr, ρ', v', rfl, hle, hHR', hv⟩
    have h1 := (List.all_eq_true.1 h) r hr
    simp only [Bool.and_eq_true] at h1
    have h2 := plain_eq 6 hv h1.1
    have h3 := beqV_eq _ _ _ h1.2
    exact ⟨by rw [h2, h3], hHR'.base⟩
  · cases h
end
end Go.Am
