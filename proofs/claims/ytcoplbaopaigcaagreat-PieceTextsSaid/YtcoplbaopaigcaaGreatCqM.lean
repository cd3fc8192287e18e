/- Legs by their IDs, and taking a row of them. -/
import Derived.Maps.OwnSet
import Derived.Test.YtcoplbaopaigcaaGreatCqK
set_option linter.all false
namespace Go.Proofs.YtcoplbaopaigcaaGreat
open Go.RowKit Go.Maps
/-- How a leg in a map reads. -/
def R3 : Value → Option (DataW Unit × List MemPlace)
  | .agg xs => match xs.toList with
    | [.int .i64 a, .int .i64 b, .int .i64 c] => some (.agg [.lit (.int .i64 a), .lit (.int .i64 b), .lit (.int .i64 c)], [])
    | _ => none
  | _ => none
def dat3 (t : Tr) : DataW Unit := .agg [.lit (.int .i64 t.1), .lit (.int .i64 t.2.1), .lit (.int .i64 t.2.2)]
def val3 (t : Tr) : Value := .agg #[.int .i64 t.1, .int .i64 t.2.1, .int .i64 t.2.2]
theorem R3_mk (t : Tr) : R3 (val3 t) = some (dat3 t, []) := rfl
theorem R3_inv {v : Value} {t : Tr} {ps : List MemPlace} (h : R3 v = some (dat3 t, ps)) : v = val3 t := by
  obtain ⟨a, b, c⟩ := t
  unfold R3 at h
  split at h
  · rename_i xs
    split at h
    · rename_i x y z hl
      simp only [dat3, Option.some.injEq, Prod.mk.injEq, DataW.agg.injEq, List.cons.injEq, DataW.lit.injEq, Lit.int.injEq] at h
      obtain ⟨⟨⟨_, rfl⟩, ⟨_, rfl⟩, ⟨_, rfl⟩, _⟩, _⟩ := h
      have : xs = #[.int .i64 x, .int .i64 y, .int .i64 z] := by rw [← hl]
      rw [this]; rfl
    · cases h
  · cases h
theorem zero126 (w : World) : (zeroValue 126).run Tryz.prog w = .ok (val3 (0, 0, 0)) w := by kernel_rfl
def hasId (M : List Tr) (s : Int) : Bool := M.any fun t => t.1 == s
/-- Block b is a map of the call's own: the legs M by their IDs. -/
def MapL (w : World) (b n : Nat) (M : List Tr) : Prop :=
  ∃ D : DataW Unit, w.ownsMap Tryz.prog 3 R3 b n D ∧ (M.map (·.1)).Nodup ∧ Maps.size D = M.length ∧ (∀ s, Maps.has D (.int .i64 s) = hasId M s) ∧ ∀ t ∈ M, ∀ zd, D.atKey (.int .i64 t.1) zd = dat3 t
theorem MapL.made (w : World) : MapL (w.alloc (.map #[] 0)) w.heap.size 0 [] := ⟨_, World.ownsMap_made w _ _ _, List.nodup_nil, rfl, fun _ => rfl, fun t h => by simp at h⟩
section
variable {w w' : World} {b n : Nat} {M : List Tr}
theorem MapL.lt (h : MapL w b n M) : b < w.heap.size := by obtain ⟨D, h1, _⟩ := h; exact h1.lt
theorem MapL.below {B : Nat} (h : MapL w b n M) (hb : Below B w w') (hB : b < B) : MapL w' b n M := by
  obtain ⟨D, ⟨es, clock, hh, r⟩, h2⟩ := h
  exact ⟨D, ⟨es, clock, (hb.block b hB).trans hh, r⟩, h2⟩
theorem MapL.alloc (h : MapL w b n M) (o : Obj) : MapL (w.alloc o) b n M := by
  obtain ⟨D, h1, h2⟩ := h
  exact ⟨D, h1.alloc o, h2⟩
theorem MapL.setCell (h : MapL w b n M) {a : Addr} (ha : b ≠ a.block) (u : Value) : MapL (w.setCell a u) b n M := by
  obtain ⟨D, h1, h2⟩ := h
  exact ⟨D, h1.setCell ha u, h2⟩
theorem MapL.nodup (h : MapL w b n M) : (M.map (·.1)).Nodup := by obtain ⟨D, _, h2, _⟩ := h; exact h2
theorem hasId_mem {s : Int} : hasId M s = true ↔ ∃ t ∈ M, t.1 = s := by simp [hasId]
theorem MapL.look_in (h : MapL w b n M) {t : Tr} (ht : t ∈ M) (hs : (Lit.int .i64 t.1).wf = true) :
    (Instr.lookup 136 (.map (some b)) (.int .i64 t.1) true).run Tryz.prog w = .ok (.tuple #[val3 t, .bool true]) w := by
  obtain ⟨D, h1, _, _, h4, h5⟩ := h
  obtain ⟨v, ps, hrun, hv⟩ := h1.look_ok intK Tryz.underlying136 (zero126 w) (R3_mk _) (keyOf_int_mk Tryz.underlying3 hs)
  rw [h5 t ht] at hv
  rw [hrun, R3_inv hv, h4, hasId_mem.2 ⟨t, ht, rfl⟩]
theorem MapL.look_out (h : MapL w b n M) {s : Int} (hn : hasId M s = false) (hs : (Lit.int .i64 s).wf = true) :
    (Instr.lookup 136 (.map (some b)) (.int .i64 s) true).run Tryz.prog w = .ok (.tuple #[val3 (0, 0, 0), .bool false]) w := by
  obtain ⟨D, h1, _, _, h4, h5⟩ := h
  obtain ⟨v, ps, hrun, hv⟩ := h1.look_ok intK Tryz.underlying136 (zero126 w) (R3_mk _) (keyOf_int_mk Tryz.underlying3 hs)
  have hh : Maps.has D (.int .i64 s) = false := (h4 s).trans hn
  rw [atKey_of_not_has hh] at hv
  rw [hrun, R3_inv hv, hh]
theorem MapL.put (h : MapL w b n M) (hn : n < maxLen) {t : Tr} (ht : hasId M t.1 = false) (hs : (Lit.int .i64 t.1).wf = true) :
    ∃ w', (Instr.mapUpdate 136 (.map (some b)) (.int .i64 t.1) (val3 t)).run Tryz.prog w = .ok () w' ∧ MapL w' b (n + 1) (M ++ [t]) ∧ w.grownBy w' (some b) := by
  obtain ⟨D, h1, h2, h3, h4, h5⟩ := h
  obtain ⟨w', hrun, h6, h7⟩ := h1.update intK Tryz.underlying136 hn (keyOf_int_mk Tryz.underlying3 hs) (R3_mk t)
  have hm := h1.isMap
  have hni : ∀ u ∈ M, u.1 ≠ t.1 := fun u hu e => by
    have := hasId_mem.2 ⟨u, hu, e⟩
    rw [ht] at this; cases this
  refine ⟨w', hrun, ⟨_, h6, ?_, ?_, fun s => ?_, fun u hu zd => ?_⟩, h7⟩
  · rw [List.map_append, List.nodup_append]
    refine ⟨h2, by simp, ?_⟩
    intro a ha c hc
    obtain ⟨u, hu, rfl⟩ := List.mem_map.1 ha
    have : c = t.1 := by simpa using hc
    rw [this]; exact hni u hu
  · rw [size_put (h1.tidy intK), h4, ht, h3]; simp
  · by_cases hst : s = t.1
    · subst hst
      rw [has_put_same hm (by show True; trivial)]; simp [hasId]
    · rw [has_put_other (fun e => hst (by injection e)), h4]
      have : (t.1 == s) = false := by simpa using fun e : t.1 = s => hst e.symm
      simp [hasId, this]
  · rcases List.mem_append.1 hu with hu | hu
    · rw [atKey_put_other (fun e => hni u hu (by injection e)), h5 u hu]
    · have : u = t := by simpa using hu
      subst this
      rw [atKey_put_same hm (by show True; trivial)]
theorem length_drop_id : ∀ (M : List Tr) (s : Int), (M.map (·.1)).Nodup → (M.filter fun t => t.1 != s).length + (if hasId M s then 1 else 0) = M.length := by
  intro M s
  induction M with
  | nil => intro _; rfl
  | cons a t ih =>
    intro h
    rw [List.map_cons, List.nodup_cons] at h
    have := ih h.2
    by_cases ha : a.1 = s
    · have hn : hasId t s = false := by
        cases hh : hasId t s with
        | false => rfl
        | true =>
          obtain ⟨u, hu, e⟩ := hasId_mem.1 hh
          exact absurd (List.mem_map.2 ⟨u, hu, e.trans ha.symm⟩) h.1
      rw [hn] at this
      have hh : hasId (a :: t) s = true := by simp [hasId, ha]
      rw [hh, List.filter_cons_of_neg (by simp [ha])]
      simp at this ⊢; omega
    · have hh : hasId (a :: t) s = hasId t s := by simp [hasId, ha]
      rw [hh, List.filter_cons_of_pos (by simp [ha])]
      simp only [List.length_cons]; omega
theorem hasId_filter {M : List Tr} {r s : Int} (hrs : r ≠ s) : hasId (M.filter fun t => t.1 != s) r = hasId M r := by
  apply Bool.eq_iff_iff.2
  rw [hasId_mem, hasId_mem]
  constructor
  · rintro ⟨t, ht, e⟩; exact ⟨t, (List.mem_filter.1 ht).1, e⟩
  · rintro ⟨t, ht, e⟩; exact ⟨t, List.mem_filter.2 ⟨ht, by simp [e, hrs]⟩, e⟩
theorem MapL.drop (h : MapL w b n M) (s : Int) (hs : (Lit.int .i64 s).wf = true) (ty : TypeId) :
    ∃ w', (Builtin.delete_ #[136, 3] ty #[.map (some b), .int .i64 s]).run Tryz.prog w = .ok (.tuple #[]) w' ∧ MapL w' b n (M.filter fun t => t.1 != s) ∧ w.grownBy w' (some b) := by
  obtain ⟨D, h1, h2, h3, h4, h5⟩ := h
  obtain ⟨w', hrun, h6, h7⟩ := h1.drop intK Tryz.underlying136 (keyOf_int_mk Tryz.underlying3 hs) ty
  refine ⟨w', hrun, ⟨_, h6, ?_, ?_, fun r => ?_, fun u hu zd => ?_⟩, h7.grown⟩
  · exact h2.sublist ((List.filter_sublist).map _)
  · have e1 := size_del (k := .int .i64 s) (h1.tidy intK)
    have e2 := length_drop_id M s h2
    rw [h4, h3] at e1
    omega
  · by_cases hrs : r = s
    · subst hrs
      rw [has_del_same]
      symm
      simp [hasId]
    · rw [has_del_other (fun e => hrs (by injection e)), h4]
      exact (hasId_filter hrs).symm
  · have hu' := List.mem_filter.1 hu
    have hne : u.1 ≠ s := by simpa using hu'.2
    rw [atKey_del_other (fun e => hne (by injection e)), h5 u hu'.1]
theorem MapL.len (h : MapL w b n M) (ty : TypeId) : (Builtin.len_ #[136] ty #[.map (some b)]).run Tryz.prog w = .ok (.int .i64 M.length) w := by
  obtain ⟨D, h1, _, h3, _⟩ := h
  exact (h1.len Tryz.underlying136 ty).trans (by rw [h3])
end
end Go.Proofs.YtcoplbaopaigcaaGreat
namespace Go.Proofs.YtcoplbaopaigcaaGreat
open Go.RowKit Go.Maps
theorem LAt.alloc {w : World} {B : Nat} {p : Addr} {q : Tr} (h : LAt w B p q) (hB : B ≤ w.heap.size) (o : Obj) : LAt (w.alloc o) B p q :=
  ⟨h.lt, (World.cell?_alloc_lt w o p (by have := h.lt; omega)).trans h.c0, (World.cell?_alloc_lt w o _ (by have := h.lt; simp only; omega)).trans h.c1, (World.cell?_alloc_lt w o _ (by have := h.lt; simp only; omega)).trans h.c2⟩
def rightIds (gs : List Tr) : Prop := ∀ t ∈ gs, 1 ≤ t.1 ∧ t.1 ≤ 1099511627776
def ByRel (gs : List Tr) (n : Nat) (w : World) (bm : Nat) (wr : World) (i : Value) : Prop :=
  ∃ k : Nat, k ≤ n ∧ i = .int .i64 k ∧ Below w.heap.size w wr ∧ MapL wr bm k (gs.take k)
def RetM (gs : List Tr) (n : Nat) (w : World) (e : Ending) (w' : World) : Prop := ∃ b, e = .returned (.map (some b)) ∧ w.heap.size ≤ b ∧ MapL w' b n gs ∧ Below w.heap.size w w'
theorem fresh_id {gs : List Tr} {k : Nat} (hk : k < gs.length) (hnd : (gs.map (·.1)).Nodup) : hasId (gs.take k) gs[k].1 = false := by
  cases hh : hasId (gs.take k) gs[k].1 with
  | false => rfl
  | true =>
    obtain ⟨u, hu, e⟩ := hasId_mem.1 hh
    obtain ⟨j, hj, rfl⟩ := List.getElem_of_mem hu
    have hjk : j < k := by simp at hj; omega
    rw [List.getElem_take] at e
    have := List.pairwise_iff_getElem.1 hnd j k (by simp; omega) (by simpa using hk) hjk
    simp at this
    exact absurd e this
set_option maxHeartbeats 4000000 in
set_option maxRecDepth 100000 in
theorem legsByID_any (A : Option Addr) (n c : Nat) (gs : List Tr) (w : World) (B : Nat) (hB : B ≤ w.heap.size) (hq : L3 w B A n gs) (hnd : (gs.map (·.1)).Nodup) (hid' : rightIds gs) (hn : n ≤ 24) :
    Calls Tryz.prog 75 #[.slice A n c] w (RetM gs n w) := by
  have HL := hid hq.1
  have HD := hid hnd
  have HI := hid hid'
  clear hnd hid'
  have hmm := @run_makeMap Tryz.prog
  go_enter Tryz.func75, Tryz.ntmps75
  go_wp2
  go_loopw [9] (fun i wr => ByRel gs n w w.heap.size wr i) (fun i _ => n - (intOf i).toNat)
  case atStart => exact ⟨0, Nat.zero_le _, rfl, (Below.refl _ _).alloc (Nat.le_refl _) _, MapL.made w⟩
  case round =>
    obtain ⟨k, hk, rfl, hbl, hset⟩ := hrel
    have HS := hid hset
    clear hset
    obtain ⟨wo, rfl⟩ : ∃ wo : World, wo = wr := ⟨_, rfl⟩
    by_cases hlt : k < n
    · obtain ⟨ad, p, q, rfl, hp, hqk, hat⟩ := (hq.below (hbl.mono hB)).at_ hlt
      have e0 := hat.c0
      have e1 := hat.c1
      have e2 := hat.c2
      have hBo : B ≤ wo.heap.size := Nat.le_trans hB hbl.size
      have hkl : k < gs.length := by rw [HL.out]; exact hlt
      have HQ := hid (show gs[k] = q by rw [List.getElem?_eq_getElem hkl] at hqk; exact Option.some.inj hqk)
      have hr := HI.out q (by rw [← HQ.out]; exact List.getElem_mem _)
      have HW := hid (wf_of (z := q.1) ⟨by omega, by omega⟩)
      have HF := hid (show hasId (gs.take k) q.1 = false by have := fresh_id hkl HD.out; rwa [HQ.out] at this)
      clear hqk hr
      obtain ⟨a, b', c'⟩ := q
      simp only at e0 e1 e2
      obtain ⟨w2, hup, hset2, hg2⟩ := (HS.out.alloc (Obj.cells #[Value.int IntKind.i64 a, Value.int IntKind.i64 b', Value.int IntKind.i64 c'] 126)).put (t := (a, b', c')) (by unfold maxLen; omega) HF.out HW.out
      have HS2 := hid hset2
      have HG2 := hid hg2
      clear hset2 hg2
      simp only [val3] at hup
      go_wp2
      go_roundw
      case rel =>
        refine ⟨k + 1, by omega, by go_num, ?_, ?_⟩
        · exact (hbl.alloc hbl.size _).grown HG2.out (by have := hbl.size; simp; omega) (fun g hg => by cases hg; exact Nat.le_refl _)
        · rw [← List.take_append_getElem hkl, HQ.out]; exact HS2.out
      case measure => simp [intOf]; omega
    · have HX := hid (show k = n by omega)
      go_wp2
      go_ret
      refine ⟨_, rfl, Nat.le_refl _, ?_, hbl⟩
      have := HS.out
      rw [show gs.take k = gs by rw [HX.out, ← HL.out]; simp, HX.out] at this
      exact this
end Go.Proofs.YtcoplbaopaigcaaGreat
namespace Go.Proofs.YtcoplbaopaigcaaGreat
open Go.RowKit Go.Maps
theorem wpList_dropL {P : Program} {ops : Array Oper} {rest : List Oper} {o : Oper} {a : Act} {Q : Exit → Act → World → Prop} {w : World} (hP : P = Tryz.prog) (hg : o.guard = none) (m x : Operand) (hop : o.op = Op.call { callee := Callee.builtin Builtin.delete, args := #[m, x], argTypes := #[136, 3] })
    (b n : Nat) (M : List Tr) (s : Int) (hs : (Lit.int .i64 s).wf = true) (hm : a.eval m = .map (some b)) (hx : a.eval x = .int .i64 s) (h : MapL w b n M)
    (hK : ∀ w', MapL w' b n (M.filter fun t => t.1 != s) → w.grownBy w' (some b) → wpList P ops Q rest (a.put o.dst (.tuple #[])) w') : wpList P ops Q (o :: rest) a w := by
  subst hP
  refine wpList_plain hg fun K' hK' => ?_
  obtain ⟨w', hrun, r1, r2⟩ := h.drop s hs o.type
  unfold Oper.wp
  simp [execOp, hop, resolve, invoke, builtin, hm, hx, hrun, Result.andThen]
  exact hK' _ _ (hK w' r1 r2)
theorem add0' (p : Addr) : p.add 0 = p := by unfold Addr.add; simp
def fol (p g : Tr) : Bool := !decide (p.1 = g.1) && decide (p.2.2 = g.2.1)
def bad (prev : Option Tr) (g : Tr) : Bool := match prev with | none => false | some p => !fol p g
def takeS (M : List Tr) (prev : Option Tr) : List Int → Bool × List Tr
  | [] => (true, M)
  | id :: t => match M.find? fun g => g.1 == id with
    | none => (false, M)
    | some g => if bad prev g then (false, M) else takeS (M.filter fun t => t.1 != id) (some g) t
def TkRel (M : List Tr) (gl : List Int) (m base b0 b n : Nat) (w wr : World) (i : Value) : Prop :=
  ∃ (k : Nat) (Mk : List Tr) (prev : Option Tr), k ≤ m ∧ i = .int .i64 k ∧ Below base w wr ∧ w.heap.size < wr.heap.size ∧ MapL wr b n Mk ∧ (k = 0 ↔ prev = none) ∧ takeS M none gl = takeS Mk prev (gl.drop k) ∧
    Blk wr b0 126 #[.int .i64 (prev.getD (0, 0, 0)).1, .int .i64 (prev.getD (0, 0, 0)).2.1, .int .i64 (prev.getD (0, 0, 0)).2.2]
def RetT (M : List Tr) (gl : List Int) (base b n : Nat) (w : World) (e : Ending) (w' : World) : Prop :=
  e = .returned (.bool ((takeS M none gl).1 && decide (0 < gl.length))) ∧ MapL w' b n (takeS M none gl).2 ∧ Below base w w'
theorem find_in {M : List Tr} {s : Int} {g : Tr} (h : (M.find? fun g => g.1 == s) = some g) : g ∈ M ∧ g.1 = s := ⟨List.mem_of_find?_eq_some h, by simpa using List.find?_some h⟩
theorem find_out {M : List Tr} {s : Int} (h : (M.find? fun g => g.1 == s) = none) : hasId M s = false := by
  rw [List.find?_eq_none] at h
  unfold hasId
  rw [List.any_eq_false]
  exact h
theorem takeS_none {M : List Tr} {prev : Option Tr} {gl : List Int} {k : Nat} (hk : k < gl.length) (h : (M.find? fun g => g.1 == gl[k]) = none) : takeS M prev (gl.drop k) = (false, M) := by
  rw [List.drop_eq_getElem_cons hk, takeS, h]
theorem takeS_bad {M : List Tr} {prev : Option Tr} {gl : List Int} {k : Nat} {g : Tr} (hk : k < gl.length) (h : (M.find? fun g => g.1 == gl[k]) = some g) (hb : bad prev g = true) : takeS M prev (gl.drop k) = (false, M) := by
  rw [List.drop_eq_getElem_cons hk, takeS, h]
  simp [hb]
theorem takeS_next {M : List Tr} {prev : Option Tr} {gl : List Int} {k : Nat} {g : Tr} (hk : k < gl.length) (h : (M.find? fun g => g.1 == gl[k]) = some g) (hb : bad prev g = false) : takeS M prev (gl.drop k) = takeS (M.filter fun t => t.1 != gl[k]) (some g) (gl.drop (k + 1)) := by
  rw [List.drop_eq_getElem_cons hk, takeS, h]
  simp [hb]
theorem blk_frozen {w : World} {g : Nat} {t : TypeId} {cs : Array Value} (h : Blk w g t cs) (i : Nat) : w.frozen? ⟨g, i, none⟩ = false := by
  unfold Blk at h
  simp [World.frozen?, h]
theorem Blk.set {w : World} {g : Nat} {t : TypeId} {cs : Array Value} (h : Blk w g t cs) (i : Nat) (u : Value) : Blk (w.setCell ⟨g, i, none⟩ u) g t (cs.setIfInBounds i u) := by
  unfold Blk at *
  have hl : g < w.heap.size := by
    rcases Nat.lt_or_ge g w.heap.size with h' | h'
    · exact h'
    · rw [Array.getElem?_eq_none h'] at h; cases h
  simp only [World.setCell, Array.getElem?_modify, if_pos, h, Option.map_some]
  rfl
theorem tk_next {M Mk : List Tr} {prev : Option Tr} {gl : List Int} {m base b n k : Nat} {g : Tr} {w wo w2 : World} {cs : Array Value} (hkl : k < gl.length) (hk : k < m) (HF : (Mk.find? fun g => g.1 == gl[k]) = some g) (hz : gl[k] = g.1)
    (HT : takeS M none gl = takeS Mk prev (gl.drop k)) (hb : bad prev g = false) (hbl : Below base w wo) (hB : base ≤ b) (hbs : b < w.heap.size) (hsz : w.heap.size < wo.heap.size)
    (hg : Below base wo w2) (HM2 : MapL w2 b n (Mk.filter fun t => t.1 != g.1)) (hb0 : Blk w2 w.heap.size 126 cs) (hcs : cs.size = 3) {i : Value} (hi : i = .int .i64 ((k + 1 : Nat) : Int)) :
    TkRel M gl m base w.heap.size b n w (((w2.setCell ⟨w.heap.size, 0, none⟩ (.int .i64 g.1)).setCell ⟨w.heap.size, 1, none⟩ (.int .i64 g.2.1)).setCell ⟨w.heap.size, 2, none⟩ (.int .i64 g.2.2)) i := by
  have hs2 := hg.size
  have hbase : base ≤ w.heap.size := by omega
  have hne : b ≠ w.heap.size := by omega
  refine ⟨k + 1, _, some g, by omega, hi, ?_, by simp; omega, ((HM2.setCell (by exact hne) _).setCell (by exact hne) _).setCell (by exact hne) _, by simp, ?_, ?_⟩
  · exact (((hbl.trans hg).setCell (by exact hbase) _).setCell (by exact hbase) _).setCell (by exact hbase) _
  · rw [HT, takeS_next hkl HF hb, hz]
  · have h3 := ((hb0.set 0 (.int .i64 g.1)).set 1 (.int .i64 g.2.1)).set 2 (.int .i64 g.2.2)
    have e : ((cs.setIfInBounds 0 (.int .i64 g.1)).setIfInBounds 1 (.int .i64 g.2.1)).setIfInBounds 2 (.int .i64 g.2.2) = #[.int .i64 g.1, .int .i64 g.2.1, .int .i64 g.2.2] := by
      obtain ⟨l⟩ := cs
      match l, hcs with
      | [a, b, c], _ => rfl
    rw [e] at h3
    exact h3
set_option maxHeartbeats 8000000 in
set_option maxRecDepth 100000 in
theorem takeRow_any (A : Option Addr) (m c : Nat) (gl : List Int) (M : List Tr) (b n base : Nat) (w : World) (hB : base ≤ b) (hr : Reads w base 1 A m (gl.map (Value.int .i64))) (hn : m ≤ maxLen)
    (hwf : ∀ z ∈ gl, -9223372036854775808 ≤ z ∧ z ≤ 9223372036854775807) (hM : MapL w b n M) :
    Calls Tryz.prog 76 #[.map (some b), .slice A m c] w (RetT M gl base b n w) := by
  have HM := hid hM
  have hbs : b < w.heap.size := hM.lt
  have HWF := hid hwf
  have HL := hid (show gl.length = m by have := hr.1; simpa using this)
  clear hM hwf
  unfold maxLen at hn
  go_enter Tryz.func76, Tryz.ntmps76
  go_wp2
  go_loopw [12] (fun i wr => TkRel M gl m base w.heap.size b n w wr i) (fun i _ => m - (intOf i).toNat)
  case atStart => exact ⟨0, M, none, Nat.zero_le _, rfl, (Below.refl _ _).alloc (by omega) _, by simp, HM.out.alloc _, by simp, rfl, Blk.new _ _ _⟩
  case round =>
    obtain ⟨k, Mk, prev, hk, rfl, hbl, hsz, hmap, hk0, htk, hblk⟩ := hrel
    have HMK := hid hmap
    have HT := hid htk
    have HBK := hid hblk
    have HK0 := hid hk0
    clear hmap htk hblk hk0
    obtain ⟨wo, rfl⟩ : ∃ wo : World, wo = wr := ⟨_, rfl⟩
    by_cases hlt : k < m
    · have hkl : k < gl.length := by rw [HL.out]; exact hlt
      obtain ⟨ad, rfl, hc⟩ := reads_int (hr.below hbl) hlt hkl
      have HZ := hid (wf_of (HWF.out gl[k] (List.getElem_mem _)))
      obtain ⟨z, hz⟩ : ∃ z, gl[k] = z := ⟨_, rfl⟩
      rw [hz] at hc
      have HE := hid hz
      rw [hz] at HZ
      clear hz
      cases hf : (Mk.find? fun g => g.1 == gl[k]) with
      | none =>
        have HN := hid (takeS_none (prev := prev) hkl hf)
        have hlk := HMK.out.look_out (find_out (by rw [HE.out] at hf; exact hf)) HZ.out
        simp only [val3] at hlk
        clear hf
        go_wp2
        go_ret
        refine ⟨by rw [HT.out, HN.out]; rfl, by rw [HT.out, HN.out]; exact HMK.out.alloc _, hbl.alloc (by omega) _⟩
      | some g =>
        obtain ⟨hg1, hg2⟩ := find_in hf
        obtain ⟨z', f', t'⟩ := g
        have e9 : z' = z := hg2.trans HE.out
        subst e9
        have hlk := HMK.out.look_in hg1 HZ.out
        simp only [val3] at hlk
        have HF := hid hf
        clear hf hg1 hg2
        have HMA := hid (HMK.out.alloc (.cells #[.int .i64 z', .int .i64 f', .int .i64 t'] 126))
        have HBA := hid (HBK.out.alloc (.cells #[.int .i64 z', .int .i64 f', .int .i64 t'] 126))
        have HB8 := hid (Blk.new wo 126 #[.int .i64 z', .int .i64 f', .int .i64 t'])
        by_cases hk0 : k = 0
        · have hp : prev = none := HK0.out.1 hk0
          subst hk0
          subst hp
          rw [add0'] at hc
          obtain ⟨w2, hdel, hm2, hg2⟩ := HMA.out.drop z' HZ.out 0
          have HM2 := hid hm2
          have hb8 := HB8.out.grown hg2 (fun e => by cases e; omega)
          have hb0 := HBA.out.grown hg2 (fun e => by cases e; omega)
          have q0 : w2.cell? ⟨wo.heap.size, 0, none⟩ = some (.int .i64 z') := hb8.cell 0
          have q1 : w2.cell? ⟨wo.heap.size, 1, none⟩ = some (.int .i64 f') := hb8.cell 1
          have q2 : w2.cell? ⟨wo.heap.size, 2, none⟩ = some (.int .i64 t') := hb8.cell 2
          have r0 : w2.cell? ⟨w.heap.size, 0, none⟩ = some (.int .i64 0) := hb0.cell 0
          have r1 : w2.cell? ⟨w.heap.size, 1, none⟩ = some (.int .i64 0) := hb0.cell 1
          have r2 : w2.cell? ⟨w.heap.size, 2, none⟩ = some (.int .i64 0) := hb0.cell 2
          have z0 := blk_frozen hb0 0
          have z1 := blk_frozen hb0 1
          have z2 := blk_frozen hb0 2
          have HB0 := hid hb0
          have HG2 := hid hg2
          clear hm2 hg2 hb8 hb0
          go_wp2
          go_roundw
          case rel => exact tk_next hkl hlt HF.out HE.out HT.out rfl hbl hB hbs hsz (((Below.refl _ _).alloc (by omega) _).grown HG2.out (by simp; omega) (fun g hg => by cases hg; exact hB)) HM2.out HB0.out rfl rfl
          case measure => simp [intOf]; omega
        · obtain ⟨pv, hpv⟩ : ∃ pv, prev = some pv := by
            cases hp : prev with
            | none => exact absurd (HK0.out.2 hp) hk0
            | some pv => exact ⟨pv, rfl⟩
          subst hpv
          obtain ⟨x0, x1, x2⟩ := pv
          clear hk0
          have hk1 : (0 : Int) < k := by have := HK0.out; simp at this; omega
          have s0 : (wo.alloc (.cells #[.int .i64 z', .int .i64 f', .int .i64 t'] 126)).cell? ⟨w.heap.size, 0, none⟩ = some (.int .i64 x0) := HBA.out.cell 0
          have s1 : (wo.alloc (.cells #[.int .i64 z', .int .i64 f', .int .i64 t'] 126)).cell? ⟨w.heap.size, 1, none⟩ = some (.int .i64 x1) := HBA.out.cell 1
          have s2 : (wo.alloc (.cells #[.int .i64 z', .int .i64 f', .int .i64 t'] 126)).cell? ⟨w.heap.size, 2, none⟩ = some (.int .i64 x2) := HBA.out.cell 2
          have HBW := hid (show Below wo.heap.size wo (wo.alloc (.cells #[.int .i64 z', .int .i64 f', .int .i64 t'] 126)) from (Below.refl _ _).alloc (Nat.le_refl _) _)
          have u0 : (wo.alloc (.cells #[.int .i64 z', .int .i64 f', .int .i64 t'] 126)).cell? ⟨wo.heap.size, 0, none⟩ = some (.int .i64 z') := HB8.out.cell 0
          have u1 : (wo.alloc (.cells #[.int .i64 z', .int .i64 f', .int .i64 t'] 126)).cell? ⟨wo.heap.size, 1, none⟩ = some (.int .i64 f') := HB8.out.cell 1
          have u2 : (wo.alloc (.cells #[.int .i64 z', .int .i64 f', .int .i64 t'] 126)).cell? ⟨wo.heap.size, 2, none⟩ = some (.int .i64 t') := HB8.out.cell 2
          by_cases hfl : (!decide (x0 = z') && decide (x2 = f')) = true
          · have HFL := hid (show bad (some (x0, x1, x2)) (z', f', t') = false by simp only [bad, fol]; rw [hfl]; rfl)
            go_wp2_with (go_at_call 70; refine (follows_any x0 x1 x2 z' f' t' _).mono ?_; rintro e w1 ⟨rfl, hb1⟩; rw [hfl]; have HB1 := hid hb1; obtain ⟨w2, hdel, hm2, hg2⟩ := (HMA.out.below hb1 HMA.out.lt).drop z' HZ.out 0; have HM2 := hid hm2; have hb8 := (HB8.out.below hb1 HB8.out.lt).grown hg2 (fun e => by cases e; omega); have hb0 := (HBA.out.below hb1 HBA.out.lt).grown hg2 (fun e => by cases e; omega); have q0 : w2.cell? ⟨wo.heap.size, 0, none⟩ = some (.int .i64 z') := hb8.cell 0; have q1 : w2.cell? ⟨wo.heap.size, 1, none⟩ = some (.int .i64 f') := hb8.cell 1; have q2 : w2.cell? ⟨wo.heap.size, 2, none⟩ = some (.int .i64 t') := hb8.cell 2; have r0 : w2.cell? ⟨w.heap.size, 0, none⟩ = some (.int .i64 x0) := hb0.cell 0; have r1 : w2.cell? ⟨w.heap.size, 1, none⟩ = some (.int .i64 x1) := hb0.cell 1; have r2 : w2.cell? ⟨w.heap.size, 2, none⟩ = some (.int .i64 x2) := hb0.cell 2; have z0 := blk_frozen hb0 0; have z1 := blk_frozen hb0 1; have z2 := blk_frozen hb0 2; have HB0 := hid hb0; have HG2 := hid hg2; clear hm2 hg2 hb8 hb0 hb1)
            go_roundw
            case rel => exact tk_next hkl hlt HF.out HE.out HT.out HFL.out hbl hB hbs hsz (((HBW.out.mono (by have := hbl.size; omega)).trans (HB1.out.mono (by simp; omega))).grown HG2.out (by have := HB1.out.size; simp at this; omega) (fun g hg => by cases hg; exact hB)) HM2.out HB0.out rfl (by go_num)
            case measure => simp [intOf]; omega
          · have hfl' : (!decide (x0 = z') && decide (x2 = f')) = false := by simpa using hfl
            have HFL := hid (show bad (some (x0, x1, x2)) (z', f', t') = true by simp only [bad, fol]; rw [hfl']; rfl)
            have HN := hid (takeS_bad (prev := some (x0, x1, x2)) hkl HF.out HFL.out)
            go_wp2_with (go_at_call 70; refine (follows_any x0 x1 x2 z' f' t' _).mono ?_; rintro e w1 ⟨rfl, hb1⟩; rw [hfl']; have HB1 := hid hb1; clear hb1)
            go_ret
            exact ⟨by rw [HT.out, HN.out]; rfl, by rw [HT.out, HN.out]; exact HMA.out.below HB1.out HMA.out.lt, (hbl.alloc (by omega) _).trans (HB1.out.mono (by have := hbl.size; simp; omega))⟩
    · have HX := hid (show k = m by omega)
      have e : gl.drop k = [] := by rw [HX.out, ← HL.out]; simp
      have HR := hid (show takeS M none gl = (true, Mk) by rw [HT.out, e]; rfl)
      clear e
      by_cases h0 : 0 < m
      · go_wp2
        go_ret
        exact ⟨by rw [HR.out, HL.out]; simp [h0], by rw [HR.out]; exact HMK.out, hbl⟩
      · go_wp2
        go_ret
        exact ⟨by rw [HR.out, HL.out]; simp [h0], by rw [HR.out]; exact HMK.out, hbl⟩
end Go.Proofs.YtcoplbaopaigcaaGreat
