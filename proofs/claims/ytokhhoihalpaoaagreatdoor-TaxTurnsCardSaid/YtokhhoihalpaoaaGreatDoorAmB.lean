/- Each operation of the closed evaluator is sound. -/
import Derived.Orders
import Derived.Laws.MakeOwn
import Derived.Test.YtokhhoihalpaoaaGreatDoorAmA
set_option linter.all false
namespace Go.Am
open Go.RowKit

section
variable {P : Program} {ρ : Ren} {H : AHeap} {B : Nat} {w0 w : World}


theorem pureOf_run {α : Type} : ∀ (s : Sem α) {a : α}, pureOf P s = some a → s.run P w = .ok a w := by
  intro s
  induction s with
  | pure a => intro b h; simp [pureOf] at h; subst h; rfl
  | program k ih => intro b h; exact ih P h
  | _ => intro b h; simp [pureOf] at h

theorem intBin_ok {β : Type} {k : K β} {r : β} {op : BinOp} {q : IntKind} {a b : Int} {t : TypeId} {x y : Operand} {other : Unit → Option β} (h : HR P ρ H B w0 w) (ha : intBin op q a b H k other = some r) :
    Got P ρ B w0 w k r (do eqGuard op t x y (.int q a) (.int q b); binOp op t (.int q a) (.int q b)) ∨ other () = some r := by
  have fin : ∀ v, k v H = some r → VR P ρ v v → (binOp op t (.int q a) (.int q b)).run P w = .ok v w → Got P ρ B w0 w k r (do eqGuard op t x y (.int q a) (.int q b); binOp op t (.int q a) (.int q b)) := by
    intro v hk hv hr
    have he : (eqGuard op t x y (.int q a) (.int q b)).run P w = .ok () w := by
      unfold eqGuard; cases op <;> simp
    exact ⟨v, H, ρ, v, w, hk, Le.refl _, h, hv, by rw [Sem.run_bind, he]; exact hr⟩
  cases op <;> simp only [intBin] at ha
  all_goals first
    | exact .inr ha
    | exact .inl (fin _ ha (by constructor) (by simp [binOp, Op.intArith, Op.intCmp] <;> rfl))

theorem kindEq_eq {q q' : IntKind} (h : kindEq q q' = true) : q' = q := by cases q <;> cases q' <;> simp_all [kindEq]

theorem nilEq_ok {t : TypeId} {x y x' y' : Value} {b : Bool} (hx : VR P ρ x x') (hy : VR P ρ y y') (ha : nilEq P t x y = some b) : b = false ∧ (Op.equal t x' y').run P w = .ok false w := by
  unfold nilEq at ha
  split at ha <;> first | (cases ha; done) | skip
  all_goals
    rename_i hu
    cases ha
    refine ⟨rfl, ?_⟩
    unfold Op.equal
    change (Op.equalIn (9999 + 1) _ _ _).run _ _ = _
    generalize 9999 = d
    cases hx <;> cases hy <;> simp [Op.equalIn, run_underlying hu]

theorem guard_nil {op : BinOp} {t : TypeId} {xo yo : Operand} {x y x' y' : Value} {b : Bool} (hx : VR P ρ x x') (hy : VR P ρ y y') (ha : nilEq P t x y = some b) :
    (eqGuard op t xo yo x' y').run P w = .ok () w := by
  unfold nilEq at ha
  split at ha <;> first | (cases ha; done) | skip
  all_goals
    cases hx <;> cases hy <;> (unfold eqGuard; cases op <;> simp)

theorem binOp_eq {t : TypeId} {x y x' y' : Value} {b : Bool} (hx : VR P ρ x x') (hy : VR P ρ y y') (ha : nilEq P t x y = some b) :
    (binOp .eql t x' y').run P w = .ok (.bool b) w ∧ (binOp .neq t x' y').run P w = .ok (.bool !b) w := by
  obtain ⟨rfl, heq⟩ := nilEq_ok (w := w) hx hy ha
  unfold nilEq at ha
  split at ha <;> first | (cases ha; done) | skip
  all_goals
    cases hx <;> cases hy <;> simp [binOp, heq]

theorem aBin_ok {β : Type} {k : K β} {r : β} {op : BinOp} {t : TypeId} {xo yo : Operand} {x y x' y' : Value} {other : Unit → Option β} (h : HR P ρ H B w0 w) (hx : VR P ρ x x') (hy : VR P ρ y y')
    (ha : aBin P op t x y H k other = some r) : Got P ρ B w0 w k r (do eqGuard op t xo yo x' y'; binOp op t x' y') ∨ other () = some r := by
  unfold aBin at ha
  split at ha
  · rename_i q a q' b
    split at ha
    · rename_i hq
      cases hx; cases hy
      rw [kindEq_eq hq]
      exact intBin_ok h ha
    · exact .inr ha
  · have key : ∀ (neg : Bool), aEq P t x y neg H k other = some r → (∃ b, nilEq P t x y = some b ∧ k (.bool (b != neg)) H = some r) ∨ other () = some r := by
      intro neg ha
      unfold aEq at ha
      split at ha
      · rename_i b hb; exact .inl ⟨b, hb, ha⟩
      · exact .inr ha
    split at ha
    · rcases key false ha with ⟨b, hb, hk⟩ | ho
      · refine .inl ⟨_, H, ρ, .bool b, w, hk, Le.refl _, h, by simp; exact .bool b, ?_⟩
        simp [guard_nil hx hy hb, (binOp_eq (w := w) hx hy hb).1]
      · exact .inr ho
    · rcases key true ha with ⟨b, hb, hk⟩ | ho
      · refine .inl ⟨_, H, ρ, .bool !b, w, hk, Le.refl _, h, by cases b <;> exact .bool _, ?_⟩
        simp [guard_nil hx hy hb, (binOp_eq (w := w) hx hy hb).2]
      · exact .inr ho
    · exact .inr ha


theorem foldl_set (off : Nat) : ∀ (xs : List Value) (n : Nat) (cs : Array Value), off + n + xs.length ≤ cs.size →
    ((xs.zipIdx n).foldl (fun cs p => cs.setIfInBounds (off + p.2) p.1) cs).toList = cs.toList.take (off + n) ++ xs ++ cs.toList.drop (off + n + xs.length)
  | [], n, cs, _ => by simp
  | x :: xs, n, cs, h => by
    simp only [List.length_cons] at h
    simp only [List.zipIdx_cons, List.foldl_cons]
    rw [foldl_set off xs (n + 1) _ (by simp; omega)]
    simp only [Array.toList_setIfInBounds, List.length_cons]
    apply List.ext_getElem?
    intro j
    simp only [List.getElem?_append, List.getElem?_take, List.length_append, List.length_take, List.length_set, Array.length_toList, List.getElem?_drop, List.length_cons, List.getElem?_set]
    have e1 : min (off + (n + 1)) cs.size = off + n + 1 := by omega
    have e2 : min (off + n) cs.size = off + n := by omega
    rw [e1, e2]
    by_cases h1 : j < off + n
    · simp [h1, show j < off + n + 1 + xs.length by omega, show j < off + n + 1 by omega, show j < off + (n + 1) by omega, show ¬ off + n = j by omega, show j < off + n + (xs.length + 1) by omega]
    · by_cases h2 : j = off + n
      · subst h2
        simp [show off + n < off + n + 1 + xs.length by omega, show off + n < off + (n + 1) by omega, show off + n < cs.size by omega, show off + n < off + n + (xs.length + 1) by omega]
      · by_cases h3 : j < off + n + 1 + xs.length
        · have : j - (off + n) = (j - (off + n + 1)) + 1 := by omega
          simp [h1, h3, show ¬ j < off + n + 1 by omega, show j < off + n + (xs.length + 1) by omega, this]
        · simp [h1, h3, show ¬ j < off + n + (xs.length + 1) by omega]
          have e3 : off + (n + 1) + xs.length + (j - (off + n + 1 + xs.length)) = off + n + (xs.length + 1) + (j - (off + n + (xs.length + 1))) := by omega
          rw [e3]
          rw [if_neg (by omega)]

theorem fill_step {cs : Array Value} {v : Value} {off : Nat} (h : off + v.cells.size ≤ cs.size) :
    (v.cells.zipIdx.foldl (fun cs (c, j) => cs.setIfInBounds (off + j) c) cs).toList = cs.toList.take off ++ v.cells.toList ++ cs.toList.drop (off + v.cells.size) := by
  have := foldl_set off v.cells.toList 0 cs (by simpa using h)
  simp only [Nat.add_zero, Array.length_toList] at this
  rw [← this, ← Array.foldl_toList]
  simp [Array.toList_zipIdx]

theorem fill_size {cs : Array Value} {v : Value} {off : Nat} (h : off + v.cells.size ≤ cs.size) : (v.cells.zipIdx.foldl (fun cs (c, j) => cs.setIfInBounds (off + j) c) cs).size = cs.size := by
  rw [← Array.length_toList, fill_step h]
  simp only [List.length_append, List.length_take, List.length_drop, Array.length_toList]
  omega

theorem setL_vl {z l : List Value} {z' : Array Value} {off : Nat} {xs : List Value} {v' : Value} (hz : VL P ρ z z'.toList) (hx : VL P ρ xs v'.cells.toList) (hs : setL z off xs = some l) :
    (v'.cells.size = 0 ∧ l = z) ∨ (off + v'.cells.size ≤ z'.size ∧ VL P ρ l (v'.cells.zipIdx.foldl (fun cs (c, j) => cs.setIfInBounds (off + j) c) z').toList) := by
  have hl : xs.length = v'.cells.size := by simpa using hx.length
  have hzl : z.length = z'.size := by simpa using hz.length
  rcases setL_spec hs with ⟨h1, h2⟩ | ⟨h1, h2⟩
  · subst h1; exact .inl ⟨by simpa using hl.symm, h2⟩
  · refine .inr ⟨by omega, ?_⟩
    rw [fill_step (by omega), h2, hl]
    exact ((hz.take _).append hx).append (hz.drop _)

abbrev PR (P : Program) (ρ : Ren) : Nat × Value → Nat × Value → Prop := fun a b => a.1 = b.1 ∧ VR P ρ a.2 b.2

theorem foldl_zero {v : Value} {off : Nat} {cs : Array Value} (h : v.cells.size = 0) : v.cells.zipIdx.foldl (fun cs (c, j) => cs.setIfInBounds (off + j) c) cs = cs := by
  have : v.cells = #[] := by simpa using h
  rw [this]; rfl

theorem partsCells_ok {size : Nat} : ∀ {parts : List (Nat × Value)} {parts' : List (Nat × Value)} {z l : List Value} {z' : Array Value},
    L2 (PR P ρ) parts parts' → VL P ρ z z'.toList → partsCells P size z parts = some l → (∀ p ∈ parts, size = 0 → p.1 * size ≤ z'.size) →
    ∃ l', Instr.fill (fun i => some (i * size, size)) z' parts' = some l' ∧ VL P ρ l l'.toList ∧ l'.size = z'.size := by
  intro parts
  induction parts with
  | nil => intro parts' z l z' hp hz h _; cases hp; simp [partsCells] at h; subst h; exact ⟨z', rfl, hz, rfl⟩
  | cons p rest ih =>
    intro parts' z l z' hp hz h hzero
    cases hp with
    | cons hp1 hp2 =>
      rename_i q rest'
      obtain ⟨i, v⟩ := p
      obtain ⟨i', v'⟩ := q
      obtain ⟨rfl, hv⟩ := hp1
      simp only at hv
      simp only [partsCells] at h
      split at h
      · cases h
      · rename_i hc
        simp only [not_or, ne_eq, Decidable.not_not, Bool.not_eq_false] at hc
        have hcell := vr_cells hv (fun c hcm => List.all_eq_true.1 hc.2 c hcm)
        have hsz : v'.cells.size = size := by rw [← hc.1]; simpa using hcell.length.symm
        split at h
        · cases h
        · rename_i z2 hset
          rcases setL_vl hz hcell hset with ⟨h1, h2⟩ | ⟨h1, h2⟩
          · subst h2
            obtain ⟨l', hl, hvl, hls⟩ := ih hp2 hz h (fun p hp => hzero p (List.mem_cons_of_mem _ hp))
            refine ⟨l', ?_, hvl, hls⟩
            have hs0 : size = 0 := by omega
            have hb := hzero (i, v) (List.mem_cons_self ..) hs0
            simp only at hb
            simp only [Instr.fill, hsz]
            rw [if_neg (by simp; omega), foldl_zero h1]
            exact hl
          · have hsize := fill_size h1
            obtain ⟨l', hl, hvl, hls⟩ := ih hp2 h2 h (fun p hp hs => by rw [hsize]; exact hzero p (List.mem_cons_of_mem _ hp) hs)
            refine ⟨l', ?_, hvl, by rw [hls, hsize]⟩
            simp only [Instr.fill, hsz]
            rw [if_neg (by simp; omega)]
            exact hl

theorem fieldsFill_ok {fields : Array Field} {pl : Nat → Option (Nat × Nat)} (hpl : ∀ i f n, fields[i]? = some f → szT P f.type = some n → pl i = some (f.offset, n)) :
    ∀ {parts : List (Nat × Value)} {parts' : List (Nat × Value)} {z l : List Value} {z' : Array Value},
    L2 (PR P ρ) parts parts' → VL P ρ z z'.toList → fieldsFill P fields z parts = some l → (∀ (i : Nat) f, fields[i]? = some f → f.offset ≤ z'.size) →
    ∃ l', Instr.fill pl z' parts' = some l' ∧ VL P ρ l l'.toList := by
  intro parts
  induction parts with
  | nil => intro parts' z l z' hp hz h _; cases hp; simp [fieldsFill] at h; subst h; exact ⟨z', rfl, hz⟩
  | cons p rest ih =>
    intro parts' z l z' hp hz h hzero
    cases hp with
    | cons hp1 hp2 =>
      rename_i q rest'
      obtain ⟨i, v⟩ := p
      obtain ⟨i', v'⟩ := q
      obtain ⟨rfl, hv⟩ := hp1
      simp only at hv
      simp only [fieldsFill] at h
      cases hf : fields[i]? with
      | none => simp [hf] at h
      | some f =>
        simp only [hf] at h
        split at h
        · cases h
        · rename_i hc
          simp only [not_or, ne_eq, Decidable.not_not, Bool.not_eq_false] at hc
          have hcell := vr_cells hv (fun c hcm => List.all_eq_true.1 hc.2 c hcm)
          have hl : (cellsOfV v).length = v'.cells.size := by simpa using hcell.length
          have hp0 := hpl i f _ hf hc.1.symm
          split at h
          · cases h
          · rename_i z2 hset
            rcases setL_vl hz hcell hset with ⟨h1, h2⟩ | ⟨h1, h2⟩
            · subst h2
              obtain ⟨l', hl', hvl⟩ := ih hp2 hz h hzero
              refine ⟨l', ?_, hvl⟩
              have := hzero i f hf
              simp only [Instr.fill, hp0]
              rw [if_neg (by simp; omega), foldl_zero h1]
              exact hl'
            · have hsize := fill_size h1
              obtain ⟨l', hl', hvl⟩ := ih hp2 h2 h (fun i f hf => by rw [hsize]; exact hzero i f hf)
              refine ⟨l', ?_, hvl⟩
              simp only [Instr.fill, hp0]
              rw [if_neg (by simp; omega)]
              exact hl'

theorem repl_vl {z : List Value} {z' : Array Value} (hz : VL P ρ z z'.toList) : ∀ n, VL P ρ (repl z n) ((List.range (n * z'.size)).map (fun i => z'[i % z'.size]!)) := by
  intro n
  have hlen : z.length = z'.size := by simpa using hz.length
  have hrl : ∀ n, (repl z n).length = n * z.length := by
    intro n
    induction n with
    | zero => simp [repl]
    | succ n ih => simp [repl, ih, Nat.succ_mul]; omega
  refine L2.of_get (by simp [hrl, hlen]) ?_
  have hget : ∀ n (i : Nat) a, (repl z n)[i]? = some a → z[i % z'.size]? = some a := by
    intro n
    induction n with
    | zero => intro i a h; simp [repl] at h
    | succ n ih =>
      intro i a h
      simp only [repl, List.getElem?_append] at h
      split at h
      · rw [Nat.mod_eq_of_lt (by omega)]; exact h
      · have := ih _ _ h
        rw [hlen] at this
        rw [Nat.mod_eq_sub_mod (by omega)]; exact this
  intro i a b ha hb
  have h1 := hget n i a ha
  obtain ⟨v', hv', hr⟩ := hz.get h1
  simp only [List.getElem?_map, Option.map_eq_some_iff] at hb
  obtain ⟨j, hj, rfl⟩ := hb
  have hji : j = i := by
    have := (List.getElem?_eq_some_iff.1 hj)
    obtain ⟨h2, h3⟩ := this
    simpa using h3.symm
  subst hji
  have hlt : j % z'.size < z'.size := by
    have := (List.getElem?_eq_some_iff.1 hv').1
    simpa using this
  have : z'[j % z'.size]! = v' := by
    simp at hv'
    simp [getElem!_def, hv']
  rw [this]; exact hr

theorem slice_new {β : Type} {k : K β} {r : β} {l : List Value} {l' : List Value} {e : TypeId} {n c : Nat} (h : HR P ρ H B w0 w) (hv : VL P ρ l (l'.take l.length)) (hnc : n ≤ c) {c' : Nat} (hc : c ≤ c') (hl : c' * P.cellsOf e ≤ l'.length)
    (ha : H.new (.row l e) (fun b H' => k (.slice (some ⟨b, 0, none⟩) n c) H') = some r) :
    ∃ v H' ρ', k v H' = some r ∧ Le ρ ρ' ∧ HR P ρ' H' B w0 (w.alloc (.cells l'.toArray e)) ∧ VR P ρ' v (.slice (some ⟨w.heap.size, 0, none⟩) n c') := by
  obtain ⟨H', hk, hn, hg⟩ := AHeap.new_spec ha
  obtain ⟨hle, hr, hx⟩ := new_row (c' := l') h hn hg hv
  refine ⟨_, H', _, hk, hle, hr, .slice rfl rfl rfl (ir_of hx rfl) hnc hc fun y hy _ => ?_⟩
  simp only at hy
  rw [hx] at hy; cases hy
  simpa using hl
end
end Go.Am
namespace Go.Am
open Go.RowKit

section
variable {P : Program} {ρ : Ren} {H : AHeap} {B : Nat} {w0 w : World}

theorem zero_plain {t : TypeId} {z : Value} (h : zeroT P t = some z) : plainV 6 z = true := by
  unfold zeroT at h
  split at h
  · split at h
    · split at h
      · rename_i hp; cases h; exact hp
      · cases h
    · cases h
  · cases h

theorem zero_cells {t : TypeId} {z : Value} (h : zeroT P t = some z) : VL P ρ (cellsOfV z) z.cells.toList :=
  vr_cells' (zero_vr h) (by rintro rfl; have := zero_plain h; simp [plainV] at this)

theorem run_places {fields : Array Field} (h : ∀ f ∈ fields.toList, (szT P f.type).isSome = true) :
    (fields.mapM fun f => do pure (f.offset, ← sizeOf f.type) : Sem (Array (Nat × Nat))).run P w = .ok (fields.map fun f => (f.offset, (szT P f.type).getD 0)) w := by
  rw [Array.mapM_eq_mapM_toList]
  have key : ∀ l : List Field, (∀ f ∈ l, (szT P f.type).isSome = true) →
      (l.mapM (fun f => do pure (f.offset, ← sizeOf f.type)) : Sem (List (Nat × Nat))).run P w = .ok (l.map fun f => (f.offset, (szT P f.type).getD 0)) w := by
    intro l
    induction l with
    | nil => intro _; simp
    | cons f l ih =>
      intro hl
      have hf := hl f (List.mem_cons_self ..)
      obtain ⟨n, hn⟩ := Option.isSome_iff_exists.1 hf
      have hi := ih (fun g hg => hl g (List.mem_cons_of_mem _ hg))
      rw [List.mapM_cons]
      simp only [Sem.run_bind, run_sizeOf hn, Result.andThen_ok, Sem.run_pure, List.map_cons, hn, Option.getD_some]
      rw [hi]
      rfl
  have hk := key fields.toList h
  rw [Sem.run_map, hk]
  simp only [Result.andThen_ok]
  congr 1
  apply Array.ext'
  simp

theorem aBuild_ok {β : Type} {k : K β} {r : β} {t : TypeId} {parts : List (Nat × Value)} {parts' : Array (Nat × Value)} (h : HR P ρ H B w0 w) (hp : L2 (PR P ρ) parts parts'.toList)
    (ha : aBuild P t parts H k = some r) : Got P ρ B w0 w k r (Instr.build t parts') := by
  unfold aBuild at ha
  cases hz : zeroT P t with
  | none => simp [hz] at ha
  | some z =>
    simp only [hz] at ha
    split at ha
    · rename_i fields hu
      split at ha
      · rename_i hall
        split at ha
        · rename_i l hfill
          obtain ⟨ha, _⟩ := forceL_spec ha
          have hall' := List.all_eq_true.1 hall
          simp only [Bool.and_eq_true, decide_eq_true_eq] at hall'
          have hzl : (cellsOfV z).length = z.cells.size := by rw [cells_list]; simp
          obtain ⟨l', hl', hvl⟩ := fieldsFill_ok (P := P) (ρ := ρ) (pl := fun i => (fields.map fun f => (f.offset, (szT P f.type).getD 0))[i]?) (fields := fields)
            (fun i f n hi hn => by simp [hi, hn]) hp (zero_cells hz) hfill
            (fun i f hi => by have := (hall' f (by have := Array.mem_of_getElem? hi; simpa using this)).2; omega)
          refine ⟨_, H, ρ, .agg l', w, ha, Le.refl _, h, VR.agg_of (by simpa using hvl), ?_⟩
          simp only [Instr.build, Sem.run_bind, run_zeroT hz, Result.andThen_ok, run_underlying hu, run_places (fun f hf => (hall' f hf).1), hl', Sem.run_pure]
        · cases ha
      · cases ha
    · rename_i an e hu
      split at ha
      · rename_i size hs
        split at ha
        · cases ha
        · rename_i hs0
          have hsz : size ≠ 0 := by rintro rfl; cases hs0
          split at ha
          · rename_i l hparts
            obtain ⟨ha, _⟩ := forceL_spec ha
            obtain ⟨l', hl', hvl, _⟩ := partsCells_ok hp (zero_cells (ρ := ρ) hz) hparts (fun p hp h0 => absurd h0 hsz)
            refine ⟨_, H, ρ, .agg l', w, ha, Le.refl _, h, VR.agg_of (by simpa using hvl), ?_⟩
            simp only [Instr.build, Sem.run_bind, run_zeroT hz, Result.andThen_ok, run_underlying hu, run_sizeOf hs, hl', Sem.run_pure]
          · cases ha
      · cases ha
    · cases ha

theorem aBuildSlice_ok {β : Type} {k : K β} {r : β} {t : TypeId} {len : Nat} {parts : List (Nat × Value)} {parts' : Array (Nat × Value)} (h : HR P ρ H B w0 w) (hp : L2 (PR P ρ) parts parts'.toList)
    (ha : aBuildSlice P t len parts H k = some r) : Got P ρ B w0 w k r (Instr.buildSlice t len parts') := by
  unfold aBuildSlice at ha
  cases he : elemT P t with
  | none => simp [he] at ha
  | some e =>
    simp only [he] at ha
    cases hs : szT P e with
    | none => simp [hs] at ha
    | some size =>
      cases hz : zeroT P e with
      | none => simp [hs, hz] at ha
      | some z =>
        simp only [hs, hz] at ha
        split at ha
        · cases ha
        · rename_i hc
          simp only [not_or, Nat.not_lt, ne_eq, Decidable.not_not] at hc
          obtain ⟨hc1, hc2, hc3⟩ := hc
          split at ha
          · rename_i l hparts
            obtain ⟨ha, _⟩ := forceL_spec ha
            have hzl : z.cells.size = size := by rw [← hc2, cells_list]; simp
            have hz' := repl_vl (zero_cells (ρ := ρ) hz) len
            obtain ⟨l', hl', hvl, hls⟩ := partsCells_ok (z' := ((Array.range (len * size)).map (z.cells[· % z.cells.size]!))) hp
              (by rw [hzl] at hz'; simpa [hzl] using hz') hparts (fun p hp h0 => absurd h0 hc3)
            have hlen : l.length = l'.size := by simpa using hvl.length
            have hsz : l'.size = len * size := by rw [hls]; simp
            obtain ⟨v, H', ρ', hk, hle, hr, hv⟩ := slice_new (l' := l'.toList) (c' := len) h (by rw [hlen, ← Array.length_toList, List.take_length]; exact hvl) (Nat.le_refl len) (Nat.le_refl len) (by rw [cellsOf_sz hs]; simp; omega) ha
            refine ⟨v, H', ρ', _, _, hk, hle, hr, hv, ?_⟩
            have h0 : ¬ (16777216 < len * size) := by omega
            by_cases hz0 : len * size = 0
            · have : len = 0 := by
                rcases Nat.mul_eq_zero.1 hz0 with h1 | h1
                · exact h1
                · exact absurd h1 hc3
              subst this
              rw [show ((Array.range (0 * size)).map (z.cells[· % z.cells.size]!)) = #[] by simp] at hl'
              have hr0 : ∀ g : Nat → Value, (Array.range 0).map g = #[] := fun g => by simp
              simp only [Instr.buildSlice, Sem.run_bind, run_underlying (elem_underlying he), run_sizeOf hs, Result.andThen_ok, Nat.zero_mul, hr0, hl', newRow, run_newObj, Sem.run_pure, if_true, Nat.not_lt_zero, gt_iff_lt, if_false]
              simp
            · simp [Instr.buildSlice, run_underlying (elem_underlying he), run_sizeOf hs, h0, hz0, run_zeroT hz, hl', newRow]
          · cases ha

theorem aMakeSlice_ok {β : Type} {k : K β} {r : β} {t : TypeId} {x y x' y' : Value} (h : HR P ρ H B w0 w) (hx : VR P ρ x x') (hy : VR P ρ y y') (ha : aMakeSlice P t x y H k = some r) :
    Got P ρ B w0 w k r (Instr.makeSlice t x' y') := by
  unfold aMakeSlice at ha
  split at ha
  · rename_i e q n q' c he
    cases hx; cases hy
    split at ha
    · rename_i i z hi hz
      split at ha
      · rename_i hc
        obtain ⟨hnc, hb, hcs, hzl⟩ := hc
        have hzl' : z.cells.size = i.size := by rw [← hzl, cells_list]; simp
        have hz' := repl_vl (zero_cells (ρ := ρ) hz) c
        have hlen := hz'.length
        have hrl : (repl (cellsOfV z) c).length = c * i.size := by rw [hlen]; simp [hzl']
        obtain ⟨v, H', ρ', hk, hle, hr, hv⟩ := slice_new (l' := (List.range (c * z.cells.size)).map (fun j => z.cells[j % z.cells.size]!)) (c' := c) h (by rw [hlen, List.take_length]; exact hz') hnc (Nat.le_refl c)
          (by simp [Program.cellsOf, hi, hzl']) ha
        refine ⟨v, H', ρ', _, _, hk, hle, hr, hv, ?_⟩
        have hb1 : c ≤ 1073741824 := Nat.le_trans (Nat.le_mul_of_pos_right c (by omega)) hb
        have hb2 : i.bytes * c ≤ 1073741824 := by
          rw [Nat.mul_comm]; exact Nat.le_trans (Nat.mul_le_mul_left c (by omega)) hb
        obtain ⟨i', hi', hz0⟩ := zero_info hz
        rw [hi] at hi'; cases hi'
        have hb3 : (i.bytes : Int) * (c : Int) ≤ 281474976710656 := by
          have h1 : ((i.bytes * c : Nat) : Int) ≤ 281474976710656 := by omega
          rwa [Int.natCast_mul] at h1
        have hrun := run_make (P := P) w t e i z (elem_underlying he) hi hz0 q q' (n : Int) (c : Int) (by omega) (by omega) hb3 (by omega)
        simp only [Int.toNat_natCast] at hrun
        have heq : (List.map (fun j => z.cells[j % z.cells.size]!) (List.range (c * z.cells.size))).toArray = madeCells z.cells (c * i.size) := by
          rw [hzl']; unfold madeCells
          apply Array.ext'
          simp [hzl']
        rw [heq]
        exact hrun
      · cases ha
    · cases ha
  · cases ha
end
end Go.Am
namespace Go.Am
open Go.RowKit

section
variable {P : Program} {ρ : Ren} {H : AHeap} {B : Nat} {w0 w : World}

def OV (P : Program) (ρ : Ren) : Option Value → Option Value → Prop
  | none, none => True
  | some a, some b => VR P ρ a b
  | _, _ => False

theorem elemIsR_at (h : HR P ρ H B w0 w) {i j : Nat} {e : TypeId} (hi : IR ρ i j) (he : elemIsR H i e = true) : ∃ x, ρ[i]? = some (some x) ∧ x.b = j ∧ (x.keep = false → x.e = e) := by
  unfold elemIsR at he
  split at he
  · rename_i c e2 hg
    obtain ⟨x, cur, hx1, hxb, hw, hxe, _⟩ := row_at h hi hg
    exact ⟨x, hx1, hxb, fun _ => by rw [hxe]; simpa using he⟩
  · rename_i c e2 hg
    obtain ⟨x, cur, e', fz, hx1, hxb, hw, hk, _⟩ := h.atE hi hg
    exact ⟨x, hx1, hxb, fun h0 => by rw [hk] at h0; cases h0⟩
  · cases he

theorem elemIs_row {i : Nat} {e : TypeId} (h : elemIs H i e = true) : ∃ c, H.get i = .row c e := by
  unfold elemIs at h
  split at h
  · rename_i c e' hg; simp at h; subst h; exact ⟨c, hg⟩
  · cases h

theorem hiOf_ok {n c c' h1 : Nat} {hi hi' : Option Value} (ho : OV P ρ hi hi') (hh : hiOf n c hi = some h1) (hn : n ≤ c) (hc : c ≤ c') : h1 ≤ c ∧
    ((hi' = none ∧ h1 = n) ∨ ∃ q, hi' = some (.int q (h1 : Int))) := by
  unfold hiOf at hh
  split at hh
  · cases hh
    cases hi' with
    | none => exact ⟨hn, .inl ⟨rfl, rfl⟩⟩
    | some v => simp [OV] at ho
  · rename_i q m
    split at hh
    · rename_i hm; cases hh
      cases hi' with
      | none => simp [OV] at ho
      | some v => simp only [OV] at ho; cases ho; exact ⟨hm, .inr ⟨q, rfl⟩⟩
    · cases hh
  · cases hh

theorem loOf_ok {l1 : Nat} {lo lo' : Option Value} (ho : OV P ρ lo lo') (hh : loOf lo = some l1) : (lo' = none ∧ l1 = 0) ∨ ∃ q, lo' = some (.int q (l1 : Int)) := by
  unfold loOf at hh
  split at hh
  · cases hh
    cases lo' with
    | none => exact .inl ⟨rfl, rfl⟩
    | some v => simp [OV] at ho
  · rename_i q m
    cases hh
    cases lo' with
    | none => simp [OV] at ho
    | some v => simp only [OV] at ho; cases ho; exact .inr ⟨q, rfl⟩
  · cases hh

theorem run_slice {t elem : TypeId} {size n c' h1 l1 : Nat} {a' : Option Addr} {lo' hi' : Option Value} (hu : P.underlying t = some (.slice elem)) (hsz : szT P elem = some size)
    (hh : (hi' = none ∧ h1 = n) ∨ ∃ q, hi' = some (.int q (h1 : Int))) (hl : (lo' = none ∧ l1 = 0) ∨ ∃ q, lo' = some (.int q (l1 : Int))) (h1c : h1 ≤ c') (hlh : l1 ≤ h1) :
    (Instr.sliceAt t (.slice a' n c') lo' hi' none).run P w = .ok (.slice (if c' = l1 then a' else a'.map (·.add (l1 * size))) (h1 - l1) (c' - l1)) w := by
  rcases hh with ⟨rfl, rfl⟩ | ⟨q, rfl⟩ <;> rcases hl with ⟨rfl, rfl⟩ | ⟨q', rfl⟩ <;>
    simp [Instr.sliceAt, run_underlying hu, Instr.slice, Instr.sliceBounds, Instr.sliceBound, asIntOf, h1c, hlh, run_sizeOf hsz]

theorem aSliceArr_ok {β : Type} {k : K β} {r : β} {t : TypeId} {x x' : Value} {lo lo' hi hi' : Option Value} (h : HR P ρ H B w0 w) (hx : VR P ρ x x') (hlo : OV P ρ lo lo') (hhi : OV P ρ hi hi')
    (ha : aSliceArr P t x lo hi H k = some r) : Got P ρ B w0 w k r (Instr.sliceAt t x' lo' hi' none) := by
  unfold aSliceArr at ha
  split at ha
  · rename_i n elem a he
    split at ha
    · rename_i h1 l1 size hh hl hsz
      split at ha
      · cases ha
      · rename_i hsp
        split at ha
        · rename_i hlh
          cases hx with
          | ptr hs hs' ho hb =>
            rename_i a'
            have hu := array_underlying he
            obtain ⟨hhc, hh'⟩ := hiOf_ok hhi hh (Nat.le_refl n) (Nat.le_refl n)
            have hrun : (Instr.sliceAt t (.pointer (some a')) lo' hi' none).run P w = .ok (.slice (some (if n = l1 then a' else a'.add (l1 * size))) (h1 - l1) (n - l1)) w := by
              rcases hh' with ⟨rfl, rfl⟩ | ⟨q, rfl⟩ <;> rcases loOf_ok hlo hl with ⟨rfl, rfl⟩ | ⟨q', rfl⟩ <;>
                simp [Instr.sliceAt, run_underlying hu, Instr.sureAddr, Instr.sliceBounds, Instr.sliceBound, asIntOf, hlh, hhc, run_sizeOf hsz]
            split at ha
            · rename_i hln
              refine ⟨_, H, ρ, _, w, ha, Le.refl _, h, ?_, hrun⟩
              rw [if_neg (by omega), add_none hs']
              exact .sliceX rfl rfl (by simp [ho]) hb (by omega)
            · rename_i hln
              have e0 : h1 - l1 = 0 := by omega
              refine ⟨_, H, ρ, _, w, ha, Le.refl _, h, ?_, hrun⟩
              rw [e0]
              exact .sliceE rfl
        · cases ha
    · cases ha
  · cases ha

theorem aSlice_ok {β : Type} {k : K β} {r : β} {t : TypeId} {x x' : Value} {lo lo' hi hi' : Option Value} (h : HR P ρ H B w0 w) (hx : VR P ρ x x') (hlo : OV P ρ lo lo') (hhi : OV P ρ hi hi')
    (ha : aSlice P t x lo hi H k = some r) : Got P ρ B w0 w k r (Instr.sliceAt t x' lo' hi' none) := by
  unfold aSlice at ha
  split at ha
  · rename_i elem a n c he
    split at ha
    · rename_i h1 l1 size hh hl hsz
      split at ha
      · rename_i hlh
        have hu := elem_underlying he
        unfold sliceOn at ha
        split at ha
        · cases hx
          obtain ⟨hc, hh'⟩ := hiOf_ok hhi hh (Nat.le_refl 0) (Nat.le_refl 0)
          have e0 : h1 = 0 := by omega
          have e1 : l1 = 0 := by omega
          subst e0; subst e1
          refine ⟨_, H, ρ, .slice none 0 0, w, ha, Le.refl _, h, .snil, ?_⟩
          simpa using run_slice (w := w) (a' := none) hu hsz hh' (loOf_ok hlo hl) (Nat.le_refl 0) hlh
        · rename_i a
          split at ha
          · cases ha
          · rename_i hel
            split at ha
            · cases ha
            · rename_i hspot
              cases hx with
              | sliceX h' => rw [hspot] at h'; cases h'
              | sliceE h' => rw [hspot] at h'; cases h'
              | slice hs hs' ho hb hn hc hf =>
                rename_i a' c'
                obtain ⟨hhc, hh'⟩ := hiOf_ok hhi hh hn hc
                have hrun := run_slice (w := w) (a' := some a') (c' := c') (n := n) hu hsz hh' (loOf_ok hlo hl) (by omega) hlh
                obtain ⟨x, hx1, hxb, hxe⟩ := elemIsR_at h hb (by simpa using hel)
                have hfit0 := hf x hx1
                split at ha
                · rename_i hlc
                  refine ⟨_, H, ρ, _, w, ha, Le.refl _, h, ?_, hrun⟩
                  rw [if_neg (by omega)]
                  simp only [Option.map_some, add_none hs']
                  refine .slice rfl rfl (by simp [ho]) hb (by omega) (by omega) fun y hy hyk => ?_
                  simp only at hy
                  rw [hx1] at hy; cases hy
                  have hcell : P.cellsOf x.e = size := by rw [hxe hyk]; exact cellsOf_sz hsz
                  have hfit := hfit0 hyk
                  rw [hcell] at hfit ⊢
                  simp only
                  have : l1 * size + (c' - l1) * size = c' * size := by rw [← Nat.add_mul]; congr 1; omega
                  omega
                · split at ha
                  · rename_i h0
                    subst h0
                    refine ⟨_, H, ρ, _, w, ha, Le.refl _, h, ?_, hrun⟩
                    have hadd : a'.add (0 * size) = a' := by simp [Addr.add]
                    have hif : (if c' = 0 then some a' else (some a').map (·.add (0 * size))) = some a' := by
                      simp only [Option.map_some, hadd]; split <;> rfl
                    rw [hif]
                    exact .slice hs hs' ho hb (by omega) (by omega) hf
                  · refine ⟨_, H, ρ, _, w, ha, Le.refl _, h, ?_, hrun⟩
                    have e0 : h1 - l1 = 0 := by omega
                    rw [e0]
                    split
                    · exact .sliceE rfl
                    · exact .sliceE rfl
      · cases ha
    · cases ha
  · cases ha
end
end Go.Am
namespace Go.Am
open Go.RowKit

section
variable {P : Program} {ρ : Ren} {H : AHeap} {B : Nat} {w0 w : World}

theorem src_ok {size m : Nat} {new : List Value} {x x' : Value} (h : HR P ρ H B w0 w) (hx : VR P ρ x x') (hs : srcCells H size x = some (m, new)) :
    ∃ b' c' , x' = .slice b' m c' ∧ ((m = 0) ∨ ∃ a' new', b' = some a' ∧ new'.length = m * size ∧ VL P ρ new new' ∧ ∀ j v, new'[j]? = some v → w.cell? (a'.add j) = some v) := by
  unfold srcCells at hs
  split at hs
  · cases hs; cases hx; exact ⟨_, _, rfl, .inl rfl⟩
  · rename_i a n c
    split at hs
    · rename_i h0; cases hs; subst h0
      cases hx <;> exact ⟨_, _, rfl, .inl rfl⟩
    · rename_i hm
      simp only [Option.map_eq_some_iff, Prod.mk.injEq] at hs
      obtain ⟨l, hl, rfl, rfl⟩ := hs
      cases hx with
      | sliceX _ hs' ho hb _ =>
        obtain ⟨l', hlen, hv, hcell⟩ := cells_spec h hb ho hs' hl
        exact ⟨_, _, rfl, .inr ⟨_, l', rfl, hlen, hv, hcell⟩⟩
      | sliceE h' => exact absurd rfl hm
      | slice hs1 hs' ho hb hn hc hf =>
        obtain ⟨l', hlen, hv, hcell⟩ := cells_spec h hb ho hs' hl
        exact ⟨_, _, rfl, .inr ⟨_, l', rfl, hlen, hv, hcell⟩⟩
  · cases hs

theorem run_append_zero {t e ty : TypeId} {i : TypeInfo} (ht : P.underlying t = some (.slice e)) (hi : P.info? e = some i) {b b2 : Option Addr} {n c c2 : Nat} (hn : n ≤ c) :
    (Builtin.append_ #[t, t] ty #[.slice b n c, .slice b2 0 c2]).run P w = .ok (.slice b n c) w := by
  have hf : (Builtin.firstCells i.size 0 (.slice b2 0 c2)).run P w = .ok #[] w := by
    cases b2 <;> simp [Builtin.firstCells, loadCells, loadCellsFrom]
  cases b <;> simp [Builtin.append_, run_underlying ht, sizeOf, typeInfo, hi, Builtin.lenOf, hn, hf, storeCells]

theorem append_room {t e ty : TypeId} {i : TypeInfo} (ht : P.underlying t = some (.slice e)) (hi : P.info? e = some i) {j n c m c2 : Nat} {a' : Addr} {new' : List Value} {w' : World}
    (hl : new'.length = m * i.size) (hcell : ∀ j v, new'[j]? = some v → w.cell? (a'.add j) = some v) (hroom : n + m ≤ c)
    (hst : (storeCells ⟨j, n * i.size, none⟩ new').run P w = .ok () w') :
    (Builtin.append_ #[t, t] ty #[.slice (some ⟨j, 0, none⟩) n c, .slice (some a') m c2]).run P w = .ok (.slice (some ⟨j, 0, none⟩) (n + m) c) w' := by
  have hf := run_firstCells_some (P := P) w i.size m a' m c2 new' hl hcell
  simp [Builtin.append_, run_underlying ht, sizeOf, typeInfo, hi, Builtin.lenOf, hroom, hf, Addr.add_lit, hst]

theorem appendOk_spec {elem : TypeId} {i : TypeInfo} {n m : Nat} (h : appendOk P elem i n m = true) : (n + m) * i.bytes ≤ 1073741824 ∧ n + m ≤ 1073741824 ∧ 0 < i.size ∧ ∃ z, zeroT P elem = some z ∧ z.cells.size = i.size := by
  unfold appendOk at h
  simp only [Bool.and_eq_true] at h
  obtain ⟨⟨h1, h2⟩, h3⟩ := h
  have hle : (n + m) * max i.bytes 1 ≤ 1073741824 := Nat.le_of_ble_eq_true h1
  have hb1 : (n + m) * i.bytes ≤ (n + m) * max i.bytes 1 := Nat.mul_le_mul_left _ (by omega)
  have hb2 : n + m ≤ (n + m) * max i.bytes 1 := Nat.le_mul_of_pos_right _ (by omega)
  refine ⟨by omega, by omega, ?_, ?_⟩
  · rcases Nat.eq_zero_or_pos i.size with h0 | h0
    · rw [h0] at h2; simp at h2
    · exact h0
  · split at h3
    · rename_i z hz
      exact ⟨z, hz, by rw [← Nat.eq_of_beq_eq_true h3, cells_list]; simp⟩
    · cases h3

theorem aAppend_ok {β : Type} {k : K β} {r : β} {ts : Array TypeId} {ty : TypeId} {s x s' x' : Value} (h : HR P ρ H B w0 w) (hs : VR P ρ s s') (hx : VR P ρ x x') (ha : aAppend P ts s x H k = some r) :
    Got P ρ B w0 w k r (Builtin.append_ ts ty #[s', x']) := by
  unfold aAppend at ha
  split at ha
  · rename_i t t' hts
    split at ha
    · cases ha
    · rename_i htt
      simp only [ne_eq, Decidable.not_not] at htt
      subst htt
      have hts' : ts = #[t', t'] := by apply Array.ext'; simpa using hts
      subst hts'
      split at ha
      · rename_i elem he
        have hu := elem_underlying he
        split at ha
        · cases ha
        · rename_i i hi
          split at ha
          · cases ha
          · rename_i m new hsrc
            obtain ⟨b2, c2, rfl, hcase⟩ := src_ok h hx hsrc
            split at ha
            · rename_i base n c
              split at ha
              · rename_i hm0
                subst hm0
                have hle : ∃ b' c', s' = .slice b' n c' ∧ n ≤ c' := by
                  cases hs with
                  | snil => exact ⟨_, _, rfl, Nat.le_refl _⟩
                  | slice _ _ _ _ hn hc _ => exact ⟨_, _, rfl, by omega⟩
                  | sliceX _ _ _ _ hn => exact ⟨_, _, rfl, hn⟩
                  | sliceE _ => exact ⟨_, _, rfl, Nat.zero_le _⟩
                obtain ⟨b', c', rfl, hn⟩ := hle
                exact ⟨_, H, ρ, _, w, ha, Le.refl _, h, hs, run_append_zero hu hi hn⟩
              · rename_i hm0
                obtain ⟨a', new', rfl, hl, hv, hcell⟩ := hcase.resolve_left hm0
                split at ha
                · rename_i hok
                  obtain ⟨hby, hlen, hsz, z, hz, hzs⟩ := appendOk_spec hok
                  obtain ⟨iz, hiz, hz0⟩ := zero_info hz
                  rw [hi] at hiz; cases hiz
                  have hcs : P.cellsOf elem = i.size := by simp [Program.cellsOf, hi]
                  unfold appendOn at ha
                  split at ha
                  · -- nil
                    split at ha
                    · rename_i hnc
                      obtain ⟨rfl, rfl⟩ := hnc
                      cases hs
                      obtain ⟨ha, _⟩ := forceL_spec ha
                      have hrun := run_append_nil (P := P) w t' ty elem i z hu hi hz0 a' m c2 new' hl hcell (by omega) (by omega) (by simp only [Nat.zero_add] at hby; omega)
                      have hge := grownCap_ge w m 0 elem
                      obtain ⟨v, H', ρ', hk, hle, hr, hvr⟩ := slice_new (l' := new' ++ (Builtin.zeroCells z.cells (grownCap w m 0 elem - m)).toList) (c' := grownCap w m 0 elem) h.drew
                        (by rw [hv.length, List.take_left]; exact hv) (Nat.le_refl m) hge
                        (by rw [hcs, List.length_append, hl, Array.length_toList, size_zeroCells, hzs, ← Nat.add_mul]; exact Nat.le_of_eq (by congr 1; omega)) ha
                      refine ⟨v, H', ρ', _, _, hk, hle, hr, hvr, ?_⟩
                      rw [hrun]
                      congr 2
                      congr 1
                      apply Array.ext'; simp
                    · cases ha
                  · rename_i a
                    split at ha
                    · cases ha
                    · rename_i hsp
                      split at ha
                      · cases ha
                      · rename_i hcond
                        simp only [not_or, Bool.not_eq_false, ne_eq, Decidable.not_not] at hcond
                        obtain ⟨hel, hoff⟩ := hcond
                        obtain ⟨cs, hrow⟩ := elemIs_row hel
                        cases hs with
                        | sliceX h' => rw [hsp] at h'; cases h'
                        | sliceE h' => rw [hsp] at h'; cases h'
                        | slice hs1 hs' ho hb hn hc hf =>
                          rename_i b' c'
                          have hb'eq : b' = ⟨b'.block, 0, none⟩ := by rw [addr_eq hs', ho, hoff]
                          split at ha
                          · rename_i hroom
                            obtain ⟨H', hk, w', hst, hr⟩ := storeAt_ok h hb hv ha
                            refine ⟨_, H', ρ, .slice (some b') (n + m) c', w', hk, Le.refl _, hr, .slice hs1 hs' ho hb hroom hc hf, ?_⟩
                            rw [hb'eq]
                            exact append_room hu hi hl hcell (by omega) hst
                          · rename_i hroom
                            split at ha
                            · cases ha
                            · rename_i old hold
                              unfold growOn at ha
                              obtain ⟨ha, hone⟩ := forceL_spec ha
                              obtain ⟨H1, ha1, hn1, hg1⟩ := AHeap.set_spec ha
                              obtain ⟨x, cur, hx1, hxb, hw, hxe, hxs, hkeep, hvl, hB⟩ := row_at h hb hrow
                              obtain ⟨hkill, hlekill⟩ := h.kill hx1 hkeep hn1 hg1
                              have hoff0 : cellsAt H a.block a.off (n * i.size) = some old := by rw [hoff]; exact hold
                              obtain ⟨old', hol, hov, hocell⟩ := cells_spec h hb ho hs' hoff0
                              have hfit := hf x hx1 hkeep
                              rw [hxe, hcs, ho, hoff] at hfit
                              have hrel : VL P (ρ.set a.block none) (old ++ new) (old' ++ new') := VL.mono (hov.append hv) hlekill
                              by_cases hc'room : n + m ≤ c'
                              · -- written in place
                                have hone' : ∀ v ∈ new', v.oneCell' = true := by
                                  intro v hvm
                                  obtain ⟨q, hq, hqv⟩ := List.mem_iff_getElem.1 hvm
                                  obtain ⟨av, hav, hrv⟩ := hv.get' (i := q) (b := v) (by rw [List.getElem?_eq_getElem hq, hqv])
                                  exact hrv.oneCell (hone av (List.mem_append_right _ (List.mem_of_getElem? hav)))
                                have hmul : n * i.size + m * i.size ≤ cur.size := by
                                  have : (n + m) * i.size ≤ c' * i.size := Nat.mul_le_mul_right _ hc'room
                                  rw [Nat.add_mul] at this; omega
                                have hrun := run_storeCells_at P b'.block (n * i.size) elem new' 0 cur w hw (by simp; omega) hone'
                                simp only [Nat.add_zero] at hrun
                                obtain ⟨H', hk, hn2, hg2⟩ := AHeap.new_spec ha1
                                have hob : old' = cur.toList.take (n * i.size) := by
                                  apply List.ext_getElem?
                                  intro q
                                  rw [List.getElem?_take]
                                  by_cases hq : q < n * i.size
                                  · rw [if_pos hq]
                                    have hq' : q < old'.length := by omega
                                    have hget := hocell q old'[q] (List.getElem?_eq_getElem hq')
                                    rw [add_none hs', cell_of_row w _ _ cur _ _ hw, ho, hoff] at hget
                                    rw [List.getElem?_eq_getElem hq']
                                    simpa using hget.symm
                                  · rw [if_neg hq, List.getElem?_eq_none (by omega)]
                                have hadd := hkill.add (H' := H') (o := .row (old ++ new) elem) (x := ⟨b'.block, cur.size, elem, false, none⟩)
                                  (o' := .cells (cur.toList.take (n * i.size) ++ new' ++ cur.toList.drop (n * i.size + new'.length)).toArray elem (0, 0))
                                  (w' := w.setRow b'.block (cur.toList.take (n * i.size) ++ new' ++ cur.toList.drop (n * i.size + new'.length)).toArray) hB
                                  (fun q y hy hyb => by
                                    by_cases hqi : q = a.block
                                    · subst hqi
                                      have := (List.getElem?_eq_some_iff.1 hx1).1
                                      simp [this] at hy
                                    · rw [List.getElem?_set_ne (Ne.symm hqi)] at hy
                                      exact hqi (h.inj a.block q x y hx1 hy (by rw [hrow]; rfl) (by rw [hyb, hxb])).symm)
                                  hn2 hg2
                                  (.row rfl (by simp; omega) rfl (by
                                    have e1 : (old ++ new).length = (old' ++ new').length := hrel.length
                                    rw [e1, hob, List.toList_toArray, List.take_left]
                                    rw [hob] at hrel
                                    exact hrel.mono (Le.append _ _)))
                                  (setRow_heap w b'.block cur _ elem _ hw) (fun q hq => setRow_other w b'.block q _ hq) (size_setRow _ _ _) rfl rfl rfl
                                refine ⟨_, H', _, .slice (some b') (n + m) c', _, hk, hlekill.trans (Le.append _ _), hadd, ?_, ?_⟩
                                · have hnew : (ρ.set a.block none ++ [some (⟨b'.block, cur.size, elem, false, none⟩ : Ent)])[H1.n]? = some (some ⟨b'.block, cur.size, elem, false, none⟩) := by
                                    rw [← hkill.len]; simp
                                  refine .slice rfl hs' (by rw [ho, hoff]) (ir_of hnew rfl) (Nat.le_refl _) hc'room fun y hy _ => ?_
                                  simp only at hy
                                  rw [hnew] at hy; cases hy
                                  simp only [hcs]
                                  rw [ho, hoff]; omega
                                · rw [hb'eq]
                                  exact append_room hu hi hl hcell hc'room hrun
                              · -- moved
                                have holds : ∀ q v, old'[q]? = some v → w.cell? ((⟨b'.block, 0, none⟩ : Addr).add q) = some v := by rw [← hb'eq]; exact hocell
                                have hrun := run_append_grow (P := P) w t' ty elem i z hu hi hz0 ⟨b'.block, 0, none⟩ n c' old' hol holds a' m c2 new' hl hcell (by omega) (by omega) (growslice_fits (by omega) (by omega))
                                have hge := grownCap_ge w (n + m) c' elem
                                obtain ⟨v, H', ρ', hk, hle, hr, hvr⟩ := slice_new (l' := (old' ++ new') ++ (Builtin.zeroCells z.cells (grownCap w (n + m) c' elem - (n + m))).toList) (c' := grownCap w (n + m) c' elem) hkill.drew
                                  (by rw [hrel.length, List.take_left]; exact hrel) (Nat.le_refl (n + m)) hge
                                  (by rw [hcs, List.length_append, List.length_append, hol, hl, Array.length_toList, size_zeroCells, hzs, ← Nat.add_mul, ← Nat.add_mul]; exact Nat.le_of_eq (by congr 1; omega)) ha1
                                refine ⟨v, H', ρ', _, _, hk, hlekill.trans hle, hr, hvr, ?_⟩
                                rw [hb'eq, hrun]
                                congr 2
                                congr 1
                                apply Array.ext'; simp
                · cases ha
            · cases ha
      · cases ha
  · cases ha
end
end Go.Am
namespace Go.Am
open Go.RowKit

section
variable {P : Program} {ρ : Ren} {H : AHeap} {B : Nat} {w0 w : World}


structure KeyS (P : Program) (kt : TypeId) (fs : Array Field) (key : Value) (f0 f1 f2 : Field) (q0 q1 q2 : IntKind) (n0 n1 n2 : Int) : Prop where
  und : P.underlying kt = some (.struct fs)
  fs : fs = #[f0, f1, f2]
  key : key = .agg #[.int q0 n0, .int q1 n1, .int q2 n2]
  i0 : f0.name ≠ "_" ∧ f0.offset = 0 ∧ P.underlying f0.type = some (.int q0)
  i1 : f1.name ≠ "_" ∧ f1.offset = 1 ∧ P.underlying f1.type = some (.int q1)
  i2 : f2.name ≠ "_" ∧ f2.offset = 2 ∧ P.underlying f2.type = some (.int q2)
  st : P.stoodInHeld kt = false

theorem kind_eq {q q' : IntKind} (h : (q == q') = true) : q' = q := by cases q <;> cases q' <;> first | rfl | (revert h; decide)

theorem intField_of {f : Field} {off : Nat} {q : IntKind} (h : intField P f off q = true) : f.name ≠ "_" ∧ f.offset = off ∧ P.underlying f.type = some (.int q) := by
  unfold intField at h
  simp only [Bool.and_eq_true, bne_iff_ne] at h
  obtain ⟨⟨h1, h2⟩, h3⟩ := h
  refine ⟨h1, Nat.eq_of_beq_eq_true h2, ?_⟩
  split at h3
  · rename_i q' hq; rw [hq, kind_eq h3]
  · cases h3

theorem keyT_cases {kt : TypeId} {key : Value} (h : keyT P kt key = true) :
    (∃ q n, P.underlying kt = some (.int q) ∧ key = .int q n) ∨ (∃ s, P.underlying kt = some .string ∧ key = .string s) ∨ (∃ b, P.underlying kt = some .bool ∧ key = .bool b) ∨
      ∃ fs f0 f1 f2 q0 q1 q2 n0 n1 n2, KeyS P kt fs key f0 f1 f2 q0 q1 q2 n0 n1 n2 := by
  unfold keyT at h
  split at h
  · rename_i fs cs hu
    split at h
    · rename_i f0 f1 f2 q0 n0 q1 n1 q2 n2 hf hc
      simp only [Bool.and_eq_true, Bool.not_eq_true'] at h
      obtain ⟨⟨⟨h0, h1⟩, h2⟩, h3⟩ := h
      exact .inr (.inr (.inr ⟨fs, f0, f1, f2, q0, q1, q2, n0, n1, n2, hu, by rw [← hf], by rw [← hc], intField_of h0, intField_of h1, intField_of h2, h3⟩))
    · cases h
  · rename_i q q' n hu
    have : q' = q := kind_eq h
    subst this
    exact .inl ⟨_, n, hu, rfl⟩
  · rename_i s hu; exact .inr (.inl ⟨s, hu, rfl⟩)
  · rename_i b hu; exact .inr (.inr (.inl ⟨b, hu, rfl⟩))
  · cases h

theorem keyS_plain {kt : TypeId} {fs : Array Field} {key : Value} {f0 f1 f2 : Field} {q0 q1 q2 : IntKind} {n0 n1 n2 : Int} (h : KeyS P kt fs key f0 f1 f2 q0 q1 q2 n0 n1 n2) : plainV 6 key = true := by
  rw [h.key]; simp [plainV]

theorem keyT_same {kt : TypeId} {key key' : Value} (h : keyT P kt key = true) (hv : VR P ρ key key') : key' = key := by
  rcases keyT_cases h with ⟨q, n, _, rfl⟩ | ⟨s, _, rfl⟩ | ⟨b, _, rfl⟩ | ⟨_, _, _, _, _, _, _, _, _, _, hk⟩
  · cases hv; rfl
  · cases hv; rfl
  · cases hv; rfl
  · exact plain_eq 6 hv (keyS_plain hk)

theorem part_int {t : TypeId} {q : IntKind} {cs : Array Value} {off : Nat} {v : Value} (hu : P.underlying t = some (.int q)) (h : cs[off]? = some v) : (part t cs off).run P w = .ok v w := by
  have ha : isAggT P t = some false := by unfold isAggT; rw [hu]
  simp [part, run_isAgg ha, h]

theorem run_checkKey {kt : TypeId} {key : Value} {b : Bool} (h : keyT P kt key = true) : (Instr.checkKey b 10000 kt key).run P w = .ok () w := by
  change (Instr.checkKey b (9998 + 1 + 1) kt key).run P w = _
  generalize 9998 = d
  rcases keyT_cases h with ⟨q, n, hu, rfl⟩ | ⟨s, hu, rfl⟩ | ⟨b, hu, rfl⟩ | ⟨fs, f0, f1, f2, q0, q1, q2, n0, n1, n2, hk⟩
  · simp [Instr.checkKey, run_underlying hu]
  · simp [Instr.checkKey, run_underlying hu]
  · simp [Instr.checkKey, run_underlying hu]
  · obtain ⟨hu, rfl, rfl, ⟨a0, a1, a2⟩, ⟨b0, b1, b2⟩, ⟨c0, c1, c2⟩, hs⟩ := hk
    have p0 := part_int (w := w) (off := f0.offset) (cs := #[Value.int q0 n0, .int q1 n1, .int q2 n2]) (v := .int q0 n0) a2 (by rw [a1]; rfl)
    have p1 := part_int (w := w) (off := f1.offset) (cs := #[Value.int q0 n0, .int q1 n1, .int q2 n2]) (v := .int q1 n1) b2 (by rw [b1]; rfl)
    have p2 := part_int (w := w) (off := f2.offset) (cs := #[Value.int q0 n0, .int q1 n1, .int q2 n2]) (v := .int q2 n2) c2 (by rw [c1]; rfl)
    simp [Instr.checkKey, run_underlying hu, a0, b0, c0, p0, p1, p2, run_underlying a2, run_underlying b2, run_underlying c2]

theorem ba_eq {a b : ByteArray} (h : (a == b) = true) : a = b := by
  cases a; cases b; rename_i x y
  have : (x == y) = true := h
  rw [eq_of_beq this]

theorem ba_refl (a : ByteArray) : (a == a) = true := by
  cases a; rename_i x
  show (x == x) = true
  exact beq_self_eq_true x

theorem keyS_equal {kt : TypeId} {fs : Array Field} {key : Value} {f0 f1 f2 : Field} {q0 q1 q2 : IntKind} {n0 n1 n2 m0 m1 m2 : Int} (h : KeyS P kt fs key f0 f1 f2 q0 q1 q2 n0 n1 n2) :
    (Op.equal kt key (.agg #[.int q0 m0, .int q1 m1, .int q2 m2])).run P w = .ok (n0 == m0 && (n1 == m1 && n2 == m2)) w := by
  show (Op.equalIn (9998 + 1 + 1) kt key (.agg #[.int q0 m0, .int q1 m1, .int q2 m2])).run P w = _
  generalize 9998 = d
  obtain ⟨hu, rfl, rfl, ⟨a0, a1, a2⟩, ⟨b0, b1, b2⟩, ⟨c0, c1, c2⟩, hs⟩ := h
  have p0 := fun (x y z : Int) => part_int (w := w) (off := f0.offset) (cs := #[Value.int q0 x, .int q1 y, .int q2 z]) (v := .int q0 x) a2 (by rw [a1]; rfl)
  have p1 := fun (x y z : Int) => part_int (w := w) (off := f1.offset) (cs := #[Value.int q0 x, .int q1 y, .int q2 z]) (v := .int q1 y) b2 (by rw [b1]; rfl)
  have p2 := fun (x y z : Int) => part_int (w := w) (off := f2.offset) (cs := #[Value.int q0 x, .int q1 y, .int q2 z]) (v := .int q2 z) c2 (by rw [c1]; rfl)
  have hp : (program : Sem Program).run P w = .ok P w := rfl
  have e0 : ∀ x y : Int, (Op.equalIn (d + 1) f0.type (.int q0 x) (.int q0 y)).run P w = .ok (x == y) w := fun x y => by simp [Op.equalIn, run_underlying a2]
  have e1 : ∀ x y : Int, (Op.equalIn (d + 1) f1.type (.int q1 x) (.int q1 y)).run P w = .ok (x == y) w := fun x y => by simp [Op.equalIn, run_underlying b2]
  have e2 : ∀ x y : Int, (Op.equalIn (d + 1) f2.type (.int q2 x) (.int q2 y)).run P w = .ok (x == y) w := fun x y => by simp [Op.equalIn, run_underlying c2]
  rw [Op.equalIn]
  simp only [Sem.run_bind, run_underlying hu, Result.andThen_ok, hp, hs, List.forIn_toArray, List.forIn_cons, List.forIn_nil]
  by_cases h0 : n0 = m0
  · by_cases h1 : n1 = m1
    · by_cases h2 : n2 = m2
      · simp [a0, b0, c0, p0, p1, p2, e0, e1, e2, h0, h1, h2]
      · have h2' : (n2 == m2) = false := by simpa using h2
        simp [a0, b0, c0, p0, p1, p2, e0, e1, e2, h0, h1, h2']
    · have h1' : (n1 == m1) = false := by simpa using h1
      simp [a0, b0, c0, p0, p1, p2, e0, e1, e2, h0, h1']
  · have h0' : (n0 == m0) = false := by simpa using h0
    simp [a0, b0, c0, p0, p1, p2, e0, e1, e2, h0']

theorem keyEq_now {kt : TypeId} {d : TypeDesc} {key k2 k2' : Value} {b : Bool} (h : keyT P kt key = true) (hu : P.underlying kt = some d) (hv : VR P ρ k2 k2') (hk : keyEq key k2 = some b) :
    (Instr.sameNow d key k2' = some b ∨ (Instr.sameNow d key k2' = none ∧ (∃ fs, d = .struct fs) ∧ ∀ w : World, (Op.equal kt key k2').run P w = .ok b w)) ∧ (b = true → k2' = key) := by
  rcases keyT_cases h with ⟨q, n, hu', rfl⟩ | ⟨s, hu', rfl⟩ | ⟨c, hu', rfl⟩ | ⟨fs, f0, f1, f2, q0, q1, q2, n0, n1, n2, hks⟩
  · rw [hu] at hu'; cases hu'
    cases hv <;> try (simp [keyEq] at hk; done)
    simp only [keyEq] at hk
    refine ⟨.inl hk, fun hb => ?_⟩
    subst hb
    split at hk
    · rename_i hq
      simp at hk
      subst hq; subst hk; rfl
    · cases hk
  · rw [hu] at hu'; cases hu'
    cases hv <;> try (simp [keyEq] at hk; done)
    simp only [keyEq] at hk
    refine ⟨.inl hk, fun hb => ?_⟩
    subst hb
    simp only [Option.some.injEq] at hk
    rw [ba_eq hk]
  · rw [hu] at hu'; cases hu'
    cases hv <;> try (simp [keyEq] at hk; done)
    simp only [keyEq] at hk
    refine ⟨.inl hk, fun hb => ?_⟩
    subst hb
    simp at hk
    rw [hk]
  · have hu' := hks.und
    rw [hu] at hu'; cases hu'
    have hkey := hks.key
    subst hkey
    cases k2 <;> try (simp [keyEq] at hk; done)
    rename_i cs
    simp only [keyEq] at hk
    split at hk
    · rename_i p0 a0 p1 a1 p2 a2 r0 b0 r1 b1 r2 b2 e1 e2
      cases e1
      split at hk
      · rename_i hq
        obtain ⟨rfl, rfl, rfl⟩ := hq
        obtain rfl : cs = #[.int _ b0, .int _ b1, .int _ b2] := by rw [← e2]
        have hvv : k2' = .agg #[.int _ b0, .int _ b1, .int _ b2] := plain_eq 6 hv (by simp [plainV])
        subst hvv
        simp only [Option.some.injEq] at hk
        refine ⟨.inr ⟨rfl, ⟨_, rfl⟩, fun w => by rw [keyS_equal hks, hk]⟩, fun hb => ?_⟩
        subst hb
        simp at hk
        obtain ⟨rfl, rfl, rfl⟩ := hk
        rfl
      · cases hk
    · cases hk

def FindIs (P : Program) (d : TypeDesc) (kt : TypeId) (key : Value) (es : List MapEntry) (i : Nat) (r : Option (Nat × Value)) : Prop :=
  Instr.findNow d key es i = some r ∨ ((∃ fs, d = .struct fs) ∧ ∀ w : World, (Instr.findAsking kt key es i).run P w = .ok r w)

theorem findNow_struct {fs : Array Field} {key : Value} {e : MapEntry} {es : List MapEntry} {i : Nat} : Instr.findNow (.struct fs) key (e :: es) i = none := by
  simp [Instr.findNow, Instr.sameNow]

theorem FindIs.asking {fs : Array Field} {kt : TypeId} {key : Value} {es : List MapEntry} {i : Nat} {r : Option (Nat × Value)} (h : FindIs P (.struct fs) kt key es i r) (w : World) : (Instr.findAsking kt key es i).run P w = .ok r w := by
  rcases h with h | ⟨_, h⟩
  · cases es with
    | nil => simp [Instr.findNow] at h; subst h; rfl
    | cons e es => rw [findNow_struct] at h; cases h
  · exact h w

theorem findE_ok {kt : TypeId} {d : TypeDesc} {key : Value} (h : keyT P kt key = true) (hu : P.underlying kt = some d) : ∀ {es : List MapEntry} {es' : List MapEntry} {i : Nat} {r : Option (Nat × Value)},
    L2 (ME P ρ) es es' → findE key es i = some r →
    ∃ r', FindIs P d kt key es' i r' ∧ ((r = none ∧ r' = none) ∨ ∃ j v e', r = some (i + j, v) ∧ r' = some (i + j, e'.val) ∧ VR P ρ v e'.val ∧ es'[j]? = some e' ∧ e'.key = key ∧ ∃ e, es[j]? = some e ∧ e.val = v)
  | [], es', i, r, hm, hf => by
    cases hm
    simp [findE] at hf; subst hf
    exact ⟨none, .inl rfl, .inl ⟨rfl, rfl⟩⟩
  | e :: es, _, i, r, .cons (b := e') hme hm, hf => by
    simp only [findE] at hf
    split at hf
    · rename_i hk
      cases hf
      obtain ⟨h1, h2⟩ := keyEq_now h hu hme.1 hk
      refine ⟨some (i, e'.val), ?_, .inr ⟨0, _, e', rfl, rfl, hme.2.1, rfl, h2 rfl, e, rfl, rfl⟩⟩
      rcases h1 with h1 | ⟨_, hd, h1⟩
      · exact .inl (by simp [Instr.findNow, h1])
      · exact .inr ⟨hd, fun w => by simp [Instr.findAsking, h1 w]⟩
    · rename_i hk
      obtain ⟨h1, _⟩ := keyEq_now h hu hme.1 hk
      obtain ⟨r', hr', hcase⟩ := findE_ok h hu hm hf
      refine ⟨r', ?_, ?_⟩
      · rcases h1 with h1 | ⟨_, ⟨fs, rfl⟩, h1⟩
        · rcases hr' with hr' | ⟨⟨fs, rfl⟩, _⟩
          · exact .inl (by simp [Instr.findNow, h1, hr'])
          · simp [Instr.sameNow] at h1
        · exact .inr ⟨⟨_, rfl⟩, fun w => by simp [Instr.findAsking, h1 w, hr'.asking w]⟩
      · rcases hcase with hc | ⟨j, v, e2, rfl, rfl, hv, he, hkey, e0, he0, hev⟩
        · exact .inl hc
        · exact .inr ⟨j + 1, v, e2, by simp; omega, by simp; omega, hv, by simpa using he, hkey, e0, by simpa using he0, hev⟩
    · cases hf

theorem map_at (h : HR P ρ H B w0 w) {i j : Nat} (hi : IR ρ i j) {es : List MapEntry} {k : Nat} (hg : H.get i = .map es k) :
    ∃ x es', ρ[i]? = some (some x) ∧ x.b = j ∧ w.heap[j]? = some (.map es' k) ∧ L2 (ME P ρ) es es'.toList := by
  obtain ⟨x, o', hx, hb, ho, hor, _⟩ := h.at hi (by rw [hg]; simp) (by rw [hg]; rfl)
  rw [hg] at hor
  cases hor with
  | map hm => exact ⟨x, _, hx, hb, ho, hm⟩

theorem run_getObj_map {j : Nat} {es : Array MapEntry} {k : Nat} (h : w.heap[j]? = some (.map es k)) : (getObj j).run P w = .ok (.map es k) w := by simp [getObj, Sem.run, h]

theorem run_setObj_map {j : Nat} {es : Array MapEntry} {k : Nat} (o : Obj) (h : w.heap[j]? = some (.map es k)) : (setObj j o).run P w = .ok () { w with heap := w.heap.setIfInBounds j o } := by
  simp [setObj, Sem.run, h]

theorem run_findKey {kt : TypeId} {d : TypeDesc} {key : Value} {es : List MapEntry} {r : Option (Nat × Value)} (hu : P.underlying kt = some d) (h : FindIs P d kt key es 0 r) :
    (Instr.findKey kt key es).run P w = .ok r w := by
  rcases h with h | ⟨⟨fs, rfl⟩, h⟩
  · simp [Instr.findKey, run_underlying hu, h]
  · cases es with
    | nil => have := h w; simp [Instr.findAsking] at this; subst this; simp [Instr.findKey, run_underlying hu, Instr.findNow]
    | cons e es => simp [Instr.findKey, run_underlying hu, findNow_struct, h w]

theorem keyT_under {kt : TypeId} {key : Value} (h : keyT P kt key = true) : ∃ d, P.underlying kt = some d := by
  rcases keyT_cases h with ⟨q, n, hu, rfl⟩ | ⟨s, hu, rfl⟩ | ⟨b, hu, rfl⟩ | ⟨_, _, _, _, _, _, _, _, _, _, hk⟩
  · exact ⟨_, hu⟩
  · exact ⟨_, hu⟩
  · exact ⟨_, hu⟩
  · exact ⟨_, hk.und⟩

theorem aLookup_ok {β : Type} {k : K β} {r : β} {t : TypeId} {x x' i i' : Value} {ok : Bool} (h : HR P ρ H B w0 w) (hx : VR P ρ x x') (hi : VR P ρ i i') (ha : aLookup P t x i ok H k = some r) :
    Got P ρ B w0 w k r (Instr.lookup t x' i' ok) := by
  unfold aLookup at ha
  split at ha
  · rename_i kt e hm
    split at ha
    · cases ha
    · rename_i hkey
      have hkey : keyT P kt i = true := by simpa using hkey
      have hu := map_underlying hm
      have hii := keyT_same hkey hi
      subst hii
      split at ha
      · cases ha
      · rename_i es hes
        -- the entries on the other side
        have hent : ∃ es', L2 (ME P ρ) es es'.toList ∧ ((x' = .map none ∧ es' = #[]) ∨ ∃ j k, x' = .map (some j) ∧ w.heap[j]? = some (.map es' k)) := by
          unfold mapOf at hes
          split at hes
          · cases hes; cases hx; exact ⟨#[], .nil, .inl ⟨rfl, rfl⟩⟩
          · rename_i rr
            split at hes
            · rename_i es0 kk hg
              cases hes
              cases hx with
              | map hir =>
                obtain ⟨_, es', _, _, hw, hl⟩ := map_at h hir hg
                exact ⟨es', hl, .inr ⟨_, _, rfl, hw⟩⟩
            · cases hes
          · cases hes
        obtain ⟨es', hl, hent⟩ := hent
        obtain ⟨d, hd⟩ := keyT_under hkey
        have hlook : ∀ r', FindIs P d kt i' es'.toList 0 r' → ∀ res, (do
            let (v, ok2) ← match r' with
              | some (_, v) => pure (v, true)
              | none => pure (← zeroValue e, false)
            pure (if ok then .tuple #[v, .bool ok2] else v) : Sem Value).run P w = .ok res w → (Instr.lookup t x' i' ok).run P w = .ok res w := by
          intro r' hr' res hres
          rcases hent with ⟨rfl, rfl⟩ | ⟨j, k, rfl, hw⟩
          · simp only [Instr.lookup, Sem.run_bind, run_underlying hu, Result.andThen_ok, Sem.run_pure, run_checkKey hkey, run_findKey hd hr']
            rcases r' with _ | ⟨_, v⟩ <;> simpa using hres
          · simp only [Instr.lookup, Sem.run_bind, run_underlying hu, Result.andThen_ok, run_getObj_map hw, Sem.run_pure, run_checkKey hkey, run_findKey hd hr']
            rcases r' with _ | ⟨_, v⟩ <;> simpa using hres
        split at ha
        · cases ha
        · rename_i j v hf
          obtain ⟨r', hr', hcase⟩ := findE_ok hkey hd hl hf
          rcases hcase with ⟨h1, _⟩ | ⟨j', v', e', h1, rfl, hv, _⟩
          · cases h1
          · simp only [Option.some.injEq, Prod.mk.injEq] at h1
            obtain ⟨_, rfl⟩ := h1
            refine ⟨_, H, ρ, if ok then .tuple #[e'.val, .bool true] else e'.val, w, ha, Le.refl _, h, ?_, ?_⟩
            · cases ok
              · exact hv
              · exact VR.tuple_of (.cons hv (.cons (.bool true) .nil))
            · exact hlook _ hr' _ (by simp)
        · rename_i hf
          obtain ⟨r', hr', hcase⟩ := findE_ok hkey hd hl hf
          rcases hcase with ⟨_, rfl⟩ | ⟨j', v', e', h1, _⟩
          · split at ha
            · rename_i z hz
              refine ⟨_, H, ρ, if ok then .tuple #[z, .bool false] else z, w, ha, Le.refl _, h, ?_, ?_⟩
              · cases ok
                · exact zero_vr hz
                · exact VR.tuple_of (.cons (zero_vr hz) (.cons (.bool false) .nil))
              · exact hlook _ hr' _ (by simp [run_zeroT hz])
            · cases ha
          · cases h1
  · cases ha

theorem heap_put_same {j : Nat} {o o' : Obj} (h : w.heap[j]? = some o) : ({ w with heap := w.heap.setIfInBounds j o' } : World).heap[j]? = some o' := by
  have := (Array.getElem?_eq_some_iff.1 h).1
  simp [this]

theorem heap_put_other {j k : Nat} {o' : Obj} (h : k ≠ j) : ({ w with heap := w.heap.setIfInBounds j o' } : World).heap[k]? = w.heap[k]? := by
  simp [Ne.symm h]

theorem HR.put (h : HR P ρ H B w0 w) {i j : Nat} {x : Ent} {H' : AHeap} {o : AObj} {o1 o' : Obj} (hx : ρ[i]? = some (some x)) (hb : x.b = j) (hw : w.heap[j]? = some o1) (hn : H'.n = H.n) (hg : ∀ q, H'.get q = if q = i then o else H.get q)
    (ho : OR P ρ o x o') (hei : isExt (H.get i) = false) (heo : isExt o = false := by rfl) : HR P ρ H' B w0 { w with heap := w.heap.setIfInBounds j o' } := by
  subst hb
  exact h.set hx hn hg ho (heap_put_same hw) (fun k hk => heap_put_other hk) (by simp) rfl rfl rfl hei heo

theorem setE_vl {es es' : List MapEntry} {g g' : MapEntry → MapEntry} (h : L2 (ME P ρ) es es') (hg : ∀ a b, ME P ρ a b → ME P ρ (g a) (g' b)) : ∀ j, L2 (ME P ρ) (setE es j g) (es'.modify j g') := by
  induction h with
  | nil => intro j; cases j <;> exact .nil
  | cons hab hl ih =>
    intro j
    cases j with
    | zero => exact .cons (hg _ _ hab) hl
    | succ j => exact .cons hab (ih j)

theorem run_stays {kt : TypeId} {key : Value} (h : keyT P kt key = true) : (Instr.keyThatStays key key).run P w = .ok key w := by
  have : Instr.sameBits 10000 key key = true := by
    rcases keyT_cases h with ⟨q, n, _, rfl⟩ | ⟨s, _, rfl⟩ | ⟨b, _, rfl⟩ | ⟨_, _, _, _, _, _, _, _, _, _, hk⟩
    · simp [Instr.sameBits]
    · simp [Instr.sameBits, ba_refl]
    · simp [Instr.sameBits]
    · rw [hk.key]; simp [Instr.sameBits]
  simp [Instr.keyThatStays, this]

theorem aMapUpdate_ok {β : Type} {k : K β} {r : β} {t : TypeId} {m m' i i' x x' : Value} (h : HR P ρ H B w0 w) (hm : VR P ρ m m') (hi : VR P ρ i i') (hx : VR P ρ x x') (ha : aMapUpdate P t m i x H k = some r) :
    GotU P ρ B w0 w k r (Instr.mapUpdate t m' i' x') := by
  unfold aMapUpdate at ha
  split at ha
  · rename_i kt e rr hmt
    split at ha
    · cases ha
    · rename_i hkey
      have hkey : keyT P kt i = true := by simpa using hkey
      have hu := map_underlying hmt
      have hii := keyT_same hkey hi
      subst hii
      cases hm with
      | map hir =>
        rename_i r'
        split at ha
        · rename_i es clock hg
          obtain ⟨y, es', hy, hyb, hw, hl⟩ := map_at h hir hg
          obtain ⟨d, hd⟩ := keyT_under hkey
          split at ha
          · cases ha
          · rename_i j v hf
            obtain ⟨q', hq', hcase⟩ := findE_ok hkey hd hl hf
            rcases hcase with ⟨h1, _⟩ | ⟨j', v', e', h1, rfl, hv, hej, hek, _⟩
            · cases h1
            · simp only [Option.some.injEq, Prod.mk.injEq, Nat.zero_add] at h1 hej hq'
              obtain ⟨rfl, rfl⟩ := h1
              rw [forceV_spec] at ha
              obtain ⟨H', hk, hn, hg'⟩ := AHeap.set_spec ha
              have hej' : es'[j]? = some e' := by simpa using hej
              refine ⟨H', ρ, _, hk, Le.refl _, h.put hy hyb hw hn hg' (.map (k := clock) (es' := es'.modify j fun e => { e with key := i', val := x' }) ?_) (by rw [hg]; rfl), ?_⟩
              · rw [Array.toList_modify]
                exact setE_vl (g := fun e => { e with key := i', val := x }) (g' := fun e => { e with key := i', val := x' }) hl (fun a b hab => ⟨hi, hx, hab.2.2⟩) j
              · simp only [Instr.mapUpdate, Sem.run_bind, run_underlying hu, Result.andThen_ok, run_getObj_map hw, run_checkKey hkey, run_findKey hd hq', hej', Option.map_some, Option.getD_some, hek, run_stays hkey, run_setObj_map _ hw]
          · rename_i hf
            obtain ⟨q', hq', hcase⟩ := findE_ok hkey hd hl hf
            rcases hcase with ⟨_, rfl⟩ | ⟨j', v', e', h1, _⟩
            · rw [forceV_spec, forceV_spec] at ha
              obtain ⟨H', hk, hn, hg'⟩ := AHeap.set_spec ha
              refine ⟨H', ρ, _, hk, Le.refl _, h.put hy hyb hw hn hg' (.map (k := clock + 1) (es' := es'.push { key := i', val := x', born := clock }) ?_) (by rw [hg]; rfl), ?_⟩
              · rw [Array.toList_push]
                exact hl.append (.cons ⟨hi, hx, rfl⟩ .nil)
              · simp only [Instr.mapUpdate, Sem.run_bind, run_underlying hu, Result.andThen_ok, run_getObj_map hw, run_checkKey hkey, run_findKey hd hq', run_setObj_map _ hw]
            · cases h1
        · cases ha
  · cases ha

theorem L2.eraseIdx {α β : Type} {R : α → β → Prop} {l : List α} {l' : List β} (h : L2 R l l') : ∀ j, L2 R (l.eraseIdx j) (l'.eraseIdx j) := by
  induction h with
  | nil => intro j; cases j <;> exact .nil
  | cons hab hl ih =>
    intro j
    cases j with
    | zero => exact hl
    | succ j => exact .cons hab (ih _)

theorem aDelete_ok {β : Type} {k : K β} {r : β} {t ty : TypeId} {ts : Array TypeId} (h0 : ts[0]? = some t) {m m' i i' : Value} (h : HR P ρ H B w0 w) (hm : VR P ρ m m') (hi : VR P ρ i i') (ha : aDelete P t m i H k = some r) :
    Got P ρ B w0 w k r (Builtin.delete_ ts ty #[m', i']) := by
  unfold aDelete at ha
  split at ha
  · rename_i kt e rr hmt
    split at ha
    · cases ha
    · rename_i hkey
      have hkey : keyT P kt i = true := by simpa using hkey
      have hu := map_underlying hmt
      have hii := keyT_same hkey hi
      subst hii
      cases hm with
      | map hir =>
        rename_i r'
        split at ha
        · rename_i es clock hg
          obtain ⟨y, es', hy, hyb, hw, hl⟩ := map_at h hir hg
          obtain ⟨d, hd⟩ := keyT_under hkey
          split at ha
          · cases ha
          · rename_i j v hf
            obtain ⟨q', hq', hcase⟩ := findE_ok hkey hd hl hf
            rcases hcase with ⟨h1, _⟩ | ⟨j', v', e', h1, rfl, hv, hej, hek, _⟩
            · cases h1
            · simp only [Option.some.injEq, Prod.mk.injEq, Nat.zero_add] at h1 hej hq'
              obtain ⟨rfl, rfl⟩ := h1
              obtain ⟨H', hk, hn, hg'⟩ := AHeap.set_spec ha
              refine ⟨_, H', ρ, .tuple #[], _, hk, Le.refl _, h.put hy hyb hw hn hg' (.map (k := clock) (es' := es'.eraseIdxIfInBounds j) ?_) (by rw [hg]; rfl), VR.undef, ?_⟩
              · have : (es'.eraseIdxIfInBounds j).toList = es'.toList.eraseIdx j := by
                  unfold Array.eraseIdxIfInBounds
                  split
                  · simp
                  · rw [List.eraseIdx_of_length_le (by simp; omega)]
                rw [this]
                exact L2.eraseIdx hl j
              · simp [Builtin.delete_, h0, run_underlying hu, run_getObj_map hw, run_checkKey hkey, run_findKey hd hq', run_setObj_map _ hw]
          · rename_i hf
            obtain ⟨q', hq', hcase⟩ := findE_ok hkey hd hl hf
            rcases hcase with ⟨_, rfl⟩ | ⟨j', v', e', h1, _⟩
            · refine ⟨_, H, ρ, .tuple #[], { w with heap := w.heap.setIfInBounds r' (.map es' clock) }, ha, Le.refl _, h.put hy hyb hw rfl (fun q => by by_cases hq : q = rr <;> simp [hq, hg]) (.map hl) (by rw [hg]; rfl), VR.undef, ?_⟩
              simp [Builtin.delete_, h0, run_underlying hu, run_getObj_map hw, run_checkKey hkey, run_findKey hd hq', run_setObj_map _ hw]
            · cases h1
        · cases ha
  · cases ha
end
end Go.Am
namespace Go.Am
open Go.RowKit

section
variable {P : Program} {ρ : Ren} {H : AHeap} {B : Nat} {w0 w : World}

theorem newP_obj {β : Type} {k : K β} {r : β} (h : HR P ρ H B w0 w) {o : AObj} {o' : Obj} (ho : ∀ x : Ent, x.keep = false → x.lp = none → OR P ρ o x o') (ha : newP H o k = some r) (heo : isExt o = false := by rfl) :
    ∃ v H' ρ' v', k v H' = some r ∧ Le ρ ρ' ∧ HR P ρ' H' B w0 (w.alloc o') ∧ VR P ρ' v v' ∧ v' = .pointer (some ⟨w.heap.size, 0, none⟩) := by
  obtain ⟨H', hk, hn, hg⟩ := AHeap.new_spec ha
  have hle := Le.append ρ [some (⟨w.heap.size, 0, 0, false, none⟩ : Ent)]
  have hx : (ρ ++ [some (⟨w.heap.size, 0, 0, false, none⟩ : Ent)])[H.n]? = some (some ⟨w.heap.size, 0, 0, false, none⟩) := by rw [← h.len]; simp
  exact ⟨_, H', _, .pointer (some ⟨w.heap.size, 0, none⟩), hk, hle, h.new rfl hn hg ((ho _ rfl rfl).mono hle) heo, .ptr rfl rfl rfl (ir_of hx rfl), rfl⟩

theorem makeMap_ok {β : Type} {k : K β} {r : β} {t : TypeId} (h : HR P ρ H B w0 w) (ha : H.new (.map [] 0) (fun b H' => k (.map (some b)) H') = some r) :
    Got P ρ B w0 w k r (Instr.makeMap t none) := by
  obtain ⟨H', hk, hn, hg⟩ := AHeap.new_spec ha
  have hle := Le.append ρ [some (⟨w.heap.size, 0, 0, false, none⟩ : Ent)]
  have hx : (ρ ++ [some (⟨w.heap.size, 0, 0, false, none⟩ : Ent)])[H.n]? = some (some ⟨w.heap.size, 0, 0, false, none⟩) := by rw [← h.len]; simp
  exact ⟨_, H', _, .map (some w.heap.size), _, hk, hle, h.new (o' := .map #[] 0) rfl hn hg (.map .nil), .map (ir_of hx rfl), by simp [Instr.makeMap]⟩

theorem aRange_ok {β : Type} {k : K β} {r : β} {t : TypeId} {x x' : Value} (h : HR P ρ H B w0 w) (hx : VR P ρ x x') (ha : aRange P t x H k = some r) : Got P ρ B w0 w k r (Instr.range t x') := by
  unfold aRange at ha
  split at ha
  · rename_i s hu
    cases hx
    obtain ⟨v, H', ρ', v', hk, hle, hr, hv, rfl⟩ := newP_obj (o' := .stringIter s 0) h (fun x _ _ => .siter) ha
    exact ⟨v, H', ρ', _, _, hk, hle, hr, hv, by simp [Instr.range, run_underlying hu]⟩
  · rename_i a b hu
    cases hx
    obtain ⟨v, H', ρ', v', hk, hle, hr, hv, rfl⟩ := newP_obj (o' := .mapIter none 0 #[] 0) h (fun x _ _ => .iter0 rfl) ha
    exact ⟨v, H', ρ', _, _, hk, hle, hr, hv, by simp [Instr.range, run_underlying hu]⟩
  · rename_i a b m hu
    split at ha
    · rename_i es clock hg
      cases hx with
      | map hir =>
        rename_i m'
        obtain ⟨_, es', _, _, hw, _⟩ := map_at h hir hg
        obtain ⟨v, H', ρ', v', hk, hle, hr, hv, rfl⟩ := newP_obj (o' := .mapIter (some m') clock #[] clock) h (fun x _ _ => .iter hir rfl) ha
        exact ⟨v, H', ρ', _, _, hk, hle, hr, hv, by simp [Instr.range, run_underlying hu, run_getObj_map hw]⟩
    · cases ha
  · cases ha

theorem aNextS_ok {β : Type} {k : K β} {r : β} {t : TypeId} {x x' : Value} (h : HR P ρ H B w0 w) (hx : VR P ρ x x') (ha : aNextS x H k = some r) : Got P ρ B w0 w k r (Instr.next x' true t) := by
  unfold aNextS at ha
  split at ha
  · rename_i q sp
    cases hx with
    | ptr hs hs' ho hb =>
      rename_i a'
      split at ha
      · rename_i s pos hg
        obtain ⟨y, o', hy, hyb, hw, hor, _⟩ := h.at hb (by simp only; rw [hg]; simp) (by simp only; rw [hg]; rfl)
        simp only at hy hor
        rw [hg] at hor
        cases hor
        have hget : (getObj a'.block).run P w = .ok (.stringIter s pos) w := by simp [getObj, Sem.run, hw]
        have ha0 : a' = ⟨a'.block, 0, none⟩ := by rw [addr_eq hs']; simp at ho; simp [ho]
        split at ha
        · rename_i hlt
          rw [forceN_spec] at ha
          obtain ⟨H', hk, hn, hg'⟩ := AHeap.set_spec ha
          refine ⟨_, H', ρ, .tuple #[.bool true, goInt pos, .int .i32 (Utf8.decode s pos).1], _, hk, Le.refl _, h.put hy hyb hw hn hg' (.siter (s := s) (k := pos + (Utf8.decode s pos).2)) (by rw [hg]; rfl), VR.tuple_of (.cons (.bool true) (.cons (.int _ _) (.cons (.int _ _) .nil))), ?_⟩
          rw [ha0]
          have hset : ∀ o, (setObj a'.block o).run P w = .ok () { w with heap := w.heap.setIfInBounds a'.block o } := fun o => by simp [setObj, Sem.run, hw]
          simp [Instr.next, hget, hlt, hset]
        · rename_i hlt
          refine ⟨_, H, ρ, .tuple #[.bool false], w, ha, Le.refl _, h, VR.tuple_of (.cons (.bool false) .nil), ?_⟩
          rw [ha0]
          simp [Instr.next, hget, hlt]
      · cases ha
  · cases ha

theorem iter_at (h : HR P ρ H B w0 w) {i j : Nat} (hi : IR ρ i j) {m a b : Nat} {seen : List Nat} (hg : H.get i = .iter (some m) a seen b) :
    ∃ x m' seen', ρ[i]? = some (some x) ∧ x.b = j ∧ w.heap[j]? = some (.mapIter (some m') a seen' b) ∧ IR ρ m m' ∧ seen'.toList = seen := by
  obtain ⟨x, o', hx, hb, ho, hor, _⟩ := h.at hi (by rw [hg]; simp) (by rw [hg]; rfl)
  rw [hg] at hor
  cases hor with
  | iter hm hs => exact ⟨x, _, _, hx, hb, ho, hm, hs⟩

theorem find_born {es es' : List MapEntry} {n : Nat} {e : MapEntry} (h : L2 (ME P ρ) es es') (hf : es.find? (·.born == n) = some e) : ∃ e', es'.find? (·.born == n) = some e' ∧ ME P ρ e e' := by
  induction h with
  | nil => simp at hf
  | cons hab hl ih =>
    rename_i a b _ _
    have hb0 : a.born = b.born := hab.2.2
    cases hb : (a.born == n) with
    | true =>
      simp only [List.find?_cons, hb] at hf
      cases hf
      exact ⟨b, by simp only [List.find?_cons, ← hb0, hb], hab⟩
    | false =>
      simp only [List.find?_cons, hb] at hf
      simp only [List.find?_cons, ← hb0, hb]
      exact ih hf

theorem aEntry_ok {β : Type} {k : K β} {r : β} {x x' : Value} (h : HR P ρ H B w0 w) (hx : VR P ρ x x') (ha : aEntry x H k = some r) : Got P ρ B w0 w k r (Instr.entry x') := by
  unfold aEntry at ha
  split at ha
  · rename_i q sp
    cases hx with
    | ptr hs hs' ho hb =>
      rename_i a'
      have ha0 : a' = ⟨a'.block, 0, none⟩ := by rw [addr_eq hs']; simp at ho; simp [ho]
      split at ha
      · rename_i m since seen last hg
        obtain ⟨y, m', seen', hy, hyb, hw, hmr, hseen⟩ := iter_at h hb hg
        split at ha
        · rename_i stamp es clock hst hgm
          split at ha
          · cases ha
          · rename_i hcl
            simp only [ne_eq, Decidable.not_not] at hcl
            subst hcl
            split at ha
            · rename_i e hf
              obtain ⟨_, es', _, _, hwm, hl⟩ := map_at h hmr hgm
              obtain ⟨e', hf', hme⟩ := find_born hl hf
              refine ⟨_, H, ρ, .tuple #[e'.key, e'.val], w, ha, Le.refl _, h, VR.tuple_of (.cons hme.1 (.cons hme.2.1 .nil)), ?_⟩
              rw [ha0]
              have hget : (getObj a'.block).run P w = .ok (.mapIter (some m') since seen' clock) w := by simp [getObj, Sem.run, hw]
              have hback : seen'.back? = some stamp := by rw [← Array.getLast?_toList, hseen]; exact hst
              have hfa : es'.find? (·.born == stamp) = some e' := by rw [← Array.find?_toList]; exact hf'
              simp [Instr.entry, hget, hback, run_getObj_map hwm, hfa]
            · cases ha
        · cases ha
      · cases ha
  · cases ha

theorem aLen_ok {β : Type} {k : K β} {r : β} {t ty : TypeId} {ts : Array TypeId} (h0 : ts[0]? = some t) {x x' : Value} {other : Unit → Option β} (h : HR P ρ H B w0 w) (hx : VR P ρ x x') (ha : aLen P t x H k other = some r) :
    Got P ρ B w0 w k r (Builtin.len_ ts ty #[x']) ∨ other () = some r := by
  unfold aLen at ha
  split at ha
  · rename_i e a n c hu
    refine .inl ⟨_, H, ρ, goInt n, w, ha, Le.refl _, h, .int _ _, ?_⟩
    cases hx <;> simp [Builtin.len_, h0, run_underlying hu]
  · rename_i a b m hu
    split at ha
    · rename_i es kk hg
      cases hx with
      | map hir =>
        obtain ⟨_, es', _, _, hw, hl⟩ := map_at h hir hg
        refine .inl ⟨_, H, ρ, goInt es.length, w, ha, Le.refl _, h, .int _ _, ?_⟩
        have : es'.size = es.length := by rw [hl.length]; simp
        simp [Builtin.len_, h0, run_underlying hu, run_getObj_map hw, this]
    · cases ha
  · exact .inr ha

theorem aNilCheck_ok {β : Type} {k : K β} {r : β} {x x' : Value} {other : Unit → Option β} (hx : VR P ρ x x') (ha : aNilCheck x H k other = some r) :
    (∃ a', x' = .pointer (some a') ∧ k x H = some r) ∨ other () = some r := by
  unfold aNilCheck at ha
  split at ha
  · cases hx; exact .inl ⟨_, rfl, ha⟩
  · exact .inr ha
end
end Go.Am
namespace Go.Am
open Go.RowKit

section
variable {P : Program} {ρ : Ren} {H : AHeap} {B : Nat} {w0 w : World}

theorem aClear_ok {β : Type} {k : K β} {r : β} {t ty : TypeId} {ts : Array TypeId} (h0 : ts[0]? = some t) {x x' : Value} (h : HR P ρ H B w0 w) (hx : VR P ρ x x') (ha : aClear P t x H k = some r) :
    Got P ρ B w0 w k r (Builtin.clear_ ts ty #[x']) := by
  unfold aClear at ha
  split at ha
  · rename_i e base n c he
    have hu := elem_underlying he
    split at ha
    · rename_i hn0
      subst hn0
      refine ⟨_, H, ρ, .tuple #[], w, ha, Le.refl _, h, VR.undef, ?_⟩
      cases hx <;> simp [Builtin.clear_, h0, run_underlying hu]
    · rename_i hn0
      split at ha
      · rename_i size z hsz hz
        split at ha
        · cases ha
        · rename_i a
          split at ha
          · cases ha
          · rename_i hc
            simp only [not_or, ne_eq, Decidable.not_not, Bool.not_eq_true, Option.isSome_eq_false_iff, Option.isNone_iff_eq_none] at hc
            cases hx with
            | sliceX h' => rw [hc.1] at h'; cases h'
            | sliceE h' => exact absurd rfl hn0
            | slice hs hs' ho hb hn hcc hf =>
              rename_i a' c'
              obtain ⟨H', hk, w', hrun, hr⟩ := storeAt_ok h hb (repl_vl (zero_cells (ρ := ρ) hz) n) ha
              refine ⟨_, H', ρ, .tuple #[], w', hk, Le.refl _, hr, VR.undef, ?_⟩
              rw [← ho, ← addr_eq hs'] at hrun
              have hzc : (Builtin.zeroCells z.cells n).toList = (List.range (n * z.cells.size)).map (fun i => z.cells[i % z.cells.size]!) := by simp [Builtin.zeroCells]
              rw [← hzc] at hrun
              cases n with
              | zero => exact absurd rfl hn0
              | succ n => simp [Builtin.clear_, h0, run_underlying hu, run_zeroT hz, hrun]
      · cases ha
  · cases ha

theorem slice_parts {base : Option Addr} {n c : Nat} {v' : Value} (h : VR P ρ (.slice base n c) v') :
    ∃ b' c', v' = .slice b' n c' ∧ (n = 0 ∨ ∃ a a', base = some a ∧ b' = some a' ∧ a'.spot = none ∧ a'.off = a.off ∧ IR ρ a.block a'.block) := by
  cases h with
  | snil => exact ⟨_, _, rfl, .inl rfl⟩
  | slice _ h' ho hb _ _ _ => exact ⟨_, _, rfl, .inr ⟨_, _, rfl, rfl, h', ho, hb⟩⟩
  | sliceX _ h' ho hb _ => exact ⟨_, _, rfl, .inr ⟨_, _, rfl, rfl, h', ho, hb⟩⟩
  | sliceE _ => exact ⟨_, _, rfl, .inl rfl⟩

theorem aCopy_ok {β : Type} {k : K β} {r : β} {t ty : TypeId} {ts : Array TypeId} (h0 : ts[0]? = some t) {d d' x x' : Value} (h : HR P ρ H B w0 w) (hd : VR P ρ d d') (hx : VR P ρ x x') (ha : aCopy P t d x H k = some r) :
    Got P ρ B w0 w k r (Builtin.copy_ ts ty #[d', x']) := by
  unfold aCopy at ha
  split at ha
  · rename_i e base n c src m c2 he
    have hu := elem_underlying he
    obtain ⟨b', c', rfl, hdp⟩ := slice_parts hd
    obtain ⟨s', c2', rfl, hxp⟩ := slice_parts hx
    split at ha
    · rename_i size hsz
      obtain ⟨i, hi, his⟩ : ∃ i, P.info? e = some i ∧ i.size = size := by
        simp only [szT, Option.map_eq_some_iff] at hsz; exact hsz
      split at ha
      · rename_i hq
        refine ⟨goInt (Nat.min m n), H, ρ, goInt (Nat.min m n), w, ha, Le.refl _, h, (show VR P ρ (goInt _) (goInt _) from .int .i64 _), ?_⟩
        have hl : ∀ (x : Addr), (loadCells x 0).run P w = .ok #[] w := fun x => by simp [loadCells, loadCellsFrom]
        have hq' : min m n = 0 := hq
        cases b' <;> cases s' <;> simp [Builtin.copy_, h0, run_underlying hu, Builtin.lenOf, Builtin.firstCells, sizeOf, typeInfo, hi, hq, hq', hl, storeCells]
      · rename_i hq
        have hm0 : m ≠ 0 := fun e => hq (by rw [e]; exact Nat.zero_min _)
        have hn0 : n ≠ 0 := fun e => hq (by rw [e]; exact Nat.min_zero _)
        split at ha
        · rename_i b a
          split at ha
          · rename_i l hl
            obtain ⟨_, bb, hb1, rfl, hb2, hb3, hb4⟩ := hdp.resolve_left hn0
            cases hb1
            obtain ⟨_, aa, ha1, rfl, ha2, ha3, ha4⟩ := hxp.resolve_left hm0
            cases ha1
            obtain ⟨l', hlen, hv, hcell⟩ := cells_spec h ha4 ha3 ha2 hl
            obtain ⟨H', hk, w', hrun, hr⟩ := storeAt_ok h hb4 hv ha
            refine ⟨goInt (Nat.min m n), H', ρ, goInt (Nat.min m n), w', hk, Le.refl _, hr, (show VR P ρ (goInt _) (goInt _) from .int .i64 _), ?_⟩
            rw [← hb3, ← addr_eq hb2] at hrun
            have hf := run_firstCells_some (P := P) (w := w) size (Nat.min m n) aa m c2' l' hlen hcell
            simp [Builtin.copy_, h0, run_underlying hu, Builtin.lenOf, sizeOf, typeInfo, hi, his, hf, hrun]
          · cases ha
        · cases ha
    · cases ha
  · cases ha


def GotM (P : Program) (ρ : Ren) (B : Nat) (w0 w : World) (k : K (List Out)) (r : List Out) (s : Sem Value) : Prop :=
  ∃ v H' ρ' v' w' r', k v H' = some r' ∧ (∀ x ∈ r', x ∈ r) ∧ Le ρ ρ' ∧ HR P ρ' H' B w0 w' ∧ VR P ρ' v v' ∧ s.run P w = .ok v' w'

theorem bindO_mem {α β : Type} : ∀ {l : List α} {f : α → Option (List β)} {r : List β}, bindO l f = some r → ∀ a ∈ l, ∃ r', f a = some r' ∧ ∀ x ∈ r', x ∈ r
  | [], _, _, _, _, ha => by cases ha
  | x :: xs, f, r, h, a, ha => by
    simp only [bindO] at h
    split at h
    · cases h
    · rename_i l hl
      split at h
      · cases h
        cases ha with
        | head => exact ⟨_, hl, fun _ h => h⟩
        | tail _ h => cases h
      · split at h
        · cases h
        · rename_i l' hl'
          cases h
          cases ha with
          | head => exact ⟨l, hl, fun y hy => List.mem_append_left _ hy⟩
          | tail _ ha =>
            obtain ⟨r', h1, h2⟩ := bindO_mem hl' a ha
            exact ⟨r', h1, fun y hy => List.mem_append_right _ (h2 y hy)⟩

theorem filter_vl {es es' : List MapEntry} {p : Nat → Bool} (h : L2 (ME P ρ) es es') : L2 (ME P ρ) (es.filter fun e => p e.born) (es'.filter fun e => p e.born) := by
  induction h with
  | nil => exact .nil
  | cons hab hl ih =>
    rename_i a b _ _
    simp only [List.filter_cons]
    rw [← hab.2.2]
    split
    · exact .cons hab ih
    · exact ih

theorem aNext_ok {k : K (List Out)} {r : List Out} {t : TypeId} {x x' : Value} (h : HR P ρ H B w0 w) (hx : VR P ρ x x') (ha : aNext x H k = some r) : GotM P ρ B w0 w k r (Instr.next x' false t) := by
  unfold aNext at ha
  split at ha
  · rename_i q sp
    cases hx with
    | ptr hs hs' ho hb =>
      rename_i a'
      have ha0 : a' = ⟨a'.block, 0, none⟩ := by rw [addr_eq hs']; simp at ho; simp [ho]
      split at ha
      · rename_i s1 s2 s3 hg
        obtain ⟨y, o', hy, hyb, hw, hor, _⟩ := h.at hb (by simp only; rw [hg]; simp) (by simp only; rw [hg]; rfl)
        simp only at hy hor
        rw [hg] at hor
        cases hor
        refine ⟨_, H, ρ, .tuple #[.bool false], w, r, ha, fun _ h => h, Le.refl _, h, VR.tuple_of (.cons (.bool false) .nil), ?_⟩
        rw [ha0]
        simp [Instr.next, getObj, Sem.run, hw]
      · rename_i m since seen last hg
        obtain ⟨y, m', seen', hy, hyb, hw, hmr, hseen⟩ := iter_at h hb hg
        simp only at hy
        split at ha
        · rename_i es clock hgm
          split at ha
          · rename_i hcond
            simp only [Bool.and_eq_true, List.all_eq_true, decide_eq_true_eq] at hcond
            obtain ⟨hborn, hsl⟩ := hcond
            obtain ⟨_, es', _, _, hwm, hl⟩ := map_at h hmr hgm
            have hborn' : ∀ e ∈ es'.toList, e.born < since := by
              intro e he
              obtain ⟨i, hi, hie⟩ := List.mem_iff_getElem.1 he
              obtain ⟨a, ha', hme⟩ := hl.get' (i := i) (b := e) (by rw [List.getElem?_eq_getElem hi, hie])
              rw [← hme.2.2]; exact hborn a (List.mem_of_getElem? ha')
            have hget : (getObj a'.block).run P w = .ok (.mapIter (some m') since seen' last) w := by simp [getObj, Sem.run, hw]
            have hgetm : (getObj m').run P w = .ok (.map es' clock) w := run_getObj_map hwm
            have hset : ∀ (w1 : World) o, w1.heap = w.heap → (setObj a'.block o).run P w1 = .ok () { w1 with heap := w1.heap.setIfInBounds a'.block o } := fun w1 o h1 => by simp [setObj, Sem.run, h1, hw]
            -- no new entries
            have hcont : ∀ n, seen'.contains n = seen.contains n := by
              intro n; rw [← hseen]; simp [Array.contains_toList]
            have hleft := filter_vl (p := fun n => !seen.contains n) hl
            have hguard : (!seen'.isEmpty && !es'.isEmpty && es'.all (·.born ≥ last)) = false := by
              cases hes : es'.toList with
              | nil => have : es' = #[] := by apply Array.ext'; simpa using hes
                       simp [this]
              | cons e rest =>
                have he := hborn' e (by rw [hes]; exact List.mem_cons_self ..)
                have : es'.all (·.born ≥ last) = false := by
                  rw [Bool.eq_false_iff]
                  intro hall
                  rw [Array.all_eq_true_iff_forall_mem] at hall
                  have := hall e (by rw [Array.mem_def, hes]; exact List.mem_cons_self ..)
                  simp at this; omega
                simp [this]
            have hL : (es'.filter fun e => !seen'.contains e.born).toList = es'.toList.filter fun e => !seen.contains e.born := by
              rw [Array.toList_filter]
              congr 1; funext e; rw [hcont]
            have hold : (es'.filter fun e => !seen'.contains e.born).filter (·.born < since) = (es'.filter fun e => !seen'.contains e.born) := by
              apply Array.ext'
              rw [Array.toList_filter, hL, List.filter_eq_self]
              intro e he
              simpa using hborn' e (List.mem_filter.1 he).1
            have hnew : (es'.filter fun e => !seen'.contains e.born).filter (·.born ≥ since) = #[] := by
              apply Array.ext'
              rw [Array.toList_filter, hL, List.filter_eq_nil_iff]
              intro e he
              have := hborn' e (List.mem_filter.1 he).1
              simp; omega
            generalize hQ : es'.toList.filter (fun e => !seen.contains e.born) = Q at hL hleft
            have harr : (es'.filter fun e => !seen'.contains e.born) = Q.toArray := by apply Array.ext'; simpa using hL
            rw [harr] at hold hnew
            rw [ha0]
            have hstart : ∀ (i : Nat) (w1 : World), w1.heap = w.heap → ∀ res, (choose (.mapNext ((if Q.toArray.isEmpty = true then #[none] else #[]) ++ Array.map some (Q.toArray ++ #[])).size)).run P w = .ok i w1 →
                (match ((if Q.toArray.isEmpty = true then #[none] else #[]) ++ Array.map some (Q.toArray ++ #[]))[i]? with
                  | some (some e) => do
                    setObj a'.block (.mapIter (some m') since (seen'.push e.born) clock)
                    pure (.tuple #[.bool true, e.key, e.val])
                  | some none => pure (.tuple #[.bool false])
                  | none => stuck "Next: no such candidate" : Sem Value).run P w1 = res →
                (Instr.next (.pointer (some ⟨a'.block, 0, none⟩)) false t).run P w = res := by
              intro i w1 _ res h1 h2
              simp only [Instr.next, Sem.run_bind, hget, hgetm, Result.andThen_ok, hguard, Bool.false_eq_true, if_false, harr, hold, hnew]
              rw [h1]
              exact h2
            cases Q with
            | nil =>
              have hnil : (es.filter fun e => !seen.contains e.born) = [] := List.eq_nil_of_length_eq_zero (by simpa using hleft.length)
              rw [hnil] at ha
              refine ⟨_, H, ρ, .tuple #[.bool false], w, r, ha, fun _ h => h, Le.refl _, h, VR.tuple_of (.cons (.bool false) .nil), ?_⟩
              exact hstart 0 w rfl _ (by simp [Question.forced]) (by simp)
            | cons e0 rest =>
              have hchoose : ∃ i w1, i < (e0 :: rest).length ∧ (w1 = w ∨ w1 = w.drew) ∧ (choose (.mapNext ((if (e0 :: rest).toArray.isEmpty = true then #[none] else #[]) ++ Array.map some ((e0 :: rest).toArray ++ #[])).size)).run P w = .ok i w1 := by
                have hsize : ((if (e0 :: rest).toArray.isEmpty = true then (#[none] : Array (Option MapEntry)) else #[]) ++ Array.map some ((e0 :: rest).toArray ++ #[])).size = (e0 :: rest).length := by simp
                rw [hsize, run_choose]
                split
                · exact ⟨0, w, by simp, .inl rfl, rfl⟩
                · exact ⟨_, w.drew, Nat.mod_lt _ (by simp), .inr rfl, rfl⟩
              obtain ⟨i, w1, hilt, hw1, hch⟩ := hchoose
              have hheap : w1.heap = w.heap := by rcases hw1 with rfl | rfl <;> rfl
              have hHR : HR P ρ H B w0 w1 := by rcases hw1 with rfl | rfl; exact h; exact h.drew
              obtain ⟨e, he, hme⟩ := hleft.get' (i := i) (b := (e0 :: rest)[i]) (List.getElem?_eq_getElem hilt)
              have hne : (es.filter fun e => !seen.contains e.born) ≠ [] := by
                intro h0; rw [h0] at hleft; cases hleft
              have ha' : bindO (es.filter fun e => !seen.contains e.born) (fun e => H.set q (.iter (some m) since (seen ++ [e.born]) clock) fun H' => k (.tuple #[.bool true, e.key, e.val]) H') = some r := by
                split at ha
                · rename_i h0; exact absurd h0 hne
                · exact ha
              obtain ⟨r', hr', hsub⟩ := bindO_mem ha' e (List.mem_of_getElem? he)
              obtain ⟨H', hk, hn, hg'⟩ := AHeap.set_spec hr'
              have hw' : w1.heap[a'.block]? = some (.mapIter (some m') since seen' last) := by rw [hheap]; exact hw
              refine ⟨_, H', ρ, .tuple #[.bool true, ((e0 :: rest)[i]).key, ((e0 :: rest)[i]).val], _, r', hk, hsub, Le.refl _,
                hHR.put hy hyb hw' hn hg' (.iter (seen' := seen'.push ((e0 :: rest)[i]).born) hmr (by rw [Array.toList_push, hseen, hme.2.2])) (by rw [hg]; rfl), VR.tuple_of (.cons (.bool true) (.cons hme.1 (.cons hme.2.1 .nil))), ?_⟩
              refine hstart i w1 hheap _ hch ?_
              have hcand : ((if (e0 :: rest).toArray.isEmpty = true then (#[none] : Array (Option MapEntry)) else #[]) ++ Array.map some ((e0 :: rest).toArray ++ #[]))[i]? = some (some (e0 :: rest)[i]) := by
                have h1 : ((e0 :: rest).toArray)[i]? = some (e0 :: rest)[i] := by simp [List.getElem?_eq_getElem hilt]
                simp only [List.isEmpty_toArray, List.isEmpty_cons, Bool.false_eq_true, if_false, Array.append_empty, Array.empty_append, Array.getElem?_map, h1, Option.map_some]
              rw [hcand]
              simp [hset w1 _ hheap]
          · cases ha
        · cases ha
      · cases ha
  · cases ha
end
end Go.Am
namespace Go.Am
open Go.RowKit

section
variable {P : Program} {ρ : Ren} {H : AHeap} {B : Nat} {w0 w : World}

def GotN {β : Type} (P : Program) (ρ : Ren) (B : Nat) (w0 w : World) (k : K β) (r : β) (s : Sem Next) : Prop :=
  ∃ v H' ρ' v' w', k v H' = some r ∧ Le ρ ρ' ∧ HR P ρ' H' B w0 w' ∧ VR P ρ' v v' ∧ (s.run P w = .ok (.value v') w' ∨ (s.run P w = .ok .skip w' ∧ v' = undef))

theorem Got.n {β : Type} {k : K β} {r : β} {s : Sem Value} {s' : Sem Next} (h : Got P ρ B w0 w k r s) (he : s' = (do pure (.value (← s)))) : GotN P ρ B w0 w k r s' := by
  obtain ⟨v, H', ρ', v', w', h1, h2, h3, h4, h5⟩ := h
  subst he
  exact ⟨v, H', ρ', v', w', h1, h2, h3, h4, .inl (by simp [h5])⟩

theorem GotU.n {β : Type} {k : K β} {r : β} {s : Sem Unit} {s' : Sem Next} (h : GotU P ρ B w0 w k r s) (he : s' = (do s; pure .skip)) : GotN P ρ B w0 w k r s' := by
  obtain ⟨H', ρ', w', h1, h2, h3, h4⟩ := h
  subst he
  exact ⟨undef, H', ρ', undef, w', h1, h2, h3, VR.undef, .inr ⟨by simp [h4], rfl⟩⟩

theorem aPlain_ok {β : Type} {k : K β} {r : β} {o : Oper} {ev ev' : Operand → Value} (h : HR P ρ H B w0 w) (he : ∀ x, VR P ρ (ev x) (ev' x)) (ha : aPlain P o ev H k = some r) : GotN P ρ B w0 w k r (execOp ev' o) := by
  unfold aPlain at ha
  split at ha
  · rename_i hc
    simp only [Bool.and_eq_true, List.all_eq_true] at hc
    obtain ⟨hok, hpl⟩ := hc
    split at ha
    · rename_i v hv
      split at ha
      · rename_i hpv
        rw [forceV_spec] at ha
        have hcongr : execOp ev' o = execOp ev o := by
          refine execOp_congr o ?_ fun x hx => plain_eq 6 (he x) (hpl x (by simpa using hx))
          intro cs b h0
          rw [h0] at hok
          simp [okPlain] at hok
        exact ⟨v, H, ρ, v, w, ha, Le.refl _, h, plain_refl 6 hpv, .inl (by rw [hcongr]; exact pureOf_run _ hv)⟩
      · cases ha
    · cases ha
  · cases ha

theorem ov_map {ev ev' : Operand → Value} (he : ∀ x, VR P ρ (ev x) (ev' x)) (x : Option Operand) : OV P ρ (x.map ev) (x.map ev') := by
  cases x with
  | none => trivial
  | some x => exact he x

theorem parts_pr {ev ev' : Operand → Value} (he : ∀ x, VR P ρ (ev x) (ev' x)) (parts : Array (Nat × Operand)) :
    L2 (PR P ρ) (parts.toList.map fun x => (x.1, ev x.2)) (parts.map fun (i, x) => (i, ev' x)).toList := by
  rw [Array.toList_map]
  exact L2.map_same (fun x => ⟨rfl, he x.2⟩) _

theorem vl_map {ev ev' : Operand → Value} (he : ∀ x, VR P ρ (ev x) (ev' x)) (l : List Operand) : VL P ρ (l.map ev) (l.map ev') := L2.map_same he l

theorem two_args {ev ev' : Operand → Value} (he : ∀ x, VR P ρ (ev x) (ev' x)) {args : Array Operand} {s x : Value} (h : args.toList.map ev = [s, x]) :
    ∃ s' x', args.map ev' = #[s', x'] ∧ VR P ρ s s' ∧ VR P ρ x x' := by
  have hv := vl_map he args.toList
  rw [h] at hv
  generalize hl : args.toList.map ev' = l at hv
  cases hv with
  | cons h1 hv =>
    cases hv with
    | cons h2 hv =>
      cases hv
      exact ⟨_, _, by apply Array.ext'; rw [Array.toList_map, hl], h1, h2⟩

theorem one_arg {ev ev' : Operand → Value} (he : ∀ x, VR P ρ (ev x) (ev' x)) {args : Array Operand} {x : Value} (h : args.toList.map ev = [x]) :
    ∃ x', args.map ev' = #[x'] ∧ VR P ρ x x' := by
  have hv := vl_map he args.toList
  rw [h] at hv
  generalize hl : args.toList.map ev' = l at hv
  cases hv with
  | cons h1 hv =>
    cases hv
    exact ⟨_, by apply Array.ext'; rw [Array.toList_map, hl], h1⟩

theorem aBuiltin_ok {β : Type} {k : K β} {r : β} {b : Builtin} {ts : Array TypeId} {ty : TypeId} {cs : Array Bool} {args : Array Operand} {ev ev' : Operand → Value} {other : Unit → Option β} (h : HR P ρ H B w0 w)
    (he : ∀ x, VR P ρ (ev x) (ev' x)) (ha : aBuiltin P b ts (args.toList.map ev) H k other = some r) : GotN P ρ B w0 w k r (builtin b ts ty cs (args.map ev')) ∨ other () = some r := by
  unfold aBuiltin at ha
  split at ha
  · split at ha
    · rename_i s x hargs
      obtain ⟨s', x', hA, hs, hx⟩ := two_args he hargs
      rw [hA]
      exact .inl ((aAppend_ok (ty := ty) h hs hx ha).n rfl)
    · cases ha
  · split at ha
    · rename_i t x ht hargs
      obtain ⟨x', hA, hx⟩ := one_arg he hargs
      rw [hA]
      rcases aLen_ok (ty := ty) ht h hx ha with h1 | h1
      · exact .inl (h1.n rfl)
      · exact .inr h1
    · cases ha
  · split at ha
    · rename_i t m i ht hargs
      obtain ⟨s', x', hA, hs, hx⟩ := two_args he hargs
      rw [hA]
      exact .inl ((aDelete_ok (ty := ty) ht h hs hx ha).n rfl)
    · cases ha
  · split at ha
    · rename_i t x ht hargs
      obtain ⟨x', hA, hx⟩ := one_arg he hargs
      rw [hA]
      exact .inl ((aClear_ok (ty := ty) ht h hx ha).n rfl)
    · cases ha
  · split at ha
    · rename_i t d x ht hargs
      obtain ⟨d', x', hA, hd, hx⟩ := two_args he hargs
      rw [hA]
      exact .inl ((aCopy_ok (ty := ty) ht h hd hx ha).n rfl)
    · cases ha
  · exact .inr ha

theorem aOper_ok {β : Type} {k : K β} {r : β} {o : Oper} {op : Op} (hop : o.op = op) {ev ev' : Operand → Value} {other : Unit → Option β} (h : HR P ρ H B w0 w)
    (he : ∀ x, VR P ρ (ev x) (ev' x)) (ha : aOper P op ev H k other = some r) : GotN P ρ B w0 w k r (execOp ev' o) ∨ other () = some r := by
  unfold aOper at ha
  split at ha
  · exact .inl ((aPick_ok h (he _) (he _) (he _) ha).n (by simp [execOp, hop]))
  · exact .inl ((aBuild_ok h (parts_pr he _) ha).n (by simp [execOp, hop]))
  · exact .inl ((aBuildSlice_ok h (parts_pr he _) ha).n (by simp [execOp, hop]))
  · split at ha
    · exact .inl ((makeMap_ok h ha).n (by simp [execOp, hop]; rfl))
    · cases ha
  · exact .inl ((aMakeSlice_ok h (he _) (he _) ha).n (by simp [execOp, hop]))
  · split at ha
    · split at ha
      · exact .inl ((aSlice_ok h (he _) (ov_map he _) (ov_map he _) ha).n (by simp [execOp, hop]))
      · cases ha
    · split at ha
      · split at ha
        · exact .inl ((aSliceArr_ok h (he _) (ov_map he _) (ov_map he _) ha).n (by simp [execOp, hop]))
        · cases ha
      · exact .inr ha
  · exact .inl ((aLookup_ok h (he _) (he _) ha).n (by simp [execOp, hop]))
  · exact .inl ((aMapUpdate_ok h (he _) (he _) (he _) ha).n (by simp [execOp, hop]))
  · exact .inl ((aMapUpdate_ok h (he _) (he _) (he _) ha).n (by simp [execOp, hop]))
  · exact .inl ((aRange_ok h (he _) ha).n (by simp [execOp, hop]))
  · split at ha
    · rename_i hs
      exact .inl ((aNextS_ok (t := o.type) h (he _) ha).n (by simp [execOp, hop, hs]))
    · cases ha
  · exact .inl ((aEntry_ok h (he _) ha).n (by simp [execOp, hop]))
  · rename_i fn first captured
    split at ha
    · rename_i g
      refine .inl ⟨_, H, ρ, .func (.func g) (first.map ev') (captured.map ev'), w, ha, Le.refl _, h, VR.func_of ?_ ?_, .inl ?_⟩
      · simpa using vl_map he first.toList
      · simpa using vl_map he captured.toList
      · simp [execOp, hop, Instr.makeFunc]
    · cases ha
  · rename_i x
    rcases aNilCheck_ok (he x) ha with ⟨a', h1, h2⟩ | h1
    · refine .inl ⟨_, H, ρ, ev' x, w, h2, Le.refl _, h, he x, .inl ?_⟩
      simp [execOp, hop, h1]
    · exact .inr h1
  · rename_i c
    split at ha
    · rename_i b hb
      rcases aBuiltin_ok (ty := o.type) (cs := c.args.map fun | .const _ => true | _ => false) h he ha with h1 | h1
      · refine .inl ?_
        have : execOp ev' o = builtin b c.argTypes o.type (c.args.map fun | .const _ => true | _ => false) (c.args.map ev') := by
          simp [execOp, hop, resolve, hb, invoke]
          rfl
        rw [this]; exact h1
      · exact .inr h1
    · cases ha
  · exact .inr ha

theorem other_ok {β : Type} {k : K β} {r : β} {o : Oper} {op : Op} (hop : o.op = op) {ev ev' : Operand → Value} (h : HR P ρ H B w0 w) (he : ∀ x, VR P ρ (ev x) (ev' x))
    (ha : aOper P op ev H k (fun _ => aPlain P o ev H k) = some r) : GotN P ρ B w0 w k r (execOp ev' o) := by
  rcases aOper_ok hop h he ha with h1 | h1
  · exact h1
  · exact aPlain_ok h he h1

theorem valA_ok {β : Type} {k : K β} {r : β} {o : Oper} {ev ev' : Operand → Value} (h : HR P ρ H B w0 w) (he : ∀ x, VR P ρ (ev x) (ev' x)) (ha : valA P o (decode o.op) ev H k = some r) : GotN P ρ B w0 w k r (execOp ev' o) := by
  cases hop : o.op with
  | move x => rw [hop] at ha; exact ⟨_, H, ρ, ev' x, w, ha, Le.refl _, h, he x, .inl (by simp [execOp, hop])⟩
  | assign x => rw [hop] at ha; exact ⟨_, H, ρ, ev' x, w, ha, Le.refl _, h, he x, .inl (by simp [execOp, hop])⟩
  | binOp op t x y ty =>
    rw [hop] at ha
    rcases aBin_ok (xo := x) (yo := y) h (he x) (he y) ha with h1 | h1
    · exact h1.n (by simp [execOp, hop])
    · exact aPlain_ok h he h1
  | extract x i => rw [hop] at ha; exact (aExtract_ok h (he x) ha).n (by simp [execOp, hop])
  | load t x => rw [hop] at ha; exact (aLoad_ok h (he x) ha).n (by simp [execOp, hop])
  | store t x y => rw [hop] at ha; exact (aStore_ok h (he x) (he y) ha).n (by simp [execOp, hop])
  | indexAddr t x y => rw [hop] at ha; exact (aIndexAddr_ok h (he x) (he y) ha).n (by simp [execOp, hop])
  | fieldAddr s x i => rw [hop] at ha; exact (aFieldAddr_ok h (he x) ha).n (by simp [execOp, hop])
  | alloc t => rw [hop] at ha; exact (aAlloc_ok h ha).n (by simp [execOp, hop])
  | box t x => rw [hop] at ha; exact (aBox_ok h (he x) ha).n (by simp [execOp, hop])
  | call c =>
    obtain ⟨callee, args, ts⟩ := c
    rw [hop] at ha
    cases callee with
    | value g => cases ha
    | builtin b => cases b <;> first | (cases ha; done) | exact other_ok hop h he ha
    | invoke x m => exact other_ok hop h he ha
  | defer c =>
    rw [hop] at ha
    unfold decode at ha
    simp only at ha
    split at ha <;> cases ha
  | next it s =>
    rw [hop] at ha
    cases s with
    | true => exact other_ok hop h he ha
    | false => cases ha
  | _ => rw [hop] at ha; exact other_ok hop h he ha
end
end Go.Am
