/- PieceCutting's law, but for the examples that it calls. -/
import Derived.Deep.AppendLies
import Derived.Test.YtcoplbaopaigcaaGreatCqO
import Derived.Test.YtcoplbaopaigcaaGreatCqP
set_option linter.all false
namespace Go.Proofs.YtcoplbaopaigcaaGreat
open Go.RowKit
theorem own_reads {w : World} {base n : Nat} {v : Value} {xs : List Int} (h : w.ownsRow base 3 1 v n (xs.map (Value.int .i64))) : ∃ A c, v = .slice A n c ∧ n ≤ c ∧ Reads w w.heap.size 1 A n (xs.map (Value.int .i64)) := by
  have h1 := h.1
  rcases h.2 with ⟨rfl, rfl⟩ | ⟨g, cap, cur, rfl, hb, hh, hc, hm, _⟩
  · exact ⟨none, 0, rfl, Nat.le_refl _, h1, by omega⟩
  · refine ⟨_, _, rfl, hc, h1, fun _ => ⟨_, rfl, (h.lt g rfl).2, fun j u hu => h.cells (g := g) rfl j u hu⟩⟩
theorem cellsP_get : ∀ (ps : List Pc) (k : Nat) (h : k < ps.length) (i : Nat), i < 3 → (cellsP ps)[k * 3 + i]? = (cellP ps[k])[i]? := by
  intro ps
  induction ps with
  | nil => intro k h; simp at h
  | cons a t ih =>
    intro k h i hi
    cases k with
    | zero => simp only [cellsP, List.flatMap_cons, Nat.zero_mul, Nat.zero_add, List.getElem_cons_zero]; rw [List.getElem?_append_left (by simp [cellP]; omega)]
    | succ k =>
      have := ih k (by simpa using h) i hi
      simp only [cellsP, List.flatMap_cons] at *
      rw [List.getElem?_append_right (by simp [cellP]; omega), show (k + 1) * 3 + i - (cellP a).length = k * 3 + i by simp [cellP]; omega]
      simpa using this
theorem add_zero_off (g x : Nat) : (⟨g, 0, none⟩ : Addr).add x = ⟨g, x, none⟩ := by
  unfold Addr.add
  by_cases h0 : x = 0
  · rw [if_pos h0, h0]
  · rw [if_neg h0, Nat.zero_add]
theorem ps_of_own {w : World} {base n : Nat} {v : Value} {ps : List Pc} (h : w.ownsRow base 107 3 v n (cellsP ps)) (hn : ps.length = n) (hm : n ≤ maxLen) (ho : OwnsWords w base ps) (hid' : ∀ p ∈ ps, -9223372036854775808 ≤ p.id ∧ p.id ≤ 9223372036854775807) (hnm : ∀ p ∈ ps, p.n ≤ maxLen) :
    ∃ A c, v = .slice A n c ∧ Ps w w.heap.size A n ps := by
  have hfit : ∀ p ∈ ps, p.fit w w.heap.size := fun p hp => by
    obtain ⟨A, c, e, _, hr⟩ := own_reads (ho p hp)
    injection e with e1 e2 e3
    subst e1
    exact ⟨hnm p hp, (hid' p hp).1, (hid' p hp).2, hr⟩
  rcases h.2 with ⟨rfl, rfl⟩ | ⟨g, cap, cur, rfl, hb, hh, hc, hm', _⟩
  · exact ⟨none, 0, rfl, hn, hm, hfit, by omega⟩
  · refine ⟨_, _, rfl, hn, hm, hfit, fun _ => ⟨_, rfl, (h.lt g rfl).2, fun k hk => ?_⟩⟩
    have ea : (⟨g, 0, none⟩ : Addr).add (k * 3) = ⟨g, k * 3, none⟩ := by unfold Addr.add; by_cases h0 : k * 3 = 0 <;> simp [h0]
    have hx : ∀ i, i < 3 → ∀ u, (cellP ps[k])[i]? = some u → w.cell? ⟨g, k * 3 + i, none⟩ = some u := fun i hi u hu => by
      have := h.cells (g := g) rfl (k * 3 + i) u ((cellsP_get ps k hk i hi).trans hu)
      rwa [add_zero_off] at this
    rw [ea]
    exact ⟨hx 0 (by omega) _ rfl, hx 1 (by omega) _ rfl, hx 2 (by omega) _ rfl⟩
theorem new1 (w : World) (t : TypeId) (x : Value) : ∀ j u, [x][j]? = some u → (w.alloc (.cells #[x] t)).cell? ((⟨w.heap.size, 0, none⟩ : Addr).add j) = some u := by
  intro j u h
  have hb : Blk (w.alloc (.cells #[x] t)) w.heap.size t #[x] := Blk.new _ _ _
  rw [add_zero_off, hb.cell]
  simpa using h
def wdL (ts : List Int) : List Int := ts.map fun t => 1 + t % 9999
theorem wdL_succ {ts : List Int} {k : Nat} (hk : k < ts.length) : wdL (ts.take (k + 1)) = wdL (ts.take k) ++ [1 + ts[k] % 9999] := by
  unfold wdL; rw [← List.take_append_getElem hk, List.map_append]; rfl
theorem wdL_length (ts : List Int) : (wdL ts).length = ts.length := by simp [wdL]
theorem wdL_ok (ts : List Int) : wsOk (wdL ts) = true := by
  unfold wsOk
  rw [List.all_eq_true]
  intro x hx
  obtain ⟨t, _, rfl⟩ := List.mem_map.1 hx
  exact win_iff.2 ⟨by omega, by omega⟩
theorem idsL_snoc (i m : Nat) : idsL i (m + 1) = idsL i m ++ [(i : Int) + 1 + m] := by
  unfold idsL; rw [List.range_succ, List.map_append]; rfl
/-- Two rows that share no block. -/
def Apart (a b : Value) : Prop := ∀ g, a.ownBlock = some g → b.ownBlock ≠ some g
theorem Apart.symm {a b : Value} (h : Apart a b) : Apart b a := fun g hb ha => h g ha hb
theorem Apart.or_ {a b : Value} (h : Apart a b) : a.ownBlock = none ∨ a.ownBlock ≠ b.ownBlock := by
  cases ha : a.ownBlock with
  | none => exact Or.inl rfl
  | some g => right; intro e; exact h g ha e.symm
theorem two_next {w w' W : World} {base g cap n n7 : Nat} {v6 v7 x : Value} {xs ys : List Value} {o : Obj} (h6 : w.ownsRow base 3 1 v6 n xs) (h7 : w.ownsRow base 3 1 v7 n7 ys) (hap : Apart v6 v7) (hb : Below base W w) (hbs : base ≤ W.heap.size)
    (hown : w'.ownsRow base 3 1 (.slice (some ⟨g, 0, none⟩) (n + 1) cap) (n + 1) (xs ++ [x])) (hgr : (w.alloc o).grownBy w' v6.ownBlock) (hor : v6.ownBlock = some g ∨ g = (w.alloc o).heap.size) :
    w'.ownsRow base 3 1 (.slice (some ⟨g, 0, none⟩) (n + 1) cap) (n + 1) (xs ++ [x]) ∧ w'.ownsRow base 3 1 v7 n7 ys ∧ Apart (.slice (some ⟨g, 0, none⟩) (n + 1) cap) v7 ∧ Below base W w' := by
  refine ⟨hown, (h7.alloc _).kept hgr hap.symm.or_, ?_, ?_⟩
  · intro g' hg'
    have : g = g' := by simpa [Value.ownBlock] using hg'
    subst this
    rcases hor with h | h
    · exact hap g h
    · intro e
      have := (h7.lt g e).2
      simp at h
      omega
  · refine ⟨hgr.os.trans hb.os, hgr.tape.trans hb.tape, hgr.output.trans hb.output, Nat.le_trans (Nat.le_trans hb.size (by simp)) hgr.size, fun k hk => ?_⟩
    have hkw : k < w.heap.size := by have := hb.size; omega
    have h1 := hgr.block k (by simp; omega) (fun e => by have := (h6.lt k e.symm).1; omega)
    rw [h1, heap_alloc_old w o hkw]
    exact hb.block k hk
def W1Rel (ts : List Int) (n : Nat) (w wr : World) (v i : Value) : Prop :=
  ∃ k : Nat, k ≤ n ∧ i = .int .i64 k ∧ Below w.heap.size w wr ∧ wr.ownsRow w.heap.size 3 1 v k ((wdL (ts.take k)).map (Value.int .i64))
def W2Rel (n : Nat) (w2 wr : World) (v6 v7 at' i : Value) : Prop :=
  ∃ (k a : Nat) (es : List Int), i = .int .i64 k ∧ at' = .int .i64 a ∧ k ≤ a ∧ a ≤ n ∧ es.length = k ∧ Below w2.heap.size w2 wr ∧ wr.ownsRow w2.heap.size 3 1 v6 k (es.map (Value.int .i64)) ∧ wr.ownsRow w2.heap.size 3 1 v7 k ((idsL 0 k).map (Value.int .i64)) ∧ Apart v6 v7 ∧
    (∀ rest, endsGo n 0 (es ++ rest) = endsGo n a rest) ∧ (∀ z ∈ es, 0 ≤ z ∧ z ≤ n) ∧ (k = 0 → a = 0)
theorem endsGo_more {n a a' : Nat} {es : List Int} (h : ∀ rest, endsGo n 0 (es ++ rest) = endsGo n a rest) (h1 : a < a') (h2 : a' ≤ a + 40) (h3 : a' ≤ n) : ∀ rest, endsGo n 0 ((es ++ [(a' : Int)]) ++ rest) = endsGo n a' rest := by
  intro rest
  rw [List.append_assoc, h, List.singleton_append, endsGo, if_neg]
  have : win 1 40 ((a' : Int) - a) = true := win_iff.2 ⟨by omega, by omega⟩
  simp [this]; omega
set_option maxHeartbeats 20000000 in
set_option maxRecDepth 100000 in
theorem cutting_any (hsan : ∀ w : World, Calls Tryz.prog 16 #[] w fun e w' => e = .returned (.bool true) ∧ Below w.heap.size w w')
    (A : Option Addr) (n c : Nat) (ts : List Int) (A2 : Option Addr) (m c2 : Nat) (ls : List Int) (w : World) (hr : Reads w w.heap.size 1 A n (ts.map (Value.int .u16))) (hr2 : Reads w w.heap.size 1 A2 m (ls.map (Value.int .u8))) (hn : n ≤ maxLen) (hm : m ≤ maxLen)
    (ht : ∀ t ∈ ts, 0 ≤ t ∧ t ≤ 65535) (hx : ∀ x ∈ ls, 0 ≤ x ∧ x ≤ 255) :
    Calls Tryz.prog 13 #[.slice A n c, .slice A2 m c2] w fun e w' => e = .returned (.bool true) ∧ Below w.heap.size w w' := by
  have HL := hid (show ts.length = n by have := hr.1; simpa using this)
  have HL2 := hid (show ls.length = m by have := hr2.1; simpa using this)
  have HR := hid hr
  have HR2 := hid hr2
  have HT := hid ht
  have HX := hid hx
  unfold maxLen at hn hm
  clear hr hr2 ht hx
  by_cases hbad : 200 < n ∨ n = 0 ∨ 60 < m ∨ m = 0
  · have hcase : (200 < n) ∨ (¬ 200 < n ∧ n = 0) ∨ (¬ 200 < n ∧ ¬ n = 0 ∧ 60 < m) ∨ (¬ 200 < n ∧ ¬ n = 0 ∧ ¬ 60 < m ∧ m = 0) := by omega
    clear hbad
    rcases hcase with h1 | ⟨h1, rfl⟩ | ⟨h1, h2, h3⟩ | ⟨h1, h2, h3, rfl⟩
    all_goals
      go_enter Tryz.func13, Tryz.ntmps13
      go_wp2_with (go_at_call 16; refine (hsan _).mono ?_; rintro e w1 ⟨rfl, hb1⟩; have HB1 := hid hb1; clear hb1)
      go_ret
      exact ⟨rfl, HB1.out⟩
  · obtain ⟨h1, h2, h3, h4⟩ : ¬ 200 < n ∧ ¬ n = 0 ∧ ¬ 60 < m ∧ ¬ m = 0 := by omega
    clear hbad
    have g1 : ¬ (200 : Int) < n := by omega
    have g2 : ((n : Int) == 0) = false := by simp; omega
    have g3 : ¬ (60 : Int) < m := by omega
    have g4 : ((m : Int) == 0) = false := by simp; omega
    have k1 : decide ((200 : Int) < n) = false := by simp; omega
    have k3 : decide ((60 : Int) < m) = false := by simp; omega
    obtain ⟨i0, hi0, hz0, hz1, hz2⟩ := info_parts info3'
    go_enter Tryz.func13, Tryz.ntmps13
    go_wp2
    go_loopw [5, 39] (fun v i wr => W1Rel ts n w wr v i) (fun _ i _ => n - (intOf i).toNat)
    case atStart => exact ⟨0, Nat.zero_le _, rfl, Below.refl _ _, World.ownsRow_nil _ _ _ _⟩
    case round =>
      obtain ⟨k, hk, rfl, hbl, hown⟩ := hrel
      have HO := hid hown
      clear hown
      obtain ⟨wo, rfl⟩ : ∃ wo : World, wo = wr := ⟨_, rfl⟩
      by_cases hlt : k < n
      · have hkl : k < ts.length := by rw [HL.out]; exact hlt
        obtain ⟨ad, u, rfl, _, hu, hc⟩ := (HR.out.below hbl).at_ hlt
        rw [List.getElem?_map, List.getElem?_eq_getElem hkl] at hu
        simp only [Option.map_some, Option.some.injEq] at hu
        subst hu
        have htr := HT.out ts[k] (List.getElem_mem _)
        obtain ⟨t, htt⟩ : ∃ t, ts[k] = t := ⟨_, rfl⟩
        rw [htt] at hc htr
        have HTT := hid htt
        clear htt
        have hw1 : IntKind.i64.wrap t = t := IntWalk.i64_in _ (by omega)
        have hw2 : t.tmod 9999 = t % 9999 := Int.tmod_eq_emod_of_nonneg htr.1
        obtain ⟨r, hr0⟩ : ∃ r, t % 9999 = r := ⟨_, rfl⟩
        have hrr : 0 ≤ r ∧ r < 9999 := by omega
        have HRR := hid hr0
        rw [hr0] at hw2
        clear hr0
        go_wp2_with (at_builtin; refine wpList_append_own _ rfl (.tmp 43) (.tmp 48) 25 rfl w.heap.size 3 i0 _ 1 8 Tryz.underlying25 hi0 hz0 hz1 hz2 rfl (by decide) u5 _ _ rfl (HO.out.alloc _) ⟨wo.heap.size, 0, none⟩ 1 1 [.int .i64 (1 + r)] rfl rfl (new1 _ _ _) (by intro u hu; simp at hu; subst hu; rfl) (by unfold maxLen; omega) (by omega) (by have := hbl.size; simp; omega) ?_; intro v1 w2 hown2 hg2 _hz; have HO2 := hid hown2; have HG2 := hid hg2; clear hown2 hg2 _hz)
        go_roundw
        case rel =>
          refine ⟨k + 1, by omega, by go_num, (hbl.alloc hbl.size _).grown HG2.out (by have := hbl.size; simp; omega) (fun g hg => (HO.out.lt g hg).1), ?_⟩
          rw [wdL_succ hkl, HTT.out, HRR.out, List.map_append]
          exact HO2.out
        case measure => simp [intOf]; omega
      · have HX1 := hid (show k = n by omega)
        have HTX := hid (show wo.ownsRow w.heap.size 3 1 u5 n ((wdL ts).map (Value.int .i64)) by
          have := HO.out
          rwa [show ts.take k = ts by rw [HX1.out, ← HL.out]; simp, HX1.out] at this)
        obtain ⟨B5, c5, rfl, hc5, hr5⟩ := own_reads HTX.out
        have HR5 := hid hr5
        clear hr5
        go_wp2
        go_loopw [6, 7, 10, 11] (fun v6 v7 at' i wr => W2Rel n wo wr v6 v7 at' i) (fun _ _ _ i _ => 300 - (intOf i).toNat)
        case atStart => exact ⟨0, 0, [], rfl, rfl, Nat.le_refl _, Nat.zero_le _, rfl, Below.refl _ _, World.ownsRow_nil _ _ _ _, World.ownsRow_nil _ _ _ _, by intro g hg; simp [Value.ownBlock] at hg, fun _ => rfl, by simp, fun _ => rfl⟩
        case round =>
          obtain ⟨k2, a, es, rfl, rfl, hka, han, hel, hb2, ho6, ho7, hap, heg, hz, hz0'⟩ := hrel
          have HO6 := hid ho6
          have HO7 := hid ho7
          have HAP := hid hap
          have HEG := hid heg
          have HZ := hid hz
          have HEL := hid hel
          have HZ0 := hid hz0'
          clear ho6 ho7 hap heg hz hel hz0'
          obtain ⟨wv, rfl⟩ : ∃ wv : World, wv = wr := ⟨_, rfl⟩
          by_cases hlt2 : a < n
          · obtain ⟨q, hq0⟩ : ∃ q, k2 % m = q := ⟨_, rfl⟩
            have hqm : q < m := by rw [← hq0]; exact Nat.mod_lt _ (by omega)
            have hqt : ((k2 : Nat) : Int).tmod (m : Int) = (q : Int) := by rw [← hq0]; simp [Int.tmod]
            clear hq0
            obtain ⟨ad, u, rfl, _, hu, hc⟩ := (HR2.out.below (hbl.trans (hb2.mono hbl.size))).at_ hqm
            have hql : q < ls.length := by rw [HL2.out]; exact hqm
            rw [List.getElem?_map, List.getElem?_eq_getElem hql] at hu
            simp only [Option.map_some, Option.some.injEq] at hu
            subst hu
            have hxr := HX.out ls[q] (List.getElem_mem _)
            obtain ⟨x, hxx⟩ : ∃ x, ls[q] = x := ⟨_, rfl⟩
            rw [hxx] at hc hxr
            clear hxx
            have hw1 : IntKind.i64.wrap x = x := IntWalk.i64_in _ (by omega)
            have hw2 : x.tmod 40 = x % 40 := Int.tmod_eq_emod_of_nonneg hxr.1
            obtain ⟨y, hy⟩ : ∃ y : Nat, x % 40 = y := ⟨(x % 40).toNat, by omega⟩
            have hy40 : y < 40 := by omega
            rw [hy] at hw2
            clear hy
            obtain ⟨a', ha'⟩ : ∃ a' : Nat, min n (a + 1 + y) = a' := ⟨_, rfl⟩
            have hmn : min (n : Int) ((a : Int) + 1 + y) = a' := by omega
            have h01 : a < a' ∧ a' ≤ a + 40 ∧ a' ≤ n := by omega
            clear ha'
            have hm0 : ¬ m = 0 := by omega
            go_wp2_with (first
              | (at_builtin; refine wpList_append_lies _ rfl (.tmp 72) (.tmp 74) 25 rfl wo.heap.size 3 i0 _ 1 8 Tryz.underlying25 hi0 hz0 hz1 hz2 rfl (by decide) u6 _ _ rfl (HO6.out.alloc _) ⟨wv.heap.size, 0, none⟩ 1 1 [.int .i64 (a' : Int)] rfl rfl (new1 _ _ _) (by intro u hu; simp at hu; subst hu; rfl) (by omega) (by unfold maxLen; omega) (by omega) (by have := hb2.size; simp; omega) _ rfl ?_; intro g6 cap6 w6 hown6 hgr6 hor6 hlt6; have H6 := hid (two_next HO6.out HO7.out HAP.out hb2 (Nat.le_refl _) hown6 hgr6 hor6); clear hown6 hgr6 hor6 hlt6)
              | (at_builtin; refine wpList_append_lies _ rfl (.tmp 76) (.tmp 79) 25 rfl wo.heap.size 3 i0 _ 1 8 Tryz.underlying25 hi0 hz0 hz1 hz2 rfl (by decide) u7 _ _ rfl (H6.out.2.1.alloc _) ⟨w6.heap.size, 0, none⟩ 1 1 [.int .i64 ((k2 : Int) + 1)] rfl rfl (new1 _ _ _) (by intro u hu; simp at hu; subst hu; rfl) (by omega) (by unfold maxLen; omega) (by omega) (by have := H6.out.2.2.2.size; simp; omega) _ rfl ?_; intro g7 cap7 w7 hown7 hgr7 hor7 hlt7; have H7 := hid (two_next H6.out.2.1 H6.out.1 H6.out.2.2.1.symm H6.out.2.2.2 (Nat.le_refl _) hown7 hgr7 hor7); clear hown7 hgr7 hor7 hlt7))
            go_roundw
            case rel =>
              refine ⟨k2 + 1, a', es ++ [(a' : Int)], by go_num, rfl, by omega, h01.2.2, by simp [HEL.out], H7.out.2.2.2, ?_, ?_, H7.out.2.2.1.symm, endsGo_more HEG.out h01.1 h01.2.1 h01.2.2, ?_, by omega⟩
              · rw [List.map_append]; exact H7.out.2.1
              · rw [idsL_snoc, List.map_append, show ((0 : Nat) : Int) + 1 + k2 = (k2 : Int) + 1 by omega]; exact H7.out.1
              · intro z hz
                rcases List.mem_append.1 hz with hz | hz
                · exact HZ.out z hz
                · have : z = (a' : Int) := by simpa using hz
                  omega
            case measure => simp [intOf]; omega
          · have han' : a = n := by omega
            subst han'
            have hTX := hid (wdL_length ts)
            have hbv := hbl.trans (hb2.mono hbl.size)
            have hkp : 0 < k2 := by
              rcases Nat.eq_zero_or_pos k2 with h | h
              · exact absurd (HZ0.out h) h2
              · exact h
            obtain ⟨A6, c6, rfl, hc6, hr6⟩ := own_reads HO6.out
            obtain ⟨A7, c7, rfl, hc7, hr7⟩ := own_reads HO7.out
            have HR6 := hid hr6
            have HR7 := hid hr7
            clear hr6 hr7
            have hen0 := HEG.out []
            rw [List.append_nil, endsGo] at hen0
            have HEO := hid (show endsOk ((wdL ts).length : Nat) es = true by
              unfold endsOk
              rw [hTX.out, HL.out, hen0, HEL.out]
              simp; omega)
            clear hen0
            have HC := hid (cut_any B5 a c5 (wdL ts) A6 k2 c6 es wv wv.heap.size (Nat.le_refl _) ((HR5.out.below hb2).mono hb2.size) (by unfold maxLen; omega) hc5 HR6.out (by unfold maxLen; omega) (fun z hz => by have := HZ.out z hz; omega))
            by_cases h24 : 24 < k2
            · have HE2 := hid (show cutE (wdL ts) es = 2 by unfold cutE; rw [HEL.out, if_pos (Or.inr h24)])
              have HL0 := hid (show cutL (wdL ts) es = [] by unfold cutL; rw [HE2.out, if_neg (by omega)])
              have h24' : (24 : Int) < k2 := by omega
              go_wp2_with (first
                | (go_at_call 50; refine HC.out.mono ?_; rintro e w4 ⟨v, ps, rfl, hd, ho, _, hb4⟩; rw [HE2.out]; obtain ⟨A4, c4, rfl⟩ := own_slice ho; rw [HL0.out, List.map_eq_nil_iff] at hd; subst hd; have HB4 := hid hb4; clear hb4 ho)
                | (go_at_call 16; refine (hsan _).mono ?_; rintro e w5 ⟨rfl, hb5⟩; have HB5 := hid hb5; clear hb5))
              go_ret
              exact ⟨rfl, (hbv.trans (HB4.out.mono hbv.size)).trans (HB5.out.mono (Nat.le_trans hbv.size HB4.out.size))⟩
            · have HE0 := hid (show cutE (wdL ts) es = 0 by unfold cutE; rw [hTX.out, HL.out, HEL.out, if_neg (by omega), wdL_ok]; rw [← HL.out, ← hTX.out, HEO.out]; rfl)
              have HL0 := hid (show cutL (wdL ts) es = cutGo (wdL ts) 0 0 es by unfold cutL; rw [HE0.out, if_pos rfl])
              have h24' : ¬ (24 : Int) < k2 := by omega
              have hCUT := hid (fun (ps : List Pc) (hd : ps.map dataP = cutGo (wdL ts) 0 0 es) (hn' : ∀ p ∈ ps, p.n = p.ws.length) => cutting (wdL_ok ts) (by rw [hTX.out, HL.out]; omega) (by rw [HEL.out]; exact hkp) (by rw [HEL.out]; omega) HEO.out hd hn')
              go_wp2_with (go_at_call 50; refine HC.out.mono ?_; rintro e w4 ⟨v, ps, rfl, hd, ho, hw, hb4⟩; rw [HE0.out]; have HD := hid hd; have HO4 := hid ho; have HW4 := hid hw; have HB4 := hid hb4; clear hd ho hw hb4)
              have hn' : ∀ p ∈ ps, p.n = p.ws.length := fun p hp => by have := (HW4.out p hp).1; simpa using this.symm
              obtain ⟨e1, e2, e3, e4⟩ := hCUT.out ps (HD.out.trans HL0.out) hn'
              rw [HEL.out] at e2 e3 e4
              obtain ⟨o1, o2, _⟩ := errP_ok e1
              have hidr : ∀ p ∈ ps, -9223372036854775808 ≤ p.id ∧ p.id ≤ 9223372036854775807 := fun p hp => by have := pok_parts (o2 p hp); omega
              have hnr : ∀ p ∈ ps, p.n ≤ maxLen := fun p hp => by have := pok_parts (o2 p hp); unfold maxLen; omega
              obtain ⟨A4, c4, rfl, hps⟩ := ps_of_own HO4.out rfl (by unfold maxLen; omega) HW4.out hidr hnr
              have HPS := hid hps
              have hsz4 := HB4.out.size
              have HIDS := hid (show ∀ z ∈ idsL 0 k2, -9223372036854775808 ≤ z ∧ z ≤ 9223372036854775807 from fun z hz => by have := idsL_gt hz; have := idsL_le hz; omega)
              have HRO := hid ((HR7.out.below HB4.out).mono hsz4)
              have HI := hid (isOrder_any A4 ps.length c4 ps A7 k2 c7 (idsL 0 k2) w4 w4.heap.size (Nat.le_refl _) HPS.out HRO.out (by unfold maxLen; omega) HIDS.out)
              have HT4 := hid (fun (w5 : World) (hb5 : Below w4.heap.size w4 w5) => text_any A4 ps.length c4 ps A7 k2 c7 (idsL 0 k2) w5 w4.heap.size hb5.size (HPS.out.below hb5) (HRO.out.below hb5) (by unfold maxLen; omega) HIDS.out)
              rw [e1, e2] at HI
              rw [e3, e4] at HT4
              have hbv4 := hbv.trans (HB4.out.mono hbv.size)
              have HR54 := hid (((HR5.out.below hb2).mono hb2.size).below HB4.out)
              clear hps hn' e1 e2 e3 e4 o1 o2 hidr hnr
              go_wp2_with (go_at_call 21; refine HI.out.mono ?_; rintro e w5 ⟨rfl, hb5⟩; have HB5 := hid hb5; clear hb5)
              have HT5 := hid (HT4.out w5 HB5.out)
              go_wp2_with (go_at_call 48; refine HT5.out.mono ?_; rintro e w6 ⟨v6, rfl, ho6, hb6⟩; obtain ⟨A8, c8, rfl, _, hr8⟩ := own_reads ho6; have HR8 := hid hr8; have HB6 := hid hb6; clear ho6 hr8 hb6)
              go_wp2_with (go_at_call 16; refine (hsan _).mono ?_; rintro e w7 ⟨rfl, hb7⟩; have HB7 := hid hb7; clear hb7)
              have hs5 := HB5.out.size
              have hs6 := HB6.out.size
              have hs7 := HB7.out.size
              have HSI := hid (sameInts_any A8 (wdL ts).length c8 (wdL ts) B5 a c5 (wdL ts) w7 w7.heap.size ((HR8.out.below HB7.out).mono hs7) ((((HR54.out.mono hsz4).below HB5.out).mono hs5 |>.below HB6.out).mono hs6 |>.below HB7.out |>.mono hs7) (by rw [hTX.out, HL.out]; unfold maxLen; omega))
              go_wp2_with (go_at_call 29; refine HSI.out.mono ?_; rintro e w8 ⟨rfl, d, rfl⟩; rw [decide_eq_true rfl])
              go_ret
              exact ⟨rfl, below_drewN ((((hbv4).trans (HB5.out.mono hbv4.size)).trans (HB6.out.mono (Nat.le_trans hbv4.size hs5))).trans (HB7.out.mono (Nat.le_trans hbv4.size (Nat.le_trans hs5 hs6)))) _⟩
end Go.Proofs.YtcoplbaopaigcaaGreat
