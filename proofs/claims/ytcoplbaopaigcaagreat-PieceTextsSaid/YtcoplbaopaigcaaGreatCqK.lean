/- Sorting legs. -/
import Derived.Shelf.SlSortCmp.WholeK
import Derived.StillTailTactics
import Derived.Test.YtcoplbaopaigcaaGreatCqI
import Derived.Test.YtcoplbaopaigcaaGreatCqJ
set_option linter.all false
namespace Go.Proofs.YtcoplbaopaigcaaGreat
open Go.RowKit Go.Sort Go.Shelf Go.Lib
abbrev Lg : Type := { p : Int × Int × Int // 1 ≤ p.1 ∧ p.1 ≤ 1099511627776 }
instance : Inhabited Lg := ⟨⟨(1, 0, 0), by decide⟩⟩
def cell3 (p : Int × Int × Int) : List Value := [.int .i64 p.1, .int .i64 p.2.1, .int .i64 p.2.2]
def encG (x : Lg) : List Value := cell3 x.1
def cfG (x y : Lg) : Int := x.1.1 - y.1.1
theorem ltG (x y : Lg) : ltOf cfG x y = decide (x.1.1 < y.1.1) := by
  unfold ltOf cfG
  by_cases h : x.1.1 < y.1.1 <;> simp [h] <;> omega
theorem swoG : SWO (ltOf cfG) where
  irrefl x := by rw [ltG]; simp
  trans x y z h1 h2 := by rw [ltG] at *; simp at *; omega
  ntrans x y z h1 h2 := by rw [ltG] at *; simp at *; omega
set_option maxHeartbeats 1000000 in
theorem cmpG (a b c a' b' c' : Int) (h : IntKind.i64.wrap (a - a') = a - a') (W : World) : Calls Tryz.prog 127 #[.agg #[.int .i64 a, .int .i64 b, .int .i64 c], .agg #[.int .i64 a', .int .i64 b', .int .i64 c']] W fun e w' => e = .returned (.int .i64 (a - a')) ∧ ∃ q os', w' = grow (W.drewN q) os' := by
  go_enter Tryz.func127, Tryz.ntmps127
  go_wp2
  go_ret
  exact ⟨rfl, 0, _, by rw [alloc_eq_grow, alloc_eq_grow, grow_grow]; rfl⟩
theorem cmpLaysG (blk off size : Nat) (w : World) : CmpLays Tryz.prog 127 #[] encG 3 cfG blk off size w := by
  intro m os dk _ x y
  obtain ⟨⟨a, b, c⟩, hx⟩ := x
  obtain ⟨⟨a', b', c'⟩, hy⟩ := y
  exact cmpG a b c a' b' c' (by simp only at hx hy; exact IntWalk.i64_in _ (by omega)) _
set_option maxHeartbeats 400000 in
theorem follows_any (a b c a' b' c' : Int) (W : World) : Calls Tryz.prog 70 #[.agg #[.int .i64 a, .int .i64 b, .int .i64 c], .agg #[.int .i64 a', .int .i64 b', .int .i64 c']] W fun e w' => e = .returned (.bool (!decide (a = a') && decide (c = b'))) ∧ Below W.heap.size W w' := by
  have HB := hid (show ∀ o p, Below W.heap.size W ((W.alloc o).alloc p) from fun o p => ((Below.refl _ _).alloc (Nat.le_refl _) o).alloc (by simp) p)
  by_cases h1 : a = a'
  · go_enter Tryz.func70, Tryz.ntmps70
    go_wp2
    go_ret
    exact ⟨by simp [h1], HB.out _ _⟩
  · by_cases h2 : c = b'
    · go_enter Tryz.func70, Tryz.ntmps70
      go_wp2
      go_ret
      exact ⟨by simp [h1, h2], HB.out _ _⟩
    · go_enter Tryz.func70, Tryz.ntmps70
      go_wp2
      go_ret
      exact ⟨by simp [h1, h2], HB.out _ _⟩
end Go.Proofs.YtcoplbaopaigcaaGreat
namespace Go.Proofs.YtcoplbaopaigcaaGreat
open Go.RowKit Go.Sort Go.Shelf Go.Lib
abbrev Tr := Int × Int × Int
def cells3 (ls : List Tr) : List Value := ls.flatMap cell3
theorem cells3_app (a b : List Tr) : cells3 (a ++ b) = cells3 a ++ cells3 b := by simp [cells3]
theorem cells3_length (ls : List Tr) : (cells3 ls).length = ls.length * 3 := by
  induction ls with
  | nil => rfl
  | cons a t ih => simp only [cells3, List.flatMap_cons, List.length_append, List.length_cons] at *; rw [ih]; simp [cell3]; omega
theorem cells3_get : ∀ (ls : List Tr) (k : Nat) (h : k < ls.length) (i : Nat), i < 3 → (cells3 ls)[k * 3 + i]? = (cell3 ls[k])[i]? := by
  intro ls
  induction ls with
  | nil => intro k h; simp at h
  | cons a t ih =>
    intro k h i hi
    cases k with
    | zero => simp only [cells3, List.flatMap_cons, Nat.zero_mul, Nat.zero_add, List.getElem_cons_zero]; rw [List.getElem?_append_left (by simp [cell3]; omega)]
    | succ k =>
      have := ih k (by simpa using h) i hi
      simp only [cells3, List.flatMap_cons] at *
      rw [List.getElem?_append_right (by simp [cell3]; omega), show (k + 1) * 3 + i - (cell3 a).length = k * 3 + i by simp [cell3]; omega]
      simpa using this
/-- A slice that reads as legs. -/
def L3 (w : World) (B : Nat) (A : Option Addr) (n : Nat) (gs : List Tr) : Prop :=
  gs.length = n ∧ (0 < n → ∃ ad, A = some ad ∧ ad.block < B ∧ ∀ k (h : k < gs.length),
    w.cell? (ad.add (k * 3)) = some (.int .i64 gs[k].1) ∧ w.cell? ⟨(ad.add (k * 3)).block, (ad.add (k * 3)).off + 1, none⟩ = some (.int .i64 gs[k].2.1) ∧ w.cell? ⟨(ad.add (k * 3)).block, (ad.add (k * 3)).off + 2, none⟩ = some (.int .i64 gs[k].2.2))
theorem L3.keep {w w' : World} {B : Nat} {A : Option Addr} {n : Nat} {gs : List Tr} (h : L3 w B A n gs) (hk : ∀ p : Addr, p.block < B → w'.cell? p = w.cell? p) : L3 w' B A n gs := by
  obtain ⟨h1, h4⟩ := h
  refine ⟨h1, fun hn => ?_⟩
  obtain ⟨ad, e, hb, hc⟩ := h4 hn
  refine ⟨ad, e, hb, fun k h => ?_⟩
  obtain ⟨a, b, c⟩ := hc k h
  have hb' : (ad.add (k * 3)).block < B := by rw [block_of_add]; exact hb
  exact ⟨(hk _ hb').trans a, (hk ⟨(ad.add (k * 3)).block, (ad.add (k * 3)).off + 1, none⟩ hb').trans b, (hk ⟨(ad.add (k * 3)).block, (ad.add (k * 3)).off + 2, none⟩ hb').trans c⟩
theorem L3.below {w w' : World} {B : Nat} {A : Option Addr} {n : Nat} {gs : List Tr} (h : L3 w B A n gs) (hb : Below B w w') : L3 w' B A n gs := h.keep fun _ hp => hb.cell hp
structure LAt (w : World) (B : Nat) (p : Addr) (q : Tr) : Prop where
  lt : p.block < B
  c0 : w.cell? p = some (.int .i64 q.1)
  c1 : w.cell? ⟨p.block, p.off + 1, none⟩ = some (.int .i64 q.2.1)
  c2 : w.cell? ⟨p.block, p.off + 2, none⟩ = some (.int .i64 q.2.2)
theorem L3.at_ {w : World} {B : Nat} {A : Option Addr} {n : Nat} {gs : List Tr} (h : L3 w B A n gs) {k : Nat} (hk : k < n) :
    ∃ (ad p : Addr) (q : Tr), A = some ad ∧ ad.add (k * 3) = p ∧ gs[k]? = some q ∧ LAt w B p q := by
  obtain ⟨h1, h4⟩ := h
  obtain ⟨ad, e, hb, hc⟩ := h4 (by omega)
  have hl : k < gs.length := by omega
  obtain ⟨a, b, c⟩ := hc k hl
  exact ⟨ad, _, gs[k], e, rfl, List.getElem?_eq_getElem hl, ⟨by rw [block_of_add]; exact hb, a, b, c⟩⟩
theorem L3.of_holds {w : World} {g n : Nat} {d : Array Lg} (hH : HoldsK encG 3 w g 0 d) (hg : g < w.heap.size) (hn : d.size = n) : L3 w w.heap.size (some ⟨g, 0, none⟩) n (d.toList.map (·.1)) := by
  refine ⟨by simp [hn], fun _ => ⟨_, rfl, hg, fun k hk => ?_⟩⟩
  have hk' : k < d.size := by simpa using hk
  have hx : (d.toList.map (·.1))[k] = d[k]!.1 := by simp [getElem!_pos d k hk']
  have a0 := (hH.cell hk' (c := 0) (by omega)).1
  have a1 := (hH.cell hk' (c := 1) (by omega)).1
  have a2 := (hH.cell hk' (c := 2) (by omega)).1
  have ea : (⟨g, 0, none⟩ : Addr).add (k * 3) = ⟨g, k * 3, none⟩ := by unfold Addr.add; by_cases h0 : k * 3 = 0 <;> simp [h0]
  rw [ea, hx]
  refine ⟨?_, ?_, ?_⟩
  · simpa [encG, cell3] using a0
  · simpa [encG, cell3] using a1
  · simpa [encG, cell3] using a2
theorem sortWorldK_below {w : World} {base g : Nat} (d' : Array Lg) (m : Nat) (os : Array Obj) (hb : base ≤ g) (hB : base ≤ w.heap.size) : Below base w (sortWorldK encG 3 w g 0 m d' os) := by
  refine ⟨rfl, rfl, rfl, size_sortWorldK_c _ _ _ _ _ _ _ _, fun k hk => ?_⟩
  unfold sortWorldK grow putRowK putRow mapBlock
  rw [Array.getElem?_append_left (by simp; omega), Array.getElem?_modify, if_neg (by omega)]
  rfl
theorem get_bang (l : List Value) (i : Nat) (h : i < l.length) : l[i]? = some l[i]! := by simp [h]
set_option maxHeartbeats 1000000 in
theorem sortG_any {w : World} {base n : Nat} {v : Value} {gs : List Tr} (h : w.ownsRow base 126 3 v n (cells3 gs)) (hg : ∀ p ∈ gs, 1 ≤ p.1 ∧ p.1 ≤ 1099511627776) (hn : n ≤ 24) (hB : base ≤ w.heap.size) :
    Calls Tryz.prog 126 #[v, .func (.func 127) #[] #[]] w fun e w' => e = .returned (.tuple #[]) ∧ ∃ A c gs', v = .slice A n c ∧ gs'.Perm gs ∧ L3 w' w'.heap.size A n gs' ∧ Below base w w' := by
  have hl : gs.length = n := by have := h.1; rw [cells3_length] at this; omega
  rcases Nat.eq_zero_or_pos n with h0 | hpos
  · subst h0
    have e0 : gs = [] := List.eq_nil_of_length_eq_zero hl
    subst e0
    rcases h.2 with ⟨rfl, _⟩ | ⟨g, cap, cur, rfl, hb, hh, hc, hm, hs, ht⟩
    · have := sortNone none 0 w
      exact this.mono fun e w' ⟨he, hw⟩ => ⟨he, none, 0, [], rfl, List.Perm.refl _, ⟨rfl, by omega⟩, by rw [hw]; exact Below.refl _ _⟩
    · have := sortNone (some ⟨g, 0, none⟩) cap w
      exact this.mono fun e w' ⟨he, hw⟩ => ⟨he, _, _, [], rfl, List.Perm.refl _, ⟨rfl, by omega⟩, by rw [hw]; exact Below.refl _ _⟩
  · rcases h.2 with ⟨_, h0⟩ | ⟨g, cap, cur, rfl, hb, hh, hc, hm, hs, ht⟩
    · omega
    · have hlt : g < w.heap.size := (h.lt g rfl).2
      obtain ⟨d, hd⟩ : ∃ d : Array Lg, d.toList.map (·.1) = gs := ⟨(gs.attach.map fun p => (⟨p.1, hg p.1 p.2⟩ : Lg)).toArray, by rw [List.toList_toArray, List.map_map]; exact List.attach_map_subtype_val gs⟩
      have hds : d.size = n := by rw [← hl, ← hd]; simp
      have hH : HoldsK encG 3 w g 0 d := by
        intro j hj
        have hj' : j < d.size * 3 := by simpa using hj
        have hq : j / 3 < d.size := by omega
        have hx : gs[j / 3]'(by omega) = d[j / 3]!.1 := by simp only [← hd]; simp [getElem!_pos d (j / 3) hq]
        refine ⟨?_, by simp [World.frozen?, hh]⟩
        rw [get_flatK _ _ _ _ hj']
        have e := cells3_get gs (j / 3) (by omega) (j % 3) (Nat.mod_lt _ (by omega))
        rw [show j / 3 * 3 + j % 3 = j by omega, hx] at e
        have hy : (cell3 d[j / 3]!.1)[j % 3]? = some (encG d[j / 3]!)[j % 3]! := by
          exact get_bang _ _ (Nat.mod_lt _ (by omega))
        have := h.cells (g := g) rfl _ _ (e.trans hy)
        rw [show (⟨g, 0, none⟩ : Addr).add j = ⟨g, 0 + j, none⟩ by unfold Addr.add; by_cases h0 : j = 0 <;> simp [h0]] at this
        exact this
      have eg : ∀ args w, (callFunc 127 args).run Tryz.prog w = .ok (.enter 127 args) w := enters_of Tryz.func127 (by kernel_rfl) rfl
      have hcon := AnyQ.slices_SortFunc Tryz.sortLegs 3 Tryz.isAgg126 Tryz.sizeOf126 encG (fun _ => rfl) (fun x v hv => by simp [encG, cell3] at hv; rcases hv with rfl | rfl | rfl <;> rfl) cfG swoG 127 #[] g 0 cap d w eg (cmpLaysG g 0 d.size w) hH hlt (by omega)
      rw [hds] at hcon
      refine Calls.mono hcon ?_
      rintro e w' ⟨rfl, d', m, os, hp, _, rfl⟩
      have hs' : d'.size = d.size := hp.1
      have hH' : HoldsK encG 3 (sortWorldK encG 3 w g 0 m d' os) g 0 d' := holdsK_grow _ _ _ _ _ _ _ (by unfold putRowK; simp; exact hlt) (holdsK_putRowK encG 3 (Go.Sort.ahead w m) g 0 d d' (holdsK_ahead _ _ _ _ _ _ _ hH) hs')
      have hsz := size_sortWorldK_c encG 3 w g 0 m d' os
      refine ⟨rfl, _, _, d'.toList.map (·.1), rfl, ?_, ?_, sortWorldK_below d' m os hb hB⟩
      · rw [← hd]
        refine List.Perm.map _ ?_
        have := hp.2.2
        rw [show d'.extract 0 n = d' by rw [← hds, ← hs']; simp, show d.extract 0 n = d by rw [← hds]; simp] at this
        exact this
      · exact L3.of_holds hH' (by omega) (by omega)
end Go.Proofs.YtcoplbaopaigcaaGreat
