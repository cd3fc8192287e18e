/- Where a text is cut, and the pieces that it is cut into. -/
import Derived.Test.YtcoplbaopaigcaaGreatCqI
import Derived.Test.YtcoplbaopaigcaaGreatCqL
set_option linter.all false
namespace Go.Proofs.YtcoplbaopaigcaaGreat
open Go.RowKit
def SiRel (xs ys : List Int) (n : Nat) (w wr : World) (i : Value) : Prop := ∃ k d : Nat, k ≤ n ∧ wr = w.drewN d ∧ i = .int .i64 k ∧ ∀ j (h : j < xs.length) (h' : j < ys.length), j < k → xs[j] = ys[j]
theorem drew2 (w : World) (d q : Nat) : (w.drewN d).drewN q = w.drewN (d + q) := by simp [World.drewN, Nat.add_assoc]
theorem eq_no {xs ys : List Int} {k : Nat} (h : k < xs.length) (h' : k < ys.length) (hne : xs[k] ≠ ys[k]) : decide (xs = ys) = false := by
  apply decide_eq_false
  rintro rfl
  exact hne rfl
theorem eq_yes {xs ys : List Int} (hl : xs.length = ys.length) (h : ∀ j (h : j < xs.length) (h' : j < ys.length), xs[j] = ys[j]) : decide (xs = ys) = true :=
  decide_eq_true (List.ext_getElem hl h)
set_option maxHeartbeats 1000000 in
theorem sameInts_any (A : Option Addr) (n c : Nat) (xs : List Int) (A2 : Option Addr) (n2 c2 : Nat) (ys : List Int) (w : World) (B : Nat) (hr : Reads w B 1 A n (xs.map (Value.int .i64))) (hr2 : Reads w B 1 A2 n2 (ys.map (Value.int .i64))) (hn : n ≤ maxLen) :
    Calls Tryz.prog 29 #[.slice A n c, .slice A2 n2 c2] w fun e w' => e = .returned (.bool (decide (xs = ys))) ∧ ∃ d, w' = w.drewN d := by
  have HL := hid (show xs.length = n by have := hr.1; simpa using this)
  have HL2 := hid (show ys.length = n2 by have := hr2.1; simpa using this)
  unfold maxLen at hn
  by_cases hnn : n = n2
  · subst hnn
    go_enter Tryz.func29, Tryz.ntmps29
    go_wp2
    go_loopw [5] (fun i wr => SiRel xs ys n w wr i) (fun i _ => n - (intOf i).toNat)
    case atStart => exact ⟨0, 0, Nat.zero_le _, rfl, rfl, by intros; omega⟩
    case round =>
      obtain ⟨k, d, hk, rfl, rfl, hall⟩ := hrel
      have HA := hid hall
      clear hall
      by_cases hlt : k < n
      · have hkl : k < xs.length := by rw [HL.out]; exact hlt
        have hkl2 : k < ys.length := by rw [HL2.out]; exact hlt
        obtain ⟨ad, rfl, hc⟩ := reads_int hr hlt hkl
        obtain ⟨ad2, rfl, hc2⟩ := reads_int hr2 hlt hkl2
        obtain ⟨x, hx⟩ : ∃ x, xs[k] = x := ⟨_, rfl⟩
        obtain ⟨y, hy⟩ : ∃ y, ys[k] = y := ⟨_, rfl⟩
        rw [hx] at hc
        rw [hy] at hc2
        have HX := hid hx
        have HY := hid hy
        clear hx hy
        by_cases h1 : x = y
        · go_wp2
          go_quiet (fail)
          go_wp2
          go_roundw
          case rel =>
            refine ⟨k + 1, _, by omega, rfl, by go_num, fun j h h' hj => ?_⟩
            by_cases hjk : j = k
            · subst hjk; rw [HX.out, HY.out]; exact h1
            · exact HA.out j h h' (by omega)
          case measure => simp [intOf]; omega
        · go_wp2
          go_quiet (fail)
          go_wp2
          go_ret
          exact ⟨ret_bool (eq_no hkl hkl2 (by rw [HX.out, HY.out]; exact h1)).symm, _, drew2 _ _ _⟩
      · go_wp2
        go_ret
        exact ⟨ret_bool (eq_yes (by rw [HL.out, HL2.out]) fun j h h' => HA.out j h h' (by rw [HL.out] at h; omega)).symm, _, rfl⟩
  · have hne : ¬ (n : Int) = n2 := by omega
    go_enter Tryz.func29, Tryz.ntmps29
    go_wp2
    go_ret
    exact ⟨ret_bool (decide_eq_false (by rintro rfl; exact hnn (HL.out.symm.trans HL2.out))).symm, 0, rfl⟩
/-- The ends from a start on: where the last one ends, if all are right. -/
def endsGo (W : Int) : Int → List Int → Option Int
  | s, [] => some s
  | s, e :: t => if (decide (W < e) || !win 1 40 (e - s)) = true then none else endsGo W e t
def endsOk (W : Int) (l : List Int) : Bool := match endsGo W 0 l with | none => false | some s => decide (0 < l.length) && decide (s = W)
theorem win_wrap {e s : Int} (h : -9223372036854775808 ≤ e ∧ e ≤ 9223372036854775807) (hs : 0 ≤ s ∧ s ≤ 960) : win 1 40 (IntKind.i64.wrap (e - s)) = win 1 40 (e - s) := by
  by_cases h1 : -9223372036854775808 ≤ e - s
  · rw [IntWalk.i64_in _ (by omega)]
  · have e1 : IntKind.i64.wrap (e - s) = e - s + 18446744073709551616 := by rw [IntKind.wrap_i64]; omega
    rw [e1]
    have a : win 1 40 (e - s + 18446744073709551616) = false := by
      cases hh : win 1 40 (e - s + 18446744073709551616) with
      | false => rfl
      | true => have := win_iff.1 hh; omega
    have b : win 1 40 (e - s) = false := by
      cases hh : win 1 40 (e - s) with
      | false => rfl
      | true => have := win_iff.1 hh; omega
    rw [a, b]
def EnRel (W : Int) (l : List Int) (m : Nat) (s i : Value) : Prop := ∃ (k : Nat) (sv : Int), k ≤ m ∧ i = .int .i64 k ∧ s = .int .i64 sv ∧ 0 ≤ sv ∧ sv ≤ W ∧ endsGo W 0 l = endsGo W sv (l.drop k)
set_option maxHeartbeats 2000000 in
theorem areEnds_any (A : Option Addr) (m c : Nat) (l : List Int) (W : Int) (w : World) (B : Nat) (hr : Reads w B 1 A m (l.map (Value.int .i64))) (hm : m ≤ maxLen) (hW : 0 ≤ W ∧ W ≤ 960) (hwf : ∀ z ∈ l, -9223372036854775808 ≤ z ∧ z ≤ 9223372036854775807) :
    Calls Tryz.prog 113 #[.slice A m c, .int .i64 W] w fun e w' => e = .returned (.bool (endsOk W l)) ∧ w = w' := by
  have HL := hid (show l.length = m by have := hr.1; simpa using this)
  have HWF := hid hwf
  clear hwf
  unfold maxLen at hm
  go_enter Tryz.func113, Tryz.ntmps113
  go_wp2
  go_loop [5, 10] (EnRel W l m) (fun _ i => m - (intOf i).toNat)
  case atStart => exact ⟨0, 0, Nat.zero_le _, rfl, rfl, by omega, hW.1, rfl⟩
  case round =>
    obtain ⟨k, sv, hk, rfl, rfl, h0, h1, he⟩ := hrel
    have HE := hid he
    clear he
    by_cases hlt : k < m
    · have hkl : k < l.length := by rw [HL.out]; exact hlt
      obtain ⟨ad, rfl, hc⟩ := reads_int hr hlt hkl
      have hzw := HWF.out l[k] (List.getElem_mem _)
      have hdr := List.drop_eq_getElem_cons hkl
      obtain ⟨z, hz⟩ : ∃ z, l[k] = z := ⟨_, rfl⟩
      rw [hz] at hc hzw hdr
      have hws := win_wrap hzw (show 0 ≤ sv ∧ sv ≤ 960 by omega)
      rw [show IntKind.i64.wrap (z - sv) = wrap64 (z - sv) from IntWalk.i64_left _] at hws
      have HD := hid hdr
      clear hz hdr
      by_cases hg : W < z
      · have HN := hid (show endsOk W l = false by unfold endsOk; rw [HE.out, HD.out, endsGo, if_pos (by simp [hg])])
        go_wp2
        go_ret
        exact ⟨ret_bool HN.out.symm, rfl⟩
      · cases hwn : win 1 40 (z - sv) with
        | false =>
          have HN := hid (show endsOk W l = false by unfold endsOk; rw [HE.out, HD.out, endsGo, if_pos (by simp [hwn])])
          rw [hwn] at hws
          go_wp2_with (go_at_call 118; refine (within_any _ _ _ _).mono ?_; rintro e w' ⟨rfl, rfl⟩; rw [hws])
          go_wp2
          go_ret
          exact ⟨ret_bool HN.out.symm, rfl⟩
        | true =>
          have HN := hid (show endsGo W 0 l = endsGo W z (l.drop (k + 1)) by rw [HE.out, HD.out, endsGo, if_neg (by simp [hwn]; omega)])
          have hz2 := win_iff.1 hwn
          rw [hwn] at hws
          go_wp2_with (go_at_call 118; refine (within_any _ _ _ _).mono ?_; rintro e w' ⟨rfl, rfl⟩; rw [hws])
          go_wp2
          all_goals
            refine ⟨⟨k + 1, z, by omega, by go_num, rfl, by omega, by omega, HN.out⟩, ?_⟩
            simp [intOf]; omega
    · have e : l.drop k = [] := by rw [show k = l.length by rw [HL.out]; omega]; simp
      have HN := hid (show endsOk W l = (decide (0 < m) && decide (sv = W)) by unfold endsOk; rw [HE.out, e, endsGo, HL.out])
      clear e
      by_cases hm0 : 0 < m
      · by_cases hsw : sv = W
        · go_wp2
          go_ret
          exact ⟨ret_bool (by rw [HN.out]; simp [hm0, hsw]), rfl⟩
        · go_wp2
          go_ret
          exact ⟨ret_bool (by rw [HN.out]; simp [hm0, hsw]), rfl⟩
      · go_wp2
        go_ret
        exact ⟨ret_bool (by rw [HN.out]; simp [hm0]), rfl⟩
end Go.Proofs.YtcoplbaopaigcaaGreat
namespace Go.Proofs.YtcoplbaopaigcaaGreat
open Go.RowKit
def cellP (p : Pc) : List Value := [.int .i64 p.id, .slice p.A p.n p.c, .int .i64 p.ct]
def cellsP (ps : List Pc) : List Value := ps.flatMap cellP
theorem cellsP_app (a b : List Pc) : cellsP (a ++ b) = cellsP a ++ cellsP b := by simp [cellsP]
def OwnsWords (w : World) (base : Nat) (ps : List Pc) : Prop := ∀ p ∈ ps, w.ownsRow base 3 1 (.slice p.A p.n p.c) p.n (p.ws.map (Value.int .i64))
def dataP (p : Pc) : Int × List Int × Int := (p.id, p.ws, p.ct)
def cutGo (tx : List Int) : Nat → Nat → List Int → List (Int × List Int × Int)
  | _, _, [] => []
  | i, s, e :: t => ((i : Int) + 1, (tx.drop s).take (e.toNat - s), tx.getD (e.toNat % tx.length) 0) :: cutGo tx (i + 1) e.toNat t
def cutE (tx l : List Int) : Int := if 960 < tx.length ∨ 24 < l.length then 2 else if (wsOk tx && endsOk tx.length l) = true then 0 else 1
def cutL (tx l : List Int) : List (Int × List Int × Int) := if cutE tx l = 0 then cutGo tx 0 0 l else []
def CutRel (tx l : List Int) (m : Nat) (w wr : World) (v st i : Value) : Prop :=
  ∃ (k s : Nat) (ps : List Pc), k ≤ m ∧ i = .int .i64 k ∧ st = .int .i64 s ∧ s ≤ tx.length ∧ endsGo tx.length 0 l = endsGo tx.length s (l.drop k) ∧ Below w.heap.size w wr ∧ ps.length = k ∧
    wr.ownsRow w.heap.size 107 3 v k (cellsP ps) ∧ OwnsWords wr w.heap.size ps ∧ ps.map dataP ++ cutGo tx k s (l.drop k) = cutGo tx 0 0 l
def RetP (tx l : List Int) (w : World) (e : Ending) (w' : World) : Prop :=
  ∃ v ps, e = .returned (.tuple #[v, .int .i64 (cutE tx l)]) ∧ ps.map dataP = cutL tx l ∧ w'.ownsRow w.heap.size 107 3 v ps.length (cellsP ps) ∧ OwnsWords w' w.heap.size ps ∧ Below w.heap.size w w'
theorem endsGo_step {W s e : Int} {t : List Int} (h : endsGo W s (e :: t) ≠ none) : e ≤ W ∧ 1 ≤ e - s ∧ e - s ≤ 40 ∧ endsGo W s (e :: t) = endsGo W e t := by
  rw [endsGo] at h ⊢
  by_cases hc : (decide (W < e) || !win 1 40 (e - s)) = true
  · rw [if_pos hc] at h; exact absurd rfl h
  · rw [if_neg hc]
    simp only [Bool.or_eq_true, decide_eq_true_eq, Bool.not_eq_true', not_or, Bool.not_eq_false] at hc
    have := win_iff.1 hc.2
    exact ⟨by omega, this.1, this.2, rfl⟩
theorem spot_none {w : World} {p : Addr} {u : Value} (h : w.cell? p = some u) : p.spot = none := by
  unfold World.cell? at h
  split at h
  · cases hs : p.spot with
    | none => rfl
    | some x => rw [hs] at h; simp at h
  · cases h
theorem own_slice {w : World} {base n : Nat} {e : TypeId} {size : Nat} {v : Value} {xs : List Value} (h : w.ownsRow base e size v n xs) : ∃ A c, v = .slice A n c := by
  rcases h.2 with ⟨rfl, rfl⟩ | ⟨g, cap, cur, rfl, _⟩
  · exact ⟨_, _, rfl⟩
  · exact ⟨_, _, rfl⟩
theorem cloneS {w : World} {B : Nat} {ad : Addr} {n : Nat} {tx : List Int} (hr : Reads w B 1 (some ad) n (tx.map (Value.int .i64))) {s e : Nat} (hs : s < e) (he : e ≤ n) (hn : n ≤ 960) (c' : Nat) :
    Calls Tryz.prog 114 #[.slice (some (ad.add s)) (e - s) c'] w fun en w' => ∃ A' d', en = .returned (.slice A' (e - s) d') ∧ w'.ownsRow w.heap.size 3 1 (.slice A' (e - s) d') (e - s) (((tx.drop s).take (e - s)).map (Value.int .i64)) ∧ Below w.heap.size w w' := by
  have hl : tx.length = n := by have := hr.1; simpa using this
  obtain ⟨a, ha, hb, hc⟩ := hr.2 (by omega)
  cases ha
  have hc0 := hc 0 (.int .i64 tx[0]) (by rw [List.getElem?_map, List.getElem?_eq_getElem (by omega)]; rfl)
  rw [add0] at hc0
  have hsp := spot_none hc0
  obtain ⟨b, off, sp⟩ := ad
  simp only at hsp
  subst hsp
  have e1 : (⟨b, off, none⟩ : Addr).add s = ⟨b, off + s, none⟩ := by unfold Addr.add; by_cases h0 : s = 0 <;> simp [h0]
  rw [e1]
  have := Tryz.slices_Clone_int b (off + s) (e - s) c' ((tx.drop s).take (e - s)) w (by simp; omega) (by omega) (fun j hj => by
    have hj' : j < e - s := by simp at hj; omega
    have hx := hc (s + j) (.int .i64 (tx[s + j]'(by omega))) (by rw [List.getElem?_map, List.getElem?_eq_getElem (by omega)]; rfl)
    have e2 : (⟨b, off, none⟩ : Addr).add (s + j) = ⟨b, off + s + j, none⟩ := by
      unfold Addr.add
      by_cases h0 : s + j = 0
      · simp [show s = 0 by omega, show j = 0 by omega]
      · simp only [if_neg h0, Nat.add_assoc]
    rw [e2] at hx
    rw [hx]
    have hlt : s + j < tx.length := by omega
    simp [List.getD, List.getElem?_drop, hj', hlt])
  refine this.mono ?_
  rintro en w' ⟨v', rfl, h1, _, h3⟩
  rw [List.take_of_length_le (by simp; omega)] at h1
  obtain ⟨A', d', rfl⟩ := own_slice h1
  exact ⟨A', d', rfl, h1, h3⟩
theorem info107 : (Tryz.prog.info? 107).map (fun i => (i.zero, i.size, i.bytes)) = some (some (.agg #[.int .i64 0, .slice none 0 0, .int .i64 0]), 3, 40) := by kernel_rfl
end Go.Proofs.YtcoplbaopaigcaaGreat
namespace Go.Proofs.YtcoplbaopaigcaaGreat
open Go.RowKit
theorem own_base {w : World} {base base' n size : Nat} {e : TypeId} {v : Value} {xs : List Value} (h : w.ownsRow base e size v n xs) (hb : base' ≤ base) : w.ownsRow base' e size v n xs := by
  refine ⟨h.1, ?_⟩
  rcases h.2 with h0 | ⟨g, cap, cur, e1, hg, r⟩
  · exact Or.inl h0
  · exact Or.inr ⟨g, cap, cur, e1, by omega, r⟩
theorem own_own_ne {w : World} {b1 b2 n1 n2 s1 s2 : Nat} {e1 e2 : TypeId} {v1 v2 : Value} {x1 x2 : List Value} (h1 : w.ownsRow b1 e1 s1 v1 n1 x1) (h2 : w.ownsRow b2 e2 s2 v2 n2 x2) (hne : e1 ≠ e2) : v1.ownBlock = none ∨ v1.ownBlock ≠ v2.ownBlock := by
  rcases h1.2 with ⟨rfl, _⟩ | ⟨g, cap, cur, rfl, _, hh, _⟩
  · exact Or.inl rfl
  · right
    rcases h2.2 with ⟨rfl, _⟩ | ⟨g', cap', cur', rfl, _, hh', _⟩
    · simp [Value.ownBlock]
    · intro e
      have : g = g' := by simpa [Value.ownBlock] using e
      subst this
      rw [hh] at hh'
      injection hh' with hh'
      injection hh' with _ ht
      exact hne ht
theorem own_grown {w w' : World} {base n size b2 n2 s2 : Nat} {e e2 : TypeId} {v v2 : Value} {xs x2 : List Value} (h : w.ownsRow base e size v n xs) (h2 : w.ownsRow b2 e2 s2 v2 n2 x2) (hne : e ≠ e2) (hg : w.grownBy w' v2.ownBlock) : w'.ownsRow base e size v n xs := by
  refine ⟨h.1, ?_⟩
  rcases own_own_ne h h2 hne with h0 | h0
  · rcases h.2 with h1 | ⟨g, cap, cur, rfl, _⟩
    · exact Or.inl h1
    · simp [Value.ownBlock] at h0
  · rcases h.2 with h1 | ⟨g, cap, cur, rfl, hb, hh, r⟩
    · exact Or.inl h1
    · have hlt : g < w.heap.size := by
        rcases Nat.lt_or_ge g w.heap.size with h' | h'
        · exact h'
        · rw [Array.getElem?_eq_none h'] at hh; cases hh
      exact Or.inr ⟨g, cap, cur, rfl, hb, (hg.block g hlt (by simpa [Value.ownBlock] using h0)).trans hh, r⟩
theorem cut_next {tx l : List Int} {n m k s e r : Nat} {ps : List Pc} {w wo w0 w1 W w2 : World} {u v1 : Value} {A' : Option Addr} {d' : Nat} {y : Int} (hkl : k < l.length) (hkm : k < m) (HL : Hid (tx.length = n)) (HZ : Hid (l[k] = (e : Int)))
    (HQ4 : Hid (endsGo tx.length s ((e : Int) :: l.drop (k + 1)) = endsGo tx.length e (l.drop (k + 1)))) (HEG : Hid (endsGo tx.length 0 l = endsGo tx.length s (l.drop k))) (HPL : Hid (ps.length = k))
    (HDA : Hid (ps.map dataP ++ cutGo tx k s (l.drop k) = cutGo tx 0 0 l)) (hse : s < e) (hen : e ≤ n) (HRR : Hid (e % n = r)) (hrn : r < n) (HY : Hid (tx[r]'(by rw [HL.out]; exact hrn) = y))
    (hbl : Below w.heap.size w wo) (HOW : Hid (wo.ownsRow w.heap.size 107 3 u k (cellsP ps))) (HOO : Hid (OwnsWords wo w.heap.size ps)) (HBX : Hid (Below wo.heap.size wo w1)) (hw0 : w.heap.size ≤ w0.heap.size)
    (HOX : Hid (w1.ownsRow w0.heap.size 3 1 (.slice A' (e - s) d') (e - s) (((tx.drop s).take (e - s)).map (Value.int .i64)))) (hW : Below w1.heap.size w1 W) (HG1 : Hid (W.grownBy w2 u.ownBlock))
    (HO1 : Hid (w2.ownsRow w.heap.size 107 3 v1 (k + 1) (cellsP ps ++ [.int .i64 ((k : Int) + 1), .slice A' (e - s) d', .int .i64 y]))) :
    CutRel tx l m w w2 v1 (.int .i64 e) (.int .i64 ((k : Int) + 1)) := by
  have hWo : Below wo.heap.size wo W := HBX.out.trans (hW.mono HBX.out.size)
  have hown : W.ownsRow w.heap.size 107 3 u k (cellsP ps) := own_below HOW.out hWo
  have hdr := List.drop_eq_getElem_cons hkl
  refine ⟨k + 1, e, ps ++ [⟨(k : Int) + 1, A', e - s, d', (tx.drop s).take (e - s), y⟩], by omega, by go_num, rfl, by rw [HL.out]; exact hen, ?_, ?_, ?_, ?_, ?_, ?_⟩
  · rw [HEG.out, hdr, HZ.out, HQ4.out]
  · exact (hbl.trans (hWo.mono hbl.size)).grown HG1.out (by have := hbl.size; have := hWo.size; omega) (fun g hg => (HOW.out.lt g hg).1)
  · simp [HPL.out]
  · rw [cellsP_app]; exact HO1.out
  · intro p hp
    rcases List.mem_append.1 hp with hp | hp
    · exact own_grown (own_below (HOO.out p hp) hWo) hown (by decide) HG1.out
    · have : p = ⟨(k : Int) + 1, A', e - s, d', (tx.drop s).take (e - s), y⟩ := by simpa using hp
      subst this
      exact own_grown (own_base (own_below HOX.out hW) hw0) hown (by decide) HG1.out
  · rw [← HDA.out, hdr, HZ.out, cutGo, List.map_append, List.append_assoc]
    congr 1
    have hy : tx.getD (e % tx.length) 0 = y := by
      rw [HL.out, HRR.out, ← HY.out]
      simp [List.getD, List.getElem?_eq_getElem (show r < tx.length by rw [HL.out]; exact hrn)]
    simp [dataP]
    exact hy.symm.trans (by simp)
end Go.Proofs.YtcoplbaopaigcaaGreat
namespace Go.Proofs.YtcoplbaopaigcaaGreat
open Go.RowKit
theorem below_drew (w : World) : Below w.heap.size w w.drew := ⟨rfl, rfl, rfl, Nat.le_refl _, fun _ _ => rfl⟩
theorem one3' (a : Int) (A : Option Addr) (n c : Nat) (b : Int) : ∀ u ∈ [Value.int .i64 a, Value.slice A n c, Value.int .i64 b], u.oneCell' = true := by
  intro u hu
  simp only [List.mem_cons, List.not_mem_nil, or_false] at hu
  rcases hu with rfl | rfl | rfl <;> rfl
set_option maxHeartbeats 20000000 in
set_option maxRecDepth 100000 in
theorem cut_any (A : Option Addr) (n c : Nat) (tx : List Int) (A2 : Option Addr) (m c2 : Nat) (l : List Int) (w : World) (B : Nat) (hB : B ≤ w.heap.size) (hr : Reads w B 1 A n (tx.map (Value.int .i64))) (hn : n ≤ maxLen) (hcap : n ≤ c)
    (hr2 : Reads w B 1 A2 m (l.map (Value.int .i64))) (hm : m ≤ maxLen) (hwf : ∀ z ∈ l, -9223372036854775808 ≤ z ∧ z ≤ 9223372036854775807) :
    Calls Tryz.prog 50 #[.slice A n c, .slice A2 m c2] w (RetP tx l w) := by
  have HL := hid (show tx.length = n by have := hr.1; simpa using this)
  have HL2 := hid (show l.length = m by have := hr2.1; simpa using this)
  have HR := hid hr
  have HR2 := hid hr2
  have HW := hid hwf
  have HWO := hid (areWords_any A n c tx w B hr hn)
  have hnil : ∀ W : World, W.ownsRow w.heap.size 107 3 (.slice none 0 0) ([] : List Pc).length (cellsP []) := fun W => World.ownsRow_nil _ _ _ _
  by_cases h960 : 960 < n
  · have HE := hid (show cutE tx l = 2 by unfold cutE; rw [HL.out, if_pos (Or.inl h960)])
    have HC := hid (show cutL tx l = [] by unfold cutL; rw [HE.out, if_neg (by omega)])
    go_enter Tryz.func50, Tryz.ntmps50
    go_wp2
    refine bodyPost_ret (v := .tuple #[.slice none 0 0, .int .i64 2]) (by simp [results, Tryz.results50, go_sem]) rfl ⟨_, [], by rw [HE.out], by rw [HC.out]; rfl, hnil _, by intro p hp; simp at hp, Below.refl _ _⟩
  · by_cases h24 : 24 < m
    · have HE := hid (show cutE tx l = 2 by unfold cutE; rw [HL2.out, if_pos (Or.inr h24)])
      have HC := hid (show cutL tx l = [] by unfold cutL; rw [HE.out, if_neg (by omega)])
      go_enter Tryz.func50, Tryz.ntmps50
      go_wp2
      refine bodyPost_ret (v := .tuple #[.slice none 0 0, .int .i64 2]) (by simp [results, Tryz.results50, go_sem]) rfl ⟨_, [], by rw [HE.out], by rw [HC.out]; rfl, hnil _, by intro p hp; simp at hp, Below.refl _ _⟩
    · have HEN := hid (areEnds_any A2 m c2 l n w B hr2 hm (by omega) hwf)
      cases hwo : wsOk tx with
      | false =>
        have HE := hid (show cutE tx l = 1 by unfold cutE; rw [HL.out, HL2.out, if_neg (by omega), hwo]; rfl)
        have HC := hid (show cutL tx l = [] by unfold cutL; rw [HE.out, if_neg (by omega)])
        go_enter Tryz.func50, Tryz.ntmps50
        go_wp2_with (go_at_call 112; refine HWO.out.mono ?_; rintro e w1 ⟨rfl, rfl⟩; rw [hwo])
        refine bodyPost_ret (v := .tuple #[.slice none 0 0, .int .i64 1]) (by simp [results, Tryz.results50, go_sem]) rfl ⟨_, [], by rw [HE.out], by rw [HC.out]; rfl, hnil _, by intro p hp; simp at hp, Below.refl _ _⟩
      | true =>
        cases heo : endsOk n l with
        | false =>
          have HE := hid (show cutE tx l = 1 by unfold cutE; rw [HL.out, HL2.out, if_neg (by omega), hwo, heo]; rfl)
          have HC := hid (show cutL tx l = [] by unfold cutL; rw [HE.out, if_neg (by omega)])
          go_enter Tryz.func50, Tryz.ntmps50
          go_wp2_with (first
            | (go_at_call 112; refine HWO.out.mono ?_; rintro e w1 ⟨rfl, rfl⟩; rw [hwo])
            | (go_at_call 113; refine HEN.out.mono ?_; rintro e w1 ⟨rfl, rfl⟩; rw [heo]))
          refine bodyPost_ret (v := .tuple #[.slice none 0 0, .int .i64 1]) (by simp [results, Tryz.results50, go_sem]) rfl ⟨_, [], by rw [HE.out], by rw [HC.out]; rfl, hnil _, by intro p hp; simp at hp, Below.refl _ _⟩
        | true =>
          have HE := hid (show cutE tx l = 0 by unfold cutE; rw [HL.out, HL2.out, if_neg (by omega), hwo, heo]; rfl)
          have HC := hid (show cutL tx l = cutGo tx 0 0 l by unfold cutL; rw [HE.out, if_pos rfl])
          have HS := hid (show ∀ s k, endsGo tx.length 0 l = endsGo tx.length s (l.drop k) → endsGo (tx.length : Int) s (l.drop k) ≠ none by
            intro s k h e
            rw [e] at h
            unfold endsOk at heo
            rw [← HL.out, h] at heo
            cases heo)
          obtain ⟨i0, hi0, hz0, hz1, hz2⟩ := info_parts info107
          go_enter Tryz.func50, Tryz.ntmps50
          go_wp2_with (first
            | (go_at_call 112; refine HWO.out.mono ?_; rintro e w1 ⟨rfl, rfl⟩; rw [hwo])
            | (go_at_call 113; refine HEN.out.mono ?_; rintro e w1 ⟨rfl, rfl⟩; rw [heo]))
          go_loopw [6, 7, 30] (fun v st i wr => CutRel tx l m w wr v st i) (fun _ _ i _ => m - (intOf i).toNat)
          case atStart => exact ⟨0, 0, [], Nat.zero_le _, rfl, rfl, Nat.zero_le _, rfl, Below.refl _ _, rfl, hnil _, by intro p hp; simp at hp, rfl⟩
          case round =>
            obtain ⟨k, s, ps, hk, rfl, rfl, hsn, heg, hbl, hpl, hown, howw, hdat⟩ := hrel
            have HEG := hid heg
            have HPL := hid hpl
            have HOW := hid hown
            have HOO := hid howw
            have HDA := hid hdat
            clear heg hpl hown howw hdat
            obtain ⟨wo, rfl⟩ : ∃ wo : World, wo = wr := ⟨_, rfl⟩
            by_cases hlt : k < m
            · have hkl : k < l.length := by rw [HL2.out]; exact hlt
              obtain ⟨ad2, rfl, hc2⟩ := reads_int (HR2.out.below (hbl.mono hB)) hlt hkl
              have hst := endsGo_step (by have := HS.out s k HEG.out; rwa [List.drop_eq_getElem_cons hkl] at this)
              obtain ⟨z, hz⟩ : ∃ z, l[k] = z := ⟨_, rfl⟩
              rw [hz] at hc2 hst
              obtain ⟨q1, q2, q3, q4⟩ := hst
              have HZ := hid hz
              have HQ4 := hid q4
              clear hz q4
              rw [HL.out] at q1
              obtain ⟨e, rfl⟩ : ∃ e : Nat, z = e := ⟨z.toNat, by omega⟩
              have hse : s < e := by omega
              have hen : e ≤ n := by omega
              have he40 : e ≤ s + 40 := by omega
              clear q1 q2 q3
              obtain ⟨ad, hA, hab, hcw⟩ := HR.out.2 (by omega)
              subst hA
              obtain ⟨r, hr0⟩ : ∃ r, e % n = r := ⟨_, rfl⟩
              have hrn : r < n := by rw [← hr0]; exact Nat.mod_lt _ (by omega)
              have htm : ((e : Nat) : Int).tmod (n : Int) = (r : Int) := by rw [← hr0]; simp [Int.tmod]
              have HRR := hid hr0
              have hcr := hcw r (.int .i64 (tx[r]'(by rw [HL.out]; exact hrn))) (by rw [List.getElem?_map, List.getElem?_eq_getElem]; rfl)
              obtain ⟨y, hy⟩ : ∃ y, tx[r]'(by rw [HL.out]; exact hrn) = y := ⟨_, rfl⟩
              rw [hy] at hcr
              have HY := hid hy
              have HCR := hid (fun (W : World) (hW : Below w.heap.size w W) => (hW.cell (p := ad.add r) (by rw [block_of_add]; omega)).trans hcr)
              have hcr1 := HCR.out wo hbl
              have hn0 : ¬ n = 0 := by omega
              have hsc : e ≤ c := by omega
              have hse' : s ≤ e := by omega
              have hcs : ¬ c = s := by omega
              have hwk : IntKind.i64.wrap ((k : Int) + 1) = (k : Int) + 1 := IntWalk.i64_in _ (by omega)
              have HRD := hid (HR.out.below ((hbl.trans ((below_drew wo).mono hbl.size)).mono hB))
              clear hr0 hy hcw hcr
              go_wp2
              go_region_law (first
                | (go_simp; go_at_call 114; refine (cloneS (HRD.out) hse hen (by omega) _).mono ?_; rintro en w1 ⟨A', d', rfl, how, hb1⟩; have HBX := hid (show Below wo.heap.size wo w1 from (below_drew wo).trans hb1); have HOX := hid how; have hcr2 := HCR.out w1 (hbl.trans (HBX.out.mono hbl.size)); clear how hb1)
                | (refine step_append_own rfl (.tmp 35) (.tmp 51) 22 rfl w.heap.size 107 i0 _ 3 40 Tryz.underlying22 hi0 hz0 hz1 hz2 rfl (by decide) u6 _ _ rfl (own_below HOW.out (HBX.out.alloc HBX.out.size _)) ⟨_, 0, none⟩ 1 1 [.int .i64 ((k : Int) + 1), .slice A' (e - s) d', .int .i64 y] rfl rfl (new3 _ _ _ _ _) (one3' _ _ _ _ _) (by unfold maxLen; omega) (by omega) (by have := HBX.out.size; have := hbl.size; simp; omega) ?_; intro v1 w2 hown1 hg1; have HG1 := hid hg1; have HO1 := hid hown1; clear hg1 hown1))
              all_goals (
                go_wp2
                go_roundw
                case rel => exact cut_next hkl hlt HL HZ HQ4 HEG HPL HDA hse hen HRR hrn HY hbl HOW HOO HBX (show w.heap.size ≤ wo.drew.heap.size from hbl.size) HOX ((Below.refl _ _).alloc (Nat.le_refl _) _) HG1 HO1
                case measure => simp [intOf]; omega)
            · have HX := hid (show k = m by omega)
              go_wp2
              refine bodyPost_ret (v := .tuple #[u6, .int .i64 0]) (by simp [results, Tryz.results50, go_sem]) rfl ⟨_, ps, by rw [HE.out], ?_, ?_, HOO.out, hbl⟩
              · have := HDA.out
                rw [show l.drop k = [] by rw [HX.out, ← HL2.out]; simp, cutGo, List.append_nil] at this
                rw [HC.out, this]
              · rw [HPL.out]; exact HOW.out
end Go.Proofs.YtcoplbaopaigcaaGreat
