/- Contracts of functions, walked. -/
import Derived.Test.YtgddlpegljkgpaaStS4
set_option linter.all false
namespace Go.Proofs.Try
open Go Go.Am Go.RowKit
set_option maxRecDepth 100000

/-! Collect. -/

theorem Str.cellsOf (x : Str) : cellsOfV x.val = x.cells := rfl
def strCells (l : List Str) : List Value := l.flatMap Str.cells
theorem strCells_length : ∀ l : List Str, (strCells l).length = l.length * 5
  | [] => rfl
  | a :: l => by
    have := strCells_length l
    simp only [strCells, List.flatMap_cons, List.length_append] at *
    rw [this]; simp [Str.cells]; omega
theorem strCells_app (l : List Str) (x : Str) : strCells (l ++ [x]) = strCells l ++ x.cells := by simp [strCells]
theorem strCells_one : ∀ l : List Str, (strCells l).all oneV = true
  | [] => rfl
  | a :: l => by
    have := strCells_one l
    simp only [strCells, List.flatMap_cons, List.all_append, Bool.and_eq_true] at *
    exact ⟨rfl, this⟩

/-- What the loop of AppendSeq holds: its loop l, its cell c, and the block of the slice. -/
def ColS (bs l c : Nat) (L : List Value) (D : Nat → Prop) (H : AHeap) : Prop := ∃ (v : Value) (xs : List Str), L = xs.map Str.val ∧ bs ≤ c ∧ c < l ∧ l < H.n ∧ H.get l = .loop .ready none ∧ H.get c = .row [v] 143 ∧ Own H bs v 149 5 (strCells xs) ∧ ∀ i, D i ↔ i = l ∨ i = c ∨ ∃ n, v = .slice (some ⟨i, 0, none⟩) n n ∧ 0 < n

theorem own_block {H : AHeap} {bs : Nat} {v : Value} {e : TypeId} {size : Nat} {cells : List Value} (h : Own H bs v e size cells) {i n : Nat} (hv : v = .slice (some ⟨i, 0, none⟩) n n) (hn : 0 < n) : bs ≤ i ∧ i < H.n ∧ H.get i = .row cells e := by
  rcases h with ⟨h, _⟩ | ⟨b, m, h1, h2, h3, h4, h5⟩
  · rw [hv] at h; cases h
  · rw [hv] at h1; cases h1; exact ⟨h2, h3, h4⟩
theorem own_slice {H : AHeap} {bs : Nat} {v : Value} {e : TypeId} {size : Nat} {cells : List Value} (h : Own H bs v e size cells) : ∃ a n, v = .slice a n n := by
  rcases h with ⟨rfl, _⟩ | ⟨b, m, h1, _⟩
  · exact ⟨none, 0, rfl⟩
  · exact ⟨_, m, h1⟩
theorem own_at {H H' : AHeap} {bs : Nat} {v : Value} {e : TypeId} {size : Nat} {cells : List Value} (h : Own H bs v e size cells) (hn : H.n ≤ H'.n) (hg : ∀ i n, v = .slice (some ⟨i, 0, none⟩) n n → 0 < n → H'.get i = H.get i) : Own H' bs v e size cells := by
  rcases h with h | ⟨b, m, h1, h2, h3, h4, h5, h6⟩
  · exact .inl h
  · exact .inr ⟨b, m, h1, h2, Nat.lt_of_lt_of_le h3 hn, (hg b m h1 h6).trans h4, h5, h6⟩

theorem ColS.own {bs l c : Nat} {L : List Value} {D : Nat → Prop} {H : AHeap} (h : ColS bs l c L D H) : D l := by
  obtain ⟨v, xs, h1, h2, h3, h4, h5, h6, h7, h8⟩ := h
  exact (h8 l).2 (.inl rfl)
theorem ColS.lt {bs l c : Nat} {L : List Value} {D : Nat → Prop} {H : AHeap} {i : Nat} (h : ColS bs l c L D H) (hi : D i) : i < H.n := by
  obtain ⟨v, xs, h1, h2, h3, h4, h5, h6, h7, h8⟩ := h
  rcases (h8 i).1 hi with rfl | rfl | ⟨n, hv, hn⟩
  · exact h4
  · omega
  · exact (own_block h7 hv hn).2.1
theorem ColS.ge {bs l c : Nat} {L : List Value} {D : Nat → Prop} {H : AHeap} {i : Nat} (h : ColS bs l c L D H) (hi : D i) : bs ≤ i := by
  obtain ⟨v, xs, h1, h2, h3, h4, h5, h6, h7, h8⟩ := h
  rcases (h8 i).1 hi with rfl | rfl | ⟨n, hv, hn⟩
  · omega
  · exact h2
  · exact (own_block h7 hv hn).1
theorem ColS.keep {bs l c : Nat} {L : List Value} {D : Nat → Prop} {H H' : AHeap} (h : ColS bs l c L D H) (hn : H.n ≤ H'.n) (hk : ∀ i, D i → H'.get i = H.get i) : ColS bs l c L D H' := by
  obtain ⟨v, xs, h1, h2, h3, h4, h5, h6, h7, h8⟩ := h
  refine ⟨v, xs, h1, h2, h3, Nat.lt_of_lt_of_le h4 hn, (hk l (((h8 l).2 (.inl rfl)))).trans h5, (hk c (((h8 c).2 (.inr (.inl rfl))))).trans h6, own_at h7 hn fun i n hv hn => hk i ((h8 i).2 (.inr (.inr ⟨n, hv, hn⟩))), h8⟩

theorem Str.val_inj {x y : Str} (h : x.val = y.val) : x = y := by
  obtain ⟨a, b, ⟨c, d, e⟩⟩ := x
  obtain ⟨a', b', ⟨c', d', e'⟩⟩ := y
  simp [Str.val] at h
  simp [h]
theorem strs_inj : ∀ (a b : List Str), a.map Str.val = b.map Str.val → b = a
  | [], [], _ => rfl
  | [], _ :: _, h => by simp at h
  | _ :: _, [], h => by simp at h
  | x :: t, y :: u, h => by
    simp only [List.map_cons, List.cons.injEq] at h
    rw [Str.val_inj h.1, strs_inj t u h.2]

theorem appendSeq_e {loops : List (Nat × LInfo)} {H : AHeap} {R : Nat → Prop} {N : Nat} {qv : Value} {xs : List Str} (hq : Gives Try.prog H R N qv Str.isVal (xs.map Str.val)) (hlen : N ≤ 1000) : CallS Try.prog loops 121 [.slice none 0 0, qv] H fun v H' => Own H' H.n v 149 5 (strCells xs) ∧ Ext H H' := by
  have HQ := Lib.hid hq
  clear hq
  refine CallS.enter' Try.func121 rfl Try.ntmps121 (by simp) fun f hd hf => ?_
  have f0 := hf 0
  have f1 := hf 1
  simp at f0 f1
  clear hf
  repeat' (first | (with_reducible first | refine CodeS.seq ?_ | refine CodeS.region_k fun K hK => ?_ | refine opsP_go fun K2 hK2 => ?_ | refine Post.then_normal ?_ | refine Post.then_ret ?_ | refine Post.then_exit ?_ | refine Post.block_normal ?_ | refine Post.block_ret ?_ | refine Post.block_here ?_ | refine Post.scope_normal ?_ | refine Post.scope_ret ?_ | refine Post.scope_exit ?_ | refine Post.round_ret ?_ | refine Post.round_exit ?_ | refine CodeS.block ?_ | refine CodeS.skip ?_ | refine CodeS.ret ?_ | refine CodeS.exit ?_ | refine CodeS.scope ?_ | refine CodeS.label ?_) | ((with_reducible refine opsP_nil (hK _ _ ?_)); clear hK K) | ((with_reducible refine opsP_gd ?hj ?hlt fun K1 K3 d hdst h1 h3 => ?_); (case hj => rfl); (case hlt => exact Nat.le_of_ble_eq_true rfl); cases hdst; go_simp) | ((with_reducible refine CodeS.cond_k fun K1 K3 h1 h3 => ?_); go_simp) | (refine h1 ?_; clear h1 h3 K1 K3) | (refine h3 ?_; clear h1 h3 K1 K3) | ((refine Either.mk (fun hb => h1 ?_) (fun hb => h3 ?_)) <;> (clear h1 h3 K1 K3; (try have hb2 := of_decide hb); (try have hb2 := of_not_decide_lt hb); (try have hb2 := of_not_decide_le hb); (try have hb2 := of_not_decide_ltN hb); (try have hb2 := of_not_decide_leN hb))) | ((refine Either.mk (fun hb => h3 ?_) (fun hb => h1 ?_)) <;> (clear h1 h3 K1 K3; (try have hb2 := of_decide hb); (try have hb2 := of_not_decide_lt hb); (try have hb2 := of_not_decide_le hb); (try have hb2 := of_not_decide_ltN hb); (try have hb2 := of_not_decide_leN hb))) | (refine fun (K2 : _ → AHeap → Prop) hK2 => ?_) | ((with_reducible refine Post.block_off ?hn ?_); (case hn => decide)) | ((with_reducible first | refine Post.body_k ?hd (fun K hK => ?_) | refine Post.body_kn ?hd (fun K hK => ?_)); (case hd => (go_simp; done)); go_simp; refine hK _ _ ?_; clear hK K) | (go_simp; (try go_bits); refine hK2 _ _ ?_; clear hK2 K2))
  refine CodeS.range_gives (ls := []) (H0 := H) (Rd := fun _ => False) (room := 1000) (S := ColS H.n (H.n + 2) H.n) (D := fun i => i = H.n + 2 ∨ i = H.n) rfl (LExt.nil _) HQ.out (by go_simp) (Ext.push _) hlen ?gen ?hS ?hRD ?hnd ?hend
  case hRD =>
    rintro i hi (h | h) <;> (have := HQ.out.lt hi; omega)
  case hS =>
    refine ⟨.slice none 0 0, [], rfl, Nat.le_refl _, by omega, by rw [AHeap.n_push, AHeap.n_push, AHeap.n_push]; omega, ?_, ?_, Own.nil, fun i => by simp⟩
    · rw [show H.n + 2 = ((H.push (AObj.row [.slice none 0 0] 143)).push (AObj.defs false)).n from rfl, AHeap.get_push_new]
    · rw [AHeap.get_push_old (by rw [AHeap.n_push, AHeap.n_push]; omega), AHeap.get_push_old (by rw [AHeap.n_push]; omega), AHeap.get_push_new]
  case hnd => rw [AHeap.n_push]; omega
  case hend =>
    rintro f2 D' H' ht hd2 hS hst hdf
    obtain ⟨v, ys, h1, h2, h3, h4, h5, h6, h7, h8⟩ := hS
    have hys : ys = xs := strs_inj xs ys h1
    subst hys
    have t2 := ht 2
    simp [AF.tmp_upd] at t2
    have hd3 : f2.defers = [{ target := .collected (H.n + 1), args := #[] }] := by rw [hd2]; simp [AF.defers_upd, hd]; rfl
    obtain ⟨H2, hH2⟩ : ∃ H2, H2 = H'.upd ((H.push (AObj.row [Value.slice none 0 0] 143)).n + 1) (AObj.loop LoopState.exhausted none) := ⟨_, rfl⟩
    rw [← hH2]
    have hc2 : cellAt H2 H.n 0 = some v := by
      rw [hH2, cellAt_get (AHeap.get_upd_ne (by rw [AHeap.n_push]; omega))]
      simp [cellAt, h6]
    have hdf2 : H2.get (H.n + 1) = .defs false := by
      rw [hH2, AHeap.get_upd_ne (by rw [AHeap.n_push]; omega)]; exact hdf
    have HO := Lib.hid h7
    have HST := Lib.hid hst
    have HH2 := Lib.hid hH2
    have HX2 : Hid (Ext H H2) := Lib.hid (by
      rw [hH2]
      refine (hst.ext (((Ext.refl _).push' _).push' _ |>.push' _) ?_).upd (by rw [AHeap.n_push]; omega) _
      rintro i (rfl | rfl) <;> omega)
    have hne : ∀ i n, v = .slice (some ⟨i, 0, none⟩) n n → 0 < n → H2.get i = H'.get i := by
      intro i n hv hn
      rw [hH2]
      refine AHeap.get_upd_ne fun e => ?_
      have h9 := (own_block h7 hv hn).2.2
      rw [e, show H'.get ((H.push (AObj.row [Value.slice none 0 0] 143)).n + 1) = _ from h5] at h9
      cases h9
    have HO2 : Hid (Own H2 H.n v 149 5 (strCells ys)) := Lib.hid (own_at h7 (by rw [hH2, AHeap.n_upd]; exact Nat.le_refl _) hne)
    clear hne h7 hst hH2 ht h8 h5 h6 hd2 hdf h1 h2 h3 h4
    repeat' (first | (with_reducible first | refine CodeS.seq ?_ | refine CodeS.region_k fun K hK => ?_ | refine opsP_go fun K2 hK2 => ?_ | refine Post.then_normal ?_ | refine Post.then_ret ?_ | refine Post.then_exit ?_ | refine Post.block_normal ?_ | refine Post.block_ret ?_ | refine Post.block_here ?_ | refine Post.scope_normal ?_ | refine Post.scope_ret ?_ | refine Post.scope_exit ?_ | refine Post.round_ret ?_ | refine Post.round_exit ?_ | refine CodeS.block ?_ | refine CodeS.skip ?_ | refine CodeS.ret ?_ | refine CodeS.exit ?_ | refine CodeS.scope ?_ | refine CodeS.label ?_) | ((with_reducible refine opsP_nil (hK _ _ ?_)); clear hK K) | ((with_reducible refine opsP_gd ?hj ?hlt fun K1 K3 d hdst h1 h3 => ?_); (case hj => rfl); (case hlt => exact Nat.le_of_ble_eq_true rfl); cases hdst; go_simp) | ((with_reducible refine CodeS.cond_k fun K1 K3 h1 h3 => ?_); go_simp) | (refine h1 ?_; clear h1 h3 K1 K3) | (refine h3 ?_; clear h1 h3 K1 K3) | ((refine Either.mk (fun hb => h1 ?_) (fun hb => h3 ?_)) <;> (clear h1 h3 K1 K3; (try have hb2 := of_decide hb); (try have hb2 := of_not_decide_lt hb); (try have hb2 := of_not_decide_le hb); (try have hb2 := of_not_decide_ltN hb); (try have hb2 := of_not_decide_leN hb))) | ((refine Either.mk (fun hb => h3 ?_) (fun hb => h1 ?_)) <;> (clear h1 h3 K1 K3; (try have hb2 := of_decide hb); (try have hb2 := of_not_decide_lt hb); (try have hb2 := of_not_decide_le hb); (try have hb2 := of_not_decide_ltN hb); (try have hb2 := of_not_decide_leN hb))) | (refine fun (K2 : _ → AHeap → Prop) hK2 => ?_) | ((with_reducible refine Post.block_off ?hn ?_); (case hn => decide)) | ((with_reducible first | refine Post.body_k ?hd (fun K hK => ?_) | refine Post.body_kn ?hd (fun K hK => ?_)); (case hd => (go_simp; done)); go_simp; refine hK _ _ ?_; clear hK K) | (go_simp; (try go_bits); refine hK2 _ _ ?_; clear hK2 K2))
    refine Post.body_mark (by go_simp) hdf2 fun K hK => ?_
    go_simp
    refine hK _ _ ⟨?_, HX2.out.upd (by omega) _⟩
    refine own_at HO2.out (by rw [AHeap.n_upd]; exact Nat.le_refl _) fun i n hv hn => AHeap.get_upd_ne fun e => ?_
    have h9 := (own_block HO2.out hv hn).2.2
    rw [e, hdf2] at h9
    cases h9
  case gen =>
    refine ⟨ColS.own, ColS.lt, fun _ h => h.elim, ?_, ?_, fun h hn hk => ColS.keep h hn fun i hi => hk i (.inl hi), ?_⟩
    · rintro L D H' ⟨v, xs, h1, h2, h3, h4, h5, h6, h7, h8⟩
      exact h5
    · rintro L D H' l2 x2 ⟨v, xs, h1, h2, h3, h4, h5, h6, h7, h8⟩ hf2
      simp only [findLoop] at hf2
      split at hf2
      · rename_i he; subst he; exact h4
      · cases hf2
    rintro loops L D H' _ hfl hroom ⟨x, rfl, -⟩ ⟨v, ys, rfl, h2, h3, h4, h5, h6, h7, h8⟩
    have hfl := hfl _ _ findLoop_head
    refine RoundS.enter hfl rfl (by simp) h5 fun f' hd' hf' => ?_
    have g7 := hf' 7
    have g2 := hf' 2
    simp [paramsAt, AF.tmp_mk, AF.tmp_upd] at g7 g2
    dsimp only
    have hlen2 : ys.length < 1000 := by simpa using hroom
    have HO := Lib.hid h7
    have HDI := Lib.hid h8
    have HFL := Lib.hid hfl
    obtain ⟨lo, hi, ct, cm, cl⟩ := x
    simp only [Str.val] at g7
    clear h7 h8 hfl hf' hroom
    repeat' (first | (with_reducible first | refine CodeS.seq ?_ | refine CodeS.region_k fun K hK => ?_ | refine opsP_go fun K2 hK2 => ?_ | refine Post.then_normal ?_ | refine Post.then_ret ?_ | refine Post.then_exit ?_ | refine Post.block_normal ?_ | refine Post.block_ret ?_ | refine Post.block_here ?_ | refine Post.scope_normal ?_ | refine Post.scope_ret ?_ | refine Post.scope_exit ?_ | refine Post.round_ret ?_ | refine Post.round_exit ?_ | refine CodeS.block ?_ | refine CodeS.skip ?_ | refine CodeS.ret ?_ | refine CodeS.exit ?_ | refine CodeS.scope ?_ | refine CodeS.label ?_) | ((with_reducible refine opsP_nil (hK _ _ ?_)); clear hK K) | ((with_reducible refine opsP_gd ?hj ?hlt fun K1 K3 d hdst h1 h3 => ?_); (case hj => rfl); (case hlt => exact Nat.le_of_ble_eq_true rfl); cases hdst; go_simp) | ((with_reducible refine CodeS.cond_k fun K1 K3 h1 h3 => ?_); go_simp) | (refine h1 ?_; clear h1 h3 K1 K3) | (refine h3 ?_; clear h1 h3 K1 K3) | ((refine Either.mk (fun hb => h1 ?_) (fun hb => h3 ?_)) <;> (clear h1 h3 K1 K3; (try have hb2 := of_decide hb); (try have hb2 := of_not_decide_lt hb); (try have hb2 := of_not_decide_le hb); (try have hb2 := of_not_decide_ltN hb); (try have hb2 := of_not_decide_leN hb))) | ((refine Either.mk (fun hb => h3 ?_) (fun hb => h1 ?_)) <;> (clear h1 h3 K1 K3; (try have hb2 := of_decide hb); (try have hb2 := of_not_decide_lt hb); (try have hb2 := of_not_decide_le hb); (try have hb2 := of_not_decide_ltN hb); (try have hb2 := of_not_decide_leN hb))) | (refine fun (K2 : _ → AHeap → Prop) hK2 => ?_) | ((with_reducible refine Post.block_off ?hn ?_); (case hn => decide)) | ((with_reducible first | refine Post.body_k ?hd (fun K hK => ?_) | refine Post.body_kn ?hd (fun K hK => ?_)); (case hd => (go_simp; done)); go_simp; refine hK _ _ ?_; clear hK K) | (go_simp; (try go_bits); refine hK2 _ _ ?_; clear hK2 K2))
    refine ⟨?_, ?_⟩
    · rw [AHeap.get_push_old (by rw [AHeap.n_push]; exact h4)]; exact h5
    obtain ⟨H3, hH3⟩ : ∃ H3, H3 = (H'.push (AObj.row [Value.int IntKind.i64 lo, Value.int IntKind.i64 hi, Value.int IntKind.i64 ct, Value.int IntKind.i64 cm, Value.bool cl] 149)).upd ((H.push (AObj.row [Value.slice none 0 0] 143)).n + 1) (.loop .busy none) := ⟨_, rfl⟩
    rw [← hH3]
    have hn3 : H3.n = H'.n + 1 := by rw [hH3, AHeap.n_upd, AHeap.n_push]
    have hk3 : ∀ i, i < H'.n → i ≠ H.n + 2 → H3.get i = H'.get i := by
      intro i hi hne
      rw [hH3, AHeap.get_upd_ne (by rw [AHeap.n_push]; exact hne), AHeap.get_push_old hi]
    have hl3 : H3.get (H.n + 2) = .loop .busy none := by rw [hH3]; exact AHeap.get_upd_same
    have hi3 : cellsAt H3 H'.n 0 5 = some [Value.int IntKind.i64 lo, Value.int IntKind.i64 hi, Value.int IntKind.i64 ct, Value.int IntKind.i64 cm, Value.bool cl] := by
      rw [hH3, cellsAt_get (AHeap.get_upd_ne (by rw [AHeap.n_push]; omega)), cellsAt_new]
      simp
    have hc3 : H3.get H.n = .row [v] 143 := by rw [hk3 _ (by omega) (by omega)]; exact h6
    have hcc3 : cellAt H3 H.n 0 = some v := by simp [cellAt, hc3]
    have hne3 : ∀ i n, v = .slice (some ⟨i, 0, none⟩) n n → 0 < n → i ≠ H.n + 2 ∧ i ≠ H.n := by
      intro i n hv hn
      have h9 := (own_block HO.out hv hn).2.2
      constructor
      · rintro rfl; rw [h5] at h9; cases h9
      · rintro rfl; rw [h6] at h9; injection h9 with _ h10; exact absurd h10 (by decide)
    have HO3 : Hid (Own H3 H.n v 149 5 (strCells ys)) := Lib.hid (own_at HO.out (by omega) fun i n hv hn => hk3 i (own_block HO.out hv hn).2.1 (hne3 i n hv hn).1)
    have HK3 := Lib.hid hk3
    have HNE := Lib.hid hne3
    have HN3 := Lib.hid hn3
    have HL3 := Lib.hid hl3
    have hlt3 : H.n < H3.n := by omega
    have hlt3' : H'.n < H3.n := by omega
    have HC3 := Lib.hid hc3
    clear hk3 hne3 hH3 hl3 hc3 hn3
    have hbig : ((strCells ys).length + 5) * max 40 1 ≤ 1073741824 := by rw [strCells_length]; simp; omega
    have HBIG := Lib.hid hbig
    clear hbig
    repeat' (first | (with_reducible first | refine CodeS.seq ?_ | refine CodeS.region_k fun K hK => ?_ | refine opsP_go fun K2 hK2 => ?_ | refine Post.then_normal ?_ | refine Post.then_ret ?_ | refine Post.then_exit ?_ | refine Post.block_normal ?_ | refine Post.block_ret ?_ | refine Post.block_here ?_ | refine Post.scope_normal ?_ | refine Post.scope_ret ?_ | refine Post.scope_exit ?_ | refine Post.round_ret ?_ | refine Post.round_exit ?_ | refine CodeS.block ?_ | refine CodeS.skip ?_ | refine CodeS.ret ?_ | refine CodeS.exit ?_ | refine CodeS.scope ?_ | refine CodeS.label ?_) | ((with_reducible refine opsP_nil (hK _ _ ?_)); clear hK K) | ((with_reducible refine opsP_gd ?hj ?hlt fun K1 K3 d hdst h1 h3 => ?_); (case hj => rfl); (case hlt => exact Nat.le_of_ble_eq_true rfl); cases hdst; go_simp) | ((with_reducible refine CodeS.cond_k fun K1 K3 h1 h3 => ?_); go_simp) | (refine h1 ?_; clear h1 h3 K1 K3) | (refine h3 ?_; clear h1 h3 K1 K3) | ((refine Either.mk (fun hb => h1 ?_) (fun hb => h3 ?_)) <;> (clear h1 h3 K1 K3; (try have hb2 := of_decide hb); (try have hb2 := of_not_decide_lt hb); (try have hb2 := of_not_decide_le hb); (try have hb2 := of_not_decide_ltN hb); (try have hb2 := of_not_decide_leN hb))) | ((refine Either.mk (fun hb => h3 ?_) (fun hb => h1 ?_)) <;> (clear h1 h3 K1 K3; (try have hb2 := of_decide hb); (try have hb2 := of_not_decide_lt hb); (try have hb2 := of_not_decide_le hb); (try have hb2 := of_not_decide_ltN hb); (try have hb2 := of_not_decide_leN hb))) | (refine fun (K2 : _ → AHeap → Prop) hK2 => ?_) | ((with_reducible refine Post.block_off ?hn ?_); (case hn => decide)) | ((with_reducible first | refine Post.body_k ?hd (fun K hK => ?_) | refine Post.body_kn ?hd (fun K hK => ?_)); (case hd => (go_simp; done)); go_simp; refine hK _ _ ?_; clear hK K) | (go_simp; (try go_bits); (try first | ((refine one_k el143 sz149 ze149 rfl (by decide) (by decide) rfl rfl ?_); go_simp) | ((refine append_k2 el143 sz149 by149 ze149 rfl (by decide) (HO3.out.ext (Ext.push _)) (srcCells_new rfl) (by decide) rfl (by rw [List.all_append, strCells_one]; rfl) HBIG.out (by rw [AHeap.n_push]; omega) fun v2 H4 ho4 hg4 => ?_); (obtain ⟨a2, n2, rfl⟩ := own_slice ho4); (have HO4 := Lib.hid ho4); (have HG4 := Lib.hid hg4); (have hc4 : H4.get H.n = .row [v] 143 := (hg4.2 H.n (by rw [AHeap.n_push]; omega) (fun b n hv hn => (HNE.out b n hv hn).2.symm)).trans (by rw [AHeap.get_push_old hlt3]; exact HC3.out)); clear ho4 hg4; go_simp)); refine hK2 _ _ ?_; clear hK2 K2))
    have hl4 : H4.get (H.n + 2) = .loop .busy none := (HG4.out.2 (H.n + 2) (by rw [AHeap.n_push]; omega) (fun b n hv hn => (HNE.out b n hv hn).1.symm)).trans (by rw [AHeap.get_push_old (by omega)]; exact HL3.out)
    have hn4 : H'.n + 1 < H4.n := by have := HG4.out.1; rw [AHeap.n_push, HN3.out] at this; omega
    refine ⟨⟨.busy, none, ?_⟩, rfl, fun i => i = H.n + 2 ∨ i = H.n ∨ ∃ n, Value.slice a2 n2 n2 = .slice (some ⟨i, 0, none⟩) n n ∧ 0 < n, ⟨.slice a2 n2 n2, ys ++ [⟨lo, hi, ⟨ct, cm, cl⟩⟩], by simp, Nat.le_refl _, by omega, ?_, ?_, ?_, ?_, fun i => Iff.rfl⟩, ?_⟩
    · rw [AHeap.get_upd_ne (by rw [AHeap.n_push]; omega)]; exact hl4
    · rw [AHeap.n_upd, AHeap.n_upd]; omega
    · exact AHeap.get_upd_same
    · rw [AHeap.get_upd_ne (by rw [AHeap.n_push]; omega), AHeap.get_upd_same]
    · rw [strCells_app]
      refine own_at (HO4.out.mono (by rw [AHeap.n_push, HN3.out]; omega)) (by rw [AHeap.n_upd, AHeap.n_upd]; exact Nat.le_refl _) fun i n hv hn => ?_
      have h9 := (own_block HO4.out hv hn).2.2
      rw [AHeap.get_upd_ne (fun e => ?_), AHeap.get_upd_ne (fun e => ?_)]
      · rw [e, hc4] at h9; injection h9 with _ h10; exact absurd h10 (by decide)
      · rw [e, AHeap.n_push, hl4] at h9; cases h9
    · refine ⟨by rw [AHeap.n_upd, AHeap.n_upd]; omega, fun i hi hd => ?_, fun i hd => ?_⟩
      · have h9 := fun h => hd ((HDI.out i).2 h)
        rw [AHeap.get_upd_ne (by rw [AHeap.n_push]; exact fun e => h9 (.inl e)), AHeap.get_upd_ne (fun e => h9 (.inr (.inl e))), HG4.out.2 i (by rw [AHeap.n_push, HN3.out]; omega) (fun b n hv hn e => h9 (.inr (.inr ⟨n, by rw [e]; exact hv, hn⟩))), AHeap.get_push_old (by rw [HN3.out]; omega)]
        exact HK3.out i hi (fun e => h9 (.inl e))
      · rcases hd with h | h | ⟨n, hv, hn⟩
        · exact .inl ((HDI.out i).2 (.inl h))
        · exact .inl ((HDI.out i).2 (.inr (.inl h)))
        · have h9 := (own_block HO4.out hv hn).1
          rw [AHeap.n_push, HN3.out] at h9
          exact .inr (by omega)
end Go.Proofs.Try
