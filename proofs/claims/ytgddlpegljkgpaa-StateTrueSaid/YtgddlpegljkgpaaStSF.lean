/- Contracts of functions, walked. -/
import Derived.Test.YtgddlpegljkgpaaStS8
import Derived.Test.YtgddlpegljkgpaaStSN
import Derived.Test.YtgddlpegljkgpaaAwB
set_option linter.all false
namespace Go.Proofs.Try
open Go Go.Am Go.RowKit
set_option maxRecDepth 100000


theorem Str.cellsOf (x : Str) : cellsOfV x.val = x.cells := rfl
def strCells (l : List Str) : List Value := l.flatMap Str.cells
theorem strCells_length : ∀ l : List Str, (strCells l).length = l.length * 5
  | [] => rfl
  | a :: l => by
    have := strCells_length l
    simp only [strCells, List.flatMap_cons, List.length_append] at *
    rw [this]; simp [Str.cells]; omega
theorem strCells_app (l : List Str) (x : Str) : strCells (l ++ [x]) = strCells l ++ x.cells := by simp [strCells]
theorem strCells_one : ∀ l : List Str, (strCells l).all oneV = true
  | [] => rfl
  | a :: l => by
    have := strCells_one l
    simp only [strCells, List.flatMap_cons, List.all_append, Bool.and_eq_true] at *
    exact ⟨rfl, this⟩

def ColS (bs l c : Nat) (L : List Value) (D : Nat → Prop) (H : AHeap) : Prop := ∃ (v : Value) (xs : List Str), L = xs.map Str.val ∧ bs ≤ c ∧ c < l ∧ l < H.n ∧ H.get l = .loop .ready none ∧ H.get c = .row [v] 143 ∧ Own H bs v 149 5 (strCells xs) ∧ ∀ i, D i ↔ i = l ∨ i = c ∨ ∃ n, v = .slice (some ⟨i, 0, none⟩) n n ∧ 0 < n




theorem ColS.own {bs l c : Nat} {L : List Value} {D : Nat → Prop} {H : AHeap} (h : ColS bs l c L D H) : D l := by
  obtain ⟨v, xs, h1, h2, h3, h4, h5, h6, h7, h8⟩ := h
  exact (h8 l).2 (.inl rfl)
theorem ColS.lt {bs l c : Nat} {L : List Value} {D : Nat → Prop} {H : AHeap} {i : Nat} (h : ColS bs l c L D H) (hi : D i) : i < H.n := by
  obtain ⟨v, xs, h1, h2, h3, h4, h5, h6, h7, h8⟩ := h
  rcases (h8 i).1 hi with rfl | rfl | ⟨n, hv, hn⟩
  · exact h4
  · omega
  · exact (own_block h7 hv hn).2.1
theorem ColS.keep {bs l c : Nat} {L : List Value} {D : Nat → Prop} {H H' : AHeap} (h : ColS bs l c L D H) (hn : H.n ≤ H'.n) (hk : ∀ i, D i → H'.get i = H.get i) : ColS bs l c L D H' := by
  obtain ⟨v, xs, h1, h2, h3, h4, h5, h6, h7, h8⟩ := h
  refine ⟨v, xs, h1, h2, h3, Nat.lt_of_lt_of_le h4 hn, (hk l (((h8 l).2 (.inl rfl)))).trans h5, (hk c (((h8 c).2 (.inr (.inl rfl))))).trans h6, own_at h7 hn fun i n hv hn => hk i ((h8 i).2 (.inr (.inr ⟨n, hv, hn⟩))), h8⟩



theorem appendSeq_e {loops : List (Nat × LInfo)} {H : AHeap} {R : Nat → Prop} {N : Nat} {qv : Value} {xs : List Str} (hq : Gives Try.prog H R N qv Str.isVal (xs.map Str.val)) (hlen : N ≤ 1000) : CallS Try.prog loops 121 [.slice none 0 0, qv] H fun v H' => Own H' H.n v 149 5 (strCells xs) ∧ Ext H H' := by
  have HQ := Lib.hid hq
  clear hq
  refine CallS.enter' Try.func121 rfl Try.ntmps121 (by simp) fun f hd hf => ?_
  have f0 := hf 0
  have f1 := hf 1
  simp at f0 f1
  clear hf
  repeat' (first|(with_reducible first|refine zA ?_|refine zB fun K hK=>?_|refine zC fun K2 hK2=>?_|refine zD ?_|refine zE ?_|refine zF ?_|refine zG ?_|refine zH ?_|refine zI ?_|refine zM ?_|refine zN ?_|refine zO ?_|refine zP ?_|refine zQ ?_|refine zR ?_)|((with_reducible refine zU (hK _ _ ?_));clear hK K)|((with_reducible refine zV ?_ ?_ fun K1 K3 d hdst h1 h3=>?_);rfl;exact yB rfl;cases hdst;go_simp)|((with_reducible refine zW fun K1 K3 h1 h3=>?_);go_simp)|((first|refine h1 ?_|refine h3 ?_);clear h1 h3 K1 K3)|((first|refine zX (fun hb=>h1 ?_) (fun hb=>h3 ?_)|refine zX (fun hb=>h3 ?_) (fun hb=>h1 ?_))<;>(clear h1 h3 K1 K3;(try have hb2:=yC hb);(try have hb2:=yD hb);(try have hb2:=yE hb);(try have hb2:=yF hb);(try have hb2:=yG hb)))|(refine fun (K2:_→AHeap→Prop) hK2=>?_)|((with_reducible refine zY ?_ ?_);decide)|((with_reducible first|refine zZ ?_ (fun K hK=>?_)|refine yA ?_ (fun K hK=>?_));(focus go_simp;done);go_simp;refine hK _ _ ?_;clear hK K)|(go_simp;(try go_bits);refine hK2 _ _ ?_;clear hK2 K2))
  refine CodeS.range_gives (ls := []) (H0 := H) (Rd := fun _ => False) (room := 1000) (S := ColS H.n (H.n + 2) H.n) (D := fun i => i = H.n + 2 ∨ i = H.n) rfl (LExt.nil _) HQ.out (by go_simp) (Ext.push _) hlen ?gen ?hS ?hRD ?hnd ?hend
  case hRD =>
    rintro i hi (h | h) <;> (have := HQ.out.lt hi; omega)
  case hS =>
    refine ⟨.slice none 0 0, [], rfl, Nat.le_refl _, by omega, by rw [AHeap.n_push, AHeap.n_push, AHeap.n_push]; omega, ?_, ?_, Own.nil, fun i => by simp⟩
    · rw [show H.n + 2 = ((H.push (AObj.row [.slice none 0 0] 143)).push (AObj.defs false)).n from rfl, AHeap.get_push_new]
    · rw [AHeap.get_push_old (by rw [AHeap.n_push, AHeap.n_push]; omega), AHeap.get_push_old (by rw [AHeap.n_push]; omega), AHeap.get_push_new]
  case hnd => rw [AHeap.n_push]; omega
  case hend =>
    rintro f2 D' H' ht hd2 hS hst hdf
    obtain ⟨v, ys, h1, h2, h3, h4, h5, h6, h7, h8⟩ := hS
    have hys : ys = xs := strs_inj xs ys h1
    subst hys
    have t2 := ht 2
    simp [AF.tmp_upd] at t2
    have hd3 : f2.defers = [{ target := .collected (H.n + 1), args := #[] }] := by rw [hd2]; simp [AF.defers_upd, hd]; rfl
    obtain ⟨H2, hH2⟩ : ∃ H2, H2 = H'.upd ((H.push (AObj.row [Value.slice none 0 0] 143)).n + 1) (AObj.loop LoopState.exhausted none) := ⟨_, rfl⟩
    rw [← hH2]
    have hc2 : cellAt H2 H.n 0 = some v := by
      rw [hH2, cellAt_get (AHeap.get_upd_ne (by rw [AHeap.n_push]; omega))]
      simp [cellAt, h6]
    have hdf2 : H2.get (H.n + 1) = .defs false := by
      rw [hH2, AHeap.get_upd_ne (by rw [AHeap.n_push]; omega)]; exact hdf
    have HO := Lib.hid h7
    have HST := Lib.hid hst
    have HH2 := Lib.hid hH2
    have HX2 : Hid (Ext H H2) := Lib.hid (by
      rw [hH2]
      refine (hst.ext (((Ext.refl _).push' _).push' _ |>.push' _) ?_).upd (by rw [AHeap.n_push]; omega) _
      rintro i (rfl | rfl) <;> omega)
    have hne : ∀ i n, v = .slice (some ⟨i, 0, none⟩) n n → 0 < n → H2.get i = H'.get i := by
      intro i n hv hn
      rw [hH2]
      refine AHeap.get_upd_ne fun e => ?_
      have h9 := (own_block h7 hv hn).2.2
      rw [e, show H'.get ((H.push (AObj.row [Value.slice none 0 0] 143)).n + 1) = _ from h5] at h9
      cases h9
    have HO2 : Hid (Own H2 H.n v 149 5 (strCells ys)) := Lib.hid (own_at h7 (by rw [hH2, AHeap.n_upd]; exact Nat.le_refl _) hne)
    clear hne h7 hst hH2 ht h8 h5 h6 hd2 hdf h1 h2 h3 h4
    repeat' (first|(with_reducible first|refine zA ?_|refine zB fun K hK=>?_|refine zC fun K2 hK2=>?_|refine zD ?_|refine zE ?_|refine zF ?_|refine zG ?_|refine zH ?_|refine zI ?_|refine zM ?_|refine zN ?_|refine zO ?_|refine zP ?_|refine zQ ?_|refine zR ?_)|((with_reducible refine zU (hK _ _ ?_));clear hK K)|((with_reducible refine zV ?_ ?_ fun K1 K3 d hdst h1 h3=>?_);rfl;exact yB rfl;cases hdst;go_simp)|((with_reducible refine zW fun K1 K3 h1 h3=>?_);go_simp)|((first|refine h1 ?_|refine h3 ?_);clear h1 h3 K1 K3)|((first|refine zX (fun hb=>h1 ?_) (fun hb=>h3 ?_)|refine zX (fun hb=>h3 ?_) (fun hb=>h1 ?_))<;>(clear h1 h3 K1 K3;(try have hb2:=yC hb);(try have hb2:=yD hb);(try have hb2:=yE hb);(try have hb2:=yF hb);(try have hb2:=yG hb)))|(refine fun (K2:_→AHeap→Prop) hK2=>?_)|((with_reducible refine zY ?_ ?_);decide)|((with_reducible first|refine zZ ?_ (fun K hK=>?_)|refine yA ?_ (fun K hK=>?_));(focus go_simp;done);go_simp;refine hK _ _ ?_;clear hK K)|(go_simp;(try go_bits);refine hK2 _ _ ?_;clear hK2 K2))
    refine Post.body_mark (by go_simp) hdf2 fun K hK => ?_
    go_simp
    refine hK _ _ ⟨?_, HX2.out.upd (by omega) _⟩
    refine own_at HO2.out (by rw [AHeap.n_upd]; exact Nat.le_refl _) fun i n hv hn => AHeap.get_upd_ne fun e => ?_
    have h9 := (own_block HO2.out hv hn).2.2
    rw [e, hdf2] at h9
    cases h9
  case gen =>
    refine ⟨ColS.own, ColS.lt, fun _ h => h.elim, ?_, ?_, fun h hn hk => ColS.keep h hn fun i hi => hk i (.inl hi), ?_⟩
    · rintro L D H' ⟨v, xs, h1, h2, h3, h4, h5, h6, h7, h8⟩
      exact h5
    · rintro L D H' l2 x2 ⟨v, xs, h1, h2, h3, h4, h5, h6, h7, h8⟩ hf2
      simp only [findLoop] at hf2
      split at hf2
      · rename_i he; subst he; exact h4
      · cases hf2
    rintro loops L D H' _ hfl hroom ⟨x, rfl, -⟩ ⟨v, ys, rfl, h2, h3, h4, h5, h6, h7, h8⟩
    have hfl := hfl _ _ findLoop_head
    refine RoundS.enter hfl rfl (by simp) h5 fun f' hd' hf' => ?_
    have g7 := hf' 7
    have g2 := hf' 2
    simp [paramsAt, AF.tmp_mk, AF.tmp_upd] at g7 g2
    dsimp only
    have hlen2 : ys.length < 1000 := by simpa using hroom
    have HO := Lib.hid h7
    have HDI := Lib.hid h8
    have HFL := Lib.hid hfl
    obtain ⟨lo, hi, ct, cm, cl⟩ := x
    simp only [Str.val] at g7
    clear h7 h8 hfl hf' hroom
    repeat' (first|(with_reducible first|refine zA ?_|refine zB fun K hK=>?_|refine zC fun K2 hK2=>?_|refine zD ?_|refine zE ?_|refine zF ?_|refine zG ?_|refine zH ?_|refine zI ?_|refine zM ?_|refine zN ?_|refine zO ?_|refine zP ?_|refine zQ ?_|refine zR ?_)|((with_reducible refine zU (hK _ _ ?_));clear hK K)|((with_reducible refine zV ?_ ?_ fun K1 K3 d hdst h1 h3=>?_);rfl;exact yB rfl;cases hdst;go_simp)|((with_reducible refine zW fun K1 K3 h1 h3=>?_);go_simp)|((first|refine h1 ?_|refine h3 ?_);clear h1 h3 K1 K3)|((first|refine zX (fun hb=>h1 ?_) (fun hb=>h3 ?_)|refine zX (fun hb=>h3 ?_) (fun hb=>h1 ?_))<;>(clear h1 h3 K1 K3;(try have hb2:=yC hb);(try have hb2:=yD hb);(try have hb2:=yE hb);(try have hb2:=yF hb);(try have hb2:=yG hb)))|(refine fun (K2:_→AHeap→Prop) hK2=>?_)|((with_reducible refine zY ?_ ?_);decide)|((with_reducible first|refine zZ ?_ (fun K hK=>?_)|refine yA ?_ (fun K hK=>?_));(focus go_simp;done);go_simp;refine hK _ _ ?_;clear hK K)|(go_simp;(try go_bits);refine hK2 _ _ ?_;clear hK2 K2))
    refine ⟨?_, ?_⟩
    · rw [AHeap.get_push_old (by rw [AHeap.n_push]; exact h4)]; exact h5
    obtain ⟨H3, hH3⟩ : ∃ H3, H3 = (H'.push (AObj.row [Value.int IntKind.i64 lo, Value.int IntKind.i64 hi, Value.int IntKind.i64 ct, Value.int IntKind.i64 cm, Value.bool cl] 149)).upd ((H.push (AObj.row [Value.slice none 0 0] 143)).n + 1) (.loop .busy none) := ⟨_, rfl⟩
    rw [← hH3]
    have hn3 : H3.n = H'.n + 1 := by rw [hH3, AHeap.n_upd, AHeap.n_push]
    have hk3 : ∀ i, i < H'.n → i ≠ H.n + 2 → H3.get i = H'.get i := by
      intro i hi hne
      rw [hH3, AHeap.get_upd_ne (by rw [AHeap.n_push]; exact hne), AHeap.get_push_old hi]
    have hl3 : H3.get (H.n + 2) = .loop .busy none := by rw [hH3]; exact AHeap.get_upd_same
    have hi3 : cellsAt H3 H'.n 0 5 = some [Value.int IntKind.i64 lo, Value.int IntKind.i64 hi, Value.int IntKind.i64 ct, Value.int IntKind.i64 cm, Value.bool cl] := by
      rw [hH3, cellsAt_get (AHeap.get_upd_ne (by rw [AHeap.n_push]; omega)), cellsAt_new]
      simp
    have hc3 : H3.get H.n = .row [v] 143 := by rw [hk3 _ (by omega) (by omega)]; exact h6
    have hcc3 : cellAt H3 H.n 0 = some v := by simp [cellAt, hc3]
    have hne3 : ∀ i n, v = .slice (some ⟨i, 0, none⟩) n n → 0 < n → i ≠ H.n + 2 ∧ i ≠ H.n := by
      intro i n hv hn
      have h9 := (own_block HO.out hv hn).2.2
      constructor
      · rintro rfl; rw [h5] at h9; cases h9
      · rintro rfl; rw [h6] at h9; injection h9 with _ h10; exact absurd h10 (by decide)
    have HO3 : Hid (Own H3 H.n v 149 5 (strCells ys)) := Lib.hid (own_at HO.out (by omega) fun i n hv hn => hk3 i (own_block HO.out hv hn).2.1 (hne3 i n hv hn).1)
    have HK3 := Lib.hid hk3
    have HNE := Lib.hid hne3
    have HN3 := Lib.hid hn3
    have HL3 := Lib.hid hl3
    have hlt3 : H.n < H3.n := by omega
    have hlt3' : H'.n < H3.n := by omega
    have HC3 := Lib.hid hc3
    clear hk3 hne3 hH3 hl3 hc3 hn3
    have hbig : ((strCells ys).length + 5) * max 40 1 ≤ 1073741824 := by rw [strCells_length]; simp; omega
    have HBIG := Lib.hid hbig
    clear hbig
    repeat' (first|(with_reducible first|refine zA ?_|refine zB fun K hK=>?_|refine zC fun K2 hK2=>?_|refine zD ?_|refine zE ?_|refine zF ?_|refine zG ?_|refine zH ?_|refine zI ?_|refine zM ?_|refine zN ?_|refine zO ?_|refine zP ?_|refine zQ ?_|refine zR ?_)|((with_reducible refine zU (hK _ _ ?_));clear hK K)|((with_reducible refine zV ?_ ?_ fun K1 K3 d hdst h1 h3=>?_);rfl;exact yB rfl;cases hdst;go_simp)|((with_reducible refine zW fun K1 K3 h1 h3=>?_);go_simp)|((first|refine h1 ?_|refine h3 ?_);clear h1 h3 K1 K3)|((first|refine zX (fun hb=>h1 ?_) (fun hb=>h3 ?_)|refine zX (fun hb=>h3 ?_) (fun hb=>h1 ?_))<;>(clear h1 h3 K1 K3;(try have hb2:=yC hb);(try have hb2:=yD hb);(try have hb2:=yE hb);(try have hb2:=yF hb);(try have hb2:=yG hb)))|(refine fun (K2:_→AHeap→Prop) hK2=>?_)|((with_reducible refine zY ?_ ?_);decide)|((with_reducible first|refine zZ ?_ (fun K hK=>?_)|refine yA ?_ (fun K hK=>?_));(focus go_simp;done);go_simp;refine hK _ _ ?_;clear hK K)|(go_simp;(try go_bits);(try first | ((refine one_k el143 sz149 ze149 rfl (by decide) (by decide) rfl rfl ?_); go_simp) | ((refine append_k2 el143 sz149 by149 ze149 rfl (by decide) (HO3.out.ext (Ext.push _)) (srcCells_new rfl) (by decide) rfl (by rw [List.all_append, strCells_one]; rfl) HBIG.out (by rw [AHeap.n_push]; omega) fun v2 H4 ho4 hg4 => ?_); (obtain ⟨a2, n2, rfl⟩ := own_slice ho4); (have HO4 := Lib.hid ho4); (have HG4 := Lib.hid hg4); (have hc4 : H4.get H.n = .row [v] 143 := (hg4.2 H.n (by rw [AHeap.n_push]; omega) (fun b n hv hn => (HNE.out b n hv hn).2.symm)).trans (by rw [AHeap.get_push_old hlt3]; exact HC3.out)); clear ho4 hg4; go_simp));refine hK2 _ _ ?_;clear hK2 K2))
    have hl4 : H4.get (H.n + 2) = .loop .busy none := (HG4.out.2 (H.n + 2) (by rw [AHeap.n_push]; omega) (fun b n hv hn => (HNE.out b n hv hn).1.symm)).trans (by rw [AHeap.get_push_old (by omega)]; exact HL3.out)
    have hn4 : H'.n + 1 < H4.n := by have := HG4.out.1; rw [AHeap.n_push, HN3.out] at this; omega
    refine ⟨⟨.busy, none, ?_⟩, rfl, fun i => i = H.n + 2 ∨ i = H.n ∨ ∃ n, Value.slice a2 n2 n2 = .slice (some ⟨i, 0, none⟩) n n ∧ 0 < n, ⟨.slice a2 n2 n2, ys ++ [⟨lo, hi, ⟨ct, cm, cl⟩⟩], by simp, Nat.le_refl _, by omega, ?_, ?_, ?_, ?_, fun i => Iff.rfl⟩, ?_⟩
    · rw [AHeap.get_upd_ne (by rw [AHeap.n_push]; omega)]; exact hl4
    · rw [AHeap.n_upd, AHeap.n_upd]; omega
    · exact AHeap.get_upd_same
    · rw [AHeap.get_upd_ne (by rw [AHeap.n_push]; omega), AHeap.get_upd_same]
    · rw [strCells_app]
      refine own_at (HO4.out.mono (by rw [AHeap.n_push, HN3.out]; omega)) (by rw [AHeap.n_upd, AHeap.n_upd]; exact Nat.le_refl _) fun i n hv hn => ?_
      have h9 := (own_block HO4.out hv hn).2.2
      rw [AHeap.get_upd_ne (fun e => ?_), AHeap.get_upd_ne (fun e => ?_)]
      · rw [e, hc4] at h9; injection h9 with _ h10; exact absurd h10 (by decide)
      · rw [e, AHeap.n_push, hl4] at h9; cases h9
    · refine ⟨by rw [AHeap.n_upd, AHeap.n_upd]; omega, fun i hi hd => ?_, fun i hd => ?_⟩
      · have h9 := fun h => hd ((HDI.out i).2 h)
        rw [AHeap.get_upd_ne (by rw [AHeap.n_push]; exact fun e => h9 (.inl e)), AHeap.get_upd_ne (fun e => h9 (.inr (.inl e))), HG4.out.2 i (by rw [AHeap.n_push, HN3.out]; omega) (fun b n hv hn e => h9 (.inr (.inr ⟨n, by rw [e]; exact hv, hn⟩))), AHeap.get_push_old (by rw [HN3.out]; omega)]
        exact HK3.out i hi (fun e => h9 (.inl e))
      · rcases hd with h | h | ⟨n, hv, hn⟩
        · exact .inl ((HDI.out i).2 (.inl h))
        · exact .inl ((HDI.out i).2 (.inr (.inl h)))
        · have h9 := (own_block HO4.out hv hn).1
          rw [AHeap.n_push, HN3.out] at h9
          exact .inr (by omega)
end Go.Proofs.Try
namespace Go.Proofs.Try
open Go Go.Am Go.RowKit
set_option maxRecDepth 100000


theorem strCells_get : ∀ (l : List Str) (k : Nat) (h : k < l.length) (j : Nat) (u : Value), (l[k]).cells[j]? = some u → (strCells l)[k * 5 + j]? = some u
  | a :: l, 0, _, j, u, hu => by
    simp only [strCells, List.flatMap_cons, Nat.zero_mul, Nat.zero_add]
    have hu' : a.cells[j]? = some u := hu
    rw [List.getElem?_append_left (List.getElem?_eq_some_iff.1 hu').1]; exact hu'
  | a :: l, k + 1, h, j, u, hu => by
    have := strCells_get l k (by simpa using h) j u (by simpa using hu)
    simp only [strCells, List.flatMap_cons]
    rw [List.getElem?_append_right (by simp [Str.cells]; omega)]
    have e : (k + 1) * 5 + j - a.cells.length = k * 5 + j := by simp [Str.cells]; omega
    rw [e]; exact this

def Strs (H : AHeap) (v : Value) (l : List Str) : Prop := Cells H v 5 l.length (strCells l)
theorem Strs.ext {H H' : AHeap} {v : Value} {l : List Str} (h : Strs H v l) (hx : Ext H H') : Strs H' v l := Cells.ext h hx
theorem Strs.slice {H : AHeap} {v : Value} {l : List Str} (h : Strs H v l) : l.length ≤ 9223372036854775807 ∧ ∃ a c, v = .slice a l.length c := by
  obtain ⟨h1, h2, a', c', h3, h4⟩ := h
  exact ⟨h2, a', c', h3⟩
theorem Strs.at_ {H : AHeap} {a : Option Addr} {n c : Nat} {l : List Str} (h : Strs H (.slice a n c) l) {k : Nat} (hk : k < l.length) : ∃ b o sp, a = some ⟨b, o, sp⟩ ∧ b < H.n ∧ cellsAt H b (o + k * 5) 5 = some (l[k]).cells := by
  obtain ⟨h1, h2, a', c', h3, h4⟩ := h
  cases h3
  obtain ⟨b, o, sp, h5, h6, h7⟩ := h4 (by omega)
  exact ⟨b, o, sp, h5, h6, cellsAt_of (us := (l[k]).cells) (by simp [Str.cells]) fun j u hu => by rw [Nat.add_assoc]; exact h7 _ u (strCells_get l k hk j u hu)⟩
theorem strs_of_own {H : AHeap} {base : Nat} {v : Value} {l : List Str} (h : Own H base v 149 5 (strCells l)) (hl : l.length ≤ 9223372036854775807) : Strs H v l := by
  have hlen := strCells_length l
  rcases h with ⟨rfl, h2⟩ | ⟨b, n, rfl, h2, h3, h4, h5, h6⟩
  · have : l.length = 0 := by rw [h2] at hlen; simp at hlen; omega
    exact ⟨hlen, hl, none, 0, by rw [this], by omega⟩
  · have hn : n = l.length := by omega
    subst hn
    refine ⟨hlen, hl, _, _, rfl, fun _ => ⟨b, 0, none, rfl, h3, fun j u hu => ?_⟩⟩
    simp only [cellAt, h4, Nat.zero_add]; exact hu

theorem collect_e {loops : List (Nat × LInfo)} {H : AHeap} {R : Nat → Prop} {N : Nat} {qv : Value} {xs : List Str} (hq : Gives Try.prog H R N qv Str.isVal (xs.map Str.val)) (hlen : N ≤ 1000) (hlen2 : xs.length ≤ 1000) : CallS Try.prog loops 100 [qv] H fun v H' => Strs H' v xs ∧ Ext H H' := by
  have HQ := Lib.hid hq
  clear hq
  refine CallS.enter' Try.func100 rfl Try.ntmps100 (by simp) fun f hd hf => ?_
  have f0 := hf 0
  simp at f0
  clear hf
  repeat' (first|(with_reducible first|refine zA ?_|refine zB fun K hK=>?_|refine zC fun K2 hK2=>?_|refine zD ?_|refine zE ?_|refine zF ?_|refine zG ?_|refine zH ?_|refine zI ?_|refine zM ?_|refine zN ?_|refine zO ?_|refine zP ?_|refine zQ ?_|refine zR ?_)|((with_reducible refine zU (hK _ _ ?_));clear hK K)|((with_reducible refine zV ?_ ?_ fun K1 K3 d hdst h1 h3=>?_);rfl;exact yB rfl;cases hdst;go_simp)|((with_reducible refine zW fun K1 K3 h1 h3=>?_);go_simp)|((first|refine h1 ?_|refine h3 ?_);clear h1 h3 K1 K3)|((first|refine zX (fun hb=>h1 ?_) (fun hb=>h3 ?_)|refine zX (fun hb=>h3 ?_) (fun hb=>h1 ?_))<;>(clear h1 h3 K1 K3;(try have hb2:=yC hb);(try have hb2:=yD hb);(try have hb2:=yE hb);(try have hb2:=yF hb);(try have hb2:=yG hb)))|(refine fun (K2:_→AHeap→Prop) hK2=>?_)|((with_reducible refine zY ?_ ?_);decide)|((with_reducible first|refine zZ ?_ (fun K hK=>?_)|refine yA ?_ (fun K hK=>?_));(focus go_simp;done);go_simp;refine hK _ _ ?_;clear hK K)|(go_simp;(try go_bits);(try first | ((with_reducible show CallS _ _ _ _ _ _);refine CallS.mono (appendSeq_e HQ.out hlen) ?_; rintro v H2 ⟨ho, hx⟩; (have HO := Lib.hid ho); (have HX := Lib.hid hx); clear ho hx; go_simp));refine hK2 _ _ ?_;clear hK2 K2))
  exact ⟨strs_of_own HO.out (by omega), HX.out⟩

def HistAt (H : AHeap) (v : Value) (l : List Str) : Prop := ∃ p lv, v = .func (.func 102) #[] #[.pointer (some ⟨p, 0, none⟩)] ∧ p < H.n ∧ H.get p = .row [lv] 143 ∧ Strs H lv l
theorem HistAt.ext {H H' : AHeap} {v : Value} {l : List Str} (h : HistAt H v l) (hx : Ext H H') : HistAt H' v l := by
  obtain ⟨p, lv, h1, h2, h3, h4⟩ := h
  exact ⟨p, lv, h1, Nat.lt_of_lt_of_le h2 hx.n, (hx.get p h2).trans h3, h4.ext hx⟩

theorem history_e {loops : List (Nat × LInfo)} {H : AHeap} {sv : Value} {s : Sheet} {line : Int} (hv : SheetV H sv s) (hl0 : 0 ≤ line) (hl1 : line < s.words.length) (he : err s = 0) : CallS Try.prog loops 59 [sv, .int .i64 line] H fun v H' => HistAt H' v (strs s line) ∧ Ext H H' := by
  have hso := (err_ok he).1
  have hal := (err_ok he).2.2.2
  have HV := Lib.hid hv
  obtain ⟨wv, av, rfl, hw, ha⟩ := hv
  obtain ⟨hwl, wa, wc, rfl⟩ := hw.slice
  obtain ⟨hal2, aa, ac, rfl⟩ := ha.slice
  clear hw ha
  have HSO := Lib.hid hso
  clear hso he
  have hlen : (strs s line).length ≤ 1000 := by have := go_le line s.alts 0 ⟨s.words[line.toNat]!, 0, false⟩; unfold strs; omega
  refine CallS.enter' Try.func59 rfl Try.ntmps59 (by simp) fun f hd hf => ?_
  have f0 := hf 0
  have f1 := hf 1
  simp at f0 f1
  clear hf
  repeat' (first|(with_reducible first|refine zA ?_|refine zB fun K hK=>?_|refine zC fun K2 hK2=>?_|refine zD ?_|refine zE ?_|refine zF ?_|refine zG ?_|refine zH ?_|refine zI ?_|refine zM ?_|refine zN ?_|refine zO ?_|refine zP ?_|refine zQ ?_|refine zR ?_)|((with_reducible refine zU (hK _ _ ?_));clear hK K)|((with_reducible refine zV ?_ ?_ fun K1 K3 d hdst h1 h3=>?_);rfl;exact yB rfl;cases hdst;go_simp)|((with_reducible refine zW fun K1 K3 h1 h3=>?_);go_simp)|((first|refine h1 ?_|refine h3 ?_);clear h1 h3 K1 K3)|((first|refine zX (fun hb=>h1 ?_) (fun hb=>h3 ?_)|refine zX (fun hb=>h3 ?_) (fun hb=>h1 ?_))<;>(clear h1 h3 K1 K3;(try have hb2:=yC hb);(try have hb2:=yD hb);(try have hb2:=yE hb);(try have hb2:=yF hb);(try have hb2:=yG hb)))|(refine fun (K2:_→AHeap→Prop) hK2=>?_)|((with_reducible refine zY ?_ ?_);decide)|((with_reducible first|refine zZ ?_ (fun K hK=>?_)|refine yA ?_ (fun K hK=>?_));(focus go_simp;done);go_simp;refine hK _ _ ?_;clear hK K)|(go_simp;(try go_bits);(try first |((with_reducible show CallS _ _ _ _ _ _);first|(refine CallS.mono (stretches_e HV.out (Ext.push _)) ?_; rintro qv H2 ⟨hq, hx⟩; (have HQ := Lib.hid hq); (have HX := Lib.hid hx); clear hq hx; go_simp)|(refine CallS.mono (collect_e (HQ.out.gives hl0 hl1 HSO.out) hlen hlen) ?_; rintro v H3 ⟨hq, hx⟩; (have HS := Lib.hid hq); (have HX3 := Lib.hid hx); (obtain ⟨-, va, vc, rfl⟩ := hq.slice); clear hq hx; go_simp)));refine hK2 _ _ ?_;clear hK2 K2))
  exact ⟨⟨H3.n, _, rfl, by rw [AHeap.n_push]; omega, AHeap.get_push_new, HS.out.ext (Ext.push _)⟩, ((Ext.push _).trans (HX.out.trans HX3.out)).push' _⟩

theorem until_s {loops : List (Nat × LInfo)} {H : AHeap} {x : Str} {q : Nat} {day : Int} (hq : q < H.n) (hg : cellAt H q 0 = some (.int .i64 day)) : CallS Try.prog loops 104 [x.val, .pointer (some ⟨q, 0, none⟩)] H fun v H' => v = .bool (decide (day ≤ x.hi)) ∧ H' = H := by
  refine CallS.forget (R := fun v => v = .bool (decide (day ≤ x.hi))) (by rintro v rfl; rfl) ?_
  obtain ⟨lo, hi, ⟨ct, cm, cl⟩⟩ := x
  refine CallS.enter' Try.func104 rfl Try.ntmps104 (by simp) fun f hd hf => ?_
  have f0 := hf 0
  have f1 := hf 1
  simp [Str.val] at f0 f1
  clear hf
  repeat' (first|(with_reducible first|refine zA ?_|refine zB fun K hK=>?_|refine zC fun K2 hK2=>?_|refine zD ?_|refine zE ?_|refine zF ?_|refine zG ?_|refine zH ?_|refine zI ?_|refine zM ?_|refine zN ?_|refine zO ?_|refine zP ?_|refine zQ ?_|refine zR ?_)|((with_reducible refine zU (hK _ _ ?_));clear hK K)|((with_reducible refine zV ?_ ?_ fun K1 K3 d hdst h1 h3=>?_);rfl;exact yB rfl;cases hdst;go_simp)|((with_reducible refine zW fun K1 K3 h1 h3=>?_);go_simp)|((first|refine h1 ?_|refine h3 ?_);clear h1 h3 K1 K3)|((first|refine zX (fun hb=>h1 ?_) (fun hb=>h3 ?_)|refine zX (fun hb=>h3 ?_) (fun hb=>h1 ?_))<;>(clear h1 h3 K1 K3;(try have hb2:=yC hb);(try have hb2:=yD hb);(try have hb2:=yE hb);(try have hb2:=yF hb);(try have hb2:=yG hb)))|(refine fun (K2:_→AHeap→Prop) hK2=>?_)|((with_reducible refine zY ?_ ?_);decide)|((with_reducible first|refine zZ ?_ (fun K hK=>?_)|refine yA ?_ (fun K hK=>?_));(focus go_simp;done);go_simp;refine hK _ _ ?_;clear hK K)|(go_simp;(try go_bits);refine hK2 _ _ ?_;clear hK2 K2))
  exact ⟨rfl, (Ext.refl _).push' _⟩
end Go.Proofs.Try
namespace Go.Proofs.Try
open Go Go.Am Go.RowKit
set_option maxRecDepth 100000


def zeroS : Str := ⟨0, 0, ⟨0, 0, false⟩⟩
def findS (l : List Str) (day : Int) : Option Str := l.find? fun x => decide (day ≤ x.hi)

theorem find_e {loops : List (Nat × LInfo)} {H : AHeap} {lv : Value} {l : List Str} {q : Nat} {day : Int} (hl : Strs H lv l) (hq : q < H.n) (hg : cellAt H q 0 = some (.int .i64 day)) : CallS Try.prog loops 103 [lv, .func (.func 104) #[] #[.pointer (some ⟨q, 0, none⟩)]] H fun v H' => v = .tuple #[((findS l day).getD zeroS).val, .bool (findS l day).isSome] ∧ Ext H H' := by
  obtain ⟨hlen, a, c, rfl⟩ := hl.slice
  have HV := Lib.hid hl
  clear hl
  generalize he : findS l day = er
  have HE := Lib.hid he
  clear he
  refine CallS.enter' Try.func103 rfl Try.ntmps103 (by simp) fun f hd hf => ?_
  have f0 := hf 0
  have f1 := hf 1
  simp at f0 f1
  clear hf
  repeat' (first|(with_reducible first|refine zA ?_|refine zB fun K hK=>?_|refine zC fun K2 hK2=>?_|refine zD ?_|refine zE ?_|refine zF ?_|refine zG ?_|refine zH ?_|refine zI ?_|refine zM ?_|refine zN ?_|refine zO ?_|refine zP ?_|refine zQ ?_|refine zR ?_)|((with_reducible refine zU (hK _ _ ?_));clear hK K)|((with_reducible refine zV ?_ ?_ fun K1 K3 d hdst h1 h3=>?_);rfl;exact yB rfl;cases hdst;go_simp)|((with_reducible refine zW fun K1 K3 h1 h3=>?_);go_simp)|((first|refine h1 ?_|refine h3 ?_);clear h1 h3 K1 K3)|((first|refine zX (fun hb=>h1 ?_) (fun hb=>h3 ?_)|refine zX (fun hb=>h3 ?_) (fun hb=>h1 ?_))<;>(clear h1 h3 K1 K3;(try have hb2:=yC hb);(try have hb2:=yD hb);(try have hb2:=yE hb);(try have hb2:=yF hb);(try have hb2:=yG hb)))|(refine fun (K2:_→AHeap→Prop) hK2=>?_)|((with_reducible refine zY ?_ ?_);decide)|((with_reducible first|refine zZ ?_ (fun K hK=>?_)|refine yA ?_ (fun K hK=>?_));(focus go_simp;done);go_simp;refine hK _ _ ?_;clear hK K)|(go_simp;(try go_bits);refine hK2 _ _ ?_;clear hK2 K2))
  refine CodeS.loop (fun m f H' => ∃ k : Nat, k ≤ l.length ∧ m = l.length - k ∧ f.tmp 11 = .int .i64 k ∧ f.tmp 9 = .slice a l.length c ∧ f.tmp 10 = .int .i64 l.length ∧ f.tmp 1 = .func (.func 104) #[] #[.pointer (some ⟨q, 0, none⟩)] ∧ f.tmp 4 = .pointer (some ⟨H.n, 0, none⟩) ∧ f.defers = [] ∧ H.n < H'.n ∧ H'.get H.n = .row [.int .i64 0, .int .i64 0, .int .i64 0, .int .i64 0, .bool false] 149 ∧ Hid (findS (l.drop k) day = er) ∧ Hid (Ext H H')) l.length ?_ ?_
  · exact ⟨0, by simp, by simp, (by first|go_simp<;>go_num|assumption), (by first|go_simp<;>go_num|assumption), (by first|go_simp<;>go_num|assumption), (by first|go_simp<;>go_num|assumption), (by first|go_simp<;>go_num|assumption), (by first|go_simp<;>go_num|assumption), by rw [AHeap.n_push]; omega, AHeap.get_push_new, Lib.hid (by simpa using HE.out), Lib.hid (Ext.push _)⟩
  clear f0 f1 hd f HE
  rintro m f H' ⟨k, hk, rfl, f11, f9, f10, f1, f4, hd, hn, hg4, HG, HX⟩
  have hq' : q < H'.n := Nat.lt_of_lt_of_le hq HX.out.n
  have hg' : cellAt H' q 0 = some (.int .i64 day) := (HX.out.cellAt hq).trans hg
  have hne : (H'.n = H.n) = False := by simp; omega
  have hne' : (H.n = H'.n) = False := by simp; omega
  by_cases hlt : k < l.length
  · obtain ⟨b, o, sp, rfl, hb, hx⟩ := (HV.out.ext HX.out).at_ hlt
    have HD := Lib.hid (List.drop_eq_getElem_cons hlt)
    generalize l[k] = y at hx HD
    obtain ⟨lo, hi, ⟨ct, cm, cl⟩⟩ := y
    simp only [Str.cells] at hx
    repeat' (first|(with_reducible first|refine zA ?_|refine zB fun K hK=>?_|refine zC fun K2 hK2=>?_|refine zD ?_|refine zE ?_|refine zF ?_|refine zG ?_|refine zH ?_|refine zI ?_|refine zM ?_|refine zN ?_|refine zO ?_|refine zP ?_|refine zQ ?_|refine zR ?_)|((with_reducible refine zU (hK _ _ ?_));clear hK K)|((with_reducible refine zV ?_ ?_ fun K1 K3 d hdst h1 h3=>?_);rfl;exact yB rfl;cases hdst;go_simp)|((with_reducible refine zW fun K1 K3 h1 h3=>?_);go_simp)|((first|refine h1 ?_|refine h3 ?_);clear h1 h3 K1 K3)|((first|refine zX (fun hb=>h1 ?_) (fun hb=>h3 ?_)|refine zX (fun hb=>h3 ?_) (fun hb=>h1 ?_))<;>(clear h1 h3 K1 K3;(try have hb2:=yC hb);(try have hb2:=yD hb);(try have hb2:=yE hb);(try have hb2:=yF hb);(try have hb2:=yG hb)))|(refine fun (K2:_→AHeap→Prop) hK2=>?_)|((with_reducible refine zY ?_ ?_);decide)|((with_reducible first|refine zZ ?_ (fun K hK=>?_)|refine yA ?_ (fun K hK=>?_));(focus go_simp;done);go_simp;refine hK _ _ ?_;clear hK K)|(go_simp;(try go_bits);(try first | ((with_reducible show CallS _ _ _ _ _ _);refine CallS.mono (until_s (x := ⟨lo, hi, ⟨ct, cm, cl⟩⟩) (day := day) (by rw [AHeap.n_push]; omega) (by rw [cellAt_old hq']; exact hg')) ?_; rintro _ _ ⟨rfl, rfl⟩));refine hK2 _ _ ?_;clear hK2 K2))
    · have hh : day ≤ hi := by simpa using hb
      have hr : er = some ⟨lo, hi, ⟨ct, cm, cl⟩⟩ := by
        rw [← HG.out, HD.out, findS, List.find?_cons]; simp [hh]
      rw [hr]
      exact ⟨rfl, (HX.out.upd (Nat.le_refl _) _).push' _⟩
    · have hh : ¬ day ≤ hi := by simpa using hb
      refine Post.round_normal ⟨l.length - (k + 1), by omega, k + 1, by omega, rfl, (by first|go_simp<;>go_num|assumption), (by first|go_simp<;>go_num|assumption), (by first|go_simp<;>go_num|assumption), (by first|go_simp<;>go_num|assumption), (by first|go_simp<;>go_num|assumption), (by first|go_simp<;>go_num|assumption), ?_, ?_, Lib.hid ?_, Lib.hid (HX.out.push' _)⟩
      · rw [AHeap.n_push]; omega
      · rw [AHeap.get_push_old hn]; exact hg4
      · rw [← HG.out, HD.out, findS, findS, List.find?_cons]; simp [hh]
  · repeat' (first|(with_reducible first|refine zA ?_|refine zB fun K hK=>?_|refine zC fun K2 hK2=>?_|refine zD ?_|refine zE ?_|refine zF ?_|refine zG ?_|refine zH ?_|refine zI ?_|refine zM ?_|refine zN ?_|refine zO ?_|refine zP ?_|refine zQ ?_|refine zR ?_)|((with_reducible refine zU (hK _ _ ?_));clear hK K)|((with_reducible refine zV ?_ ?_ fun K1 K3 d hdst h1 h3=>?_);rfl;exact yB rfl;cases hdst;go_simp)|((with_reducible refine zW fun K1 K3 h1 h3=>?_);go_simp)|((first|refine h1 ?_|refine h3 ?_);clear h1 h3 K1 K3)|((first|refine zX (fun hb=>h1 ?_) (fun hb=>h3 ?_)|refine zX (fun hb=>h3 ?_) (fun hb=>h1 ?_))<;>(clear h1 h3 K1 K3;(try have hb2:=yC hb);(try have hb2:=yD hb);(try have hb2:=yE hb);(try have hb2:=yF hb);(try have hb2:=yG hb)))|(refine fun (K2:_→AHeap→Prop) hK2=>?_)|((with_reducible refine zY ?_ ?_);decide)|((with_reducible first|refine zZ ?_ (fun K hK=>?_)|refine yA ?_ (fun K hK=>?_));(focus go_simp;done);go_simp;refine hK _ _ ?_;clear hK K)|(go_simp;(try go_bits);refine hK2 _ _ ?_;clear hK2 K2))
    have hr : er = none := by rw [← HG.out, List.drop_eq_nil_of_le (by omega)]; rfl
    rw [hr]
    exact ⟨rfl, (HX.out.upd (Nat.le_refl _) _).push' _⟩

theorem readDay_e {loops : List (Nat × LInfo)} {H : AHeap} {p : Nat} {lv : Value} {l : List Str} {day : Int} (hp : p < H.n) (hg : H.get p = .row [lv] 143) (hl : Strs H lv l) : CallS Try.prog loops 102 [.int .i64 day, .pointer (some ⟨p, 0, none⟩)] H fun v H' => Ints H' v ((findS l day).getD zeroS).has.reads ∧ Ext H H' := by
  obtain ⟨hlen, a, c, rfl⟩ := hl.slice
  have HV := Lib.hid hl
  have hc : cellAt H p 0 = some (.slice a l.length c) := by simp [cellAt, hg]
  clear hl hg
  refine CallS.enter' Try.func102 rfl Try.ntmps102 (by simp) fun f hd hf => ?_
  have f0 := hf 0
  have f1 := hf 1
  simp at f0 f1
  clear hf
  generalize hx : (findS l day).getD zeroS = x
  have HX := Lib.hid hx
  clear hx
  obtain ⟨lo, hi, ⟨ct, cm, cl⟩⟩ := x
  repeat' (first|(with_reducible first|refine zA ?_|refine zB fun K hK=>?_|refine zC fun K2 hK2=>?_|refine zD ?_|refine zE ?_|refine zF ?_|refine zG ?_|refine zH ?_|refine zI ?_|refine zM ?_|refine zN ?_|refine zO ?_|refine zP ?_|refine zQ ?_|refine zR ?_)|((with_reducible refine zU (hK _ _ ?_));clear hK K)|((with_reducible refine zV ?_ ?_ fun K1 K3 d hdst h1 h3=>?_);rfl;exact yB rfl;cases hdst;go_simp)|((with_reducible refine zW fun K1 K3 h1 h3=>?_);go_simp)|((first|refine h1 ?_|refine h3 ?_);clear h1 h3 K1 K3)|((first|refine zX (fun hb=>h1 ?_) (fun hb=>h3 ?_)|refine zX (fun hb=>h3 ?_) (fun hb=>h1 ?_))<;>(clear h1 h3 K1 K3;(try have hb2:=yC hb);(try have hb2:=yD hb);(try have hb2:=yE hb);(try have hb2:=yF hb);(try have hb2:=yG hb)))|(refine fun (K2:_→AHeap→Prop) hK2=>?_)|((with_reducible refine zY ?_ ?_);decide)|((with_reducible first|refine zZ ?_ (fun K hK=>?_)|refine yA ?_ (fun K hK=>?_));(focus go_simp;done);go_simp;refine hK _ _ ?_;clear hK K)|(go_simp;(try go_bits);(try first |((with_reducible show CallS _ _ _ _ _ _);first|(refine CallS.mono (find_e (day := day) (HV.out.ext (Ext.push _)) (by rw [AHeap.n_push]; omega) (by rw [cellAt_new]; rfl)) ?_; rintro _ H2 ⟨rfl, hx⟩; (have HX2 := Lib.hid hx); rw [HX.out]; clear hx; go_simp)|(refine CallS.mono (reads_e (c := ⟨ct, cm, cl⟩)) ?_; rintro v H3 ⟨hi, hx⟩; (have HI := Lib.hid hi); (have HX3 := Lib.hid hx); clear hi hx; go_simp)));refine hK2 _ _ ?_;clear hK2 K2))
  exact ⟨HI.out, (Ext.push _).trans (HX2.out.trans ((Ext.push _).trans HX3.out))⟩

def readsErr (s : Sheet) (line day : Int) : Int := if errLine s line = 0 then (if win 0 730 day then 0 else 1) else errLine s line
def readsAt (s : Sheet) (line day : Int) : List Int := if readsErr s line day = 0 then ((findS (strs s line) day).getD zeroS).has.reads else []


theorem readsFn_e {loops : List (Nat × LInfo)} {H : AHeap} {sv : Value} {s : Sheet} {line day : Int} (hv : SheetV H sv s) : CallS Try.prog loops 21 [sv, .int .i64 line, .int .i64 day] H fun r H' => ∃ v, r = .tuple #[v, .int .i64 (readsErr s line day)] ∧ Ints H' v (readsAt s line day) ∧ Ext H H' := by
  have HV := Lib.hid hv
  obtain ⟨wv, av, rfl, hw, ha⟩ := hv
  obtain ⟨hwl, wa, wc, rfl⟩ := hw.slice
  obtain ⟨hal, aa, ac, rfl⟩ := ha.slice
  clear hw ha
  refine CallS.enter' Try.func21 rfl Try.ntmps21 (by simp) fun f hd hf => ?_
  have f0 := hf 0
  have f1 := hf 1
  have f2 := hf 2
  simp at f0 f1 f2
  clear hf
  have hnil : ∀ H : AHeap, Ints H (.slice none 0 0) [] := fun H => ⟨rfl, by simp, none, 0, rfl, by simp⟩
  have HNIL := Lib.hid hnil
  clear hnil
  have HEE : Hid (∀ h : errLine s line = 0, win 0 730 day = true → readsErr s line day = 0) := Lib.hid fun h1 h2 => by rw [readsErr, if_pos h1, if_pos h2]
  repeat' (first|(with_reducible first|refine zA ?_|refine zB fun K hK=>?_|refine zC fun K2 hK2=>?_|refine zD ?_|refine zE ?_|refine zF ?_|refine zG ?_|refine zH ?_|refine zI ?_|refine zM ?_|refine zN ?_|refine zO ?_|refine zP ?_|refine zQ ?_|refine zR ?_)|((with_reducible refine zU (hK _ _ ?_));clear hK K)|((with_reducible refine zV ?_ ?_ fun K1 K3 d hdst h1 h3=>?_);rfl;exact yB rfl;cases hdst;go_simp)|((with_reducible refine zW fun K1 K3 h1 h3=>?_);go_simp)|((first|refine h1 ?_|refine h3 ?_);clear h1 h3 K1 K3)|((first|refine zX (fun hb=>h1 ?_) (fun hb=>h3 ?_)|refine zX (fun hb=>h3 ?_) (fun hb=>h1 ?_))<;>(clear h1 h3 K1 K3;(try have hb2:=yC hb);(try have hb2:=yD hb);(try have hb2:=yE hb);(try have hb2:=yF hb);(try have hb2:=yG hb)))|(refine fun (K2:_→AHeap→Prop) hK2=>?_)|((with_reducible refine zY ?_ ?_);decide)|((with_reducible first|refine zZ ?_ (fun K hK=>?_)|refine yA ?_ (fun K hK=>?_));(focus go_simp;done);go_simp;refine hK _ _ ?_;clear hK K)|(go_simp;(try go_bits);(try first |((with_reducible show CallS _ _ _ _ _ _);first|(refine CallS.mono (checkLine_s (s := s) (HV.out.ext ((Ext.refl _).push' _))) ?_; rintro _ _ ⟨rfl, rfl⟩; go_simp)|(refine CallS.mono within_s ?_; rintro _ _ ⟨rfl, rfl⟩; go_simp)));refine hK2 _ _ ?_;clear hK2 K2))
  · have h1 : ¬ errLine s line = 0 := by simpa using hb
    have h2 : readsErr s line day = errLine s line := by rw [readsErr, if_neg h1]
    exact ⟨_, by rw [h2], by rw [readsAt, h2, if_neg h1]; exact HNIL.out _, Ext.push _⟩
  · have h1 : errLine s line = 0 := by simpa using ‹(errLine s line != 0) = false›
    have h3 : ¬ win 0 730 day = true := by simpa using hb
    have h2 : readsErr s line day = 1 := by rw [readsErr, if_pos h1, if_neg h3]
    exact ⟨_, by rw [h2], by rw [readsAt, h2, if_neg (by decide)]; exact HNIL.out _, Ext.push _⟩
  · have h1 : errLine s line = 0 := by simpa using ‹(errLine s line != 0) = false›
    have h3 : win 0 730 day = true := by simpa using hb
    have h2 : readsErr s line day = 0 := by rw [readsErr, if_pos h1, if_pos h3]
    obtain ⟨he, hl0, hl1⟩ := errLine_ok h1
    repeat' (first|(with_reducible first|refine zA ?_|refine zB fun K hK=>?_|refine zC fun K2 hK2=>?_|refine zD ?_|refine zE ?_|refine zF ?_|refine zG ?_|refine zH ?_|refine zI ?_|refine zM ?_|refine zN ?_|refine zO ?_|refine zP ?_|refine zQ ?_|refine zR ?_)|((with_reducible refine zU (hK _ _ ?_));clear hK K)|((with_reducible refine zV ?_ ?_ fun K1 K3 d hdst h1 h3=>?_);rfl;exact yB rfl;cases hdst;go_simp)|((with_reducible refine zW fun K1 K3 h1 h3=>?_);go_simp)|((first|refine h1 ?_|refine h3 ?_);clear h1 h3 K1 K3)|((first|refine zX (fun hb=>h1 ?_) (fun hb=>h3 ?_)|refine zX (fun hb=>h3 ?_) (fun hb=>h1 ?_))<;>(clear h1 h3 K1 K3;(try have hb2:=yC hb);(try have hb2:=yD hb);(try have hb2:=yE hb);(try have hb2:=yF hb);(try have hb2:=yG hb)))|(refine fun (K2:_→AHeap→Prop) hK2=>?_)|((with_reducible refine zY ?_ ?_);decide)|((with_reducible first|refine zZ ?_ (fun K hK=>?_)|refine yA ?_ (fun K hK=>?_));(focus go_simp;done);go_simp;refine hK _ _ ?_;clear hK K)|(go_simp;(try go_bits);(try first |((with_reducible show CallS _ _ _ _ _ _);first|(refine CallS.mono (history_e (s := s) (HV.out.ext (Ext.push _)) hl0 hl1 he) ?_; rintro _ H2 ⟨⟨p, lv, rfl, hp, hgp, hls⟩, hx⟩; (have HX2 := Lib.hid hx); (have HLS := Lib.hid hls); (have HGP := Lib.hid hgp); clear hx hls hgp; go_simp)|(refine CallS.mono (readDay_e hp HGP.out HLS.out) ?_; rintro v H3 ⟨hi, hx⟩; (have HI := Lib.hid hi); (have HX3 := Lib.hid hx); clear hi hx; go_simp)));refine hK2 _ _ ?_;clear hK2 K2))
    exact ⟨_, by rw [h2], by rw [readsAt, if_pos h2]; exact HI.out, (Ext.push _).trans (HX2.out.trans HX3.out)⟩
end Go.Proofs.Try
namespace Go.Proofs.Try
open Go Go.Am Go.RowKit
set_option maxRecDepth 100000


end Go.Proofs.Try
namespace Go.Proofs.Try
open Go Go.Am Go.RowKit
set_option maxRecDepth 100000

end Go.Proofs.Try
namespace Go.Proofs.Try
open Go Go.Am Go.RowKit
set_option maxRecDepth 100000


end Go.Proofs.Try
