/- Contracts of functions, walked. -/
import Derived.Test.YtgddlpegljkgpaaStS8
set_option linter.all false
namespace Go.Proofs.Try
open Go Go.Am Go.RowKit
set_option maxRecDepth 100000


def spanCells (l : List (Int × Int)) : List Value := l.flatMap fun x => [.int .i64 x.1, .int .i64 x.2]
theorem spanCells_length : ∀ l : List (Int × Int), (spanCells l).length = l.length * 2
  | [] => rfl
  | a :: l => by
    have := spanCells_length l
    simp only [spanCells, List.flatMap_cons, List.length_append] at *
    rw [this]; simp; omega
theorem spanCells_app (l m : List (Int × Int)) : spanCells (l ++ m) = spanCells l ++ spanCells m := by simp [spanCells]
theorem spanCells_one : ∀ l : List (Int × Int), (spanCells l).all oneV = true
  | [] => rfl
  | a :: l => by
    have := spanCells_one l
    simp only [spanCells, List.flatMap_cons, List.all_append, Bool.and_eq_true] at *
    exact ⟨rfl, this⟩
theorem spanCells_set : ∀ (l : List (Int × Int)) (y : Int × Int) (h : Int), setL (spanCells (l ++ [y])) (l.length * 2 + 1) [.int .i64 h] = some (spanCells (l ++ [(y.1, h)]))
  | [], y, h => rfl
  | a :: l, y, h => by
    have := spanCells_set l y h
    have e : spanCells (a :: l ++ [y]) = .int .i64 a.1 :: .int .i64 a.2 :: spanCells (l ++ [y]) := rfl
    have e2 : spanCells (a :: l ++ [(y.1, h)]) = .int .i64 a.1 :: .int .i64 a.2 :: spanCells (l ++ [(y.1, h)]) := rfl
    rw [e, e2, show (a :: l).length * 2 + 1 = (l.length * 2 + 1) + 1 + 1 by simp; omega, setL_succ_cons, setL_succ_cons, this]
    rfl
theorem spanCells_get (l : List (Int × Int)) (y : Int × Int) : (spanCells (l ++ [y]))[l.length * 2 + 1]? = some (.int .i64 y.2) := by
  have e : l.length * 2 + 1 = (spanCells l).length + 1 := by rw [spanCells_length]
  rw [spanCells_app, e, List.getElem?_append_right (by omega)]
  simp [spanCells]
theorem spanVal_inj {x y : Int × Int} (h : spanVal x = spanVal y) : x = y := by
  obtain ⟨a, b⟩ := x
  obtain ⟨c, d⟩ := y
  simp [spanVal] at h
  simp [h]
theorem spans_inj : ∀ (a b : List (Int × Int)), a.map spanVal = b.map spanVal → b = a
  | [], [], _ => rfl
  | [], _ :: _, h => by simp at h
  | _ :: _, [], h => by simp at h
  | x :: t, y :: u, h => by
    simp only [List.map_cons, List.cons.injEq] at h
    rw [spanVal_inj h.1, spans_inj t u h.2]
theorem joinL_app (l : List (Int × Int)) (x : Int × Int) : joinL (l ++ [x]) = joinS (joinL l) x := by simp [joinL]
theorem joinS_le (acc : List (Int × Int)) (x : Int × Int) : (joinS acc x).length ≤ acc.length + 1 := by
  unfold joinS
  cases h : acc.getLast? with
  | none => simp
  | some y =>
    simp only
    split
    · simp
    · simp
theorem joinL_le (l : List (Int × Int)) : (joinL l).length ≤ l.length := by
  have : ∀ (l acc : List (Int × Int)), (l.foldl joinS acc).length ≤ acc.length + l.length := by
    intro l
    induction l with
    | nil => intro acc; simp
    | cons x t ih =>
      intro acc
      have h1 := ih (joinS acc x)
      have h2 := joinS_le acc x
      simp only [List.foldl_cons, List.length_cons]
      omega
  simpa [joinL] using this l []
theorem joinS_ends (acc : List (Int × Int)) (x : Int × Int) (ha : ∀ y, y ∈ acc → -1 ≤ y.2 ∧ y.2 ≤ 730) (hx : -1 ≤ x.2 ∧ x.2 ≤ 730) : ∀ y, y ∈ joinS acc x → -1 ≤ y.2 ∧ y.2 ≤ 730 := by
  intro y hy
  unfold joinS at hy
  split at hy
  · split at hy
    · rcases List.mem_append.1 hy with h | h
      · exact ha y ((List.dropLast_subset acc) h)
      · rw [List.mem_singleton.1 h]; exact hx
    · rcases List.mem_append.1 hy with h | h
      · exact ha y h
      · rw [List.mem_singleton.1 h]; exact hx
  · rcases List.mem_append.1 hy with h | h
    · exact ha y h
    · rw [List.mem_singleton.1 h]; exact hx

def JoinS (bs l c : Nat) (L : List Value) (D : Nat → Prop) (H : AHeap) : Prop := ∃ (v : Value) (xs : List (Int × Int)), L = xs.map spanVal ∧ (∀ y, y ∈ joinL xs → -1 ≤ y.2 ∧ y.2 ≤ 730) ∧ bs ≤ c ∧ c < l ∧ l < H.n ∧ H.get l = .loop .ready none ∧ H.get c = .row [v] 37 ∧ Own H bs v 87 2 (spanCells (joinL xs)) ∧ ∀ i, D i ↔ i = l ∨ i = c ∨ ∃ n, v = .slice (some ⟨i, 0, none⟩) n n ∧ 0 < n
theorem JoinS.own {bs l c : Nat} {L : List Value} {D : Nat → Prop} {H : AHeap} (h : JoinS bs l c L D H) : D l := by
  obtain ⟨v, xs, h1, h0, h2, h3, h4, h5, h6, h7, h8⟩ := h
  exact (h8 l).2 (.inl rfl)
theorem JoinS.lt {bs l c : Nat} {L : List Value} {D : Nat → Prop} {H : AHeap} {i : Nat} (h : JoinS bs l c L D H) (hi : D i) : i < H.n := by
  obtain ⟨v, xs, h1, h0, h2, h3, h4, h5, h6, h7, h8⟩ := h
  rcases (h8 i).1 hi with rfl | rfl | ⟨n, hv, hn⟩
  · exact h4
  · omega
  · exact (own_block h7 hv hn).2.1
theorem JoinS.keep {bs l c : Nat} {L : List Value} {D : Nat → Prop} {H H' : AHeap} (h : JoinS bs l c L D H) (hn : H.n ≤ H'.n) (hk : ∀ i, D i → H'.get i = H.get i) : JoinS bs l c L D H' := by
  obtain ⟨v, xs, h1, h0, h2, h3, h4, h5, h6, h7, h8⟩ := h
  refine ⟨v, xs, h1, h0, h2, h3, Nat.lt_of_lt_of_le h4 hn, (hk l ((h8 l).2 (.inl rfl))).trans h5, (hk c ((h8 c).2 (.inr (.inl rfl)))).trans h6, own_at h7 hn fun i n hv hn => hk i ((h8 i).2 (.inr (.inr ⟨n, hv, hn⟩))), h8⟩

theorem joined_e {loops : List (Nat × LInfo)} {H : AHeap} {R : Nat → Prop} {N : Nat} {qv : Value} {xs : List (Int × Int)} (hq : Gives Try.prog H R N qv spanIs (xs.map spanVal)) (hlen : N ≤ 1000) : CallS Try.prog loops 63 [qv] H fun v H' => Own H' H.n v 87 2 (spanCells (joinL xs)) ∧ Ext H H' := by
  have HQ := Lib.hid hq
  clear hq
  refine CallS.enter' Try.func63 rfl Try.ntmps63 (by simp) fun f hd hf => ?_
  have f0 := hf 0
  simp at f0
  clear hf
  repeat' (first|(with_reducible first|refine zA ?_|refine zB fun K hK=>?_|refine zC fun K2 hK2=>?_|refine zD ?_|refine zE ?_|refine zF ?_|refine zG ?_|refine zH ?_|refine zI ?_|refine zM ?_|refine zN ?_|refine zO ?_|refine zP ?_|refine zQ ?_|refine zR ?_)|((with_reducible refine zU (hK _ _ ?_));clear hK K)|((with_reducible refine zV ?_ ?_ fun K1 K3 d hdst h1 h3=>?_);rfl;exact yB rfl;cases hdst;go_simp)|((with_reducible refine zW fun K1 K3 h1 h3=>?_);go_simp)|((first|refine h1 ?_|refine h3 ?_);clear h1 h3 K1 K3)|((first|refine zX (fun hb=>h1 ?_) (fun hb=>h3 ?_)|refine zX (fun hb=>h3 ?_) (fun hb=>h1 ?_))<;>(clear h1 h3 K1 K3;(try have hb2:=yC hb);(try have hb2:=yD hb);(try have hb2:=yE hb);(try have hb2:=yF hb);(try have hb2:=yG hb)))|(refine fun (K2:_→AHeap→Prop) hK2=>?_)|((with_reducible refine zY ?_ ?_);decide)|((with_reducible first|refine zZ ?_ (fun K hK=>?_)|refine yA ?_ (fun K hK=>?_));(focus go_simp;done);go_simp;refine hK _ _ ?_;clear hK K)|(go_simp;(try go_bits);refine hK2 _ _ ?_;clear hK2 K2))
  refine CodeS.range_gives (ls := []) (H0 := H) (Rd := fun _ => False) (room := 1000) (S := JoinS H.n (H.n + 2) H.n) (D := fun i => i = H.n + 2 ∨ i = H.n) rfl (LExt.nil _) HQ.out (by go_simp) (Ext.push _) hlen ?gen ?hS ?hRD ?hnd ?hend
  case hRD =>
    rintro i hi (h | h) <;> (have := HQ.out.lt hi; omega)
  case hS =>
    refine ⟨.slice none 0 0, [], rfl, by simp [joinL], Nat.le_refl _, by omega, by rw [AHeap.n_push, AHeap.n_push, AHeap.n_push]; omega, ?_, ?_, Own.nil, fun i => by simp⟩
    · rw [show H.n + 2 = ((H.push (AObj.row [.slice none 0 0] 37)).push (AObj.defs false)).n from rfl, AHeap.get_push_new]
    · rw [AHeap.get_push_old (by rw [AHeap.n_push, AHeap.n_push]; omega), AHeap.get_push_old (by rw [AHeap.n_push]; omega), AHeap.get_push_new]
  case hnd => rw [AHeap.n_push]; omega
  case hend =>
    rintro f2 D' H' ht hd2 hS hst hdf
    obtain ⟨v, ys, h1, h0, h2, h3, h4, h5, h6, h7, h8⟩ := hS
    have hys : ys = xs := spans_inj xs ys h1
    subst hys
    have t3 := ht 3
    simp [AF.tmp_upd] at t3
    have hd3 : f2.defers = [{ target := .collected (H.n + 1), args := #[] }] := by rw [hd2]; simp [AF.defers_upd, hd]; rfl
    obtain ⟨H2, hH2⟩ : ∃ H2, H2 = H'.upd ((H.push (AObj.row [Value.slice none 0 0] 37)).n + 1) (AObj.loop LoopState.exhausted none) := ⟨_, rfl⟩
    rw [← hH2]
    have hc2 : cellAt H2 H.n 0 = some v := by
      rw [hH2, cellAt_get (AHeap.get_upd_ne (by rw [AHeap.n_push]; omega))]
      simp [cellAt, h6]
    have hdf2 : H2.get (H.n + 1) = .defs false := by
      rw [hH2, AHeap.get_upd_ne (by rw [AHeap.n_push]; omega)]; exact hdf
    have HX2 : Hid (Ext H H2) := Lib.hid (by
      rw [hH2]
      refine (hst.ext (((Ext.refl _).push' _).push' _ |>.push' _) ?_).upd (by rw [AHeap.n_push]; omega) _
      rintro i (rfl | rfl) <;> omega)
    have hne : ∀ i n, v = .slice (some ⟨i, 0, none⟩) n n → 0 < n → H2.get i = H'.get i := by
      intro i n hv hn
      rw [hH2]
      refine AHeap.get_upd_ne fun e => ?_
      have h9 := (own_block h7 hv hn).2.2
      rw [e, show H'.get ((H.push (AObj.row [Value.slice none 0 0] 37)).n + 1) = _ from h5] at h9
      cases h9
    have HO2 : Hid (Own H2 H.n v 87 2 (spanCells (joinL ys))) := Lib.hid (own_at h7 (by rw [hH2, AHeap.n_upd]; exact Nat.le_refl _) hne)
    clear hne h7 hst hH2 ht h8 h5 h6 hd2 hdf h1 h2 h3 h4 h0
    repeat' (first|(with_reducible first|refine zA ?_|refine zB fun K hK=>?_|refine zC fun K2 hK2=>?_|refine zD ?_|refine zE ?_|refine zF ?_|refine zG ?_|refine zH ?_|refine zI ?_|refine zM ?_|refine zN ?_|refine zO ?_|refine zP ?_|refine zQ ?_|refine zR ?_)|((with_reducible refine zU (hK _ _ ?_));clear hK K)|((with_reducible refine zV ?_ ?_ fun K1 K3 d hdst h1 h3=>?_);rfl;exact yB rfl;cases hdst;go_simp)|((with_reducible refine zW fun K1 K3 h1 h3=>?_);go_simp)|((first|refine h1 ?_|refine h3 ?_);clear h1 h3 K1 K3)|((first|refine zX (fun hb=>h1 ?_) (fun hb=>h3 ?_)|refine zX (fun hb=>h3 ?_) (fun hb=>h1 ?_))<;>(clear h1 h3 K1 K3;(try have hb2:=yC hb);(try have hb2:=yD hb);(try have hb2:=yE hb);(try have hb2:=yF hb);(try have hb2:=yG hb)))|(refine fun (K2:_→AHeap→Prop) hK2=>?_)|((with_reducible refine zY ?_ ?_);decide)|((with_reducible first|refine zZ ?_ (fun K hK=>?_)|refine yA ?_ (fun K hK=>?_));(focus go_simp;done);go_simp;refine hK _ _ ?_;clear hK K)|(go_simp;(try go_bits);refine hK2 _ _ ?_;clear hK2 K2))
    refine Post.body_mark (by go_simp) hdf2 fun K hK => ?_
    go_simp
    refine hK _ _ ⟨?_, HX2.out.upd (by omega) _⟩
    refine own_at HO2.out (by rw [AHeap.n_upd]; exact Nat.le_refl _) fun i n hv hn => AHeap.get_upd_ne fun e => ?_
    have h9 := (own_block HO2.out hv hn).2.2
    rw [e, hdf2] at h9
    cases h9
  case gen =>
    refine ⟨JoinS.own, JoinS.lt, fun _ h => h.elim, ?_, ?_, fun h hn hk => JoinS.keep h hn fun i hi => hk i (.inl hi), ?_⟩
    · rintro L D H' ⟨v, xs, h1, h0, h2, h3, h4, h5, h6, h7, h8⟩
      exact h5
    · rintro L D H' l2 x2 ⟨v, xs, h1, h0, h2, h3, h4, h5, h6, h7, h8⟩ hf2
      simp only [findLoop] at hf2
      split at hf2
      · rename_i he; subst he; exact h4
      · cases hf2
    rintro loops L D H' _ hfl hroom ⟨x, rfl, hxb⟩ ⟨v, ys, rfl, h0, h2, h3, h4, h5, h6, h7, h8⟩
    have hfl := hfl _ _ findLoop_head
    refine RoundS.enter hfl rfl (by simp) h5 fun f' hd' hf' => ?_
    have g7 := hf' 7
    have g3 := hf' 3
    simp [paramsAt, AF.tmp_mk, AF.tmp_upd] at g7 g3
    dsimp only
    have hlen2 : (joinL ys).length < 1000 := by have := joinL_le ys; rw [List.length_map] at hroom; omega
    have HO := Lib.hid h7
    have HDI := Lib.hid h8
    have HFL := Lib.hid hfl
    have HEN := Lib.hid (joinS_ends _ x h0 hxb)
    have HEN0 := Lib.hid h0
    obtain ⟨lo, hi⟩ := x
    simp only [spanVal] at g7
    have hj : joinL (ys ++ [(lo, hi)]) = joinS (joinL ys) (lo, hi) := joinL_app ys (lo, hi)
    generalize joinL ys = acc at hlen2 HO HEN HEN0 hj
    have HJ := Lib.hid hj
    clear h7 h8 hfl hf' hroom h0 hxb hj
    repeat' (first|(with_reducible first|refine zA ?_|refine zB fun K hK=>?_|refine zC fun K2 hK2=>?_|refine zD ?_|refine zE ?_|refine zF ?_|refine zG ?_|refine zH ?_|refine zI ?_|refine zM ?_|refine zN ?_|refine zO ?_|refine zP ?_|refine zQ ?_|refine zR ?_)|((with_reducible refine zU (hK _ _ ?_));clear hK K)|((with_reducible refine zV ?_ ?_ fun K1 K3 d hdst h1 h3=>?_);rfl;exact yB rfl;cases hdst;go_simp)|((with_reducible refine zW fun K1 K3 h1 h3=>?_);go_simp)|((first|refine h1 ?_|refine h3 ?_);clear h1 h3 K1 K3)|((first|refine zX (fun hb=>h1 ?_) (fun hb=>h3 ?_)|refine zX (fun hb=>h3 ?_) (fun hb=>h1 ?_))<;>(clear h1 h3 K1 K3;(try have hb2:=yC hb);(try have hb2:=yD hb);(try have hb2:=yE hb);(try have hb2:=yF hb);(try have hb2:=yG hb)))|(refine fun (K2:_→AHeap→Prop) hK2=>?_)|((with_reducible refine zY ?_ ?_);decide)|((with_reducible first|refine zZ ?_ (fun K hK=>?_)|refine yA ?_ (fun K hK=>?_));(focus go_simp;done);go_simp;refine hK _ _ ?_;clear hK K)|(go_simp;(try go_bits);refine hK2 _ _ ?_;clear hK2 K2))
    refine ⟨?_, ?_⟩
    · rw [AHeap.get_push_old (by rw [AHeap.n_push]; exact h4)]; exact h5
    obtain ⟨H3, hH3⟩ : ∃ H3, H3 = (H'.push (AObj.row [Value.int IntKind.i64 lo, Value.int IntKind.i64 hi] 87)).upd ((H.push (AObj.row [Value.slice none 0 0] 37)).n + 1) (.loop .busy none) := ⟨_, rfl⟩
    rw [← hH3]
    have hn3 : H3.n = H'.n + 1 := by rw [hH3, AHeap.n_upd, AHeap.n_push]
    have hk3 : ∀ i, i < H'.n → i ≠ H.n + 2 → H3.get i = H'.get i := by
      intro i hi hne
      rw [hH3, AHeap.get_upd_ne (by rw [AHeap.n_push]; exact hne), AHeap.get_push_old hi]
    have hl3 : H3.get (H.n + 2) = .loop .busy none := by rw [hH3]; exact AHeap.get_upd_same
    have hi3r : H3.get H'.n = .row [Value.int IntKind.i64 lo, Value.int IntKind.i64 hi] 87 := by
      rw [hH3, AHeap.get_upd_ne (by rw [AHeap.n_push]; omega), AHeap.get_push_new]
    have hi3 : cellsAt H3 H'.n 0 2 = some [Value.int IntKind.i64 lo, Value.int IntKind.i64 hi] := by simp [cellsAt, hi3r]
    have hi3a : cellAt H3 H'.n 0 = some (Value.int IntKind.i64 lo) := by simp [cellAt, hi3r]
    have hi3b : cellAt H3 H'.n 1 = some (Value.int IntKind.i64 hi) := by simp [cellAt, hi3r]
    have hc3 : H3.get H.n = .row [v] 37 := by rw [hk3 _ (by omega) (by omega)]; exact h6
    have hcc3 : cellAt H3 H.n 0 = some v := by simp [cellAt, hc3]
    have hne3 : ∀ i n, v = .slice (some ⟨i, 0, none⟩) n n → 0 < n → i ≠ H.n + 2 ∧ i ≠ H.n := by
      intro i n hv hn
      have h9 := (own_block HO.out hv hn).2.2
      constructor
      · rintro rfl; rw [h5] at h9; cases h9
      · rintro rfl; rw [h6] at h9; injection h9 with _ h10; exact absurd h10 (by decide)
    have HO3 : Hid (Own H3 H.n v 87 2 (spanCells acc)) := Lib.hid (own_at HO.out (by omega) fun i n hv hn => hk3 i (own_block HO.out hv hn).2.1 (hne3 i n hv hn).1)
    have HK3 := Lib.hid hk3
    have HNE := Lib.hid hne3
    have HN3 := Lib.hid hn3
    have HL3 := Lib.hid hl3
    have hlt3 : H.n < H3.n := by omega
    have hlt3' : H'.n < H3.n := by omega
    have HC3 := Lib.hid hc3
    clear hk3 hne3 hH3 hl3 hc3 hn3 hi3r
    have hbig : ((spanCells acc).length + 2) * max 16 1 ≤ 1073741824 := by rw [spanCells_length]; simp; omega
    have HBIG := Lib.hid hbig
    clear hbig
    have FIN : ∀ (f2 : AF) (a2 : Option Addr) (n2 : Nat) (H4 : AHeap), Own H4 (H3.push (.row [Value.int IntKind.i64 lo, Value.int IntKind.i64 hi] 87)).n (.slice a2 n2 n2) 87 2 (spanCells acc ++ [Value.int IntKind.i64 lo, Value.int IntKind.i64 hi]) → Grown (H3.push (.row [Value.int IntKind.i64 lo, Value.int IntKind.i64 hi] 87)) H4 H.n v → H4.get H.n = .row [v] 37 → joinS acc (lo, hi) = acc ++ [(lo, hi)] →
        endRoundP ((H.push (AObj.row [Value.slice none 0 0] 37)).n + 1) (fun r H'' => r = .bool true ∧ ∃ D', JoinS H.n (H.n + 2) H.n (ys.map spanVal ++ [spanVal (lo, hi)]) D' H'' ∧ Step D H' D' H'') .normal f2 (H4.upd H.n (.row [.slice a2 n2 n2] 37)) := by
      intro f2 a2 n2 H4 ho4 hg4 hc4 hja
      have hl4 : H4.get (H.n + 2) = .loop .busy none := (hg4.2 (H.n + 2) (by rw [AHeap.n_push]; omega) (fun b n hv hn => (HNE.out b n hv hn).1.symm)).trans (by rw [AHeap.get_push_old (by omega)]; exact HL3.out)
      have hn4 : H'.n + 1 < H4.n := by have := hg4.1; rw [AHeap.n_push, HN3.out] at this; omega
      refine ⟨⟨.busy, none, ?_⟩, rfl, fun i => i = H.n + 2 ∨ i = H.n ∨ ∃ n, Value.slice a2 n2 n2 = .slice (some ⟨i, 0, none⟩) n n ∧ 0 < n, ⟨.slice a2 n2 n2, ys ++ [(lo, hi)], by simp, by rw [HJ.out]; exact HEN.out, Nat.le_refl _, by omega, ?_, ?_, ?_, ?_, fun i => Iff.rfl⟩, ?_⟩
      · rw [AHeap.get_upd_ne (by rw [AHeap.n_push]; omega)]; exact hl4
      · rw [AHeap.n_upd, AHeap.n_upd]; omega
      · exact AHeap.get_upd_same
      · rw [AHeap.get_upd_ne (by rw [AHeap.n_push]; omega), AHeap.get_upd_same]
      · rw [HJ.out, hja, spanCells_app]
        refine own_at (ho4.mono (by rw [AHeap.n_push, HN3.out]; omega)) (by rw [AHeap.n_upd, AHeap.n_upd]; exact Nat.le_refl _) fun i n hv hn => ?_
        have h9 := (own_block ho4 hv hn).2.2
        rw [AHeap.get_upd_ne (fun e => ?_), AHeap.get_upd_ne (fun e => ?_)]
        · rw [e, hc4] at h9; injection h9 with _ h10; exact absurd h10 (by decide)
        · rw [e, AHeap.n_push, hl4] at h9; cases h9
      · refine ⟨by rw [AHeap.n_upd, AHeap.n_upd]; omega, fun i hi hd => ?_, fun i hd => ?_⟩
        · have h9 := fun h => hd ((HDI.out i).2 h)
          rw [AHeap.get_upd_ne (by rw [AHeap.n_push]; exact fun e => h9 (.inl e)), AHeap.get_upd_ne (fun e => h9 (.inr (.inl e))), hg4.2 i (by rw [AHeap.n_push, HN3.out]; omega) (fun b n hv hn e => h9 (.inr (.inr ⟨n, by rw [e]; exact hv, hn⟩))), AHeap.get_push_old (by rw [HN3.out]; omega)]
          exact HK3.out i hi (fun e => h9 (.inl e))
        · rcases hd with h | h | ⟨n, hv, hn⟩
          · exact .inl ((HDI.out i).2 (.inl h))
          · exact .inl ((HDI.out i).2 (.inr (.inl h)))
          · have h9 := (own_block ho4 hv hn).1
            rw [AHeap.n_push, HN3.out] at h9
            exact .inr (by omega)
    have HFIN := Lib.hid FIN
    clear FIN
    have hcon : acc = [] ∨ ∃ acc0 y, acc = acc0 ++ [y] := by
      rcases List.eq_nil_or_concat acc with h | ⟨a, b, h⟩
      · exact .inl h
      · exact .inr ⟨a, b, by rw [h]; simp⟩
    rcases hcon with rfl | ⟨acc0, y, rfl⟩
    · have hv0 : v = .slice none 0 0 := by
        rcases HO.out with ⟨h, _⟩ | ⟨b, m, h1, h2, h3, h4, h5, h6⟩
        · exact h
        · simp [spanCells] at h5; omega
      subst hv0
      repeat' (first|(with_reducible first|refine zA ?_|refine zB fun K hK=>?_|refine zC fun K2 hK2=>?_|refine zD ?_|refine zE ?_|refine zF ?_|refine zG ?_|refine zH ?_|refine zI ?_|refine zM ?_|refine zN ?_|refine zO ?_|refine zP ?_|refine zQ ?_|refine zR ?_)|((with_reducible refine zU (hK _ _ ?_));clear hK K)|((with_reducible refine zV ?_ ?_ fun K1 K3 d hdst h1 h3=>?_);rfl;exact yB rfl;cases hdst;go_simp)|((with_reducible refine zW fun K1 K3 h1 h3=>?_);go_simp)|((first|refine h1 ?_|refine h3 ?_);clear h1 h3 K1 K3)|((first|refine zX (fun hb=>h1 ?_) (fun hb=>h3 ?_)|refine zX (fun hb=>h3 ?_) (fun hb=>h1 ?_))<;>(clear h1 h3 K1 K3;(try have hb2:=yC hb);(try have hb2:=yD hb);(try have hb2:=yE hb);(try have hb2:=yF hb);(try have hb2:=yG hb)))|(refine fun (K2:_→AHeap→Prop) hK2=>?_)|((with_reducible refine zY ?_ ?_);decide)|((with_reducible first|refine zZ ?_ (fun K hK=>?_)|refine yA ?_ (fun K hK=>?_));(focus go_simp;done);go_simp;refine hK _ _ ?_;clear hK K)|(go_simp;(try go_bits);refine hK2 _ _ ?_;clear hK2 K2))
      repeat' (first|(with_reducible first|refine zA ?_|refine zB fun K hK=>?_|refine zC fun K2 hK2=>?_|refine zD ?_|refine zE ?_|refine zF ?_|refine zG ?_|refine zH ?_|refine zI ?_|refine zM ?_|refine zN ?_|refine zO ?_|refine zP ?_|refine zQ ?_|refine zR ?_)|((with_reducible refine zU (hK _ _ ?_));clear hK K)|((with_reducible refine zV ?_ ?_ fun K1 K3 d hdst h1 h3=>?_);rfl;exact yB rfl;cases hdst;go_simp)|((with_reducible refine zW fun K1 K3 h1 h3=>?_);go_simp)|((first|refine h1 ?_|refine h3 ?_);clear h1 h3 K1 K3)|((first|refine zX (fun hb=>h1 ?_) (fun hb=>h3 ?_)|refine zX (fun hb=>h3 ?_) (fun hb=>h1 ?_))<;>(clear h1 h3 K1 K3;(try have hb2:=yC hb);(try have hb2:=yD hb);(try have hb2:=yE hb);(try have hb2:=yF hb);(try have hb2:=yG hb)))|(refine fun (K2:_→AHeap→Prop) hK2=>?_)|((with_reducible refine zY ?_ ?_);decide)|((with_reducible first|refine zZ ?_ (fun K hK=>?_)|refine yA ?_ (fun K hK=>?_));(focus go_simp;done);go_simp;refine hK _ _ ?_;clear hK K)|((with_reducible refine yH mixed rfl ?_ 20 fun K0 hK0=>?_);kernel_rfl)|(with_reducible first|exact yI|exact yJ|refine yK ?_|refine yL ?_|refine yM ?_)|((with_reducible first|refine yN ?_ ?_|refine yO ?_ ?_|refine yP ?_ ?_);rfl)|((with_reducible refine yQ ?_ ?_);rfl;refine hK0 _ _ ?_;clear hK0 K0)|((with_reducible refine yR ?_ ?_ ?_ ?_);rfl;rfl;rfl)|((with_reducible refine yS ?_ ?_ ?_ fun K2 hK2=>?_);rfl;rfl;exact yB rfl)|((with_reducible refine yT ?_ ?_ ?_ ?_ fun K1 K3 d hdst h1 h3=>?_);rfl;rfl;rfl;exact yB rfl;cases hdst;go_simp)|((with_reducible refine yU ?_ ?_ ?_ ?_ fun K1 K3 d hdst h1 h3=>?_);rfl;rfl;rfl;exact yB rfl;cases hdst;go_simp)|((with_reducible refine yV ?_ ?_ (fun K2 hK2=>?_) ?_);rfl;exact yB rfl)|((with_reducible refine yW ?_ ?_ ?_ ?_ (fun K2 hK2=>?_) ?_);rfl;exact yB rfl;rfl;(focus go_simp;done))|((with_reducible refine yX ?_ ?_ ?_ (fun K2 hK2=>?_) ?_);rfl;rfl;exact yB rfl)|((with_reducible refine yY ?_ ?_ (fun K2 hK2=>?_) ?_);rfl;rfl)|((with_reducible refine yZ ?_ ?_);(first|rfl|(dsimp only;decide +kernel)))|((with_reducible refine xA ?_ ?_);(focus go_simp;done))|(go_simp;(try go_bits);(first|(refine hK2 _ _ ?_ ?_<;>clear hK2 K2)|(refine hK2 _ _ ?_;clear hK2 K2))))
      repeat' (first|(with_reducible first|refine zA ?_|refine zB fun K hK=>?_|refine zC fun K2 hK2=>?_|refine zD ?_|refine zE ?_|refine zF ?_|refine zG ?_|refine zH ?_|refine zI ?_|refine zM ?_|refine zN ?_|refine zO ?_|refine zP ?_|refine zQ ?_|refine zR ?_)|((with_reducible refine zU (hK _ _ ?_));clear hK K)|((with_reducible refine zV ?_ ?_ fun K1 K3 d hdst h1 h3=>?_);rfl;exact yB rfl;cases hdst;go_simp)|((with_reducible refine zW fun K1 K3 h1 h3=>?_);go_simp)|((first|refine h1 ?_|refine h3 ?_);clear h1 h3 K1 K3)|((first|refine zX (fun hb=>h1 ?_) (fun hb=>h3 ?_)|refine zX (fun hb=>h3 ?_) (fun hb=>h1 ?_))<;>(clear h1 h3 K1 K3;(try have hb2:=yC hb);(try have hb2:=yD hb);(try have hb2:=yE hb);(try have hb2:=yF hb);(try have hb2:=yG hb)))|(refine fun (K2:_→AHeap→Prop) hK2=>?_)|((with_reducible refine zY ?_ ?_);decide)|((with_reducible first|refine zZ ?_ (fun K hK=>?_)|refine yA ?_ (fun K hK=>?_));(focus go_simp;done);go_simp;refine hK _ _ ?_;clear hK K)|(go_simp;(try go_bits);(try first | ((refine one_k el37 sz87 ze87 rfl (by decide) (by decide) rfl rfl ?_); go_simp) | ((refine append_k2 el37 sz87 by87 ze87 rfl (by decide) (HO3.out.ext (Ext.push _)) (srcCells_new rfl) (by decide) rfl (by rw [List.all_append, spanCells_one]; rfl) HBIG.out (by rw [AHeap.n_push]; omega) fun v2 H4 ho4 hg4 => ?_); (obtain ⟨a2, n2, rfl⟩ := own_slice ho4); (have HO4 := Lib.hid ho4); (have HG4 := Lib.hid hg4); (have hc4 : H4.get H.n = .row [Value.slice none 0 0] 37 := (hg4.2 H.n (by rw [AHeap.n_push]; omega) (fun b n hv hn => (HNE.out b n hv hn).2.symm)).trans (by rw [AHeap.get_push_old hlt3]; exact HC3.out)); clear ho4 hg4; go_simp));refine hK2 _ _ ?_;clear hK2 K2))
      exact HFIN.out _ _ _ _ HO4.out HG4.out hc4 rfl
    · obtain ⟨b, hv0, hbge, hblt, hbr⟩ : ∃ b, v = .slice (some ⟨b, 0, none⟩) (acc0.length + 1) (acc0.length + 1) ∧ H.n ≤ b ∧ b < H3.n ∧ H3.get b = .row (spanCells (acc0 ++ [y])) 87 := by
        rcases HO3.out with ⟨_, h⟩ | ⟨b, m, h1, h2, h3, h4, h5, h6⟩
        · have := congrArg List.length h; simp [spanCells_length] at this
        · rw [spanCells_length] at h5
          have : m = acc0.length + 1 := by simp at h5; omega
          subst this
          exact ⟨b, h1, h2, h3, h4⟩
      subst hv0
      obtain ⟨y1, y2⟩ := y
      have hy := HEN0.out (y1, y2) (by simp)
      have hcell : cellAt H3 b (acc0.length * 2 + 1) = some (.int .i64 y2) := by
        simp only [cellAt, hbr]; exact spanCells_get acc0 (y1, y2)
      have hkl : acc0.length < 999 := by simp at hlen2; omega
      have hset : setL (spanCells (acc0 ++ [(y1, y2)])) (acc0.length * 2 + 1) [.int .i64 hi] = some (spanCells (acc0 ++ [(y1, hi)])) := spanCells_set acc0 (y1, y2) hi
      have hone : (spanCells (acc0 ++ [(y1, hi)])).all oneV = true := spanCells_one _
      simp only at hy
      obtain ⟨hy1, hy2⟩ := hy
      repeat' (first|(with_reducible first|refine zA ?_|refine zB fun K hK=>?_|refine zC fun K2 hK2=>?_|refine zD ?_|refine zE ?_|refine zF ?_|refine zG ?_|refine zH ?_|refine zI ?_|refine zM ?_|refine zN ?_|refine zO ?_|refine zP ?_|refine zQ ?_|refine zR ?_)|((with_reducible refine zU (hK _ _ ?_));clear hK K)|((with_reducible refine zV ?_ ?_ fun K1 K3 d hdst h1 h3=>?_);rfl;exact yB rfl;cases hdst;go_simp)|((with_reducible refine zW fun K1 K3 h1 h3=>?_);go_simp)|((first|refine h1 ?_|refine h3 ?_);clear h1 h3 K1 K3)|((first|refine zX (fun hb=>h1 ?_) (fun hb=>h3 ?_)|refine zX (fun hb=>h3 ?_) (fun hb=>h1 ?_))<;>(clear h1 h3 K1 K3;(try have hb2:=yC hb);(try have hb2:=yD hb);(try have hb2:=yE hb);(try have hb2:=yF hb);(try have hb2:=yG hb)))|(refine fun (K2:_→AHeap→Prop) hK2=>?_)|((with_reducible refine zY ?_ ?_);decide)|((with_reducible first|refine zZ ?_ (fun K hK=>?_)|refine yA ?_ (fun K hK=>?_));(focus go_simp;done);go_simp;refine hK _ _ ?_;clear hK K)|(go_simp;(try go_bits);refine hK2 _ _ ?_;clear hK2 K2))
      repeat' (first|(with_reducible first|refine zA ?_|refine zB fun K hK=>?_|refine zC fun K2 hK2=>?_|refine zD ?_|refine zE ?_|refine zF ?_|refine zG ?_|refine zH ?_|refine zI ?_|refine zM ?_|refine zN ?_|refine zO ?_|refine zP ?_|refine zQ ?_|refine zR ?_)|((with_reducible refine zU (hK _ _ ?_));clear hK K)|((with_reducible refine zV ?_ ?_ fun K1 K3 d hdst h1 h3=>?_);rfl;exact yB rfl;cases hdst;go_simp)|((with_reducible refine zW fun K1 K3 h1 h3=>?_);go_simp)|((first|refine h1 ?_|refine h3 ?_);clear h1 h3 K1 K3)|((first|refine zX (fun hb=>h1 ?_) (fun hb=>h3 ?_)|refine zX (fun hb=>h3 ?_) (fun hb=>h1 ?_))<;>(clear h1 h3 K1 K3;(try have hb2:=yC hb);(try have hb2:=yD hb);(try have hb2:=yE hb);(try have hb2:=yF hb);(try have hb2:=yG hb)))|(refine fun (K2:_→AHeap→Prop) hK2=>?_)|((with_reducible refine zY ?_ ?_);decide)|((with_reducible first|refine zZ ?_ (fun K hK=>?_)|refine yA ?_ (fun K hK=>?_));(focus go_simp;done);go_simp;refine hK _ _ ?_;clear hK K)|((with_reducible refine yH mixed rfl ?_ 20 fun K0 hK0=>?_);kernel_rfl)|(with_reducible first|exact yI|exact yJ|refine yK ?_|refine yL ?_|refine yM ?_)|((with_reducible first|refine yN ?_ ?_|refine yO ?_ ?_|refine yP ?_ ?_);rfl)|((with_reducible refine yQ ?_ ?_);rfl;refine hK0 _ _ ?_;clear hK0 K0)|((with_reducible refine yR ?_ ?_ ?_ ?_);rfl;rfl;rfl)|((with_reducible refine yS ?_ ?_ ?_ fun K2 hK2=>?_);rfl;rfl;exact yB rfl)|((with_reducible refine yT ?_ ?_ ?_ ?_ fun K1 K3 d hdst h1 h3=>?_);rfl;rfl;rfl;exact yB rfl;cases hdst;go_simp)|((with_reducible refine yU ?_ ?_ ?_ ?_ fun K1 K3 d hdst h1 h3=>?_);rfl;rfl;rfl;exact yB rfl;cases hdst;go_simp)|((with_reducible refine yV ?_ ?_ (fun K2 hK2=>?_) ?_);rfl;exact yB rfl)|((with_reducible refine yW ?_ ?_ ?_ ?_ (fun K2 hK2=>?_) ?_);rfl;exact yB rfl;rfl;(focus go_simp;done))|((with_reducible refine yX ?_ ?_ ?_ (fun K2 hK2=>?_) ?_);rfl;rfl;exact yB rfl)|((with_reducible refine yY ?_ ?_ (fun K2 hK2=>?_) ?_);rfl;rfl)|((with_reducible refine yZ ?_ ?_);(first|rfl|(dsimp only;decide +kernel)))|((with_reducible refine xA ?_ ?_);(focus go_simp;done))|(go_simp;(try go_bits);(first|(refine hK2 _ _ ?_ ?_<;>clear hK2 K2)|(refine hK2 _ _ ?_;clear hK2 K2))))
      repeat' (first|(with_reducible first|refine zA ?_|refine zB fun K hK=>?_|refine zC fun K2 hK2=>?_|refine zD ?_|refine zE ?_|refine zF ?_|refine zG ?_|refine zH ?_|refine zI ?_|refine zM ?_|refine zN ?_|refine zO ?_|refine zP ?_|refine zQ ?_|refine zR ?_)|((with_reducible refine zU (hK _ _ ?_));clear hK K)|((with_reducible refine zV ?_ ?_ fun K1 K3 d hdst h1 h3=>?_);rfl;exact yB rfl;cases hdst;go_simp)|((with_reducible refine zW fun K1 K3 h1 h3=>?_);go_simp)|((first|refine h1 ?_|refine h3 ?_);clear h1 h3 K1 K3)|((first|refine zX (fun hb=>h1 ?_) (fun hb=>h3 ?_)|refine zX (fun hb=>h3 ?_) (fun hb=>h1 ?_))<;>(clear h1 h3 K1 K3;(try have hb2:=yC hb);(try have hb2:=yD hb);(try have hb2:=yE hb);(try have hb2:=yF hb);(try have hb2:=yG hb)))|(refine fun (K2:_→AHeap→Prop) hK2=>?_)|((with_reducible refine zY ?_ ?_);decide)|((with_reducible first|refine zZ ?_ (fun K hK=>?_)|refine yA ?_ (fun K hK=>?_));(focus go_simp;done);go_simp;refine hK _ _ ?_;clear hK K)|(go_simp;(try go_bits);(try first | ((refine one_k el37 sz87 ze87 rfl (by decide) (by decide) rfl rfl ?_); go_simp) | ((refine append_k2 el37 sz87 by87 ze87 rfl (by decide) (HO3.out.ext (Ext.push _)) (srcCells_new rfl) (by decide) rfl (by rw [List.all_append, spanCells_one]; rfl) HBIG.out (by rw [AHeap.n_push]; omega) fun v2 H4 ho4 hg4 => ?_); (obtain ⟨a2, n2, rfl⟩ := own_slice ho4); (have HO4 := Lib.hid ho4); (have HG4 := Lib.hid hg4); (have hc4 : H4.get H.n = .row [Value.slice (some ⟨b, 0, none⟩) (acc0.length + 1) (acc0.length + 1)] 37 := (hg4.2 H.n (by rw [AHeap.n_push]; omega) (fun b n hv hn => (HNE.out b n hv hn).2.symm)).trans (by rw [AHeap.get_push_old hlt3]; exact HC3.out)); clear ho4 hg4; go_simp));refine hK2 _ _ ?_;clear hK2 K2))
      · have hyl : y2 + 1 = lo := by simpa using hb
        have hja : joinS (acc0 ++ [(y1, y2)]) (lo, hi) = acc0 ++ [(y1, hi)] := by
          simp [joinS, hyl]
        have hbl : b ≠ H.n + 2 := (HNE.out b _ rfl (by omega)).1
        have hbc : b ≠ H.n := (HNE.out b _ rfl (by omega)).2
        refine ⟨⟨.busy, none, ?_⟩, rfl, D, ⟨.slice (some ⟨b, 0, none⟩) (acc0.length + 1) (acc0.length + 1), ys ++ [(lo, hi)], by simp, by rw [HJ.out]; exact HEN.out, Nat.le_refl _, by omega, ?_, ?_, ?_, ?_, HDI.out⟩, ?_⟩
        · rw [AHeap.get_upd_ne (by rw [AHeap.n_push]; exact fun e => hbl e.symm)]; exact HL3.out
        · rw [AHeap.n_upd, AHeap.n_upd, HN3.out]; omega
        · exact AHeap.get_upd_same
        · rw [AHeap.get_upd_ne (by rw [AHeap.n_push]; omega), AHeap.get_upd_ne hbc.symm]; exact HC3.out
        · rw [HJ.out, hja]
          refine .inr ⟨b, _, rfl, hbge, by rw [AHeap.n_upd, AHeap.n_upd]; exact hblt, ?_, by rw [spanCells_length]; simp, by omega⟩
          rw [AHeap.get_upd_ne (by rw [AHeap.n_push]; exact hbl), AHeap.get_upd_same]
        · refine ⟨by rw [AHeap.n_upd, AHeap.n_upd, HN3.out]; omega, fun i hi hd => ?_, fun i hd => .inl hd⟩
          have h9 := fun h => hd ((HDI.out i).2 h)
          rw [AHeap.get_upd_ne (by rw [AHeap.n_push]; exact fun e => h9 (.inl e)), AHeap.get_upd_ne (fun e => h9 (.inr (.inr ⟨_, by rw [e], by omega⟩)))]
          exact HK3.out i hi (fun e => h9 (.inl e))
      · have hyl : ¬ y2 + 1 = lo := by simpa using hb
        exact HFIN.out _ _ _ _ HO4.out HG4.out hc4 (by simp [joinS, hyl])

def Spans (H : AHeap) (v : Value) (l : List (Int × Int)) : Prop := Cells H v 2 l.length (spanCells l)
theorem Spans.ext {H H' : AHeap} {v : Value} {l : List (Int × Int)} (h : Spans H v l) (hx : Ext H H') : Spans H' v l := Cells.ext h hx
theorem Spans.slice {H : AHeap} {v : Value} {l : List (Int × Int)} (h : Spans H v l) : l.length ≤ 9223372036854775807 ∧ ∃ a c, v = .slice a l.length c := by
  obtain ⟨h1, h2, a', c', h3, h4⟩ := h
  exact ⟨h2, a', c', h3⟩
theorem spans_of_own {H : AHeap} {base : Nat} {v : Value} {l : List (Int × Int)} (h : Own H base v 87 2 (spanCells l)) (hl : l.length ≤ 9223372036854775807) : Spans H v l := by
  have hlen := spanCells_length l
  rcases h with ⟨rfl, h2⟩ | ⟨b, n, rfl, h2, h3, h4, h5, h6⟩
  · have : l.length = 0 := by rw [h2] at hlen; simp at hlen; omega
    exact ⟨hlen, hl, none, 0, by rw [this], by omega⟩
  · have hn : n = l.length := by omega
    subst hn
    refine ⟨hlen, hl, _, _, rfl, fun _ => ⟨b, 0, none, rfl, h3, fun j u hu => ?_⟩⟩
    simp only [cellAt, h4, Nat.zero_add]; exact hu

end Go.Proofs.Try
namespace Go.Proofs.Try
open Go Go.Am Go.RowKit
set_option maxRecDepth 100000


theorem has_s {loops : List (Nat × LInfo)} {H : AHeap} {v : Value} {xs : List Int} {w : Int} (hv : Ints H v xs) : CallS Try.prog loops 44 [v, .int .i64 w] H fun r H' => r = .bool (decide (w ∈ xs)) ∧ H' = H := by
  obtain ⟨hlen, a, c, rfl⟩ := hv.slice
  have HV := Lib.hid hv
  clear hv
  generalize he : decide (w ∈ xs) = er
  have HE := Lib.hid he
  clear he
  refine CallS.enter' Try.func44 rfl Try.ntmps44 (by simp) fun f hd hf => ?_
  have f0 := hf 0
  have f1 := hf 1
  simp at f0 f1
  clear hf
  repeat' (first|(with_reducible first|refine zA ?_|refine zB fun K hK=>?_|refine zC fun K2 hK2=>?_|refine zD ?_|refine zE ?_|refine zF ?_|refine zG ?_|refine zH ?_|refine zI ?_|refine zM ?_|refine zN ?_|refine zO ?_|refine zP ?_|refine zQ ?_|refine zR ?_)|((with_reducible refine zU (hK _ _ ?_));clear hK K)|((with_reducible refine zV ?_ ?_ fun K1 K3 d hdst h1 h3=>?_);rfl;exact yB rfl;cases hdst;go_simp)|((with_reducible refine zW fun K1 K3 h1 h3=>?_);go_simp)|((first|refine h1 ?_|refine h3 ?_);clear h1 h3 K1 K3)|((first|refine zX (fun hb=>h1 ?_) (fun hb=>h3 ?_)|refine zX (fun hb=>h3 ?_) (fun hb=>h1 ?_))<;>(clear h1 h3 K1 K3;(try have hb2:=yC hb);(try have hb2:=yD hb);(try have hb2:=yE hb);(try have hb2:=yF hb);(try have hb2:=yG hb)))|(refine fun (K2:_→AHeap→Prop) hK2=>?_)|((with_reducible refine zY ?_ ?_);decide)|((with_reducible first|refine zZ ?_ (fun K hK=>?_)|refine yA ?_ (fun K hK=>?_));(focus go_simp;done);go_simp;refine hK _ _ ?_;clear hK K)|(go_simp;(try go_bits);refine hK2 _ _ ?_;clear hK2 K2))
  refine CodeS.loop (fun m f H' => ∃ k : Nat, k ≤ xs.length ∧ m = xs.length - k ∧ f.tmp 5 = .int .i64 k ∧ f.tmp 0 = .slice a xs.length c ∧ f.tmp 1 = .int .i64 w ∧ f.defers = [] ∧ Hid (decide (w ∈ xs.drop k) = er) ∧ H' = H) xs.length ?_ ?_
  · exact ⟨0, by simp, by simp, (by first|go_simp<;>go_num|assumption), (by first|go_simp<;>go_num|assumption), (by first|go_simp<;>go_num|assumption), (by first|go_simp<;>go_num|assumption), Lib.hid (by simpa using HE.out), rfl⟩
  clear f0 f1 hd f HE
  rintro m f H' ⟨k, hk, rfl, f5, f0, f1, hd, HG, rfl⟩
  by_cases hlt : k < xs.length
  · obtain ⟨b, o, sp, rfl, hb, hx⟩ := HV.out.at_ hlt
    have HD := Lib.hid (List.drop_eq_getElem_cons hlt)
    generalize xs[k] = y at hx HD
    repeat' (first|(with_reducible first|refine zA ?_|refine zB fun K hK=>?_|refine zC fun K2 hK2=>?_|refine zD ?_|refine zE ?_|refine zF ?_|refine zG ?_|refine zH ?_|refine zI ?_|refine zM ?_|refine zN ?_|refine zO ?_|refine zP ?_|refine zQ ?_|refine zR ?_)|((with_reducible refine zU (hK _ _ ?_));clear hK K)|((with_reducible refine zV ?_ ?_ fun K1 K3 d hdst h1 h3=>?_);rfl;exact yB rfl;cases hdst;go_simp)|((with_reducible refine zW fun K1 K3 h1 h3=>?_);go_simp)|((first|refine h1 ?_|refine h3 ?_);clear h1 h3 K1 K3)|((first|refine zX (fun hb=>h1 ?_) (fun hb=>h3 ?_)|refine zX (fun hb=>h3 ?_) (fun hb=>h1 ?_))<;>(clear h1 h3 K1 K3;(try have hb2:=yC hb);(try have hb2:=yD hb);(try have hb2:=yE hb);(try have hb2:=yF hb);(try have hb2:=yG hb)))|(refine fun (K2:_→AHeap→Prop) hK2=>?_)|((with_reducible refine zY ?_ ?_);decide)|((with_reducible first|refine zZ ?_ (fun K hK=>?_)|refine yA ?_ (fun K hK=>?_));(focus go_simp;done);go_simp;refine hK _ _ ?_;clear hK K)|(go_simp;(try go_bits);refine hK2 _ _ ?_;clear hK2 K2))
    · refine ⟨?_, rfl⟩
      have hw : y = w := by simpa using hb
      rw [← HG.out, HD.out]; simp [hw]
    · have hw : ¬ y = w := by simpa using hb
      refine Post.round_normal ⟨xs.length - (k + 1), by omega, k + 1, by omega, rfl, (by first|go_simp<;>go_num|assumption), (by first|go_simp<;>go_num|assumption), (by first|go_simp<;>go_num|assumption), (by first|go_simp<;>go_num|assumption), Lib.hid ?_, rfl⟩
      rw [← HG.out, HD.out]
      rw [decide_eq_decide, List.mem_cons]
      exact ⟨fun h => .inr h, fun h => h.elim (fun e => absurd e.symm hw) id⟩
  · repeat' (first|(with_reducible first|refine zA ?_|refine zB fun K hK=>?_|refine zC fun K2 hK2=>?_|refine zD ?_|refine zE ?_|refine zF ?_|refine zG ?_|refine zH ?_|refine zI ?_|refine zM ?_|refine zN ?_|refine zO ?_|refine zP ?_|refine zQ ?_|refine zR ?_)|((with_reducible refine zU (hK _ _ ?_));clear hK K)|((with_reducible refine zV ?_ ?_ fun K1 K3 d hdst h1 h3=>?_);rfl;exact yB rfl;cases hdst;go_simp)|((with_reducible refine zW fun K1 K3 h1 h3=>?_);go_simp)|((first|refine h1 ?_|refine h3 ?_);clear h1 h3 K1 K3)|((first|refine zX (fun hb=>h1 ?_) (fun hb=>h3 ?_)|refine zX (fun hb=>h3 ?_) (fun hb=>h1 ?_))<;>(clear h1 h3 K1 K3;(try have hb2:=yC hb);(try have hb2:=yD hb);(try have hb2:=yE hb);(try have hb2:=yF hb);(try have hb2:=yG hb)))|(refine fun (K2:_→AHeap→Prop) hK2=>?_)|((with_reducible refine zY ?_ ?_);decide)|((with_reducible first|refine zZ ?_ (fun K hK=>?_)|refine yA ?_ (fun K hK=>?_));(focus go_simp;done);go_simp;refine hK _ _ ?_;clear hK K)|(go_simp;(try go_bits);refine hK2 _ _ ?_;clear hK2 K2))
    refine ⟨?_, rfl⟩
    rw [← HG.out, List.drop_eq_nil_of_le (by omega)]; simp

theorem spanCells_at : ∀ (l : List (Int × Int)) (k : Nat) (h : k < l.length), (spanCells l)[k * 2]? = some (.int .i64 (l[k]).1) ∧ (spanCells l)[k * 2 + 1]? = some (.int .i64 (l[k]).2)
  | a :: l, 0, _ => ⟨rfl, rfl⟩
  | a :: l, k + 1, h => by
    have := spanCells_at l k (by simpa using h)
    have e : spanCells (a :: l) = .int .i64 a.1 :: .int .i64 a.2 :: spanCells l := rfl
    rw [e, show (k + 1) * 2 = k * 2 + 1 + 1 by omega]
    simpa using this
theorem Spans.at_ {H : AHeap} {a : Option Addr} {n c : Nat} {l : List (Int × Int)} (h : Spans H (.slice a n c) l) {k : Nat} (hk : k < l.length) : ∃ b o sp, a = some ⟨b, o, sp⟩ ∧ b < H.n ∧ cellAt H b (o + k * 2) = some (.int .i64 (l[k]).1) ∧ cellAt H b (o + k * 2 + 1) = some (.int .i64 (l[k]).2) := by
  obtain ⟨h1, h2, a', c', h3, h4⟩ := h
  cases h3
  obtain ⟨b, o, sp, h5, h6, h7⟩ := h4 (by omega)
  have := spanCells_at l k hk
  exact ⟨b, o, sp, h5, h6, h7 _ _ this.1, by rw [Nat.add_assoc]; exact h7 _ _ this.2⟩

theorem Spans.cells_at {H : AHeap} {a : Option Addr} {n c : Nat} {l : List (Int × Int)} (h : Spans H (.slice a n c) l) {k : Nat} (hk : k < l.length) : ∃ b o sp, a = some ⟨b, o, sp⟩ ∧ b < H.n ∧ cellsAt H b (o + k * 2) 2 = some [.int .i64 (l[k]).1, .int .i64 (l[k]).2] := by
  obtain ⟨b, o, sp, h1, h2, h3, h4⟩ := h.at_ hk
  refine ⟨b, o, sp, h1, h2, cellsAt_of (us := [.int .i64 (l[k]).1, .int .i64 (l[k]).2]) (by simp) fun j u hu => ?_⟩
  match j, hu with
  | 0, hu => rw [Nat.add_zero, h3]; exact hu
  | 1, hu => rw [h4]; exact hu
  | j + 2, hu => simp at hu

theorem inside_s {loops : List (Nat × LInfo)} {H : AHeap} {v : Value} {l : List (Int × Int)} {d : Int} (hv : Spans H v l) : CallS Try.prog loops 45 [v, .int .i64 d] H fun r H' => r = .bool (insideL l d) ∧ H' = H := by
  obtain ⟨hlen, a, c, rfl⟩ := hv.slice
  have HV := Lib.hid hv
  clear hv
  generalize he : insideL l d = er
  have HE := Lib.hid he
  clear he
  refine CallS.enter' Try.func45 rfl Try.ntmps45 (by simp) fun f hd hf => ?_
  have f0 := hf 0
  have f1 := hf 1
  simp at f0 f1
  clear hf
  repeat' (first|(with_reducible first|refine zA ?_|refine zB fun K hK=>?_|refine zC fun K2 hK2=>?_|refine zD ?_|refine zE ?_|refine zF ?_|refine zG ?_|refine zH ?_|refine zI ?_|refine zM ?_|refine zN ?_|refine zO ?_|refine zP ?_|refine zQ ?_|refine zR ?_)|((with_reducible refine zU (hK _ _ ?_));clear hK K)|((with_reducible refine zV ?_ ?_ fun K1 K3 d hdst h1 h3=>?_);rfl;exact yB rfl;cases hdst;go_simp)|((with_reducible refine zW fun K1 K3 h1 h3=>?_);go_simp)|((first|refine h1 ?_|refine h3 ?_);clear h1 h3 K1 K3)|((first|refine zX (fun hb=>h1 ?_) (fun hb=>h3 ?_)|refine zX (fun hb=>h3 ?_) (fun hb=>h1 ?_))<;>(clear h1 h3 K1 K3;(try have hb2:=yC hb);(try have hb2:=yD hb);(try have hb2:=yE hb);(try have hb2:=yF hb);(try have hb2:=yG hb)))|(refine fun (K2:_→AHeap→Prop) hK2=>?_)|((with_reducible refine zY ?_ ?_);decide)|((with_reducible first|refine zZ ?_ (fun K hK=>?_)|refine yA ?_ (fun K hK=>?_));(focus go_simp;done);go_simp;refine hK _ _ ?_;clear hK K)|(go_simp;(try go_bits);refine hK2 _ _ ?_;clear hK2 K2))
  refine CodeS.loop (fun m f H' => ∃ k : Nat, k ≤ l.length ∧ m = l.length - k ∧ f.tmp 5 = .int .i64 k ∧ f.tmp 0 = .slice a l.length c ∧ f.tmp 1 = .int .i64 d ∧ f.defers = [] ∧ Hid (insideL (l.drop k) d = er) ∧ H' = H) l.length ?_ ?_
  · exact ⟨0, by simp, by simp, (by first|go_simp<;>go_num|assumption), (by first|go_simp<;>go_num|assumption), (by first|go_simp<;>go_num|assumption), (by first|go_simp<;>go_num|assumption), Lib.hid (by simpa using HE.out), rfl⟩
  clear f0 f1 hd f HE
  rintro m f H' ⟨k, hk, rfl, f5, f0, f1, hd, HG, rfl⟩
  by_cases hlt : k < l.length
  · obtain ⟨b, o, sp, rfl, hb, hx1, hx2⟩ := HV.out.at_ hlt
    have HD := Lib.hid (List.drop_eq_getElem_cons hlt)
    generalize l[k] = y at hx1 hx2 HD
    obtain ⟨lo, hi⟩ := y
    simp only at hx1 hx2
    repeat' (first|(with_reducible first|refine zA ?_|refine zB fun K hK=>?_|refine zC fun K2 hK2=>?_|refine zD ?_|refine zE ?_|refine zF ?_|refine zG ?_|refine zH ?_|refine zI ?_|refine zM ?_|refine zN ?_|refine zO ?_|refine zP ?_|refine zQ ?_|refine zR ?_)|((with_reducible refine zU (hK _ _ ?_));clear hK K)|((with_reducible refine zV ?_ ?_ fun K1 K3 d hdst h1 h3=>?_);rfl;exact yB rfl;cases hdst;go_simp)|((with_reducible refine zW fun K1 K3 h1 h3=>?_);go_simp)|((first|refine h1 ?_|refine h3 ?_);clear h1 h3 K1 K3)|((first|refine zX (fun hb=>h1 ?_) (fun hb=>h3 ?_)|refine zX (fun hb=>h3 ?_) (fun hb=>h1 ?_))<;>(clear h1 h3 K1 K3;(try have hb2:=yC hb);(try have hb2:=yD hb);(try have hb2:=yE hb);(try have hb2:=yF hb);(try have hb2:=yG hb)))|(refine fun (K2:_→AHeap→Prop) hK2=>?_)|((with_reducible refine zY ?_ ?_);decide)|((with_reducible first|refine zZ ?_ (fun K hK=>?_)|refine yA ?_ (fun K hK=>?_));(focus go_simp;done);go_simp;refine hK _ _ ?_;clear hK K)|(go_simp;(try go_bits);refine hK2 _ _ ?_;clear hK2 K2))
    · refine ⟨?_, rfl⟩
      have hw : win lo hi d = true := win_iff.2 ⟨by omega, by omega⟩
      rw [← HG.out, HD.out]; simp [insideL, hw]
    · have hw : win lo hi d = false := win_not.2 (by omega)
      refine Post.round_normal ⟨l.length - (k + 1), by omega, k + 1, by omega, rfl, (by first|go_simp<;>go_num|assumption), (by first|go_simp<;>go_num|assumption), (by first|go_simp<;>go_num|assumption), (by first|go_simp<;>go_num|assumption), Lib.hid ?_, rfl⟩
      rw [← HG.out, HD.out]; simp [insideL, hw]
    · have hw : win lo hi d = false := win_not.2 (by omega)
      refine Post.round_normal ⟨l.length - (k + 1), by omega, k + 1, by omega, rfl, (by first|go_simp<;>go_num|assumption), (by first|go_simp<;>go_num|assumption), (by first|go_simp<;>go_num|assumption), (by first|go_simp<;>go_num|assumption), Lib.hid ?_, rfl⟩
      rw [← HG.out, HD.out]; simp [insideL, hw]
  · repeat' (first|(with_reducible first|refine zA ?_|refine zB fun K hK=>?_|refine zC fun K2 hK2=>?_|refine zD ?_|refine zE ?_|refine zF ?_|refine zG ?_|refine zH ?_|refine zI ?_|refine zM ?_|refine zN ?_|refine zO ?_|refine zP ?_|refine zQ ?_|refine zR ?_)|((with_reducible refine zU (hK _ _ ?_));clear hK K)|((with_reducible refine zV ?_ ?_ fun K1 K3 d hdst h1 h3=>?_);rfl;exact yB rfl;cases hdst;go_simp)|((with_reducible refine zW fun K1 K3 h1 h3=>?_);go_simp)|((first|refine h1 ?_|refine h3 ?_);clear h1 h3 K1 K3)|((first|refine zX (fun hb=>h1 ?_) (fun hb=>h3 ?_)|refine zX (fun hb=>h3 ?_) (fun hb=>h1 ?_))<;>(clear h1 h3 K1 K3;(try have hb2:=yC hb);(try have hb2:=yD hb);(try have hb2:=yE hb);(try have hb2:=yF hb);(try have hb2:=yG hb)))|(refine fun (K2:_→AHeap→Prop) hK2=>?_)|((with_reducible refine zY ?_ ?_);decide)|((with_reducible first|refine zZ ?_ (fun K hK=>?_)|refine yA ?_ (fun K hK=>?_));(focus go_simp;done);go_simp;refine hK _ _ ?_;clear hK K)|(go_simp;(try go_bits);refine hK2 _ _ ?_;clear hK2 K2))
    refine ⟨?_, rfl⟩
    rw [← HG.out, List.drop_eq_nil_of_le (by omega)]; rfl

def fewB (s : Sheet) : Bool := (decide (s.words.length ≤ 8) || (decide (40 < s.words.length) && decide (s.words.length ≤ 50))) && (decide (s.alts.length ≤ 8) || (decide (40 < s.alts.length) && decide (s.alts.length ≤ 50)))
theorem few_s {loops : List (Nat × LInfo)} {H : AHeap} {sv : Value} {s : Sheet} (hv : SheetV H sv s) : CallS Try.prog loops 19 [sv] H fun r H' => r = .bool (fewB s) ∧ H' = H := by
  refine CallS.forget (R := fun v => v = .bool (fewB s)) (by rintro v rfl; rfl) ?_
  obtain ⟨wv, av, rfl, hw, ha⟩ := hv
  obtain ⟨hwl, wa, wc, rfl⟩ := hw.slice
  obtain ⟨hal, aa, ac, rfl⟩ := ha.slice
  clear hw ha
  generalize he : fewB s = er
  have HE := Lib.hid he
  clear he
  refine CallS.enter' Try.func19 rfl Try.ntmps19 (by simp) fun f hd hf => ?_
  have f0 := hf 0
  simp at f0
  clear hf
  repeat' (first|(with_reducible first|refine zA ?_|refine zB fun K hK=>?_|refine zC fun K2 hK2=>?_|refine zD ?_|refine zE ?_|refine zF ?_|refine zG ?_|refine zH ?_|refine zI ?_|refine zM ?_|refine zN ?_|refine zO ?_|refine zP ?_|refine zQ ?_|refine zR ?_)|((with_reducible refine zU (hK _ _ ?_));clear hK K)|((with_reducible refine zV ?_ ?_ fun K1 K3 d hdst h1 h3=>?_);rfl;exact yB rfl;cases hdst;go_simp)|((with_reducible refine zW fun K1 K3 h1 h3=>?_);go_simp)|((first|refine h1 ?_|refine h3 ?_);clear h1 h3 K1 K3)|((first|refine zX (fun hb=>h1 ?_) (fun hb=>h3 ?_)|refine zX (fun hb=>h3 ?_) (fun hb=>h1 ?_))<;>(clear h1 h3 K1 K3;(try have hb2:=yC hb);(try have hb2:=yD hb);(try have hb2:=yE hb);(try have hb2:=yF hb);(try have hb2:=yG hb)))|(refine fun (K2:_→AHeap→Prop) hK2=>?_)|((with_reducible refine zY ?_ ?_);decide)|((with_reducible first|refine zZ ?_ (fun K hK=>?_)|refine yA ?_ (fun K hK=>?_));(focus go_simp;done);go_simp;refine hK _ _ ?_;clear hK K)|(go_simp;(try go_bits);refine hK2 _ _ ?_;clear hK2 K2))
  all_goals
    refine ⟨?_, (Ext.refl _).push' _⟩
    rw [← HE.out]
    simp only [fewB, Value.bool.injEq]
    rw [Bool.eq_iff_iff]
    simp only [Bool.and_eq_true, Bool.or_eq_true, decide_eq_true_eq, true_iff, Bool.false_eq_true, false_iff]
    omega
end Go.Proofs.Try
