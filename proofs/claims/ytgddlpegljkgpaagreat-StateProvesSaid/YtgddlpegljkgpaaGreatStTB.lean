/- Contracts of functions, walked. -/
import Derived.Test.YtgddlpegljkgpaaGreatStTD
import Derived.Test.YtgddlpegljkgpaaGreatStSN
set_option linter.all false
namespace Go.Proofs.Tryz
open Go Go.Am Go.RowKit Go.Co
set_option maxRecDepth 100000

theorem backL_map (g : Nat → Value) : ∀ n, backL g n = (List.range n).reverse.map g
  | 0 => rfl
  | n + 1 => by rw [backL, backL_map g n, List.range_succ, List.reverse_append]; rfl
theorem itemR_inj {vs : List Value} {i j : Nat} (h : itemR vs i = itemR vs j) : i = j := by
  simp [itemR] at h
  omega
theorem itemsR_inj (vs : List Value) : ∀ (a b : List Nat), a.map (itemR vs) = b.map (itemR vs) → a = b
  | [], [], _ => rfl
  | [], _ :: _, h => by simp at h
  | _ :: _, [], h => by simp at h
  | x :: t, y :: u, h => by
    simp only [List.map_cons, List.cons.injEq] at h
    rw [itemR_inj h.1, itemsR_inj vs t u h.2]
theorem rev_rows (x : Course) : (List.range x.open_.length).reverse.map (fun i => flipS (x.at_ i)) = x.open_.reverse.map flipS := by
  rw [List.map_reverse, List.map_reverse]
  congr 1
  refine List.ext_getElem (by simp) fun i h1 h2 => ?_
  simp at h2
  simp [Course.at_, h2]

def SpansD (D : Nat → Prop) (q : Nat) (H : AHeap) (v : Value) (l : List (Int × Int)) : Prop := (spanCells l).length = l.length * 2 ∧ l.length ≤ 9223372036854775807 ∧ ∃ a c, v = .slice a l.length c ∧ (0 < l.length → ∃ b o sp, a = some ⟨b, o, sp⟩ ∧ D b ∧ b < q ∧ ∀ j u, (spanCells l)[j]? = some u → cellAt H b (o + j) = some u)
theorem SpansD.keep {D D' : Nat → Prop} {q q' : Nat} {H H' : AHeap} {v : Value} {l : List (Int × Int)} (h : SpansD D q H v l) (hk : ∀ b, D b → b < q → D' b ∧ b < q' ∧ H'.get b = H.get b) : SpansD D' q' H' v l := by
  obtain ⟨h1, h2, a, c, h3, h4⟩ := h
  refine ⟨h1, h2, a, c, h3, fun hn => ?_⟩
  obtain ⟨b, o, sp, h5, h6, h7, h8⟩ := h4 hn
  obtain ⟨h9, h10, h11⟩ := hk b h6 h7
  exact ⟨b, o, sp, h5, h9, h10, fun j u hu => by rw [cellAt_get h11]; exact h8 j u hu⟩
theorem SpansD.to {D : Nat → Prop} {q : Nat} {H : AHeap} {v : Value} {l : List (Int × Int)} (h : SpansD D q H v l) : SpansIn 0 q H v l := by
  obtain ⟨h1, h2, a, c, h3, h4⟩ := h
  refine ⟨h1, h2, a, c, h3, fun hn => ?_⟩
  obtain ⟨b, o, sp, h5, h6, h7, h8⟩ := h4 hn
  exact ⟨b, o, sp, h5, Nat.zero_le _, h7, h8⟩
theorem SpansD.of_in {D : Nat → Prop} {lo q : Nat} {H : AHeap} {v : Value} {l : List (Int × Int)} (h : SpansIn lo q H v l) (hd : ∀ i, lo ≤ i → i < q → D i) : SpansD D q H v l := by
  obtain ⟨h1, h2, a, c, h3, h4⟩ := h
  refine ⟨h1, h2, a, c, h3, fun hn => ?_⟩
  obtain ⟨b, o, sp, h5, h6, h7, h8⟩ := h4 hn
  exact ⟨b, o, sp, h5, hd b h6 h7, h7, h8⟩
def RowsD (D : Nat → Prop) (q : Nat) (H : AHeap) (vs : List Value) (L : List (List (Int × Int))) : Prop := vs.length = L.length ∧ ∀ (i : Nat) (h : i < L.length), ∃ u, vs[i]? = some u ∧ SpansD D q H u L[i]
theorem RowsD.to {D : Nat → Prop} {q : Nat} {H : AHeap} {vs : List Value} {L : List (List (Int × Int))} (h : RowsD D q H vs L) : RowsTo 0 q H vs L := ⟨h.1, fun i hi => by obtain ⟨w, h1, h2⟩ := h.2 i hi; exact ⟨w, h1, h2.to⟩⟩
theorem RowsD.keep {D D' : Nat → Prop} {q q' : Nat} {H H' : AHeap} {vs : List Value} {L : List (List (Int × Int))} (h : RowsD D q H vs L) (hk : ∀ b, D b → b < q → D' b ∧ b < q' ∧ H'.get b = H.get b) : RowsD D' q' H' vs L := ⟨h.1, fun i hi => by obtain ⟨w, h1, h2⟩ := h.2 i hi; exact ⟨w, h1, h2.keep hk⟩⟩
theorem RowsD.snoc {D : Nat → Prop} {q : Nat} {H : AHeap} {vs : List Value} {L : List (List (Int × Int))} {u : Value} {l : List (Int × Int)} (h : RowsD D q H vs L) (hu : SpansD D q H u l) : RowsD D q H (vs ++ [u]) (L ++ [l]) := by
  refine ⟨by simp [h.1], fun i hi => ?_⟩
  rcases Nat.lt_or_ge i L.length with hlt | hge
  · obtain ⟨w, h1, h2⟩ := h.2 i hlt
    exact ⟨w, by rw [List.getElem?_append_left (by rw [h.1]; exact hlt)]; exact h1, by rw [List.getElem_append_left hlt]; exact h2⟩
  · have : i = L.length := by simp at hi; omega
    subst this
    refine ⟨u, by rw [← h.1]; simp, ?_⟩
    rw [List.getElem_append_right (Nat.le_refl _)]
    simpa using hu

def MirC (c l per : Nat) (vs0 : List Value) (rows : Nat → List (Int × Int)) (Hb : AHeap) (L : List Value) (D : Nat → Prop) (H : AHeap) : Prop := ∃ (is : List Nat) (v : Value) (us : List Value) (q : Nat), L = is.map (itemR vs0) ∧ (∀ i, i ∈ is → i < vs0.length) ∧ Hb.n ≤ c ∧ c < l ∧ l < q ∧ q ≤ H.n ∧ D l ∧ H.get l = .loop .ready none ∧ H.get c = .row [v, .int .i64 per] 79 ∧ Own H q v 64 1 us ∧ (∀ b n, v = .slice (some ⟨b, 0, none⟩) n n → 0 < n → D b) ∧ RowsD (fun i => D i ∧ l < i) q H us (is.map rows) ∧ D c ∧ (∀ i, D i → i < H.n ∧ (i = c ∨ l ≤ i)) ∧ (∀ i, i < Hb.n → H.get i = Hb.get i)
theorem MirC.own {c l per : Nat} {vs0 : List Value} {rows : Nat → List (Int × Int)} {Hb : AHeap} {L : List Value} {D : Nat → Prop} {H : AHeap} (h : MirC c l per vs0 rows Hb L D H) : D l := by
  obtain ⟨is, v, us, q, h1, h2, h3, h4, h5, h6, h7, h8, h9, h10, h11, h12, h13, h15, h14⟩ := h
  exact h7
theorem MirC.lt {c l per : Nat} {vs0 : List Value} {rows : Nat → List (Int × Int)} {Hb : AHeap} {L : List Value} {D : Nat → Prop} {H : AHeap} {i : Nat} (h : MirC c l per vs0 rows Hb L D H) (hd : D i) : i < H.n := by
  obtain ⟨is, v, us, q, h1, h2, h3, h4, h5, h6, h7, h8, h9, h10, h11, h12, h13, h15, h14⟩ := h
  exact (h15 i hd).1
theorem MirC.keep {c l per : Nat} {vs0 : List Value} {rows : Nat → List (Int × Int)} {Hb : AHeap} {L : List Value} {D : Nat → Prop} {H H' : AHeap} (h : MirC c l per vs0 rows Hb L D H) (hn : H.n ≤ H'.n) (hk : ∀ i, D i ∨ i < Hb.n → H'.get i = H.get i) : MirC c l per vs0 rows Hb L D H' := by
  obtain ⟨is, v, us, q, h1, h2, h3, h4, h5, h6, h7, h8, h9, h10, h11, h12, h13, h15, h14⟩ := h
  exact ⟨is, v, us, q, h1, h2, h3, h4, h5, by omega, h7, (hk l (.inl h7)).trans h8, (hk c (.inl h13)).trans h9, own_at h10 hn fun i n hv hn => hk i (.inl (h11 i n hv hn)), h11, h12.keep fun b hb hq => ⟨hb, hq, hk b (.inl hb.1)⟩, h13, fun i hi => ⟨by have := (h15 i hi).1; omega, (h15 i hi).2⟩, fun i hi => (hk i (.inr hi)).trans (h14 i hi)⟩

def flip1 (x : Int × Int) : Int × Int := (730 - x.2, 730 - x.1)
def MirI (c l : Nat) (row : List (Int × Int)) (L : List Value) (D : Nat → Prop) (H : AHeap) : Prop := ∃ (is : List Nat) (v : Value), L = is.map (itemS row) ∧ c < l ∧ l < H.n ∧ H.get l = .loop .ready none ∧ H.get c = .row [v] 64 ∧ Own H l v 68 2 (spanCells (is.map fun i => flip1 (row.getD i (0, 0)))) ∧ ∀ i, D i ↔ i = l ∨ i = c ∨ ∃ n, v = .slice (some ⟨i, 0, none⟩) n n ∧ 0 < n
theorem MirI.own {c l : Nat} {row : List (Int × Int)} {L : List Value} {D : Nat → Prop} {H : AHeap} (h : MirI c l row L D H) : D l := by
  obtain ⟨is, v, h1, h3, h4, h5, h6, h7, h8⟩ := h
  exact (h8 l).2 (.inl rfl)
theorem MirI.lt {c l : Nat} {row : List (Int × Int)} {L : List Value} {D : Nat → Prop} {H : AHeap} {i : Nat} (h : MirI c l row L D H) (hi : D i) : i < H.n := by
  obtain ⟨is, v, h1, h3, h4, h5, h6, h7, h8⟩ := h
  rcases (h8 i).1 hi with rfl | rfl | ⟨n, hv, hn⟩
  · exact h4
  · omega
  · exact (own_block h7 hv hn).2.1
theorem MirI.keep {c l : Nat} {row : List (Int × Int)} {L : List Value} {D : Nat → Prop} {H H' : AHeap} (h : MirI c l row L D H) (hn : H.n ≤ H'.n) (hk : ∀ i, D i → H'.get i = H.get i) : MirI c l row L D H' := by
  obtain ⟨is, v, h1, h3, h4, h5, h6, h7, h8⟩ := h
  refine ⟨is, v, h1, h3, Nat.lt_of_lt_of_le h4 hn, (hk l (((h8 l).2 (.inl rfl)))).trans h5, (hk c (((h8 c).2 (.inr (.inl rfl))))).trans h6, own_at h7 hn fun i n hv hn => hk i ((h8 i).2 (.inr (.inr ⟨n, hv, hn⟩))), h8⟩
theorem itemS_inj {vs : List (Int × Int)} {i j : Nat} (h : itemS vs i = itemS vs j) : i = j := by
  simp [itemS] at h
  omega
theorem itemsS_inj (vs : List (Int × Int)) : ∀ (a b : List Nat), a.map (itemS vs) = b.map (itemS vs) → a = b
  | [], [], _ => rfl
  | [], _ :: _, h => by simp at h
  | _ :: _, [], h => by simp at h
  | x :: t, y :: u, h => by
    simp only [List.map_cons, List.cons.injEq] at h
    rw [itemS_inj h.1, itemsS_inj vs t u h.2]
theorem rev_row (row : List (Int × Int)) : (List.range row.length).reverse.map (fun i => flip1 (row.getD i (0, 0))) = flipS row := by
  rw [flipS, List.map_reverse, List.map_reverse]
  congr 1
  refine List.ext_getElem (by simp) fun i h1 h2 => ?_
  simp at h2
  simp [flip1, h2]

set_option maxHeartbeats 4000000 in
theorem mirrored_e {loops : List (Nat × LInfo)} {H : AHeap} {v : Value} {x : Course} {p : Nat} (hv : CourseV H v x) (hp : x.per = p) (hn : x.open_.length ≤ 1000) (hrl : ∀ i, (x.at_ i).length ≤ 1000) (hrb : ∀ i y, y ∈ x.at_ i → 0 ≤ y.1 ∧ y.1 ≤ 730 ∧ 0 ≤ y.2 ∧ y.2 ≤ 730) : CallS Tryz.prog loops 98 [v] H fun r H' => CourseV H' r ⟨x.open_.reverse.map flipS, x.per⟩ ∧ Ext H H' := by
  obtain ⟨ov, rfl, hov⟩ := hv
  obtain ⟨hol, oa, oc, rfl⟩ := hov.slice
  obtain ⟨vs, hcs, hsp⟩ := hov
  have hvl : vs.length = x.open_.length := by have := hcs.1; omega
  have HCS : Hid (Cells H (.slice oa x.open_.length oc) 1 vs.length vs) := Lib.hid (by rw [hvl]; exact hcs)
  have HSP : Hid (∀ i, i < vs.length → ∃ u, vs[i]? = some u ∧ Spans H u (x.at_ i)) := Lib.hid (fun i hi => by
    obtain ⟨u, h1, h2⟩ := hsp i (by omega)
    exact ⟨u, h1, by simp [Course.at_, show i < x.open_.length by omega]; exact h2⟩)
  have HVL := Lib.hid hvl
  have HRL := Lib.hid hrl
  have HRB := Lib.hid hrb
  have hpv : (.int .i64 x.per : Value) = .int .i64 p := by rw [hp]
  have HP := Lib.hid hp
  rw [hpv]
  clear hcs hsp hvl hrl hrb hpv hp
  refine CallS.enter' Tryz.func98 rfl Tryz.ntmps98 (by simp) fun f hd hf => ?_
  have f0 := hf 0
  simp at f0
  clear hf
  repeat' (first|(with_reducible first|refine zA ?_|refine zB fun K hK=>?_|refine zC fun K2 hK2=>?_|refine zD ?_|refine zE ?_|refine zF ?_|refine zG ?_|refine zH ?_|refine zI ?_|refine zM ?_|refine zN ?_|refine zO ?_|refine zP ?_|refine zQ ?_|refine zR ?_)|((with_reducible refine zU (hK _ _ ?_));clear hK K)|((with_reducible refine zV ?_ ?_ fun K1 K3 d hdst h1 h3=>?_);rfl;exact yB rfl;cases hdst;go_simp)|((with_reducible refine zW fun K1 K3 h1 h3=>?_);go_simp)|((first|refine h1 ?_|refine h3 ?_);clear h1 h3 K1 K3)|((first|refine zX (fun hb=>h1 ?_) (fun hb=>h3 ?_)|refine zX (fun hb=>h3 ?_) (fun hb=>h1 ?_))<;>(clear h1 h3 K1 K3;(try have hb2:=yC hb);(try have hb2:=yD hb);(try have hb2:=yE hb);(try have hb2:=yF hb);(try have hb2:=yG hb)))|(refine fun (K2:_→AHeap→Prop) hK2=>?_)|((with_reducible refine zY ?_ ?_);decide)|((with_reducible first|refine zZ ?_ (fun K hK=>?_)|refine yA ?_ (fun K hK=>?_));(focus go_simp;done);go_simp;refine hK _ _ ?_;clear hK K)|(go_simp;(try go_bits);(try first | ((with_reducible show CallS _ _ _ _ _ _);refine CallS.mono (backR_e (Hb := H) HCS.out (((Ext.refl _).push' _).push' _ |>.push' _)) ?_; rintro qv H1 ⟨hq, hx⟩; (have HQ := Lib.hid (hq.gives (It := fun t => ∃ i, i < vs.length ∧ t = itemR vs i) fun i hi => ⟨i, hi, rfl⟩)); (have HX := Lib.hid hx); (have hnn : H.n + 3 ≤ H1.n := by have := hx.n; simp only [AHeap.n_push] at this; omega); (have HG2 : Hid (H1.get (H.n + 2) = .row [.slice none 0 0, .int .i64 p] 79) := Lib.hid ((hx.get (H.n + 2) (by simp only [AHeap.n_push]; omega)).trans (get_at (by simp only [AHeap.n_push])))); (have HG1 : Hid (H1.get (H.n + 1) = .row [.slice none 0 0, .int .i64 0] 79) := Lib.hid ((hx.get (H.n + 1) (by simp only [AHeap.n_push]; omega)).trans ((AHeap.get_push_old (by simp only [AHeap.n_push]; omega)).trans (get_at (by simp only [AHeap.n_push]))))); clear hq hx));refine hK2 _ _ ?_;clear hK2 K2))
  have HXH : Hid (Ext H H1) := Lib.hid ((((Ext.refl _).push' _).push' _ |>.push' _).trans HX.out)
  clear HX
  refine CodeS.range_gives2 (ls := []) (H0 := H1) (Rd := fun i => i < H.n) (room := 1000) (S := MirC (H.n + 2) (H1.n + 1) p vs (fun i => flipS (x.at_ i)) H) (D := fun i => i = H.n + 2 ∨ i = H1.n + 1) rfl (LExt.nil _) HQ.out (by go_simp) (Ext.refl _) (by have := HVL.out; omega) ?gen ?hS ?hRD ?hnd ?hend
  case hRD =>
    rintro i hi (h | h)
    · rcases hi with h3 | h3
      · omega
      · simp only [AHeap.n_push] at h3; omega
    · have := HQ.out.lt hi; omega
  case hS =>
    refine ⟨[], .slice none 0 0, [], H1.n + 2, rfl, by simp, by omega, by omega, by omega, by simp only [AHeap.n_push]; omega, .inr rfl, ?_, ?_, Own.nil, (by rintro b n h; cases h), ⟨rfl, fun i h => by simp at h⟩, .inl rfl, (by rintro i (h | h) <;> (simp only [AHeap.n_push]; omega)), fun i hi => ?_⟩
    · exact get_at (by rw [AHeap.n_push])
    · rw [AHeap.get_push_old (by rw [AHeap.n_push]; omega), AHeap.get_push_old (by omega)]; exact HG2.out
    · rw [AHeap.get_push_old (by rw [AHeap.n_push]; omega), AHeap.get_push_old (by omega)]; exact HXH.out.get i hi
  case hnd => omega
  case hend =>
    rintro f2 D' H' ht hd2 ⟨is, v, us, q, h1, h2, h3, h4, h5, h6, h7, h8, h9, h10, h11, h12, h13, h15, h14⟩ hst hdf
    rw [backL_map, HVL.out] at h1
    have his := itemsR_inj vs _ _ h1
    subst his
    have t3 := ht 3
    have t2 := ht 2
    simp [AF.tmp_upd] at t3 t2
    have hd3 : f2.defers = [{ target := .collected H1.n, args := #[] }] := by rw [hd2]; simp [AF.defers_upd, hd]
    obtain ⟨H2, hH2⟩ : ∃ H2, H2 = H'.upd (H1.n + 1) (AObj.loop LoopState.exhausted none) := ⟨_, rfl⟩
    rw [← hH2]
    have hn2 : H2.n = H'.n := by rw [hH2, AHeap.n_upd]
    have hk2 : ∀ i, i ≠ H1.n + 1 → H2.get i = H'.get i := fun i hi => by rw [hH2, AHeap.get_upd_ne hi]
    have hg2 : H2.get (H.n + 2) = .row [v, .int .i64 p] 79 := (hk2 _ (by omega)).trans h9
    have hc2 : cellsAt H2 (H.n + 2) 0 2 = some [v, .int .i64 p] := by simp [cellsAt, hg2]
    have hdf2 : H2.get H1.n = .defs false := (hk2 _ (by omega)).trans hdf
    have hg1 : H2.get (H.n + 1) = .row [.slice none 0 0, .int .i64 0] 79 := (hk2 _ (by omega)).trans ((hst.get (H.n + 1) (by simp only [AHeap.n_push]; omega) (by omega)).trans ((AHeap.get_push_old (by rw [AHeap.n_push]; omega)).trans ((AHeap.get_push_old (by omega)).trans HG1.out)))
    have hx2 : Ext H H2 := ⟨by have := HXH.out.n; omega, fun i hi => (hk2 i (by omega)).trans (h14 i hi)⟩
    have hO2 : Own H2 q v 64 1 us := own_at h10 (by omega) fun i n hv hn => hk2 i (by have := (own_block h10 hv hn).1; omega)
    have hR2 := (h12.keep (D' := fun i => H1.n + 1 < i) (q' := q) (H' := H2) fun b hb hq => ⟨hb.2, hq, hk2 b (by omega)⟩)
    have HX2 := Lib.hid hx2
    have HO2 := Lib.hid hO2
    have HR2 := Lib.hid hR2
    have hq2 : q ≤ H2.n := by omega
    have hn3 : H.n + 1 < H2.n := by omega
    have hn4 : H1.n < H2.n := by omega
    obtain ⟨va, vn, rfl⟩ := own_slice hO2
    clear hx2 hO2 hR2 hk2 hH2 h1 h2 h3 h7 h8 h9 h10 h11 h12 h13 h15 h14 hst hdf ht hd2
    repeat' (first|(with_reducible first|refine zA ?_|refine zB fun K hK=>?_|refine zC fun K2 hK2=>?_|refine zD ?_|refine zE ?_|refine zF ?_|refine zG ?_|refine zH ?_|refine zI ?_|refine zM ?_|refine zN ?_|refine zO ?_|refine zP ?_|refine zQ ?_|refine zR ?_)|((with_reducible refine zU (hK _ _ ?_));clear hK K)|((with_reducible refine zV ?_ ?_ fun K1 K3 d hdst h1 h3=>?_);rfl;exact yB rfl;cases hdst;go_simp)|((with_reducible refine zW fun K1 K3 h1 h3=>?_);go_simp)|((first|refine h1 ?_|refine h3 ?_);clear h1 h3 K1 K3)|((first|refine zX (fun hb=>h1 ?_) (fun hb=>h3 ?_)|refine zX (fun hb=>h3 ?_) (fun hb=>h1 ?_))<;>(clear h1 h3 K1 K3;(try have hb2:=yC hb);(try have hb2:=yD hb);(try have hb2:=yE hb);(try have hb2:=yF hb);(try have hb2:=yG hb)))|(refine fun (K2:_→AHeap→Prop) hK2=>?_)|((with_reducible refine zY ?_ ?_);decide)|((with_reducible first|refine zZ ?_ (fun K hK=>?_)|refine yA ?_ (fun K hK=>?_));(focus go_simp;done);go_simp;refine hK _ _ ?_;clear hK K)|(go_simp;(try go_bits);refine hK2 _ _ ?_;clear hK2 K2))
    refine Post.body_mark (by go_simp) ((AHeap.get_upd_ne (by omega)).trans hdf2) fun K hK => ?_
    go_simp
    rw [show cellsAt ((H2.upd (H.n + 1) (AObj.row [Value.slice va vn vn, Value.int IntKind.i64 p] 79)).upd H1.n (AObj.defs true)) (H.n + 1) 0 2 = some [Value.slice va vn vn, Value.int IntKind.i64 p] from by rw [cellsAt_get (AHeap.get_upd_ne (by omega))]; simp only [cellsAt, AHeap.get_upd_same]; rfl]
    refine hK _ _ ⟨⟨Value.slice va vn vn, by simp only; rw [HP.out]; rfl, ?_⟩, (HX2.out.upd (by omega) _).upd (by have := HXH.out.n; omega) _⟩
    have hne : ∀ i, q ≤ i → ((H2.upd (H.n + 1) (AObj.row [Value.slice va vn vn, Value.int IntKind.i64 p] 79)).upd H1.n (AObj.defs true)).get i = H2.get i := fun i hi => by rw [AHeap.get_upd_ne (by omega), AHeap.get_upd_ne (by omega)]
    have hr := RowsTo.rows (v := Value.slice va vn vn) (base := q) (hi := q) (H := (H2.upd (H.n + 1) (AObj.row [Value.slice va vn vn, Value.int IntKind.i64 p] 79)).upd H1.n (AObj.defs true)) (HR2.out.keep (D' := fun _ => True) (q' := q) fun i h1 h2 => ⟨trivial, h2, by rw [AHeap.get_upd_ne (by omega), AHeap.get_upd_ne (by omega)]⟩).to (own_at HO2.out (by rw [AHeap.n_upd, AHeap.n_upd]; exact Nat.le_refl _) fun i n hv hn => hne i (own_block HO2.out hv hn).1) (by rw [AHeap.n_upd, AHeap.n_upd]; exact hq2) (by simp; omega)
    rw [rev_rows] at hr
    exact hr
  case gen =>
    clear f0 hd HQ HG1 HG2 HCS
    refine ⟨MirC.own, MirC.lt, ?_, ?_, ?_, MirC.keep, ?_⟩
    · rintro L D H' i ⟨is, v, us, q, h1, h2, h3, h4, h5, h6, h7, h8, h9, h10, h11, h12, h13, h15, h14⟩ h
      omega
    · rintro L D H' ⟨is, v, us, q, h1, h2, h3, h4, h5, h6, h7, h8, h9, h10, h11, h12, h13, h15, h14⟩
      exact h8
    · rintro L D H' l2 x2 ⟨is, v, us, q, h1, h2, h3, h4, h5, h6, h7, h8, h9, h10, h11, h12, h13, h15, h14⟩ hf2
      simp only [findLoop] at hf2
      split at hf2
      · rename_i he; subst he; omega
      · cases hf2
    rintro loops L D H' _ hfl hroom ⟨i0, hi0, rfl⟩ ⟨is, v, us, q, rfl, h2, h3, h4, h5, h6, h7, h8, h9, h10, h11, h12, h13, h15, h14⟩
    have hfl := hfl _ _ findLoop_head
    obtain ⟨u, hu, hsu⟩ := HSP.out i0 hi0
    have hit : itemR vs i0 = .tuple #[.int .i64 i0, u] := by simp [itemR, List.getD_eq_getElem?_getD, hu]
    have HL : Hid (is.map (itemR vs) ++ [itemR vs i0] = (is ++ [i0]).map (itemR vs)) := Lib.hid (by simp)
    rw [HL.out, hit, pairA_mk]
    have HIS : Hid (∀ i, i ∈ is ++ [i0] → i < vs.length) := Lib.hid (fun i hi => by
      rcases List.mem_append.1 hi with h | h
      · exact h2 i h
      · rw [List.mem_singleton.1 h]; exact hi0)
    have HRW : Hid ((is ++ [i0]).map (fun i => flipS (x.at_ i)) = is.map (fun i => flipS (x.at_ i)) ++ [flipS (x.at_ i0)]) := Lib.hid (by simp)
    have HSU := Lib.hid hsu
    have hrl := HRL.out i0
    have HRB0 := Lib.hid (HRB.out i0)
    generalize x.at_ i0 = row at HSU HRW hrl HRB0
    obtain ⟨hul, ua, uc, rfl⟩ := HSU.out.slice
    have hisl : is.length < 1000 := by simpa using hroom
    clear hu hsu hit h2 HSP HRL HRB hroom hi0
    refine RoundS.enter hfl rfl (by simp) h8 fun f' hd' hf' => ?_
    have g16 := hf' 16
    have g3 := hf' 3
    simp [paramsAt, AF.tmp_mk, AF.tmp_upd] at g16 g3
    dsimp only
    have HFL := Lib.hid hfl
    have HO := Lib.hid h10
    have HBL := Lib.hid h11
    have HRT := Lib.hid h12
    have HDI := Lib.hid h15
    have HDC := Lib.hid h13
    have HDL := Lib.hid h7
    have HEX : Hid (Ext H H') := Lib.hid ⟨by omega, h14⟩
    clear hfl h7 h10 h11 h12 h13 h15 h14 hf'
    repeat' (first|(with_reducible first|refine zA ?_|refine zB fun K hK=>?_|refine zC fun K2 hK2=>?_|refine zD ?_|refine zE ?_|refine zF ?_|refine zG ?_|refine zH ?_|refine zI ?_|refine zM ?_|refine zN ?_|refine zO ?_|refine zP ?_|refine zQ ?_|refine zR ?_)|((with_reducible refine zU (hK _ _ ?_));clear hK K)|((with_reducible refine zV ?_ ?_ fun K1 K3 d hdst h1 h3=>?_);rfl;exact yB rfl;cases hdst;go_simp)|((with_reducible refine zW fun K1 K3 h1 h3=>?_);go_simp)|((first|refine h1 ?_|refine h3 ?_);clear h1 h3 K1 K3)|((first|refine zX (fun hb=>h1 ?_) (fun hb=>h3 ?_)|refine zX (fun hb=>h3 ?_) (fun hb=>h1 ?_))<;>(clear h1 h3 K1 K3;(try have hb2:=yC hb);(try have hb2:=yD hb);(try have hb2:=yE hb);(try have hb2:=yF hb);(try have hb2:=yG hb)))|(refine fun (K2:_→AHeap→Prop) hK2=>?_)|((with_reducible refine zY ?_ ?_);decide)|((with_reducible first|refine zZ ?_ (fun K hK=>?_)|refine yA ?_ (fun K hK=>?_));(focus go_simp;done);go_simp;refine hK _ _ ?_;clear hK K)|(go_simp;(try go_bits);refine hK2 _ _ ?_;clear hK2 K2))
    refine ⟨?_, ?_⟩
    · exact h8
    obtain ⟨H3, hH3⟩ : ∃ H3, H3 = H'.upd (H1.n + 1) (.loop .busy none) := ⟨_, rfl⟩
    rw [← hH3]
    have hn3 : H3.n = H'.n := by rw [hH3, AHeap.n_upd]
    have hk3 : ∀ i, i ≠ H1.n + 1 → H3.get i = H'.get i := by
      intro i hne
      rw [hH3, AHeap.get_upd_ne hne]
    have hl3 : H3.get (H1.n + 1) = .loop .busy none := by rw [hH3]; exact AHeap.get_upd_same
    have HX3 : Hid (Ext H H3) := Lib.hid ⟨by have := HEX.out.n; omega, fun i hi => (hk3 i (by omega)).trans (HEX.out.get i hi)⟩
    have HK3 := Lib.hid hk3
    have HL3 := Lib.hid hl3
    have hhi : q ≤ H3.n := by omega
    clear hH3 hk3 hl3
    repeat' (first|(with_reducible first|refine zA ?_|refine zB fun K hK=>?_|refine zC fun K2 hK2=>?_|refine zD ?_|refine zE ?_|refine zF ?_|refine zG ?_|refine zH ?_|refine zI ?_|refine zM ?_|refine zN ?_|refine zO ?_|refine zP ?_|refine zQ ?_|refine zR ?_)|((with_reducible refine zU (hK _ _ ?_));clear hK K)|((with_reducible refine zV ?_ ?_ fun K1 K3 d hdst h1 h3=>?_);rfl;exact yB rfl;cases hdst;go_simp)|((with_reducible refine zW fun K1 K3 h1 h3=>?_);go_simp)|((first|refine h1 ?_|refine h3 ?_);clear h1 h3 K1 K3)|((first|refine zX (fun hb=>h1 ?_) (fun hb=>h3 ?_)|refine zX (fun hb=>h3 ?_) (fun hb=>h1 ?_))<;>(clear h1 h3 K1 K3;(try have hb2:=yC hb);(try have hb2:=yD hb);(try have hb2:=yE hb);(try have hb2:=yF hb);(try have hb2:=yG hb)))|(refine fun (K2:_→AHeap→Prop) hK2=>?_)|((with_reducible refine zY ?_ ?_);decide)|((with_reducible first|refine zZ ?_ (fun K hK=>?_)|refine yA ?_ (fun K hK=>?_));(focus go_simp;done);go_simp;refine hK _ _ ?_;clear hK K)|(go_simp;(try go_bits);(try first | ((with_reducible show CallS _ _ _ _ _ _);refine CallS.mono (backS_e (Hb := H) HSU.out (HX3.out.push' _)) ?_; rintro qv H4 ⟨hq, hx⟩; (have HQ := Lib.hid (hq.gives (It := fun t => ∃ i, i < row.length ∧ t = itemS row i) fun i hi => ⟨i, hi, rfl⟩)); (have HX4 := Lib.hid hx); (have hn4 : H3.n + 1 ≤ H4.n := by have := hx.n; simp only [AHeap.n_push] at this; omega); (have HG6 : Hid (H4.get H3.n = .row [.slice none 0 0] 64) := Lib.hid ((hx.get H3.n (by simp only [AHeap.n_push]; omega)).trans (get_at rfl))); (have HL4 : Hid (H4.get (H1.n + 1) = .loop .busy none) := Lib.hid ((hx.get _ (by simp only [AHeap.n_push]; omega)).trans ((AHeap.get_push_old (by omega)).trans HL3.out))); clear hq hx));refine hK2 _ _ ?_;clear hK2 K2))
    refine CodeS.range_gives2_in (ls := []) (H0 := H4) (Rd := fun _ => False) (room := 1000) (S := MirI H3.n H4.n row) (D := fun i => i = H4.n ∨ i = H3.n) rfl HFL.out HL4.out (LExt.nil _) HQ.out (by go_simp) (Ext.refl _) hrl ?gen2 ?hS2 ?hRD2 ?hend2
    case hRD2 =>
      rintro i hi (h | h)
      · have := HQ.out.lt hi; omega
      · rcases hi with h3 | h3
        · have := HX3.out.n; omega
        · simp only [AHeap.n_push] at h3; omega
    case hS2 =>
      refine ⟨[], .slice none 0 0, rfl, by omega, by rw [AHeap.n_push]; omega, get_at rfl, ?_, Own.nil, fun i => by simp⟩
      rw [AHeap.get_push_old (by omega)]; exact HG6.out
    case hend2 =>
      rintro D2 H5 ⟨js, w, k1, k3, k4, k5, k6, k7, k8⟩ hst
      rw [backL_map] at k1
      have hjs := itemsS_inj row _ _ k1
      subst hjs
      rw [rev_row] at k7
      obtain ⟨H6, hH6⟩ : ∃ H6, H6 = H5.upd H4.n (AObj.loop LoopState.exhausted none) := ⟨_, rfl⟩
      rw [← hH6]
      have hn6 : H6.n = H5.n := by rw [hH6, AHeap.n_upd]
      have hn5 : H4.n + 1 ≤ H5.n := by have := hst.n; rw [AHeap.n_push] at this; exact this
      have hk6 : ∀ i, i < H3.n → H6.get i = H3.get i := fun i hi => by
        rw [hH6, AHeap.get_upd_ne (by omega), hst.get i (by rw [AHeap.n_push]; omega) (by omega), AHeap.get_push_old (by omega), HX4.out.get i (by rw [AHeap.n_push]; omega), AHeap.get_push_old hi]
      have hg6 : H6.get H3.n = .row [w] 64 := by rw [hH6, AHeap.get_upd_ne (by omega)]; exact k6
      have hw6 : Own H6 H4.n w 68 2 (spanCells (flipS row)) := own_at k7 (by omega) fun i n hv hn => by
        rw [hH6]
        refine AHeap.get_upd_ne fun e => ?_
        have h9 := (own_block k7 hv hn).2.2
        rw [e, k5] at h9
        cases h9
      have HW := Lib.hid (SpansIn.of_own hw6 (by have : (flipS row).length = row.length := (by simp [flipS]); omega))
      obtain ⟨wa, wn, rfl⟩ := own_slice hw6
      have hO6 : Own H6 q v 64 1 us := own_at HO.out (by omega) fun i n hv hn => by rw [hk6 i (by have := (own_block HO.out hv hn).2.1; omega)]; exact HK3.out i (by have := (own_block HO.out hv hn).1; omega)
      have HO6 := Lib.hid hO6
      obtain ⟨va, vn, rfl⟩ := own_slice hO6
      have HK6 : Hid (∀ i, i < H'.n → i ≠ H1.n + 1 → H6.get i = H'.get i) := Lib.hid (fun i hi hne => by rw [hk6 i (by omega)]; exact HK3.out i hne)
      have HL6 : Hid (H6.get (H1.n + 1) = .loop .busy none) := Lib.hid (by rw [hk6 _ (by omega)]; exact HL3.out)
      have hgm : H6.get (H.n + 2) = .row [Value.slice va vn vn, .int .i64 p] 79 := (HK6.out _ (by omega) (by omega)).trans h9
      have HGM := Lib.hid hgm
      have hcm : cellAt H6 (H.n + 2) 0 = some (Value.slice va vn vn) := by simp [cellAt, hgm]
      have hcw : cellAt H6 H3.n 0 = some (Value.slice wa wn wn) := by simp [cellAt, hg6]
      have hbig : (us.length + 1) * max 24 1 ≤ 1073741824 := by have := HRT.out.1; simp at this; simp; omega
      have HBIG := Lib.hid hbig
      have HONE := Lib.hid HRT.out.to.one
      have hlm : H.n + 2 < H6.n := by omega
      have hlw : H3.n < H6.n := by omega
      have hlw' : H'.n < H6.n := by omega
      have hcw' : cellAt H6 H'.n 0 = some (Value.slice wa wn wn) := by rw [← hn3]; exact hcw
      have hlm7 : ∀ H7 : AHeap, H6.n + 1 ≤ H7.n → H.n + 2 < H7.n := fun H7 h => by omega
      have hn64 : H4.n + 1 ≤ H6.n := by omega
      have HN3 := Lib.hid hn3
      have hn36 : H'.n + 2 ≤ H6.n := by omega
      clear hbig hgm hg6 hw6 hO6 hk6 hH6 hst k1 k3 k5 k6 k7 k8 k4 hn6 hn5
      repeat' (first|(with_reducible first|refine zA ?_|refine zB fun K hK=>?_|refine zC fun K2 hK2=>?_|refine zD ?_|refine zE ?_|refine zF ?_|refine zG ?_|refine zH ?_|refine zI ?_|refine zM ?_|refine zN ?_|refine zO ?_|refine zP ?_|refine zQ ?_|refine zR ?_)|((with_reducible refine zU (hK _ _ ?_));clear hK K)|((with_reducible refine zV ?_ ?_ fun K1 K3 d hdst h1 h3=>?_);rfl;exact yB rfl;cases hdst;go_simp)|((with_reducible refine zW fun K1 K3 h1 h3=>?_);go_simp)|((first|refine h1 ?_|refine h3 ?_);clear h1 h3 K1 K3)|((first|refine zX (fun hb=>h1 ?_) (fun hb=>h3 ?_)|refine zX (fun hb=>h3 ?_) (fun hb=>h1 ?_))<;>(clear h1 h3 K1 K3;(try have hb2:=yC hb);(try have hb2:=yD hb);(try have hb2:=yE hb);(try have hb2:=yF hb);(try have hb2:=yG hb)))|(refine fun (K2:_→AHeap→Prop) hK2=>?_)|((with_reducible refine zY ?_ ?_);decide)|((with_reducible first|refine zZ ?_ (fun K hK=>?_)|refine yA ?_ (fun K hK=>?_));(focus go_simp;done);go_simp;refine hK _ _ ?_;clear hK K)|(go_simp;(try go_bits);(try first | ((refine one_k el77 sz64 ze64 rfl (by decide) (by decide) rfl rfl ?_); go_simp) | ((refine append_k2 el77 sz64 by64 ze64 rfl (by decide) (HO6.out.ext (Ext.push _)) (srcCells_new rfl) (by decide) rfl (by rw [List.all_append, HONE.out]; rfl) HBIG.out (by rw [AHeap.n_push]; omega) fun v2 H7 ho7 hg7 => ?_); (obtain ⟨a2, n2, rfl⟩ := own_slice ho7); (have HO7 := Lib.hid ho7); (have HG7 := Lib.hid hg7); (have hgm7 : H7.get (H.n + 2) = .row [Value.slice va vn vn, .int .i64 p] 79 := (hg7.2 (H.n + 2) (by rw [AHeap.n_push]; omega) (fun b n hv hn => by have := (own_block HO6.out hv hn).1; omega)).trans (by rw [AHeap.get_push_old hlm]; exact HGM.out)); clear ho7 hg7; go_simp));refine hK2 _ _ ?_;clear hK2 K2))
      have hn7 : H6.n + 1 ≤ H7.n := by have := HG7.out.1; rw [AHeap.n_push] at this; exact this
      have hk7 : ∀ i, i < H6.n → (∀ b n, Value.slice va vn vn = .slice (some ⟨b, 0, none⟩) n n → 0 < n → i ≠ b) → H7.get i = H6.get i := fun i hi hne => (HG7.out.2 i (by rw [AHeap.n_push]; omega) hne).trans (AHeap.get_push_old hi)
      have hvq : ∀ b n, Value.slice va vn vn = .slice (some ⟨b, 0, none⟩) n n → 0 < n → q ≤ b ∧ b < H'.n := fun b n hv hn => ⟨(own_block HO.out hv hn).1, (own_block HO.out hv hn).2.1⟩
      have hk8 : ∀ i, i ≠ H.n + 2 → i ≠ H1.n + 1 → ((H7.upd (H.n + 1 + 1) (AObj.row [Value.slice a2 n2 n2, Value.int IntKind.i64 p] 79)).upd (H1.n + 1) (AObj.loop LoopState.ready none)).get i = H7.get i := fun i h1 h2 => by rw [AHeap.get_upd_ne h2, AHeap.get_upd_ne h1]
      have hkd : ∀ i, i < H'.n → i ≠ H.n + 2 → i ≠ H1.n + 1 → (∀ b n, Value.slice va vn vn = .slice (some ⟨b, 0, none⟩) n n → 0 < n → i ≠ b) → ((H7.upd (H.n + 1 + 1) (AObj.row [Value.slice a2 n2 n2, Value.int IntKind.i64 p] 79)).upd (H1.n + 1) (AObj.loop LoopState.ready none)).get i = H'.get i := fun i h0 h1 h2 h3 => by rw [hk8 i h1 h2, hk7 i (by omega) h3, HK6.out i h0 h2]
      have hb7 : ∀ b n, Value.slice a2 n2 n2 = .slice (some ⟨b, 0, none⟩) n n → 0 < n → (H6.push (AObj.row [Value.slice wa wn wn] 64)).n ≤ b ∧ b < H7.n := fun b n hv hn => ⟨(own_block HO7.out hv hn).1, (own_block HO7.out hv hn).2.1⟩
      refine ⟨⟨.busy, none, ?_⟩, rfl, fun i => D i ∨ (H'.n ≤ i ∧ i < H7.n), ⟨is ++ [i0], .slice a2 n2 n2, us ++ [.slice wa wn wn], H6.n, rfl, HIS.out, by omega, by omega, by omega, ?_, .inl HDL.out, AHeap.get_upd_same, ?_, ?_, ?_, ?_, .inl HDC.out, ?_, ?_⟩, ?_⟩
      · rw [AHeap.get_upd_ne (by omega), hk7 _ (by omega) (fun b n hv hn => by have := hvq b n hv hn; omega)]; exact HL6.out
      · rw [AHeap.n_upd, AHeap.n_upd]; omega
      · rw [AHeap.get_upd_ne (by omega)]; exact AHeap.get_upd_same
      · refine own_at (HO7.out.mono (by rw [AHeap.n_push]; omega)) (by rw [AHeap.n_upd, AHeap.n_upd]; exact Nat.le_refl _) fun i n hv hn => hk8 i ?_ ?_
        · have := (hb7 i n hv hn).1; rw [AHeap.n_push] at this; omega
        · have := (hb7 i n hv hn).1; rw [AHeap.n_push] at this; omega
      · intro b n hv hn
        have := hb7 b n hv hn
        rw [AHeap.n_push] at this
        exact .inr (by omega)
      · rw [HRW.out]
        refine RowsD.snoc (HRT.out.keep fun b hb hq => ⟨⟨.inl hb.1, hb.2⟩, by omega, ?_⟩) (SpansD.of_in (HW.out.keep (lo' := H4.n) (hi' := H6.n) (Nat.le_refl _) (Nat.le_refl _) fun i h1 h2 => ?_) fun i h1 h2 => ⟨.inr (by omega), by omega⟩)
        · exact hkd b (by omega) (by omega) (by omega) (fun b2 n hv hn => by have := hvq b2 n hv hn; omega)
        · rw [hk8 i (by omega) (by omega)]
          exact hk7 i h2 (fun b2 n hv hn => by have := hvq b2 n hv hn; omega)
      · rw [AHeap.n_upd, AHeap.n_upd]
        rintro i (h | h)
        · have := HDI.out i h; exact ⟨by omega, this.2⟩
        · exact ⟨h.2, by omega⟩
      · intro i hi
        rw [hkd i (by omega) (by omega) (by omega) (fun b n hv hn => by have := hvq b n hv hn; omega)]
        exact HEX.out.get i hi
      · refine ⟨by rw [AHeap.n_upd, AHeap.n_upd]; omega, fun i hi hd => ?_, fun i hd => ?_⟩
        · exact hkd i hi (fun e => hd (e ▸ HDC.out)) (fun e => hd (e ▸ HDL.out)) (fun b n hv hn e => hd (e ▸ HBL.out b n hv hn))
        · rcases hd with h | h
          · exact .inl h
          · exact .inr h.1
    case gen2 =>
      have hb4 : H3.n < H4.n := by omega
      clear hd' g16 g3 h8 h9 HO HBL HRT HDI HDC HDL HEX HK3 HL3 HX3 HX4 HG6 HL4 HQ HFL HRW HIS HL HSU h5 h6 h4 h3 hhi hnn HXH hn4
      refine ⟨MirI.own, MirI.lt, fun _ h => h.elim, ?_, ?_, fun h hn hk => MirI.keep h hn fun i hi => hk i (.inl hi), ?_⟩
      · rintro L2 D2 G ⟨js, w, h1, h3, h4, h5, h6, h7, h8⟩
        exact h5
      · rintro L2 D2 G l2 x2 ⟨js, w, h1, h3, h4, h5, h6, h7, h8⟩ hf2
        simp only [findLoop] at hf2
        split at hf2
        · rename_i he; subst he; exact h4
        · cases hf2
      rintro loops L2 D2 G _ hfl hroom ⟨j0, hj0, rfl⟩ ⟨js, w, rfl, h3, h4, h5, h6, h7, h8⟩
      have hfl := hfl _ _ findLoop_head
      have HL : Hid (js.map (itemS row) ++ [itemS row j0] = (js ++ [j0]).map (itemS row)) := Lib.hid (by simp)
      have hmem : row.getD j0 (0, 0) ∈ row := by simp [List.getD_eq_getElem?_getD, hj0]
      obtain ⟨hy1, hy2, hy3, hy4⟩ := HRB0.out _ hmem
      have HCL : Hid (spanCells ((js ++ [j0]).map fun i => flip1 (row.getD i (0, 0))) = spanCells (js.map fun i => flip1 (row.getD i (0, 0))) ++ [.int .i64 (730 - (row.getD j0 (0, 0)).2), .int .i64 (730 - (row.getD j0 (0, 0)).1)]) := Lib.hid (by simp [spanCells, flip1])
      rw [HL.out, show itemS row j0 = .tuple #[.int .i64 j0, spanVal (row.getD j0 (0, 0))] from rfl, pairA_mk]
      generalize row.getD j0 (0, 0) = y at HCL hy1 hy2 hy3 hy4
      clear hmem
      obtain ⟨lo, hi⟩ := y
      simp only [spanVal] at HCL hy1 hy2 hy3 hy4 ⊢
      have hjl : js.length < 1000 := by simpa using hroom
      refine RoundS.enter hfl rfl (by simp) h5 fun f'' hd' hf'' => ?_
      have g20 := hf'' 20
      have g6 := hf'' 6
      simp [paramsAt, AF.tmp_mk, AF.tmp_upd] at g20 g6
      dsimp only
      have HO := Lib.hid h7
      have HDI := Lib.hid h8
      have hlenc : (spanCells (js.map fun i => flip1 (row.getD i (0, 0)))).length = js.length * 2 := by rw [spanCells_length]; simp
      have hone := spanCells_one (js.map fun i => flip1 (row.getD i (0, 0)))
      generalize spanCells (js.map fun i => flip1 (row.getD i (0, 0))) = cells at HO HCL hlenc hone
      have HONE := Lib.hid hone
      clear h7 h8 hfl hf'' hroom hone
      repeat' (first|(with_reducible first|refine zA ?_|refine zB fun K hK=>?_|refine zC fun K2 hK2=>?_|refine zD ?_|refine zE ?_|refine zF ?_|refine zG ?_|refine zH ?_|refine zI ?_|refine zM ?_|refine zN ?_|refine zO ?_|refine zP ?_|refine zQ ?_|refine zR ?_)|((with_reducible refine zU (hK _ _ ?_));clear hK K)|((with_reducible refine zV ?_ ?_ fun K1 K3 d hdst h1 h3=>?_);rfl;exact yB rfl;cases hdst;go_simp)|((with_reducible refine zW fun K1 K3 h1 h3=>?_);go_simp)|((first|refine h1 ?_|refine h3 ?_);clear h1 h3 K1 K3)|((first|refine zX (fun hb=>h1 ?_) (fun hb=>h3 ?_)|refine zX (fun hb=>h3 ?_) (fun hb=>h1 ?_))<;>(clear h1 h3 K1 K3;(try have hb2:=yC hb);(try have hb2:=yD hb);(try have hb2:=yE hb);(try have hb2:=yF hb);(try have hb2:=yG hb)))|(refine fun (K2:_→AHeap→Prop) hK2=>?_)|((with_reducible refine zY ?_ ?_);decide)|((with_reducible first|refine zZ ?_ (fun K hK=>?_)|refine yA ?_ (fun K hK=>?_));(focus go_simp;done);go_simp;refine hK _ _ ?_;clear hK K)|(go_simp;(try go_bits);refine hK2 _ _ ?_;clear hK2 K2))
      refine ⟨?_, ?_⟩
      · rw [AHeap.get_push_old h4]; exact h5
      obtain ⟨G3, hG3⟩ : ∃ G3, G3 = (G.push (AObj.row [Value.int IntKind.i64 lo, Value.int IntKind.i64 hi] 68)).upd H4.n (.loop .busy none) := ⟨_, rfl⟩
      rw [← hG3]
      have hgn : G3.n = G.n + 1 := by rw [hG3, AHeap.n_upd, AHeap.n_push]
      have hk3 : ∀ i, i < G.n → i ≠ H4.n → G3.get i = G.get i := by
        intro i hi hne
        rw [hG3, AHeap.get_upd_ne hne, AHeap.get_push_old hi]
      have hl3 : G3.get H4.n = .loop .busy none := by rw [hG3]; exact AHeap.get_upd_same
      have hi3 : G3.get G.n = .row [Value.int IntKind.i64 lo, Value.int IntKind.i64 hi] 68 := by rw [hG3, AHeap.get_upd_ne (by omega), get_at rfl]
      have hi30 : cellAt G3 G.n 0 = some (.int .i64 lo) := by simp [cellAt, hi3]
      have hi31 : cellAt G3 G.n 1 = some (.int .i64 hi) := by simp [cellAt, hi3]
      have hc3 : G3.get H3.n = .row [w] 64 := by rw [hk3 _ (by omega) (by omega)]; exact h6
      have hcc3 : cellAt G3 H'.n 0 = some w := by rw [← hn3]; simp [cellAt, hc3]
      have hne3 : ∀ i n, w = .slice (some ⟨i, 0, none⟩) n n → 0 < n → i ≠ H4.n ∧ i ≠ H3.n := by
        intro i n hv hn
        have h9 := (own_block HO.out hv hn).2.2
        have h10 := (own_block HO.out hv hn).1
        constructor
        · rintro rfl; rw [h5] at h9; cases h9
        · omega
      have HO3 : Hid (Own G3 H4.n w 68 2 cells) := Lib.hid (own_at HO.out (by omega) fun i n hv hn => hk3 i (own_block HO.out hv hn).2.1 (hne3 i n hv hn).1)
      have HK3 := Lib.hid hk3
      have HNE := Lib.hid hne3
      have HGN := Lib.hid hgn
      have HL3 := Lib.hid hl3
      have HN3 := Lib.hid hn3
      have hlt3 : H'.n < G3.n := by omega
      have hlt3' : G.n < G3.n := by omega
      have hlt4 : H4.n < G3.n := by omega
      have HC3 := Lib.hid hc3
      have HBIG : Hid ((cells.length + 2) * max 16 1 ≤ 1073741824) := Lib.hid (by simp; omega)
      have hnn4 : H'.n < H4.n := by omega
      clear hk3 hne3 hG3 hl3 hc3 hgn hi3 hlenc
      repeat' (first|(with_reducible first|refine zA ?_|refine zB fun K hK=>?_|refine zC fun K2 hK2=>?_|refine zD ?_|refine zE ?_|refine zF ?_|refine zG ?_|refine zH ?_|refine zI ?_|refine zM ?_|refine zN ?_|refine zO ?_|refine zP ?_|refine zQ ?_|refine zR ?_)|((with_reducible refine zU (hK _ _ ?_));clear hK K)|((with_reducible refine zV ?_ ?_ fun K1 K3 d hdst h1 h3=>?_);rfl;exact yB rfl;cases hdst;go_simp)|((with_reducible refine zW fun K1 K3 h1 h3=>?_);go_simp)|((first|refine h1 ?_|refine h3 ?_);clear h1 h3 K1 K3)|((first|refine zX (fun hb=>h1 ?_) (fun hb=>h3 ?_)|refine zX (fun hb=>h3 ?_) (fun hb=>h1 ?_))<;>(clear h1 h3 K1 K3;(try have hb2:=yC hb);(try have hb2:=yD hb);(try have hb2:=yE hb);(try have hb2:=yF hb);(try have hb2:=yG hb)))|(refine fun (K2:_→AHeap→Prop) hK2=>?_)|((with_reducible refine zY ?_ ?_);decide)|((with_reducible first|refine zZ ?_ (fun K hK=>?_)|refine yA ?_ (fun K hK=>?_));(focus go_simp;done);go_simp;refine hK _ _ ?_;clear hK K)|(go_simp;(try go_bits);(try first | ((refine one_k el64 sz68 ze68 rfl (by decide) (by decide) rfl rfl ?_); go_simp) | ((refine append_k2 el64 sz68 by68 ze68 rfl (by decide) (HO3.out.ext (Ext.push _)) (srcCells_new rfl) (by decide) rfl (by rw [List.all_append, HONE.out]; rfl) HBIG.out (by rw [AHeap.n_push]; omega) fun v2 G4 ho4 hg4 => ?_); (obtain ⟨a2, n2, rfl⟩ := own_slice ho4); (have HO4 := Lib.hid ho4); (have HG4 := Lib.hid hg4); (have hc4 : G4.get H'.n = .row [w] 64 := (hg4.2 H'.n (by rw [AHeap.n_push]; omega) (fun b n hv hn => by have := (HNE.out b n hv hn).2; have := HN3.out; omega)).trans (by rw [AHeap.get_push_old hlt3, ← HN3.out]; exact HC3.out)); clear ho4 hg4; go_simp));refine hK2 _ _ ?_;clear hK2 K2))
      rw [← HN3.out] at hc4 ⊢
      have hl4 : G4.get H4.n = .loop .busy none := (HG4.out.2 H4.n (by rw [AHeap.n_push]; omega) (fun b n hv hn => (HNE.out b n hv hn).1.symm)).trans (by rw [AHeap.get_push_old hlt4]; exact HL3.out)
      have hn4 : G.n + 1 < G4.n := by have := HG4.out.1; rw [AHeap.n_push, HGN.out] at this; omega
      refine ⟨⟨.busy, none, ?_⟩, rfl, fun i => i = H4.n ∨ i = H3.n ∨ ∃ n, Value.slice a2 n2 n2 = .slice (some ⟨i, 0, none⟩) n n ∧ 0 < n, ⟨js ++ [j0], .slice a2 n2 n2, rfl, h3, ?_, ?_, ?_, ?_, fun i => Iff.rfl⟩, ?_⟩
      · rw [AHeap.get_upd_ne (by omega)]; exact hl4
      · rw [AHeap.n_upd, AHeap.n_upd]; omega
      · exact AHeap.get_upd_same
      · rw [AHeap.get_upd_ne (by omega), AHeap.get_upd_same]
      · rw [HCL.out]
        refine own_at (HO4.out.mono (by rw [AHeap.n_push, HGN.out]; omega)) (by rw [AHeap.n_upd, AHeap.n_upd]; exact Nat.le_refl _) fun i n hv hn => ?_
        have h9 := (own_block HO4.out hv hn).1
        rw [AHeap.n_push, HGN.out] at h9
        rw [AHeap.get_upd_ne (by omega), AHeap.get_upd_ne (by omega)]
      · refine ⟨by rw [AHeap.n_upd, AHeap.n_upd]; omega, fun i hi hd => ?_, fun i hd => ?_⟩
        · have h9 := fun h => hd ((HDI.out i).2 h)
          rw [AHeap.get_upd_ne (fun e => h9 (.inl e)), AHeap.get_upd_ne (fun e => h9 (.inr (.inl e))), HG4.out.2 i (by rw [AHeap.n_push, HGN.out]; omega) (fun b n hv hn e => h9 (.inr (.inr ⟨n, by rw [e]; exact hv, hn⟩))), AHeap.get_push_old (by rw [HGN.out]; omega)]
          exact HK3.out i hi (fun e => h9 (.inl e))
        · rcases hd with h | h | ⟨n, hv, hn⟩
          · exact .inl ((HDI.out i).2 (.inl h))
          · exact .inl ((HDI.out i).2 (.inr (.inl h)))
          · have h9 := (own_block HO4.out hv hn).1
            rw [AHeap.n_push, HGN.out] at h9
            exact .inr (by omega)
end Go.Proofs.Tryz
namespace Go.Proofs.Tryz
open Go Go.Am Go.RowKit Go.Co
set_option maxRecDepth 100000

def Course.made (x : Course) (p : Nat) : Bool := decide ((x.early p 0).length = x.open_.length)
theorem canBeMade_s {loops : List (Nat × LInfo)} {H : AHeap} {v : Value} {x : Course} {p : Nat} (hv : CourseV H v x) (ho : x.ord) (hp : x.per = p) (hp1 : 1 ≤ p) (hn : x.open_.length ≤ 1000) : CallS Tryz.prog loops 53 [v] H fun r H' => r = .bool (x.made p) ∧ H' = H := by
  refine CallS.forget (R := fun v => v = .bool (x.made p)) (by rintro v rfl; rfl) ?_
  have HV := Lib.hid hv
  have HE := Lib.hid (fun (loops : List (Nat × LInfo)) (H2 : AHeap) (hx : Ext H H2) => earliest_e (loops := loops) (frm := 0) (hv.ext hx) ho hp hp1 hn)
  obtain ⟨ov, rfl, hov⟩ := hv
  obtain ⟨hol, oa, oc, rfl⟩ := hov.slice
  have hle : (x.early p 0).length ≤ x.open_.length := (early_ok (op := fun i => ins (x.at_ i)) hp1 (fun i f => x.nx_ok ho i f) x.open_.length).1
  have HLE := Lib.hid hle
  have HM : Hid (x.made p = decide ((x.early p 0).length = x.open_.length)) := Lib.hid rfl
  generalize x.early p 0 = E at HE HLE HM
  clear hov hle
  rw [hp] at HV HE
  rw [hp]
  clear hp
  refine CallS.enter' Tryz.func53 rfl Tryz.ntmps53 (by simp) fun f hd hf => ?_
  have f0 := hf 0
  simp at f0
  clear hf
  repeat' (first|(with_reducible first|refine zA ?_|refine zB fun K hK=>?_|refine zC fun K2 hK2=>?_|refine zD ?_|refine zE ?_|refine zF ?_|refine zG ?_|refine zH ?_|refine zI ?_|refine zM ?_|refine zN ?_|refine zO ?_|refine zP ?_|refine zQ ?_|refine zR ?_)|((with_reducible refine zU (hK _ _ ?_));clear hK K)|((with_reducible refine zV ?_ ?_ fun K1 K3 d hdst h1 h3=>?_);rfl;exact yB rfl;cases hdst;go_simp)|((with_reducible refine zW fun K1 K3 h1 h3=>?_);go_simp)|((first|refine h1 ?_|refine h3 ?_);clear h1 h3 K1 K3)|((first|refine zX (fun hb=>h1 ?_) (fun hb=>h3 ?_)|refine zX (fun hb=>h3 ?_) (fun hb=>h1 ?_))<;>(clear h1 h3 K1 K3;(try have hb2:=yC hb);(try have hb2:=yD hb);(try have hb2:=yE hb);(try have hb2:=yF hb);(try have hb2:=yG hb)))|(refine fun (K2:_→AHeap→Prop) hK2=>?_)|((with_reducible refine zY ?_ ?_);decide)|((with_reducible first|refine zZ ?_ (fun K hK=>?_)|refine yA ?_ (fun K hK=>?_));(focus go_simp;done);go_simp;refine hK _ _ ?_;clear hK K)|((with_reducible refine yH mixed rfl ?_ 20 fun K0 hK0=>?_);kernel_rfl)|(with_reducible first|exact yI|exact yJ|refine yK ?_|refine yL ?_|refine yM ?_)|((with_reducible first|refine yN ?_ ?_|refine yO ?_ ?_|refine yP ?_ ?_);rfl)|((with_reducible refine yQ ?_ ?_);rfl;refine hK0 _ _ ?_;clear hK0 K0)|((with_reducible refine yR ?_ ?_ ?_ ?_);rfl;rfl;rfl)|((with_reducible refine yS ?_ ?_ ?_ fun K2 hK2=>?_);rfl;rfl;exact yB rfl)|((with_reducible refine yT ?_ ?_ ?_ ?_ fun K1 K3 d hdst h1 h3=>?_);rfl;rfl;rfl;exact yB rfl;cases hdst;go_simp)|((with_reducible refine yU ?_ ?_ ?_ ?_ fun K1 K3 d hdst h1 h3=>?_);rfl;rfl;rfl;exact yB rfl;cases hdst;go_simp)|((with_reducible refine yV ?_ ?_ (fun K2 hK2=>?_) ?_);rfl;exact yB rfl)|((with_reducible refine yW ?_ ?_ ?_ ?_ (fun K2 hK2=>?_) ?_);rfl;exact yB rfl;rfl;(focus go_simp;done))|((with_reducible refine yX ?_ ?_ ?_ (fun K2 hK2=>?_) ?_);rfl;rfl;exact yB rfl)|((with_reducible refine yY ?_ ?_ (fun K2 hK2=>?_) ?_);rfl;rfl)|((with_reducible refine yZ ?_ ?_);(first|rfl|(dsimp only;decide +kernel)))|((with_reducible refine xA ?_ ?_);(focus go_simp;done))|(go_simp;(try go_bits);(try first | ((with_reducible show CallS _ _ _ _ _ _);refine CallS.mono (HE.out _ _ (Ext.push _)) ?_; rintro ev H2 ⟨hi, hx⟩; (have HI := Lib.hid (ints_of_own hi (by have := HLE.out; omega))); (obtain ⟨-, ea, ec, rfl⟩ := HI.out.slice); (have HX := Lib.hid ((Ext.push _).trans hx)); (have hcc : cellAt H2 H.n 0 = some (Value.slice oa x.open_.length oc) := (hx.cellAt (by rw [AHeap.n_push]; omega)).trans (by rw [cellAt_new]; rfl)); (have hnn : H.n < H2.n := by have := hx.n; rw [AHeap.n_push] at this; omega); clear hi hx));(first|(refine hK2 _ _ ?_ ?_<;>clear hK2 K2)|(refine hK2 _ _ ?_;clear hK2 K2))))
  refine ⟨?_, HX.out⟩
  rw [HM.out]
  simp only [Value.bool.injEq]
  rw [Bool.eq_iff_iff]; simp; omega
theorem nextOk_eq {p : Int → Bool} {f d e : Int} (h1 : NextOk p f d) (h2 : NextOk p f e) : d = e := by
  rcases h1 with ⟨h1, h1'⟩ | ⟨h1, h1', h1'', h1'''⟩
  · rcases h2 with ⟨h2, _⟩ | ⟨h2, h2', h2'', _⟩
    · omega
    · rw [h1' e h2'] at h2''; cases h2''
  · rcases h2 with ⟨h2, h2'⟩ | ⟨h2, h2', h2'', h2'''⟩
    · rw [h2' d h1'] at h1''; cases h1''
    · have a := h1''' e h2' h2''
      have b := h2''' d h1' h1''
      omega
theorem nx_of {s : Sheet} {c : Copy} (he : errCopy s c = 0) {i : Nat} (hi : i < c.words.length) {f d : Int} (hd : max c.beg f ≤ d) (hb : ∀ e, max c.beg f ≤ e → e < d → (hasOn s i e).offers (c.words.getD i 0) = false) (hc : d ≤ c.fin → (hasOn s i d).offers (c.words.getD i 0) = true) : (courseOf s c).nx i (max 0 f) = if d ≤ c.fin then d else 731 := by
  obtain ⟨h0, h1, h2, h3, h4, h5, h6, h7⟩ := errCopy_ok he
  refine nextOk_eq ((courseOf s c).nx_ok (courseOf_ord he) i (max 0 f)) ?_
  by_cases h : d ≤ c.fin
  · rw [if_pos h]
    refine .inr ⟨by omega, by omega, ?_, fun e h8 h9 => ?_⟩
    · rw [courseOf_ins he hi, hc h]; simp; omega
    · rw [courseOf_ins he hi] at h9
      simp only [Bool.and_eq_true, decide_eq_true_eq] at h9
      rcases Int.lt_or_le e d with h10 | h10
      · rw [hb e (by omega) h10] at h9; simp at h9
      · exact h10
  · rw [if_neg h]
    refine .inl ⟨rfl, fun e h8 => ?_⟩
    rw [courseOf_ins he hi, Bool.eq_false_iff]
    intro h9
    simp only [Bool.and_eq_true, decide_eq_true_eq] at h9
    rw [hb e (by omega) (by omega)] at h9; simp at h9
end Go.Proofs.Tryz
namespace Go.Proofs.Tryz
open Go Go.Am Go.RowKit Go.Co
set_option maxRecDepth 100000

theorem ordS_in : ∀ (l : List (Int × Int)) {b : Int}, 0 ≤ b → ordS b l → ∀ y, y ∈ l → 0 ≤ y.1 ∧ y.1 ≤ 730 ∧ 0 ≤ y.2 ∧ y.2 ≤ 730
  | [], _, _, _, y, hy => by cases hy
  | x :: t, b, hb, hs, y, hy => by
    obtain ⟨h1, h2, h3, h4⟩ := hs
    rcases List.mem_cons.1 hy with rfl | h
    · omega
    · exact ordS_in t (by omega) h4 y h
theorem ordS_len : ∀ (l : List (Int × Int)) {b : Int}, b ≤ 732 → ordS b l → l.length * 2 ≤ (732 - b).toNat
  | [], _, _, _ => by simp
  | x :: t, b, hb, hs => by
    obtain ⟨h1, h2, h3, h4⟩ := hs
    have := ordS_len t (by omega) h4
    simp only [List.length_cons]
    omega
def Course.mir (x : Course) : Course := ⟨x.open_.reverse.map flipS, x.per⟩
theorem Course.mir_ord {x : Course} (h : x.ord) : x.mir.ord := by
  intro i
  by_cases hi : i < x.open_.length
  · have e : x.mir.at_ i = flipS (x.at_ (x.open_.length - 1 - i)) := by
      simp [Course.mir, Course.at_, hi, List.getElem_reverse, show x.open_.length - 1 - i < x.open_.length by omega]
    rw [e]
    exact flipS_ord _ (Int.le_refl 0) (h _)
  · have e : x.mir.at_ i = [] := by simp [Course.mir, Course.at_, hi]
    rw [e]; trivial
theorem early_in {x : Course} (h : x.ord) {p : Nat} {frm : Int} : ∀ (n : Nat) (acc : List Int), (∀ y, y ∈ acc → 0 ≤ y ∧ y ≤ 730) → ∀ y, y ∈ Co.early x.nx p frm n acc → 0 ≤ y ∧ y ≤ 730
  | 0, acc, ha, y, hy => ha y hy
  | n + 1, acc, ha, y, hy => by
    rw [Co.early] at hy
    split at hy
    · exact ha y hy
    · rename_i h1
      refine early_in h n _ (fun z hz => ?_) y hy
      rcases List.mem_append.1 hz with h2 | h2
      · exact ha z h2
      · rw [List.mem_singleton.1 h2]; exact Course.nx_in h h1
theorem early_len (nx : Nat → Int → Int) (p : Nat) (frm : Int) : ∀ (n : Nat) (acc : List Int), (Co.early nx p frm n acc).length ≤ acc.length + n
  | 0, acc => by rw [Co.early]; omega
  | n + 1, acc => by
    rw [Co.early]
    split
    · omega
    · have := early_len nx p frm n (acc ++ [nx acc.length (max frm (lowL p acc acc.length))])
      simp at this; omega
def Course.late (x : Course) (p : Nat) : List Int := flipD (x.mir.early p 0)

theorem latest_e {loops : List (Nat × LInfo)} {H : AHeap} {v : Value} {x : Course} {p : Nat} (hv : CourseV H v x) (ho : x.ord) (hp : x.per = p) (hp1 : 1 ≤ p) (hn : x.open_.length ≤ 1000) : CallS Tryz.prog loops 95 [v] H fun r H' => Own H' H.n r 3 1 ((x.late p).map (Value.int .i64)) ∧ Ext H H' := by
  have HV := Lib.hid hv
  obtain ⟨ov, rfl, hov⟩ := hv
  obtain ⟨hol, oa, oc, rfl⟩ := hov.slice
  have HOR := Lib.hid ho
  have HP := Lib.hid hp
  clear hov ho hp
  refine CallS.enter' Tryz.func95 rfl Tryz.ntmps95 (by simp) fun f hd hf => ?_
  have f0 := hf 0
  simp at f0
  clear hf
  generalize hper : x.per = per at f0 HV
  have HPER := Lib.hid hper
  clear hper
  repeat' (first|(with_reducible first|refine zA ?_|refine zB fun K hK=>?_|refine zC fun K2 hK2=>?_|refine zD ?_|refine zE ?_|refine zF ?_|refine zG ?_|refine zH ?_|refine zI ?_|refine zM ?_|refine zN ?_|refine zO ?_|refine zP ?_|refine zQ ?_|refine zR ?_)|((with_reducible refine zU (hK _ _ ?_));clear hK K)|((with_reducible refine zV ?_ ?_ fun K1 K3 d hdst h1 h3=>?_);rfl;exact yB rfl;cases hdst;go_simp)|((with_reducible refine zW fun K1 K3 h1 h3=>?_);go_simp)|((first|refine h1 ?_|refine h3 ?_);clear h1 h3 K1 K3)|((first|refine zX (fun hb=>h1 ?_) (fun hb=>h3 ?_)|refine zX (fun hb=>h3 ?_) (fun hb=>h1 ?_))<;>(clear h1 h3 K1 K3;(try have hb2:=yC hb);(try have hb2:=yD hb);(try have hb2:=yE hb);(try have hb2:=yF hb);(try have hb2:=yG hb)))|(refine fun (K2:_→AHeap→Prop) hK2=>?_)|((with_reducible refine zY ?_ ?_);decide)|((with_reducible first|refine zZ ?_ (fun K hK=>?_)|refine yA ?_ (fun K hK=>?_));(focus go_simp;done);go_simp;refine hK _ _ ?_;clear hK K)|(go_simp;(try go_bits);(try first |((with_reducible show CallS _ _ _ _ _ _);first|(refine CallS.mono (mirrored_e (x := x) (p := p) (HV.out.ext (Ext.push _)) HP.out hn (fun i => by have := ordS_len _ (by omega) (HOR.out i); omega) (fun i y hy => ordS_in _ (Int.le_refl 0) (HOR.out i) y hy)) ?_; rintro mv H1 ⟨hm, hx⟩; (have HM := Lib.hid (show CourseV H1 mv x.mir from hm)); (have HX1 := Lib.hid ((Ext.push _).trans hx)); clear hm hx)|(refine CallS.mono (earliest_e (x := x.mir) (p := p) HM.out (Course.mir_ord HOR.out) HP.out hp1 (by simp [Course.mir]; omega)) ?_; rintro ev H2 ⟨he, hx⟩; (have HE := Lib.hid (ints_of_own he (by have := early_len x.mir.nx p 0 x.mir.open_.length []; simp [Course.mir, Course.early] at this ⊢; omega))); (have HX2 := Lib.hid (HX1.out.trans hx)); clear he hx)|(refine CallS.mono (mirroredDays_e HE.out (fun y hy => by have := early_in (Course.mir_ord HOR.out) _ _ (by simp) y hy; omega) (by have := early_len x.mir.nx p 0 x.mir.open_.length []; simp [Course.mir, Course.early] at this ⊢; omega)) ?_; rintro dv H3 ⟨hd3, hx⟩; (have HD := Lib.hid hd3); (have HX3 := Lib.hid (HX2.out.trans hx)); (have hn3 := HX2.out.n); clear hd3 hx)));refine hK2 _ _ ?_;clear hK2 K2))
  exact ⟨HD.out.mono hn3, HX3.out⟩
end Go.Proofs.Tryz
namespace Go.Proofs.Tryz
open Go Go.Am Go.RowKit Go.Co
set_option maxRecDepth 100000

def errExt (s : Sheet) (c : Copy) : Int := if errCopy s c ≠ 0 then errCopy s c else if (courseOf s c).made c.per.toNat then 0 else 9
def firstL (s : Sheet) (c : Copy) : List Int := if errExt s c = 0 then (courseOf s c).early c.per.toNat 0 else []
def lastL (s : Sheet) (c : Copy) : List Int := if errExt s c = 0 then (courseOf s c).late c.per.toNat else []
theorem late_len (x : Course) (p : Nat) : (x.late p).length ≤ x.open_.length := by
  have := early_len x.mir.nx p 0 x.mir.open_.length []
  simp [Course.late, flipD, Course.mir, Course.early] at this ⊢
  omega
theorem first_len (x : Course) (p : Nat) : (x.early p 0).length ≤ x.open_.length := by
  have := early_len x.nx p 0 x.open_.length []
  simp [Course.early] at this ⊢
  omega

theorem extentOf_o {loops : List (Nat × LInfo)} {H : AHeap} {sv cv : Value} {s : Sheet} {c : Copy} (hs : SheetV H sv s) (hc : CopyV H cv c) : CallS Tryz.prog loops 49 [sv, cv] H fun r H' => (∃ oa on oc pi fv lv, r = .tuple #[.agg #[.slice oa on oc, .int .i64 pi, fv, lv], .int .i64 (errExt s c)] ∧ Own H' H.n fv 3 1 ((firstL s c).map (Value.int .i64)) ∧ Own H' H.n lv 3 1 ((lastL s c).map (Value.int .i64)) ∧ (errExt s c = 0 → CourseV H' (.agg #[.slice oa on oc, .int .i64 pi]) (courseOf s c))) ∧ Ext H H' := by
  have HS := Lib.hid hs
  have HC := Lib.hid hc
  obtain ⟨wv, av, rfl, hw, ha⟩ := hs
  obtain ⟨hwl, wa, wc, rfl⟩ := hw.slice
  obtain ⟨hal, aa, ac, rfl⟩ := ha.slice
  obtain ⟨cv, rfl, hcw⟩ := hc
  obtain ⟨hcl, ca, cc, rfl⟩ := hcw.slice
  clear hw ha hcw
  refine CallS.enter' Tryz.func49 rfl Tryz.ntmps49 (by simp) fun f hd hf => ?_
  have f0 := hf 0
  have f1 := hf 1
  simp at f0 f1
  clear hf
  generalize hee : errCopy s c = er
  have HE := Lib.hid hee
  clear hee
  have HX1 : Hid (Ext H (((H.push (.row [Value.slice wa s.words.length wc, Value.slice aa s.alts.length ac] 25)).push (.row [Value.slice ca c.words.length cc, .int .i64 c.beg, .int .i64 c.fin, .int .i64 c.per] 27)).push (.row [Value.slice none 0 0, .int .i64 0, Value.slice none 0 0, Value.slice none 0 0] 86))) := Lib.hid (((Ext.refl _).push' _).push' _ |>.push' _)
  by_cases her : er = 0
  · have hok : errCopy s c = 0 := by rw [HE.out]; exact her
    obtain ⟨he0, hlen, hwo, -, -, -, hp1, -⟩ := errCopy_ok hok
    have hwn : s.words.length ≤ 40 := by have := (win_iff.1 (err_ok he0).2.1).2; omega
    have hcn : (courseOf s c).open_.length ≤ 1000 := by rw [courseOf_len]; omega
    have hor := courseOf_ord hok
    have hper : (courseOf s c).per = c.per.toNat := by simp [courseOf]; omega
    have hpp : 1 ≤ c.per.toNat := by omega
    have HCE := Lib.hid (fun (loops : List (Nat × LInfo)) (H' : AHeap) (hx : Ext H H') => courseOf_f (loops := loops) (HS.out.ext hx) (HC.out.ext hx) hok)
    have HEE : Hid (errExt s c = if (courseOf s c).made c.per.toNat then 0 else 9) := Lib.hid (by rw [errExt, if_neg (by simp [hok])])
    have HFL : Hid (firstL s c = if errExt s c = 0 then (courseOf s c).early c.per.toNat 0 else []) := Lib.hid rfl
    have HLL : Hid (lastL s c = if errExt s c = 0 then (courseOf s c).late c.per.toNat else []) := Lib.hid rfl
    generalize courseOf s c = x at hcn hor hper HCE HEE HFL HLL
    generalize c.per.toNat = p at hper hpp HEE HFL HLL
    have HOR := Lib.hid hor
    have HPE := Lib.hid hper
    clear he0 hlen hwo hwn hor hper hok
    subst her
    repeat' (first|(with_reducible first|refine zA ?_|refine zB fun K hK=>?_|refine zC fun K2 hK2=>?_|refine zD ?_|refine zE ?_|refine zF ?_|refine zG ?_|refine zH ?_|refine zI ?_|refine zM ?_|refine zN ?_|refine zO ?_|refine zP ?_|refine zQ ?_|refine zR ?_)|((with_reducible refine zU (hK _ _ ?_));clear hK K)|((with_reducible refine zV ?_ ?_ fun K1 K3 d hdst h1 h3=>?_);rfl;exact yB rfl;cases hdst;go_simp)|((with_reducible refine zW fun K1 K3 h1 h3=>?_);go_simp)|((first|refine h1 ?_|refine h3 ?_);clear h1 h3 K1 K3)|((first|refine zX (fun hb=>h1 ?_) (fun hb=>h3 ?_)|refine zX (fun hb=>h3 ?_) (fun hb=>h1 ?_))<;>(clear h1 h3 K1 K3;(try have hb2:=yC hb);(try have hb2:=yD hb);(try have hb2:=yE hb);(try have hb2:=yF hb);(try have hb2:=yG hb)))|(refine fun (K2:_→AHeap→Prop) hK2=>?_)|((with_reducible refine zY ?_ ?_);decide)|((with_reducible first|refine zZ ?_ (fun K hK=>?_)|refine yA ?_ (fun K hK=>?_));(focus go_simp;done);go_simp;refine hK _ _ ?_;clear hK K)|((with_reducible refine yH mixed rfl ?_ 20 fun K0 hK0=>?_);kernel_rfl)|(with_reducible first|exact yI|exact yJ|refine yK ?_|refine yL ?_|refine yM ?_)|((with_reducible first|refine yN ?_ ?_|refine yO ?_ ?_|refine yP ?_ ?_);rfl)|((with_reducible refine yQ ?_ ?_);rfl;refine hK0 _ _ ?_;clear hK0 K0)|((with_reducible refine yR ?_ ?_ ?_ ?_);rfl;rfl;rfl)|((with_reducible refine yS ?_ ?_ ?_ fun K2 hK2=>?_);rfl;rfl;exact yB rfl)|((with_reducible refine yT ?_ ?_ ?_ ?_ fun K1 K3 d hdst h1 h3=>?_);rfl;rfl;rfl;exact yB rfl;cases hdst;go_simp)|((with_reducible refine yU ?_ ?_ ?_ ?_ fun K1 K3 d hdst h1 h3=>?_);rfl;rfl;rfl;exact yB rfl;cases hdst;go_simp)|((with_reducible refine yV ?_ ?_ (fun K2 hK2=>?_) ?_);rfl;exact yB rfl)|((with_reducible refine yW ?_ ?_ ?_ ?_ (fun K2 hK2=>?_) ?_);rfl;exact yB rfl;rfl;(focus go_simp;done))|((with_reducible refine yX ?_ ?_ ?_ (fun K2 hK2=>?_) ?_);rfl;rfl;exact yB rfl)|((with_reducible refine yY ?_ ?_ (fun K2 hK2=>?_) ?_);rfl;rfl)|((with_reducible refine yZ ?_ ?_);(first|rfl|(dsimp only;decide +kernel)))|((with_reducible refine xA ?_ ?_);(focus go_simp;done))|(go_simp;(try go_bits);(try first |((with_reducible show CallS _ _ _ _ _ _);first|(refine CallS.mono (checkCopy_s (s := s) (c := c) (HS.out.ext HX1.out) (HC.out.ext HX1.out)) ?_; rintro _ _ ⟨rfl, h9⟩; rw [h9, HE.out]; clear h9)|(refine CallS.mono (HCE.out _ _ HX1.out) ?_; rintro xv H1 ⟨hcf, hx⟩; (have HCFR := Lib.hid hcf); (have hcv := hcf.v); (have HCV := Lib.hid hcv); (have HX2 := Lib.hid (HX1.out.trans hx)); (obtain ⟨ov, rfl, hov⟩ := hcv); (obtain ⟨hol, oa, oc, rfl⟩ := hov.slice); (have hn1 : H.n + 3 ≤ H1.n := by have := hx.n; simp only [AHeap.n_push] at this; omega); (have HG4 : Hid (H1.get (H.n + 2) = .row [Value.slice none 0 0, .int .i64 0, Value.slice none 0 0, Value.slice none 0 0] 86) := Lib.hid ((hx.get _ (by simp only [AHeap.n_push]; omega)).trans (get_at (by simp only [AHeap.n_push])))); (have hg4 := HG4.out); (have hlt4 : H.n + 2 < H1.n := by omega); (have hne4 : (H.n + 2 = H1.n) = False := by simp; omega); (have hc4 : cellsAt (H1.push (.row [Value.slice oa x.open_.length oc, .int .i64 x.per] 79)) (H.n + 2) 0 4 = some [Value.slice none 0 0, .int .i64 0, Value.slice none 0 0, Value.slice none 0 0] := by rw [cellsAt_get (AHeap.get_push_old hlt4)]; simp [cellsAt, hg4]); (have hlt5 : H.n + 2 < H1.n + 1 := by omega); (have hgp4 : (H1.push (.row [Value.slice oa x.open_.length oc, .int .i64 x.per] 79)).get (H.n + 2) = .row [Value.slice none 0 0, .int .i64 0, Value.slice none 0 0, Value.slice none 0 0] 86 := (AHeap.get_push_old hlt4).trans hg4); clear hov hx hcf)|(refine CallS.mono (canBeMade_s (x := x) (p := p) (HCV.out.ext (Ext.push _)) HOR.out HPE.out hpp hcn) ?_; rintro _ _ ⟨rfl, h9⟩; rw [h9]; clear h9)|(refine CallS.mono (earliest_e (x := x) (p := p) (HCV.out.ext (Ext.push _)) HOR.out HPE.out hpp hcn) ?_; rintro ev H2 ⟨he, hx⟩; (have HEO := Lib.hid he); (have HEV := Lib.hid (ints_of_own he (by have := first_len x p; omega))); (have HX3 := Lib.hid hx); (obtain ⟨-, ea, ec, rfl⟩ := HEV.out.slice); (have hc7 : cellsAt H2 H1.n 0 2 = some [Value.slice oa x.open_.length oc, .int .i64 x.per] := by rw [hx.cellsAt (by rw [AHeap.n_push]; omega)]; simp [cellsAt, get_at (H := H1) rfl]); (have hlt2 : H1.n < H2.n := by have := hx.n; rw [AHeap.n_push] at this; omega); clear he hx)|(refine CallS.mono (latest_e (x := x) (p := p) ((HCV.out.ext (Ext.push _)).ext HX3.out) HOR.out HPE.out hpp hcn) ?_; rintro dv H3 ⟨he, hx⟩; (have HDO := Lib.hid he); (have HEO3 := Lib.hid (HEO.out.ext hx)); (have HDV := Lib.hid (ints_of_own he (by have := late_len x p; omega))); (have HX4 := Lib.hid (HX3.out.trans hx)); (have HY4 := Lib.hid hx); (obtain ⟨-, da, dc, rfl⟩ := HDV.out.slice); (have hc73 : cellsAt H3 H1.n 0 2 = some [Value.slice oa x.open_.length oc, .int .i64 x.per] := by rw [hx.cellsAt hlt2]; exact hc7); (have hlt3 : H1.n < H3.n := by have := hx.n; omega); (have hlt43 : H.n + 2 < H3.n := by omega); (have hg43 : H3.get (H.n + 2) = .row [Value.slice none 0 0, .int .i64 0, Value.slice none 0 0, Value.slice none 0 0] 86 := (HX4.out.get _ (by rw [AHeap.n_push]; omega)).trans ((AHeap.get_push_old hlt4).trans hg4)); clear he hx)));(first|(refine hK2 _ _ ?_ ?_<;>clear hK2 K2)|(refine hK2 _ _ ?_;clear hK2 K2))))
    · have hx : errExt s c = 9 := by rw [HEE.out, if_neg (by simpa using hb)]
      have hi : ∀ G : AHeap, Own G H.n (.slice none 0 0) 3 1 (([] : List Int).map (Value.int .i64)) := fun G => Own.nil
      refine ⟨⟨_, _, _, _, _, _, by rw [hx], ?_, ?_, fun h0 => absurd h0 (by rw [hx]; decide)⟩, ?zz⟩
      case zz => exact (HX2.out.upd (by omega) _).push' _
      · rw [HFL.out, hx]; exact hi _
      · rw [HLL.out, hx]; exact hi _
    · have hx : errExt s c = 0 := by rw [HEE.out, if_pos (by simpa using hb)]
      refine ⟨⟨_, _, _, _, _, _, by rw [hx], ?_, ?_, fun _ => ?_⟩, ((HX2.out.push' _).trans HX4.out).upd (by omega) _⟩
      · rw [HFL.out, hx, if_pos rfl]
        exact (own_upd HEO3.out (by rw [AHeap.n_push]; omega)).mono (by rw [AHeap.n_push]; omega)
      · rw [HLL.out, hx, if_pos rfl]
        exact (own_upd HDO.out (by omega)).mono (by omega)
      · refine HCFR.out _ (by rw [AHeap.n_upd]; omega) fun i h1 h2 => ?_
        simp only [AHeap.n_push] at h1
        rw [AHeap.get_upd_ne (by omega), HX4.out.get i (by rw [AHeap.n_push]; omega), AHeap.get_push_old h2]
  · repeat' (first|(with_reducible first|refine zA ?_|refine zB fun K hK=>?_|refine zC fun K2 hK2=>?_|refine zD ?_|refine zE ?_|refine zF ?_|refine zG ?_|refine zH ?_|refine zI ?_|refine zM ?_|refine zN ?_|refine zO ?_|refine zP ?_|refine zQ ?_|refine zR ?_)|((with_reducible refine zU (hK _ _ ?_));clear hK K)|((with_reducible refine zV ?_ ?_ fun K1 K3 d hdst h1 h3=>?_);rfl;exact yB rfl;cases hdst;go_simp)|((with_reducible refine zW fun K1 K3 h1 h3=>?_);go_simp)|((first|refine h1 ?_|refine h3 ?_);clear h1 h3 K1 K3)|((first|refine zX (fun hb=>h1 ?_) (fun hb=>h3 ?_)|refine zX (fun hb=>h3 ?_) (fun hb=>h1 ?_))<;>(clear h1 h3 K1 K3;(try have hb2:=yC hb);(try have hb2:=yD hb);(try have hb2:=yE hb);(try have hb2:=yF hb);(try have hb2:=yG hb)))|(refine fun (K2:_→AHeap→Prop) hK2=>?_)|((with_reducible refine zY ?_ ?_);decide)|((with_reducible first|refine zZ ?_ (fun K hK=>?_)|refine yA ?_ (fun K hK=>?_));(focus go_simp;done);go_simp;refine hK _ _ ?_;clear hK K)|(go_simp;(try go_bits);(try first | ((with_reducible show CallS _ _ _ _ _ _);refine CallS.mono (checkCopy_s (s := s) (c := c) (HS.out.ext HX1.out) (HC.out.ext HX1.out)) ?_; rintro _ _ ⟨rfl, h9⟩; rw [h9, HE.out]; clear h9));refine hK2 _ _ ?_;clear hK2 K2))
    all_goals try (exact absurd (show er = 0 by simpa using hb) her)
    have hex : errExt s c = er := by rw [errExt, if_pos (by rw [HE.out]; exact her), HE.out]
    have hi : ∀ G : AHeap, Own G H.n (.slice none 0 0) 3 1 (([] : List Int).map (Value.int .i64)) := fun G => Own.nil
    refine ⟨⟨_, _, _, _, _, _, by rw [hex], ?_, ?_, fun h0 => absurd h0 (by rw [hex]; exact her)⟩, HX1.out⟩
    · rw [firstL, hex, if_neg her]; exact hi _
    · rw [lastL, hex, if_neg her]; exact hi _
theorem ends_len (s : Sheet) (c : Copy) : (firstL s c).length ≤ 9223372036854775807 ∧ (lastL s c).length ≤ 9223372036854775807 := by
  by_cases h : errExt s c = 0
  · have h0 : errCopy s c = 0 := by
      unfold errExt at h
      split at h
      · rename_i h1; exact absurd h h1
      · rename_i h1; simpa using h1
    obtain ⟨he0, hlen, -⟩ := errCopy_ok h0
    have hwn : s.words.length ≤ 40 := by have := (win_iff.1 (err_ok he0).2.1).2; omega
    have h1 := first_len (courseOf s c) c.per.toNat
    have h2 := late_len (courseOf s c) c.per.toNat
    have h3 := courseOf_len s c
    rw [firstL, if_pos h, lastL, if_pos h]
    omega
  · rw [firstL, if_neg h, lastL, if_neg h]; simp
end Go.Proofs.Tryz
namespace Go.Proofs.Tryz
open Go Go.Am Go.RowKit Go.Co
set_option maxRecDepth 100000

theorem first_o {loops : List (Nat × LInfo)} {H : AHeap} {sv cv : Value} {s : Sheet} {c : Copy} (hs : SheetV H sv s) (hc : CopyV H cv c) : CallS Tryz.prog loops 13 [sv, cv] H fun r H' => (∃ fv, r = .tuple #[fv, .int .i64 (errExt s c)] ∧ Own H' H.n fv 3 1 ((firstL s c).map (Value.int .i64))) ∧ Ext H H' := by
  have HS := Lib.hid hs
  have HC := Lib.hid hc
  obtain ⟨wv, av, rfl, hw, ha⟩ := hs
  obtain ⟨hwl, wa, wc, rfl⟩ := hw.slice
  obtain ⟨hal, aa, ac, rfl⟩ := ha.slice
  obtain ⟨cv, rfl, hcw⟩ := hc
  obtain ⟨hcl, ca, cc, rfl⟩ := hcw.slice
  clear hw ha hcw
  refine CallS.enter' Tryz.func13 rfl Tryz.ntmps13 (by simp) fun f hd hf => ?_
  have f0 := hf 0
  have f1 := hf 1
  simp at f0 f1
  clear hf
  have HX1 : Hid (Ext H ((H.push (.row [Value.slice wa s.words.length wc, Value.slice aa s.alts.length ac] 25)).push (.row [Value.slice ca c.words.length cc, .int .i64 c.beg, .int .i64 c.fin, .int .i64 c.per] 27))) := Lib.hid (((Ext.refl _).push' _).push' _)
  generalize hee : errExt s c = er
  have HE := Lib.hid hee
  clear hee
  repeat' (first|(with_reducible first|refine zA ?_|refine zB fun K hK=>?_|refine zC fun K2 hK2=>?_|refine zD ?_|refine zE ?_|refine zF ?_|refine zG ?_|refine zH ?_|refine zI ?_|refine zM ?_|refine zN ?_|refine zO ?_|refine zP ?_|refine zQ ?_|refine zR ?_)|((with_reducible refine zU (hK _ _ ?_));clear hK K)|((with_reducible refine zV ?_ ?_ fun K1 K3 d hdst h1 h3=>?_);rfl;exact yB rfl;cases hdst;go_simp)|((with_reducible refine zW fun K1 K3 h1 h3=>?_);go_simp)|((first|refine h1 ?_|refine h3 ?_);clear h1 h3 K1 K3)|((first|refine zX (fun hb=>h1 ?_) (fun hb=>h3 ?_)|refine zX (fun hb=>h3 ?_) (fun hb=>h1 ?_))<;>(clear h1 h3 K1 K3;(try have hb2:=yC hb);(try have hb2:=yD hb);(try have hb2:=yE hb);(try have hb2:=yF hb);(try have hb2:=yG hb)))|(refine fun (K2:_→AHeap→Prop) hK2=>?_)|((with_reducible refine zY ?_ ?_);decide)|((with_reducible first|refine zZ ?_ (fun K hK=>?_)|refine yA ?_ (fun K hK=>?_));(focus go_simp;done);go_simp;refine hK _ _ ?_;clear hK K)|(go_simp;(try go_bits);(try first | ((with_reducible show CallS _ _ _ _ _ _);refine CallS.mono (extentOf_o (s := s) (c := c) (HS.out.ext HX1.out) (HC.out.ext HX1.out)) ?_; rintro _ H1 ⟨⟨oa, on, oc, pi, fv, lv, rfl, hf1, hl1, -⟩, hx⟩; rw [HE.out]; (have HF := Lib.hid hf1); (have HX2 := Lib.hid (HX1.out.trans hx)); (obtain ⟨fa, fn, rfl⟩ := own_slice hf1); (obtain ⟨la, ln, rfl⟩ := own_slice hl1); clear hf1 hl1 hx));refine hK2 _ _ ?_;clear hK2 K2))
  exact ⟨⟨_, rfl, (HF.out.mono (by simp only [AHeap.n_push]; omega)).ext (Ext.push _)⟩, HX2.out.push' _⟩

theorem last_o {loops : List (Nat × LInfo)} {H : AHeap} {sv cv : Value} {s : Sheet} {c : Copy} (hs : SheetV H sv s) (hc : CopyV H cv c) : CallS Tryz.prog loops 15 [sv, cv] H fun r H' => (∃ fv, r = .tuple #[fv, .int .i64 (errExt s c)] ∧ Own H' H.n fv 3 1 ((lastL s c).map (Value.int .i64))) ∧ Ext H H' := by
  have HS := Lib.hid hs
  have HC := Lib.hid hc
  obtain ⟨wv, av, rfl, hw, ha⟩ := hs
  obtain ⟨hwl, wa, wc, rfl⟩ := hw.slice
  obtain ⟨hal, aa, ac, rfl⟩ := ha.slice
  obtain ⟨cv, rfl, hcw⟩ := hc
  obtain ⟨hcl, ca, cc, rfl⟩ := hcw.slice
  clear hw ha hcw
  refine CallS.enter' Tryz.func15 rfl Tryz.ntmps15 (by simp) fun f hd hf => ?_
  have f0 := hf 0
  have f1 := hf 1
  simp at f0 f1
  clear hf
  have HX1 : Hid (Ext H ((H.push (.row [Value.slice wa s.words.length wc, Value.slice aa s.alts.length ac] 25)).push (.row [Value.slice ca c.words.length cc, .int .i64 c.beg, .int .i64 c.fin, .int .i64 c.per] 27))) := Lib.hid (((Ext.refl _).push' _).push' _)
  generalize hee : errExt s c = er
  have HE := Lib.hid hee
  clear hee
  repeat' (first|(with_reducible first|refine zA ?_|refine zB fun K hK=>?_|refine zC fun K2 hK2=>?_|refine zD ?_|refine zE ?_|refine zF ?_|refine zG ?_|refine zH ?_|refine zI ?_|refine zM ?_|refine zN ?_|refine zO ?_|refine zP ?_|refine zQ ?_|refine zR ?_)|((with_reducible refine zU (hK _ _ ?_));clear hK K)|((with_reducible refine zV ?_ ?_ fun K1 K3 d hdst h1 h3=>?_);rfl;exact yB rfl;cases hdst;go_simp)|((with_reducible refine zW fun K1 K3 h1 h3=>?_);go_simp)|((first|refine h1 ?_|refine h3 ?_);clear h1 h3 K1 K3)|((first|refine zX (fun hb=>h1 ?_) (fun hb=>h3 ?_)|refine zX (fun hb=>h3 ?_) (fun hb=>h1 ?_))<;>(clear h1 h3 K1 K3;(try have hb2:=yC hb);(try have hb2:=yD hb);(try have hb2:=yE hb);(try have hb2:=yF hb);(try have hb2:=yG hb)))|(refine fun (K2:_→AHeap→Prop) hK2=>?_)|((with_reducible refine zY ?_ ?_);decide)|((with_reducible first|refine zZ ?_ (fun K hK=>?_)|refine yA ?_ (fun K hK=>?_));(focus go_simp;done);go_simp;refine hK _ _ ?_;clear hK K)|(go_simp;(try go_bits);(try first | ((with_reducible show CallS _ _ _ _ _ _);refine CallS.mono (extentOf_o (s := s) (c := c) (HS.out.ext HX1.out) (HC.out.ext HX1.out)) ?_; rintro _ H1 ⟨⟨oa, on, oc, pi, fv, lv, rfl, hf1, hl1, -⟩, hx⟩; rw [HE.out]; (have HF := Lib.hid hl1); (have HX2 := Lib.hid (HX1.out.trans hx)); (obtain ⟨fa, fn, rfl⟩ := own_slice hf1); (obtain ⟨la, ln, rfl⟩ := own_slice hl1); clear hf1 hl1 hx));refine hK2 _ _ ?_;clear hK2 K2))
  exact ⟨⟨_, rfl, (HF.out.mono (by simp only [AHeap.n_push]; omega)).ext (Ext.push _)⟩, HX2.out.push' _⟩
theorem first_e {loops : List (Nat × LInfo)} {H : AHeap} {sv cv : Value} {s : Sheet} {c : Copy} (hs : SheetV H sv s) (hc : CopyV H cv c) : CallS Tryz.prog loops 13 [sv, cv] H fun r H' => (∃ fv, r = .tuple #[fv, .int .i64 (errExt s c)] ∧ Ints H' fv (firstL s c)) ∧ Ext H H' :=
  CallS.mono (first_o hs hc) fun _ _ ⟨⟨fv, h1, h2⟩, h3⟩ => ⟨⟨fv, h1, ints_of_own h2 (ends_len s c).1⟩, h3⟩
theorem last_e {loops : List (Nat × LInfo)} {H : AHeap} {sv cv : Value} {s : Sheet} {c : Copy} (hs : SheetV H sv s) (hc : CopyV H cv c) : CallS Tryz.prog loops 15 [sv, cv] H fun r H' => (∃ fv, r = .tuple #[fv, .int .i64 (errExt s c)] ∧ Ints H' fv (lastL s c)) ∧ Ext H H' :=
  CallS.mono (last_o hs hc) fun _ _ ⟨⟨fv, h1, h2⟩, h3⟩ => ⟨⟨fv, h1, ints_of_own h2 (ends_len s c).2⟩, h3⟩
end Go.Proofs.Tryz
namespace Go.Proofs.Tryz
open Go Go.Am Go.RowKit Go.Co

def Course.op (x : Course) (i : Nat) (d : Int) : Bool := ins (x.at_ i) d
theorem Course.op_in {x : Course} (h : x.ord) (i : Nat) (d : Int) (ho : x.op i d = true) : 0 ≤ d ∧ d ≤ 730 := ordS_ins _ (h i) d ho
def Course.fit (x : Course) (p : Nat) (g : List Int) : Prop := g.length = x.open_.length ∧ FitTo x.op p g g.length

theorem Course.early_fit {x : Course} {p : Nat} (h : x.ord) (hp : 1 ≤ p) (hm : x.made p = true) : x.fit p (x.early p 0) := by
  have h1 : (x.early p 0).length = x.open_.length := by simpa [Course.made] using hm
  exact ⟨h1, (early_ok (op := x.op) hp (fun i f => x.nx_ok h i f) x.open_.length (frm := 0)).2.1⟩
theorem Course.fit_in {x : Course} {p : Nat} {g : List Int} (h : x.ord) (hg : x.fit p g) : ∀ i, i < g.length → 0 ≤ g.getD i 0 ∧ g.getD i 0 ≤ 730 := fun i hi => x.op_in h i _ (hg.2 i hi).1
theorem Course.fit_early {x : Course} {p : Nat} {g : List Int} (h : x.ord) (hp : 1 ≤ p) (hg : x.fit p g) : x.made p = true ∧ ∀ i, i < g.length → (x.early p 0).getD i 0 ≤ g.getD i 0 := by
  have h1 := early_ok (op := x.op) hp (fun i f => x.nx_ok h i f) x.open_.length (frm := 0)
  obtain ⟨h2, -, -, h3⟩ := h1
  obtain ⟨h4, h5⟩ := h3 g g.length (by have := hg.1; omega) hg.2 (fun i hi => (x.fit_in h hg i hi).1)
  refine ⟨?_, h5⟩
  have h6 : (x.early p 0).length = x.open_.length := by
    have h7 : g.length ≤ (x.early p 0).length := h4
    have h8 : (x.early p 0).length ≤ x.open_.length := h2
    have := hg.1
    omega
  simp [Course.made, h6]

theorem Course.mir_len (x : Course) : x.mir.open_.length = x.open_.length := by simp [Course.mir]
theorem Course.mir_at {x : Course} {i : Nat} (hi : i < x.open_.length) : x.mir.at_ i = flipS (x.at_ (x.open_.length - 1 - i)) := by
  simp [Course.mir, Course.at_, hi, List.getElem_reverse, show x.open_.length - 1 - i < x.open_.length by omega]
theorem Course.mir_op {x : Course} {i : Nat} (hi : i < x.open_.length) (d : Int) : x.mir.op i d = x.op (x.open_.length - 1 - i) (730 - d) := by
  rw [Course.op, x.mir_at hi, flipS_ins]; rfl
end Go.Proofs.Tryz
namespace Go.Proofs.Tryz
open Go Go.Am Go.RowKit Go.Co
set_option maxRecDepth 100000

def clampI (x : Int) : Int := min (max x (-1)) 731
def clampL (xs : List Int) : List Int := xs.map clampI
theorem clampL_length (xs : List Int) : (clampL xs).length = xs.length := by simp [clampL]
theorem clampL_in {xs : List Int} : ∀ y, y ∈ clampL xs → -1 ≤ y ∧ y ≤ 731 := by
  intro y hy
  simp only [clampL, List.mem_map] at hy
  obtain ⟨x, -, rfl⟩ := hy
  simp only [clampI]; omega

theorem clamped_e {loops : List (Nat × LInfo)} {H : AHeap} {lv : Value} {xs : List Int} (hv : Ints H lv xs) (hn : xs.length ≤ 1000) : CallS Tryz.prog loops 100 [lv] H fun r H' => Own H' H.n r 3 1 ((clampL xs).map (Value.int .i64)) ∧ Ext H H' := by
  have HV := Lib.hid hv
  obtain ⟨hol, oa, oc, rfl⟩ := hv.slice
  generalize hr : clampL xs = res
  have HE : Hid (clampL xs = res) := Lib.hid hr
  clear hv hr
  refine CallS.enter' Tryz.func100 rfl Tryz.ntmps100 (by simp) fun f hd hf => ?_
  have f0 := hf 0
  simp at f0
  clear hf
  repeat' (first|(with_reducible first|refine zA ?_|refine zB fun K hK=>?_|refine zC fun K2 hK2=>?_|refine zD ?_|refine zE ?_|refine zF ?_|refine zG ?_|refine zH ?_|refine zI ?_|refine zM ?_|refine zN ?_|refine zO ?_|refine zP ?_|refine zQ ?_|refine zR ?_)|((with_reducible refine zU (hK _ _ ?_));clear hK K)|((with_reducible refine zV ?_ ?_ fun K1 K3 d hdst h1 h3=>?_);rfl;exact yB rfl;cases hdst;go_simp)|((with_reducible refine zW fun K1 K3 h1 h3=>?_);go_simp)|((first|refine h1 ?_|refine h3 ?_);clear h1 h3 K1 K3)|((first|refine zX (fun hb=>h1 ?_) (fun hb=>h3 ?_)|refine zX (fun hb=>h3 ?_) (fun hb=>h1 ?_))<;>(clear h1 h3 K1 K3;(try have hb2:=yC hb);(try have hb2:=yD hb);(try have hb2:=yE hb);(try have hb2:=yF hb);(try have hb2:=yG hb)))|(refine fun (K2:_→AHeap→Prop) hK2=>?_)|((with_reducible refine zY ?_ ?_);decide)|((with_reducible first|refine zZ ?_ (fun K hK=>?_)|refine yA ?_ (fun K hK=>?_));(focus go_simp;done);go_simp;refine hK _ _ ?_;clear hK K)|(go_simp;(try go_bits);refine hK2 _ _ ?_;clear hK2 K2))
  refine CodeS.loop (fun m f H' => ∃ (k : Nat) (v : Value) (acc : List Int), k ≤ xs.length ∧ acc.length = k ∧ m = xs.length - k ∧ f.tmp 8 = .int .i64 k ∧ f.tmp 7 = .int .i64 xs.length ∧ f.tmp 6 = .slice oa xs.length oc ∧ f.tmp 3 = v ∧ f.defers = [] ∧ Hid (acc ++ clampL (xs.drop k) = res) ∧ Hid (Ext H H') ∧ Hid (Own H' H.n v 3 1 (acc.map (Value.int .i64)))) xs.length ?_ ?_
  · exact ⟨0, .slice none 0 0, [], by simp, rfl, by simp, (by first|go_simp<;>go_num|assumption), (by first|go_simp<;>go_num|assumption), (by first|go_simp<;>go_num|assumption), (by first|go_simp<;>go_num|assumption), (by first|go_simp<;>go_num|assumption), Lib.hid (by simpa using HE.out), Lib.hid (Ext.refl _), Lib.hid Own.nil⟩
  clear f0 hd f HE
  rintro m f H' ⟨k, v, acc, hk, hak, rfl, f8, f7, f6, f3, hd, HG, HX, HO⟩
  have HAK := Lib.hid hak
  clear hak
  by_cases hlt : k < xs.length
  · obtain ⟨b, o, sp, rfl, hb, hx⟩ := (Ints.ext HV.out HX.out).at_ hlt
    have HD := Lib.hid (List.drop_eq_getElem_cons hlt)
    generalize xs[k] = y at hx HD
    have HST : Hid (acc ++ [clampI y] ++ clampL (xs.drop (k + 1)) = res) := Lib.hid (by rw [← HG.out, HD.out]; simp [clampL])
    have hbig : ((acc.map (Value.int .i64)).length + 1) * max 8 1 ≤ 1073741824 := by have := HAK.out; simp; omega
    have HBIG := Lib.hid hbig
    clear hbig
    repeat' (first|(with_reducible first|refine zA ?_|refine zB fun K hK=>?_|refine zC fun K2 hK2=>?_|refine zD ?_|refine zE ?_|refine zF ?_|refine zG ?_|refine zH ?_|refine zI ?_|refine zM ?_|refine zN ?_|refine zO ?_|refine zP ?_|refine zQ ?_|refine zR ?_)|((with_reducible refine zU (hK _ _ ?_));clear hK K)|((with_reducible refine zV ?_ ?_ fun K1 K3 d hdst h1 h3=>?_);rfl;exact yB rfl;cases hdst;go_simp)|((with_reducible refine zW fun K1 K3 h1 h3=>?_);go_simp)|((first|refine h1 ?_|refine h3 ?_);clear h1 h3 K1 K3)|((first|refine zX (fun hb=>h1 ?_) (fun hb=>h3 ?_)|refine zX (fun hb=>h3 ?_) (fun hb=>h1 ?_))<;>(clear h1 h3 K1 K3;(try have hb2:=yC hb);(try have hb2:=yD hb);(try have hb2:=yE hb);(try have hb2:=yF hb);(try have hb2:=yG hb)))|(refine fun (K2:_→AHeap→Prop) hK2=>?_)|((with_reducible refine zY ?_ ?_);decide)|((with_reducible first|refine zZ ?_ (fun K hK=>?_)|refine yA ?_ (fun K hK=>?_));(focus go_simp;done);go_simp;refine hK _ _ ?_;clear hK K)|(go_simp;(try go_bits);(try first | ((refine one_k el22 sz3 ze3 rfl (by decide) (by decide) rfl rfl ?_); go_simp) | ((refine append_k2 el22 sz3 by3 ze3 rfl (by decide) (HO.out.ext (Ext.push _)) (srcCells_new rfl) (by decide) rfl (by rw [List.all_append, oneV_list_int]; rfl) HBIG.out (by have := HX.out.n; simp only [AHeap.n_push]; omega) fun v2 H4 ho4 hg4 => ?_); (have HO4 := Lib.hid ho4); (have HG4 := Lib.hid hg4); clear ho4 hg4; go_simp));refine hK2 _ _ ?_;clear hK2 K2))
    have hx4 : Ext H H4 := HG4.out.ext (HO.out.ext (Ext.push _)) (by omega) (HX.out.push' _)
    refine Post.round_normal ⟨xs.length - (k + 1), by omega, k + 1, v2, acc ++ [clampI y], by omega, by have := HAK.out; simp; omega, rfl, (by first|go_simp<;>go_num|assumption), (by first|go_simp<;>go_num|assumption), (by first|go_simp<;>go_num|assumption), (by first|go_simp<;>go_num|assumption), (by first|go_simp<;>go_num|assumption), HST, Lib.hid hx4, Lib.hid ?_⟩
    rw [List.map_append]; exact HO4.out.mono (by have := HX.out.n; simp only [AHeap.n_push]; omega)
  · repeat' (first|(with_reducible first|refine zA ?_|refine zB fun K hK=>?_|refine zC fun K2 hK2=>?_|refine zD ?_|refine zE ?_|refine zF ?_|refine zG ?_|refine zH ?_|refine zI ?_|refine zM ?_|refine zN ?_|refine zO ?_|refine zP ?_|refine zQ ?_|refine zR ?_)|((with_reducible refine zU (hK _ _ ?_));clear hK K)|((with_reducible refine zV ?_ ?_ fun K1 K3 d hdst h1 h3=>?_);rfl;exact yB rfl;cases hdst;go_simp)|((with_reducible refine zW fun K1 K3 h1 h3=>?_);go_simp)|((first|refine h1 ?_|refine h3 ?_);clear h1 h3 K1 K3)|((first|refine zX (fun hb=>h1 ?_) (fun hb=>h3 ?_)|refine zX (fun hb=>h3 ?_) (fun hb=>h1 ?_))<;>(clear h1 h3 K1 K3;(try have hb2:=yC hb);(try have hb2:=yD hb);(try have hb2:=yE hb);(try have hb2:=yF hb);(try have hb2:=yG hb)))|(refine fun (K2:_→AHeap→Prop) hK2=>?_)|((with_reducible refine zY ?_ ?_);decide)|((with_reducible first|refine zZ ?_ (fun K hK=>?_)|refine yA ?_ (fun K hK=>?_));(focus go_simp;done);go_simp;refine hK _ _ ?_;clear hK K)|(go_simp;(try go_bits);refine hK2 _ _ ?_;clear hK2 K2))
    refine ⟨?_, HX.out⟩
    have hr : acc = res := by rw [← HG.out, List.drop_eq_nil_of_le (by omega)]; simp [clampL]
    rw [← hr]
    exact HO.out
end Go.Proofs.Tryz
namespace Go.Proofs.Tryz
open Go Go.Am Go.RowKit Go.Co
set_option maxRecDepth 100000

def holdGo (x : Course) (p : Nat) (fl : List Int) : Nat → Nat → Bool
  | 0, _ => true
  | r + 1, i => if x.nx i (lowL p fl i) < fl.getD i 0 then false else holdGo x p fl r (i + 1)
theorem holdGo_iff {x : Course} {p : Nat} {fl : List Int} : ∀ (r i : Nat), holdGo x p fl r i = true ↔ ∀ j, i ≤ j → j < i + r → fl.getD j 0 ≤ x.nx j (lowL p fl j)
  | 0, i => by simp [holdGo]; intro j h1 h2; omega
  | r + 1, i => by
    rw [holdGo]
    split
    · rename_i h
      simp only [Bool.false_eq_true, false_iff]
      exact fun h2 => by have := h2 i (Nat.le_refl _) (by omega); omega
    · rename_i h
      rw [holdGo_iff r (i + 1)]
      constructor
      · intro h2 j h3 h4
        rcases Nat.eq_or_lt_of_le h3 with rfl | h5
        · omega
        · exact h2 j h5 (by omega)
      · exact fun h2 j h3 h4 => h2 j (by omega) (by omega)

theorem hold_s {loops : List (Nat × LInfo)} {H : AHeap} {v lv : Value} {x : Course} {xs : List Int} {p : Nat} (hv : CourseV H v x) (hd : Ints H lv xs) (hk : xs.length ≤ x.open_.length) (hp : x.per = p) (hp1 : 1 ≤ p) (hn : xs.length ≤ 1000) : CallS Tryz.prog loops 97 [v, lv] H fun r H' => r = .bool (holdGo x p (clampL xs) xs.length 0) ∧ H' = H := by
  refine CallS.forget (R := fun v => v = .bool (holdGo x p (clampL xs) xs.length 0)) (by rintro v rfl; rfl) ?_
  have HV := Lib.hid hv
  have HI := Lib.hid hd
  obtain ⟨ov, rfl, hov⟩ := hv
  obtain ⟨hol, oa, oc, rfl⟩ := hov.slice
  obtain ⟨-, la, lc, rfl⟩ := hd.slice
  have HP := Lib.hid hp
  generalize hr : holdGo x p (clampL xs) xs.length 0 = res
  have HE := Lib.hid hr
  clear hov hr hp hd
  refine CallS.enter' Tryz.func97 rfl Tryz.ntmps97 (by simp) fun f hd hf => ?_
  have f0 := hf 0
  have f1 := hf 1
  simp at f0 f1
  clear hf
  generalize hper : x.per = per at f0 HV
  have HPER := Lib.hid hper
  clear hper
  repeat' (first|(with_reducible first|refine zA ?_|refine zB fun K hK=>?_|refine zC fun K2 hK2=>?_|refine zD ?_|refine zE ?_|refine zF ?_|refine zG ?_|refine zH ?_|refine zI ?_|refine zM ?_|refine zN ?_|refine zO ?_|refine zP ?_|refine zQ ?_|refine zR ?_)|((with_reducible refine zU (hK _ _ ?_));clear hK K)|((with_reducible refine zV ?_ ?_ fun K1 K3 d hdst h1 h3=>?_);rfl;exact yB rfl;cases hdst;go_simp)|((with_reducible refine zW fun K1 K3 h1 h3=>?_);go_simp)|((first|refine h1 ?_|refine h3 ?_);clear h1 h3 K1 K3)|((first|refine zX (fun hb=>h1 ?_) (fun hb=>h3 ?_)|refine zX (fun hb=>h3 ?_) (fun hb=>h1 ?_))<;>(clear h1 h3 K1 K3;(try have hb2:=yC hb);(try have hb2:=yD hb);(try have hb2:=yE hb);(try have hb2:=yF hb);(try have hb2:=yG hb)))|(refine fun (K2:_→AHeap→Prop) hK2=>?_)|((with_reducible refine zY ?_ ?_);decide)|((with_reducible first|refine zZ ?_ (fun K hK=>?_)|refine yA ?_ (fun K hK=>?_));(focus go_simp;done);go_simp;refine hK _ _ ?_;clear hK K)|(go_simp;(try go_bits);(try first | ((with_reducible show CallS _ _ _ _ _ _);refine CallS.mono (clamped_e (Ints.ext HI.out (Ext.push _)) hn) ?_; rintro cv H1 ⟨ho, hx⟩; (have HO := Lib.hid ho); (have HX := Lib.hid ((Ext.push (.row [.slice oa x.open_.length oc, .int .i64 per] 79)).trans hx)); (have HG0 : Hid (H1.get H.n = .row [.slice oa x.open_.length oc, .int .i64 per] 79) := Lib.hid ((hx.get H.n (by rw [AHeap.n_push]; omega)).trans (by rw [AHeap.get_push_new]))); (have hn1 : H.n < H1.n := by have := hx.n; rw [AHeap.n_push] at this; omega); (have HCI : Hid (Ints H1 cv (clampL xs)) := Lib.hid (ints_of_own ho (by rw [clampL_length]; omega))); clear ho hx; (obtain ⟨-, ca, cc, rfl⟩ := HCI.out.slice); rw [clampL_length] at HCI HO ⊢));refine hK2 _ _ ?_;clear hK2 K2))
  have HB : Hid (∀ y, y ∈ clampL xs → -1 ≤ y ∧ y ≤ 731) := Lib.hid clampL_in
  have HCL := Lib.hid (clampL_length xs)
  generalize clampL xs = ys at HCI HO HB HE HCL
  have hg0 := HG0.out
  have hc2 : cellsAt H1 H.n 0 2 = some [Value.slice oa x.open_.length oc, .int .i64 per] := by simp [cellsAt, hg0]
  clear hg0
  refine CodeS.loop (fun m f H' => ∃ (k : Nat), k ≤ xs.length ∧ m = xs.length - k ∧ H' = H1 ∧ f.tmp 11 = .int .i64 k ∧ f.tmp 10 = .int .i64 xs.length ∧ f.tmp 9 = .slice ca xs.length cc ∧ f.tmp 1 = .slice ca xs.length cc ∧ f.tmp 2 = .pointer (some ⟨H.n, 0, none⟩) ∧ f.tmp 4 = .bool false ∧ f.defers = [] ∧ Hid (holdGo x p ys (xs.length - k) k = res)) xs.length ?_ ?_
  · exact ⟨0, by simp, by simp, rfl, (by first|go_simp<;>go_num|assumption), (by first|go_simp<;>go_num|assumption), (by first|go_simp<;>go_num|assumption), (by first|go_simp<;>go_num|assumption), (by first|go_simp<;>go_num|assumption), (by first|go_simp<;>go_num|assumption), (by first|go_simp<;>go_num|assumption), HE⟩
  clear f0 f1 hd f HE
  rintro m f H' ⟨k, hk2, rfl, rfl, f11, f10, f9, f1, f2, f4, hd, HG⟩
  by_cases hlt : k < xs.length
  · have hlt2 : k < ys.length := by rw [HCL.out]; exact hlt
    obtain ⟨b, o, sp, rfl, hb, hx⟩ := HCI.out.at_ hlt2
    have hgd : ys.getD k 0 = ys[k] := by simp [List.getD_eq_getElem?_getD, hlt2]
    have HLW := Lib.hid (fun (loops : List (Nat × LInfo)) => lowest_s (loops := loops) (k := k) (HV.out.ext HX.out) HCI.out (by omega) HP.out hp1 (fun j hj => by have hjl : j < ys.length := (by omega); rw [List.getD_eq_getElem?_getD, List.getElem?_eq_getElem hjl]; exact HB.out _ (List.getElem_mem hjl)))
    have HNX := Lib.hid (fun (loops : List (Nat × LInfo)) (d : Int) => next_s (loops := loops) (d := d) (HV.out.ext HX.out) (k := k) (by omega))
    have HST : Hid (holdGo x p ys (xs.length - k) k = if nextS (x.at_ k) (lowL p ys k) < ys[k] then false else holdGo x p ys (xs.length - (k + 1)) (k + 1)) := Lib.hid (by
      rw [show xs.length - k = (xs.length - (k + 1)) + 1 by omega, holdGo, hgd]; rfl)
    generalize lowL p ys k = lw at HLW HST
    generalize ys[k] = y at hx HST
    generalize hdd : nextS (x.at_ k) lw = d at HST
    have HDD : Hid (nextS (x.at_ k) lw = d) := Lib.hid hdd
    clear hdd hgd
    repeat' (first|(with_reducible first|refine zA ?_|refine zB fun K hK=>?_|refine zC fun K2 hK2=>?_|refine zD ?_|refine zE ?_|refine zF ?_|refine zG ?_|refine zH ?_|refine zI ?_|refine zM ?_|refine zN ?_|refine zO ?_|refine zP ?_|refine zQ ?_|refine zR ?_)|((with_reducible refine zU (hK _ _ ?_));clear hK K)|((with_reducible refine zV ?_ ?_ fun K1 K3 d hdst h1 h3=>?_);rfl;exact yB rfl;cases hdst;go_simp)|((with_reducible refine zW fun K1 K3 h1 h3=>?_);go_simp)|((first|refine h1 ?_|refine h3 ?_);clear h1 h3 K1 K3)|((first|refine zX (fun hb=>h1 ?_) (fun hb=>h3 ?_)|refine zX (fun hb=>h3 ?_) (fun hb=>h1 ?_))<;>(clear h1 h3 K1 K3;(try have hb2:=yC hb);(try have hb2:=yD hb);(try have hb2:=yE hb);(try have hb2:=yF hb);(try have hb2:=yG hb)))|(refine fun (K2:_→AHeap→Prop) hK2=>?_)|((with_reducible refine zY ?_ ?_);decide)|((with_reducible first|refine zZ ?_ (fun K hK=>?_)|refine yA ?_ (fun K hK=>?_));(focus go_simp;done);go_simp;refine hK _ _ ?_;clear hK K)|((with_reducible refine yH mixed rfl ?_ 20 fun K0 hK0=>?_);kernel_rfl)|(with_reducible first|exact yI|exact yJ|refine yK ?_|refine yL ?_|refine yM ?_)|((with_reducible first|refine yN ?_ ?_|refine yO ?_ ?_|refine yP ?_ ?_);rfl)|((with_reducible refine yQ ?_ ?_);rfl;refine hK0 _ _ ?_;clear hK0 K0)|((with_reducible refine yR ?_ ?_ ?_ ?_);rfl;rfl;rfl)|((with_reducible refine yS ?_ ?_ ?_ fun K2 hK2=>?_);rfl;rfl;exact yB rfl)|((with_reducible refine yT ?_ ?_ ?_ ?_ fun K1 K3 d hdst h1 h3=>?_);rfl;rfl;rfl;exact yB rfl;cases hdst;go_simp)|((with_reducible refine yU ?_ ?_ ?_ ?_ fun K1 K3 d hdst h1 h3=>?_);rfl;rfl;rfl;exact yB rfl;cases hdst;go_simp)|((with_reducible refine yV ?_ ?_ (fun K2 hK2=>?_) ?_);rfl;exact yB rfl)|((with_reducible refine yW ?_ ?_ ?_ ?_ (fun K2 hK2=>?_) ?_);rfl;exact yB rfl;rfl;(focus go_simp;done))|((with_reducible refine yX ?_ ?_ ?_ (fun K2 hK2=>?_) ?_);rfl;rfl;exact yB rfl)|((with_reducible refine yY ?_ ?_ (fun K2 hK2=>?_) ?_);rfl;rfl)|((with_reducible refine yZ ?_ ?_);(first|rfl|(dsimp only;decide +kernel)))|((with_reducible refine xA ?_ ?_);(focus go_simp;done))|(go_simp;(try go_bits);(try first |((with_reducible show CallS _ _ _ _ _ _);first|(refine CallS.mono (HLW.out _) ?_; rintro _ _ ⟨rfl, rfl⟩)|(refine CallS.mono (HNX.out _ lw) ?_; rintro _ _ ⟨rfl, rfl⟩; rw [HDD.out])));(first|(refine hK2 _ _ ?_ ?_<;>clear hK2 K2)|(refine hK2 _ _ ?_;clear hK2 K2))))
    · refine ⟨?_, HX.out⟩
      rw [← HG.out, HST.out, if_pos hb2]
    · refine Post.round_normal ⟨xs.length - (k + 1), by omega, k + 1, by omega, rfl, rfl, (by first|go_simp<;>go_num|assumption), (by first|go_simp<;>go_num|assumption), (by first|go_simp<;>go_num|assumption), (by first|go_simp<;>go_num|assumption), (by first|go_simp<;>go_num|assumption), (by first|go_simp<;>go_num|assumption), (by first|go_simp<;>go_num|assumption), Lib.hid ?_⟩
      rw [← HG.out, HST.out, if_neg (by omega)]
  · repeat' (first|(with_reducible first|refine zA ?_|refine zB fun K hK=>?_|refine zC fun K2 hK2=>?_|refine zD ?_|refine zE ?_|refine zF ?_|refine zG ?_|refine zH ?_|refine zI ?_|refine zM ?_|refine zN ?_|refine zO ?_|refine zP ?_|refine zQ ?_|refine zR ?_)|((with_reducible refine zU (hK _ _ ?_));clear hK K)|((with_reducible refine zV ?_ ?_ fun K1 K3 d hdst h1 h3=>?_);rfl;exact yB rfl;cases hdst;go_simp)|((with_reducible refine zW fun K1 K3 h1 h3=>?_);go_simp)|((first|refine h1 ?_|refine h3 ?_);clear h1 h3 K1 K3)|((first|refine zX (fun hb=>h1 ?_) (fun hb=>h3 ?_)|refine zX (fun hb=>h3 ?_) (fun hb=>h1 ?_))<;>(clear h1 h3 K1 K3;(try have hb2:=yC hb);(try have hb2:=yD hb);(try have hb2:=yE hb);(try have hb2:=yF hb);(try have hb2:=yG hb)))|(refine fun (K2:_→AHeap→Prop) hK2=>?_)|((with_reducible refine zY ?_ ?_);decide)|((with_reducible first|refine zZ ?_ (fun K hK=>?_)|refine yA ?_ (fun K hK=>?_));(focus go_simp;done);go_simp;refine hK _ _ ?_;clear hK K)|(go_simp;(try go_bits);refine hK2 _ _ ?_;clear hK2 K2))
    refine ⟨?_, HX.out⟩
    have hr : true = res := by rw [← HG.out, show xs.length - k = 0 by omega]; rfl
    rw [hr]
end Go.Proofs.Tryz
