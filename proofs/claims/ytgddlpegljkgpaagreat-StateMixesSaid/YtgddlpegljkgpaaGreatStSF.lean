/- Contracts of functions, walked. -/
import Derived.Test.YtgddlpegljkgpaaGreatStSN
import Derived.Test.YtgddlpegljkgpaaGreatAwB
set_option linter.all false
namespace Go.Proofs.Tryz
open Go Go.Am Go.RowKit Go.Co
set_option maxRecDepth 100000

def rowOf (s : Sheet) (c : Copy) (i : Nat) : List (Int × Int) := cutS c.beg c.fin (joinL (offS (strs s i) (c.words.getD i 0)))
def courseOf (s : Sheet) (c : Copy) : Course := ⟨(List.range c.words.length).map (rowOf s c), c.per⟩

def SpansIn (lo hi : Nat) (H : AHeap) (v : Value) (l : List (Int × Int)) : Prop := (spanCells l).length = l.length * 2 ∧ l.length ≤ 9223372036854775807 ∧ ∃ a c, v = .slice a l.length c ∧ (0 < l.length → ∃ b o sp, a = some ⟨b, o, sp⟩ ∧ lo ≤ b ∧ b < hi ∧ ∀ j u, (spanCells l)[j]? = some u → cellAt H b (o + j) = some u)
theorem SpansIn.spans {lo hi : Nat} {H : AHeap} {v : Value} {l : List (Int × Int)} (h : SpansIn lo hi H v l) (hh : hi ≤ H.n) : Spans H v l := by
  obtain ⟨h1, h2, a, c, h3, h4⟩ := h
  refine ⟨h1, h2, a, c, h3, fun hn => ?_⟩
  obtain ⟨b, o, sp, h5, h6, h7, h8⟩ := h4 hn
  exact ⟨b, o, sp, h5, by omega, h8⟩
theorem SpansIn.keep {lo hi lo' hi' : Nat} {H H' : AHeap} {v : Value} {l : List (Int × Int)} (h : SpansIn lo hi H v l) (hl : lo' ≤ lo) (hh : hi ≤ hi') (hk : ∀ i, lo ≤ i → i < hi → H'.get i = H.get i) : SpansIn lo' hi' H' v l := by
  obtain ⟨h1, h2, a, c, h3, h4⟩ := h
  refine ⟨h1, h2, a, c, h3, fun hn => ?_⟩
  obtain ⟨b, o, sp, h5, h6, h7, h8⟩ := h4 hn
  exact ⟨b, o, sp, h5, by omega, by omega, fun j u hu => by rw [cellAt_get (hk b h6 h7)]; exact h8 j u hu⟩
theorem SpansIn.of_own {base : Nat} {H : AHeap} {v : Value} {l : List (Int × Int)} (h : Own H base v 68 2 (spanCells l)) (hl : l.length ≤ 9223372036854775807) : SpansIn base H.n H v l := by
  have hlen := spanCells_length l
  rcases h with ⟨rfl, h2⟩ | ⟨b, n, rfl, h2, h3, h4, h5, h6⟩
  · have : l.length = 0 := by rw [h2] at hlen; simp at hlen; omega
    exact ⟨hlen, hl, none, 0, by rw [this], by omega⟩
  · have hn : n = l.length := by omega
    subst hn
    refine ⟨hlen, hl, _, _, rfl, fun _ => ⟨b, 0, none, rfl, h2, h3, fun j u hu => ?_⟩⟩
    simp only [cellAt, h4, Nat.zero_add]; exact hu
theorem SpansIn.slice {lo hi : Nat} {H : AHeap} {v : Value} {l : List (Int × Int)} (h : SpansIn lo hi H v l) : ∃ a c, v = .slice a l.length c := by
  obtain ⟨h1, h2, a, c, h3, h4⟩ := h
  exact ⟨a, c, h3⟩

def RowsTo (lo hi : Nat) (H : AHeap) (vs : List Value) (L : List (List (Int × Int))) : Prop := vs.length = L.length ∧ ∀ (i : Nat) (h : i < L.length), ∃ u, vs[i]? = some u ∧ SpansIn lo hi H u L[i]
theorem RowsTo.snoc {lo hi : Nat} {H : AHeap} {vs : List Value} {L : List (List (Int × Int))} {u : Value} {l : List (Int × Int)} (h : RowsTo lo hi H vs L) (hu : SpansIn lo hi H u l) : RowsTo lo hi H (vs ++ [u]) (L ++ [l]) := by
  refine ⟨by simp [h.1], fun i hi => ?_⟩
  rcases Nat.lt_or_ge i L.length with hlt | hge
  · obtain ⟨w, h1, h2⟩ := h.2 i hlt
    exact ⟨w, by rw [List.getElem?_append_left (by rw [h.1]; exact hlt)]; exact h1, by rw [List.getElem_append_left hlt]; exact h2⟩
  · have : i = L.length := by simp at hi; omega
    subst this
    refine ⟨u, by rw [← h.1]; simp, ?_⟩
    rw [List.getElem_append_right (Nat.le_refl _)]
    simpa using hu
theorem RowsTo.keep {lo hi lo' hi' : Nat} {H H' : AHeap} {vs : List Value} {L : List (List (Int × Int))} (h : RowsTo lo hi H vs L) (hl : lo' ≤ lo) (hh : hi ≤ hi') (hk : ∀ i, lo ≤ i → i < hi → H'.get i = H.get i) : RowsTo lo' hi' H' vs L :=
  ⟨h.1, fun i hi => by obtain ⟨w, h1, h2⟩ := h.2 i hi; exact ⟨w, h1, h2.keep hl hh hk⟩⟩
theorem RowsTo.one {lo hi : Nat} {H : AHeap} {vs : List Value} {L : List (List (Int × Int))} (h : RowsTo lo hi H vs L) : vs.all oneV = true := by
  rw [List.all_eq_true]
  intro v hv
  obtain ⟨i, hi, rfl⟩ := List.mem_iff_getElem.1 hv
  obtain ⟨u, h1, h2⟩ := h.2 i (by rw [← h.1]; exact hi)
  rw [List.getElem?_eq_getElem hi] at h1
  cases h1
  obtain ⟨a, c, h3⟩ := h2.slice
  rw [h3]; rfl
theorem RowsTo.rows {lo hi : Nat} {H : AHeap} {base : Nat} {v : Value} {vs : List Value} {L : List (List (Int × Int))} (h : RowsTo lo hi H vs L) (ho : Own H base v 64 1 vs) (hh : hi ≤ H.n) (hl : L.length ≤ 9223372036854775807) : Rows H v L := by
  refine ⟨vs, ?_, fun i hi => by obtain ⟨w, h1, h2⟩ := h.2 i hi; exact ⟨w, h1, h2.spans hh⟩⟩
  rcases ho with ⟨rfl, h2⟩ | ⟨b, n, rfl, h2, h3, h4, h5, h6⟩
  · have h7 := h.1
    rw [h2] at h7
    have h8 : L.length = 0 := by simpa using h7.symm
    exact ⟨by rw [h2, h8]; rfl, hl, none, 0, by rw [h8], by omega⟩
  · have hn : n = L.length := by rw [← h.1]; omega
    subst hn
    refine ⟨by rw [h.1]; omega, hl, _, _, rfl, fun _ => ⟨b, 0, none, rfl, h3, fun j u hu => ?_⟩⟩
    simp only [cellAt, h4, Nat.zero_add]; exact hu

theorem get_at {H : AHeap} {b : Nat} {o : AObj} (h : b = H.n) : (H.push o).get b = o := by rw [h, AHeap.get_push_new]
theorem rowOf_len {s : Sheet} {c : Copy} {i : Nat} (h : (strs s i).length ≤ 1000) : (rowOf s c i).length ≤ 1000 := by
  unfold rowOf
  have h1 := cutS_le c.beg c.fin (joinL (offS (strs s i) (c.words.getD i 0)))
  have h2 := joinL_le (offS (strs s i) (c.words.getD i 0))
  have h3 := offS_le (strs s i) (c.words.getD i 0)
  omega

theorem courseOf_len (s : Sheet) (c : Copy) : (courseOf s c).open_.length = c.words.length := by simp [courseOf]
set_option maxHeartbeats 4000000 in
def CourseFrom (b : Nat) (H : AHeap) (v : Value) (x : Course) : Prop := ∀ G : AHeap, H.n ≤ G.n → (∀ i, b ≤ i → i < H.n → G.get i = H.get i) → CourseV G v x
theorem CourseFrom.v {b : Nat} {H : AHeap} {v : Value} {x : Course} (h : CourseFrom b H v x) : CourseV H v x := h H (Nat.le_refl _) fun _ _ _ => rfl
theorem courseOf_f {loops : List (Nat × LInfo)} {H : AHeap} {sv cv : Value} {s : Sheet} {c : Copy} (hs : SheetV H sv s) (hc : CopyV H cv c) (he : errCopy s c = 0) : CallS Tryz.prog loops 43 [sv, cv] H fun r H' => CourseFrom H.n H' r (courseOf s c) ∧ Ext H H' := by
  have HV := Lib.hid hs
  obtain ⟨wv, av, rfl, hw, ha⟩ := hs
  obtain ⟨hwl, wa, wc, rfl⟩ := hw.slice
  obtain ⟨hal, aa, ac, rfl⟩ := ha.slice
  obtain ⟨cv, rfl, hcw⟩ := hc
  obtain ⟨hcl, ca, cc, rfl⟩ := hcw.slice
  have HCW := Lib.hid hcw
  clear hw ha hcw
  obtain ⟨he0, hlen, hwo, -⟩ := errCopy_ok he
  have hso := (err_ok he0).1
  have hal4 := (err_ok he0).2.2.2
  have hwn : s.words.length ≤ 40 := by have := (win_iff.1 (err_ok he0).2.1).2; omega
  have HLEN := Lib.hid hlen
  have HSO := Lib.hid hso
  have hsl : ∀ i : Int, (strs s i).length ≤ 1000 := fun i => by have := go_le i s.alts 0 ⟨s.words[i.toNat]!, 0, false⟩; unfold strs; omega
  have HSL := Lib.hid hsl
  have hcn : c.words.length ≤ 40 := by omega
  clear he he0 hlen hso hsl
  refine CallS.enter' Tryz.func43 rfl Tryz.ntmps43 (by simp) fun f hd hf => ?_
  have f0 := hf 0
  have f1 := hf 1
  simp at f0 f1
  clear hf
  repeat' (first|(with_reducible first|refine zA ?_|refine zB fun K hK=>?_|refine zC fun K2 hK2=>?_|refine zD ?_|refine zE ?_|refine zF ?_|refine zG ?_|refine zH ?_|refine zI ?_|refine zM ?_|refine zN ?_|refine zO ?_|refine zP ?_|refine zQ ?_|refine zR ?_)|((with_reducible refine zU (hK _ _ ?_));clear hK K)|((with_reducible refine zV ?_ ?_ fun K1 K3 d hdst h1 h3=>?_);rfl;exact yB rfl;cases hdst;go_simp)|((with_reducible refine zW fun K1 K3 h1 h3=>?_);go_simp)|((first|refine h1 ?_|refine h3 ?_);clear h1 h3 K1 K3)|((first|refine zX (fun hb=>h1 ?_) (fun hb=>h3 ?_)|refine zX (fun hb=>h3 ?_) (fun hb=>h1 ?_))<;>(clear h1 h3 K1 K3;(try have hb2:=yC hb);(try have hb2:=yD hb);(try have hb2:=yE hb);(try have hb2:=yF hb);(try have hb2:=yG hb)))|(refine fun (K2:_→AHeap→Prop) hK2=>?_)|((with_reducible refine zY ?_ ?_);decide)|((with_reducible first|refine zZ ?_ (fun K hK=>?_)|refine yA ?_ (fun K hK=>?_));(focus go_simp;done);go_simp;refine hK _ _ ?_;clear hK K)|(go_simp;(try go_bits);refine hK2 _ _ ?_;clear hK2 K2))
  refine CodeS.loop (fun m f H' => ∃ (k : Nat) (v : Value) (vs : List Value) (q : Nat), k ≤ c.words.length ∧ m = c.words.length - k ∧ f.tmp 15 = .int .i64 k ∧ f.tmp 14 = .int .i64 c.words.length ∧ f.tmp 13 = .slice ca c.words.length cc ∧ f.tmp 2 = .pointer (some ⟨H.n, 0, none⟩) ∧ f.tmp 3 = .pointer (some ⟨H.n + 1, 0, none⟩) ∧ f.tmp 4 = .pointer (some ⟨H.n + 2, 0, none⟩) ∧ f.tmp 5 = .pointer (some ⟨H.n + 3, 0, none⟩) ∧ f.defers = [] ∧ H.n + 4 ≤ q ∧ q ≤ H'.n ∧ Hid (Ext H H') ∧ Hid (H'.get H.n = .row [Value.slice wa s.words.length wc, Value.slice aa s.alts.length ac] 25) ∧ Hid (H'.get (H.n + 1) = .row [Value.slice ca c.words.length cc, .int .i64 c.beg, .int .i64 c.fin, .int .i64 c.per] 27) ∧ Hid (H'.get (H.n + 2) = .row [Value.slice none 0 0, .int .i64 0] 79) ∧ Hid (H'.get (H.n + 3) = .row [v, .int .i64 c.per] 79) ∧ Hid (Own H' q v 64 1 vs) ∧ Hid (RowsTo (H.n + 4) q H' vs ((List.range k).map (rowOf s c)))) c.words.length ?_ ?_
  · refine ⟨0, .slice none 0 0, [], H.n + 4, by simp, by simp, (by first|go_simp<;>go_num|assumption), (by first|go_simp<;>go_num|assumption), (by first|go_simp<;>go_num|assumption), (by first|go_simp<;>go_num|assumption), (by first|go_simp<;>go_num|assumption), (by first|go_simp<;>go_num|assumption), (by first|go_simp<;>go_num|assumption), (by first|go_simp<;>go_num|assumption), Nat.le_refl _, by simp only [AHeap.n_push]; omega, Lib.hid ((((Ext.refl _).push' _).push' _).push' _ |>.push' _), Lib.hid ?_, Lib.hid ?_, Lib.hid ?_, Lib.hid ?_, Lib.hid Own.nil, Lib.hid ⟨rfl, fun i h => by simp at h⟩⟩
    · rw [AHeap.get_push_old (by simp only [AHeap.n_push]; omega), AHeap.get_push_old (by simp only [AHeap.n_push]; omega), AHeap.get_push_old (by simp only [AHeap.n_push]; omega), get_at rfl]
    · rw [AHeap.get_push_old (by simp only [AHeap.n_push]; omega), AHeap.get_push_old (by simp only [AHeap.n_push]; omega), get_at (by simp only [AHeap.n_push])]
    · rw [AHeap.get_push_old (by simp only [AHeap.n_push]; omega), get_at (by simp only [AHeap.n_push])]
    · rw [get_at (by simp only [AHeap.n_push])]
  clear f0 f1 hd f
  rintro m f H' ⟨k, v, vs, q, hk, rfl, f15, f14, f13, f2, f3, f4, f5, hd, hq0, hq1, HX, HG0, HG1, HG2, HG3, HO, HR⟩
  have hcs : ∀ H2, Ext H' H2 → cellsAt H2 H.n 0 2 = some [Value.slice wa s.words.length wc, Value.slice aa s.alts.length ac] ∧ cellAt H2 (H.n + 1) 1 = some (.int .i64 c.beg) ∧ cellAt H2 (H.n + 1) 2 = some (.int .i64 c.fin) ∧ cellAt H2 (H.n + 3) 0 = some v ∧ H.n < H2.n ∧ H.n + 1 < H2.n ∧ H.n + 3 < H2.n := by
    intro H2 hx
    have hn := hx.n
    exact ⟨by simp [cellsAt, hx.get H.n (by omega), HG0.out], by simp [cellAt, hx.get (H.n + 1) (by omega), HG1.out], by simp [cellAt, hx.get (H.n + 1) (by omega), HG1.out], by simp [cellAt, hx.get (H.n + 3) (by omega), HG3.out], by omega, by omega, by omega⟩
  have HCS := Lib.hid hcs
  clear hcs
  by_cases hlt : k < c.words.length
  · obtain ⟨b, o, sp, rfl, hb, hx1⟩ := (HCW.out.ext HX.out).at_ hlt
    have hro : Hid (rowOf s c k = cutS c.beg c.fin (joinL (offS (strs s k) (c.words[k])))) := Lib.hid (by simp [rowOf, hlt])
    have HRL := Lib.hid (rowOf_len (c := c) (HSL.out k))
    generalize c.words[k] = w at hx1 hro
    obtain ⟨r1, r2, r3, r4, r5, r6, r7⟩ := HCS.out H' (Ext.refl _)
    obtain ⟨va, vn, rfl⟩ := own_slice HO.out
    have hvl : Hid (vs.length = k) := Lib.hid (by rw [HR.out.1]; simp)
    have hjl : Hid ((joinL (offS (strs s k) w)).length ≤ 1000) := Lib.hid (by
      have h2 := joinL_le (offS (strs s k) w)
      have h3 := offS_le (strs s k) w
      have h4 := HSL.out k
      omega)
    have hbig : (vs.length + 1) * max 24 1 ≤ 1073741824 := by have := hvl.out; simp; omega
    have HBIG := Lib.hid hbig
    have HONE : Hid (vs.all oneV = true) := Lib.hid HR.out.one
    clear hbig
    repeat' (first|(with_reducible first|refine zA ?_|refine zB fun K hK=>?_|refine zC fun K2 hK2=>?_|refine zD ?_|refine zE ?_|refine zF ?_|refine zG ?_|refine zH ?_|refine zI ?_|refine zM ?_|refine zN ?_|refine zO ?_|refine zP ?_|refine zQ ?_|refine zR ?_)|((with_reducible refine zU (hK _ _ ?_));clear hK K)|((with_reducible refine zV ?_ ?_ fun K1 K3 d hdst h1 h3=>?_);rfl;exact yB rfl;cases hdst;go_simp)|((with_reducible refine zW fun K1 K3 h1 h3=>?_);go_simp)|((first|refine h1 ?_|refine h3 ?_);clear h1 h3 K1 K3)|((first|refine zX (fun hb=>h1 ?_) (fun hb=>h3 ?_)|refine zX (fun hb=>h3 ?_) (fun hb=>h1 ?_))<;>(clear h1 h3 K1 K3;(try have hb2:=yC hb);(try have hb2:=yD hb);(try have hb2:=yE hb);(try have hb2:=yF hb);(try have hb2:=yG hb)))|(refine fun (K2:_→AHeap→Prop) hK2=>?_)|((with_reducible refine zY ?_ ?_);decide)|((with_reducible first|refine zZ ?_ (fun K hK=>?_)|refine yA ?_ (fun K hK=>?_));(focus go_simp;done);go_simp;refine hK _ _ ?_;clear hK K)|((with_reducible refine yH mixed rfl ?_ 20 fun K0 hK0=>?_);kernel_rfl)|(with_reducible first|exact yI|exact yJ|refine yK ?_|refine yL ?_|refine yM ?_)|((with_reducible first|refine yN ?_ ?_|refine yO ?_ ?_|refine yP ?_ ?_);rfl)|((with_reducible refine yQ ?_ ?_);rfl;refine hK0 _ _ ?_;clear hK0 K0)|((with_reducible refine yR ?_ ?_ ?_ ?_);rfl;rfl;rfl)|((with_reducible refine yS ?_ ?_ ?_ fun K2 hK2=>?_);rfl;rfl;exact yB rfl)|((with_reducible refine yT ?_ ?_ ?_ ?_ fun K1 K3 d hdst h1 h3=>?_);rfl;rfl;rfl;exact yB rfl;cases hdst;go_simp)|((with_reducible refine yU ?_ ?_ ?_ ?_ fun K1 K3 d hdst h1 h3=>?_);rfl;rfl;rfl;exact yB rfl;cases hdst;go_simp)|((with_reducible refine yV ?_ ?_ (fun K2 hK2=>?_) ?_);rfl;exact yB rfl)|((with_reducible refine yW ?_ ?_ ?_ ?_ (fun K2 hK2=>?_) ?_);rfl;exact yB rfl;rfl;(focus go_simp;done))|((with_reducible refine yX ?_ ?_ ?_ (fun K2 hK2=>?_) ?_);rfl;rfl;exact yB rfl)|((with_reducible refine yY ?_ ?_ (fun K2 hK2=>?_) ?_);rfl;rfl)|((with_reducible refine yZ ?_ ?_);(first|rfl|(dsimp only;decide +kernel)))|((with_reducible refine xA ?_ ?_);(focus go_simp;done))|(go_simp;(try go_bits);(try first |((with_reducible show CallS _ _ _ _ _ _);first|(refine CallS.mono (copyable_e (s := s) (word := w) (HV.out.ext HX.out) (Ext.refl _)) ?_; rintro qv H2 ⟨hq, hx⟩; (have HQ := Lib.hid hq); (have HX2 := Lib.hid hx); clear hq hx)|(refine CallS.mono (joined_e (HQ.out.gives (by omega) (by have := HLEN.out; omega) HSO.out) (HSL.out _)) ?_; rintro jv H3 ⟨ho, hx⟩; (have HJ := Lib.hid (spans_of_own ho (by have := hjl.out; omega))); (have HX3 := Lib.hid (HX2.out.trans hx)); (obtain ⟨-, ja, jc, hjv⟩ := HJ.out.slice); subst hjv; (obtain ⟨s1, s2, s3, s4, s5, s6, s7⟩ := HCS.out _ (HX2.out.trans hx)); clear ho hx)|(refine CallS.mono (cut_e HJ.out hjl.out) ?_; rintro uv H4 ⟨ho, hx⟩; (have HU := Lib.hid ho); (have HX4 := Lib.hid (HX3.out.trans hx)); (have HY4 := Lib.hid hx); (obtain ⟨ua, un, huv⟩ := own_slice ho); subst huv; (obtain ⟨t1, t2, t3, t4, t5, t6, t7⟩ := HCS.out _ (HX3.out.trans hx)); clear ho hx))|((refine one_v el77 sz64 ze64 rfl (by decide) (by decide) rfl rfl ?_); go_simp)|((refine append_v el77 sz64 by64 ze64 rfl (by decide) ((HO.out.ext HX4.out).ext (Ext.push _)) (srcCells_new rfl) (by decide) rfl (by rw [List.all_append, HONE.out]; rfl) HBIG.out (by simp only [AHeap.n_push]; have := HX4.out.n; omega) fun v2 H5 ho5 hg5 => ?_); (obtain ⟨va2, vn2, rfl⟩ := own_slice ho5); (have HO5 := Lib.hid ho5); (have HG5 := Lib.hid hg5); (have hget5 : ∀ i, i < H.n + 4 → H5.get i = H'.get i := fun i hi => (hg5.2 i (by simp only [AHeap.n_push]; omega) (fun b n hv hn => by have := (own_block HO.out hv hn).1; omega)).trans ((AHeap.get_push_old (by omega)).trans (HX4.out.get i (by omega)))); (have HGET := Lib.hid hget5); (have hg53 : H5.get (H.n + 3) = .row [Value.slice va vn vn, .int .i64 c.per] 79 := (hget5 _ (by omega)).trans HG3.out); (have u1 : cellAt H5 (H.n + 1) 1 = some (.int .i64 c.beg) := by simp [cellAt, hget5 (H.n + 1) (by omega), HG1.out]); (have u2 : cellAt H5 (H.n + 1) 2 = some (.int .i64 c.fin) := by simp [cellAt, hget5 (H.n + 1) (by omega), HG1.out]); (have u3 : cellAt H5 (H.n + 3) 0 = some (Value.slice va vn vn) := by simp [cellAt, hg53]); (have hn5 : H4.n < H5.n := by have := hg5.1; simp only [AHeap.n_push] at this; omega); (have hx5 : Ext H H5 := ⟨by have := HX.out.n; have := HX4.out.n; omega, fun i hi => (hget5 i (by omega)).trans (HX.out.get i hi)⟩); (have HX5 := Lib.hid hx5); clear ho5 hg5 hget5 hx5; go_simp));(first|(refine hK2 _ _ ?_ ?_<;>clear hK2 K2)|(refine hK2 _ _ ?_;clear hK2 K2))))
    have hq9 : H'.n ≤ H4.n := HX4.out.n
    have hk6 : ∀ i, i ≠ H.n + 3 → i < H5.n → (H5.upd (H.n + 3) (.row [Value.slice va2 vn2 vn2, .int .i64 c.per] 79)).get i = H5.get i := fun i hi _ => AHeap.get_upd_ne hi
    refine Post.round_normal ⟨c.words.length - (k + 1), by omega, k + 1, .slice va2 vn2 vn2, vs ++ [.slice ua un un], H4.n, by omega, rfl, (by first|go_simp<;>go_num|assumption), (by first|go_simp<;>go_num|assumption), (by first|go_simp<;>go_num|assumption), (by first|go_simp<;>go_num|assumption), (by first|go_simp<;>go_num|assumption), (by first|go_simp<;>go_num|assumption), (by first|go_simp<;>go_num|assumption), (by first|go_simp<;>go_num|assumption), by omega, by rw [AHeap.n_upd]; omega, Lib.hid (HX5.out.upd (by omega) _), Lib.hid ?_, Lib.hid ?_, Lib.hid ?_, Lib.hid AHeap.get_upd_same, Lib.hid ?_, Lib.hid ?_⟩
    · rw [AHeap.get_upd_ne (by omega), HGET.out _ (by omega)]; exact HG0.out
    · rw [AHeap.get_upd_ne (by omega), HGET.out _ (by omega)]; exact HG1.out
    · rw [AHeap.get_upd_ne (by omega), HGET.out _ (by omega)]; exact HG2.out
    · exact own_upd (HO5.out.mono (by rw [AHeap.n_push]; omega)) (by omega)
    · have hkeep : ∀ i, H.n + 4 ≤ i → i < H4.n → (∀ b n, Value.slice va vn vn = .slice (some ⟨b, 0, none⟩) n n → 0 < n → i ≠ b) → (H5.upd (H.n + 3) (.row [Value.slice va2 vn2 vn2, .int .i64 c.per] 79)).get i = H4.get i := fun i h1 h2 h3 => by
        rw [AHeap.get_upd_ne (by omega), HG5.out.2 i (by rw [AHeap.n_push]; omega) h3, AHeap.get_push_old h2]
      rw [List.range_succ, List.map_append]
      refine RowsTo.snoc (HR.out.keep (Nat.le_refl _) (by omega) fun i h1 h2 => ?_) ?_
      · rw [hkeep i h1 (by omega) (fun b n hv hn => by have := (own_block HO.out hv hn).1; omega)]
        exact HX4.out.get i (by omega)
      · rw [hro.out]
        refine (SpansIn.of_own HU.out (by have h1 := cutS_le c.beg c.fin (joinL (offS (strs s k) w)); have := hjl.out; omega)).keep (by have h1 := HX3.out.n; omega) (Nat.le_refl _) fun i h1 h2 => ?_
        exact hkeep i (by have := HX3.out.n; omega) h2 (fun b n hv hn => by have := (own_block HO.out hv hn).2.1; have := HX3.out.n; omega)
  · have hg2 := HG2.out
    have hg3 := HG3.out
    have hcc : cellsAt H' (H.n + 3) 0 2 = some [v, .int .i64 c.per] := by simp [cellsAt, hg3]
    obtain ⟨r1, r2, r3, r4, r5, r6, r7⟩ := HCS.out H' (Ext.refl _)
    have r8 : H.n + 2 < H'.n := by omega
    obtain ⟨va, vn, rfl⟩ := own_slice HO.out
    clear hg3 HCS
    repeat' (first|(with_reducible first|refine zA ?_|refine zB fun K hK=>?_|refine zC fun K2 hK2=>?_|refine zD ?_|refine zE ?_|refine zF ?_|refine zG ?_|refine zH ?_|refine zI ?_|refine zM ?_|refine zN ?_|refine zO ?_|refine zP ?_|refine zQ ?_|refine zR ?_)|((with_reducible refine zU (hK _ _ ?_));clear hK K)|((with_reducible refine zV ?_ ?_ fun K1 K3 d hdst h1 h3=>?_);rfl;exact yB rfl;cases hdst;go_simp)|((with_reducible refine zW fun K1 K3 h1 h3=>?_);go_simp)|((first|refine h1 ?_|refine h3 ?_);clear h1 h3 K1 K3)|((first|refine zX (fun hb=>h1 ?_) (fun hb=>h3 ?_)|refine zX (fun hb=>h3 ?_) (fun hb=>h1 ?_))<;>(clear h1 h3 K1 K3;(try have hb2:=yC hb);(try have hb2:=yD hb);(try have hb2:=yE hb);(try have hb2:=yF hb);(try have hb2:=yG hb)))|(refine fun (K2:_→AHeap→Prop) hK2=>?_)|((with_reducible refine zY ?_ ?_);decide)|((with_reducible first|refine zZ ?_ (fun K hK=>?_)|refine yA ?_ (fun K hK=>?_));(focus go_simp;done);go_simp;refine hK _ _ ?_;clear hK K)|(go_simp;(try go_bits);refine hK2 _ _ ?_;clear hK2 K2))
    have hkc : k = c.words.length := by omega
    subst hkc
    refine ⟨fun G hn hg => ⟨_, rfl, ?_⟩, HX.out.upd (by omega) _⟩
    rw [AHeap.n_upd] at hn hg
    refine RowsTo.rows (hi := q) (HR.out.keep (Nat.le_refl _) (Nat.le_refl _) fun i h1 h2 => (hg i (by omega) (by omega)).trans (AHeap.get_upd_ne (by omega))) (own_at (own_upd HO.out (by omega)) (by rw [AHeap.n_upd]; exact hn) fun i n hv hnn => hg i (by have := (own_block HO.out hv hnn).1; omega) (own_block HO.out hv hnn).2.1) (by omega) (by rw [courseOf_len]; exact hcl)
theorem courseOf_at (s : Sheet) (c : Copy) {i : Nat} (h : i < c.words.length) : (courseOf s c).at_ i = rowOf s c i := by simp [courseOf, Course.at_, h]
theorem courseOf_ord {s : Sheet} {c : Copy} (h : errCopy s c = 0) : (courseOf s c).ord := by
  intro i
  have hs := (err_ok (errCopy_ok h).1).1
  by_cases hi : i < c.words.length
  · rw [courseOf_at s c hi]
    exact ordS_mono _ (by omega) (cutS_ord c.beg c.fin _ (whenS_ord hs))
  · have : (courseOf s c).at_ i = [] := by simp [courseOf, Course.at_, hi]
    rw [this]; trivial
theorem courseOf_ins {s : Sheet} {c : Copy} (h : errCopy s c = 0) {i : Nat} (hi : i < c.words.length) (d : Int) : ins ((courseOf s c).at_ i) d = ((decide (c.beg ≤ d) && decide (d ≤ c.fin)) && (hasOn s i d).offers (c.words.getD i 0)) := by
  obtain ⟨h0, h1, h2, h3, h4, h5, h6, h7⟩ := errCopy_ok h
  have hs := (err_ok h0).1
  rw [courseOf_at s c hi, rowOf, cutS_ins, whenS_ins hs, Bool.eq_iff_iff]
  simp only [Bool.and_eq_true, decide_eq_true_eq]
  constructor
  · rintro ⟨⟨a, b, e⟩, g⟩; exact ⟨g, e⟩
  · rintro ⟨g, e⟩; exact ⟨⟨by omega, by omega, e⟩, g⟩
end Go.Proofs.Tryz
namespace Go.Proofs.Tryz
open Go Go.Am Go.RowKit Go.Co
set_option maxRecDepth 100000

end Go.Proofs.Tryz
namespace Go.Proofs.Tryz
open Go Go.Am Go.RowKit
set_option maxRecDepth 100000


theorem in_s {loops : List (Nat × LInfo)} {H : AHeap} {n lo hi : Int} : CallS Tryz.prog loops 47 [.int .i64 n, .int .i64 lo, .int .i64 hi] H fun v H' => v = .bool (win lo hi n) ∧ H' = H := by
  refine CallS.enter' Tryz.func47 rfl Tryz.ntmps47 (by simp) fun f hd hf => ?_
  have f0 := hf 0
  have f1 := hf 1
  have f2 := hf 2
  simp at f0 f1 f2
  clear hf
  unfold win
  repeat' (first|(with_reducible first|refine zA ?_|refine zB fun K hK=>?_|refine zC fun K2 hK2=>?_|refine zD ?_|refine zE ?_|refine zF ?_|refine zG ?_|refine zH ?_|refine zI ?_|refine zM ?_|refine zN ?_|refine zO ?_|refine zP ?_|refine zQ ?_|refine zR ?_)|((with_reducible refine zU (hK _ _ ?_));clear hK K)|((with_reducible refine zV ?_ ?_ fun K1 K3 d hdst h1 h3=>?_);rfl;exact yB rfl;cases hdst;go_simp)|((with_reducible refine zW fun K1 K3 h1 h3=>?_);go_simp)|((first|refine h1 ?_|refine h3 ?_);clear h1 h3 K1 K3)|((first|refine zX (fun hb=>h1 ?_) (fun hb=>h3 ?_)|refine zX (fun hb=>h3 ?_) (fun hb=>h1 ?_))<;>(clear h1 h3 K1 K3;(try have hb2:=yC hb);(try have hb2:=yD hb);(try have hb2:=yE hb);(try have hb2:=yF hb);(try have hb2:=yG hb)))|(refine fun (K2:_→AHeap→Prop) hK2=>?_)|((with_reducible refine zY ?_ ?_);decide)|((with_reducible first|refine zZ ?_ (fun K hK=>?_)|refine yA ?_ (fun K hK=>?_));(focus go_simp;done);go_simp;refine hK _ _ ?_;clear hK K)|(go_simp;(try go_bits);refine hK2 _ _ ?_;clear hK2 K2))
  all_goals (refine ⟨?_, rfl⟩; simp [*])
theorem day_s {loops : List (Nat × LInfo)} {H : AHeap} {n : Int} : CallS Tryz.prog loops 117 [.int .i64 n] H fun v H' => v = .bool (win 0 730 n) ∧ H' = H := by
  refine CallS.enter' Tryz.func117 rfl Tryz.ntmps117 (by simp) fun f hd hf => ?_
  have f0 := hf 0
  simp at f0
  clear hf
  repeat' (first|(with_reducible first|refine zA ?_|refine zB fun K hK=>?_|refine zC fun K2 hK2=>?_|refine zD ?_|refine zE ?_|refine zF ?_|refine zG ?_|refine zH ?_|refine zI ?_|refine zM ?_|refine zN ?_|refine zO ?_|refine zP ?_|refine zQ ?_|refine zR ?_)|((with_reducible refine zU (hK _ _ ?_));clear hK K)|((with_reducible refine zV ?_ ?_ fun K1 K3 d hdst h1 h3=>?_);rfl;exact yB rfl;cases hdst;go_simp)|((with_reducible refine zW fun K1 K3 h1 h3=>?_);go_simp)|((first|refine h1 ?_|refine h3 ?_);clear h1 h3 K1 K3)|((first|refine zX (fun hb=>h1 ?_) (fun hb=>h3 ?_)|refine zX (fun hb=>h3 ?_) (fun hb=>h1 ?_))<;>(clear h1 h3 K1 K3;(try have hb2:=yC hb);(try have hb2:=yD hb);(try have hb2:=yE hb);(try have hb2:=yF hb);(try have hb2:=yG hb)))|(refine fun (K2:_→AHeap→Prop) hK2=>?_)|((with_reducible refine zY ?_ ?_);decide)|((with_reducible first|refine zZ ?_ (fun K hK=>?_)|refine yA ?_ (fun K hK=>?_));(focus go_simp;done);go_simp;refine hK _ _ ?_;clear hK K)|(go_simp;(try go_bits);(try first | ((with_reducible show CallS _ _ _ _ _ _);refine CallS.mono in_s ?_; rintro _ _ ⟨rfl, rfl⟩));refine hK2 _ _ ?_;clear hK2 K2))
  exact ⟨rfl, rfl⟩

def refR (a : Alt) (n : Int) : Bool := win 1 1099511627776 a.id && (win 0 730 a.day && (win 0 (n - 1) a.frm && (win a.frm (n - 1) a.to && a.suits)))
theorem refR_eq (a : Alt) (n : Int) : a.right n = refR a n := by
  have h : (win 0 a.to a.frm && win 0 (n - 1) a.to) = (win 0 (n - 1) a.frm && win a.frm (n - 1) a.to) := by
    rw [Bool.eq_iff_iff]; simp only [Bool.and_eq_true, win_iff]; omega
  unfold Alt.right refR
  rw [← Bool.and_assoc (win 0 a.to a.frm), h, Bool.and_assoc]

theorem refRight_s {loops : List (Nat × LInfo)} {H : AHeap} {sv : Value} {s : Sheet} {a : Alt} (hv : SheetV H sv s) : CallS Tryz.prog loops 116 [sv, a.val] H fun v H' => v = .bool (a.right s.words.length) ∧ H' = H := by
  refine CallS.forget (R := fun v => v = .bool (a.right s.words.length)) (by rintro v rfl; rfl) ?_
  obtain ⟨wv, av, rfl, hw, ha⟩ := hv
  obtain ⟨hwl, wa, wc, rfl⟩ := hw.slice
  obtain ⟨hal, aa, ac, rfl⟩ := ha.slice
  clear hw ha
  rw [refR_eq]
  generalize he : refR a s.words.length = er
  have HE := Lib.hid he
  clear he
  obtain ⟨i, kd, dy, fr, to, wd⟩ := a
  refine CallS.enter' Tryz.func116 rfl Tryz.ntmps116 (by simp) fun f hd hf => ?_
  have f0 := hf 0
  have f1 := hf 1
  simp [Alt.val] at f0 f1
  clear hf
  repeat' (first|(with_reducible first|refine zA ?_|refine zB fun K hK=>?_|refine zC fun K2 hK2=>?_|refine zD ?_|refine zE ?_|refine zF ?_|refine zG ?_|refine zH ?_|refine zI ?_|refine zM ?_|refine zN ?_|refine zO ?_|refine zP ?_|refine zQ ?_|refine zR ?_)|((with_reducible refine zU (hK _ _ ?_));clear hK K)|((with_reducible refine zV ?_ ?_ fun K1 K3 d hdst h1 h3=>?_);rfl;exact yB rfl;cases hdst;go_simp)|((with_reducible refine zW fun K1 K3 h1 h3=>?_);go_simp)|((first|refine h1 ?_|refine h3 ?_);clear h1 h3 K1 K3)|((first|refine zX (fun hb=>h1 ?_) (fun hb=>h3 ?_)|refine zX (fun hb=>h3 ?_) (fun hb=>h1 ?_))<;>(clear h1 h3 K1 K3;(try have hb2:=yC hb);(try have hb2:=yD hb);(try have hb2:=yE hb);(try have hb2:=yF hb);(try have hb2:=yG hb)))|(refine fun (K2:_→AHeap→Prop) hK2=>?_)|((with_reducible refine zY ?_ ?_);decide)|((with_reducible first|refine zZ ?_ (fun K hK=>?_)|refine yA ?_ (fun K hK=>?_));(focus go_simp;done);go_simp;refine hK _ _ ?_;clear hK K)|(go_simp;(try go_bits);(try first |((with_reducible show CallS _ _ _ _ _ _);first|(refine CallS.mono in_s ?_; rintro _ _ ⟨rfl, rfl⟩)|(refine CallS.mono day_s ?_; rintro _ _ ⟨rfl, rfl⟩)));refine hK2 _ _ ?_;clear hK2 K2))
  all_goals (refine ⟨?_, ((Ext.refl _).push' _).push' _⟩; rw [← HE.out]; simp_all [refR, Alt.suits]; done)
end Go.Proofs.Tryz
namespace Go.Proofs.Tryz
open Go Go.Am Go.RowKit
set_option maxRecDepth 100000

def prevDay (l : List Alt) (k : Nat) : Int := if k = 0 then 0 else (l.getD (k - 1) ⟨0, 0, 0, 0, 0, 0⟩).day

set_option maxHeartbeats 4000000 in
theorem refCheck_s {loops : List (Nat × LInfo)} {H : AHeap} {v : Value} {s : Sheet} (hv : SheetV H v s) : CallS Tryz.prog loops 92 [v] H fun r H' => r = .int .i64 (err s) ∧ H' = H := by
  refine CallS.forget (R := fun v => v = .int .i64 (err s)) (by rintro v rfl; rfl) ?_
  have HV := Lib.hid hv
  obtain ⟨wv, av, rfl, hw, ha⟩ := hv
  obtain ⟨hwl, wa, wc, rfl⟩ := hw.slice
  obtain ⟨hal, aa, ac, rfl⟩ := ha.slice
  have HW := Lib.hid hw
  have HA := Lib.hid ha
  clear hw ha
  generalize he : err s = er
  have HE := Lib.hid he
  clear he
  refine CallS.enter' Tryz.func92 rfl Tryz.ntmps92 (by simp) fun f hd hf => ?_
  have f0 := hf 0
  simp at f0
  clear hf
  repeat' (first|(with_reducible first|refine zA ?_|refine zB fun K hK=>?_|refine zC fun K2 hK2=>?_|refine zD ?_|refine zE ?_|refine zF ?_|refine zG ?_|refine zH ?_|refine zI ?_|refine zM ?_|refine zN ?_|refine zO ?_|refine zP ?_|refine zQ ?_|refine zR ?_)|((with_reducible refine zU (hK _ _ ?_));clear hK K)|((with_reducible refine zV ?_ ?_ fun K1 K3 d hdst h1 h3=>?_);rfl;exact yB rfl;cases hdst;go_simp)|((with_reducible refine zW fun K1 K3 h1 h3=>?_);go_simp)|((first|refine h1 ?_|refine h3 ?_);clear h1 h3 K1 K3)|((first|refine zX (fun hb=>h1 ?_) (fun hb=>h3 ?_)|refine zX (fun hb=>h3 ?_) (fun hb=>h1 ?_))<;>(clear h1 h3 K1 K3;(try have hb2:=yC hb);(try have hb2:=yD hb);(try have hb2:=yE hb);(try have hb2:=yF hb);(try have hb2:=yG hb)))|(refine fun (K2:_→AHeap→Prop) hK2=>?_)|((with_reducible refine zY ?_ ?_);decide)|((with_reducible first|refine zZ ?_ (fun K hK=>?_)|refine yA ?_ (fun K hK=>?_));(focus go_simp;done);go_simp;refine hK _ _ ?_;clear hK K)|(go_simp;(try go_bits);(try first | ((with_reducible show CallS _ _ _ _ _ _);refine CallS.mono in_s ?_; rintro _ _ ⟨rfl, rfl⟩));refine hK2 _ _ ?_;clear hK2 K2))
  · refine ⟨?_, (Ext.refl _).push' _⟩
    have hw : win 1 40 (s.words.length : Int) = false := by simpa using hb
    rw [← HE.out]; simp [err, hw]
  have hw1 : win 1 40 (s.words.length : Int) = true := by simpa using hb
  refine CodeS.loop (fun m f H' => ∃ k : Nat, k ≤ s.words.length ∧ m = s.words.length - k ∧ f.tmp 3 = .int .i64 k ∧ f.tmp 1 = .pointer (some ⟨H.n, 0, none⟩) ∧ f.defers = [] ∧ Hid (wordsOk 1 (s.words.drop k) = wordsOk 1 s.words) ∧ H' = H.push (.row [Value.slice wa s.words.length wc, Value.slice aa s.alts.length ac] 25)) s.words.length ?_ ?_
  · exact ⟨0, by simp, by simp, (by first|go_simp<;>go_num|assumption), (by first|go_simp<;>go_num|assumption), (by first|go_simp<;>go_num|assumption), Lib.hid (by simp), rfl⟩
  clear f0 hd f hb
  rintro m f H' ⟨k, hk, rfl, f3, f1, hd, HG, rfl⟩
  by_cases hlt : k < s.words.length
  · obtain ⟨b, o, sp, rfl, hb, hx⟩ := HW.out.at_ hlt
    have HD := Lib.hid (List.drop_eq_getElem_cons hlt)
    generalize s.words[k] = y at hx HD
    repeat' (first|(with_reducible first|refine zA ?_|refine zB fun K hK=>?_|refine zC fun K2 hK2=>?_|refine zD ?_|refine zE ?_|refine zF ?_|refine zG ?_|refine zH ?_|refine zI ?_|refine zM ?_|refine zN ?_|refine zO ?_|refine zP ?_|refine zQ ?_|refine zR ?_)|((with_reducible refine zU (hK _ _ ?_));clear hK K)|((with_reducible refine zV ?_ ?_ fun K1 K3 d hdst h1 h3=>?_);rfl;exact yB rfl;cases hdst;go_simp)|((with_reducible refine zW fun K1 K3 h1 h3=>?_);go_simp)|((first|refine h1 ?_|refine h3 ?_);clear h1 h3 K1 K3)|((first|refine zX (fun hb=>h1 ?_) (fun hb=>h3 ?_)|refine zX (fun hb=>h3 ?_) (fun hb=>h1 ?_))<;>(clear h1 h3 K1 K3;(try have hb2:=yC hb);(try have hb2:=yD hb);(try have hb2:=yE hb);(try have hb2:=yF hb);(try have hb2:=yG hb)))|(refine fun (K2:_→AHeap→Prop) hK2=>?_)|((with_reducible refine zY ?_ ?_);decide)|((with_reducible first|refine zZ ?_ (fun K hK=>?_)|refine yA ?_ (fun K hK=>?_));(focus go_simp;done);go_simp;refine hK _ _ ?_;clear hK K)|(go_simp;(try go_bits);(try first | ((with_reducible show CallS _ _ _ _ _ _);refine CallS.mono in_s ?_; rintro _ _ ⟨rfl, rfl⟩));refine hK2 _ _ ?_;clear hK2 K2))
    · refine ⟨?_, Ext.push _⟩
      have hw : win 1 9999 y = false := by simpa using hb
      have hw2 : wordsOk 1 s.words = false := by rw [← HG.out, HD.out]; simp [wordsOk, hw]
      rw [← HE.out]; simp [err, hw2]
    · have hw : win 1 9999 y = true := by simpa using hb
      refine Post.round_normal ⟨s.words.length - (k + 1), by omega, k + 1, by omega, rfl, (by first|go_simp<;>go_num|assumption), (by first|go_simp<;>go_num|assumption), (by first|go_simp<;>go_num|assumption), Lib.hid ?_, rfl⟩
      rw [← HG.out, HD.out]; simp [wordsOk, hw]
  · have hw2 : wordsOk 1 s.words = true := by rw [← HG.out, List.drop_eq_nil_of_le (by omega)]; rfl
    clear HG
    repeat' (first|(with_reducible first|refine zA ?_|refine zB fun K hK=>?_|refine zC fun K2 hK2=>?_|refine zD ?_|refine zE ?_|refine zF ?_|refine zG ?_|refine zH ?_|refine zI ?_|refine zM ?_|refine zN ?_|refine zO ?_|refine zP ?_|refine zQ ?_|refine zR ?_)|((with_reducible refine zU (hK _ _ ?_));clear hK K)|((with_reducible refine zV ?_ ?_ fun K1 K3 d hdst h1 h3=>?_);rfl;exact yB rfl;cases hdst;go_simp)|((with_reducible refine zW fun K1 K3 h1 h3=>?_);go_simp)|((first|refine h1 ?_|refine h3 ?_);clear h1 h3 K1 K3)|((first|refine zX (fun hb=>h1 ?_) (fun hb=>h3 ?_)|refine zX (fun hb=>h3 ?_) (fun hb=>h1 ?_))<;>(clear h1 h3 K1 K3;(try have hb2:=yC hb);(try have hb2:=yD hb);(try have hb2:=yE hb);(try have hb2:=yF hb);(try have hb2:=yG hb)))|(refine fun (K2:_→AHeap→Prop) hK2=>?_)|((with_reducible refine zY ?_ ?_);decide)|((with_reducible first|refine zZ ?_ (fun K hK=>?_)|refine yA ?_ (fun K hK=>?_));(focus go_simp;done);go_simp;refine hK _ _ ?_;clear hK K)|(go_simp;(try go_bits);refine hK2 _ _ ?_;clear hK2 K2))
    · refine ⟨?_, Ext.push _⟩
      rw [← HE.out]; simp [err, hw1, hw2]; omega
    have HE2 : Hid (errGo s.words.length 0 [] s.alts = er) := Lib.hid (by rw [← HE.out]; simp [err, hw1, hw2]; omega)
    clear HE hb hb2 hw1 hw2
    refine CodeS.loop (fun m f H' => ∃ k : Nat, k ≤ s.alts.length ∧ m = s.alts.length - k ∧ f.tmp 4 = .int .i64 k ∧ f.tmp 1 = .pointer (some ⟨H.n, 0, none⟩) ∧ f.defers = [] ∧ Hid (errGo s.words.length (prevDay s.alts k) ((s.alts.take k).map (·.id)) (s.alts.drop k) = er) ∧ Ext (H.push (.row [Value.slice wa s.words.length wc, Value.slice aa s.alts.length ac] 25)) H') s.alts.length ?_ ?_
    · exact ⟨0, by simp, by simp, (by first|go_simp<;>go_num|assumption), (by first|go_simp<;>go_num|assumption), (by first|go_simp<;>go_num|assumption), Lib.hid (by simpa [prevDay] using HE2.out), Ext.refl _⟩
    clear f3 f1 hd HE2 f
    rintro m f H' ⟨k, hk, rfl, f4, f1, hd, HG, hx⟩
    have hc0 : cellAt H' H.n 0 = some (Value.slice wa s.words.length wc) := by rw [hx.cellAt (by rw [AHeap.n_push]; omega), cellAt_new]; rfl
    have hc1 : cellAt H' H.n 1 = some (Value.slice aa s.alts.length ac) := by rw [hx.cellAt (by rw [AHeap.n_push]; omega), cellAt_new]; rfl
    have hc2 : cellsAt H' H.n 0 2 = some [Value.slice wa s.words.length wc, Value.slice aa s.alts.length ac] := by rw [hx.cellsAt (by rw [AHeap.n_push]; omega), cellsAt_new]; rfl
    have hn0 : H.n < H'.n := by have := hx.n; rw [AHeap.n_push] at this; omega
    have HX := Lib.hid hx
    clear hx
    by_cases hlt : k < s.alts.length
    · obtain ⟨b, o, sp, rfl, hb, hx6, -⟩ := (HA.out.ext ((Ext.push _).trans HX.out)).at_ hlt
      have HD := Lib.hid (List.drop_eq_getElem_cons hlt)
      have HT := Lib.hid (List.take_succ_eq_append_getElem hlt)
      have HP : Hid (prevDay s.alts (k + 1) = (s.alts[k]).day) := Lib.hid (by simp [prevDay, hlt])
      generalize s.alts[k] = a at hx6 HD HT HP
      obtain ⟨i, kd, dy, fr, to, wd⟩ := a
      simp only [Alt.cells] at hx6
      have HR1 : Hid (Alt.right ⟨i, kd, dy, fr, to, wd⟩ s.words.length = false ∨ dy < prevDay s.alts k → (1 : Int) = er) := Lib.hid (fun h => by rw [← HG.out, HD.out, errGo, if_pos h])
      have HR2 : Hid (Alt.right ⟨i, kd, dy, fr, to, wd⟩ s.words.length = true → ¬ dy < prevDay s.alts k → errGo s.words.length (prevDay s.alts k) ((s.alts.take k).map (·.id)) (s.alts.drop k) = if i ∈ (s.alts.take k).map (·.id) then 6 else errGo s.words.length dy ((s.alts.take k).map (·.id) ++ [i]) (s.alts.drop (k + 1))) := Lib.hid (fun h h2 => by rw [HD.out, errGo, if_neg (by simp [h, h2])])
      have HR0 : Hid (Alt.right ⟨i, kd, dy, fr, to, wd⟩ s.words.length = true → 0 ≤ dy) := Lib.hid (fun h => by simp only [Alt.right, Bool.and_eq_true, win_iff] at h; exact h.2.1.1)
      have hrr : ∀ (loops : List (Nat × LInfo)) (H2 : AHeap), Ext H' H2 → CallS Tryz.prog loops 116 [.agg #[Value.slice wa s.words.length wc, Value.slice (some ⟨b, o, sp⟩) s.alts.length ac], Alt.val ⟨i, kd, dy, fr, to, wd⟩] H2 fun v H' => v = .bool (Alt.right ⟨i, kd, dy, fr, to, wd⟩ s.words.length) ∧ H' = H2 := fun loops H2 hx => refRight_s (HV.out.ext (((Ext.push _).trans HX.out).trans hx))
      generalize Alt.right ⟨i, kd, dy, fr, to, wd⟩ s.words.length = rr at HR1 HR2 HR0 hrr
      have HRR := Lib.hid hrr
      clear hrr
      rcases Nat.eq_zero_or_pos k with hk0 | hk0
      case' inl =>
        subst hk0
        simp only [Nat.zero_mul, Nat.add_zero] at hx6
        repeat' (first|(with_reducible first|refine zA ?_|refine zB fun K hK=>?_|refine zC fun K2 hK2=>?_|refine zD ?_|refine zE ?_|refine zF ?_|refine zG ?_|refine zH ?_|refine zI ?_|refine zM ?_|refine zN ?_|refine zO ?_|refine zP ?_|refine zQ ?_|refine zR ?_)|((with_reducible refine zU (hK _ _ ?_));clear hK K)|((with_reducible refine zV ?_ ?_ fun K1 K3 d hdst h1 h3=>?_);rfl;exact yB rfl;cases hdst;go_simp)|((with_reducible refine zW fun K1 K3 h1 h3=>?_);go_simp)|((first|refine h1 ?_|refine h3 ?_);clear h1 h3 K1 K3)|((first|refine zX (fun hb=>h1 ?_) (fun hb=>h3 ?_)|refine zX (fun hb=>h3 ?_) (fun hb=>h1 ?_))<;>(clear h1 h3 K1 K3;(try have hb2:=yC hb);(try have hb2:=yD hb);(try have hb2:=yE hb);(try have hb2:=yF hb);(try have hb2:=yG hb)))|(refine fun (K2:_→AHeap→Prop) hK2=>?_)|((with_reducible refine zY ?_ ?_);decide)|((with_reducible first|refine zZ ?_ (fun K hK=>?_)|refine yA ?_ (fun K hK=>?_));(focus go_simp;done);go_simp;refine hK _ _ ?_;clear hK K)|((with_reducible refine yH mixed rfl ?_ 20 fun K0 hK0=>?_);kernel_rfl)|(with_reducible first|exact yI|exact yJ|refine yK ?_|refine yL ?_|refine yM ?_)|((with_reducible first|refine yN ?_ ?_|refine yO ?_ ?_|refine yP ?_ ?_);rfl)|((with_reducible refine yQ ?_ ?_);rfl;refine hK0 _ _ ?_;clear hK0 K0)|((with_reducible refine yR ?_ ?_ ?_ ?_);rfl;rfl;rfl)|((with_reducible refine yS ?_ ?_ ?_ fun K2 hK2=>?_);rfl;rfl;exact yB rfl)|((with_reducible refine yT ?_ ?_ ?_ ?_ fun K1 K3 d hdst h1 h3=>?_);rfl;rfl;rfl;exact yB rfl;cases hdst;go_simp)|((with_reducible refine yU ?_ ?_ ?_ ?_ fun K1 K3 d hdst h1 h3=>?_);rfl;rfl;rfl;exact yB rfl;cases hdst;go_simp)|((with_reducible refine yV ?_ ?_ (fun K2 hK2=>?_) ?_);rfl;exact yB rfl)|((with_reducible refine yW ?_ ?_ ?_ ?_ (fun K2 hK2=>?_) ?_);rfl;exact yB rfl;rfl;(focus go_simp;done))|((with_reducible refine yX ?_ ?_ ?_ (fun K2 hK2=>?_) ?_);rfl;rfl;exact yB rfl)|((with_reducible refine yY ?_ ?_ (fun K2 hK2=>?_) ?_);rfl;rfl)|((with_reducible refine yZ ?_ ?_);(first|rfl|(dsimp only;decide +kernel)))|((with_reducible refine xA ?_ ?_);(focus go_simp;done))|(go_simp;(try go_bits);(try first | ((with_reducible show CallS _ _ _ _ _ _);refine CallS.mono (HRR.out _ _ (Ext.push _)) ?_; rintro _ _ ⟨rfl, rfl⟩));(first|(refine hK2 _ _ ?_ ?_<;>clear hK2 K2)|(refine hK2 _ _ ?_;clear hK2 K2))))
        all_goals (try (exact ⟨by rw [HR1.out (.inl (by simpa using hb))], ((Ext.push _).trans HX.out).push' _⟩))
        have hq1 : rr = true := by simpa using hb
        have hq2 := HR0.out hq1
        have HQ : Hid (rr = true ∧ ¬ dy < prevDay s.alts 0) := Lib.hid ⟨hq1, by simp [prevDay]; omega⟩
        clear hq1 hq2 hb
        have hQ := HR2.out HQ.out.1 HQ.out.2
        have HQ2 := Lib.hid hQ
        clear hQ
        refine CodeS.loop (fun m f H'' => ∃ j : Nat, j ≤ 0 ∧ m = 0 - j ∧ f.tmp 6 = .int .i64 j ∧ f.tmp 4 = .int .i64 0 ∧ f.tmp 1 = .pointer (some ⟨H.n, 0, none⟩) ∧ f.tmp 5 = .pointer (some ⟨H'.n, 0, none⟩) ∧ f.defers = [] ∧ Hid (i ∉ (s.alts.take j).map (·.id)) ∧ H'' = H'.push (AObj.row [Value.int IntKind.i64 i, Value.int IntKind.i64 kd, Value.int IntKind.i64 dy, Value.int IntKind.i64 fr, Value.int IntKind.i64 to, Value.int IntKind.i64 wd] 58)) 0 ?_ ?_
        · exact ⟨0, by simp, by simp, (by first|go_simp<;>go_num|assumption), (by first|go_simp<;>go_num|assumption), (by first|go_simp<;>go_num|assumption), (by first|go_simp<;>go_num|assumption), (by first|go_simp<;>go_num|assumption), Lib.hid (by simp), rfl⟩
        clear f4 f1 hd f HRR
        rintro m f H'' ⟨j, hj, rfl, f6, f4, f1, f5, hd, HN, rfl⟩
        by_cases hjk : j < 0
        · exact absurd hjk (Nat.not_lt_zero _)
        · have hjk2 : j = 0 := by omega
          rw [hjk2] at f6 HN
          clear hj hjk hjk2
          repeat' (first|(with_reducible first|refine zA ?_|refine zB fun K hK=>?_|refine zC fun K2 hK2=>?_|refine zD ?_|refine zE ?_|refine zF ?_|refine zG ?_|refine zH ?_|refine zI ?_|refine zM ?_|refine zN ?_|refine zO ?_|refine zP ?_|refine zQ ?_|refine zR ?_)|((with_reducible refine zU (hK _ _ ?_));clear hK K)|((with_reducible refine zV ?_ ?_ fun K1 K3 d hdst h1 h3=>?_);rfl;exact yB rfl;cases hdst;go_simp)|((with_reducible refine zW fun K1 K3 h1 h3=>?_);go_simp)|((first|refine h1 ?_|refine h3 ?_);clear h1 h3 K1 K3)|((first|refine zX (fun hb=>h1 ?_) (fun hb=>h3 ?_)|refine zX (fun hb=>h3 ?_) (fun hb=>h1 ?_))<;>(clear h1 h3 K1 K3;(try have hb2:=yC hb);(try have hb2:=yD hb);(try have hb2:=yE hb);(try have hb2:=yF hb);(try have hb2:=yG hb)))|(refine fun (K2:_→AHeap→Prop) hK2=>?_)|((with_reducible refine zY ?_ ?_);decide)|((with_reducible first|refine zZ ?_ (fun K hK=>?_)|refine yA ?_ (fun K hK=>?_));(focus go_simp;done);go_simp;refine hK _ _ ?_;clear hK K)|(go_simp;(try go_bits);refine hK2 _ _ ?_;clear hK2 K2))
          refine Post.round_normal ⟨s.alts.length - (0 + 1), by omega, 0 + 1, by omega, rfl, (by first|go_simp<;>go_num|assumption), (by first|go_simp<;>go_num|assumption), (by first|go_simp<;>go_num|assumption), Lib.hid ?_, HX.out.trans (Ext.push _)⟩
          have h9 := HQ2.out
          rw [if_neg HN.out] at h9
          rw [HP.out, HT.out, List.map_append, ← HG.out, h9]
          rfl
      case' inr =>
        obtain ⟨b2, o2, sp2, he2, -, -, hxp⟩ := (HA.out.ext ((Ext.push _).trans HX.out)).at_ (k := k - 1) (by omega)
        cases he2
        have hpd := hxp 2 _ rfl
        have HP2 : Hid (prevDay s.alts k = (s.alts[k - 1]).day) := Lib.hid (by simp [prevDay, show k ≠ 0 by omega, show k - 1 < s.alts.length by omega])
        generalize s.alts[k - 1] = pa at hpd HP2
        obtain ⟨pi, pk, pd, pf, pt, pw⟩ := pa
        simp only at hpd
        clear hxp
        have h0i : (0 : Int) ≤ (k : Int) - 1 := by omega
        have h1i : (k : Int) - 1 < (s.alts.length : Int) := by omega
        have h2i : (1 : Int) ≤ (k : Int) := by omega
        have h3i : 1 ≤ k := by omega
        repeat' (first|(with_reducible first|refine zA ?_|refine zB fun K hK=>?_|refine zC fun K2 hK2=>?_|refine zD ?_|refine zE ?_|refine zF ?_|refine zG ?_|refine zH ?_|refine zI ?_|refine zM ?_|refine zN ?_|refine zO ?_|refine zP ?_|refine zQ ?_|refine zR ?_)|((with_reducible refine zU (hK _ _ ?_));clear hK K)|((with_reducible refine zV ?_ ?_ fun K1 K3 d hdst h1 h3=>?_);rfl;exact yB rfl;cases hdst;go_simp)|((with_reducible refine zW fun K1 K3 h1 h3=>?_);go_simp)|((first|refine h1 ?_|refine h3 ?_);clear h1 h3 K1 K3)|((first|refine zX (fun hb=>h1 ?_) (fun hb=>h3 ?_)|refine zX (fun hb=>h3 ?_) (fun hb=>h1 ?_))<;>(clear h1 h3 K1 K3;(try have hb2:=yC hb);(try have hb2:=yD hb);(try have hb2:=yE hb);(try have hb2:=yF hb);(try have hb2:=yG hb)))|(refine fun (K2:_→AHeap→Prop) hK2=>?_)|((with_reducible refine zY ?_ ?_);decide)|((with_reducible first|refine zZ ?_ (fun K hK=>?_)|refine yA ?_ (fun K hK=>?_));(focus go_simp;done);go_simp;refine hK _ _ ?_;clear hK K)|((with_reducible refine yH mixed rfl ?_ 20 fun K0 hK0=>?_);kernel_rfl)|(with_reducible first|exact yI|exact yJ|refine yK ?_|refine yL ?_|refine yM ?_)|((with_reducible first|refine yN ?_ ?_|refine yO ?_ ?_|refine yP ?_ ?_);rfl)|((with_reducible refine yQ ?_ ?_);rfl;refine hK0 _ _ ?_;clear hK0 K0)|((with_reducible refine yR ?_ ?_ ?_ ?_);rfl;rfl;rfl)|((with_reducible refine yS ?_ ?_ ?_ fun K2 hK2=>?_);rfl;rfl;exact yB rfl)|((with_reducible refine yT ?_ ?_ ?_ ?_ fun K1 K3 d hdst h1 h3=>?_);rfl;rfl;rfl;exact yB rfl;cases hdst;go_simp)|((with_reducible refine yU ?_ ?_ ?_ ?_ fun K1 K3 d hdst h1 h3=>?_);rfl;rfl;rfl;exact yB rfl;cases hdst;go_simp)|((with_reducible refine yV ?_ ?_ (fun K2 hK2=>?_) ?_);rfl;exact yB rfl)|((with_reducible refine yW ?_ ?_ ?_ ?_ (fun K2 hK2=>?_) ?_);rfl;exact yB rfl;rfl;(focus go_simp;done))|((with_reducible refine yX ?_ ?_ ?_ (fun K2 hK2=>?_) ?_);rfl;rfl;exact yB rfl)|((with_reducible refine yY ?_ ?_ (fun K2 hK2=>?_) ?_);rfl;rfl)|((with_reducible refine yZ ?_ ?_);(first|rfl|(dsimp only;decide +kernel)))|((with_reducible refine xA ?_ ?_);(focus go_simp;done))|(go_simp;(try go_bits);(try first | ((with_reducible show CallS _ _ _ _ _ _);refine CallS.mono (HRR.out _ _ (Ext.push _)) ?_; rintro _ _ ⟨rfl, rfl⟩));(first|(refine hK2 _ _ ?_ ?_<;>clear hK2 K2)|(refine hK2 _ _ ?_;clear hK2 K2))))
        all_goals (try (exact ⟨by rw [HR1.out (.inr (by rw [HP2.out]; exact hb2))], ((Ext.push _).trans HX.out).push' _⟩))
        all_goals (try (exact ⟨by rw [HR1.out (.inl (by simpa using hb))], ((Ext.push _).trans HX.out).push' _⟩))
        have HQ : Hid (rr = true ∧ ¬ dy < prevDay s.alts k) := Lib.hid ⟨by simpa using ‹(!rr) = false›, by rw [HP2.out]; simp only; omega⟩
        clear hb hb2
        have hQ := HR2.out HQ.out.1 HQ.out.2
        have HQ2 := Lib.hid hQ
        clear hQ
        refine CodeS.loop (fun m f H'' => ∃ j : Nat, j ≤ k ∧ m = k - j ∧ f.tmp 6 = .int .i64 j ∧ f.tmp 4 = .int .i64 k ∧ f.tmp 1 = .pointer (some ⟨H.n, 0, none⟩) ∧ f.tmp 5 = .pointer (some ⟨H'.n, 0, none⟩) ∧ f.defers = [] ∧ Hid (i ∉ (s.alts.take j).map (·.id)) ∧ H'' = H'.push (AObj.row [Value.int IntKind.i64 i, Value.int IntKind.i64 kd, Value.int IntKind.i64 dy, Value.int IntKind.i64 fr, Value.int IntKind.i64 to, Value.int IntKind.i64 wd] 58)) k ?_ ?_
        · exact ⟨0, by simp, by simp, (by first|go_simp<;>go_num|assumption), (by first|go_simp<;>go_num|assumption), (by first|go_simp<;>go_num|assumption), (by first|go_simp<;>go_num|assumption), (by first|go_simp<;>go_num|assumption), Lib.hid (by simp), rfl⟩
        clear f4 f1 hd f HRR
        rintro m f H'' ⟨j, hj, rfl, f6, f4, f1, f5, hd, HN, rfl⟩
        by_cases hjk : j < k
        · obtain ⟨b3, o3, sp3, he3, -, -, hx3⟩ := (HA.out.ext ((Ext.push _).trans HX.out)).at_ (k := j) (by omega)
          cases he3
          have hc3 := hx3 0 _ rfl
          have HT3 := Lib.hid (List.take_succ_eq_append_getElem (l := s.alts) (i := j) (by omega))
          have HE3 : Hid ((s.alts[j]).id ∈ (s.alts.take k).map (·.id)) := Lib.hid (List.mem_map.2 ⟨s.alts[j], List.mem_take_iff_getElem.2 ⟨j, by omega, rfl⟩, rfl⟩)
          generalize s.alts[j] = aj at hc3 HT3 HE3
          obtain ⟨ji, jk, jd, jf, jt, jw⟩ := aj
          simp only [Nat.add_zero] at hc3
          clear hx3
          have hjn : j < s.alts.length := by omega
          repeat' (first|(with_reducible first|refine zA ?_|refine zB fun K hK=>?_|refine zC fun K2 hK2=>?_|refine zD ?_|refine zE ?_|refine zF ?_|refine zG ?_|refine zH ?_|refine zI ?_|refine zM ?_|refine zN ?_|refine zO ?_|refine zP ?_|refine zQ ?_|refine zR ?_)|((with_reducible refine zU (hK _ _ ?_));clear hK K)|((with_reducible refine zV ?_ ?_ fun K1 K3 d hdst h1 h3=>?_);rfl;exact yB rfl;cases hdst;go_simp)|((with_reducible refine zW fun K1 K3 h1 h3=>?_);go_simp)|((first|refine h1 ?_|refine h3 ?_);clear h1 h3 K1 K3)|((first|refine zX (fun hb=>h1 ?_) (fun hb=>h3 ?_)|refine zX (fun hb=>h3 ?_) (fun hb=>h1 ?_))<;>(clear h1 h3 K1 K3;(try have hb2:=yC hb);(try have hb2:=yD hb);(try have hb2:=yE hb);(try have hb2:=yF hb);(try have hb2:=yG hb)))|(refine fun (K2:_→AHeap→Prop) hK2=>?_)|((with_reducible refine zY ?_ ?_);decide)|((with_reducible first|refine zZ ?_ (fun K hK=>?_)|refine yA ?_ (fun K hK=>?_));(focus go_simp;done);go_simp;refine hK _ _ ?_;clear hK K)|((with_reducible refine yH mixed rfl ?_ 20 fun K0 hK0=>?_);kernel_rfl)|(with_reducible first|exact yI|exact yJ|refine yK ?_|refine yL ?_|refine yM ?_)|((with_reducible first|refine yN ?_ ?_|refine yO ?_ ?_|refine yP ?_ ?_);rfl)|((with_reducible refine yQ ?_ ?_);rfl;refine hK0 _ _ ?_;clear hK0 K0)|((with_reducible refine yR ?_ ?_ ?_ ?_);rfl;rfl;rfl)|((with_reducible refine yS ?_ ?_ ?_ fun K2 hK2=>?_);rfl;rfl;exact yB rfl)|((with_reducible refine yT ?_ ?_ ?_ ?_ fun K1 K3 d hdst h1 h3=>?_);rfl;rfl;rfl;exact yB rfl;cases hdst;go_simp)|((with_reducible refine yU ?_ ?_ ?_ ?_ fun K1 K3 d hdst h1 h3=>?_);rfl;rfl;rfl;exact yB rfl;cases hdst;go_simp)|((with_reducible refine yV ?_ ?_ (fun K2 hK2=>?_) ?_);rfl;exact yB rfl)|((with_reducible refine yW ?_ ?_ ?_ ?_ (fun K2 hK2=>?_) ?_);rfl;exact yB rfl;rfl;(focus go_simp;done))|((with_reducible refine yX ?_ ?_ ?_ (fun K2 hK2=>?_) ?_);rfl;rfl;exact yB rfl)|((with_reducible refine yY ?_ ?_ (fun K2 hK2=>?_) ?_);rfl;rfl)|((with_reducible refine yZ ?_ ?_);(first|rfl|(dsimp only;decide +kernel)))|((with_reducible refine xA ?_ ?_);(focus go_simp;done))|(go_simp;(try go_bits);(first|(refine hK2 _ _ ?_ ?_<;>clear hK2 K2)|(refine hK2 _ _ ?_;clear hK2 K2))))
          · refine ⟨?_, ((Ext.push _).trans HX.out).push' _⟩
            have hq : ji = i := by simpa using hb
            have hm := HE3.out
            rw [hq] at hm
            rw [← HG.out, HQ2.out, if_pos hm]
          · refine Post.round_normal ⟨k - (j + 1), by omega, j + 1, by omega, rfl, (by first|go_simp<;>go_num|assumption), (by first|go_simp<;>go_num|assumption), (by first|go_simp<;>go_num|assumption), (by first|go_simp<;>go_num|assumption), (by first|go_simp<;>go_num|assumption), Lib.hid ?_, rfl⟩
            have hq : ¬ ji = i := by simpa using hb
            rw [HT3.out, List.map_append, List.mem_append]
            rintro (h | h)
            · exact HN.out h
            · simp at h; exact hq h.symm
        · have hjk2 : j = k := by omega
          rw [hjk2] at f6 HN
          clear hj hjk hjk2
          repeat' (first|(with_reducible first|refine zA ?_|refine zB fun K hK=>?_|refine zC fun K2 hK2=>?_|refine zD ?_|refine zE ?_|refine zF ?_|refine zG ?_|refine zH ?_|refine zI ?_|refine zM ?_|refine zN ?_|refine zO ?_|refine zP ?_|refine zQ ?_|refine zR ?_)|((with_reducible refine zU (hK _ _ ?_));clear hK K)|((with_reducible refine zV ?_ ?_ fun K1 K3 d hdst h1 h3=>?_);rfl;exact yB rfl;cases hdst;go_simp)|((with_reducible refine zW fun K1 K3 h1 h3=>?_);go_simp)|((first|refine h1 ?_|refine h3 ?_);clear h1 h3 K1 K3)|((first|refine zX (fun hb=>h1 ?_) (fun hb=>h3 ?_)|refine zX (fun hb=>h3 ?_) (fun hb=>h1 ?_))<;>(clear h1 h3 K1 K3;(try have hb2:=yC hb);(try have hb2:=yD hb);(try have hb2:=yE hb);(try have hb2:=yF hb);(try have hb2:=yG hb)))|(refine fun (K2:_→AHeap→Prop) hK2=>?_)|((with_reducible refine zY ?_ ?_);decide)|((with_reducible first|refine zZ ?_ (fun K hK=>?_)|refine yA ?_ (fun K hK=>?_));(focus go_simp;done);go_simp;refine hK _ _ ?_;clear hK K)|(go_simp;(try go_bits);refine hK2 _ _ ?_;clear hK2 K2))
          refine Post.round_normal ⟨s.alts.length - (k + 1), by omega, k + 1, by omega, rfl, (by first|go_simp<;>go_num|assumption), (by first|go_simp<;>go_num|assumption), (by first|go_simp<;>go_num|assumption), Lib.hid ?_, HX.out.trans (Ext.push _)⟩
          have h9 := HQ2.out
          rw [if_neg HN.out] at h9
          rw [HP.out, HT.out, List.map_append, ← HG.out, h9]
          rfl
    · repeat' (first|(with_reducible first|refine zA ?_|refine zB fun K hK=>?_|refine zC fun K2 hK2=>?_|refine zD ?_|refine zE ?_|refine zF ?_|refine zG ?_|refine zH ?_|refine zI ?_|refine zM ?_|refine zN ?_|refine zO ?_|refine zP ?_|refine zQ ?_|refine zR ?_)|((with_reducible refine zU (hK _ _ ?_));clear hK K)|((with_reducible refine zV ?_ ?_ fun K1 K3 d hdst h1 h3=>?_);rfl;exact yB rfl;cases hdst;go_simp)|((with_reducible refine zW fun K1 K3 h1 h3=>?_);go_simp)|((first|refine h1 ?_|refine h3 ?_);clear h1 h3 K1 K3)|((first|refine zX (fun hb=>h1 ?_) (fun hb=>h3 ?_)|refine zX (fun hb=>h3 ?_) (fun hb=>h1 ?_))<;>(clear h1 h3 K1 K3;(try have hb2:=yC hb);(try have hb2:=yD hb);(try have hb2:=yE hb);(try have hb2:=yF hb);(try have hb2:=yG hb)))|(refine fun (K2:_→AHeap→Prop) hK2=>?_)|((with_reducible refine zY ?_ ?_);decide)|((with_reducible first|refine zZ ?_ (fun K hK=>?_)|refine yA ?_ (fun K hK=>?_));(focus go_simp;done);go_simp;refine hK _ _ ?_;clear hK K)|(go_simp;(try go_bits);refine hK2 _ _ ?_;clear hK2 K2))
      refine ⟨?_, (Ext.push _).trans HX.out⟩
      rw [← HG.out, List.drop_eq_nil_of_le (by omega)]; rfl
end Go.Proofs.Tryz
namespace Go.Proofs.Tryz
open Go Go.Am Go.RowKit
set_option maxRecDepth 100000


def validA (s : Sheet) (c : Copy) : Bool := decide (c.words.length = s.words.length) && (win 0 730 c.beg && (win 0 730 c.fin && (decide (c.beg ≤ c.fin) && win 1 40 c.per)))
theorem copyOk_eq (s : Sheet) (c : Copy) : copyOk s c = (validA s c && wordsOk 0 c.words) := by
  rw [Bool.eq_iff_iff]
  simp only [copyOk, validA, Bool.and_eq_true, decide_eq_true_eq, win_iff]
  constructor
  · rintro ⟨h1, h2, h3, h4, h5⟩; exact ⟨⟨h1, by omega, by omega, by omega, h5⟩, h2⟩
  · rintro ⟨⟨h1, h2, h3, h4, h5⟩, h6⟩; exact ⟨h1, h6, by omega, by omega, h5⟩

theorem valid_s {loops : List (Nat × LInfo)} {H : AHeap} {sv cv : Value} {s : Sheet} {c : Copy} (hs : SheetV H sv s) (hc : CopyV H cv c) : CallS Tryz.prog loops 93 [sv, cv] H fun r H' => r = .bool (copyOk s c) ∧ H' = H := by
  refine CallS.forget (R := fun v => v = .bool (copyOk s c)) (by rintro v rfl; rfl) ?_
  obtain ⟨wv, av, rfl, hw, ha⟩ := hs
  obtain ⟨hwl, wa, wc, rfl⟩ := hw.slice
  obtain ⟨hal, aa, ac, rfl⟩ := ha.slice
  obtain ⟨cv, rfl, hcw⟩ := hc
  obtain ⟨hcl, ca, cc, rfl⟩ := hcw.slice
  have HCW := Lib.hid hcw
  clear hw ha hcw
  rw [copyOk_eq]
  generalize he : (validA s c && wordsOk 0 c.words) = er
  have HE := Lib.hid he
  clear he
  refine CallS.enter' Tryz.func93 rfl Tryz.ntmps93 (by simp) fun f hd hf => ?_
  have f0 := hf 0
  have f1 := hf 1
  simp at f0 f1
  clear hf
  repeat' (first|(with_reducible first|refine zA ?_|refine zB fun K hK=>?_|refine zC fun K2 hK2=>?_|refine zD ?_|refine zE ?_|refine zF ?_|refine zG ?_|refine zH ?_|refine zI ?_|refine zM ?_|refine zN ?_|refine zO ?_|refine zP ?_|refine zQ ?_|refine zR ?_)|((with_reducible refine zU (hK _ _ ?_));clear hK K)|((with_reducible refine zV ?_ ?_ fun K1 K3 d hdst h1 h3=>?_);rfl;exact yB rfl;cases hdst;go_simp)|((with_reducible refine zW fun K1 K3 h1 h3=>?_);go_simp)|((first|refine h1 ?_|refine h3 ?_);clear h1 h3 K1 K3)|((first|refine zX (fun hb=>h1 ?_) (fun hb=>h3 ?_)|refine zX (fun hb=>h3 ?_) (fun hb=>h1 ?_))<;>(clear h1 h3 K1 K3;(try have hb2:=yC hb);(try have hb2:=yD hb);(try have hb2:=yE hb);(try have hb2:=yF hb);(try have hb2:=yG hb)))|(refine fun (K2:_→AHeap→Prop) hK2=>?_)|((with_reducible refine zY ?_ ?_);decide)|((with_reducible first|refine zZ ?_ (fun K hK=>?_)|refine yA ?_ (fun K hK=>?_));(focus go_simp;done);go_simp;refine hK _ _ ?_;clear hK K)|(go_simp;(try go_bits);(try first |((with_reducible show CallS _ _ _ _ _ _);first|(refine CallS.mono in_s ?_; rintro _ _ ⟨rfl, rfl⟩)|(refine CallS.mono day_s ?_; rintro _ _ ⟨rfl, rfl⟩)));refine hK2 _ _ ?_;clear hK2 K2))
  all_goals (try (refine ⟨?_, ((Ext.refl _).push' _).push' _⟩; rw [← HE.out]; simp_all [validA, nat_neb]; done))
  all_goals (try (refine ⟨?_, ((Ext.refl _).push' _).push' _⟩; rw [← HE.out]; simp_all [validA, nat_neb]; omega))
  have hva : validA s c = true := by simp_all [validA, nat_neb]; try omega
  refine CodeS.loop (fun m f H' => ∃ k : Nat, k ≤ c.words.length ∧ m = c.words.length - k ∧ f.tmp 5 = .int .i64 k ∧ f.tmp 3 = .pointer (some ⟨H.n + 1, 0, none⟩) ∧ f.defers = [] ∧ Hid (wordsOk 0 (c.words.drop k) = er) ∧ H' = (H.push (.row [Value.slice wa s.words.length wc, Value.slice aa s.alts.length ac] 25)).push (.row [Value.slice ca c.words.length cc, .int .i64 c.beg, .int .i64 c.fin, .int .i64 c.per] 27)) c.words.length ?_ ?_
  · exact ⟨0, by simp, by simp, (by first|go_simp<;>go_num|assumption), (by first|go_simp<;>go_num|assumption), (by first|go_simp<;>go_num|assumption), Lib.hid (by rw [← HE.out, hva]; simp), rfl⟩
  clear f0 f1 hd f HE hva
  rintro m f H' ⟨k, hk, rfl, f5, f3, hd, HG, rfl⟩
  by_cases hlt : k < c.words.length
  · obtain ⟨b, o, sp, rfl, hb, hx⟩ := HCW.out.at_ hlt
    have HD := Lib.hid (List.drop_eq_getElem_cons hlt)
    generalize c.words[k] = y at hx HD
    have hbn : b < H.n + 1 := by omega
    repeat' (first|(with_reducible first|refine zA ?_|refine zB fun K hK=>?_|refine zC fun K2 hK2=>?_|refine zD ?_|refine zE ?_|refine zF ?_|refine zG ?_|refine zH ?_|refine zI ?_|refine zM ?_|refine zN ?_|refine zO ?_|refine zP ?_|refine zQ ?_|refine zR ?_)|((with_reducible refine zU (hK _ _ ?_));clear hK K)|((with_reducible refine zV ?_ ?_ fun K1 K3 d hdst h1 h3=>?_);rfl;exact yB rfl;cases hdst;go_simp)|((with_reducible refine zW fun K1 K3 h1 h3=>?_);go_simp)|((first|refine h1 ?_|refine h3 ?_);clear h1 h3 K1 K3)|((first|refine zX (fun hb=>h1 ?_) (fun hb=>h3 ?_)|refine zX (fun hb=>h3 ?_) (fun hb=>h1 ?_))<;>(clear h1 h3 K1 K3;(try have hb2:=yC hb);(try have hb2:=yD hb);(try have hb2:=yE hb);(try have hb2:=yF hb);(try have hb2:=yG hb)))|(refine fun (K2:_→AHeap→Prop) hK2=>?_)|((with_reducible refine zY ?_ ?_);decide)|((with_reducible first|refine zZ ?_ (fun K hK=>?_)|refine yA ?_ (fun K hK=>?_));(focus go_simp;done);go_simp;refine hK _ _ ?_;clear hK K)|(go_simp;(try go_bits);(try first | ((with_reducible show CallS _ _ _ _ _ _);refine CallS.mono in_s ?_; rintro _ _ ⟨rfl, rfl⟩));refine hK2 _ _ ?_;clear hK2 K2))
    · refine ⟨?_, ((Ext.refl _).push' _).push' _⟩
      have hw : win 0 9999 y = false := by simpa using ‹(!win 0 9999 y) = true›
      rw [← HG.out, HD.out]; simp [wordsOk, hw]
    · have hw : win 0 9999 y = true := by simpa using ‹(!win 0 9999 y) = false›
      refine Post.round_normal ⟨c.words.length - (k + 1), by omega, k + 1, by omega, rfl, (by first|go_simp<;>go_num|assumption), (by first|go_simp<;>go_num|assumption), (by first|go_simp<;>go_num|assumption), Lib.hid ?_, rfl⟩
      rw [← HG.out, HD.out]; simp [wordsOk, hw]
  · repeat' (first|(with_reducible first|refine zA ?_|refine zB fun K hK=>?_|refine zC fun K2 hK2=>?_|refine zD ?_|refine zE ?_|refine zF ?_|refine zG ?_|refine zH ?_|refine zI ?_|refine zM ?_|refine zN ?_|refine zO ?_|refine zP ?_|refine zQ ?_|refine zR ?_)|((with_reducible refine zU (hK _ _ ?_));clear hK K)|((with_reducible refine zV ?_ ?_ fun K1 K3 d hdst h1 h3=>?_);rfl;exact yB rfl;cases hdst;go_simp)|((with_reducible refine zW fun K1 K3 h1 h3=>?_);go_simp)|((first|refine h1 ?_|refine h3 ?_);clear h1 h3 K1 K3)|((first|refine zX (fun hb=>h1 ?_) (fun hb=>h3 ?_)|refine zX (fun hb=>h3 ?_) (fun hb=>h1 ?_))<;>(clear h1 h3 K1 K3;(try have hb2:=yC hb);(try have hb2:=yD hb);(try have hb2:=yE hb);(try have hb2:=yF hb);(try have hb2:=yG hb)))|(refine fun (K2:_→AHeap→Prop) hK2=>?_)|((with_reducible refine zY ?_ ?_);decide)|((with_reducible first|refine zZ ?_ (fun K hK=>?_)|refine yA ?_ (fun K hK=>?_));(focus go_simp;done);go_simp;refine hK _ _ ?_;clear hK K)|(go_simp;(try go_bits);refine hK2 _ _ ?_;clear hK2 K2))
    refine ⟨?_, ((Ext.refl _).push' _).push' _⟩
    rw [← HG.out, List.drop_eq_nil_of_le (by omega)]; rfl

theorem on_e {loops : List (Nat × LInfo)} {H : AHeap} {sv : Value} {s : Sheet} {line d : Int} (hs : SheetV H sv s) (hl0 : 0 ≤ line) (hl1 : line < s.words.length) : CallS Tryz.prog loops 94 [sv, .int .i64 line, .int .i64 d] H fun r H' => r = (hasOn s line d).val ∧ Ext H H' := by
  obtain ⟨wv, av, rfl, hw, ha⟩ := hs
  obtain ⟨hwl, wa, wc, rfl⟩ := hw.slice
  obtain ⟨hal, aa, ac, rfl⟩ := ha.slice
  have HA := Lib.hid ha
  obtain ⟨ln, rfl⟩ := Int.eq_ofNat_of_zero_le hl0
  have hln : ln < s.words.length := by omega
  obtain ⟨bw, ow, sw, rfl, hbw, hcw⟩ := hw.at_ hln
  generalize he : hasOn s ln d = er
  have HE : Hid (atDay ln d ⟨s.words[ln], 0, false⟩ s.alts = er) := Lib.hid (by rw [← he, hasOn]; simp [hln])
  generalize s.words[ln] = w0 at hcw HE
  clear hw ha he
  refine CallS.enter' Tryz.func94 rfl Tryz.ntmps94 (by simp) fun f hd hf => ?_
  have f0 := hf 0
  have f1 := hf 1
  have f2 := hf 2
  simp at f0 f1 f2
  clear hf
  repeat' (first|(with_reducible first|refine zA ?_|refine zB fun K hK=>?_|refine zC fun K2 hK2=>?_|refine zD ?_|refine zE ?_|refine zF ?_|refine zG ?_|refine zH ?_|refine zI ?_|refine zM ?_|refine zN ?_|refine zO ?_|refine zP ?_|refine zQ ?_|refine zR ?_)|((with_reducible refine zU (hK _ _ ?_));clear hK K)|((with_reducible refine zV ?_ ?_ fun K1 K3 d hdst h1 h3=>?_);rfl;exact yB rfl;cases hdst;go_simp)|((with_reducible refine zW fun K1 K3 h1 h3=>?_);go_simp)|((first|refine h1 ?_|refine h3 ?_);clear h1 h3 K1 K3)|((first|refine zX (fun hb=>h1 ?_) (fun hb=>h3 ?_)|refine zX (fun hb=>h3 ?_) (fun hb=>h1 ?_))<;>(clear h1 h3 K1 K3;(try have hb2:=yC hb);(try have hb2:=yD hb);(try have hb2:=yE hb);(try have hb2:=yF hb);(try have hb2:=yG hb)))|(refine fun (K2:_→AHeap→Prop) hK2=>?_)|((with_reducible refine zY ?_ ?_);decide)|((with_reducible first|refine zZ ?_ (fun K hK=>?_)|refine yA ?_ (fun K hK=>?_));(focus go_simp;done);go_simp;refine hK _ _ ?_;clear hK K)|(go_simp;(try go_bits);refine hK2 _ _ ?_;clear hK2 K2))
  refine CodeS.loop (fun m f H' => ∃ (k : Nat) (c : Has), k ≤ s.alts.length ∧ m = s.alts.length - k ∧ f.tmp 8 = .int .i64 k ∧ f.tmp 3 = .pointer (some ⟨H.n, 0, none⟩) ∧ f.tmp 1 = .int .i64 ln ∧ f.tmp 2 = .int .i64 d ∧ f.tmp 6 = .pointer (some ⟨H.n + 1, 0, none⟩) ∧ f.tmp 7 = .pointer (some ⟨H.n + 2, 0, none⟩) ∧ f.defers = [] ∧ Hid (atDay ln d c (s.alts.drop k) = er) ∧ H.n + 2 < H'.n ∧ Ext H H' ∧ H'.get H.n = .row [Value.slice (some ⟨bw, ow, sw⟩) s.words.length wc, Value.slice aa s.alts.length ac] 25 ∧ H'.get (H.n + 1) = .row [.int .i64 0, .int .i64 0, .bool false] 126 ∧ H'.get (H.n + 2) = .row [.int .i64 c.text, .int .i64 c.margin, .bool c.lost] 126) s.alts.length ?_ ?_
  · refine ⟨0, ⟨w0, 0, false⟩, by simp, by simp, (by first|go_simp<;>go_num|assumption), (by first|go_simp<;>go_num|assumption), (by first|go_simp<;>go_num|assumption), (by first|go_simp<;>go_num|assumption), (by first|go_simp<;>go_num|assumption), (by first|go_simp<;>go_num|assumption), (by first|go_simp<;>go_num|assumption), HE, by simp only [AHeap.n_push]; omega, ((Ext.refl _).push' _).push' _ |>.push' _, ?_, ?_, ?_⟩
    · rw [AHeap.get_push_old (by simp only [AHeap.n_push]; omega), AHeap.get_push_old (by simp only [AHeap.n_push]; omega), AHeap.get_push_new]
    · rw [AHeap.get_push_old (by simp only [AHeap.n_push]; omega), show H.n + 1 = (H.push (AObj.row [Value.slice (some ⟨bw, ow, sw⟩) s.words.length wc, Value.slice aa s.alts.length ac] 25)).n by rw [AHeap.n_push], AHeap.get_push_new]
    · rw [show H.n + 2 = ((H.push (AObj.row [Value.slice (some ⟨bw, ow, sw⟩) s.words.length wc, Value.slice aa s.alts.length ac] 25)).push (AObj.row [Value.int IntKind.i64 0, Value.int IntKind.i64 0, Value.bool false] 126)).n by rw [AHeap.n_push, AHeap.n_push], AHeap.get_push_new]
  clear f0 f1 f2 hd f HE hcw
  rintro m f H' ⟨k, c, hk, rfl, f8, f3, f1, f2, f6, f7, hd, HG, hn, hx, hg0, hg1, hg2⟩
  obtain ⟨ct, cm, cl⟩ := c
  have hc0 : cellAt H' H.n 0 = some (Value.slice (some ⟨bw, ow, sw⟩) s.words.length wc) := by simp [cellAt, hg0]
  have hc1 : cellAt H' H.n 1 = some (Value.slice aa s.alts.length ac) := by simp [cellAt, hg0]
  have hc2 : cellsAt H' (H.n + 2) 0 3 = some [.int .i64 ct, .int .i64 cm, .bool cl] := by simp [cellsAt, hg2]
  have hc3 : cellAt H' (H.n + 2) 2 = some (.bool cl) := by simp [cellAt, hg2]
  have hn0 : H.n < H'.n := by omega
  have hn1 : H.n + 1 < H'.n := by omega
  have HX := Lib.hid hx
  have HG0 := Lib.hid hg0
  have HG1 := Lib.hid hg1
  clear hx hg0
  by_cases hlt : k < s.alts.length
  · clear hg1
    obtain ⟨b, o, sp, rfl, hb, hx6, -⟩ := (HA.out.ext HX.out).at_ hlt
    have HD := Lib.hid (List.drop_eq_getElem_cons hlt)
    generalize s.alts[k] = a at hx6 HD
    obtain ⟨i, kd, dy, fr, to, wd⟩ := a
    simp only [Alt.cells] at hx6
    have hne : H.n + 2 ≠ H'.n := by omega
    repeat' (first|(with_reducible first|refine zA ?_|refine zB fun K hK=>?_|refine zC fun K2 hK2=>?_|refine zD ?_|refine zE ?_|refine zF ?_|refine zG ?_|refine zH ?_|refine zI ?_|refine zM ?_|refine zN ?_|refine zO ?_|refine zP ?_|refine zQ ?_|refine zR ?_)|((with_reducible refine zU (hK _ _ ?_));clear hK K)|((with_reducible refine zV ?_ ?_ fun K1 K3 d hdst h1 h3=>?_);rfl;exact yB rfl;cases hdst;go_simp)|((with_reducible refine zW fun K1 K3 h1 h3=>?_);go_simp)|((first|refine h1 ?_|refine h3 ?_);clear h1 h3 K1 K3)|((first|refine zX (fun hb=>h1 ?_) (fun hb=>h3 ?_)|refine zX (fun hb=>h3 ?_) (fun hb=>h1 ?_))<;>(clear h1 h3 K1 K3;(try have hb2:=yC hb);(try have hb2:=yD hb);(try have hb2:=yE hb);(try have hb2:=yF hb);(try have hb2:=yG hb)))|(refine fun (K2:_→AHeap→Prop) hK2=>?_)|((with_reducible refine zY ?_ ?_);decide)|((with_reducible first|refine zZ ?_ (fun K hK=>?_)|refine yA ?_ (fun K hK=>?_));(focus go_simp;done);go_simp;refine hK _ _ ?_;clear hK K)|(go_simp;(try go_bits);refine hK2 _ _ ?_;clear hK2 K2))
    all_goals
      refine Post.round_normal ⟨s.alts.length - (k + 1), by omega, k + 1, (if win fr to ln = true ∧ dy ≤ d then Has.after ⟨ct, cm, cl⟩ ⟨i, kd, dy, fr, to, wd⟩ else ⟨ct, cm, cl⟩), by omega, rfl, (by first|go_simp<;>go_num|assumption), (by first|go_simp<;>go_num|assumption), (by first|go_simp<;>go_num|assumption), (by first|go_simp<;>go_num|assumption), (by first|go_simp<;>go_num|assumption), (by first|go_simp<;>go_num|assumption), (by first|go_simp<;>go_num|assumption), Lib.hid ?_, ?_, ?_, ?_, ?_, ?_⟩
      · rw [← HG.out, HD.out, atDay]; split <;> rfl
      · simp only [AHeap.n_push, AHeap.n_upd]; omega
      · first | exact HX.out.push' _ | exact (HX.out.upd (by omega) _).push' _
      · first | (rw [AHeap.get_push_old (by omega)]; exact HG0.out) | (rw [AHeap.get_push_old (by rw [AHeap.n_upd]; omega), AHeap.get_upd_ne (by omega)]; exact HG0.out)
      · first | (rw [AHeap.get_push_old (by omega)]; exact HG1.out) | (rw [AHeap.get_push_old (by rw [AHeap.n_upd]; omega), AHeap.get_upd_ne (by omega)]; exact HG1.out)
      · clear HG HD HX HG0 HG1 hc0 hc1 hc2 hc3 hx6 HA hd f8 f3 f1 f2 f6 f7
        first
          | (rw [AHeap.get_push_old (by omega), if_neg (by rw [win_iff]; omega)]; exact hg2)
          | (rw [if_pos ⟨win_iff.2 ⟨by omega, by omega⟩, by omega⟩, AHeap.get_push_old (by omega)]; rw [hg2]; first | (simp [Has.after, *]; done) | (simp_all [Has.after]; done))
          | (rw [if_pos ⟨win_iff.2 ⟨by omega, by omega⟩, by omega⟩, AHeap.get_push_old (by rw [AHeap.n_upd]; omega), AHeap.get_upd_same]; clear hg2; simp [Has.after, *]; done)
  · repeat' (first|(with_reducible first|refine zA ?_|refine zB fun K hK=>?_|refine zC fun K2 hK2=>?_|refine zD ?_|refine zE ?_|refine zF ?_|refine zG ?_|refine zH ?_|refine zI ?_|refine zM ?_|refine zN ?_|refine zO ?_|refine zP ?_|refine zQ ?_|refine zR ?_)|((with_reducible refine zU (hK _ _ ?_));clear hK K)|((with_reducible refine zV ?_ ?_ fun K1 K3 d hdst h1 h3=>?_);rfl;exact yB rfl;cases hdst;go_simp)|((with_reducible refine zW fun K1 K3 h1 h3=>?_);go_simp)|((first|refine h1 ?_|refine h3 ?_);clear h1 h3 K1 K3)|((first|refine zX (fun hb=>h1 ?_) (fun hb=>h3 ?_)|refine zX (fun hb=>h3 ?_) (fun hb=>h1 ?_))<;>(clear h1 h3 K1 K3;(try have hb2:=yC hb);(try have hb2:=yD hb);(try have hb2:=yE hb);(try have hb2:=yF hb);(try have hb2:=yG hb)))|(refine fun (K2:_→AHeap→Prop) hK2=>?_)|((with_reducible refine zY ?_ ?_);decide)|((with_reducible first|refine zZ ?_ (fun K hK=>?_)|refine yA ?_ (fun K hK=>?_));(focus go_simp;done);go_simp;refine hK _ _ ?_;clear hK K)|(go_simp;(try go_bits);refine hK2 _ _ ?_;clear hK2 K2))
    refine ⟨?_, ?_⟩
    · rw [← HG.out, List.drop_eq_nil_of_le (by omega)]; rfl
    · exact HX.out.upd (by omega) _

theorem can_s {loops : List (Nat × LInfo)} {H : AHeap} {sv : Value} {s : Sheet} {line d w : Int} (hs : SheetV H sv s) (hl0 : 0 ≤ line) (hl1 : line < s.words.length) : CallS Tryz.prog loops 48 [sv, .int .i64 line, .int .i64 d, .int .i64 w] H fun r H' => r = .bool ((hasOn s line d).offers w) ∧ H' = H := by
  refine CallS.forget (R := fun v => v = .bool ((hasOn s line d).offers w)) (by rintro v rfl; rfl) ?_
  have HON := Lib.hid (fun (loops : List (Nat × LInfo)) (H2 : AHeap) (hx : Ext H H2) => on_e (loops := loops) (d := d) (hs.ext hx) hl0 hl1)
  obtain ⟨wv, av, rfl, hw, ha⟩ := hs
  obtain ⟨hwl, wa, wc, rfl⟩ := hw.slice
  obtain ⟨hal, aa, ac, rfl⟩ := ha.slice
  clear hw ha
  generalize hasOn s line d = c at HON
  obtain ⟨ct, cm, cl⟩ := c
  refine CallS.enter' Tryz.func48 rfl Tryz.ntmps48 (by simp) fun f hd hf => ?_
  have f0 := hf 0
  have f1 := hf 1
  have f2 := hf 2
  have f3 := hf 3
  simp at f0 f1 f2 f3
  clear hf
  repeat' (first|(with_reducible first|refine zA ?_|refine zB fun K hK=>?_|refine zC fun K2 hK2=>?_|refine zD ?_|refine zE ?_|refine zF ?_|refine zG ?_|refine zH ?_|refine zI ?_|refine zM ?_|refine zN ?_|refine zO ?_|refine zP ?_|refine zQ ?_|refine zR ?_)|((with_reducible refine zU (hK _ _ ?_));clear hK K)|((with_reducible refine zV ?_ ?_ fun K1 K3 d hdst h1 h3=>?_);rfl;exact yB rfl;cases hdst;go_simp)|((with_reducible refine zW fun K1 K3 h1 h3=>?_);go_simp)|((first|refine h1 ?_|refine h3 ?_);clear h1 h3 K1 K3)|((first|refine zX (fun hb=>h1 ?_) (fun hb=>h3 ?_)|refine zX (fun hb=>h3 ?_) (fun hb=>h1 ?_))<;>(clear h1 h3 K1 K3;(try have hb2:=yC hb);(try have hb2:=yD hb);(try have hb2:=yE hb);(try have hb2:=yF hb);(try have hb2:=yG hb)))|(refine fun (K2:_→AHeap→Prop) hK2=>?_)|((with_reducible refine zY ?_ ?_);decide)|((with_reducible first|refine zZ ?_ (fun K hK=>?_)|refine yA ?_ (fun K hK=>?_));(focus go_simp;done);go_simp;refine hK _ _ ?_;clear hK K)|(go_simp;(try go_bits);(try first | ((with_reducible show CallS _ _ _ _ _ _);refine CallS.mono (HON.out _ _ (Ext.push _)) ?_; rintro _ H2 ⟨rfl, hx⟩; (have HX := Lib.hid hx); clear hx; (try simp only [Has.val])));refine hK2 _ _ ?_;clear hK2 K2))
  all_goals
    refine ⟨?_, (((Ext.push _).trans HX.out)).push' _⟩
    simp_all [Has.offers]
end Go.Proofs.Tryz
