/- Contracts of functions, walked. -/
import Derived.Test.YtgddlpegljkgpaaGreatStSN
import Derived.Test.YtgddlpegljkgpaaGreatAwB
set_option linter.all false
namespace Go.Proofs.Tryz
open Go Go.Am Go.RowKit Go.Co
set_option maxRecDepth 100000

def rowOf (s : Sheet) (c : Copy) (i : Nat) : List (Int × Int) := cutS c.beg c.fin (joinL (offS (strs s i) (c.words.getD i 0)))
def courseOf (s : Sheet) (c : Copy) : Course := ⟨(List.range c.words.length).map (rowOf s c), c.per⟩

def SpansIn (lo hi : Nat) (H : AHeap) (v : Value) (l : List (Int × Int)) : Prop := (spanCells l).length = l.length * 2 ∧ l.length ≤ 9223372036854775807 ∧ ∃ a c, v = .slice a l.length c ∧ (0 < l.length → ∃ b o sp, a = some ⟨b, o, sp⟩ ∧ lo ≤ b ∧ b < hi ∧ ∀ j u, (spanCells l)[j]? = some u → cellAt H b (o + j) = some u)
theorem SpansIn.spans {lo hi : Nat} {H : AHeap} {v : Value} {l : List (Int × Int)} (h : SpansIn lo hi H v l) (hh : hi ≤ H.n) : Spans H v l := by
  obtain ⟨h1, h2, a, c, h3, h4⟩ := h
  refine ⟨h1, h2, a, c, h3, fun hn => ?_⟩
  obtain ⟨b, o, sp, h5, h6, h7, h8⟩ := h4 hn
  exact ⟨b, o, sp, h5, by omega, h8⟩
theorem SpansIn.keep {lo hi lo' hi' : Nat} {H H' : AHeap} {v : Value} {l : List (Int × Int)} (h : SpansIn lo hi H v l) (hl : lo' ≤ lo) (hh : hi ≤ hi') (hk : ∀ i, lo ≤ i → i < hi → H'.get i = H.get i) : SpansIn lo' hi' H' v l := by
  obtain ⟨h1, h2, a, c, h3, h4⟩ := h
  refine ⟨h1, h2, a, c, h3, fun hn => ?_⟩
  obtain ⟨b, o, sp, h5, h6, h7, h8⟩ := h4 hn
  exact ⟨b, o, sp, h5, by omega, by omega, fun j u hu => by rw [cellAt_get (hk b h6 h7)]; exact h8 j u hu⟩
theorem SpansIn.of_own {base : Nat} {H : AHeap} {v : Value} {l : List (Int × Int)} (h : Own H base v 68 2 (spanCells l)) (hl : l.length ≤ 9223372036854775807) : SpansIn base H.n H v l := by
  have hlen := spanCells_length l
  rcases h with ⟨rfl, h2⟩ | ⟨b, n, rfl, h2, h3, h4, h5, h6⟩
  · have : l.length = 0 := by rw [h2] at hlen; simp at hlen; omega
    exact ⟨hlen, hl, none, 0, by rw [this], by omega⟩
  · have hn : n = l.length := by omega
    subst hn
    refine ⟨hlen, hl, _, _, rfl, fun _ => ⟨b, 0, none, rfl, h2, h3, fun j u hu => ?_⟩⟩
    simp only [cellAt, h4, Nat.zero_add]; exact hu
theorem SpansIn.slice {lo hi : Nat} {H : AHeap} {v : Value} {l : List (Int × Int)} (h : SpansIn lo hi H v l) : ∃ a c, v = .slice a l.length c := by
  obtain ⟨h1, h2, a, c, h3, h4⟩ := h
  exact ⟨a, c, h3⟩

def RowsTo (lo hi : Nat) (H : AHeap) (vs : List Value) (L : List (List (Int × Int))) : Prop := vs.length = L.length ∧ ∀ (i : Nat) (h : i < L.length), ∃ u, vs[i]? = some u ∧ SpansIn lo hi H u L[i]
theorem RowsTo.snoc {lo hi : Nat} {H : AHeap} {vs : List Value} {L : List (List (Int × Int))} {u : Value} {l : List (Int × Int)} (h : RowsTo lo hi H vs L) (hu : SpansIn lo hi H u l) : RowsTo lo hi H (vs ++ [u]) (L ++ [l]) := by
  refine ⟨by simp [h.1], fun i hi => ?_⟩
  rcases Nat.lt_or_ge i L.length with hlt | hge
  · obtain ⟨w, h1, h2⟩ := h.2 i hlt
    exact ⟨w, by rw [List.getElem?_append_left (by rw [h.1]; exact hlt)]; exact h1, by rw [List.getElem_append_left hlt]; exact h2⟩
  · have : i = L.length := by simp at hi; omega
    subst this
    refine ⟨u, by rw [← h.1]; simp, ?_⟩
    rw [List.getElem_append_right (Nat.le_refl _)]
    simpa using hu
theorem RowsTo.keep {lo hi lo' hi' : Nat} {H H' : AHeap} {vs : List Value} {L : List (List (Int × Int))} (h : RowsTo lo hi H vs L) (hl : lo' ≤ lo) (hh : hi ≤ hi') (hk : ∀ i, lo ≤ i → i < hi → H'.get i = H.get i) : RowsTo lo' hi' H' vs L :=
  ⟨h.1, fun i hi => by obtain ⟨w, h1, h2⟩ := h.2 i hi; exact ⟨w, h1, h2.keep hl hh hk⟩⟩
theorem RowsTo.one {lo hi : Nat} {H : AHeap} {vs : List Value} {L : List (List (Int × Int))} (h : RowsTo lo hi H vs L) : vs.all oneV = true := by
  rw [List.all_eq_true]
  intro v hv
  obtain ⟨i, hi, rfl⟩ := List.mem_iff_getElem.1 hv
  obtain ⟨u, h1, h2⟩ := h.2 i (by rw [← h.1]; exact hi)
  rw [List.getElem?_eq_getElem hi] at h1
  cases h1
  obtain ⟨a, c, h3⟩ := h2.slice
  rw [h3]; rfl
theorem RowsTo.rows {lo hi : Nat} {H : AHeap} {base : Nat} {v : Value} {vs : List Value} {L : List (List (Int × Int))} (h : RowsTo lo hi H vs L) (ho : Own H base v 64 1 vs) (hh : hi ≤ H.n) (hl : L.length ≤ 9223372036854775807) : Rows H v L := by
  refine ⟨vs, ?_, fun i hi => by obtain ⟨w, h1, h2⟩ := h.2 i hi; exact ⟨w, h1, h2.spans hh⟩⟩
  rcases ho with ⟨rfl, h2⟩ | ⟨b, n, rfl, h2, h3, h4, h5, h6⟩
  · have h7 := h.1
    rw [h2] at h7
    have h8 : L.length = 0 := by simpa using h7.symm
    exact ⟨by rw [h2, h8]; rfl, hl, none, 0, by rw [h8], by omega⟩
  · have hn : n = L.length := by rw [← h.1]; omega
    subst hn
    refine ⟨by rw [h.1]; omega, hl, _, _, rfl, fun _ => ⟨b, 0, none, rfl, h3, fun j u hu => ?_⟩⟩
    simp only [cellAt, h4, Nat.zero_add]; exact hu

theorem get_at {H : AHeap} {b : Nat} {o : AObj} (h : b = H.n) : (H.push o).get b = o := by rw [h, AHeap.get_push_new]
theorem rowOf_len {s : Sheet} {c : Copy} {i : Nat} (h : (strs s i).length ≤ 1000) : (rowOf s c i).length ≤ 1000 := by
  unfold rowOf
  have h1 := cutS_le c.beg c.fin (joinL (offS (strs s i) (c.words.getD i 0)))
  have h2 := joinL_le (offS (strs s i) (c.words.getD i 0))
  have h3 := offS_le (strs s i) (c.words.getD i 0)
  omega

theorem courseOf_len (s : Sheet) (c : Copy) : (courseOf s c).open_.length = c.words.length := by simp [courseOf]
set_option maxHeartbeats 4000000 in
def CourseFrom (b : Nat) (H : AHeap) (v : Value) (x : Course) : Prop := ∀ G : AHeap, H.n ≤ G.n → (∀ i, b ≤ i → i < H.n → G.get i = H.get i) → CourseV G v x
theorem CourseFrom.v {b : Nat} {H : AHeap} {v : Value} {x : Course} (h : CourseFrom b H v x) : CourseV H v x := h H (Nat.le_refl _) fun _ _ _ => rfl
theorem courseOf_f {loops : List (Nat × LInfo)} {H : AHeap} {sv cv : Value} {s : Sheet} {c : Copy} (hs : SheetV H sv s) (hc : CopyV H cv c) (he : errCopy s c = 0) : CallS Tryz.prog loops 43 [sv, cv] H fun r H' => CourseFrom H.n H' r (courseOf s c) ∧ Ext H H' := by
  have HV := Lib.hid hs
  obtain ⟨wv, av, rfl, hw, ha⟩ := hs
  obtain ⟨hwl, wa, wc, rfl⟩ := hw.slice
  obtain ⟨hal, aa, ac, rfl⟩ := ha.slice
  obtain ⟨cv, rfl, hcw⟩ := hc
  obtain ⟨hcl, ca, cc, rfl⟩ := hcw.slice
  have HCW := Lib.hid hcw
  clear hw ha hcw
  obtain ⟨he0, hlen, hwo, -⟩ := errCopy_ok he
  have hso := (err_ok he0).1
  have hal4 := (err_ok he0).2.2.2
  have hwn : s.words.length ≤ 40 := by have := (win_iff.1 (err_ok he0).2.1).2; omega
  have HLEN := Lib.hid hlen
  have HSO := Lib.hid hso
  have hsl : ∀ i : Int, (strs s i).length ≤ 1000 := fun i => by have := go_le i s.alts 0 ⟨s.words[i.toNat]!, 0, false⟩; unfold strs; omega
  have HSL := Lib.hid hsl
  have hcn : c.words.length ≤ 40 := by omega
  clear he he0 hlen hso hsl
  refine CallS.enter' Tryz.func43 rfl Tryz.ntmps43 (by simp) fun f hd hf => ?_
  have f0 := hf 0
  have f1 := hf 1
  simp at f0 f1
  clear hf
  repeat' (first|(with_reducible first|refine zA ?_|refine zB fun K hK=>?_|refine zC fun K2 hK2=>?_|refine zD ?_|refine zE ?_|refine zF ?_|refine zG ?_|refine zH ?_|refine zI ?_|refine zM ?_|refine zN ?_|refine zO ?_|refine zP ?_|refine zQ ?_|refine zR ?_)|((with_reducible refine zU (hK _ _ ?_));clear hK K)|((with_reducible refine zV ?_ ?_ fun K1 K3 d hdst h1 h3=>?_);rfl;exact yB rfl;cases hdst;go_simp)|((with_reducible refine zW fun K1 K3 h1 h3=>?_);go_simp)|((first|refine h1 ?_|refine h3 ?_);clear h1 h3 K1 K3)|((first|refine zX (fun hb=>h1 ?_) (fun hb=>h3 ?_)|refine zX (fun hb=>h3 ?_) (fun hb=>h1 ?_))<;>(clear h1 h3 K1 K3;(try have hb2:=yC hb);(try have hb2:=yD hb);(try have hb2:=yE hb);(try have hb2:=yF hb);(try have hb2:=yG hb)))|(refine fun (K2:_→AHeap→Prop) hK2=>?_)|((with_reducible refine zY ?_ ?_);decide)|((with_reducible first|refine zZ ?_ (fun K hK=>?_)|refine yA ?_ (fun K hK=>?_));(focus go_simp;done);go_simp;refine hK _ _ ?_;clear hK K)|(go_simp;(try go_bits);refine hK2 _ _ ?_;clear hK2 K2))
  refine CodeS.loop (fun m f H' => ∃ (k : Nat) (v : Value) (vs : List Value) (q : Nat), k ≤ c.words.length ∧ m = c.words.length - k ∧ f.tmp 15 = .int .i64 k ∧ f.tmp 14 = .int .i64 c.words.length ∧ f.tmp 13 = .slice ca c.words.length cc ∧ f.tmp 2 = .pointer (some ⟨H.n, 0, none⟩) ∧ f.tmp 3 = .pointer (some ⟨H.n + 1, 0, none⟩) ∧ f.tmp 4 = .pointer (some ⟨H.n + 2, 0, none⟩) ∧ f.tmp 5 = .pointer (some ⟨H.n + 3, 0, none⟩) ∧ f.defers = [] ∧ H.n + 4 ≤ q ∧ q ≤ H'.n ∧ Hid (Ext H H') ∧ Hid (H'.get H.n = .row [Value.slice wa s.words.length wc, Value.slice aa s.alts.length ac] 25) ∧ Hid (H'.get (H.n + 1) = .row [Value.slice ca c.words.length cc, .int .i64 c.beg, .int .i64 c.fin, .int .i64 c.per] 27) ∧ Hid (H'.get (H.n + 2) = .row [Value.slice none 0 0, .int .i64 0] 79) ∧ Hid (H'.get (H.n + 3) = .row [v, .int .i64 c.per] 79) ∧ Hid (Own H' q v 64 1 vs) ∧ Hid (RowsTo (H.n + 4) q H' vs ((List.range k).map (rowOf s c)))) c.words.length ?_ ?_
  · refine ⟨0, .slice none 0 0, [], H.n + 4, by simp, by simp, (by first|go_simp<;>go_num|assumption), (by first|go_simp<;>go_num|assumption), (by first|go_simp<;>go_num|assumption), (by first|go_simp<;>go_num|assumption), (by first|go_simp<;>go_num|assumption), (by first|go_simp<;>go_num|assumption), (by first|go_simp<;>go_num|assumption), (by first|go_simp<;>go_num|assumption), Nat.le_refl _, by simp only [AHeap.n_push]; omega, Lib.hid ((((Ext.refl _).push' _).push' _).push' _ |>.push' _), Lib.hid ?_, Lib.hid ?_, Lib.hid ?_, Lib.hid ?_, Lib.hid Own.nil, Lib.hid ⟨rfl, fun i h => by simp at h⟩⟩
    · rw [AHeap.get_push_old (by simp only [AHeap.n_push]; omega), AHeap.get_push_old (by simp only [AHeap.n_push]; omega), AHeap.get_push_old (by simp only [AHeap.n_push]; omega), get_at rfl]
    · rw [AHeap.get_push_old (by simp only [AHeap.n_push]; omega), AHeap.get_push_old (by simp only [AHeap.n_push]; omega), get_at (by simp only [AHeap.n_push])]
    · rw [AHeap.get_push_old (by simp only [AHeap.n_push]; omega), get_at (by simp only [AHeap.n_push])]
    · rw [get_at (by simp only [AHeap.n_push])]
  clear f0 f1 hd f
  rintro m f H' ⟨k, v, vs, q, hk, rfl, f15, f14, f13, f2, f3, f4, f5, hd, hq0, hq1, HX, HG0, HG1, HG2, HG3, HO, HR⟩
  have hcs : ∀ H2, Ext H' H2 → cellsAt H2 H.n 0 2 = some [Value.slice wa s.words.length wc, Value.slice aa s.alts.length ac] ∧ cellAt H2 (H.n + 1) 1 = some (.int .i64 c.beg) ∧ cellAt H2 (H.n + 1) 2 = some (.int .i64 c.fin) ∧ cellAt H2 (H.n + 3) 0 = some v ∧ H.n < H2.n ∧ H.n + 1 < H2.n ∧ H.n + 3 < H2.n := by
    intro H2 hx
    have hn := hx.n
    exact ⟨by simp [cellsAt, hx.get H.n (by omega), HG0.out], by simp [cellAt, hx.get (H.n + 1) (by omega), HG1.out], by simp [cellAt, hx.get (H.n + 1) (by omega), HG1.out], by simp [cellAt, hx.get (H.n + 3) (by omega), HG3.out], by omega, by omega, by omega⟩
  have HCS := Lib.hid hcs
  clear hcs
  by_cases hlt : k < c.words.length
  · obtain ⟨b, o, sp, rfl, hb, hx1⟩ := (HCW.out.ext HX.out).at_ hlt
    have hro : Hid (rowOf s c k = cutS c.beg c.fin (joinL (offS (strs s k) (c.words[k])))) := Lib.hid (by simp [rowOf, hlt])
    have HRL := Lib.hid (rowOf_len (c := c) (HSL.out k))
    generalize c.words[k] = w at hx1 hro
    obtain ⟨r1, r2, r3, r4, r5, r6, r7⟩ := HCS.out H' (Ext.refl _)
    obtain ⟨va, vn, rfl⟩ := own_slice HO.out
    have hvl : Hid (vs.length = k) := Lib.hid (by rw [HR.out.1]; simp)
    have hjl : Hid ((joinL (offS (strs s k) w)).length ≤ 1000) := Lib.hid (by
      have h2 := joinL_le (offS (strs s k) w)
      have h3 := offS_le (strs s k) w
      have h4 := HSL.out k
      omega)
    have hbig : (vs.length + 1) * max 24 1 ≤ 1073741824 := by have := hvl.out; simp; omega
    have HBIG := Lib.hid hbig
    have HONE : Hid (vs.all oneV = true) := Lib.hid HR.out.one
    clear hbig
    repeat' (first|(with_reducible first|refine zA ?_|refine zB fun K hK=>?_|refine zC fun K2 hK2=>?_|refine zD ?_|refine zE ?_|refine zF ?_|refine zG ?_|refine zH ?_|refine zI ?_|refine zM ?_|refine zN ?_|refine zO ?_|refine zP ?_|refine zQ ?_|refine zR ?_)|((with_reducible refine zU (hK _ _ ?_));clear hK K)|((with_reducible refine zV ?_ ?_ fun K1 K3 d hdst h1 h3=>?_);rfl;exact yB rfl;cases hdst;go_simp)|((with_reducible refine zW fun K1 K3 h1 h3=>?_);go_simp)|((first|refine h1 ?_|refine h3 ?_);clear h1 h3 K1 K3)|((first|refine zX (fun hb=>h1 ?_) (fun hb=>h3 ?_)|refine zX (fun hb=>h3 ?_) (fun hb=>h1 ?_))<;>(clear h1 h3 K1 K3;(try have hb2:=yC hb);(try have hb2:=yD hb);(try have hb2:=yE hb);(try have hb2:=yF hb);(try have hb2:=yG hb)))|(refine fun (K2:_→AHeap→Prop) hK2=>?_)|((with_reducible refine zY ?_ ?_);decide)|((with_reducible first|refine zZ ?_ (fun K hK=>?_)|refine yA ?_ (fun K hK=>?_));(focus go_simp;done);go_simp;refine hK _ _ ?_;clear hK K)|((with_reducible refine yH mixed rfl ?_ 20 fun K0 hK0=>?_);kernel_rfl)|(with_reducible first|exact yI|exact yJ|refine yK ?_|refine yL ?_|refine yM ?_)|((with_reducible first|refine yN ?_ ?_|refine yO ?_ ?_|refine yP ?_ ?_);rfl)|((with_reducible refine yQ ?_ ?_);rfl;refine hK0 _ _ ?_;clear hK0 K0)|((with_reducible refine yR ?_ ?_ ?_ ?_);rfl;rfl;rfl)|((with_reducible refine yS ?_ ?_ ?_ fun K2 hK2=>?_);rfl;rfl;exact yB rfl)|((with_reducible refine yT ?_ ?_ ?_ ?_ fun K1 K3 d hdst h1 h3=>?_);rfl;rfl;rfl;exact yB rfl;cases hdst;go_simp)|((with_reducible refine yU ?_ ?_ ?_ ?_ fun K1 K3 d hdst h1 h3=>?_);rfl;rfl;rfl;exact yB rfl;cases hdst;go_simp)|((with_reducible refine yV ?_ ?_ (fun K2 hK2=>?_) ?_);rfl;exact yB rfl)|((with_reducible refine yW ?_ ?_ ?_ ?_ (fun K2 hK2=>?_) ?_);rfl;exact yB rfl;rfl;(focus go_simp;done))|((with_reducible refine yX ?_ ?_ ?_ (fun K2 hK2=>?_) ?_);rfl;rfl;exact yB rfl)|((with_reducible refine yY ?_ ?_ (fun K2 hK2=>?_) ?_);rfl;rfl)|((with_reducible refine yZ ?_ ?_);(first|rfl|(dsimp only;decide +kernel)))|((with_reducible refine xA ?_ ?_);(focus go_simp;done))|(go_simp;(try go_bits);(try first |((with_reducible show CallS _ _ _ _ _ _);first|(refine CallS.mono (copyable_e (s := s) (word := w) (HV.out.ext HX.out) (Ext.refl _)) ?_; rintro qv H2 ⟨hq, hx⟩; (have HQ := Lib.hid hq); (have HX2 := Lib.hid hx); clear hq hx)|(refine CallS.mono (joined_e (HQ.out.gives (by omega) (by have := HLEN.out; omega) HSO.out) (HSL.out _)) ?_; rintro jv H3 ⟨ho, hx⟩; (have HJ := Lib.hid (spans_of_own ho (by have := hjl.out; omega))); (have HX3 := Lib.hid (HX2.out.trans hx)); (obtain ⟨-, ja, jc, hjv⟩ := HJ.out.slice); subst hjv; (obtain ⟨s1, s2, s3, s4, s5, s6, s7⟩ := HCS.out _ (HX2.out.trans hx)); clear ho hx)|(refine CallS.mono (cut_e HJ.out hjl.out) ?_; rintro uv H4 ⟨ho, hx⟩; (have HU := Lib.hid ho); (have HX4 := Lib.hid (HX3.out.trans hx)); (have HY4 := Lib.hid hx); (obtain ⟨ua, un, huv⟩ := own_slice ho); subst huv; (obtain ⟨t1, t2, t3, t4, t5, t6, t7⟩ := HCS.out _ (HX3.out.trans hx)); clear ho hx))|((refine one_v el77 sz64 ze64 rfl (by decide) (by decide) rfl rfl ?_); go_simp)|((refine append_v el77 sz64 by64 ze64 rfl (by decide) ((HO.out.ext HX4.out).ext (Ext.push _)) (srcCells_new rfl) (by decide) rfl (by rw [List.all_append, HONE.out]; rfl) HBIG.out (by simp only [AHeap.n_push]; have := HX4.out.n; omega) fun v2 H5 ho5 hg5 => ?_); (obtain ⟨va2, vn2, rfl⟩ := own_slice ho5); (have HO5 := Lib.hid ho5); (have HG5 := Lib.hid hg5); (have hget5 : ∀ i, i < H.n + 4 → H5.get i = H'.get i := fun i hi => (hg5.2 i (by simp only [AHeap.n_push]; omega) (fun b n hv hn => by have := (own_block HO.out hv hn).1; omega)).trans ((AHeap.get_push_old (by omega)).trans (HX4.out.get i (by omega)))); (have HGET := Lib.hid hget5); (have hg53 : H5.get (H.n + 3) = .row [Value.slice va vn vn, .int .i64 c.per] 79 := (hget5 _ (by omega)).trans HG3.out); (have u1 : cellAt H5 (H.n + 1) 1 = some (.int .i64 c.beg) := by simp [cellAt, hget5 (H.n + 1) (by omega), HG1.out]); (have u2 : cellAt H5 (H.n + 1) 2 = some (.int .i64 c.fin) := by simp [cellAt, hget5 (H.n + 1) (by omega), HG1.out]); (have u3 : cellAt H5 (H.n + 3) 0 = some (Value.slice va vn vn) := by simp [cellAt, hg53]); (have hn5 : H4.n < H5.n := by have := hg5.1; simp only [AHeap.n_push] at this; omega); (have hx5 : Ext H H5 := ⟨by have := HX.out.n; have := HX4.out.n; omega, fun i hi => (hget5 i (by omega)).trans (HX.out.get i hi)⟩); (have HX5 := Lib.hid hx5); clear ho5 hg5 hget5 hx5; go_simp));(first|(refine hK2 _ _ ?_ ?_<;>clear hK2 K2)|(refine hK2 _ _ ?_;clear hK2 K2))))
    have hq9 : H'.n ≤ H4.n := HX4.out.n
    have hk6 : ∀ i, i ≠ H.n + 3 → i < H5.n → (H5.upd (H.n + 3) (.row [Value.slice va2 vn2 vn2, .int .i64 c.per] 79)).get i = H5.get i := fun i hi _ => AHeap.get_upd_ne hi
    refine Post.round_normal ⟨c.words.length - (k + 1), by omega, k + 1, .slice va2 vn2 vn2, vs ++ [.slice ua un un], H4.n, by omega, rfl, (by first|go_simp<;>go_num|assumption), (by first|go_simp<;>go_num|assumption), (by first|go_simp<;>go_num|assumption), (by first|go_simp<;>go_num|assumption), (by first|go_simp<;>go_num|assumption), (by first|go_simp<;>go_num|assumption), (by first|go_simp<;>go_num|assumption), (by first|go_simp<;>go_num|assumption), by omega, by rw [AHeap.n_upd]; omega, Lib.hid (HX5.out.upd (by omega) _), Lib.hid ?_, Lib.hid ?_, Lib.hid ?_, Lib.hid AHeap.get_upd_same, Lib.hid ?_, Lib.hid ?_⟩
    · rw [AHeap.get_upd_ne (by omega), HGET.out _ (by omega)]; exact HG0.out
    · rw [AHeap.get_upd_ne (by omega), HGET.out _ (by omega)]; exact HG1.out
    · rw [AHeap.get_upd_ne (by omega), HGET.out _ (by omega)]; exact HG2.out
    · exact own_upd (HO5.out.mono (by rw [AHeap.n_push]; omega)) (by omega)
    · have hkeep : ∀ i, H.n + 4 ≤ i → i < H4.n → (∀ b n, Value.slice va vn vn = .slice (some ⟨b, 0, none⟩) n n → 0 < n → i ≠ b) → (H5.upd (H.n + 3) (.row [Value.slice va2 vn2 vn2, .int .i64 c.per] 79)).get i = H4.get i := fun i h1 h2 h3 => by
        rw [AHeap.get_upd_ne (by omega), HG5.out.2 i (by rw [AHeap.n_push]; omega) h3, AHeap.get_push_old h2]
      rw [List.range_succ, List.map_append]
      refine RowsTo.snoc (HR.out.keep (Nat.le_refl _) (by omega) fun i h1 h2 => ?_) ?_
      · rw [hkeep i h1 (by omega) (fun b n hv hn => by have := (own_block HO.out hv hn).1; omega)]
        exact HX4.out.get i (by omega)
      · rw [hro.out]
        refine (SpansIn.of_own HU.out (by have h1 := cutS_le c.beg c.fin (joinL (offS (strs s k) w)); have := hjl.out; omega)).keep (by have h1 := HX3.out.n; omega) (Nat.le_refl _) fun i h1 h2 => ?_
        exact hkeep i (by have := HX3.out.n; omega) h2 (fun b n hv hn => by have := (own_block HO.out hv hn).2.1; have := HX3.out.n; omega)
  · have hg2 := HG2.out
    have hg3 := HG3.out
    have hcc : cellsAt H' (H.n + 3) 0 2 = some [v, .int .i64 c.per] := by simp [cellsAt, hg3]
    obtain ⟨r1, r2, r3, r4, r5, r6, r7⟩ := HCS.out H' (Ext.refl _)
    have r8 : H.n + 2 < H'.n := by omega
    obtain ⟨va, vn, rfl⟩ := own_slice HO.out
    clear hg3 HCS
    repeat' (first|(with_reducible first|refine zA ?_|refine zB fun K hK=>?_|refine zC fun K2 hK2=>?_|refine zD ?_|refine zE ?_|refine zF ?_|refine zG ?_|refine zH ?_|refine zI ?_|refine zM ?_|refine zN ?_|refine zO ?_|refine zP ?_|refine zQ ?_|refine zR ?_)|((with_reducible refine zU (hK _ _ ?_));clear hK K)|((with_reducible refine zV ?_ ?_ fun K1 K3 d hdst h1 h3=>?_);rfl;exact yB rfl;cases hdst;go_simp)|((with_reducible refine zW fun K1 K3 h1 h3=>?_);go_simp)|((first|refine h1 ?_|refine h3 ?_);clear h1 h3 K1 K3)|((first|refine zX (fun hb=>h1 ?_) (fun hb=>h3 ?_)|refine zX (fun hb=>h3 ?_) (fun hb=>h1 ?_))<;>(clear h1 h3 K1 K3;(try have hb2:=yC hb);(try have hb2:=yD hb);(try have hb2:=yE hb);(try have hb2:=yF hb);(try have hb2:=yG hb)))|(refine fun (K2:_→AHeap→Prop) hK2=>?_)|((with_reducible refine zY ?_ ?_);decide)|((with_reducible first|refine zZ ?_ (fun K hK=>?_)|refine yA ?_ (fun K hK=>?_));(focus go_simp;done);go_simp;refine hK _ _ ?_;clear hK K)|(go_simp;(try go_bits);refine hK2 _ _ ?_;clear hK2 K2))
    have hkc : k = c.words.length := by omega
    subst hkc
    refine ⟨fun G hn hg => ⟨_, rfl, ?_⟩, HX.out.upd (by omega) _⟩
    rw [AHeap.n_upd] at hn hg
    refine RowsTo.rows (hi := q) (HR.out.keep (Nat.le_refl _) (Nat.le_refl _) fun i h1 h2 => (hg i (by omega) (by omega)).trans (AHeap.get_upd_ne (by omega))) (own_at (own_upd HO.out (by omega)) (by rw [AHeap.n_upd]; exact hn) fun i n hv hnn => hg i (by have := (own_block HO.out hv hnn).1; omega) (own_block HO.out hv hnn).2.1) (by omega) (by rw [courseOf_len]; exact hcl)
theorem courseOf_e {loops : List (Nat × LInfo)} {H : AHeap} {sv cv : Value} {s : Sheet} {c : Copy} (hs : SheetV H sv s) (hc : CopyV H cv c) (he : errCopy s c = 0) : CallS Tryz.prog loops 43 [sv, cv] H fun r H' => CourseV H' r (courseOf s c) ∧ Ext H H' :=
  CallS.mono (courseOf_f hs hc he) fun _ _ h => ⟨h.1.v, h.2⟩
theorem courseOf_at (s : Sheet) (c : Copy) {i : Nat} (h : i < c.words.length) : (courseOf s c).at_ i = rowOf s c i := by simp [courseOf, Course.at_, h]
theorem courseOf_ord {s : Sheet} {c : Copy} (h : errCopy s c = 0) : (courseOf s c).ord := by
  intro i
  have hs := (err_ok (errCopy_ok h).1).1
  by_cases hi : i < c.words.length
  · rw [courseOf_at s c hi]
    exact ordS_mono _ (by omega) (cutS_ord c.beg c.fin _ (whenS_ord hs))
  · have : (courseOf s c).at_ i = [] := by simp [courseOf, Course.at_, hi]
    rw [this]; trivial
theorem courseOf_ins {s : Sheet} {c : Copy} (h : errCopy s c = 0) {i : Nat} (hi : i < c.words.length) (d : Int) : ins ((courseOf s c).at_ i) d = ((decide (c.beg ≤ d) && decide (d ≤ c.fin)) && (hasOn s i d).offers (c.words.getD i 0)) := by
  obtain ⟨h0, h1, h2, h3, h4, h5, h6, h7⟩ := errCopy_ok h
  have hs := (err_ok h0).1
  rw [courseOf_at s c hi, rowOf, cutS_ins, whenS_ins hs, Bool.eq_iff_iff]
  simp only [Bool.and_eq_true, decide_eq_true_eq]
  constructor
  · rintro ⟨⟨a, b, e⟩, g⟩; exact ⟨g, e⟩
  · rintro ⟨g, e⟩; exact ⟨⟨by omega, by omega, e⟩, g⟩
end Go.Proofs.Tryz
namespace Go.Proofs.Tryz
open Go Go.Am Go.RowKit Go.Co
set_option maxRecDepth 100000

def backL (g : Nat → Value) : Nat → List Value
  | 0 => []
  | n + 1 => g n :: backL g n
def itemI (xs : List Int) (i : Nat) : Value := .tuple #[.int .i64 i, .int .i64 (xs.getD i 0)]

theorem backI_gives {loops ls : List (Nat × LInfo)} {H H0 : AHeap} {l room : Nat} {Rd : Nat → Prop} {It : Value → Prop} {S : List Value → (Nat → Prop) → AHeap → Prop} {L : List Value} {D : Nat → Prop} {p : Nat} {lv : Value} {xs : List Int}
    (hfl : LExt ls loops) (hg : Gen2 Tryz.prog l ls Rd room It S) (hS : S L D H) (hp : p < H.n) (hpD : ¬ D p) (hgp : H.get p = .row [lv] 22) (hl : Ints H0 lv xs) (hx : Ext H0 H) (hb : ∀ i, D i → H0.n ≤ i) (hit : ∀ i, i < xs.length → It (itemI xs i)) (hro : L.length + xs.length ≤ room) :
    CallS Tryz.prog loops 133 [.func (.yield l) #[] #[], .pointer (some ⟨p, 0, none⟩)] H fun _ H' => ∃ D', S (L ++ backL (itemI xs) xs.length) D' H' ∧ Step D H D' H' := by
  obtain ⟨hll, la, lc, rfl⟩ := hl.slice
  have hcp : cellAt H p 0 = some (.slice la xs.length lc) := by simp [cellAt, hgp]
  have HFL := Lib.hid hfl
  have HG := Lib.hid hg
  have HS := Lib.hid hS
  have HGP := Lib.hid hgp
  have HLI := Lib.hid hl
  have HX := Lib.hid hx
  have HB := Lib.hid hb
  have HPD := Lib.hid hpD
  have HIT := Lib.hid hit
  have HRO := Lib.hid hro
  generalize hitems : backL (itemI xs) xs.length = items
  have HITS := Lib.hid hitems
  clear hfl hg hS hgp hl hx hb hpD hit hro hitems
  refine CallS.enter' Tryz.func133 rfl Tryz.ntmps133 (by simp) fun f hd hf => ?_
  have f0 := hf 0
  have f1 := hf 1
  simp at f0 f1
  clear hf
  repeat' (first|(with_reducible first|refine zA ?_|refine zB fun K hK=>?_|refine zC fun K2 hK2=>?_|refine zD ?_|refine zE ?_|refine zF ?_|refine zG ?_|refine zH ?_|refine zI ?_|refine zM ?_|refine zN ?_|refine zO ?_|refine zP ?_|refine zQ ?_|refine zR ?_)|((with_reducible refine zU (hK _ _ ?_));clear hK K)|((with_reducible refine zV ?_ ?_ fun K1 K3 d hdst h1 h3=>?_);rfl;exact yB rfl;cases hdst;go_simp)|((with_reducible refine zW fun K1 K3 h1 h3=>?_);go_simp)|((first|refine h1 ?_|refine h3 ?_);clear h1 h3 K1 K3)|((first|refine zX (fun hb=>h1 ?_) (fun hb=>h3 ?_)|refine zX (fun hb=>h3 ?_) (fun hb=>h1 ?_))<;>(clear h1 h3 K1 K3;(try have hb2:=yC hb);(try have hb2:=yD hb);(try have hb2:=yE hb);(try have hb2:=yF hb);(try have hb2:=yG hb)))|(refine fun (K2:_→AHeap→Prop) hK2=>?_)|((with_reducible refine zY ?_ ?_);decide)|((with_reducible first|refine zZ ?_ (fun K hK=>?_)|refine yA ?_ (fun K hK=>?_));(focus go_simp;done);go_simp;refine hK _ _ ?_;clear hK K)|(go_simp;(try go_bits);refine hK2 _ _ ?_;clear hK2 K2))
  refine CodeS.loop (fun m f H' => ∃ (r : Nat) (D' : Nat → Prop) (L' : List Value), r ≤ xs.length ∧ m = r ∧ f.tmp 3 = .int .i64 ((r : Int) - 1) ∧ f.tmp 0 = .func (.yield l) #[] #[] ∧ f.tmp 1 = .pointer (some ⟨p, 0, none⟩) ∧ f.defers = [] ∧ Hid (S L' D' H') ∧ Hid (Step D H D' H') ∧ Hid (L' ++ backL (itemI xs) r = L ++ items) ∧ L'.length + r = L.length + xs.length) xs.length ?_ ?_
  · exact ⟨xs.length, D, L, Nat.le_refl _, rfl, (by first|go_simp<;>go_num|assumption), (by first|go_simp<;>go_num|assumption), (by first|go_simp<;>go_num|assumption), (by first|go_simp<;>go_num|assumption), HS, Lib.hid (Step.refl _ _), Lib.hid (by rw [HITS.out]), rfl⟩
  clear f0 f1 hd f HS
  rintro m f H' ⟨r, D', L', hr, hmr, f3, f0, f1, hd, HS, HST, HL, hln⟩
  have hcp' : cellAt H' p 0 = some (.slice la xs.length lc) := (cellAt_get (HST.out.get p hp HPD.out)).trans hcp
  rcases Nat.eq_zero_or_pos r with hr0 | hr0
  · have h9 : ¬ ((1 : Int) ≤ (r : Int)) := by omega
    have h8 : ¬ ((0 : Int) ≤ (r : Int) - 1) := by omega
    have h7 : ¬ (0 < r) := by omega
    have h6 : ¬ (1 ≤ r) := by omega
    have HR0 := Lib.hid hr0
    clear hr0
    repeat' (first|(with_reducible first|refine zA ?_|refine zB fun K hK=>?_|refine zC fun K2 hK2=>?_|refine zD ?_|refine zE ?_|refine zF ?_|refine zG ?_|refine zH ?_|refine zI ?_|refine zM ?_|refine zN ?_|refine zO ?_|refine zP ?_|refine zQ ?_|refine zR ?_)|((with_reducible refine zU (hK _ _ ?_));clear hK K)|((with_reducible refine zV ?_ ?_ fun K1 K3 d hdst h1 h3=>?_);rfl;exact yB rfl;cases hdst;go_simp)|((with_reducible refine zW fun K1 K3 h1 h3=>?_);go_simp)|((first|refine h1 ?_|refine h3 ?_);clear h1 h3 K1 K3)|((first|refine zX (fun hb=>h1 ?_) (fun hb=>h3 ?_)|refine zX (fun hb=>h3 ?_) (fun hb=>h1 ?_))<;>(clear h1 h3 K1 K3;(try have hb2:=yC hb);(try have hb2:=yD hb);(try have hb2:=yE hb);(try have hb2:=yF hb);(try have hb2:=yG hb)))|(refine fun (K2:_→AHeap→Prop) hK2=>?_)|((with_reducible refine zY ?_ ?_);decide)|((with_reducible first|refine zZ ?_ (fun K hK=>?_)|refine yA ?_ (fun K hK=>?_));(focus go_simp;done);go_simp;refine hK _ _ ?_;clear hK K)|(go_simp;(try go_bits);refine hK2 _ _ ?_;clear hK2 K2))
    all_goals (try (exfalso; omega))
    refine ⟨D', ?_, HST.out⟩
    have h5 := HL.out
    rw [HR0.out] at h5
    rw [← h5]; simpa [backL] using HS.out
  · obtain ⟨b, o, sp, rfl, hb, hxc⟩ := HLI.out.at_ (k := r - 1) (by omega)
    have hbd : ¬ D b := fun h => by have := HB.out b h; omega
    have hxc' : cellAt H' b (o + (r - 1)) = some (.int .i64 (xs[r - 1]'(by omega))) := (cellAt_get (HST.out.get b (Nat.lt_of_lt_of_le hb HX.out.n) hbd)).trans ((HX.out.cellAt hb).trans hxc)
    have hgd : xs.getD (r - 1) 0 = xs[r - 1]'(by omega) := by simp [List.getD_eq_getElem?_getD, show r - 1 < xs.length by omega]
    have hIT : It (.tuple #[.int .i64 ((r : Int) - 1), .int .i64 (xs[r - 1]'(by omega))]) := by
      have h := HIT.out (r - 1) (by omega)
      rw [itemI, hgd, show ((r - 1 : Nat) : Int) = (r : Int) - 1 by omega] at h
      exact h
    have hbk : Hid (backL (itemI xs) r = .tuple #[.int .i64 ((r : Int) - 1), .int .i64 (xs[r - 1]'(by omega))] :: backL (itemI xs) (r - 1)) := Lib.hid (by
      rw [← hgd, ← show ((r - 1 : Nat) : Int) = (r : Int) - 1 by omega]
      conv => lhs; rw [show r = (r - 1) + 1 by omega, backL]
      rfl)
    generalize xs[r - 1]'(by omega) = x at hxc' hIT hbk
    have HIX := Lib.hid hIT
    clear hIT hgd hxc
    have h0i : (0 : Int) ≤ (r : Int) - 1 := by omega
    have h1i : (r : Int) - 1 < (xs.length : Int) := by omega
    have h2i : (1 : Int) ≤ (r : Int) := by omega
    have h3i : 1 ≤ r := by omega
    have hroom : L'.length < room := by have := HRO.out; omega
    repeat' (first|(with_reducible first|refine zA ?_|refine zB fun K hK=>?_|refine zC fun K2 hK2=>?_|refine zD ?_|refine zE ?_|refine zF ?_|refine zG ?_|refine zH ?_|refine zI ?_|refine zM ?_|refine zN ?_|refine zO ?_|refine zP ?_|refine zQ ?_|refine zR ?_)|((with_reducible refine zU (hK _ _ ?_));clear hK K)|((with_reducible refine zV ?_ ?_ fun K1 K3 d hdst h1 h3=>?_);rfl;exact yB rfl;cases hdst;go_simp)|((with_reducible refine zW fun K1 K3 h1 h3=>?_);go_simp)|((first|refine h1 ?_|refine h3 ?_);clear h1 h3 K1 K3)|((first|refine zX (fun hb=>h1 ?_) (fun hb=>h3 ?_)|refine zX (fun hb=>h3 ?_) (fun hb=>h1 ?_))<;>(clear h1 h3 K1 K3;(try have hb2:=yC hb);(try have hb2:=yD hb);(try have hb2:=yE hb);(try have hb2:=yF hb);(try have hb2:=yG hb)))|(refine fun (K2:_→AHeap→Prop) hK2=>?_)|((with_reducible refine zY ?_ ?_);decide)|((with_reducible first|refine zZ ?_ (fun K hK=>?_)|refine yA ?_ (fun K hK=>?_));(focus go_simp;done);go_simp;refine hK _ _ ?_;clear hK K)|(go_simp;(try go_bits);(try first | ((refine RoundS.mono (HG.out.round (v := .tuple #[.int .i64 ((r : Int) - 1), .int .i64 x]) HFL.out hroom HIX.out HS.out) ?_); rintro _ H3 ⟨rfl, D3, hS3, hst3⟩; (have HS3 := Lib.hid hS3); (have HST3 := Lib.hid hst3); clear hS3 hst3));refine hK2 _ _ ?_;clear hK2 K2))
    refine Post.round_normal ⟨r - 1, by omega, r - 1, D3, _, by omega, rfl, ?_, (by first|go_simp<;>go_num|assumption), (by first|go_simp<;>go_num|assumption), (by first|go_simp<;>go_num|assumption), HS3, Lib.hid (HST.out.trans HST3.out), Lib.hid ?_, ?_⟩
    · have e : ((r - 1 : Nat) : Int) - 1 = (r : Int) - 1 - 1 := by omega
      rw [e]
      first | (go_simp; done) | (go_simp; go_num; done)
    · rw [← HL.out, hbk.out]; simp
    · simp; omega

def BackAt (Hb H : AHeap) (p : Nat) (v : Value) (xs : List Int) : Prop := ∃ lv, v = .func (.func 133) #[] #[.pointer (some ⟨p, 0, none⟩)] ∧ p < H.n ∧ H.get p = .row [lv] 22 ∧ Ints Hb lv xs ∧ Ext Hb H
theorem backI_e {loops : List (Nat × LInfo)} {Hb H : AHeap} {lv : Value} {xs : List Int} (hv : Ints Hb lv xs) (hx : Ext Hb H) : CallS Tryz.prog loops 122 [lv] H fun v H' => BackAt Hb H' H.n v xs ∧ Ext H H' := by
  obtain ⟨hll, la, lc, rfl⟩ := hv.slice
  have HL := Lib.hid hv
  have HX := Lib.hid hx
  clear hv hx
  refine CallS.enter' Tryz.func122 rfl Tryz.ntmps122 (by simp) fun f hd hf => ?_
  have f0 := hf 0
  simp at f0
  clear hf
  repeat' (first|(with_reducible first|refine zA ?_|refine zB fun K hK=>?_|refine zC fun K2 hK2=>?_|refine zD ?_|refine zE ?_|refine zF ?_|refine zG ?_|refine zH ?_|refine zI ?_|refine zM ?_|refine zN ?_|refine zO ?_|refine zP ?_|refine zQ ?_|refine zR ?_)|((with_reducible refine zU (hK _ _ ?_));clear hK K)|((with_reducible refine zV ?_ ?_ fun K1 K3 d hdst h1 h3=>?_);rfl;exact yB rfl;cases hdst;go_simp)|((with_reducible refine zW fun K1 K3 h1 h3=>?_);go_simp)|((first|refine h1 ?_|refine h3 ?_);clear h1 h3 K1 K3)|((first|refine zX (fun hb=>h1 ?_) (fun hb=>h3 ?_)|refine zX (fun hb=>h3 ?_) (fun hb=>h1 ?_))<;>(clear h1 h3 K1 K3;(try have hb2:=yC hb);(try have hb2:=yD hb);(try have hb2:=yE hb);(try have hb2:=yF hb);(try have hb2:=yG hb)))|(refine fun (K2:_→AHeap→Prop) hK2=>?_)|((with_reducible refine zY ?_ ?_);decide)|((with_reducible first|refine zZ ?_ (fun K hK=>?_)|refine yA ?_ (fun K hK=>?_));(focus go_simp;done);go_simp;refine hK _ _ ?_;clear hK K)|(go_simp;(try go_bits);refine hK2 _ _ ?_;clear hK2 K2))
  exact ⟨⟨_, rfl, by rw [AHeap.n_push]; omega, AHeap.get_push_new, HL.out, HX.out.push' _⟩, Ext.push _⟩
theorem BackAt.gives {Hb H : AHeap} {p : Nat} {v : Value} {xs : List Int} (h : BackAt Hb H p v xs) {It : Value → Prop} (hit : ∀ i, i < xs.length → It (itemI xs i)) : Gives2 Tryz.prog H (fun i => i < Hb.n ∨ i = p) xs.length v It (backL (itemI xs) xs.length) := by
  obtain ⟨lv, rfl, h2, h3, h4, h5⟩ := h
  refine ⟨133, _, rfl, by kernel_rfl, ?_, fun loops ls H' l Rd room S L D hf hg hS hn hR hr => ?_⟩
  · rintro i (h | rfl)
    · exact Nat.lt_of_lt_of_le h h5.n
    · exact h2
  · refine backI_gives (H0 := Hb) hf hg hS (Nat.lt_of_lt_of_le h2 hn) (hR p (.inr rfl)).2 ((hR p (.inr rfl)).1.trans h3) h4 ⟨Nat.le_trans h5.n hn, fun i hi => (hR i (.inl hi)).1.trans (h5.get i hi)⟩ (fun i hi => ?_) hit hr
    rcases Nat.lt_or_ge i Hb.n with h0 | h0
    · exact absurd hi (hR i (.inl h0)).2
    · exact h0
end Go.Proofs.Tryz
namespace Go.Proofs.Tryz
open Go Go.Am Go.RowKit Go.Co
set_option maxRecDepth 100000

def sndI : Value → Int
  | .tuple #[_, .int _ x] => x
  | _ => 0
def mirI (L : List Value) : List Int := L.map fun t => 730 - sndI t
theorem mirI_app (L : List Value) (t : Value) : mirI (L ++ [t]) = mirI L ++ [730 - sndI t] := by simp [mirI]
theorem mirI_back (xs : List Int) : ∀ n, n ≤ xs.length → mirI (backL (itemI xs) n) = flipD (xs.take n)
  | 0, _ => rfl
  | n + 1, h => by
    have ih := mirI_back xs n (by omega)
    have h1 : xs.take (n + 1) = xs.take n ++ [xs.getD n 0] := by
      rw [List.take_succ_eq_append_getElem (by omega)]; simp [List.getD_eq_getElem?_getD, show n < xs.length by omega]
    have h2 : mirI (itemI xs n :: backL (itemI xs) n) = (730 - xs.getD n 0) :: mirI (backL (itemI xs) n) := rfl
    rw [backL, h2, ih, h1]
    simp [flipD]

def MirS (bs l c : Nat) (L : List Value) (D : Nat → Prop) (H : AHeap) : Prop := ∃ (v : Value), bs ≤ c ∧ c < l ∧ l < H.n ∧ H.get l = .loop .ready none ∧ H.get c = .row [v] 22 ∧ Own H bs v 3 1 ((mirI L).map (Value.int .i64)) ∧ ∀ i, D i ↔ i = l ∨ i = c ∨ ∃ n, v = .slice (some ⟨i, 0, none⟩) n n ∧ 0 < n
theorem MirS.own {bs l c : Nat} {L : List Value} {D : Nat → Prop} {H : AHeap} (h : MirS bs l c L D H) : D l := by
  obtain ⟨v, h2, h3, h4, h5, h6, h7, h8⟩ := h
  exact (h8 l).2 (.inl rfl)
theorem MirS.lt {bs l c : Nat} {L : List Value} {D : Nat → Prop} {H : AHeap} {i : Nat} (h : MirS bs l c L D H) (hi : D i) : i < H.n := by
  obtain ⟨v, h2, h3, h4, h5, h6, h7, h8⟩ := h
  rcases (h8 i).1 hi with rfl | rfl | ⟨n, hv, hn⟩
  · exact h4
  · omega
  · exact (own_block h7 hv hn).2.1
theorem MirS.keep {bs l c : Nat} {L : List Value} {D : Nat → Prop} {H H' : AHeap} (h : MirS bs l c L D H) (hn : H.n ≤ H'.n) (hk : ∀ i, D i → H'.get i = H.get i) : MirS bs l c L D H' := by
  obtain ⟨v, h2, h3, h4, h5, h6, h7, h8⟩ := h
  refine ⟨v, h2, h3, Nat.lt_of_lt_of_le h4 hn, (hk l (((h8 l).2 (.inl rfl)))).trans h5, (hk c (((h8 c).2 (.inr (.inl rfl))))).trans h6, own_at h7 hn fun i n hv hn => hk i ((h8 i).2 (.inr (.inr ⟨n, hv, hn⟩))), h8⟩
def DayItem (t : Value) : Prop := ∃ (i x : Int), t = .tuple #[.int .i64 i, .int .i64 x] ∧ -1 ≤ x ∧ x ≤ 731

set_option maxHeartbeats 1000000 in
theorem mirroredDays_e {loops : List (Nat × LInfo)} {H : AHeap} {lv : Value} {xs : List Int} (hv : Ints H lv xs) (hb : ∀ y, y ∈ xs → -1 ≤ y ∧ y ≤ 731) (hlen : xs.length ≤ 1000) : CallS Tryz.prog loops 99 [lv] H fun r H' => Own H' H.n r 3 1 ((flipD xs).map (Value.int .i64)) ∧ Ext H H' := by
  have HL := Lib.hid hv
  obtain ⟨hll, la, lc, rfl⟩ := hv.slice
  have HIT : Hid (∀ i, i < xs.length → DayItem (itemI xs i)) := Lib.hid (fun i hi => ⟨i, xs.getD i 0, rfl, by
    have : xs.getD i 0 = xs[i] := by simp [List.getD_eq_getElem?_getD, hi]
    rw [this]; exact hb _ (List.getElem_mem hi)⟩)
  have HMF := Lib.hid (mirI_back xs xs.length (Nat.le_refl _))
  clear hv hb
  refine CallS.enter' Tryz.func99 rfl Tryz.ntmps99 (by simp) fun f hd hf => ?_
  have f0 := hf 0
  simp at f0
  clear hf
  repeat' (first|(with_reducible first|refine zA ?_|refine zB fun K hK=>?_|refine zC fun K2 hK2=>?_|refine zD ?_|refine zE ?_|refine zF ?_|refine zG ?_|refine zH ?_|refine zI ?_|refine zM ?_|refine zN ?_|refine zO ?_|refine zP ?_|refine zQ ?_|refine zR ?_)|((with_reducible refine zU (hK _ _ ?_));clear hK K)|((with_reducible refine zV ?_ ?_ fun K1 K3 d hdst h1 h3=>?_);rfl;exact yB rfl;cases hdst;go_simp)|((with_reducible refine zW fun K1 K3 h1 h3=>?_);go_simp)|((first|refine h1 ?_|refine h3 ?_);clear h1 h3 K1 K3)|((first|refine zX (fun hb=>h1 ?_) (fun hb=>h3 ?_)|refine zX (fun hb=>h3 ?_) (fun hb=>h1 ?_))<;>(clear h1 h3 K1 K3;(try have hb2:=yC hb);(try have hb2:=yD hb);(try have hb2:=yE hb);(try have hb2:=yF hb);(try have hb2:=yG hb)))|(refine fun (K2:_→AHeap→Prop) hK2=>?_)|((with_reducible refine zY ?_ ?_);decide)|((with_reducible first|refine zZ ?_ (fun K hK=>?_)|refine yA ?_ (fun K hK=>?_));(focus go_simp;done);go_simp;refine hK _ _ ?_;clear hK K)|(go_simp;(try go_bits);(try first | ((with_reducible show CallS _ _ _ _ _ _);refine CallS.mono (backI_e (Hb := H) HL.out (Ext.push _)) ?_; rintro qv H1 ⟨hq, hx⟩; (have HQ := Lib.hid (hq.gives HIT.out)); (have hgc : H1.get H.n = .row [.slice none 0 0] 22 := (hx.get H.n (by rw [AHeap.n_push]; omega)).trans (by rw [AHeap.get_push_new])); (have HGC := Lib.hid hgc); (have HX1 := Lib.hid ((Ext.push (.row [.slice none 0 0] 22)).trans hx)); (have hnn : H.n + 1 ≤ H1.n := by have := hx.n; rw [AHeap.n_push] at this; omega); clear hq hx hgc));refine hK2 _ _ ?_;clear hK2 K2))
  refine CodeS.range_gives2 (ls := []) (H0 := H1) (Rd := fun _ => False) (room := 1000) (S := MirS H.n (H1.n + 1) H.n) (D := fun i => i = H1.n + 1 ∨ i = H.n) rfl (LExt.nil _) HQ.out (by go_simp) (Ext.refl _) hlen ?gen ?hS ?hRD ?hnd ?hend
  case hRD =>
    rintro i hi (h | h)
    · have := HQ.out.lt hi; omega
    · rcases hi with h3 | h3
      · omega
      · rw [AHeap.n_push] at h3; omega
  case hS =>
    refine ⟨.slice none 0 0, Nat.le_refl _, by omega, by rw [AHeap.n_push, AHeap.n_push]; omega, ?_, ?_, Own.nil, fun i => by simp⟩
    · rw [show H1.n + 1 = (H1.push (AObj.defs false)).n from rfl, AHeap.get_push_new]
    · rw [AHeap.get_push_old (by rw [AHeap.n_push]; omega), AHeap.get_push_old (by omega)]; exact HGC.out
  case hnd => omega
  case hend =>
    rintro f2 D' H' ht hd2 hS hst hdf
    obtain ⟨v, h2, h3, h4, h5, h6, h7, h8⟩ := hS
    rw [HMF.out, List.take_length] at h7
    have t3 := ht 3
    simp [AF.tmp_upd] at t3
    have hd3 : f2.defers = [{ target := .collected H1.n, args := #[] }] := by rw [hd2]; simp [AF.defers_upd, hd]
    obtain ⟨H2, hH2⟩ : ∃ H2, H2 = H'.upd (H1.n + 1) (AObj.loop LoopState.exhausted none) := ⟨_, rfl⟩
    rw [← hH2]
    have hc2 : cellAt H2 H.n 0 = some v := by
      rw [hH2, cellAt_get (AHeap.get_upd_ne (by omega))]
      simp [cellAt, h6]
    have hdf2 : H2.get H1.n = .defs false := by
      rw [hH2, AHeap.get_upd_ne (by omega)]; exact hdf
    have HX2 : Hid (Ext H H2) := Lib.hid (by
      rw [hH2]
      refine (hst.ext ((HX1.out.push' _).push' _) ?_).upd (by omega) _
      rintro i (rfl | rfl) <;> omega)
    have hne : ∀ i n, v = .slice (some ⟨i, 0, none⟩) n n → 0 < n → H2.get i = H'.get i := by
      intro i n hv hn
      rw [hH2]
      refine AHeap.get_upd_ne fun e => ?_
      have h9 := (own_block h7 hv hn).2.2
      rw [e, h5] at h9
      cases h9
    have HO2 : Hid (Own H2 H.n v 3 1 ((flipD xs).map (Value.int .i64))) := Lib.hid (own_at h7 (by rw [hH2, AHeap.n_upd]; exact Nat.le_refl _) hne)
    clear hne h7 hst hH2 ht h8 h5 h6 hd2 hdf h2 h3 h4
    repeat' (first|(with_reducible first|refine zA ?_|refine zB fun K hK=>?_|refine zC fun K2 hK2=>?_|refine zD ?_|refine zE ?_|refine zF ?_|refine zG ?_|refine zH ?_|refine zI ?_|refine zM ?_|refine zN ?_|refine zO ?_|refine zP ?_|refine zQ ?_|refine zR ?_)|((with_reducible refine zU (hK _ _ ?_));clear hK K)|((with_reducible refine zV ?_ ?_ fun K1 K3 d hdst h1 h3=>?_);rfl;exact yB rfl;cases hdst;go_simp)|((with_reducible refine zW fun K1 K3 h1 h3=>?_);go_simp)|((first|refine h1 ?_|refine h3 ?_);clear h1 h3 K1 K3)|((first|refine zX (fun hb=>h1 ?_) (fun hb=>h3 ?_)|refine zX (fun hb=>h3 ?_) (fun hb=>h1 ?_))<;>(clear h1 h3 K1 K3;(try have hb2:=yC hb);(try have hb2:=yD hb);(try have hb2:=yE hb);(try have hb2:=yF hb);(try have hb2:=yG hb)))|(refine fun (K2:_→AHeap→Prop) hK2=>?_)|((with_reducible refine zY ?_ ?_);decide)|((with_reducible first|refine zZ ?_ (fun K hK=>?_)|refine yA ?_ (fun K hK=>?_));(focus go_simp;done);go_simp;refine hK _ _ ?_;clear hK K)|(go_simp;(try go_bits);refine hK2 _ _ ?_;clear hK2 K2))
    refine Post.body_mark (by go_simp) hdf2 fun K hK => ?_
    go_simp
    refine hK _ _ ⟨?_, HX2.out.upd (by omega) _⟩
    refine own_at HO2.out (by rw [AHeap.n_upd]; exact Nat.le_refl _) fun i n hv hn => AHeap.get_upd_ne fun e => ?_
    have h9 := (own_block HO2.out hv hn).2.2
    rw [e, hdf2] at h9
    cases h9
  case gen =>
    refine ⟨MirS.own, MirS.lt, fun _ h => h.elim, ?_, ?_, fun h hn hk => MirS.keep h hn fun i hi => hk i (.inl hi), ?_⟩
    · rintro L D H' ⟨v, h2, h3, h4, h5, h6, h7, h8⟩
      exact h5
    · rintro L D H' l2 x2 ⟨v, h2, h3, h4, h5, h6, h7, h8⟩ hf2
      simp only [findLoop] at hf2
      split at hf2
      · rename_i he; subst he; exact h4
      · cases hf2
    rintro loops L D H' _ hfl hroom ⟨i0, x, rfl, hx1, hx2⟩ ⟨v, h2, h3, h4, h5, h6, h7, h8⟩
    have hfl := hfl _ _ findLoop_head
    refine RoundS.enter hfl rfl (by simp [pairA_mk]) h5 fun f' hd' hf' => ?_
    have g9 := hf' 9
    have g3 := hf' 3
    simp [paramsAt, AF.tmp_mk, AF.tmp_upd, pairA_mk] at g9 g3
    dsimp only
    have hlen2 : (mirI L).length < 1000 := by rw [mirI, List.length_map]; exact hroom
    have HO := Lib.hid h7
    have HDI := Lib.hid h8
    have HFL := Lib.hid hfl
    clear h7 h8 hfl hf' hroom HIT HQ HMF HL hlen hll
    repeat' (first|(with_reducible first|refine zA ?_|refine zB fun K hK=>?_|refine zC fun K2 hK2=>?_|refine zD ?_|refine zE ?_|refine zF ?_|refine zG ?_|refine zH ?_|refine zI ?_|refine zM ?_|refine zN ?_|refine zO ?_|refine zP ?_|refine zQ ?_|refine zR ?_)|((with_reducible refine zU (hK _ _ ?_));clear hK K)|((with_reducible refine zV ?_ ?_ fun K1 K3 d hdst h1 h3=>?_);rfl;exact yB rfl;cases hdst;go_simp)|((with_reducible refine zW fun K1 K3 h1 h3=>?_);go_simp)|((first|refine h1 ?_|refine h3 ?_);clear h1 h3 K1 K3)|((first|refine zX (fun hb=>h1 ?_) (fun hb=>h3 ?_)|refine zX (fun hb=>h3 ?_) (fun hb=>h1 ?_))<;>(clear h1 h3 K1 K3;(try have hb2:=yC hb);(try have hb2:=yD hb);(try have hb2:=yE hb);(try have hb2:=yF hb);(try have hb2:=yG hb)))|(refine fun (K2:_→AHeap→Prop) hK2=>?_)|((with_reducible refine zY ?_ ?_);decide)|((with_reducible first|refine zZ ?_ (fun K hK=>?_)|refine yA ?_ (fun K hK=>?_));(focus go_simp;done);go_simp;refine hK _ _ ?_;clear hK K)|(go_simp;(try go_bits);refine hK2 _ _ ?_;clear hK2 K2))
    refine ⟨?_, ?_⟩
    · exact h5
    obtain ⟨H3, hH3⟩ : ∃ H3, H3 = H'.upd (H1.n + 1) (.loop .busy none) := ⟨_, rfl⟩
    rw [← hH3]
    have hn3 : H3.n = H'.n := by rw [hH3, AHeap.n_upd]
    have hk3 : ∀ i, i ≠ H1.n + 1 → H3.get i = H'.get i := by
      intro i hne
      rw [hH3, AHeap.get_upd_ne hne]
    have hl3 : H3.get (H1.n + 1) = .loop .busy none := by rw [hH3]; exact AHeap.get_upd_same
    have hc3 : H3.get H.n = .row [v] 22 := by rw [hk3 _ (by omega)]; exact h6
    have hcc3 : cellAt H3 H.n 0 = some v := by simp [cellAt, hc3]
    have hne3 : ∀ i n, v = .slice (some ⟨i, 0, none⟩) n n → 0 < n → i ≠ H1.n + 1 ∧ i ≠ H.n := by
      intro i n hv hn
      have h9 := (own_block HO.out hv hn).2.2
      constructor
      · rintro rfl; rw [h5] at h9; cases h9
      · rintro rfl; rw [h6] at h9; injection h9 with _ h10; exact absurd h10 (by decide)
    have HO3 : Hid (Own H3 H.n v 3 1 ((mirI L).map (Value.int .i64))) := Lib.hid (own_at HO.out (by omega) fun i n hv hn => hk3 i (hne3 i n hv hn).1)
    have HK3 := Lib.hid hk3
    have HNE := Lib.hid hne3
    have HN3 := Lib.hid hn3
    have HL3 := Lib.hid hl3
    have hlt3 : H.n < H3.n := by omega
    have HC3 := Lib.hid hc3
    have h4' : H1.n + 1 < H3.n := by omega
    clear hk3 hne3 hH3 hl3 hc3 hn3
    have HBIG : Hid ((((mirI L).map (Value.int .i64)).length + 1) * max 8 1 ≤ 1073741824) := Lib.hid (by rw [List.length_map, show max 8 1 = 8 from rfl]; omega)
    repeat' (first|(with_reducible first|refine zA ?_|refine zB fun K hK=>?_|refine zC fun K2 hK2=>?_|refine zD ?_|refine zE ?_|refine zF ?_|refine zG ?_|refine zH ?_|refine zI ?_|refine zM ?_|refine zN ?_|refine zO ?_|refine zP ?_|refine zQ ?_|refine zR ?_)|((with_reducible refine zU (hK _ _ ?_));clear hK K)|((with_reducible refine zV ?_ ?_ fun K1 K3 d hdst h1 h3=>?_);rfl;exact yB rfl;cases hdst;go_simp)|((with_reducible refine zW fun K1 K3 h1 h3=>?_);go_simp)|((first|refine h1 ?_|refine h3 ?_);clear h1 h3 K1 K3)|((first|refine zX (fun hb=>h1 ?_) (fun hb=>h3 ?_)|refine zX (fun hb=>h3 ?_) (fun hb=>h1 ?_))<;>(clear h1 h3 K1 K3;(try have hb2:=yC hb);(try have hb2:=yD hb);(try have hb2:=yE hb);(try have hb2:=yF hb);(try have hb2:=yG hb)))|(refine fun (K2:_→AHeap→Prop) hK2=>?_)|((with_reducible refine zY ?_ ?_);decide)|((with_reducible first|refine zZ ?_ (fun K hK=>?_)|refine yA ?_ (fun K hK=>?_));(focus go_simp;done);go_simp;refine hK _ _ ?_;clear hK K)|(go_simp;(try go_bits);(try first | ((refine one_k el22 sz3 ze3 rfl (by decide) (by decide) rfl rfl ?_); go_simp) | ((refine append_k2 el22 sz3 by3 ze3 rfl (by decide) (HO3.out.ext (Ext.push _)) (srcCells_new rfl) (by decide) rfl (by rw [List.all_append, oneV_list_int]; rfl) HBIG.out (by rw [AHeap.n_push]; omega) fun v2 H4 ho4 hg4 => ?_); (obtain ⟨a2, n2, rfl⟩ := own_slice ho4); (have HO4 := Lib.hid ho4); (have HG4 := Lib.hid hg4); (have hc4 : H4.get H.n = .row [v] 22 := (hg4.2 H.n (by rw [AHeap.n_push]; omega) (fun b n hv hn => (HNE.out b n hv hn).2.symm)).trans (by rw [AHeap.get_push_old hlt3]; exact HC3.out)); clear ho4 hg4; go_simp));refine hK2 _ _ ?_;clear hK2 K2))
    have hl4 : H4.get (H1.n + 1) = .loop .busy none := (HG4.out.2 (H1.n + 1) (by rw [AHeap.n_push]; omega) (fun b n hv hn => (HNE.out b n hv hn).1.symm)).trans (by rw [AHeap.get_push_old (by omega)]; exact HL3.out)
    have hn4 : H'.n < H4.n := by have := HG4.out.1; rw [AHeap.n_push, HN3.out] at this; omega
    refine ⟨⟨.busy, none, ?_⟩, rfl, fun i => i = H1.n + 1 ∨ i = H.n ∨ ∃ n, Value.slice a2 n2 n2 = .slice (some ⟨i, 0, none⟩) n n ∧ 0 < n, ⟨.slice a2 n2 n2, Nat.le_refl _, by omega, ?_, ?_, ?_, ?_, fun i => Iff.rfl⟩, ?_⟩
    · rw [AHeap.get_upd_ne (by omega)]; exact hl4
    · rw [AHeap.n_upd, AHeap.n_upd]; omega
    · exact AHeap.get_upd_same
    · rw [AHeap.get_upd_ne (by omega), AHeap.get_upd_same]
    · rw [mirI_app, List.map_append]
      refine own_at (HO4.out.mono (by rw [AHeap.n_push, HN3.out]; omega)) (by rw [AHeap.n_upd, AHeap.n_upd]; exact Nat.le_refl _) fun i n hv hn => ?_
      have h9 := (own_block HO4.out hv hn).2.2
      rw [AHeap.get_upd_ne (fun e => ?_), AHeap.get_upd_ne (fun e => ?_)]
      · rw [e, hc4] at h9; injection h9 with _ h10; exact absurd h10 (by decide)
      · rw [e, hl4] at h9; cases h9
    · refine ⟨by rw [AHeap.n_upd, AHeap.n_upd]; omega, fun i hi hd => ?_, fun i hd => ?_⟩
      · have h9 := fun h => hd ((HDI.out i).2 h)
        rw [AHeap.get_upd_ne (fun e => h9 (.inl e)), AHeap.get_upd_ne (fun e => h9 (.inr (.inl e))), HG4.out.2 i (by rw [AHeap.n_push, HN3.out]; omega) (fun b n hv hn e => h9 (.inr (.inr ⟨n, by rw [e]; exact hv, hn⟩))), AHeap.get_push_old (by rw [HN3.out]; omega)]
        exact HK3.out i (fun e => h9 (.inl e))
      · rcases hd with h | h | ⟨n, hv, hn⟩
        · exact .inl ((HDI.out i).2 (.inl h))
        · exact .inl ((HDI.out i).2 (.inr (.inl h)))
        · have h9 := (own_block HO4.out hv hn).1
          rw [AHeap.n_push, HN3.out] at h9
          exact .inr (by omega)
end Go.Proofs.Tryz
namespace Go.Proofs.Tryz
open Go Go.Am Go.RowKit Go.Co
set_option maxRecDepth 100000

def itemR (xs : List Value) (i : Nat) : Value := .tuple #[.int .i64 i, xs.getD i (.int .i64 0)]
theorem cells1_slice {H : AHeap} {v : Value} {n : Nat} {xs : List Value} (h : Cells H v 1 n xs) : n ≤ 9223372036854775807 ∧ ∃ a c, v = .slice a n c := by
  obtain ⟨h1, h2, a', c', h3, h4⟩ := h
  exact ⟨h2, a', c', h3⟩
theorem cells1_at {H : AHeap} {a : Option Addr} {n c : Nat} {xs : List Value} (h : Cells H (.slice a n c) 1 xs.length xs) {k : Nat} (hk : k < xs.length) : ∃ b o sp, a = some ⟨b, o, sp⟩ ∧ b < H.n ∧ cellAt H b (o + k) = some xs[k] := by
  obtain ⟨h1, h2, a', c', h3, h4⟩ := h
  cases h3
  obtain ⟨b, o, sp, h5, h6, h7⟩ := h4 (by omega)
  exact ⟨b, o, sp, h5, h6, h7 k _ (by simp [hk])⟩

theorem backR_gives {loops ls : List (Nat × LInfo)} {H H0 : AHeap} {l room : Nat} {Rd : Nat → Prop} {It : Value → Prop} {S : List Value → (Nat → Prop) → AHeap → Prop} {L : List Value} {D : Nat → Prop} {p : Nat} {lv : Value} {xs : List Value}
    (hfl : LExt ls loops) (hg : Gen2 Tryz.prog l ls Rd room It S) (hS : S L D H) (hp : p < H.n) (hpD : ¬ D p) (hgp : H.get p = .row [lv] 77) (hl : Cells H0 lv 1 xs.length xs) (hx : Ext H0 H) (hb : ∀ i, D i → H0.n ≤ i) (hit : ∀ i, i < xs.length → It (itemR xs i)) (hro : L.length + xs.length ≤ room) :
    CallS Tryz.prog loops 131 [.func (.yield l) #[] #[], .pointer (some ⟨p, 0, none⟩)] H fun _ H' => ∃ D', S (L ++ backL (itemR xs) xs.length) D' H' ∧ Step D H D' H' := by
  obtain ⟨hll, la, lc, rfl⟩ := cells1_slice hl
  have hcp : cellAt H p 0 = some (.slice la xs.length lc) := by simp [cellAt, hgp]
  have HFL := Lib.hid hfl
  have HG := Lib.hid hg
  have HS := Lib.hid hS
  have HGP := Lib.hid hgp
  have HLI := Lib.hid hl
  have HX := Lib.hid hx
  have HB := Lib.hid hb
  have HPD := Lib.hid hpD
  have HIT := Lib.hid hit
  have HRO := Lib.hid hro
  generalize hitems : backL (itemR xs) xs.length = items
  have HITS := Lib.hid hitems
  clear hfl hg hS hgp hl hx hb hpD hit hro hitems
  refine CallS.enter' Tryz.func131 rfl Tryz.ntmps131 (by simp) fun f hd hf => ?_
  have f0 := hf 0
  have f1 := hf 1
  simp at f0 f1
  clear hf
  repeat' (first|(with_reducible first|refine zA ?_|refine zB fun K hK=>?_|refine zC fun K2 hK2=>?_|refine zD ?_|refine zE ?_|refine zF ?_|refine zG ?_|refine zH ?_|refine zI ?_|refine zM ?_|refine zN ?_|refine zO ?_|refine zP ?_|refine zQ ?_|refine zR ?_)|((with_reducible refine zU (hK _ _ ?_));clear hK K)|((with_reducible refine zV ?_ ?_ fun K1 K3 d hdst h1 h3=>?_);rfl;exact yB rfl;cases hdst;go_simp)|((with_reducible refine zW fun K1 K3 h1 h3=>?_);go_simp)|((first|refine h1 ?_|refine h3 ?_);clear h1 h3 K1 K3)|((first|refine zX (fun hb=>h1 ?_) (fun hb=>h3 ?_)|refine zX (fun hb=>h3 ?_) (fun hb=>h1 ?_))<;>(clear h1 h3 K1 K3;(try have hb2:=yC hb);(try have hb2:=yD hb);(try have hb2:=yE hb);(try have hb2:=yF hb);(try have hb2:=yG hb)))|(refine fun (K2:_→AHeap→Prop) hK2=>?_)|((with_reducible refine zY ?_ ?_);decide)|((with_reducible first|refine zZ ?_ (fun K hK=>?_)|refine yA ?_ (fun K hK=>?_));(focus go_simp;done);go_simp;refine hK _ _ ?_;clear hK K)|(go_simp;(try go_bits);refine hK2 _ _ ?_;clear hK2 K2))
  refine CodeS.loop (fun m f H' => ∃ (r : Nat) (D' : Nat → Prop) (L' : List Value), r ≤ xs.length ∧ m = r ∧ f.tmp 3 = .int .i64 ((r : Int) - 1) ∧ f.tmp 0 = .func (.yield l) #[] #[] ∧ f.tmp 1 = .pointer (some ⟨p, 0, none⟩) ∧ f.defers = [] ∧ Hid (S L' D' H') ∧ Hid (Step D H D' H') ∧ Hid (L' ++ backL (itemR xs) r = L ++ items) ∧ L'.length + r = L.length + xs.length) xs.length ?_ ?_
  · exact ⟨xs.length, D, L, Nat.le_refl _, rfl, (by first|go_simp<;>go_num|assumption), (by first|go_simp<;>go_num|assumption), (by first|go_simp<;>go_num|assumption), (by first|go_simp<;>go_num|assumption), HS, Lib.hid (Step.refl _ _), Lib.hid (by rw [HITS.out]), rfl⟩
  clear f0 f1 hd f HS
  rintro m f H' ⟨r, D', L', hr, hmr, f3, f0, f1, hd, HS, HST, HL, hln⟩
  have hcp' : cellAt H' p 0 = some (.slice la xs.length lc) := (cellAt_get (HST.out.get p hp HPD.out)).trans hcp
  rcases Nat.eq_zero_or_pos r with hr0 | hr0
  · have h9 : ¬ ((1 : Int) ≤ (r : Int)) := by omega
    have h8 : ¬ ((0 : Int) ≤ (r : Int) - 1) := by omega
    have h7 : ¬ (0 < r) := by omega
    have h6 : ¬ (1 ≤ r) := by omega
    have HR0 := Lib.hid hr0
    clear hr0
    repeat' (first|(with_reducible first|refine zA ?_|refine zB fun K hK=>?_|refine zC fun K2 hK2=>?_|refine zD ?_|refine zE ?_|refine zF ?_|refine zG ?_|refine zH ?_|refine zI ?_|refine zM ?_|refine zN ?_|refine zO ?_|refine zP ?_|refine zQ ?_|refine zR ?_)|((with_reducible refine zU (hK _ _ ?_));clear hK K)|((with_reducible refine zV ?_ ?_ fun K1 K3 d hdst h1 h3=>?_);rfl;exact yB rfl;cases hdst;go_simp)|((with_reducible refine zW fun K1 K3 h1 h3=>?_);go_simp)|((first|refine h1 ?_|refine h3 ?_);clear h1 h3 K1 K3)|((first|refine zX (fun hb=>h1 ?_) (fun hb=>h3 ?_)|refine zX (fun hb=>h3 ?_) (fun hb=>h1 ?_))<;>(clear h1 h3 K1 K3;(try have hb2:=yC hb);(try have hb2:=yD hb);(try have hb2:=yE hb);(try have hb2:=yF hb);(try have hb2:=yG hb)))|(refine fun (K2:_→AHeap→Prop) hK2=>?_)|((with_reducible refine zY ?_ ?_);decide)|((with_reducible first|refine zZ ?_ (fun K hK=>?_)|refine yA ?_ (fun K hK=>?_));(focus go_simp;done);go_simp;refine hK _ _ ?_;clear hK K)|(go_simp;(try go_bits);refine hK2 _ _ ?_;clear hK2 K2))
    all_goals (try (exfalso; omega))
    refine ⟨D', ?_, HST.out⟩
    have h5 := HL.out
    rw [HR0.out] at h5
    rw [← h5]; simpa [backL] using HS.out
  · obtain ⟨b, o, sp, rfl, hb, hxc⟩ := cells1_at HLI.out (k := r - 1) (by omega)
    have hbd : ¬ D b := fun h => by have := HB.out b h; omega
    have hxc' : cellAt H' b (o + (r - 1)) = some (xs[r - 1]'(by omega)) := (cellAt_get (HST.out.get b (Nat.lt_of_lt_of_le hb HX.out.n) hbd)).trans ((HX.out.cellAt hb).trans hxc)
    have hgd : xs.getD (r - 1) (.int .i64 0) = xs[r - 1]'(by omega) := by simp [List.getD_eq_getElem?_getD, show r - 1 < xs.length by omega]
    have hIT : It (.tuple #[.int .i64 ((r : Int) - 1), xs[r - 1]'(by omega)]) := by
      have h := HIT.out (r - 1) (by omega)
      rw [itemR, hgd, show ((r - 1 : Nat) : Int) = (r : Int) - 1 by omega] at h
      exact h
    have hbk : Hid (backL (itemR xs) r = .tuple #[.int .i64 ((r : Int) - 1), xs[r - 1]'(by omega)] :: backL (itemR xs) (r - 1)) := Lib.hid (by
      rw [← hgd, ← show ((r - 1 : Nat) : Int) = (r : Int) - 1 by omega]
      conv => lhs; rw [show r = (r - 1) + 1 by omega, backL]
      rfl)
    generalize xs[r - 1]'(by omega) = x at hxc' hIT hbk
    have HIX := Lib.hid hIT
    clear hIT hgd hxc
    have h0i : (0 : Int) ≤ (r : Int) - 1 := by omega
    have h1i : (r : Int) - 1 < (xs.length : Int) := by omega
    have h2i : (1 : Int) ≤ (r : Int) := by omega
    have h3i : 1 ≤ r := by omega
    have hroom : L'.length < room := by have := HRO.out; omega
    repeat' (first|(with_reducible first|refine zA ?_|refine zB fun K hK=>?_|refine zC fun K2 hK2=>?_|refine zD ?_|refine zE ?_|refine zF ?_|refine zG ?_|refine zH ?_|refine zI ?_|refine zM ?_|refine zN ?_|refine zO ?_|refine zP ?_|refine zQ ?_|refine zR ?_)|((with_reducible refine zU (hK _ _ ?_));clear hK K)|((with_reducible refine zV ?_ ?_ fun K1 K3 d hdst h1 h3=>?_);rfl;exact yB rfl;cases hdst;go_simp)|((with_reducible refine zW fun K1 K3 h1 h3=>?_);go_simp)|((first|refine h1 ?_|refine h3 ?_);clear h1 h3 K1 K3)|((first|refine zX (fun hb=>h1 ?_) (fun hb=>h3 ?_)|refine zX (fun hb=>h3 ?_) (fun hb=>h1 ?_))<;>(clear h1 h3 K1 K3;(try have hb2:=yC hb);(try have hb2:=yD hb);(try have hb2:=yE hb);(try have hb2:=yF hb);(try have hb2:=yG hb)))|(refine fun (K2:_→AHeap→Prop) hK2=>?_)|((with_reducible refine zY ?_ ?_);decide)|((with_reducible first|refine zZ ?_ (fun K hK=>?_)|refine yA ?_ (fun K hK=>?_));(focus go_simp;done);go_simp;refine hK _ _ ?_;clear hK K)|(go_simp;(try go_bits);(try first | ((refine RoundS.mono (HG.out.round (v := .tuple #[.int .i64 ((r : Int) - 1), x]) HFL.out hroom HIX.out HS.out) ?_); rintro _ H3 ⟨rfl, D3, hS3, hst3⟩; (have HS3 := Lib.hid hS3); (have HST3 := Lib.hid hst3); clear hS3 hst3));refine hK2 _ _ ?_;clear hK2 K2))
    refine Post.round_normal ⟨r - 1, by omega, r - 1, D3, _, by omega, rfl, ?_, (by first|go_simp<;>go_num|assumption), (by first|go_simp<;>go_num|assumption), (by first|go_simp<;>go_num|assumption), HS3, Lib.hid (HST.out.trans HST3.out), Lib.hid ?_, ?_⟩
    · have e : ((r - 1 : Nat) : Int) - 1 = (r : Int) - 1 - 1 := by omega
      rw [e]
      first | (go_simp; done) | (go_simp; go_num; done)
    · rw [← HL.out, hbk.out]; simp
    · simp; omega

def BackRAt (Hb H : AHeap) (p : Nat) (v : Value) (xs : List Value) : Prop := ∃ lv, v = .func (.func 131) #[] #[.pointer (some ⟨p, 0, none⟩)] ∧ p < H.n ∧ H.get p = .row [lv] 77 ∧ Cells Hb lv 1 xs.length xs ∧ Ext Hb H
theorem backR_e {loops : List (Nat × LInfo)} {Hb H : AHeap} {lv : Value} {xs : List Value} (hv : Cells Hb lv 1 xs.length xs) (hx : Ext Hb H) : CallS Tryz.prog loops 120 [lv] H fun v H' => BackRAt Hb H' H.n v xs ∧ Ext H H' := by
  obtain ⟨hll, la, lc, rfl⟩ := cells1_slice hv
  have HL := Lib.hid hv
  have HX := Lib.hid hx
  clear hv hx
  refine CallS.enter' Tryz.func120 rfl Tryz.ntmps120 (by simp) fun f hd hf => ?_
  have f0 := hf 0
  simp at f0
  clear hf
  repeat' (first|(with_reducible first|refine zA ?_|refine zB fun K hK=>?_|refine zC fun K2 hK2=>?_|refine zD ?_|refine zE ?_|refine zF ?_|refine zG ?_|refine zH ?_|refine zI ?_|refine zM ?_|refine zN ?_|refine zO ?_|refine zP ?_|refine zQ ?_|refine zR ?_)|((with_reducible refine zU (hK _ _ ?_));clear hK K)|((with_reducible refine zV ?_ ?_ fun K1 K3 d hdst h1 h3=>?_);rfl;exact yB rfl;cases hdst;go_simp)|((with_reducible refine zW fun K1 K3 h1 h3=>?_);go_simp)|((first|refine h1 ?_|refine h3 ?_);clear h1 h3 K1 K3)|((first|refine zX (fun hb=>h1 ?_) (fun hb=>h3 ?_)|refine zX (fun hb=>h3 ?_) (fun hb=>h1 ?_))<;>(clear h1 h3 K1 K3;(try have hb2:=yC hb);(try have hb2:=yD hb);(try have hb2:=yE hb);(try have hb2:=yF hb);(try have hb2:=yG hb)))|(refine fun (K2:_→AHeap→Prop) hK2=>?_)|((with_reducible refine zY ?_ ?_);decide)|((with_reducible first|refine zZ ?_ (fun K hK=>?_)|refine yA ?_ (fun K hK=>?_));(focus go_simp;done);go_simp;refine hK _ _ ?_;clear hK K)|(go_simp;(try go_bits);refine hK2 _ _ ?_;clear hK2 K2))
  exact ⟨⟨_, rfl, by rw [AHeap.n_push]; omega, AHeap.get_push_new, HL.out, HX.out.push' _⟩, Ext.push _⟩
theorem BackRAt.gives {Hb H : AHeap} {p : Nat} {v : Value} {xs : List Value} (h : BackRAt Hb H p v xs) {It : Value → Prop} (hit : ∀ i, i < xs.length → It (itemR xs i)) : Gives2 Tryz.prog H (fun i => i < Hb.n ∨ i = p) xs.length v It (backL (itemR xs) xs.length) := by
  obtain ⟨lv, rfl, h2, h3, h4, h5⟩ := h
  refine ⟨131, _, rfl, by kernel_rfl, ?_, fun loops ls H' l Rd room S L D hf hg hS hn hR hr => ?_⟩
  · rintro i (h | rfl)
    · exact Nat.lt_of_lt_of_le h h5.n
    · exact h2
  · refine backR_gives (H0 := Hb) hf hg hS (Nat.lt_of_lt_of_le h2 hn) (hR p (.inr rfl)).2 ((hR p (.inr rfl)).1.trans h3) h4 ⟨Nat.le_trans h5.n hn, fun i hi => (hR i (.inl hi)).1.trans (h5.get i hi)⟩ (fun i hi => ?_) hit hr
    rcases Nat.lt_or_ge i Hb.n with h0 | h0
    · exact absurd hi (hR i (.inl h0)).2
    · exact h0
end Go.Proofs.Tryz
namespace Go.Proofs.Tryz
open Go Go.Am Go.RowKit Go.Co
set_option maxRecDepth 100000

def itemS (xs : List (Int × Int)) (i : Nat) : Value := .tuple #[.int .i64 i, spanVal (xs.getD i (0, 0))]
theorem backS_gives {loops ls : List (Nat × LInfo)} {H H0 : AHeap} {l room : Nat} {Rd : Nat → Prop} {It : Value → Prop} {S : List Value → (Nat → Prop) → AHeap → Prop} {L : List Value} {D : Nat → Prop} {p : Nat} {lv : Value} {xs : List (Int × Int)}
    (hfl : LExt ls loops) (hg : Gen2 Tryz.prog l ls Rd room It S) (hS : S L D H) (hp : p < H.n) (hpD : ¬ D p) (hgp : H.get p = .row [lv] 64) (hl : Spans H0 lv xs) (hx : Ext H0 H) (hb : ∀ i, D i → H0.n ≤ i) (hit : ∀ i, i < xs.length → It (itemS xs i)) (hro : L.length + xs.length ≤ room) :
    CallS Tryz.prog loops 132 [.func (.yield l) #[] #[], .pointer (some ⟨p, 0, none⟩)] H fun _ H' => ∃ D', S (L ++ backL (itemS xs) xs.length) D' H' ∧ Step D H D' H' := by
  obtain ⟨hll, la, lc, rfl⟩ := hl.slice
  have hcp : cellAt H p 0 = some (.slice la xs.length lc) := by simp [cellAt, hgp]
  have HFL := Lib.hid hfl
  have HG := Lib.hid hg
  have HS := Lib.hid hS
  have HGP := Lib.hid hgp
  have HLI := Lib.hid hl
  have HX := Lib.hid hx
  have HB := Lib.hid hb
  have HPD := Lib.hid hpD
  have HIT := Lib.hid hit
  have HRO := Lib.hid hro
  generalize hitems : backL (itemS xs) xs.length = items
  have HITS := Lib.hid hitems
  clear hfl hg hS hgp hl hx hb hpD hit hro hitems
  refine CallS.enter' Tryz.func132 rfl Tryz.ntmps132 (by simp) fun f hd hf => ?_
  have f0 := hf 0
  have f1 := hf 1
  simp at f0 f1
  clear hf
  repeat' (first|(with_reducible first|refine zA ?_|refine zB fun K hK=>?_|refine zC fun K2 hK2=>?_|refine zD ?_|refine zE ?_|refine zF ?_|refine zG ?_|refine zH ?_|refine zI ?_|refine zM ?_|refine zN ?_|refine zO ?_|refine zP ?_|refine zQ ?_|refine zR ?_)|((with_reducible refine zU (hK _ _ ?_));clear hK K)|((with_reducible refine zV ?_ ?_ fun K1 K3 d hdst h1 h3=>?_);rfl;exact yB rfl;cases hdst;go_simp)|((with_reducible refine zW fun K1 K3 h1 h3=>?_);go_simp)|((first|refine h1 ?_|refine h3 ?_);clear h1 h3 K1 K3)|((first|refine zX (fun hb=>h1 ?_) (fun hb=>h3 ?_)|refine zX (fun hb=>h3 ?_) (fun hb=>h1 ?_))<;>(clear h1 h3 K1 K3;(try have hb2:=yC hb);(try have hb2:=yD hb);(try have hb2:=yE hb);(try have hb2:=yF hb);(try have hb2:=yG hb)))|(refine fun (K2:_→AHeap→Prop) hK2=>?_)|((with_reducible refine zY ?_ ?_);decide)|((with_reducible first|refine zZ ?_ (fun K hK=>?_)|refine yA ?_ (fun K hK=>?_));(focus go_simp;done);go_simp;refine hK _ _ ?_;clear hK K)|(go_simp;(try go_bits);refine hK2 _ _ ?_;clear hK2 K2))
  refine CodeS.loop (fun m f H' => ∃ (r : Nat) (D' : Nat → Prop) (L' : List Value), r ≤ xs.length ∧ m = r ∧ f.tmp 3 = .int .i64 ((r : Int) - 1) ∧ f.tmp 0 = .func (.yield l) #[] #[] ∧ f.tmp 1 = .pointer (some ⟨p, 0, none⟩) ∧ f.defers = [] ∧ Hid (S L' D' H') ∧ Hid (Step D H D' H') ∧ Hid (L' ++ backL (itemS xs) r = L ++ items) ∧ L'.length + r = L.length + xs.length) xs.length ?_ ?_
  · exact ⟨xs.length, D, L, Nat.le_refl _, rfl, (by first|go_simp<;>go_num|assumption), (by first|go_simp<;>go_num|assumption), (by first|go_simp<;>go_num|assumption), (by first|go_simp<;>go_num|assumption), HS, Lib.hid (Step.refl _ _), Lib.hid (by rw [HITS.out]), rfl⟩
  clear f0 f1 hd f HS
  rintro m f H' ⟨r, D', L', hr, hmr, f3, f0, f1, hd, HS, HST, HL, hln⟩
  have hcp' : cellAt H' p 0 = some (.slice la xs.length lc) := (cellAt_get (HST.out.get p hp HPD.out)).trans hcp
  rcases Nat.eq_zero_or_pos r with hr0 | hr0
  · have h9 : ¬ ((1 : Int) ≤ (r : Int)) := by omega
    have h8 : ¬ ((0 : Int) ≤ (r : Int) - 1) := by omega
    have h7 : ¬ (0 < r) := by omega
    have h6 : ¬ (1 ≤ r) := by omega
    have HR0 := Lib.hid hr0
    clear hr0
    repeat' (first|(with_reducible first|refine zA ?_|refine zB fun K hK=>?_|refine zC fun K2 hK2=>?_|refine zD ?_|refine zE ?_|refine zF ?_|refine zG ?_|refine zH ?_|refine zI ?_|refine zM ?_|refine zN ?_|refine zO ?_|refine zP ?_|refine zQ ?_|refine zR ?_)|((with_reducible refine zU (hK _ _ ?_));clear hK K)|((with_reducible refine zV ?_ ?_ fun K1 K3 d hdst h1 h3=>?_);rfl;exact yB rfl;cases hdst;go_simp)|((with_reducible refine zW fun K1 K3 h1 h3=>?_);go_simp)|((first|refine h1 ?_|refine h3 ?_);clear h1 h3 K1 K3)|((first|refine zX (fun hb=>h1 ?_) (fun hb=>h3 ?_)|refine zX (fun hb=>h3 ?_) (fun hb=>h1 ?_))<;>(clear h1 h3 K1 K3;(try have hb2:=yC hb);(try have hb2:=yD hb);(try have hb2:=yE hb);(try have hb2:=yF hb);(try have hb2:=yG hb)))|(refine fun (K2:_→AHeap→Prop) hK2=>?_)|((with_reducible refine zY ?_ ?_);decide)|((with_reducible first|refine zZ ?_ (fun K hK=>?_)|refine yA ?_ (fun K hK=>?_));(focus go_simp;done);go_simp;refine hK _ _ ?_;clear hK K)|(go_simp;(try go_bits);refine hK2 _ _ ?_;clear hK2 K2))
    all_goals (try (exfalso; omega))
    refine ⟨D', ?_, HST.out⟩
    have h5 := HL.out
    rw [HR0.out] at h5
    rw [← h5]; simpa [backL] using HS.out
  · obtain ⟨b, o, sp, rfl, hb, hxc⟩ := HLI.out.cells_at (k := r - 1) (by omega)
    have hbd : ¬ D b := fun h => by have := HB.out b h; omega
    have hxc' : cellsAt H' b (o + (r - 1) * 2) 2 = some [.int .i64 (xs[r - 1]'(by omega)).1, .int .i64 (xs[r - 1]'(by omega)).2] := (cellsAt_get (HST.out.get b (Nat.lt_of_lt_of_le hb HX.out.n) hbd)).trans ((HX.out.cellsAt hb).trans hxc)
    have hgd : xs.getD (r - 1) (0, 0) = xs[r - 1]'(by omega) := by simp [List.getD_eq_getElem?_getD, show r - 1 < xs.length by omega]
    have hIT : It (.tuple #[.int .i64 ((r : Int) - 1), spanVal (xs[r - 1]'(by omega))]) := by
      have h := HIT.out (r - 1) (by omega)
      rw [itemS, hgd, show ((r - 1 : Nat) : Int) = (r : Int) - 1 by omega] at h
      exact h
    have hbk : Hid (backL (itemS xs) r = .tuple #[.int .i64 ((r : Int) - 1), spanVal (xs[r - 1]'(by omega))] :: backL (itemS xs) (r - 1)) := Lib.hid (by
      rw [← hgd, ← show ((r - 1 : Nat) : Int) = (r : Int) - 1 by omega]
      conv => lhs; rw [show r = (r - 1) + 1 by omega, backL]
      rfl)
    generalize xs[r - 1]'(by omega) = x at hxc' hIT hbk
    obtain ⟨lo, hi⟩ := x
    simp only [spanVal] at hxc' hIT hbk
    have HIX := Lib.hid hIT
    clear hIT hgd hxc
    have h0i : (0 : Int) ≤ (r : Int) - 1 := by omega
    have h1i : (r : Int) - 1 < (xs.length : Int) := by omega
    have h2i : (1 : Int) ≤ (r : Int) := by omega
    have h3i : 1 ≤ r := by omega
    have hroom : L'.length < room := by have := HRO.out; omega
    repeat' (first|(with_reducible first|refine zA ?_|refine zB fun K hK=>?_|refine zC fun K2 hK2=>?_|refine zD ?_|refine zE ?_|refine zF ?_|refine zG ?_|refine zH ?_|refine zI ?_|refine zM ?_|refine zN ?_|refine zO ?_|refine zP ?_|refine zQ ?_|refine zR ?_)|((with_reducible refine zU (hK _ _ ?_));clear hK K)|((with_reducible refine zV ?_ ?_ fun K1 K3 d hdst h1 h3=>?_);rfl;exact yB rfl;cases hdst;go_simp)|((with_reducible refine zW fun K1 K3 h1 h3=>?_);go_simp)|((first|refine h1 ?_|refine h3 ?_);clear h1 h3 K1 K3)|((first|refine zX (fun hb=>h1 ?_) (fun hb=>h3 ?_)|refine zX (fun hb=>h3 ?_) (fun hb=>h1 ?_))<;>(clear h1 h3 K1 K3;(try have hb2:=yC hb);(try have hb2:=yD hb);(try have hb2:=yE hb);(try have hb2:=yF hb);(try have hb2:=yG hb)))|(refine fun (K2:_→AHeap→Prop) hK2=>?_)|((with_reducible refine zY ?_ ?_);decide)|((with_reducible first|refine zZ ?_ (fun K hK=>?_)|refine yA ?_ (fun K hK=>?_));(focus go_simp;done);go_simp;refine hK _ _ ?_;clear hK K)|(go_simp;(try go_bits);(try first | ((refine RoundS.mono (HG.out.round (v := .tuple #[.int .i64 ((r : Int) - 1), .agg #[.int .i64 lo, .int .i64 hi]]) HFL.out hroom HIX.out HS.out) ?_); rintro _ H3 ⟨rfl, D3, hS3, hst3⟩; (have HS3 := Lib.hid hS3); (have HST3 := Lib.hid hst3); clear hS3 hst3));refine hK2 _ _ ?_;clear hK2 K2))
    refine Post.round_normal ⟨r - 1, by omega, r - 1, D3, _, by omega, rfl, ?_, (by first|go_simp<;>go_num|assumption), (by first|go_simp<;>go_num|assumption), (by first|go_simp<;>go_num|assumption), HS3, Lib.hid (HST.out.trans HST3.out), Lib.hid ?_, ?_⟩
    · have e : ((r - 1 : Nat) : Int) - 1 = (r : Int) - 1 - 1 := by omega
      rw [e]
      first | (go_simp; done) | (go_simp; go_num; done)
    · rw [← HL.out, hbk.out]; simp
    · simp; omega

def BackSAt (Hb H : AHeap) (p : Nat) (v : Value) (xs : List (Int × Int)) : Prop := ∃ lv, v = .func (.func 132) #[] #[.pointer (some ⟨p, 0, none⟩)] ∧ p < H.n ∧ H.get p = .row [lv] 64 ∧ Spans Hb lv xs ∧ Ext Hb H
theorem backS_e {loops : List (Nat × LInfo)} {Hb H : AHeap} {lv : Value} {xs : List (Int × Int)} (hv : Spans Hb lv xs) (hx : Ext Hb H) : CallS Tryz.prog loops 121 [lv] H fun v H' => BackSAt Hb H' H.n v xs ∧ Ext H H' := by
  obtain ⟨hll, la, lc, rfl⟩ := hv.slice
  have HL := Lib.hid hv
  have HX := Lib.hid hx
  clear hv hx
  refine CallS.enter' Tryz.func121 rfl Tryz.ntmps121 (by simp) fun f hd hf => ?_
  have f0 := hf 0
  simp at f0
  clear hf
  repeat' (first|(with_reducible first|refine zA ?_|refine zB fun K hK=>?_|refine zC fun K2 hK2=>?_|refine zD ?_|refine zE ?_|refine zF ?_|refine zG ?_|refine zH ?_|refine zI ?_|refine zM ?_|refine zN ?_|refine zO ?_|refine zP ?_|refine zQ ?_|refine zR ?_)|((with_reducible refine zU (hK _ _ ?_));clear hK K)|((with_reducible refine zV ?_ ?_ fun K1 K3 d hdst h1 h3=>?_);rfl;exact yB rfl;cases hdst;go_simp)|((with_reducible refine zW fun K1 K3 h1 h3=>?_);go_simp)|((first|refine h1 ?_|refine h3 ?_);clear h1 h3 K1 K3)|((first|refine zX (fun hb=>h1 ?_) (fun hb=>h3 ?_)|refine zX (fun hb=>h3 ?_) (fun hb=>h1 ?_))<;>(clear h1 h3 K1 K3;(try have hb2:=yC hb);(try have hb2:=yD hb);(try have hb2:=yE hb);(try have hb2:=yF hb);(try have hb2:=yG hb)))|(refine fun (K2:_→AHeap→Prop) hK2=>?_)|((with_reducible refine zY ?_ ?_);decide)|((with_reducible first|refine zZ ?_ (fun K hK=>?_)|refine yA ?_ (fun K hK=>?_));(focus go_simp;done);go_simp;refine hK _ _ ?_;clear hK K)|(go_simp;(try go_bits);refine hK2 _ _ ?_;clear hK2 K2))
  exact ⟨⟨_, rfl, by rw [AHeap.n_push]; omega, AHeap.get_push_new, HL.out, HX.out.push' _⟩, Ext.push _⟩
theorem BackSAt.gives {Hb H : AHeap} {p : Nat} {v : Value} {xs : List (Int × Int)} (h : BackSAt Hb H p v xs) {It : Value → Prop} (hit : ∀ i, i < xs.length → It (itemS xs i)) : Gives2 Tryz.prog H (fun i => i < Hb.n ∨ i = p) xs.length v It (backL (itemS xs) xs.length) := by
  obtain ⟨lv, rfl, h2, h3, h4, h5⟩ := h
  refine ⟨132, _, rfl, by kernel_rfl, ?_, fun loops ls H' l Rd room S L D hf hg hS hn hR hr => ?_⟩
  · rintro i (h | rfl)
    · exact Nat.lt_of_lt_of_le h h5.n
    · exact h2
  · refine backS_gives (H0 := Hb) hf hg hS (Nat.lt_of_lt_of_le h2 hn) (hR p (.inr rfl)).2 ((hR p (.inr rfl)).1.trans h3) h4 ⟨Nat.le_trans h5.n hn, fun i hi => (hR i (.inl hi)).1.trans (h5.get i hi)⟩ (fun i hi => ?_) hit hr
    rcases Nat.lt_or_ge i Hb.n with h0 | h0
    · exact absurd hi (hR i (.inl h0)).2
    · exact h0
end Go.Proofs.Tryz
