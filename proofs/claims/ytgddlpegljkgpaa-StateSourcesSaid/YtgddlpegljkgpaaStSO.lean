/- Contracts of functions, walked. -/
import Derived.Test.YtgddlpegljkgpaaStSN
import Derived.Test.YtgddlpegljkgpaaAwB
set_option linter.all false
namespace Go.Proofs.Try
open Go Go.Am Go.RowKit Go.Co
set_option maxRecDepth 100000

/-! The course of a copy. -/
def rowOf (s : Sheet) (c : Copy) (i : Nat) : List (Int × Int) := cutS c.beg c.fin (joinL (offS (strs s i) (c.words.getD i 0)))
def courseOf (s : Sheet) (c : Copy) : Course := ⟨(List.range c.words.length).map (rowOf s c), c.per⟩

/-- Spans, their block within bounds. -/
def SpansIn (lo hi : Nat) (H : AHeap) (v : Value) (l : List (Int × Int)) : Prop := (spanCells l).length = l.length * 2 ∧ l.length ≤ 9223372036854775807 ∧ ∃ a c, v = .slice a l.length c ∧ (0 < l.length → ∃ b o sp, a = some ⟨b, o, sp⟩ ∧ lo ≤ b ∧ b < hi ∧ ∀ j u, (spanCells l)[j]? = some u → cellAt H b (o + j) = some u)
theorem SpansIn.spans {lo hi : Nat} {H : AHeap} {v : Value} {l : List (Int × Int)} (h : SpansIn lo hi H v l) (hh : hi ≤ H.n) : Spans H v l := by
  obtain ⟨h1, h2, a, c, h3, h4⟩ := h
  refine ⟨h1, h2, a, c, h3, fun hn => ?_⟩
  obtain ⟨b, o, sp, h5, h6, h7, h8⟩ := h4 hn
  exact ⟨b, o, sp, h5, by omega, h8⟩
theorem SpansIn.keep {lo hi lo' hi' : Nat} {H H' : AHeap} {v : Value} {l : List (Int × Int)} (h : SpansIn lo hi H v l) (hl : lo' ≤ lo) (hh : hi ≤ hi') (hk : ∀ i, lo ≤ i → i < hi → H'.get i = H.get i) : SpansIn lo' hi' H' v l := by
  obtain ⟨h1, h2, a, c, h3, h4⟩ := h
  refine ⟨h1, h2, a, c, h3, fun hn => ?_⟩
  obtain ⟨b, o, sp, h5, h6, h7, h8⟩ := h4 hn
  exact ⟨b, o, sp, h5, by omega, by omega, fun j u hu => by rw [cellAt_get (hk b h6 h7)]; exact h8 j u hu⟩
theorem SpansIn.of_own {base : Nat} {H : AHeap} {v : Value} {l : List (Int × Int)} (h : Own H base v 87 2 (spanCells l)) (hl : l.length ≤ 9223372036854775807) : SpansIn base H.n H v l := by
  have hlen := spanCells_length l
  rcases h with ⟨rfl, h2⟩ | ⟨b, n, rfl, h2, h3, h4, h5, h6⟩
  · have : l.length = 0 := by rw [h2] at hlen; simp at hlen; omega
    exact ⟨hlen, hl, none, 0, by rw [this], by omega⟩
  · have hn : n = l.length := by omega
    subst hn
    refine ⟨hlen, hl, _, _, rfl, fun _ => ⟨b, 0, none, rfl, h2, h3, fun j u hu => ?_⟩⟩
    simp only [cellAt, h4, Nat.zero_add]; exact hu
theorem SpansIn.slice {lo hi : Nat} {H : AHeap} {v : Value} {l : List (Int × Int)} (h : SpansIn lo hi H v l) : ∃ a c, v = .slice a l.length c := by
  obtain ⟨h1, h2, a, c, h3, h4⟩ := h
  exact ⟨a, c, h3⟩

/-- The rows that a course has so far: the values, each by its spans. -/
def RowsTo (lo hi : Nat) (H : AHeap) (vs : List Value) (L : List (List (Int × Int))) : Prop := vs.length = L.length ∧ ∀ (i : Nat) (h : i < L.length), ∃ u, vs[i]? = some u ∧ SpansIn lo hi H u L[i]
theorem RowsTo.snoc {lo hi : Nat} {H : AHeap} {vs : List Value} {L : List (List (Int × Int))} {u : Value} {l : List (Int × Int)} (h : RowsTo lo hi H vs L) (hu : SpansIn lo hi H u l) : RowsTo lo hi H (vs ++ [u]) (L ++ [l]) := by
  refine ⟨by simp [h.1], fun i hi => ?_⟩
  rcases Nat.lt_or_ge i L.length with hlt | hge
  · obtain ⟨w, h1, h2⟩ := h.2 i hlt
    exact ⟨w, by rw [List.getElem?_append_left (by rw [h.1]; exact hlt)]; exact h1, by rw [List.getElem_append_left hlt]; exact h2⟩
  · have : i = L.length := by simp at hi; omega
    subst this
    refine ⟨u, by rw [← h.1]; simp, ?_⟩
    rw [List.getElem_append_right (Nat.le_refl _)]
    simpa using hu
theorem RowsTo.keep {lo hi lo' hi' : Nat} {H H' : AHeap} {vs : List Value} {L : List (List (Int × Int))} (h : RowsTo lo hi H vs L) (hl : lo' ≤ lo) (hh : hi ≤ hi') (hk : ∀ i, lo ≤ i → i < hi → H'.get i = H.get i) : RowsTo lo' hi' H' vs L :=
  ⟨h.1, fun i hi => by obtain ⟨w, h1, h2⟩ := h.2 i hi; exact ⟨w, h1, h2.keep hl hh hk⟩⟩
theorem RowsTo.one {lo hi : Nat} {H : AHeap} {vs : List Value} {L : List (List (Int × Int))} (h : RowsTo lo hi H vs L) : vs.all oneV = true := by
  rw [List.all_eq_true]
  intro v hv
  obtain ⟨i, hi, rfl⟩ := List.mem_iff_getElem.1 hv
  obtain ⟨u, h1, h2⟩ := h.2 i (by rw [← h.1]; exact hi)
  rw [List.getElem?_eq_getElem hi] at h1
  cases h1
  obtain ⟨a, c, h3⟩ := h2.slice
  rw [h3]; rfl
theorem RowsTo.rows {lo hi : Nat} {H : AHeap} {base : Nat} {v : Value} {vs : List Value} {L : List (List (Int × Int))} (h : RowsTo lo hi H vs L) (ho : Own H base v 37 1 vs) (hh : hi ≤ H.n) (hl : L.length ≤ 9223372036854775807) : Rows H v L := by
  refine ⟨vs, ?_, fun i hi => by obtain ⟨w, h1, h2⟩ := h.2 i hi; exact ⟨w, h1, h2.spans hh⟩⟩
  rcases ho with ⟨rfl, h2⟩ | ⟨b, n, rfl, h2, h3, h4, h5, h6⟩
  · have h7 := h.1
    rw [h2] at h7
    have h8 : L.length = 0 := by simpa using h7.symm
    exact ⟨by rw [h2, h8]; rfl, hl, none, 0, by rw [h8], by omega⟩
  · have hn : n = L.length := by rw [← h.1]; omega
    subst hn
    refine ⟨by rw [h.1]; omega, hl, _, _, rfl, fun _ => ⟨b, 0, none, rfl, h3, fun j u hu => ?_⟩⟩
    simp only [cellAt, h4, Nat.zero_add]; exact hu

theorem get_at {H : AHeap} {b : Nat} {o : AObj} (h : b = H.n) : (H.push o).get b = o := by rw [h, AHeap.get_push_new]
theorem rowOf_len {s : Sheet} {c : Copy} {i : Nat} (h : (strs s i).length ≤ 1000) : (rowOf s c i).length ≤ 1000 := by
  unfold rowOf
  have h1 := cutS_le c.beg c.fin (joinL (offS (strs s i) (c.words.getD i 0)))
  have h2 := joinL_le (offS (strs s i) (c.words.getD i 0))
  have h3 := offS_le (strs s i) (c.words.getD i 0)
  omega

theorem courseOf_len (s : Sheet) (c : Copy) : (courseOf s c).open_.length = c.words.length := by simp [courseOf]
set_option maxHeartbeats 4000000 in
theorem courseOf_e {loops : List (Nat × LInfo)} {H : AHeap} {sv cv : Value} {s : Sheet} {c : Copy} (hs : SheetV H sv s) (hc : CopyV H cv c) (he : errCopy s c = 0) : CallS Try.prog loops 84 [sv, cv] H fun r H' => CourseV H' r (courseOf s c) ∧ Ext H H' := by
  have HV := Lib.hid hs
  obtain ⟨wv, av, rfl, hw, ha⟩ := hs
  obtain ⟨hwl, wa, wc, rfl⟩ := hw.slice
  obtain ⟨hal, aa, ac, rfl⟩ := ha.slice
  obtain ⟨cv, rfl, hcw⟩ := hc
  obtain ⟨hcl, ca, cc, rfl⟩ := hcw.slice
  have HCW := Lib.hid hcw
  clear hw ha hcw
  obtain ⟨he0, hlen, hwo, -⟩ := errCopy_ok he
  have hso := (err_ok he0).1
  have hal4 := (err_ok he0).2.2.2
  have hwn : s.words.length ≤ 40 := by have := (win_iff.1 (err_ok he0).2.1).2; omega
  have HLEN := Lib.hid hlen
  have HSO := Lib.hid hso
  have hsl : ∀ i : Int, (strs s i).length ≤ 1000 := fun i => by have := go_le i s.alts 0 ⟨s.words[i.toNat]!, 0, false⟩; unfold strs; omega
  have HSL := Lib.hid hsl
  have hcn : c.words.length ≤ 40 := by omega
  clear he he0 hlen hso hsl
  refine CallS.enter' Try.func84 rfl Try.ntmps84 (by simp) fun f hd hf => ?_
  have f0 := hf 0
  have f1 := hf 1
  simp at f0 f1
  clear hf
  repeat' (first | (with_reducible first | refine CodeS.seq ?_ | refine CodeS.region_k fun K hK => ?_ | refine opsP_go fun K2 hK2 => ?_ | refine Post.then_normal ?_ | refine Post.then_ret ?_ | refine Post.then_exit ?_ | refine Post.block_normal ?_ | refine Post.block_ret ?_ | refine Post.block_here ?_ | refine Post.scope_normal ?_ | refine Post.scope_ret ?_ | refine Post.scope_exit ?_ | refine Post.round_ret ?_ | refine Post.round_exit ?_ | refine CodeS.block ?_ | refine CodeS.skip ?_ | refine CodeS.ret ?_ | refine CodeS.exit ?_ | refine CodeS.scope ?_ | refine CodeS.label ?_) | ((with_reducible refine opsP_nil (hK _ _ ?_)); clear hK K) | ((with_reducible refine opsP_gd ?hj ?hlt fun K1 K3 d hdst h1 h3 => ?_); (case hj => rfl); (case hlt => exact Nat.le_of_ble_eq_true rfl); cases hdst; go_simp) | ((with_reducible refine CodeS.cond_k fun K1 K3 h1 h3 => ?_); go_simp) | (refine h1 ?_; clear h1 h3 K1 K3) | (refine h3 ?_; clear h1 h3 K1 K3) | ((refine Either.mk (fun hb => h1 ?_) (fun hb => h3 ?_)) <;> (clear h1 h3 K1 K3; (try have hb2 := of_decide hb); (try have hb2 := of_not_decide_lt hb); (try have hb2 := of_not_decide_le hb); (try have hb2 := of_not_decide_ltN hb); (try have hb2 := of_not_decide_leN hb))) | ((refine Either.mk (fun hb => h3 ?_) (fun hb => h1 ?_)) <;> (clear h1 h3 K1 K3; (try have hb2 := of_decide hb); (try have hb2 := of_not_decide_lt hb); (try have hb2 := of_not_decide_le hb); (try have hb2 := of_not_decide_ltN hb); (try have hb2 := of_not_decide_leN hb))) | (refine fun (K2 : _ → AHeap → Prop) hK2 => ?_) | ((with_reducible refine Post.block_off ?hn ?_); (case hn => decide)) | ((with_reducible first | refine Post.body_k ?hd (fun K hK => ?_) | refine Post.body_kn ?hd (fun K hK => ?_)); (case hd => (go_simp; done)); go_simp; refine hK _ _ ?_; clear hK K) | ((with_reducible refine CodeS.tree_lit mixed rfl ?hok 20 fun K0 hK0 => ?_); (case hok => kernel_rfl)) | (with_reducible first | exact loudsP_nil | exact stableP_nil | refine treeP_lit ?_ | refine passP_nil ?_ | refine stableP_keep ?_) | ((with_reducible first | refine passP_skip ?h1 ?_ | refine loudsP_skip ?h1 ?_ | refine stepT_more ?h1 ?_); (case h1 => rfl)) | ((with_reducible refine stepT_done ?h1 ?_); (case h1 => rfl); refine hK0 _ _ ?_; clear hK0 K0) | ((with_reducible refine passP_loud ?h1 ?hg ?hl ?_); (case h1 => rfl); (case hg => rfl); (case hl => rfl)) | ((with_reducible refine passP_q ?h1 ?hl ?hlt fun K2 hK2 => ?_); (case h1 => rfl); (case hl => rfl); (case hlt => exact Nat.le_of_ble_eq_true rfl)) | ((with_reducible refine passP_g ?h1 ?hj ?hl ?hlt fun K1 K3 d hdst h1 h3 => ?_); (case h1 => rfl); (case hj => rfl); (case hl => rfl); (case hlt => exact Nat.le_of_ble_eq_true rfl); cases hdst; go_simp) | ((with_reducible refine passP_lg ?h1 ?hj ?hl ?hlt fun K1 K3 d hdst h1 h3 => ?_); (case h1 => rfl); (case hj => rfl); (case hl => rfl); (case hlt => exact Nat.le_of_ble_eq_true rfl); cases hdst; go_simp) | ((with_reducible refine loudsP_c ?h1 ?hlt (fun K2 hK2 => ?_) ?_); (case h1 => rfl); (case hlt => exact Nat.le_of_ble_eq_true rfl)) | ((with_reducible refine loudsP_cg ?h1 ?hlt ?hj ?hw (fun K2 hK2 => ?_) ?_); (case h1 => rfl); (case hlt => exact Nat.le_of_ble_eq_true rfl); (case hj => rfl); (case hw => (go_simp; done))) | ((with_reducible refine loudsP_v ?h1 ?hv ?hlt (fun K2 hK2 => ?_) ?_); (case h1 => rfl); (case hv => rfl); (case hlt => exact Nat.le_of_ble_eq_true rfl)) | ((with_reducible refine loudsP_u ?h1 ?hv (fun K2 hK2 => ?_) ?_); (case h1 => rfl); (case hv => rfl)) | ((with_reducible refine stableP_pre ?h1 ?_); (case h1 => (first | rfl | (dsimp only; decide +kernel)))) | ((with_reducible refine stableP_re ?h1 ?_); (case h1 => (go_simp; done))) | (go_simp; (try go_bits); (first | (refine hK2 _ _ ?_ ?_ <;> clear hK2 K2) | (refine hK2 _ _ ?_; clear hK2 K2))))
  refine CodeS.loop (fun m f H' => ∃ (k : Nat) (v : Value) (vs : List Value) (q : Nat), k ≤ c.words.length ∧ m = c.words.length - k ∧ f.tmp 15 = .int .i64 k ∧ f.tmp 14 = .int .i64 c.words.length ∧ f.tmp 13 = .slice ca c.words.length cc ∧ f.tmp 2 = .pointer (some ⟨H.n, 0, none⟩) ∧ f.tmp 3 = .pointer (some ⟨H.n + 1, 0, none⟩) ∧ f.tmp 4 = .pointer (some ⟨H.n + 2, 0, none⟩) ∧ f.tmp 5 = .pointer (some ⟨H.n + 3, 0, none⟩) ∧ f.defers = [] ∧ H.n + 4 ≤ q ∧ q ≤ H'.n ∧ Hid (Ext H H') ∧ Hid (H'.get H.n = .row [Value.slice wa s.words.length wc, Value.slice aa s.alts.length ac] 25) ∧ Hid (H'.get (H.n + 1) = .row [Value.slice ca c.words.length cc, .int .i64 c.beg, .int .i64 c.fin, .int .i64 c.per] 27) ∧ Hid (H'.get (H.n + 2) = .row [Value.slice none 0 0, .int .i64 0] 118) ∧ Hid (H'.get (H.n + 3) = .row [v, .int .i64 c.per] 118) ∧ Hid (Own H' q v 37 1 vs) ∧ Hid (RowsTo (H.n + 4) q H' vs ((List.range k).map (rowOf s c)))) c.words.length ?_ ?_
  · refine ⟨0, .slice none 0 0, [], H.n + 4, by simp, by simp, (by first | (go_simp; done) | (go_simp; go_num; done) | assumption), (by first | (go_simp; done) | (go_simp; go_num; done) | assumption), (by first | (go_simp; done) | (go_simp; go_num; done) | assumption), (by first | (go_simp; done) | (go_simp; go_num; done) | assumption), (by first | (go_simp; done) | (go_simp; go_num; done) | assumption), (by first | (go_simp; done) | (go_simp; go_num; done) | assumption), (by first | (go_simp; done) | (go_simp; go_num; done) | assumption), (by first | (go_simp; done) | (go_simp; go_num; done) | assumption), Nat.le_refl _, by simp only [AHeap.n_push]; omega, Lib.hid ((((Ext.refl _).push' _).push' _).push' _ |>.push' _), Lib.hid ?_, Lib.hid ?_, Lib.hid ?_, Lib.hid ?_, Lib.hid Own.nil, Lib.hid ⟨rfl, fun i h => by simp at h⟩⟩
    · rw [AHeap.get_push_old (by simp only [AHeap.n_push]; omega), AHeap.get_push_old (by simp only [AHeap.n_push]; omega), AHeap.get_push_old (by simp only [AHeap.n_push]; omega), get_at rfl]
    · rw [AHeap.get_push_old (by simp only [AHeap.n_push]; omega), AHeap.get_push_old (by simp only [AHeap.n_push]; omega), get_at (by simp only [AHeap.n_push])]
    · rw [AHeap.get_push_old (by simp only [AHeap.n_push]; omega), get_at (by simp only [AHeap.n_push])]
    · rw [get_at (by simp only [AHeap.n_push])]
  clear f0 f1 hd f
  rintro m f H' ⟨k, v, vs, q, hk, rfl, f15, f14, f13, f2, f3, f4, f5, hd, hq0, hq1, HX, HG0, HG1, HG2, HG3, HO, HR⟩
  have hcs : ∀ H2, Ext H' H2 → cellsAt H2 H.n 0 2 = some [Value.slice wa s.words.length wc, Value.slice aa s.alts.length ac] ∧ cellAt H2 (H.n + 1) 1 = some (.int .i64 c.beg) ∧ cellAt H2 (H.n + 1) 2 = some (.int .i64 c.fin) ∧ cellAt H2 (H.n + 3) 0 = some v ∧ H.n < H2.n ∧ H.n + 1 < H2.n ∧ H.n + 3 < H2.n := by
    intro H2 hx
    have hn := hx.n
    exact ⟨by simp [cellsAt, hx.get H.n (by omega), HG0.out], by simp [cellAt, hx.get (H.n + 1) (by omega), HG1.out], by simp [cellAt, hx.get (H.n + 1) (by omega), HG1.out], by simp [cellAt, hx.get (H.n + 3) (by omega), HG3.out], by omega, by omega, by omega⟩
  have HCS := Lib.hid hcs
  clear hcs
  by_cases hlt : k < c.words.length
  · obtain ⟨b, o, sp, rfl, hb, hx1⟩ := (HCW.out.ext HX.out).at_ hlt
    have hro : Hid (rowOf s c k = cutS c.beg c.fin (joinL (offS (strs s k) (c.words[k])))) := Lib.hid (by simp [rowOf, hlt])
    have HRL := Lib.hid (rowOf_len (c := c) (HSL.out k))
    generalize c.words[k] = w at hx1 hro
    obtain ⟨r1, r2, r3, r4, r5, r6, r7⟩ := HCS.out H' (Ext.refl _)
    obtain ⟨va, vn, rfl⟩ := own_slice HO.out
    have hvl : Hid (vs.length = k) := Lib.hid (by rw [HR.out.1]; simp)
    have hjl : Hid ((joinL (offS (strs s k) w)).length ≤ 1000) := Lib.hid (by
      have h2 := joinL_le (offS (strs s k) w)
      have h3 := offS_le (strs s k) w
      have h4 := HSL.out k
      omega)
    have hbig : (vs.length + 1) * max 24 1 ≤ 1073741824 := by have := hvl.out; simp; omega
    have HBIG := Lib.hid hbig
    have HONE : Hid (vs.all oneV = true) := Lib.hid HR.out.one
    clear hbig
    repeat' (first | (with_reducible first | refine CodeS.seq ?_ | refine CodeS.region_k fun K hK => ?_ | refine opsP_go fun K2 hK2 => ?_ | refine Post.then_normal ?_ | refine Post.then_ret ?_ | refine Post.then_exit ?_ | refine Post.block_normal ?_ | refine Post.block_ret ?_ | refine Post.block_here ?_ | refine Post.scope_normal ?_ | refine Post.scope_ret ?_ | refine Post.scope_exit ?_ | refine Post.round_ret ?_ | refine Post.round_exit ?_ | refine CodeS.block ?_ | refine CodeS.skip ?_ | refine CodeS.ret ?_ | refine CodeS.exit ?_ | refine CodeS.scope ?_ | refine CodeS.label ?_) | ((with_reducible refine opsP_nil (hK _ _ ?_)); clear hK K) | ((with_reducible refine opsP_gd ?hj ?hlt fun K1 K3 d hdst h1 h3 => ?_); (case hj => rfl); (case hlt => exact Nat.le_of_ble_eq_true rfl); cases hdst; go_simp) | ((with_reducible refine CodeS.cond_k fun K1 K3 h1 h3 => ?_); go_simp) | (refine h1 ?_; clear h1 h3 K1 K3) | (refine h3 ?_; clear h1 h3 K1 K3) | ((refine Either.mk (fun hb => h1 ?_) (fun hb => h3 ?_)) <;> (clear h1 h3 K1 K3; (try have hb2 := of_decide hb); (try have hb2 := of_not_decide_lt hb); (try have hb2 := of_not_decide_le hb); (try have hb2 := of_not_decide_ltN hb); (try have hb2 := of_not_decide_leN hb))) | ((refine Either.mk (fun hb => h3 ?_) (fun hb => h1 ?_)) <;> (clear h1 h3 K1 K3; (try have hb2 := of_decide hb); (try have hb2 := of_not_decide_lt hb); (try have hb2 := of_not_decide_le hb); (try have hb2 := of_not_decide_ltN hb); (try have hb2 := of_not_decide_leN hb))) | (refine fun (K2 : _ → AHeap → Prop) hK2 => ?_) | ((with_reducible refine Post.block_off ?hn ?_); (case hn => decide)) | ((with_reducible first | refine Post.body_k ?hd (fun K hK => ?_) | refine Post.body_kn ?hd (fun K hK => ?_)); (case hd => (go_simp; done)); go_simp; refine hK _ _ ?_; clear hK K) | ((with_reducible refine CodeS.tree_lit mixed rfl ?hok 20 fun K0 hK0 => ?_); (case hok => kernel_rfl)) | (with_reducible first | exact loudsP_nil | exact stableP_nil | refine treeP_lit ?_ | refine passP_nil ?_ | refine stableP_keep ?_) | ((with_reducible first | refine passP_skip ?h1 ?_ | refine loudsP_skip ?h1 ?_ | refine stepT_more ?h1 ?_); (case h1 => rfl)) | ((with_reducible refine stepT_done ?h1 ?_); (case h1 => rfl); refine hK0 _ _ ?_; clear hK0 K0) | ((with_reducible refine passP_loud ?h1 ?hg ?hl ?_); (case h1 => rfl); (case hg => rfl); (case hl => rfl)) | ((with_reducible refine passP_q ?h1 ?hl ?hlt fun K2 hK2 => ?_); (case h1 => rfl); (case hl => rfl); (case hlt => exact Nat.le_of_ble_eq_true rfl)) | ((with_reducible refine passP_g ?h1 ?hj ?hl ?hlt fun K1 K3 d hdst h1 h3 => ?_); (case h1 => rfl); (case hj => rfl); (case hl => rfl); (case hlt => exact Nat.le_of_ble_eq_true rfl); cases hdst; go_simp) | ((with_reducible refine passP_lg ?h1 ?hj ?hl ?hlt fun K1 K3 d hdst h1 h3 => ?_); (case h1 => rfl); (case hj => rfl); (case hl => rfl); (case hlt => exact Nat.le_of_ble_eq_true rfl); cases hdst; go_simp) | ((with_reducible refine loudsP_c ?h1 ?hlt (fun K2 hK2 => ?_) ?_); (case h1 => rfl); (case hlt => exact Nat.le_of_ble_eq_true rfl)) | ((with_reducible refine loudsP_cg ?h1 ?hlt ?hj ?hw (fun K2 hK2 => ?_) ?_); (case h1 => rfl); (case hlt => exact Nat.le_of_ble_eq_true rfl); (case hj => rfl); (case hw => (go_simp; done))) | ((with_reducible refine loudsP_v ?h1 ?hv ?hlt (fun K2 hK2 => ?_) ?_); (case h1 => rfl); (case hv => rfl); (case hlt => exact Nat.le_of_ble_eq_true rfl)) | ((with_reducible refine loudsP_u ?h1 ?hv (fun K2 hK2 => ?_) ?_); (case h1 => rfl); (case hv => rfl)) | ((with_reducible refine stableP_pre ?h1 ?_); (case h1 => (first | rfl | (dsimp only; decide +kernel)))) | ((with_reducible refine stableP_re ?h1 ?_); (case h1 => (go_simp; done))) | (go_simp; (try go_bits); (try first | ((with_reducible show CallS _ _ _ _ _ _); refine CallS.mono (copyable_e (s := s) (word := w) (HV.out.ext HX.out) (Ext.refl _)) ?_; rintro qv H2 ⟨hq, hx⟩; (have HQ := Lib.hid hq); (have HX2 := Lib.hid hx); clear hq hx) | ((with_reducible show CallS _ _ _ _ _ _); refine CallS.mono (joined_e (HQ.out.gives (by omega) (by have := HLEN.out; omega) HSO.out) (HSL.out _)) ?_; rintro jv H3 ⟨ho, hx⟩; (have HJ := Lib.hid (spans_of_own ho (by have := hjl.out; omega))); (have HX3 := Lib.hid (HX2.out.trans hx)); (obtain ⟨-, ja, jc, hjv⟩ := HJ.out.slice); subst hjv; (obtain ⟨s1, s2, s3, s4, s5, s6, s7⟩ := HCS.out _ (HX2.out.trans hx)); clear ho hx) | ((with_reducible show CallS _ _ _ _ _ _); refine CallS.mono (cut_e HJ.out hjl.out) ?_; rintro uv H4 ⟨ho, hx⟩; (have HU := Lib.hid ho); (have HX4 := Lib.hid (HX3.out.trans hx)); (have HY4 := Lib.hid hx); (obtain ⟨ua, un, huv⟩ := own_slice ho); subst huv; (obtain ⟨t1, t2, t3, t4, t5, t6, t7⟩ := HCS.out _ (HX3.out.trans hx)); clear ho hx) | ((refine one_v el116 sz37 ze37 rfl (by decide) (by decide) rfl rfl ?_); go_simp) | ((refine append_v el116 sz37 by37 ze37 rfl (by decide) ((HO.out.ext HX4.out).ext (Ext.push _)) (srcCells_new rfl) (by decide) rfl (by rw [List.all_append, HONE.out]; rfl) HBIG.out (by simp only [AHeap.n_push]; have := HX4.out.n; omega) fun v2 H5 ho5 hg5 => ?_); (obtain ⟨va2, vn2, rfl⟩ := own_slice ho5); (have HO5 := Lib.hid ho5); (have HG5 := Lib.hid hg5); (have hget5 : ∀ i, i < H.n + 4 → H5.get i = H'.get i := fun i hi => (hg5.2 i (by simp only [AHeap.n_push]; omega) (fun b n hv hn => by have := (own_block HO.out hv hn).1; omega)).trans ((AHeap.get_push_old (by omega)).trans (HX4.out.get i (by omega)))); (have HGET := Lib.hid hget5); (have hg53 : H5.get (H.n + 3) = .row [Value.slice va vn vn, .int .i64 c.per] 118 := (hget5 _ (by omega)).trans HG3.out); (have u1 : cellAt H5 (H.n + 1) 1 = some (.int .i64 c.beg) := by simp [cellAt, hget5 (H.n + 1) (by omega), HG1.out]); (have u2 : cellAt H5 (H.n + 1) 2 = some (.int .i64 c.fin) := by simp [cellAt, hget5 (H.n + 1) (by omega), HG1.out]); (have u3 : cellAt H5 (H.n + 3) 0 = some (Value.slice va vn vn) := by simp [cellAt, hg53]); (have hn5 : H4.n < H5.n := by have := hg5.1; simp only [AHeap.n_push] at this; omega); (have hx5 : Ext H H5 := ⟨by have := HX.out.n; have := HX4.out.n; omega, fun i hi => (hget5 i (by omega)).trans (HX.out.get i hi)⟩); (have HX5 := Lib.hid hx5); clear ho5 hg5 hget5 hx5; go_simp)); (first | (refine hK2 _ _ ?_ ?_ <;> clear hK2 K2) | (refine hK2 _ _ ?_; clear hK2 K2))))
    have hq9 : H'.n ≤ H4.n := HX4.out.n
    have hk6 : ∀ i, i ≠ H.n + 3 → i < H5.n → (H5.upd (H.n + 3) (.row [Value.slice va2 vn2 vn2, .int .i64 c.per] 118)).get i = H5.get i := fun i hi _ => AHeap.get_upd_ne hi
    refine Post.round_normal ⟨c.words.length - (k + 1), by omega, k + 1, .slice va2 vn2 vn2, vs ++ [.slice ua un un], H4.n, by omega, rfl, (by first | (go_simp; done) | (go_simp; go_num; done) | assumption), (by first | (go_simp; done) | (go_simp; go_num; done) | assumption), (by first | (go_simp; done) | (go_simp; go_num; done) | assumption), (by first | (go_simp; done) | (go_simp; go_num; done) | assumption), (by first | (go_simp; done) | (go_simp; go_num; done) | assumption), (by first | (go_simp; done) | (go_simp; go_num; done) | assumption), (by first | (go_simp; done) | (go_simp; go_num; done) | assumption), (by first | (go_simp; done) | (go_simp; go_num; done) | assumption), by omega, by rw [AHeap.n_upd]; omega, Lib.hid (HX5.out.upd (by omega) _), Lib.hid ?_, Lib.hid ?_, Lib.hid ?_, Lib.hid AHeap.get_upd_same, Lib.hid ?_, Lib.hid ?_⟩
    · rw [AHeap.get_upd_ne (by omega), HGET.out _ (by omega)]; exact HG0.out
    · rw [AHeap.get_upd_ne (by omega), HGET.out _ (by omega)]; exact HG1.out
    · rw [AHeap.get_upd_ne (by omega), HGET.out _ (by omega)]; exact HG2.out
    · exact own_upd (HO5.out.mono (by rw [AHeap.n_push]; omega)) (by omega)
    · have hkeep : ∀ i, H.n + 4 ≤ i → i < H4.n → (∀ b n, Value.slice va vn vn = .slice (some ⟨b, 0, none⟩) n n → 0 < n → i ≠ b) → (H5.upd (H.n + 3) (.row [Value.slice va2 vn2 vn2, .int .i64 c.per] 118)).get i = H4.get i := fun i h1 h2 h3 => by
        rw [AHeap.get_upd_ne (by omega), HG5.out.2 i (by rw [AHeap.n_push]; omega) h3, AHeap.get_push_old h2]
      rw [List.range_succ, List.map_append]
      refine RowsTo.snoc (HR.out.keep (Nat.le_refl _) (by omega) fun i h1 h2 => ?_) ?_
      · rw [hkeep i h1 (by omega) (fun b n hv hn => by have := (own_block HO.out hv hn).1; omega)]
        exact HX4.out.get i (by omega)
      · rw [hro.out]
        refine (SpansIn.of_own HU.out (by have h1 := cutS_le c.beg c.fin (joinL (offS (strs s k) w)); have := hjl.out; omega)).keep (by have h1 := HX3.out.n; omega) (Nat.le_refl _) fun i h1 h2 => ?_
        exact hkeep i (by have := HX3.out.n; omega) h2 (fun b n hv hn => by have := (own_block HO.out hv hn).2.1; have := HX3.out.n; omega)
  · have hg2 := HG2.out
    have hg3 := HG3.out
    have hcc : cellsAt H' (H.n + 3) 0 2 = some [v, .int .i64 c.per] := by simp [cellsAt, hg3]
    obtain ⟨r1, r2, r3, r4, r5, r6, r7⟩ := HCS.out H' (Ext.refl _)
    have r8 : H.n + 2 < H'.n := by omega
    obtain ⟨va, vn, rfl⟩ := own_slice HO.out
    clear hg3 HCS
    repeat' (first | (with_reducible first | refine CodeS.seq ?_ | refine CodeS.region_k fun K hK => ?_ | refine opsP_go fun K2 hK2 => ?_ | refine Post.then_normal ?_ | refine Post.then_ret ?_ | refine Post.then_exit ?_ | refine Post.block_normal ?_ | refine Post.block_ret ?_ | refine Post.block_here ?_ | refine Post.scope_normal ?_ | refine Post.scope_ret ?_ | refine Post.scope_exit ?_ | refine Post.round_ret ?_ | refine Post.round_exit ?_ | refine CodeS.block ?_ | refine CodeS.skip ?_ | refine CodeS.ret ?_ | refine CodeS.exit ?_ | refine CodeS.scope ?_ | refine CodeS.label ?_) | ((with_reducible refine opsP_nil (hK _ _ ?_)); clear hK K) | ((with_reducible refine opsP_gd ?hj ?hlt fun K1 K3 d hdst h1 h3 => ?_); (case hj => rfl); (case hlt => exact Nat.le_of_ble_eq_true rfl); cases hdst; go_simp) | ((with_reducible refine CodeS.cond_k fun K1 K3 h1 h3 => ?_); go_simp) | (refine h1 ?_; clear h1 h3 K1 K3) | (refine h3 ?_; clear h1 h3 K1 K3) | ((refine Either.mk (fun hb => h1 ?_) (fun hb => h3 ?_)) <;> (clear h1 h3 K1 K3; (try have hb2 := of_decide hb); (try have hb2 := of_not_decide_lt hb); (try have hb2 := of_not_decide_le hb); (try have hb2 := of_not_decide_ltN hb); (try have hb2 := of_not_decide_leN hb))) | ((refine Either.mk (fun hb => h3 ?_) (fun hb => h1 ?_)) <;> (clear h1 h3 K1 K3; (try have hb2 := of_decide hb); (try have hb2 := of_not_decide_lt hb); (try have hb2 := of_not_decide_le hb); (try have hb2 := of_not_decide_ltN hb); (try have hb2 := of_not_decide_leN hb))) | (refine fun (K2 : _ → AHeap → Prop) hK2 => ?_) | ((with_reducible refine Post.block_off ?hn ?_); (case hn => decide)) | ((with_reducible first | refine Post.body_k ?hd (fun K hK => ?_) | refine Post.body_kn ?hd (fun K hK => ?_)); (case hd => (go_simp; done)); go_simp; refine hK _ _ ?_; clear hK K) | ((with_reducible refine CodeS.tree_lit mixed rfl ?hok 20 fun K0 hK0 => ?_); (case hok => kernel_rfl)) | (with_reducible first | exact loudsP_nil | exact stableP_nil | refine treeP_lit ?_ | refine passP_nil ?_ | refine stableP_keep ?_) | ((with_reducible first | refine passP_skip ?h1 ?_ | refine loudsP_skip ?h1 ?_ | refine stepT_more ?h1 ?_); (case h1 => rfl)) | ((with_reducible refine stepT_done ?h1 ?_); (case h1 => rfl); refine hK0 _ _ ?_; clear hK0 K0) | ((with_reducible refine passP_loud ?h1 ?hg ?hl ?_); (case h1 => rfl); (case hg => rfl); (case hl => rfl)) | ((with_reducible refine passP_q ?h1 ?hl ?hlt fun K2 hK2 => ?_); (case h1 => rfl); (case hl => rfl); (case hlt => exact Nat.le_of_ble_eq_true rfl)) | ((with_reducible refine passP_g ?h1 ?hj ?hl ?hlt fun K1 K3 d hdst h1 h3 => ?_); (case h1 => rfl); (case hj => rfl); (case hl => rfl); (case hlt => exact Nat.le_of_ble_eq_true rfl); cases hdst; go_simp) | ((with_reducible refine passP_lg ?h1 ?hj ?hl ?hlt fun K1 K3 d hdst h1 h3 => ?_); (case h1 => rfl); (case hj => rfl); (case hl => rfl); (case hlt => exact Nat.le_of_ble_eq_true rfl); cases hdst; go_simp) | ((with_reducible refine loudsP_c ?h1 ?hlt (fun K2 hK2 => ?_) ?_); (case h1 => rfl); (case hlt => exact Nat.le_of_ble_eq_true rfl)) | ((with_reducible refine loudsP_cg ?h1 ?hlt ?hj ?hw (fun K2 hK2 => ?_) ?_); (case h1 => rfl); (case hlt => exact Nat.le_of_ble_eq_true rfl); (case hj => rfl); (case hw => (go_simp; done))) | ((with_reducible refine loudsP_v ?h1 ?hv ?hlt (fun K2 hK2 => ?_) ?_); (case h1 => rfl); (case hv => rfl); (case hlt => exact Nat.le_of_ble_eq_true rfl)) | ((with_reducible refine loudsP_u ?h1 ?hv (fun K2 hK2 => ?_) ?_); (case h1 => rfl); (case hv => rfl)) | ((with_reducible refine stableP_pre ?h1 ?_); (case h1 => (first | rfl | (dsimp only; decide +kernel)))) | ((with_reducible refine stableP_re ?h1 ?_); (case h1 => (go_simp; done))) | (go_simp; (try go_bits); (first | (refine hK2 _ _ ?_ ?_ <;> clear hK2 K2) | (refine hK2 _ _ ?_; clear hK2 K2))))
    have hkc : k = c.words.length := by omega
    subst hkc
    refine ⟨⟨_, rfl, ?_⟩, HX.out.upd (by omega) _⟩
    refine RowsTo.rows (hi := q) (HR.out.keep (Nat.le_refl _) (Nat.le_refl _) fun i h1 h2 => AHeap.get_upd_ne (by omega)) (own_upd HO.out (by omega)) (by rw [AHeap.n_upd]; exact hq1) (by rw [courseOf_len]; exact hcl)
theorem courseOf_at (s : Sheet) (c : Copy) {i : Nat} (h : i < c.words.length) : (courseOf s c).at_ i = rowOf s c i := by simp [courseOf, Course.at_, h]
theorem courseOf_ord {s : Sheet} {c : Copy} (h : errCopy s c = 0) : (courseOf s c).ord := by
  intro i
  have hs := (err_ok (errCopy_ok h).1).1
  by_cases hi : i < c.words.length
  · rw [courseOf_at s c hi]
    exact ordS_mono _ (by omega) (cutS_ord c.beg c.fin _ (whenS_ord hs))
  · have : (courseOf s c).at_ i = [] := by simp [courseOf, Course.at_, hi]
    rw [this]; trivial
theorem courseOf_ins {s : Sheet} {c : Copy} (h : errCopy s c = 0) {i : Nat} (hi : i < c.words.length) (d : Int) : ins ((courseOf s c).at_ i) d = ((decide (c.beg ≤ d) && decide (d ≤ c.fin)) && (hasOn s i d).offers (c.words.getD i 0)) := by
  obtain ⟨h0, h1, h2, h3, h4, h5, h6, h7⟩ := errCopy_ok h
  have hs := (err_ok h0).1
  rw [courseOf_at s c hi, rowOf, cutS_ins, whenS_ins hs, Bool.eq_iff_iff]
  simp only [Bool.and_eq_true, decide_eq_true_eq]
  constructor
  · rintro ⟨⟨a, b, e⟩, g⟩; exact ⟨g, e⟩
  · rintro ⟨g, e⟩; exact ⟨⟨by omega, by omega, e⟩, g⟩
end Go.Proofs.Try
