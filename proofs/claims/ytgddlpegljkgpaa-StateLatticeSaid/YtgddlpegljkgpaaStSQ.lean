/- Contracts of functions, walked. -/
import Derived.Test.YtgddlpegljkgpaaStSP
import Derived.Test.YtgddlpegljkgpaaAmS
set_option linter.all false
namespace Go.Proofs.Try
open Go Go.Am Go.RowKit Go.Co
set_option maxRecDepth 100000

/-! The law StateLattice. -/
theorem fitsV_form (s : Sheet) (c : Copy) (days : List Int) : ∃ n b, fitsV s c days = .tuple #[.int .i64 n, .bool b, .int .i64 (errFits s c days)] ∧ (b = true → FitsOk s c days) := by
  unfold fitsV FitsOk
  by_cases h : errFits s c days = 0
  · rw [if_pos h, h]
    cases hf : fitsR s c days with
    | none => exact ⟨0, true, rfl, fun _ => ⟨rfl, rfl⟩⟩
    | some i => exact ⟨i, false, rfl, fun h => by cases h⟩
  · rw [if_neg h]
    exact ⟨0, false, rfl, fun h => by cases h⟩
theorem lattice_ok (f : Int → Int → Int) {s : Sheet} {c : Copy} {xs ys : List Int} (hx : FitsOk s c xs) (hy : FitsOk s c ys) (hf : f = min ∨ f = max) : fitsV s c (zipL f xs ys) = .tuple #[.int .i64 0, .bool true, .int .i64 0] := by
  obtain ⟨h1, h2⟩ := hx
  obtain ⟨h3, h4⟩ := hy
  obtain ⟨he, hxl⟩ := errFits_ok h1
  obtain ⟨-, hyl⟩ := errFits_ok h3
  have hl : xs.length = ys.length := by omega
  have hzl := zipL_len f xs ys hl
  obtain ⟨-, -, -, -, -, -, hp1, -⟩ := errCopy_ok he
  refine fitsV_ok ?_ ?_
  · rw [errFits, if_neg (by simp [he]), if_pos (by omega)]
  · rw [hzl]
    rcases hf with rfl | rfl
    · exact fit_min (by omega) (opOf_in he) hl (fitsR_iff.1 h2) (fitsR_iff.1 h4)
    · exact fit_max (by omega) (opOf_in he) hl (fitsR_iff.1 h2) (fitsR_iff.1 h4)
/-- A slice of the call's own, its block below a bound. -/
def Below' (v : Value) (m : Nat) : Prop := ∀ b n, v = .slice (some ⟨b, 0, none⟩) n n → 0 < n → b < m

theorem take_zip (f : Int → Int → Int) {xs ys : List Int} {k : Nat} (hl : xs.length = ys.length) (hk : k < xs.length) : (zipL f xs ys).take (k + 1) = (zipL f xs ys).take k ++ [f xs[k] (ys[k]'(by omega))] := by
  have hzl := zipL_len f xs ys hl
  have hk2 : k < (zipL f xs ys).length := by omega
  have hg := zipL_get f xs ys k hl hk
  rw [List.getD_eq_getElem?_getD, List.getElem?_eq_getElem hk2, List.getD_eq_getElem?_getD, List.getElem?_eq_getElem hk, List.getD_eq_getElem?_getD, List.getElem?_eq_getElem (show k < ys.length by omega)] at hg
  simp only [Option.getD_some] at hg
  rw [List.take_succ_eq_append_getElem hk2, hg]

set_option maxHeartbeats 8000000 in
theorem law12 {H : AHeap} {sv cv xv yv : Value} {s : Sheet} {c : Copy} {xs ys : List Int} (hv : SheetV H sv s) (hc : CopyV H cv c) (hx : Ints H xv xs) (hy : Ints H yv ys) : CallS Try.prog [] 12 [sv, cv, xv, yv] H fun r _ => r = .bool true := by
  have HV := Lib.hid hv
  have HC := Lib.hid hc
  have HXI := Lib.hid hx
  have HYI := Lib.hid hy
  obtain ⟨wv, av, rfl, hw, ha⟩ := hv
  obtain ⟨hwl, wa, wc, rfl⟩ := hw.slice
  obtain ⟨hal, aa, ac, rfl⟩ := ha.slice
  obtain ⟨cv, rfl, hcw⟩ := hc
  obtain ⟨hcl, ca, cc, rfl⟩ := hcw.slice
  obtain ⟨hxl, xa, xc, rfl⟩ := hx.slice
  obtain ⟨hyl, ya, yc, rfl⟩ := hy.slice
  clear hw ha hcw hx hy
  obtain ⟨n1, b1, hv1, hb1⟩ := fitsV_form s c xs
  obtain ⟨n2, b2, hv2, hb2⟩ := fitsV_form s c ys
  have HV1 := Lib.hid hv1
  have HV2 := Lib.hid hv2
  have HB1 := Lib.hid hb1
  have HB2 := Lib.hid hb2
  generalize hee1 : errFits s c xs = e1 at HV1
  generalize hee2 : errFits s c ys = e2 at HV2
  clear hv1 hv2 hb1 hb2 hee1 hee2
  refine CallS.enter' Try.func12 rfl Try.ntmps12 (by simp) fun f hd hf => ?_
  have f0 := hf 0
  have f1 := hf 1
  have f2 := hf 2
  have f3 := hf 3
  simp at f0 f1 f2 f3
  clear hf
  have HX1 : Hid (Ext H ((H.push (.row [Value.slice wa s.words.length wc, Value.slice aa s.alts.length ac] 25)).push (.row [Value.slice ca c.words.length cc, .int .i64 c.beg, .int .i64 c.fin, .int .i64 c.per] 27))) := Lib.hid (((Ext.refl _).push' _).push' _)
  repeat' (first | (with_reducible first | refine CodeS.seq ?_ | refine CodeS.region_k fun K hK => ?_ | refine opsP_go fun K2 hK2 => ?_ | refine Post.then_normal ?_ | refine Post.then_ret ?_ | refine Post.then_exit ?_ | refine Post.block_normal ?_ | refine Post.block_ret ?_ | refine Post.block_here ?_ | refine Post.scope_normal ?_ | refine Post.scope_ret ?_ | refine Post.scope_exit ?_ | refine Post.round_ret ?_ | refine Post.round_exit ?_ | refine CodeS.block ?_ | refine CodeS.skip ?_ | refine CodeS.ret ?_ | refine CodeS.exit ?_ | refine CodeS.scope ?_ | refine CodeS.label ?_) | ((with_reducible refine opsP_nil (hK _ _ ?_)); clear hK K) | ((with_reducible refine opsP_gd ?hj ?hlt fun K1 K3 d hdst h1 h3 => ?_); (case hj => rfl); (case hlt => exact Nat.le_of_ble_eq_true rfl); cases hdst; go_simp) | ((with_reducible refine CodeS.cond_k fun K1 K3 h1 h3 => ?_); go_simp) | (refine h1 ?_; clear h1 h3 K1 K3) | (refine h3 ?_; clear h1 h3 K1 K3) | ((refine Either.mk (fun hb => h1 ?_) (fun hb => h3 ?_)) <;> (clear h1 h3 K1 K3; (try have hb2 := of_decide hb); (try have hb2 := of_not_decide_lt hb); (try have hb2 := of_not_decide_le hb); (try have hb2 := of_not_decide_ltN hb); (try have hb2 := of_not_decide_leN hb))) | ((refine Either.mk (fun hb => h3 ?_) (fun hb => h1 ?_)) <;> (clear h1 h3 K1 K3; (try have hb2 := of_decide hb); (try have hb2 := of_not_decide_lt hb); (try have hb2 := of_not_decide_le hb); (try have hb2 := of_not_decide_ltN hb); (try have hb2 := of_not_decide_leN hb))) | (refine fun (K2 : _ → AHeap → Prop) hK2 => ?_) | ((with_reducible refine Post.block_off ?hn ?_); (case hn => decide)) | ((with_reducible first | refine Post.body_k ?hd (fun K hK => ?_) | refine Post.body_kn ?hd (fun K hK => ?_)); (case hd => (go_simp; done)); go_simp; refine hK _ _ ?_; clear hK K) | ((with_reducible refine CodeS.tree_lit mixed rfl ?hok 20 fun K0 hK0 => ?_); (case hok => kernel_rfl)) | (with_reducible first | exact loudsP_nil | exact stableP_nil | refine treeP_lit ?_ | refine passP_nil ?_ | refine stableP_keep ?_) | ((with_reducible first | refine passP_skip ?h1 ?_ | refine loudsP_skip ?h1 ?_ | refine stepT_more ?h1 ?_); (case h1 => rfl)) | ((with_reducible refine stepT_done ?h1 ?_); (case h1 => rfl); refine hK0 _ _ ?_; clear hK0 K0) | ((with_reducible refine passP_loud ?h1 ?hg ?hl ?_); (case h1 => rfl); (case hg => rfl); (case hl => rfl)) | ((with_reducible refine passP_q ?h1 ?hl ?hlt fun K2 hK2 => ?_); (case h1 => rfl); (case hl => rfl); (case hlt => exact Nat.le_of_ble_eq_true rfl)) | ((with_reducible refine passP_g ?h1 ?hj ?hl ?hlt fun K1 K3 d hdst h1 h3 => ?_); (case h1 => rfl); (case hj => rfl); (case hl => rfl); (case hlt => exact Nat.le_of_ble_eq_true rfl); cases hdst; go_simp) | ((with_reducible refine passP_lg ?h1 ?hj ?hl ?hlt fun K1 K3 d hdst h1 h3 => ?_); (case h1 => rfl); (case hj => rfl); (case hl => rfl); (case hlt => exact Nat.le_of_ble_eq_true rfl); cases hdst; go_simp) | ((with_reducible refine loudsP_c ?h1 ?hlt (fun K2 hK2 => ?_) ?_); (case h1 => rfl); (case hlt => exact Nat.le_of_ble_eq_true rfl)) | ((with_reducible refine loudsP_cg ?h1 ?hlt ?hj ?hw (fun K2 hK2 => ?_) ?_); (case h1 => rfl); (case hlt => exact Nat.le_of_ble_eq_true rfl); (case hj => rfl); (case hw => (go_simp; done))) | ((with_reducible refine loudsP_v ?h1 ?hv ?hlt (fun K2 hK2 => ?_) ?_); (case h1 => rfl); (case hv => rfl); (case hlt => exact Nat.le_of_ble_eq_true rfl)) | ((with_reducible refine loudsP_u ?h1 ?hv (fun K2 hK2 => ?_) ?_); (case h1 => rfl); (case hv => rfl)) | ((with_reducible refine stableP_pre ?h1 ?_); (case h1 => (first | rfl | (dsimp only; decide +kernel)))) | ((with_reducible refine stableP_re ?h1 ?_); (case h1 => (go_simp; done))) | (go_simp; (try go_bits); (try first | ((with_reducible show CallS _ _ _ _ _ _); refine CallS.mono head_s ?_; rintro _ _ ⟨rfl, h9⟩; rw [h9]; clear h9; go_simp) | ((with_reducible show CallS _ _ _ _ _ _); refine CallS.mono (few_s (s := s) (HV.out.ext HX1.out)) ?_; rintro _ _ ⟨rfl, h9⟩; rw [h9]; clear h9; go_simp) | ((with_reducible show CallS _ _ _ _ _ _); refine CallS.mono (brief_s (c := c) (HC.out.ext HX1.out)) ?_; rintro _ _ ⟨rfl, h9⟩; rw [h9]; clear h9; go_simp) | ((with_reducible show CallS _ _ _ _ _ _); refine CallS.mono (fits_s (s := s) (c := c) (HV.out.ext HX1.out) (HC.out.ext HX1.out) (HXI.out.ext HX1.out)) ?_; rintro _ _ ⟨rfl, h9⟩; rw [h9, HV1.out]; clear h9; go_simp) | ((with_reducible show CallS _ _ _ _ _ _); refine CallS.mono (fits_s (s := s) (c := c) (HV.out.ext HX1.out) (HC.out.ext HX1.out) (HYI.out.ext HX1.out)) ?_; rintro _ _ ⟨rfl, h9⟩; rw [h9, HV2.out]; clear h9; go_simp)); (first | (refine hK2 _ _ ?_ ?_ <;> clear hK2 K2) | (refine hK2 _ _ ?_; clear hK2 K2))))
  all_goals first
    | rfl
    | skip
  have hx60 : xs.length ≤ 60 := by omega
  have ho1 := HB1.out (by simpa using ‹(!b1) = false›)
  have ho2 := HB2.out (by simpa using ‹(!b2) = false›)
  have hll : xs.length = ys.length := by
    have h1 := (errFits_ok ho1.1).2
    have h2 := (errFits_ok ho2.1).2
    omega
  have HLL := Lib.hid hll
  have HLO := Lib.hid (lattice_ok min ho1 ho2 (.inl rfl))
  have HHI := Lib.hid (lattice_ok max ho1 ho2 (.inr rfl))
  have hz1 := zipL_len min xs ys hll
  have hz2 := zipL_len max xs ys hll
  have HT1 : Hid (∀ (k : Nat) (h : k < xs.length) (h2 : k < ys.length), (zipL min xs ys).take (k + 1) = (zipL min xs ys).take k ++ [min xs[k] ys[k]]) := Lib.hid (fun k h h2 => take_zip min hll h)
  have HT2 : Hid (∀ (k : Nat) (h : k < xs.length) (h2 : k < ys.length), (zipL max xs ys).take (k + 1) = (zipL max xs ys).take k ++ [max xs[k] ys[k]]) := Lib.hid (fun k h h2 => take_zip max hll h)
  clear ho1 ho2
  generalize zipL min xs ys = z1 at HLO HT1 hz1
  generalize zipL max xs ys = z2 at HHI HT2 hz2
  have HZ1 := Lib.hid hz1
  have HZ2 := Lib.hid hz2
  clear hll hz1 hz2
  refine CodeS.loop (fun m f H' => ∃ (k : Nat) (v1 v2 : Value) (q : Nat), k ≤ xs.length ∧ m = xs.length - k ∧ f.tmp 18 = .int .i64 k ∧ f.tmp 2 = .slice xa xs.length xc ∧ f.tmp 3 = .slice ya ys.length yc ∧ f.tmp 4 = .pointer (some ⟨H.n, 0, none⟩) ∧ f.tmp 5 = .pointer (some ⟨H.n + 1, 0, none⟩) ∧ f.tmp 9 = .bool true ∧ f.tmp 16 = v1 ∧ f.tmp 17 = v2 ∧ f.defers = [] ∧ H.n + 2 ≤ q ∧ q ≤ H'.n ∧ Hid (Ext ((H.push (.row [Value.slice wa s.words.length wc, Value.slice aa s.alts.length ac] 25)).push (.row [Value.slice ca c.words.length cc, .int .i64 c.beg, .int .i64 c.fin, .int .i64 c.per] 27)) H') ∧ Hid (Own H' (H.n + 2) v1 3 1 ((z1.take k).map (Value.int .i64))) ∧ Hid (Below' v1 q) ∧ Hid (Own H' q v2 3 1 ((z2.take k).map (Value.int .i64)))) xs.length ?_ ?_
  · refine ⟨0, .slice none 0 0, .slice none 0 0, H.n + 2, by simp, by simp, (by first | (go_simp; done) | (go_simp; go_num; done) | assumption), (by first | (go_simp; done) | (go_simp; go_num; done) | assumption), (by first | (go_simp; done) | (go_simp; go_num; done) | assumption), (by first | (go_simp; done) | (go_simp; go_num; done) | assumption), (by first | (go_simp; done) | (go_simp; go_num; done) | assumption), (by first | (go_simp; done) | (go_simp; go_num; done) | assumption), (by first | (go_simp; done) | (go_simp; go_num; done) | assumption), (by first | (go_simp; done) | (go_simp; go_num; done) | assumption), (by first | (go_simp; done) | (go_simp; go_num; done) | assumption), Nat.le_refl _, by simp only [AHeap.n_push]; omega, Lib.hid (Ext.refl _), Lib.hid Own.nil, Lib.hid (by intro b n h; cases h), Lib.hid Own.nil⟩
  clear f0 f1 f2 f3 hd f
  rintro m f H' ⟨k, v1, v2, q, hk, rfl, f18, f2, f3, f4, f5, f9, f16, f17, hd, hq0, hq1, HX, HO1, HBE, HO2⟩
  by_cases hlt : k < xs.length
  · have hlt2 : k < ys.length := by have := HLL.out; omega
    have hxt : Ext H H' := HX1.out.trans HX.out
    obtain ⟨b, o, sp, rfl, hb, hxc⟩ := HXI.out.at_ hlt
    obtain ⟨b', o', sp', rfl, hb', hyc⟩ := HYI.out.at_ hlt2
    have HTK1 := Lib.hid (HT1.out k hlt hlt2)
    have HTK2 := Lib.hid (HT2.out k hlt hlt2)
    generalize xs[k] = x0 at hxc HTK1 HTK2
    generalize ys[k] = y0 at hyc HTK1 HTK2
    have hcx : ∀ H2, Ext H H2 → cellAt H2 b (o + k) = some (.int .i64 x0) ∧ cellAt H2 b' (o' + k) = some (.int .i64 y0) ∧ b < H2.n ∧ b' < H2.n := fun H2 hx => ⟨(hx.cellAt hb).trans hxc, (hx.cellAt hb').trans hyc, Nat.lt_of_lt_of_le hb hx.n, Nat.lt_of_lt_of_le hb' hx.n⟩
    have HCX := Lib.hid hcx
    clear hcx hb hb' hxc hyc
    obtain ⟨g1, g2, g3, g4⟩ := HCX.out _ hxt
    have hbig1 : (((z1.take k).map (Value.int .i64)).length + 1) * max 8 1 ≤ 1073741824 := by simp; omega
    have hbig2 : (((z2.take k).map (Value.int .i64)).length + 1) * max 8 1 ≤ 1073741824 := by simp; omega
    have HBG1 := Lib.hid hbig1
    have HBG2 := Lib.hid hbig2
    clear hbig1 hbig2 hxt
    obtain ⟨va1, vn1, rfl⟩ := own_slice HO1.out
    obtain ⟨va2, vn2, rfl⟩ := own_slice HO2.out
    repeat' (first | (with_reducible first | refine CodeS.seq ?_ | refine CodeS.region_k fun K hK => ?_ | refine opsP_go fun K2 hK2 => ?_ | refine Post.then_normal ?_ | refine Post.then_ret ?_ | refine Post.then_exit ?_ | refine Post.block_normal ?_ | refine Post.block_ret ?_ | refine Post.block_here ?_ | refine Post.scope_normal ?_ | refine Post.scope_ret ?_ | refine Post.scope_exit ?_ | refine Post.round_ret ?_ | refine Post.round_exit ?_ | refine CodeS.block ?_ | refine CodeS.skip ?_ | refine CodeS.ret ?_ | refine CodeS.exit ?_ | refine CodeS.scope ?_ | refine CodeS.label ?_) | ((with_reducible refine opsP_nil (hK _ _ ?_)); clear hK K) | ((with_reducible refine opsP_gd ?hj ?hlt fun K1 K3 d hdst h1 h3 => ?_); (case hj => rfl); (case hlt => exact Nat.le_of_ble_eq_true rfl); cases hdst; go_simp) | ((with_reducible refine CodeS.cond_k fun K1 K3 h1 h3 => ?_); go_simp) | (refine h1 ?_; clear h1 h3 K1 K3) | (refine h3 ?_; clear h1 h3 K1 K3) | ((refine Either.mk (fun hb => h1 ?_) (fun hb => h3 ?_)) <;> (clear h1 h3 K1 K3; (try have hb2 := of_decide hb); (try have hb2 := of_not_decide_lt hb); (try have hb2 := of_not_decide_le hb); (try have hb2 := of_not_decide_ltN hb); (try have hb2 := of_not_decide_leN hb))) | ((refine Either.mk (fun hb => h3 ?_) (fun hb => h1 ?_)) <;> (clear h1 h3 K1 K3; (try have hb2 := of_decide hb); (try have hb2 := of_not_decide_lt hb); (try have hb2 := of_not_decide_le hb); (try have hb2 := of_not_decide_ltN hb); (try have hb2 := of_not_decide_leN hb))) | (refine fun (K2 : _ → AHeap → Prop) hK2 => ?_) | ((with_reducible refine Post.block_off ?hn ?_); (case hn => decide)) | ((with_reducible first | refine Post.body_k ?hd (fun K hK => ?_) | refine Post.body_kn ?hd (fun K hK => ?_)); (case hd => (go_simp; done)); go_simp; refine hK _ _ ?_; clear hK K) | ((with_reducible refine CodeS.tree_lit mixed rfl ?hok 20 fun K0 hK0 => ?_); (case hok => kernel_rfl)) | (with_reducible first | exact loudsP_nil | exact stableP_nil | refine treeP_lit ?_ | refine passP_nil ?_ | refine stableP_keep ?_) | ((with_reducible first | refine passP_skip ?h1 ?_ | refine loudsP_skip ?h1 ?_ | refine stepT_more ?h1 ?_); (case h1 => rfl)) | ((with_reducible refine stepT_done ?h1 ?_); (case h1 => rfl); refine hK0 _ _ ?_; clear hK0 K0) | ((with_reducible refine passP_loud ?h1 ?hg ?hl ?_); (case h1 => rfl); (case hg => rfl); (case hl => rfl)) | ((with_reducible refine passP_q ?h1 ?hl ?hlt fun K2 hK2 => ?_); (case h1 => rfl); (case hl => rfl); (case hlt => exact Nat.le_of_ble_eq_true rfl)) | ((with_reducible refine passP_g ?h1 ?hj ?hl ?hlt fun K1 K3 d hdst h1 h3 => ?_); (case h1 => rfl); (case hj => rfl); (case hl => rfl); (case hlt => exact Nat.le_of_ble_eq_true rfl); cases hdst; go_simp) | ((with_reducible refine passP_lg ?h1 ?hj ?hl ?hlt fun K1 K3 d hdst h1 h3 => ?_); (case h1 => rfl); (case hj => rfl); (case hl => rfl); (case hlt => exact Nat.le_of_ble_eq_true rfl); cases hdst; go_simp) | ((with_reducible refine loudsP_c ?h1 ?hlt (fun K2 hK2 => ?_) ?_); (case h1 => rfl); (case hlt => exact Nat.le_of_ble_eq_true rfl)) | ((with_reducible refine loudsP_cg ?h1 ?hlt ?hj ?hw (fun K2 hK2 => ?_) ?_); (case h1 => rfl); (case hlt => exact Nat.le_of_ble_eq_true rfl); (case hj => rfl); (case hw => (go_simp; done))) | ((with_reducible refine loudsP_v ?h1 ?hv ?hlt (fun K2 hK2 => ?_) ?_); (case h1 => rfl); (case hv => rfl); (case hlt => exact Nat.le_of_ble_eq_true rfl)) | ((with_reducible refine loudsP_u ?h1 ?hv (fun K2 hK2 => ?_) ?_); (case h1 => rfl); (case hv => rfl)) | ((with_reducible refine stableP_pre ?h1 ?_); (case h1 => (first | rfl | (dsimp only; decide +kernel)))) | ((with_reducible refine stableP_re ?h1 ?_); (case h1 => (go_simp; done))) | (go_simp; (try go_bits); (try first | ((refine one_v el22 sz3 ze3 rfl (by decide) (by decide) rfl rfl ?_); go_simp) | ((refine append_v el22 sz3 by3 ze3 rfl (by decide) (HO1.out.ext (Ext.push _)) (srcCells_new rfl) (by decide) rfl (by rw [List.all_append, oneV_list_int]; rfl) HBG1.out (by simp only [AHeap.n_push]; omega) fun v4 H4 ho4 hg4 => ?_); (have HO4 := Lib.hid ho4); (have HG4 := Lib.hid hg4); (have hg4n : H'.n < H4.n := by have := hg4.1; simp only [AHeap.n_push] at this; omega); (have hk4 : ∀ i, i < H'.n → (∀ b n, Value.slice va1 vn1 vn1 = .slice (some ⟨b, 0, none⟩) n n → 0 < n → i ≠ b) → H4.get i = H'.get i := fun i h1 h2 => (hg4.2 i (by simp only [AHeap.n_push]; omega) h2).trans (AHeap.get_push_old h1)); (have hx4 : Ext ((H.push (.row [Value.slice wa s.words.length wc, Value.slice aa s.alts.length ac] 25)).push (.row [Value.slice ca c.words.length cc, .int .i64 c.beg, .int .i64 c.fin, .int .i64 c.per] 27)) H4 := ⟨by have := HX.out.n; omega, fun i hi => (hk4 i (by have := HX.out.n; omega) (fun b n hv hn => by have := (own_block HO1.out hv hn).1; simp only [AHeap.n_push] at hi; omega)).trans (HX.out.get i hi)⟩); (have HX4 := Lib.hid hx4); (obtain ⟨q1, q2, q3, q4⟩ := HCX.out _ (HX1.out.trans hx4)); (have HO24 : Hid (Own H4 q (.slice va2 vn2 vn2) 3 1 ((z2.take k).map (Value.int .i64))) := Lib.hid (own_at HO2.out (by omega) fun i n hv hn => hk4 i (own_block HO2.out hv hn).2.1 (fun b n2 hv2 hn2 => by have h1 := (own_block HO2.out hv hn).1; have h2 := HBE.out b n2 hv2 hn2; omega))); clear ho4 hg4 hk4 hx4; go_simp) | ((refine append_v el22 sz3 by3 ze3 rfl (by decide) (HO24.out.ext (Ext.push _)) (srcCells_new rfl) (by decide) rfl (by rw [List.all_append, oneV_list_int]; rfl) HBG2.out (by simp only [AHeap.n_push]; omega) fun v5 H5 ho5 hg5 => ?_); (have HO5 := Lib.hid ho5); (have HG5 := Lib.hid hg5); clear ho5 hg5; go_simp)); (first | (refine hK2 _ _ ?_ ?_ <;> clear hK2 K2) | (refine hK2 _ _ ?_; clear hK2 K2))))
    have hn5 : H4.n < H5.n := by have := HG5.out.1; simp only [AHeap.n_push] at this; omega
    have hk5 : ∀ i, i < H4.n → (∀ b n, Value.slice va2 vn2 vn2 = .slice (some ⟨b, 0, none⟩) n n → 0 < n → i ≠ b) → H5.get i = H4.get i := fun i h1 h2 => (HG5.out.2 i (by rw [AHeap.n_push]; omega) h2).trans (AHeap.get_push_old h1)
    refine Post.round_normal ⟨xs.length - (k + 1), by omega, k + 1, v4, v5, H4.n, by omega, rfl, (by first | (go_simp; done) | (go_simp; go_num; done) | assumption), (by first | (go_simp; done) | (go_simp; go_num; done) | assumption), (by first | (go_simp; done) | (go_simp; go_num; done) | assumption), (by first | (go_simp; done) | (go_simp; go_num; done) | assumption), (by first | (go_simp; done) | (go_simp; go_num; done) | assumption), (by first | (go_simp; done) | (go_simp; go_num; done) | assumption), (by first | (go_simp; done) | (go_simp; go_num; done) | assumption), (by first | (go_simp; done) | (go_simp; go_num; done) | assumption), (by first | (go_simp; done) | (go_simp; go_num; done) | assumption), by omega, by omega, Lib.hid ⟨by have := HX4.out.n; omega, fun i hi => ?_⟩, Lib.hid ?_, Lib.hid ?_, Lib.hid ?_⟩
    · have h9 := HX4.out.n
      rw [hk5 i (by omega) (fun b n hv hn => by have := (own_block HO24.out hv hn).1; simp only [AHeap.n_push] at hi; omega)]
      exact HX4.out.get i hi
    · rw [HTK1.out, List.map_append]
      refine own_at (HO4.out.mono (by rw [AHeap.n_push]; omega)) (by omega) fun i n hv hn => ?_
      obtain ⟨h1, h2, -⟩ := own_block HO4.out hv hn
      rw [AHeap.n_push] at h1
      exact hk5 i h2 (fun b n2 hv2 hn2 => by have := (own_block HO2.out hv2 hn2).2.1; omega)
    · intro b n hv hn
      exact (own_block HO4.out hv hn).2.1
    · rw [HTK2.out, List.map_append]
      exact HO5.out.mono (by rw [AHeap.n_push]; omega)
  · have hkx : k = xs.length := by omega
    have h1 : (z1.take k) = z1 := List.take_of_length_le (by have := HZ1.out; omega)
    have h2 : (z2.take k) = z2 := List.take_of_length_le (by have := HZ2.out; omega)
    rw [h1] at HO1
    rw [h2] at HO2
    clear h1 h2
    have hi1 : Hid (Ints H' v1 z1) := Lib.hid (ints_of_own HO1.out (by have := HZ1.out; omega))
    have hi2 : Hid (Ints H' v2 z2) := Lib.hid (ints_of_own HO2.out (by have := HZ2.out; omega))
    have hxt : Hid (Ext H H') := Lib.hid (HX1.out.trans HX.out)
    obtain ⟨va1, vn1, rfl⟩ := own_slice HO1.out
    obtain ⟨va2, vn2, rfl⟩ := own_slice HO2.out
    have hcs1 : cellsAt H' H.n 0 2 = some [Value.slice wa s.words.length wc, Value.slice aa s.alts.length ac] := by
      rw [HX.out.cellsAt (by simp only [AHeap.n_push]; omega), cellsAt_old (by rw [AHeap.n_push]; omega), cellsAt_new]; rfl
    have hcs2 : cellsAt H' (H.n + 1) 0 4 = some [Value.slice ca c.words.length cc, .int .i64 c.beg, .int .i64 c.fin, .int .i64 c.per] := by
      rw [HX.out.cellsAt (by simp only [AHeap.n_push]; omega), ← AHeap.n_push H, cellsAt_new]; rfl
    repeat' (first | (with_reducible first | refine CodeS.seq ?_ | refine CodeS.region_k fun K hK => ?_ | refine opsP_go fun K2 hK2 => ?_ | refine Post.then_normal ?_ | refine Post.then_ret ?_ | refine Post.then_exit ?_ | refine Post.block_normal ?_ | refine Post.block_ret ?_ | refine Post.block_here ?_ | refine Post.scope_normal ?_ | refine Post.scope_ret ?_ | refine Post.scope_exit ?_ | refine Post.round_ret ?_ | refine Post.round_exit ?_ | refine CodeS.block ?_ | refine CodeS.skip ?_ | refine CodeS.ret ?_ | refine CodeS.exit ?_ | refine CodeS.scope ?_ | refine CodeS.label ?_) | ((with_reducible refine opsP_nil (hK _ _ ?_)); clear hK K) | ((with_reducible refine opsP_gd ?hj ?hlt fun K1 K3 d hdst h1 h3 => ?_); (case hj => rfl); (case hlt => exact Nat.le_of_ble_eq_true rfl); cases hdst; go_simp) | ((with_reducible refine CodeS.cond_k fun K1 K3 h1 h3 => ?_); go_simp) | (refine h1 ?_; clear h1 h3 K1 K3) | (refine h3 ?_; clear h1 h3 K1 K3) | ((refine Either.mk (fun hb => h1 ?_) (fun hb => h3 ?_)) <;> (clear h1 h3 K1 K3; (try have hb2 := of_decide hb); (try have hb2 := of_not_decide_lt hb); (try have hb2 := of_not_decide_le hb); (try have hb2 := of_not_decide_ltN hb); (try have hb2 := of_not_decide_leN hb))) | ((refine Either.mk (fun hb => h3 ?_) (fun hb => h1 ?_)) <;> (clear h1 h3 K1 K3; (try have hb2 := of_decide hb); (try have hb2 := of_not_decide_lt hb); (try have hb2 := of_not_decide_le hb); (try have hb2 := of_not_decide_ltN hb); (try have hb2 := of_not_decide_leN hb))) | (refine fun (K2 : _ → AHeap → Prop) hK2 => ?_) | ((with_reducible refine Post.block_off ?hn ?_); (case hn => decide)) | ((with_reducible first | refine Post.body_k ?hd (fun K hK => ?_) | refine Post.body_kn ?hd (fun K hK => ?_)); (case hd => (go_simp; done)); go_simp; refine hK _ _ ?_; clear hK K) | ((with_reducible refine CodeS.tree_lit mixed rfl ?hok 20 fun K0 hK0 => ?_); (case hok => kernel_rfl)) | (with_reducible first | exact loudsP_nil | exact stableP_nil | refine treeP_lit ?_ | refine passP_nil ?_ | refine stableP_keep ?_) | ((with_reducible first | refine passP_skip ?h1 ?_ | refine loudsP_skip ?h1 ?_ | refine stepT_more ?h1 ?_); (case h1 => rfl)) | ((with_reducible refine stepT_done ?h1 ?_); (case h1 => rfl); refine hK0 _ _ ?_; clear hK0 K0) | ((with_reducible refine passP_loud ?h1 ?hg ?hl ?_); (case h1 => rfl); (case hg => rfl); (case hl => rfl)) | ((with_reducible refine passP_q ?h1 ?hl ?hlt fun K2 hK2 => ?_); (case h1 => rfl); (case hl => rfl); (case hlt => exact Nat.le_of_ble_eq_true rfl)) | ((with_reducible refine passP_g ?h1 ?hj ?hl ?hlt fun K1 K3 d hdst h1 h3 => ?_); (case h1 => rfl); (case hj => rfl); (case hl => rfl); (case hlt => exact Nat.le_of_ble_eq_true rfl); cases hdst; go_simp) | ((with_reducible refine passP_lg ?h1 ?hj ?hl ?hlt fun K1 K3 d hdst h1 h3 => ?_); (case h1 => rfl); (case hj => rfl); (case hl => rfl); (case hlt => exact Nat.le_of_ble_eq_true rfl); cases hdst; go_simp) | ((with_reducible refine loudsP_c ?h1 ?hlt (fun K2 hK2 => ?_) ?_); (case h1 => rfl); (case hlt => exact Nat.le_of_ble_eq_true rfl)) | ((with_reducible refine loudsP_cg ?h1 ?hlt ?hj ?hw (fun K2 hK2 => ?_) ?_); (case h1 => rfl); (case hlt => exact Nat.le_of_ble_eq_true rfl); (case hj => rfl); (case hw => (go_simp; done))) | ((with_reducible refine loudsP_v ?h1 ?hv ?hlt (fun K2 hK2 => ?_) ?_); (case h1 => rfl); (case hv => rfl); (case hlt => exact Nat.le_of_ble_eq_true rfl)) | ((with_reducible refine loudsP_u ?h1 ?hv (fun K2 hK2 => ?_) ?_); (case h1 => rfl); (case hv => rfl)) | ((with_reducible refine stableP_pre ?h1 ?_); (case h1 => (first | rfl | (dsimp only; decide +kernel)))) | ((with_reducible refine stableP_re ?h1 ?_); (case h1 => (go_simp; done))) | (go_simp; (try go_bits); (try first | ((with_reducible show CallS _ _ _ _ _ _); refine CallS.mono (fits_s (s := s) (c := c) (HV.out.ext hxt.out) (HC.out.ext hxt.out) hi1.out) ?_; rintro _ _ ⟨rfl, h9⟩; rw [h9, HLO.out]; clear h9; go_simp) | ((with_reducible show CallS _ _ _ _ _ _); refine CallS.mono (fits_s (s := s) (c := c) (HV.out.ext hxt.out) (HC.out.ext hxt.out) hi2.out) ?_; rintro _ _ ⟨rfl, h9⟩; rw [h9, HHI.out]; clear h9; go_simp)); (first | (refine hK2 _ _ ?_ ?_ <;> clear hK2 K2) | (refine hK2 _ _ ?_; clear hK2 K2))))
    all_goals rfl
end Go.Proofs.Try
