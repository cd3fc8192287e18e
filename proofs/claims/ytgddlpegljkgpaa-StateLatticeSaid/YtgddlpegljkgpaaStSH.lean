/- Contracts of functions, walked. -/
import Derived.Test.YtgddlpegljkgpaaStSG
set_option linter.all false
namespace Go.Proofs.Try
open Go Go.Am Go.RowKit
set_option maxRecDepth 100000

/-! The reference: When, Reads. -/
def putL (s : Sheet) (line w : Int) : Nat → List (Int × Int) → List (Int × Int)
  | 0, acc => acc
  | k + 1, acc => putL s line w k (if (hasOn s line (730 - k)).offers w = true then joinS acc (730 - k, 730 - k) else acc)
def refWhen (s : Sheet) (line w : Int) : List (Int × Int) := if whenErr s line w = 0 then putL s line w 731 [] else []
theorem whenErr_iff (s : Sheet) (line w : Int) : whenErr s line w = if err s ≠ 0 then err s else if win 0 (s.words.length - 1) line = false ∨ win 0 9999 w = false then 1 else 0 := by
  unfold whenErr errLine
  by_cases h : err s = 0
  · by_cases h2 : win 0 (s.words.length - 1) line = true
    · by_cases h3 : win 0 9999 w = true <;> simp [h, h2, h3]
    · simp [h, h2]
  · simp [h]
theorem refWhen_e {loops : List (Nat × LInfo)} {H : AHeap} {sv : Value} {s : Sheet} {line w : Int} (hs : SheetV H sv s) : CallS Try.prog loops 24 [sv, .int .i64 line, .int .i64 w] H fun r H' => ∃ v, r = .agg #[v, .int .i64 (whenErr s line w)] ∧ Spans H' v (refWhen s line w) ∧ Ext H H' := by
  have HV := Lib.hid hs
  obtain ⟨wv, av, rfl, hw, ha⟩ := hs
  obtain ⟨hwl, wa, wc, rfl⟩ := hw.slice
  obtain ⟨hal, aa, ac, rfl⟩ := ha.slice
  clear hw ha
  have HE := Lib.hid (whenErr_iff s line w)
  have hnil : ∀ H : AHeap, Spans H (.slice none 0 0) [] := fun H => ⟨rfl, by simp, none, 0, rfl, by simp⟩
  have HNIL := Lib.hid hnil
  clear hnil
  refine CallS.enter' Try.func24 rfl Try.ntmps24 (by simp) fun f hd hf => ?_
  have f0 := hf 0
  have f1 := hf 1
  have f2 := hf 2
  simp at f0 f1 f2
  clear hf
  repeat' (first | (with_reducible first | refine CodeS.seq ?_ | refine CodeS.region_k fun K hK => ?_ | refine opsP_go fun K2 hK2 => ?_ | refine Post.then_normal ?_ | refine Post.then_ret ?_ | refine Post.then_exit ?_ | refine Post.block_normal ?_ | refine Post.block_ret ?_ | refine Post.block_here ?_ | refine Post.scope_normal ?_ | refine Post.scope_ret ?_ | refine Post.scope_exit ?_ | refine Post.round_ret ?_ | refine Post.round_exit ?_ | refine CodeS.block ?_ | refine CodeS.skip ?_ | refine CodeS.ret ?_ | refine CodeS.exit ?_ | refine CodeS.scope ?_ | refine CodeS.label ?_) | ((with_reducible refine opsP_nil (hK _ _ ?_)); clear hK K) | ((with_reducible refine opsP_gd ?hj ?hlt fun K1 K3 d hdst h1 h3 => ?_); (case hj => rfl); (case hlt => exact Nat.le_of_ble_eq_true rfl); cases hdst; go_simp) | ((with_reducible refine CodeS.cond_k fun K1 K3 h1 h3 => ?_); go_simp) | (refine h1 ?_; clear h1 h3 K1 K3) | (refine h3 ?_; clear h1 h3 K1 K3) | ((refine Either.mk (fun hb => h1 ?_) (fun hb => h3 ?_)) <;> (clear h1 h3 K1 K3; (try have hb2 := of_decide hb); (try have hb2 := of_not_decide_lt hb); (try have hb2 := of_not_decide_le hb); (try have hb2 := of_not_decide_ltN hb); (try have hb2 := of_not_decide_leN hb))) | ((refine Either.mk (fun hb => h3 ?_) (fun hb => h1 ?_)) <;> (clear h1 h3 K1 K3; (try have hb2 := of_decide hb); (try have hb2 := of_not_decide_lt hb); (try have hb2 := of_not_decide_le hb); (try have hb2 := of_not_decide_ltN hb); (try have hb2 := of_not_decide_leN hb))) | (refine fun (K2 : _ → AHeap → Prop) hK2 => ?_) | ((with_reducible refine Post.block_off ?hn ?_); (case hn => decide)) | ((with_reducible first | refine Post.body_k ?hd (fun K hK => ?_) | refine Post.body_kn ?hd (fun K hK => ?_)); (case hd => (go_simp; done)); go_simp; refine hK _ _ ?_; clear hK K) | ((with_reducible refine CodeS.tree_lit mixed rfl ?hok 20 fun K0 hK0 => ?_); (case hok => kernel_rfl)) | (with_reducible first | exact loudsP_nil | exact stableP_nil | refine treeP_lit ?_ | refine passP_nil ?_ | refine stableP_keep ?_) | ((with_reducible first | refine passP_skip ?h1 ?_ | refine loudsP_skip ?h1 ?_ | refine stepT_more ?h1 ?_); (case h1 => rfl)) | ((with_reducible refine stepT_done ?h1 ?_); (case h1 => rfl); refine hK0 _ _ ?_; clear hK0 K0) | ((with_reducible refine passP_loud ?h1 ?hg ?hl ?_); (case h1 => rfl); (case hg => rfl); (case hl => rfl)) | ((with_reducible refine passP_q ?h1 ?hl ?hlt fun K2 hK2 => ?_); (case h1 => rfl); (case hl => rfl); (case hlt => exact Nat.le_of_ble_eq_true rfl)) | ((with_reducible refine passP_g ?h1 ?hj ?hl ?hlt fun K1 K3 d hdst h1 h3 => ?_); (case h1 => rfl); (case hj => rfl); (case hl => rfl); (case hlt => exact Nat.le_of_ble_eq_true rfl); cases hdst; go_simp) | ((with_reducible refine passP_lg ?h1 ?hj ?hl ?hlt fun K1 K3 d hdst h1 h3 => ?_); (case h1 => rfl); (case hj => rfl); (case hl => rfl); (case hlt => exact Nat.le_of_ble_eq_true rfl); cases hdst; go_simp) | ((with_reducible refine loudsP_c ?h1 ?hlt (fun K2 hK2 => ?_) ?_); (case h1 => rfl); (case hlt => exact Nat.le_of_ble_eq_true rfl)) | ((with_reducible refine loudsP_cg ?h1 ?hlt ?hj ?hw (fun K2 hK2 => ?_) ?_); (case h1 => rfl); (case hlt => exact Nat.le_of_ble_eq_true rfl); (case hj => rfl); (case hw => (go_simp; done))) | ((with_reducible refine loudsP_v ?h1 ?hv ?hlt (fun K2 hK2 => ?_) ?_); (case h1 => rfl); (case hv => rfl); (case hlt => exact Nat.le_of_ble_eq_true rfl)) | ((with_reducible refine loudsP_u ?h1 ?hv (fun K2 hK2 => ?_) ?_); (case h1 => rfl); (case hv => rfl)) | ((with_reducible refine stableP_pre ?h1 ?_); (case h1 => (first | rfl | (dsimp only; decide +kernel)))) | ((with_reducible refine stableP_re ?h1 ?_); (case h1 => (go_simp; done))) | (go_simp; (try go_bits); (try first | ((with_reducible show CallS _ _ _ _ _ _); refine CallS.mono in_s ?_; rintro _ _ ⟨rfl, rfl⟩) | ((with_reducible show CallS _ _ _ _ _ _); refine CallS.mono (refCheck_s (s := s) (HV.out.ext (((Ext.refl _).push' _).push' _))) ?_; rintro _ _ ⟨rfl, rfl⟩)); (first | (refine hK2 _ _ ?_ ?_ <;> clear hK2 K2) | (refine hK2 _ _ ?_; clear hK2 K2))))
  all_goals (try (refine ⟨.slice none 0 0, by rw [HE.out]; simp_all; done, by rw [refWhen, if_neg (by rw [HE.out]; simp_all; done)]; exact HNIL.out _, ((Ext.refl _).push' _).push' _⟩))
  all_goals (try (exfalso; simp_all; done))
  have hwe : whenErr s line w = 0 := by rw [HE.out]; simp_all
  have hl : 0 ≤ line ∧ line < s.words.length := by
    have h : win 0 (s.words.length - 1) line = true := by simpa using ‹(!win 0 (↑s.words.length - 1) line) = false›
    rw [win_iff] at h; omega
  obtain ⟨hl0, hl1⟩ := hl
  rw [hwe]
  have HW : Hid (refWhen s line w = putL s line w 731 []) := Lib.hid (by rw [refWhen, if_pos hwe])
  have HCAN := Lib.hid (fun (loops : List (Nat × LInfo)) (H2 : AHeap) (hx : Ext H H2) (d : Int) => can_s (loops := loops) (d := d) (w := w) (HV.out.ext hx) hl0 hl1)
  generalize refWhen s line w = res at HW
  refine CodeS.loop (fun m f H' => ∃ (k : Nat) (v : Value) (acc : List (Int × Int)), k ≤ 731 ∧ m = 731 - k ∧ f.tmp 9 = .int .i64 k ∧ f.tmp 3 = .pointer (some ⟨H.n, 0, none⟩) ∧ f.tmp 1 = .int .i64 line ∧ f.tmp 2 = .int .i64 w ∧ f.tmp 6 = .pointer (some ⟨H.n + 1, 0, none⟩) ∧ f.tmp 8 = v ∧ f.defers = [] ∧ Hid (res = putL s line w (731 - k) acc) ∧ acc.length ≤ k ∧ H.n + 1 < H'.n ∧ Ext H H' ∧ H'.get H.n = .row [Value.slice wa s.words.length wc, Value.slice aa s.alts.length ac] 25 ∧ H'.get (H.n + 1) = .row [Value.slice none 0 0, .int .i64 0] 41 ∧ Own H' (H.n + 2) v 87 2 (spanCells acc)) 731 ?_ ?_
  · refine ⟨0, _, [], by simp, by simp, (by first | (go_simp; done) | (go_simp; go_num; done) | assumption), (by first | (go_simp; done) | (go_simp; go_num; done) | assumption), (by first | (go_simp; done) | (go_simp; go_num; done) | assumption), (by first | (go_simp; done) | (go_simp; go_num; done) | assumption), (by first | (go_simp; done) | (go_simp; go_num; done) | assumption), rfl, (by first | (go_simp; done) | (go_simp; go_num; done) | assumption), HW, by simp, by simp only [AHeap.n_push]; omega, ((Ext.refl _).push' _).push' _, ?_, ?_, ?_⟩
    · rw [AHeap.get_push_old (by simp only [AHeap.n_push]; omega), AHeap.get_push_new]
    · rw [← AHeap.n_push H, AHeap.get_push_new]
    · have h : ∀ v : Value, v = .slice none 0 0 → Own ((H.push (AObj.row [Value.slice wa s.words.length wc, Value.slice aa s.alts.length ac] 25)).push (AObj.row [Value.slice none 0 0, Value.int IntKind.i64 0] 41)) (H.n + 2) v 87 2 (spanCells []) := by rintro v rfl; exact Own.nil
      exact h _ (by go_simp)
  clear f0 f1 f2 hd f HE HW
  rintro m f H' ⟨k, v, acc, hk, rfl, f9, f3, f1, f2, f6, f8, hd, HG, hal2, hn, hx, hg0, hg1, ho⟩
  have hc2 : cellsAt H' H.n 0 2 = some [Value.slice wa s.words.length wc, Value.slice aa s.alts.length ac] := by simp [cellsAt, hg0]
  have HX := Lib.hid hx
  have HG0 := Lib.hid hg0
  have HG1 := Lib.hid hg1
  have HO := Lib.hid ho
  have hn0 : H.n < H'.n := by omega
  clear hx hg0 ho
  by_cases hlt : k < 731
  · have HK : Hid (putL s line w (731 - k) acc = putL s line w (731 - (k + 1)) (if (hasOn s line k).offers w = true then joinS acc (k, k) else acc)) := Lib.hid (by
      rw [show 731 - k = (730 - k) + 1 by omega, putL, show (730 : Int) - (730 - k : Nat) = k by omega, show 731 - (k + 1) = 730 - k by omega])
    have hcn := fun (loops : List (Nat × LInfo)) (H2 : AHeap) (hx : Ext H H2) => HCAN.out loops H2 hx k
    generalize (hasOn s line k).offers w = bb at HK hcn
    have HCN := Lib.hid hcn
    clear hcn
    have hlj := joinS_le acc (k, k)
    have HSP : Hid (Spans H' v acc) := Lib.hid (spans_of_own HO.out (by omega))
    have hkd : (k : Int) ≤ 730 := by omega
    have hal3 : acc.length ≤ 1000 := by omega
    repeat' (first | (with_reducible first | refine CodeS.seq ?_ | refine CodeS.region_k fun K hK => ?_ | refine opsP_go fun K2 hK2 => ?_ | refine Post.then_normal ?_ | refine Post.then_ret ?_ | refine Post.then_exit ?_ | refine Post.block_normal ?_ | refine Post.block_ret ?_ | refine Post.block_here ?_ | refine Post.scope_normal ?_ | refine Post.scope_ret ?_ | refine Post.scope_exit ?_ | refine Post.round_ret ?_ | refine Post.round_exit ?_ | refine CodeS.block ?_ | refine CodeS.skip ?_ | refine CodeS.ret ?_ | refine CodeS.exit ?_ | refine CodeS.scope ?_ | refine CodeS.label ?_) | ((with_reducible refine opsP_nil (hK _ _ ?_)); clear hK K) | ((with_reducible refine opsP_gd ?hj ?hlt fun K1 K3 d hdst h1 h3 => ?_); (case hj => rfl); (case hlt => exact Nat.le_of_ble_eq_true rfl); cases hdst; go_simp) | ((with_reducible refine CodeS.cond_k fun K1 K3 h1 h3 => ?_); go_simp) | (refine h1 ?_; clear h1 h3 K1 K3) | (refine h3 ?_; clear h1 h3 K1 K3) | ((refine Either.mk (fun hb => h1 ?_) (fun hb => h3 ?_)) <;> (clear h1 h3 K1 K3; (try have hb2 := of_decide hb); (try have hb2 := of_not_decide_lt hb); (try have hb2 := of_not_decide_le hb); (try have hb2 := of_not_decide_ltN hb); (try have hb2 := of_not_decide_leN hb))) | ((refine Either.mk (fun hb => h3 ?_) (fun hb => h1 ?_)) <;> (clear h1 h3 K1 K3; (try have hb2 := of_decide hb); (try have hb2 := of_not_decide_lt hb); (try have hb2 := of_not_decide_le hb); (try have hb2 := of_not_decide_ltN hb); (try have hb2 := of_not_decide_leN hb))) | (refine fun (K2 : _ → AHeap → Prop) hK2 => ?_) | ((with_reducible refine Post.block_off ?hn ?_); (case hn => decide)) | ((with_reducible first | refine Post.body_k ?hd (fun K hK => ?_) | refine Post.body_kn ?hd (fun K hK => ?_)); (case hd => (go_simp; done)); go_simp; refine hK _ _ ?_; clear hK K) | ((with_reducible refine CodeS.tree_lit mixed rfl ?hok 20 fun K0 hK0 => ?_); (case hok => kernel_rfl)) | (with_reducible first | exact loudsP_nil | exact stableP_nil | refine treeP_lit ?_ | refine passP_nil ?_ | refine stableP_keep ?_) | ((with_reducible first | refine passP_skip ?h1 ?_ | refine loudsP_skip ?h1 ?_ | refine stepT_more ?h1 ?_); (case h1 => rfl)) | ((with_reducible refine stepT_done ?h1 ?_); (case h1 => rfl); refine hK0 _ _ ?_; clear hK0 K0) | ((with_reducible refine passP_loud ?h1 ?hg ?hl ?_); (case h1 => rfl); (case hg => rfl); (case hl => rfl)) | ((with_reducible refine passP_q ?h1 ?hl ?hlt fun K2 hK2 => ?_); (case h1 => rfl); (case hl => rfl); (case hlt => exact Nat.le_of_ble_eq_true rfl)) | ((with_reducible refine passP_g ?h1 ?hj ?hl ?hlt fun K1 K3 d hdst h1 h3 => ?_); (case h1 => rfl); (case hj => rfl); (case hl => rfl); (case hlt => exact Nat.le_of_ble_eq_true rfl); cases hdst; go_simp) | ((with_reducible refine passP_lg ?h1 ?hj ?hl ?hlt fun K1 K3 d hdst h1 h3 => ?_); (case h1 => rfl); (case hj => rfl); (case hl => rfl); (case hlt => exact Nat.le_of_ble_eq_true rfl); cases hdst; go_simp) | ((with_reducible refine loudsP_c ?h1 ?hlt (fun K2 hK2 => ?_) ?_); (case h1 => rfl); (case hlt => exact Nat.le_of_ble_eq_true rfl)) | ((with_reducible refine loudsP_cg ?h1 ?hlt ?hj ?hw (fun K2 hK2 => ?_) ?_); (case h1 => rfl); (case hlt => exact Nat.le_of_ble_eq_true rfl); (case hj => rfl); (case hw => (go_simp; done))) | ((with_reducible refine loudsP_v ?h1 ?hv ?hlt (fun K2 hK2 => ?_) ?_); (case h1 => rfl); (case hv => rfl); (case hlt => exact Nat.le_of_ble_eq_true rfl)) | ((with_reducible refine loudsP_u ?h1 ?hv (fun K2 hK2 => ?_) ?_); (case h1 => rfl); (case hv => rfl)) | ((with_reducible refine stableP_pre ?h1 ?_); (case h1 => (first | rfl | (dsimp only; decide +kernel)))) | ((with_reducible refine stableP_re ?h1 ?_); (case h1 => (go_simp; done))) | (go_simp; (try go_bits); (try first | ((with_reducible show CallS _ _ _ _ _ _); refine CallS.mono (HCN.out _ _ HX.out) ?_; rintro _ _ ⟨rfl, rfl⟩) | ((with_reducible show CallS _ _ _ _ _ _); refine CallS.mono (put_e HSP.out hal3 (by omega) hkd) ?_; rintro v2 H2 ⟨ho2, hx2⟩; (have HO2 := Lib.hid ho2); (have HX2 := Lib.hid hx2); (have hc22 : cellsAt H2 H.n 0 2 = some [Value.slice wa s.words.length wc, Value.slice aa s.alts.length ac] := (hx2.cellsAt hn0).trans hc2); clear ho2 hx2)); (first | (refine hK2 _ _ ?_ ?_ <;> clear hK2 K2) | (refine hK2 _ _ ?_; clear hK2 K2))))
    · have hbt : bb = true := by simpa using hb
      rw [hbt, if_pos rfl] at HK
      refine Post.round_normal ⟨731 - (k + 1), by omega, k + 1, _, joinS acc (k, k), by omega, rfl, (by first | (go_simp; done) | (go_simp; go_num; done) | assumption), (by first | (go_simp; done) | (go_simp; go_num; done) | assumption), (by first | (go_simp; done) | (go_simp; go_num; done) | assumption), (by first | (go_simp; done) | (go_simp; go_num; done) | assumption), (by first | (go_simp; done) | (go_simp; go_num; done) | assumption), rfl, (by first | (go_simp; done) | (go_simp; go_num; done) | assumption), Lib.hid (by rw [HG.out, HK.out]), by omega, by have := HX2.out.n; omega, HX.out.trans HX2.out, ?_, ?_, ?_⟩
      · rw [HX2.out.get _ hn0]; exact HG0.out
      · rw [HX2.out.get _ hn]; exact HG1.out
      · have h9 : ∀ v : Value, v = v2 → Own H2 (H.n + 2) v 87 2 (spanCells (joinS acc (k, k))) := by rintro v rfl; exact HO2.out.mono (by omega)
        exact h9 _ (by go_simp)
    · have hbt : bb = false := by simpa using hb
      rw [hbt, if_neg (by simp)] at HK
      refine Post.round_normal ⟨731 - (k + 1), by omega, k + 1, v, acc, by omega, rfl, (by first | (go_simp; done) | (go_simp; go_num; done) | assumption), (by first | (go_simp; done) | (go_simp; go_num; done) | assumption), (by first | (go_simp; done) | (go_simp; go_num; done) | assumption), (by first | (go_simp; done) | (go_simp; go_num; done) | assumption), (by first | (go_simp; done) | (go_simp; go_num; done) | assumption), (by first | (go_simp; done) | (go_simp; go_num; done) | assumption), (by first | (go_simp; done) | (go_simp; go_num; done) | assumption), Lib.hid (by rw [HG.out, HK.out]), by omega, hn, HX.out, HG0.out, HG1.out, HO.out⟩
  · have hr : res = acc := by rw [HG.out, show 731 - k = 0 by omega]; rfl
    obtain ⟨a2, n2, rfl⟩ := own_slice HO.out
    have hk9 : ¬ ((k : Int) ≤ 730) := by omega
    repeat' (first | (with_reducible first | refine CodeS.seq ?_ | refine CodeS.region_k fun K hK => ?_ | refine opsP_go fun K2 hK2 => ?_ | refine Post.then_normal ?_ | refine Post.then_ret ?_ | refine Post.then_exit ?_ | refine Post.block_normal ?_ | refine Post.block_ret ?_ | refine Post.block_here ?_ | refine Post.scope_normal ?_ | refine Post.scope_ret ?_ | refine Post.scope_exit ?_ | refine Post.round_ret ?_ | refine Post.round_exit ?_ | refine CodeS.block ?_ | refine CodeS.skip ?_ | refine CodeS.ret ?_ | refine CodeS.exit ?_ | refine CodeS.scope ?_ | refine CodeS.label ?_) | ((with_reducible refine opsP_nil (hK _ _ ?_)); clear hK K) | ((with_reducible refine opsP_gd ?hj ?hlt fun K1 K3 d hdst h1 h3 => ?_); (case hj => rfl); (case hlt => exact Nat.le_of_ble_eq_true rfl); cases hdst; go_simp) | ((with_reducible refine CodeS.cond_k fun K1 K3 h1 h3 => ?_); go_simp) | (refine h1 ?_; clear h1 h3 K1 K3) | (refine h3 ?_; clear h1 h3 K1 K3) | ((refine Either.mk (fun hb => h1 ?_) (fun hb => h3 ?_)) <;> (clear h1 h3 K1 K3; (try have hb2 := of_decide hb); (try have hb2 := of_not_decide_lt hb); (try have hb2 := of_not_decide_le hb); (try have hb2 := of_not_decide_ltN hb); (try have hb2 := of_not_decide_leN hb))) | ((refine Either.mk (fun hb => h3 ?_) (fun hb => h1 ?_)) <;> (clear h1 h3 K1 K3; (try have hb2 := of_decide hb); (try have hb2 := of_not_decide_lt hb); (try have hb2 := of_not_decide_le hb); (try have hb2 := of_not_decide_ltN hb); (try have hb2 := of_not_decide_leN hb))) | (refine fun (K2 : _ → AHeap → Prop) hK2 => ?_) | ((with_reducible refine Post.block_off ?hn ?_); (case hn => decide)) | ((with_reducible first | refine Post.body_k ?hd (fun K hK => ?_) | refine Post.body_kn ?hd (fun K hK => ?_)); (case hd => (go_simp; done)); go_simp; refine hK _ _ ?_; clear hK K) | ((with_reducible refine CodeS.tree_lit mixed rfl ?hok 20 fun K0 hK0 => ?_); (case hok => kernel_rfl)) | (with_reducible first | exact loudsP_nil | exact stableP_nil | refine treeP_lit ?_ | refine passP_nil ?_ | refine stableP_keep ?_) | ((with_reducible first | refine passP_skip ?h1 ?_ | refine loudsP_skip ?h1 ?_ | refine stepT_more ?h1 ?_); (case h1 => rfl)) | ((with_reducible refine stepT_done ?h1 ?_); (case h1 => rfl); refine hK0 _ _ ?_; clear hK0 K0) | ((with_reducible refine passP_loud ?h1 ?hg ?hl ?_); (case h1 => rfl); (case hg => rfl); (case hl => rfl)) | ((with_reducible refine passP_q ?h1 ?hl ?hlt fun K2 hK2 => ?_); (case h1 => rfl); (case hl => rfl); (case hlt => exact Nat.le_of_ble_eq_true rfl)) | ((with_reducible refine passP_g ?h1 ?hj ?hl ?hlt fun K1 K3 d hdst h1 h3 => ?_); (case h1 => rfl); (case hj => rfl); (case hl => rfl); (case hlt => exact Nat.le_of_ble_eq_true rfl); cases hdst; go_simp) | ((with_reducible refine passP_lg ?h1 ?hj ?hl ?hlt fun K1 K3 d hdst h1 h3 => ?_); (case h1 => rfl); (case hj => rfl); (case hl => rfl); (case hlt => exact Nat.le_of_ble_eq_true rfl); cases hdst; go_simp) | ((with_reducible refine loudsP_c ?h1 ?hlt (fun K2 hK2 => ?_) ?_); (case h1 => rfl); (case hlt => exact Nat.le_of_ble_eq_true rfl)) | ((with_reducible refine loudsP_cg ?h1 ?hlt ?hj ?hw (fun K2 hK2 => ?_) ?_); (case h1 => rfl); (case hlt => exact Nat.le_of_ble_eq_true rfl); (case hj => rfl); (case hw => (go_simp; done))) | ((with_reducible refine loudsP_v ?h1 ?hv ?hlt (fun K2 hK2 => ?_) ?_); (case h1 => rfl); (case hv => rfl); (case hlt => exact Nat.le_of_ble_eq_true rfl)) | ((with_reducible refine loudsP_u ?h1 ?hv (fun K2 hK2 => ?_) ?_); (case h1 => rfl); (case hv => rfl)) | ((with_reducible refine stableP_pre ?h1 ?_); (case h1 => (first | rfl | (dsimp only; decide +kernel)))) | ((with_reducible refine stableP_re ?h1 ?_); (case h1 => (go_simp; done))) | (go_simp; (try go_bits); (first | (refine hK2 _ _ ?_ ?_ <;> clear hK2 K2) | (refine hK2 _ _ ?_; clear hK2 K2))))
    refine ⟨_, rfl, ?_, HX.out.upd (by omega) _⟩
    rw [hr]
    refine spans_of_own (own_at HO.out (by rw [AHeap.n_upd]; exact Nat.le_refl _) fun i n hv hn => AHeap.get_upd_ne ?_) (by omega)
    have h9 := (own_block HO.out hv hn).1
    omega

theorem own_upd {H : AHeap} {base : Nat} {v : Value} {e : TypeId} {size : Nat} {cells : List Value} {i : Nat} {o : AObj} (h : Own H base v e size cells) (hi : i < base) : Own (H.upd i o) base v e size cells :=
  own_at h (by rw [AHeap.n_upd]; exact Nat.le_refl _) fun j n hv hn => AHeap.get_upd_ne (by have := (own_block h hv hn).1; omega)

def refReads (s : Sheet) (line d : Int) : List Int := if readsErr s line d = 0 then (hasOn s line d).reads else []
theorem readsErr_iff (s : Sheet) (line d : Int) : readsErr s line d = if err s ≠ 0 then err s else if win 0 (s.words.length - 1) line = false ∨ win 0 730 d = false then 1 else 0 := by
  unfold readsErr errLine
  by_cases h : err s = 0
  · by_cases h2 : win 0 (s.words.length - 1) line = true
    · by_cases h3 : win 0 730 d = true <;> simp [h, h2, h3]
    · simp [h, h2]
  · simp [h]
theorem refReads_e {loops : List (Nat × LInfo)} {H : AHeap} {sv : Value} {s : Sheet} {line d : Int} (hs : SheetV H sv s) : CallS Try.prog loops 22 [sv, .int .i64 line, .int .i64 d] H fun r H' => ∃ v, r = .agg #[v, .int .i64 (readsErr s line d)] ∧ Ints H' v (refReads s line d) ∧ Ext H H' := by
  have HV := Lib.hid hs
  obtain ⟨wv, av, rfl, hw, ha⟩ := hs
  obtain ⟨hwl, wa, wc, rfl⟩ := hw.slice
  obtain ⟨hal, aa, ac, rfl⟩ := ha.slice
  clear hw ha
  have HE := Lib.hid (readsErr_iff s line d)
  have hnil : ∀ H : AHeap, Ints H (.slice none 0 0) [] := fun H => ⟨rfl, by simp, none, 0, rfl, by simp⟩
  have HNIL := Lib.hid hnil
  clear hnil
  have HON := Lib.hid (fun (loops : List (Nat × LInfo)) (H2 : AHeap) (hx : Ext H H2) (hl : 0 ≤ line ∧ line < s.words.length) => on_e (loops := loops) (d := d) (HV.out.ext hx) hl.1 hl.2)
  have HRR : Hid (readsErr s line d = 0 → refReads s line d = (hasOn s line d).reads) := Lib.hid (fun h => by rw [refReads, if_pos h])
  have HRN : Hid (readsErr s line d ≠ 0 → refReads s line d = []) := Lib.hid (fun h => by rw [refReads, if_neg h])
  generalize hasOn s line d = c at HON HRR
  obtain ⟨ct, cm, cl⟩ := c
  refine CallS.enter' Try.func22 rfl Try.ntmps22 (by simp) fun f hd hf => ?_
  have f0 := hf 0
  have f1 := hf 1
  have f2 := hf 2
  simp at f0 f1 f2
  clear hf
  repeat' (first | (with_reducible first | refine CodeS.seq ?_ | refine CodeS.region_k fun K hK => ?_ | refine opsP_go fun K2 hK2 => ?_ | refine Post.then_normal ?_ | refine Post.then_ret ?_ | refine Post.then_exit ?_ | refine Post.block_normal ?_ | refine Post.block_ret ?_ | refine Post.block_here ?_ | refine Post.scope_normal ?_ | refine Post.scope_ret ?_ | refine Post.scope_exit ?_ | refine Post.round_ret ?_ | refine Post.round_exit ?_ | refine CodeS.block ?_ | refine CodeS.skip ?_ | refine CodeS.ret ?_ | refine CodeS.exit ?_ | refine CodeS.scope ?_ | refine CodeS.label ?_) | ((with_reducible refine opsP_nil (hK _ _ ?_)); clear hK K) | ((with_reducible refine opsP_gd ?hj ?hlt fun K1 K3 d hdst h1 h3 => ?_); (case hj => rfl); (case hlt => exact Nat.le_of_ble_eq_true rfl); cases hdst; go_simp) | ((with_reducible refine CodeS.cond_k fun K1 K3 h1 h3 => ?_); go_simp) | (refine h1 ?_; clear h1 h3 K1 K3) | (refine h3 ?_; clear h1 h3 K1 K3) | ((refine Either.mk (fun hb => h1 ?_) (fun hb => h3 ?_)) <;> (clear h1 h3 K1 K3; (try have hb2 := of_decide hb); (try have hb2 := of_not_decide_lt hb); (try have hb2 := of_not_decide_le hb); (try have hb2 := of_not_decide_ltN hb); (try have hb2 := of_not_decide_leN hb))) | ((refine Either.mk (fun hb => h3 ?_) (fun hb => h1 ?_)) <;> (clear h1 h3 K1 K3; (try have hb2 := of_decide hb); (try have hb2 := of_not_decide_lt hb); (try have hb2 := of_not_decide_le hb); (try have hb2 := of_not_decide_ltN hb); (try have hb2 := of_not_decide_leN hb))) | (refine fun (K2 : _ → AHeap → Prop) hK2 => ?_) | ((with_reducible refine Post.block_off ?hn ?_); (case hn => decide)) | ((with_reducible first | refine Post.body_k ?hd (fun K hK => ?_) | refine Post.body_kn ?hd (fun K hK => ?_)); (case hd => (go_simp; done)); go_simp; refine hK _ _ ?_; clear hK K) | ((with_reducible refine CodeS.tree_lit mixed rfl ?hok 20 fun K0 hK0 => ?_); (case hok => kernel_rfl)) | (with_reducible first | exact loudsP_nil | exact stableP_nil | refine treeP_lit ?_ | refine passP_nil ?_ | refine stableP_keep ?_) | ((with_reducible first | refine passP_skip ?h1 ?_ | refine loudsP_skip ?h1 ?_ | refine stepT_more ?h1 ?_); (case h1 => rfl)) | ((with_reducible refine stepT_done ?h1 ?_); (case h1 => rfl); refine hK0 _ _ ?_; clear hK0 K0) | ((with_reducible refine passP_loud ?h1 ?hg ?hl ?_); (case h1 => rfl); (case hg => rfl); (case hl => rfl)) | ((with_reducible refine passP_q ?h1 ?hl ?hlt fun K2 hK2 => ?_); (case h1 => rfl); (case hl => rfl); (case hlt => exact Nat.le_of_ble_eq_true rfl)) | ((with_reducible refine passP_g ?h1 ?hj ?hl ?hlt fun K1 K3 d hdst h1 h3 => ?_); (case h1 => rfl); (case hj => rfl); (case hl => rfl); (case hlt => exact Nat.le_of_ble_eq_true rfl); cases hdst; go_simp) | ((with_reducible refine passP_lg ?h1 ?hj ?hl ?hlt fun K1 K3 d hdst h1 h3 => ?_); (case h1 => rfl); (case hj => rfl); (case hl => rfl); (case hlt => exact Nat.le_of_ble_eq_true rfl); cases hdst; go_simp) | ((with_reducible refine loudsP_c ?h1 ?hlt (fun K2 hK2 => ?_) ?_); (case h1 => rfl); (case hlt => exact Nat.le_of_ble_eq_true rfl)) | ((with_reducible refine loudsP_cg ?h1 ?hlt ?hj ?hw (fun K2 hK2 => ?_) ?_); (case h1 => rfl); (case hlt => exact Nat.le_of_ble_eq_true rfl); (case hj => rfl); (case hw => (go_simp; done))) | ((with_reducible refine loudsP_v ?h1 ?hv ?hlt (fun K2 hK2 => ?_) ?_); (case h1 => rfl); (case hv => rfl); (case hlt => exact Nat.le_of_ble_eq_true rfl)) | ((with_reducible refine loudsP_u ?h1 ?hv (fun K2 hK2 => ?_) ?_); (case h1 => rfl); (case hv => rfl)) | ((with_reducible refine stableP_pre ?h1 ?_); (case h1 => (first | rfl | (dsimp only; decide +kernel)))) | ((with_reducible refine stableP_re ?h1 ?_); (case h1 => (go_simp; done))) | (go_simp; (try go_bits); (try first | ((with_reducible show CallS _ _ _ _ _ _); refine CallS.mono in_s ?_; rintro _ _ ⟨rfl, rfl⟩) | ((with_reducible show CallS _ _ _ _ _ _); refine CallS.mono day_s ?_; rintro _ _ ⟨rfl, rfl⟩) | ((with_reducible show CallS _ _ _ _ _ _); refine CallS.mono (refCheck_s (s := s) (HV.out.ext (((Ext.refl _).push' _).push' _))) ?_; rintro _ _ ⟨rfl, rfl⟩) | ((with_reducible show CallS _ _ _ _ _ _); refine CallS.mono (HON.out _ _ (((Ext.refl _).push' _).push' _) (by have h : win 0 (s.words.length - 1) line = true := (by simpa using ‹(!win 0 (↑s.words.length - 1) line) = false›); rw [win_iff] at h; omega)) ?_; rintro _ H2 ⟨rfl, hx⟩; (have HX := Lib.hid (((Ext.refl H).push' _).push' _ |>.trans hx)); (have hgB : H2.get (H.n + 1) = .row [Value.slice none 0 0, .int .i64 0] 35 := (hx.get _ (by simp only [AHeap.n_push]; omega)).trans (by rw [← AHeap.n_push H, AHeap.get_push_new])); (have hnB : H.n + 1 < H2.n := by have := hx.n; simp only [AHeap.n_push] at this; omega); (have HB := Lib.hid hgB); (have hneB : ¬ (H.n + 1 = H2.n) := by omega); clear hx; (try simp only [Has.val])) | ((refine one_k el22 sz3 ze3 rfl (by decide) (by decide) rfl rfl ?_); go_simp) | ((refine append_k2 (base := H2.n) el22 sz3 by3 ze3 rfl (by decide) Own.nil (srcCells_new rfl) (by decide) rfl (by rfl) (by simp) (by simp only [AHeap.n_push]; omega) fun v2 H3 ho2 hg2 => ?_); (obtain ⟨a2, n2, rfl⟩ := own_slice ho2); (have HO2 := Lib.hid ho2); (have HX2 : Hid (Ext H2 H3) := Lib.hid (hg2.ext (e := 3) (size := 1) Own.nil (Nat.le_refl _) (((Ext.refl _).push' _).push' _))); (have hgA : H3.get H2.n = .row [.int .i64 ct, .int .i64 cm, .bool cl] 104 := (hg2.2 H2.n (by simp only [AHeap.n_push]; omega) (by intro b n h; cases h)).trans (by rw [AHeap.get_push_old (by rw [AHeap.n_push]; omega), AHeap.get_push_new])); (have hgB3 : H3.get (H.n + 1) = .row [Value.slice none 0 0, .int .i64 0] 35 := (HX2.out.get _ hnB).trans HB.out); (have hcA0 : cellAt H3 H2.n 0 = some (.int .i64 ct) := by simp [cellAt, hgA]); (have hcA1 : cellAt H3 H2.n 1 = some (.int .i64 cm) := by simp [cellAt, hgA]); (have hnA : H2.n + 1 < H3.n := by have := hg2.1; simp only [AHeap.n_push] at this; omega); clear ho2 hg2; go_simp) | ((refine append_k2 el22 sz3 by3 ze3 rfl (by decide) (HO2.out.ext (Ext.push _)) (srcCells_new rfl) (by decide) rfl (by rfl) (by simp) (by simp only [AHeap.n_push]; omega) fun v3 H4 ho3 hg3 => ?_); (obtain ⟨a3, n3, rfl⟩ := own_slice ho3); (have HO3 := Lib.hid ho3); (have HX3 : Hid (Ext H2 H4) := Lib.hid (hg3.ext (HO2.out.ext (Ext.push _)) (by simp only [AHeap.n_push]; omega) (HX2.out.push' _))); (have hgB4 : H4.get (H.n + 1) = .row [Value.slice none 0 0, .int .i64 0] 35 := (HX3.out.get _ hnB).trans HB.out); (have hnA4 : H2.n < H4.n := by have := HX3.out.n; have := hg3.1; simp only [AHeap.n_push] at this; omega); clear ho3 hg3; go_simp)); (first | (refine hK2 _ _ ?_ ?_ <;> clear hK2 K2) | (refine hK2 _ _ ?_; clear hK2 K2))))
  all_goals (try (refine ⟨.slice none 0 0, by rw [HE.out]; simp_all; done, by rw [HRN.out (by rw [HE.out]; simp_all; done)]; exact HNIL.out _, ((Ext.refl _).push' _).push' _⟩))
  all_goals (try (exfalso; simp_all; done))
  all_goals
    have hre : readsErr s line d = 0 := by rw [HE.out]; simp_all
    rw [hre, HRR.out hre]
  · refine ⟨_, rfl, ?_, (HX.out.trans HX3.out).upd (by omega) _⟩
    have hr : Has.reads ⟨ct, cm, cl⟩ = [ct, cm] := by
      have h1 : ¬ ct = 0 := by simpa using ‹(ct != 0) = true›
      have h2 : ¬ cm = 0 := by simpa using ‹(cm != 0) = true›
      have h3 : ¬ cm = ct := by simpa using ‹(cm != ct) = true›
      simp [Has.reads, h1, h2, h3]
    rw [hr]
    exact ints_of_own (l := [ct, cm]) (own_upd HO3.out (by simp only [AHeap.n_push]; omega)) (by simp)
  · refine ⟨_, rfl, ?_, (HX.out.trans HX2.out).upd (by omega) _⟩
    have hr : Has.reads ⟨ct, cm, cl⟩ = [ct] := by
      have h1 : ¬ ct = 0 := by simpa using ‹(ct != 0) = true›
      have h3 : cm = ct := by simpa using ‹(cm != ct) = false›
      simp [Has.reads, h1, h3]
    rw [hr]
    exact ints_of_own (l := [ct]) (own_upd HO2.out (by simp only [AHeap.n_push]; omega)) (by simp)
  · refine ⟨_, rfl, ?_, (HX.out.trans HX2.out).upd (by omega) _⟩
    have hr : Has.reads ⟨ct, cm, cl⟩ = [ct] := by
      have h1 : ¬ ct = 0 := by simpa using ‹(ct != 0) = true›
      have h3 : cm = 0 := by simpa using ‹(cm != 0) = false›
      simp [Has.reads, h1, h3]
    rw [hr]
    exact ints_of_own (l := [ct]) (own_upd HO2.out (by simp only [AHeap.n_push]; omega)) (by simp)
  · refine ⟨_, rfl, ?_, (HX.out.trans HX2.out).upd (by omega) _⟩
    have hr : Has.reads ⟨ct, cm, cl⟩ = [cm] := by
      have h1 : ct = 0 := by simpa using ‹(ct != 0) = false›
      have h3 : ¬ cm = 0 := by simpa using ‹(cm != 0) = true›
      simp [Has.reads, h1, h3]
    rw [hr]
    exact ints_of_own (l := [cm]) (own_upd HO2.out (by simp only [AHeap.n_push]; omega)) (by simp)
  · refine ⟨_, rfl, ?_, (HX.out.upd (by omega) _).push' _⟩
    have hr : Has.reads ⟨ct, cm, cl⟩ = [] := by
      have h1 : ct = 0 := by simpa using ‹(ct != 0) = false›
      have h3 : cm = 0 := by simpa using ‹(cm != 0) = false›
      simp [Has.reads, h1, h3]
    rw [hr]
    exact HNIL.out _
end Go.Proofs.Try
