/- Contracts of functions, walked. -/
import Derived.Test.YtgddlpegljkgpaaChecked
import Derived.Test.YtgddlpegljkgpaaRows
import Derived.Below
import Derived.Carry
import Derived.Deep.Slices
import Derived.Deep.Fields
import Derived.ChangeSame
import Derived.ProofKit
import Derived.OpenShut
import Derived.ShutString
import Derived.ChangeOld
import Derived.Lib.SmallJoins
import Derived.Test.YtgddlpegljkgpaaStSP
import Derived.Test.YtgddlpegljkgpaaStTG
import Derived.Test.YtgddlpegljkgpaaAwB
import Derived.Test.YtgddlpegljkgpaaAmS
import Derived.Test.YtgddlpegljkgpaaStSL
set_option linter.all false
namespace Go.Proofs.Try
open Go Go.Am Go.RowKit Go.Co
set_option maxRecDepth 100000

/-! What days that fit tell of the ends. -/
theorem fitsV_form' (s : Sheet) (c : Copy) (days : List Int) : ∃ n b, fitsV s c days = .tuple #[.int .i64 n, .bool b, .int .i64 (errFits s c days)] ∧ (errFits s c days = 0 → b = true → FitsOk s c days) := by
  unfold fitsV FitsOk
  by_cases h : errFits s c days = 0
  · rw [if_pos h, h]
    cases hf : fitsR s c days with
    | none => exact ⟨0, true, rfl, fun _ _ => ⟨rfl, rfl⟩⟩
    | some i => exact ⟨i, false, rfl, fun _ h => by cases h⟩
  · rw [if_neg h]
    exact ⟨0, false, rfl, fun h1 => absurd h1 h⟩
/-- What is known of a copy that is right. -/
structure Known (s : Sheet) (c : Copy) (x : Course) (p n : Nat) : Prop where
  ord : x.ord
  p1 : 1 ≤ p
  len : x.open_.length = n
  n1 : 1 ≤ n
  n40 : n ≤ 40
  ext : errExt s c = if x.made p then 0 else 9
  fin : ∀ i d, i < n → x.op i d = true → c.beg ≤ d ∧ d ≤ c.fin
  fin0 : 0 ≤ c.fin ∧ c.fin ≤ 730
theorem known {s : Sheet} {c : Copy} (h : errCopy s c = 0) : Known s c (courseOf s c) c.per.toNat c.words.length := by
  obtain ⟨he0, hlen, hwo, hb0, hb1, hb2, hp1, -⟩ := errCopy_ok h
  have hwl := win_iff.1 (err_ok he0).2.1
  refine ⟨courseOf_ord h, by omega, courseOf_len s c, by omega, by omega, by rw [errExt, if_neg (by simp [h])], fun i d hi ho => ?_, by omega⟩
  have h1 := courseOf_ins h hi (d := d)
  rw [Course.op, h1] at ho
  simp only [Bool.and_eq_true, decide_eq_true_eq] at ho
  omega
theorem fitsOk_fit {s : Sheet} {c : Copy} {days : List Int} : FitsOk s c days ↔ errCopy s c = 0 ∧ (courseOf s c).fit c.per.toNat days := by
  constructor
  · rintro ⟨h1, h2⟩
    obtain ⟨h3, h4⟩ := errFits_ok h1
    exact ⟨h3, by rw [courseOf_len]; exact h4, fitsR_iff.1 h2⟩
  · rintro ⟨h1, h2, h3⟩
    rw [courseOf_len] at h2
    exact ⟨by rw [errFits, if_neg (by simp [h1]), if_pos h2], fitsR_iff.2 h3⟩
theorem fitsOk_V {s : Sheet} {c : Copy} {days : List Int} (h : FitsOk s c days) : fitsV s c days = .tuple #[.int .i64 0, .bool true, .int .i64 0] := fitsV_ok h.1 (fitsR_iff.1 h.2)
theorem errExt_ok {s : Sheet} {c : Copy} (h : errExt s c = 0) : errCopy s c = 0 ∧ (courseOf s c).made c.per.toNat = true := by
  unfold errExt at h
  split at h
  · rename_i h1; exact absurd h h1
  · rename_i h1
    split at h
    · rename_i h2; exact ⟨by simpa using h1, h2⟩
    · cases h
theorem fit_ext {s : Sheet} {c : Copy} {days : List Int} (h : FitsOk s c days) : errExt s c = 0 := by
  obtain ⟨h1, h2⟩ := fitsOk_fit.1 h
  have k := known h1
  rw [k.ext, ((courseOf s c).fit_early k.ord k.p1 h2).1]; rfl
theorem floors_le {s : Sheet} {c : Copy} {days fl : List Int} (h : FitsOk s c days) (hf : errFloors s c fl = 0) : belowL fl days fl.length = true := by
  obtain ⟨h1, h2⟩ := fitsOk_fit.1 h
  have k := known h1
  rw [errFloors, if_neg (by simp [h1])] at hf
  split at hf
  · rename_i h3
    split at hf
    · rename_i h4
      have h5 := win_iff.1 h3
      have h6 : fl.length ≤ days.length := by rw [h2.1, k.len]; omega
      exact belowL_iff.2 ⟨Nat.le_refl _, h6, (courseOf s c).holds_le k.ord k.p1 h4 h6 h2⟩
    · cases hf
  · cases hf
theorem ceils_le {s : Sheet} {c : Copy} {days ce : List Int} (h : FitsOk s c days) (hf : errCeils s c ce = 0) : belowL days ce days.length = true := by
  obtain ⟨h1, h2⟩ := fitsOk_fit.1 h
  have k := known h1
  rw [errCeils, if_neg (by simp [h1])] at hf
  split at hf
  · rename_i h3
    split at hf
    · rename_i h4
      have h6 : ce.length = days.length := by rw [h2.1, k.len]; omega
      exact belowL_iff.2 ⟨Nat.le_refl _, by omega, (courseOf s c).ceils_le k.ord k.p1 h4 h6 h2⟩
    · cases hf
  · cases hf
theorem first_fits {s : Sheet} {c : Copy} (h : errExt s c = 0) : FitsOk s c (firstL s c) := by
  obtain ⟨h1, h2⟩ := errExt_ok h
  have k := known h1
  rw [firstL, if_pos h]
  exact fitsOk_fit.2 ⟨h1, (courseOf s c).early_fit k.ord k.p1 h2⟩
theorem last_fits {s : Sheet} {c : Copy} (h : errExt s c = 0) : FitsOk s c (lastL s c) := by
  obtain ⟨h1, h2⟩ := errExt_ok h
  have k := known h1
  rw [lastL, if_pos h]
  exact fitsOk_fit.2 ⟨h1, (courseOf s c).late_fit k.ord k.p1 h2⟩
theorem first_floors {s : Sheet} {c : Copy} (h : errExt s c = 0) : errFloors s c (firstL s c) = 0 := by
  obtain ⟨h1, h2⟩ := errExt_ok h
  have k := known h1
  rw [firstL, if_pos h, errFloors, if_neg (by simp [h1]), if_pos, if_pos ((courseOf s c).early_holds k.ord k.p1)]
  have h3 := ((courseOf s c).early_fit k.ord k.p1 h2).1
  have h4 := k.len
  have h5 := k.n1
  exact win_iff.2 ⟨by omega, by omega⟩
theorem last_ceils {s : Sheet} {c : Copy} (h : errExt s c = 0) : errCeils s c (lastL s c) = 0 := by
  obtain ⟨h1, h2⟩ := errExt_ok h
  have k := known h1
  rw [lastL, if_pos h, errCeils, if_neg (by simp [h1]), if_pos, if_pos ((courseOf s c).late_ceils k.ord k.p1 h2)]
  rw [((courseOf s c).late_fit k.ord k.p1 h2).1, k.len]
theorem first_below {s : Sheet} {c : Copy} {days : List Int} (h : FitsOk s c days) : belowL (firstL s c) days days.length = true := by
  obtain ⟨h1, h2⟩ := fitsOk_fit.1 h
  have he := fit_ext h
  have k := known h1
  have h3 := (fitsOk_fit.1 (first_fits he)).2.1
  rw [firstL, if_pos he] at h3 ⊢
  exact belowL_iff.2 ⟨by have := h2.1; omega, Nat.le_refl _, ((courseOf s c).fit_early k.ord k.p1 h2).2⟩
theorem last_below {s : Sheet} {c : Copy} {days : List Int} (h : FitsOk s c days) : belowL days (lastL s c) days.length = true := by
  obtain ⟨h1, h2⟩ := fitsOk_fit.1 h
  have he := fit_ext h
  have k := known h1
  have h3 := (fitsOk_fit.1 (last_fits he)).2.1
  rw [lastL, if_pos he] at h3 ⊢
  exact belowL_iff.2 ⟨Nat.le_refl _, by have := h2.1; omega, (courseOf s c).fit_late k.ord k.p1 h2⟩
end Go.Proofs.Try
namespace Go.Proofs.Try
open Go Go.Am Go.RowKit Go.Co
set_option maxRecDepth 100000

/-! CheckClash. -/
def errClash (s : Sheet) (c : Copy) (fl : List Int) : Int := if errFloors s c fl ≠ 0 then errFloors s c fl else if fl.getD (fl.length - 1) 0 ≤ c.fin then 8 else 0

theorem checkClash_s {loops : List (Nat × LInfo)} {H : AHeap} {sv cv dv : Value} {s : Sheet} {c : Copy} {fl : List Int} (hs : SheetV H sv s) (hc : CopyV H cv c) (hd : Ints H dv fl) : CallS Try.prog loops 53 [sv, cv, dv] H fun r H' => r = .int .i64 (errClash s c fl) ∧ H' = H := by
  refine CallS.forget (R := fun v => v = .int .i64 (errClash s c fl)) (by rintro v rfl; rfl) ?_
  have HS := Lib.hid hs
  have HC := Lib.hid hc
  have HD := Lib.hid hd
  obtain ⟨wv, av, rfl, hw, ha⟩ := hs
  obtain ⟨hwl, wa, wc, rfl⟩ := hw.slice
  obtain ⟨hal, aa, ac, rfl⟩ := ha.slice
  obtain ⟨cv, rfl, hcw⟩ := hc
  obtain ⟨hcl, ca, cc, rfl⟩ := hcw.slice
  obtain ⟨hdl, da, dc, rfl⟩ := hd.slice
  clear hw ha hcw hd
  have HEE : Hid (errClash s c fl = if errFloors s c fl ≠ 0 then errFloors s c fl else if fl.getD (fl.length - 1) 0 ≤ c.fin then 8 else 0) := Lib.hid rfl
  have HF1 : Hid (errFloors s c fl = 0 → 1 ≤ fl.length) := Lib.hid fun h => by
    unfold errFloors at h
    split at h
    · rename_i h1; exact absurd h h1
    · split at h
      · rename_i h1; have := (win_iff.1 h1).1; omega
      · cases h
  have HCF := Lib.hid (fun (loops : List (Nat × LInfo)) (H' : AHeap) (hx : Ext H H') => checkFloors_s (loops := loops) (HS.out.ext hx) (HC.out.ext hx) (HD.out.ext hx))
  generalize errClash s c fl = er at HEE
  generalize errFloors s c fl = ef at HEE HF1 HCF
  refine CallS.enter' Try.func53 rfl Try.ntmps53 (by simp) fun f hd hf => ?_
  have f0 := hf 0
  have f1 := hf 1
  have f2 := hf 2
  simp at f0 f1 f2
  clear hf
  have HX1 : Hid (Ext H ((H.push (.row [Value.slice wa s.words.length wc, Value.slice aa s.alts.length ac] 25)).push (.row [Value.slice ca c.words.length cc, .int .i64 c.beg, .int .i64 c.fin, .int .i64 c.per] 27))) := Lib.hid (((Ext.refl _).push' _).push' _)
  by_cases hok : ef = 0
  · have hk0 := HF1.out hok
    obtain ⟨b, o, sp, rfl, hb, hx⟩ := HD.out.at_ (k := fl.length - 1) (by omega)
    have hg1 : Hid (fl.getD (fl.length - 1) 0 = fl[fl.length - 1]) := Lib.hid (by simp [List.getD_eq_getElem?_getD, show fl.length - 1 < fl.length by omega])
    have h0i : (0 : Int) ≤ (fl.length : Int) - 1 := by omega
    have h1i : (fl.length : Int) - 1 < (fl.length : Int) := by omega
    have h3i : ((fl.length : Int) - 1).toNat = fl.length - 1 := by omega
    have h2i : (1 : Int) ≤ (fl.length : Int) := by omega
    have h4i : 0 < fl.length := by omega
    have h5i : (0 : Int) < (fl.length : Int) := by omega
    generalize fl[fl.length - 1] = y at hx hg1
    rw [hok] at HEE HCF
    repeat' (first | (with_reducible first | refine CodeS.seq ?_ | refine CodeS.region_k fun K hK => ?_ | refine opsP_go fun K2 hK2 => ?_ | refine Post.then_normal ?_ | refine Post.then_ret ?_ | refine Post.then_exit ?_ | refine Post.block_normal ?_ | refine Post.block_ret ?_ | refine Post.block_here ?_ | refine Post.scope_normal ?_ | refine Post.scope_ret ?_ | refine Post.scope_exit ?_ | refine Post.round_ret ?_ | refine Post.round_exit ?_ | refine CodeS.block ?_ | refine CodeS.skip ?_ | refine CodeS.ret ?_ | refine CodeS.exit ?_ | refine CodeS.scope ?_ | refine CodeS.label ?_) | ((with_reducible refine opsP_nil (hK _ _ ?_)); clear hK K) | ((with_reducible refine opsP_gd ?hj ?hlt fun K1 K3 d hdst h1 h3 => ?_); (case hj => rfl); (case hlt => exact Nat.le_of_ble_eq_true rfl); cases hdst; go_simp) | ((with_reducible refine CodeS.cond_k fun K1 K3 h1 h3 => ?_); go_simp) | (refine h1 ?_; clear h1 h3 K1 K3) | (refine h3 ?_; clear h1 h3 K1 K3) | ((refine Either.mk (fun hb => h1 ?_) (fun hb => h3 ?_)) <;> (clear h1 h3 K1 K3; (try have hb2 := of_decide hb); (try have hb2 := of_not_decide_lt hb); (try have hb2 := of_not_decide_le hb); (try have hb2 := of_not_decide_ltN hb); (try have hb2 := of_not_decide_leN hb))) | ((refine Either.mk (fun hb => h3 ?_) (fun hb => h1 ?_)) <;> (clear h1 h3 K1 K3; (try have hb2 := of_decide hb); (try have hb2 := of_not_decide_lt hb); (try have hb2 := of_not_decide_le hb); (try have hb2 := of_not_decide_ltN hb); (try have hb2 := of_not_decide_leN hb))) | (refine fun (K2 : _ → AHeap → Prop) hK2 => ?_) | ((with_reducible refine Post.block_off ?hn ?_); (case hn => decide)) | ((with_reducible first | refine Post.body_k ?hd (fun K hK => ?_) | refine Post.body_kn ?hd (fun K hK => ?_)); (case hd => (go_simp; done)); go_simp; refine hK _ _ ?_; clear hK K) | ((with_reducible refine CodeS.tree_lit mixed rfl ?hok 20 fun K0 hK0 => ?_); (case hok => kernel_rfl)) | (with_reducible first | exact loudsP_nil | exact stableP_nil | refine treeP_lit ?_ | refine passP_nil ?_ | refine stableP_keep ?_) | ((with_reducible first | refine passP_skip ?h1 ?_ | refine loudsP_skip ?h1 ?_ | refine stepT_more ?h1 ?_); (case h1 => rfl)) | ((with_reducible refine stepT_done ?h1 ?_); (case h1 => rfl); refine hK0 _ _ ?_; clear hK0 K0) | ((with_reducible refine passP_loud ?h1 ?hg ?hl ?_); (case h1 => rfl); (case hg => rfl); (case hl => rfl)) | ((with_reducible refine passP_q ?h1 ?hl ?hlt fun K2 hK2 => ?_); (case h1 => rfl); (case hl => rfl); (case hlt => exact Nat.le_of_ble_eq_true rfl)) | ((with_reducible refine passP_g ?h1 ?hj ?hl ?hlt fun K1 K3 d hdst h1 h3 => ?_); (case h1 => rfl); (case hj => rfl); (case hl => rfl); (case hlt => exact Nat.le_of_ble_eq_true rfl); cases hdst; go_simp) | ((with_reducible refine passP_lg ?h1 ?hj ?hl ?hlt fun K1 K3 d hdst h1 h3 => ?_); (case h1 => rfl); (case hj => rfl); (case hl => rfl); (case hlt => exact Nat.le_of_ble_eq_true rfl); cases hdst; go_simp) | ((with_reducible refine loudsP_c ?h1 ?hlt (fun K2 hK2 => ?_) ?_); (case h1 => rfl); (case hlt => exact Nat.le_of_ble_eq_true rfl)) | ((with_reducible refine loudsP_cg ?h1 ?hlt ?hj ?hw (fun K2 hK2 => ?_) ?_); (case h1 => rfl); (case hlt => exact Nat.le_of_ble_eq_true rfl); (case hj => rfl); (case hw => (go_simp; done))) | ((with_reducible refine loudsP_v ?h1 ?hv ?hlt (fun K2 hK2 => ?_) ?_); (case h1 => rfl); (case hv => rfl); (case hlt => exact Nat.le_of_ble_eq_true rfl)) | ((with_reducible refine loudsP_u ?h1 ?hv (fun K2 hK2 => ?_) ?_); (case h1 => rfl); (case hv => rfl)) | ((with_reducible refine stableP_pre ?h1 ?_); (case h1 => (first | rfl | (dsimp only; decide +kernel)))) | ((with_reducible refine stableP_re ?h1 ?_); (case h1 => (go_simp; done))) | (go_simp; (try go_bits); (try first | ((with_reducible show CallS _ _ _ _ _ _); refine CallS.mono (HCF.out _ _ HX1.out) ?_; rintro _ _ ⟨rfl, h9⟩; rw [h9]; clear h9)); (first | (refine hK2 _ _ ?_ ?_ <;> clear hK2 K2) | (refine hK2 _ _ ?_; clear hK2 K2))))
    · refine ⟨?_, HX1.out⟩
      rw [HEE.out, hg1.out, if_neg (by simp), if_pos (by omega)]
    · refine ⟨?_, HX1.out⟩
      rw [HEE.out, hg1.out, if_neg (by simp), if_neg (by omega)]
  · repeat' (first | (with_reducible first | refine CodeS.seq ?_ | refine CodeS.region_k fun K hK => ?_ | refine opsP_go fun K2 hK2 => ?_ | refine Post.then_normal ?_ | refine Post.then_ret ?_ | refine Post.then_exit ?_ | refine Post.block_normal ?_ | refine Post.block_ret ?_ | refine Post.block_here ?_ | refine Post.scope_normal ?_ | refine Post.scope_ret ?_ | refine Post.scope_exit ?_ | refine Post.round_ret ?_ | refine Post.round_exit ?_ | refine CodeS.block ?_ | refine CodeS.skip ?_ | refine CodeS.ret ?_ | refine CodeS.exit ?_ | refine CodeS.scope ?_ | refine CodeS.label ?_) | ((with_reducible refine opsP_nil (hK _ _ ?_)); clear hK K) | ((with_reducible refine opsP_gd ?hj ?hlt fun K1 K3 d hdst h1 h3 => ?_); (case hj => rfl); (case hlt => exact Nat.le_of_ble_eq_true rfl); cases hdst; go_simp) | ((with_reducible refine CodeS.cond_k fun K1 K3 h1 h3 => ?_); go_simp) | (refine h1 ?_; clear h1 h3 K1 K3) | (refine h3 ?_; clear h1 h3 K1 K3) | ((refine Either.mk (fun hb => h1 ?_) (fun hb => h3 ?_)) <;> (clear h1 h3 K1 K3; (try have hb2 := of_decide hb); (try have hb2 := of_not_decide_lt hb); (try have hb2 := of_not_decide_le hb); (try have hb2 := of_not_decide_ltN hb); (try have hb2 := of_not_decide_leN hb))) | ((refine Either.mk (fun hb => h3 ?_) (fun hb => h1 ?_)) <;> (clear h1 h3 K1 K3; (try have hb2 := of_decide hb); (try have hb2 := of_not_decide_lt hb); (try have hb2 := of_not_decide_le hb); (try have hb2 := of_not_decide_ltN hb); (try have hb2 := of_not_decide_leN hb))) | (refine fun (K2 : _ → AHeap → Prop) hK2 => ?_) | ((with_reducible refine Post.block_off ?hn ?_); (case hn => decide)) | ((with_reducible first | refine Post.body_k ?hd (fun K hK => ?_) | refine Post.body_kn ?hd (fun K hK => ?_)); (case hd => (go_simp; done)); go_simp; refine hK _ _ ?_; clear hK K) | ((with_reducible refine CodeS.tree_lit mixed rfl ?hok 20 fun K0 hK0 => ?_); (case hok => kernel_rfl)) | (with_reducible first | exact loudsP_nil | exact stableP_nil | refine treeP_lit ?_ | refine passP_nil ?_ | refine stableP_keep ?_) | ((with_reducible first | refine passP_skip ?h1 ?_ | refine loudsP_skip ?h1 ?_ | refine stepT_more ?h1 ?_); (case h1 => rfl)) | ((with_reducible refine stepT_done ?h1 ?_); (case h1 => rfl); refine hK0 _ _ ?_; clear hK0 K0) | ((with_reducible refine passP_loud ?h1 ?hg ?hl ?_); (case h1 => rfl); (case hg => rfl); (case hl => rfl)) | ((with_reducible refine passP_q ?h1 ?hl ?hlt fun K2 hK2 => ?_); (case h1 => rfl); (case hl => rfl); (case hlt => exact Nat.le_of_ble_eq_true rfl)) | ((with_reducible refine passP_g ?h1 ?hj ?hl ?hlt fun K1 K3 d hdst h1 h3 => ?_); (case h1 => rfl); (case hj => rfl); (case hl => rfl); (case hlt => exact Nat.le_of_ble_eq_true rfl); cases hdst; go_simp) | ((with_reducible refine passP_lg ?h1 ?hj ?hl ?hlt fun K1 K3 d hdst h1 h3 => ?_); (case h1 => rfl); (case hj => rfl); (case hl => rfl); (case hlt => exact Nat.le_of_ble_eq_true rfl); cases hdst; go_simp) | ((with_reducible refine loudsP_c ?h1 ?hlt (fun K2 hK2 => ?_) ?_); (case h1 => rfl); (case hlt => exact Nat.le_of_ble_eq_true rfl)) | ((with_reducible refine loudsP_cg ?h1 ?hlt ?hj ?hw (fun K2 hK2 => ?_) ?_); (case h1 => rfl); (case hlt => exact Nat.le_of_ble_eq_true rfl); (case hj => rfl); (case hw => (go_simp; done))) | ((with_reducible refine loudsP_v ?h1 ?hv ?hlt (fun K2 hK2 => ?_) ?_); (case h1 => rfl); (case hv => rfl); (case hlt => exact Nat.le_of_ble_eq_true rfl)) | ((with_reducible refine loudsP_u ?h1 ?hv (fun K2 hK2 => ?_) ?_); (case h1 => rfl); (case hv => rfl)) | ((with_reducible refine stableP_pre ?h1 ?_); (case h1 => (first | rfl | (dsimp only; decide +kernel)))) | ((with_reducible refine stableP_re ?h1 ?_); (case h1 => (go_simp; done))) | (go_simp; (try go_bits); (try first | ((with_reducible show CallS _ _ _ _ _ _); refine CallS.mono (HCF.out _ _ HX1.out) ?_; rintro _ _ ⟨rfl, h9⟩; rw [h9]; clear h9)); (first | (refine hK2 _ _ ?_ ?_ <;> clear hK2 K2) | (refine hK2 _ _ ?_; clear hK2 K2))))
    · refine ⟨?_, HX1.out⟩
      rw [HEE.out, if_pos hok]
    all_goals exact absurd (show ef = 0 by simpa using ‹(ef != 0) = false›) hok
end Go.Proofs.Try
namespace Go.Proofs.Try
open Go Go.Am Go.RowKit Go.Co
set_option maxRecDepth 100000

/-! Clash. -/
def isClash (s : Sheet) (c : Copy) : Bool := decide (errCopy s c = 0) && !(courseOf s c).made c.per.toNat
def clashL (s : Sheet) (c : Copy) : List Int := if isClash s c then (courseOf s c).early c.per.toNat 0 ++ [c.fin + 1] else []

theorem clash_e {loops : List (Nat × LInfo)} {H : AHeap} {sv cv : Value} {s : Sheet} {c : Copy} (hs : SheetV H sv s) (hc : CopyV H cv c) : CallS Try.prog loops 52 [sv, cv] H fun r H' => (∃ lv, r = .tuple #[lv, .bool (isClash s c), .int .i64 (errCopy s c)] ∧ Ints H' lv (clashL s c)) ∧ Ext H H' := by
  have HS := Lib.hid hs
  have HC := Lib.hid hc
  obtain ⟨wv, av, rfl, hw, ha⟩ := hs
  obtain ⟨hwl, wa, wc, rfl⟩ := hw.slice
  obtain ⟨hal, aa, ac, rfl⟩ := ha.slice
  obtain ⟨cv, rfl, hcw⟩ := hc
  obtain ⟨hcl, ca, cc, rfl⟩ := hcw.slice
  clear hw ha hcw
  refine CallS.enter' Try.func52 rfl Try.ntmps52 (by simp) fun f hd hf => ?_
  have f0 := hf 0
  have f1 := hf 1
  simp at f0 f1
  clear hf
  generalize hee : errCopy s c = er
  have HE := Lib.hid hee
  clear hee
  have HX1 : Hid (Ext H (((H.push (.row [Value.slice wa s.words.length wc, Value.slice aa s.alts.length ac] 25)).push (.row [Value.slice ca c.words.length cc, .int .i64 c.beg, .int .i64 c.fin, .int .i64 c.per] 27)))) := Lib.hid (((Ext.refl _).push' _).push' _)
  have hi : ∀ G : AHeap, Ints G (.slice none 0 0) [] := fun G => ints_of_own (show Own G 0 (.slice none 0 0) 3 1 (([] : List Int).map (Value.int .i64)) from Own.nil) (by simp)
  have HI := Lib.hid hi
  clear hi
  by_cases her : er = 0
  · have hok : errCopy s c = 0 := by rw [HE.out]; exact her
    obtain ⟨he0, hlen, hwo, hb0, hb1, hb2, hp1, -⟩ := errCopy_ok hok
    have hwn : s.words.length ≤ 40 := by have := (win_iff.1 (err_ok he0).2.1).2; omega
    have hcn : (courseOf s c).open_.length ≤ 1000 := by rw [courseOf_len]; omega
    have hor := courseOf_ord hok
    have hper : (courseOf s c).per = c.per.toNat := by simp [courseOf]; omega
    have hpp : 1 ≤ c.per.toNat := by omega
    have hf0 : 0 ≤ c.fin := by omega
    have hwr : IntKind.i64.wrap (c.fin + 1) = c.fin + 1 := by rw [IntKind.wrap_i64]; omega
    have HCE := Lib.hid (fun (loops : List (Nat × LInfo)) (H' : AHeap) (hx : Ext H H') => courseOf_e (loops := loops) (HS.out.ext hx) (HC.out.ext hx) hok)
    have HEE : Hid (isClash s c = !(courseOf s c).made c.per.toNat) := Lib.hid (by rw [isClash, hok]; simp)
    have HFL : Hid (clashL s c = if isClash s c then (courseOf s c).early c.per.toNat 0 ++ [c.fin + 1] else []) := Lib.hid rfl
    have hel := first_len (courseOf s c) c.per.toNat
    generalize courseOf s c = x at hcn hor hper HCE HEE HFL hel
    generalize c.per.toNat = p at hper hpp HEE HFL hel
    have HOR := Lib.hid hor
    have HPE := Lib.hid hper
    have HEL := Lib.hid hel
    have HBG : Hid (((((x.early p 0).map (Value.int .i64)).length + [Value.int .i64 (c.fin + 1)].length) * max 8 1) ≤ 1073741824) := Lib.hid (by simp; omega)
    have HIN : Hid (∀ (G : AHeap) (b : Nat) (v : Value), Own G b v 3 1 ((x.early p 0).map (Value.int .i64) ++ [Value.int .i64 (c.fin + 1)]) → Ints G v (x.early p 0 ++ [c.fin + 1])) := Lib.hid (fun G b v h => ints_of_own (by rw [List.map_append]; exact h) (by simp; omega))
    clear he0 hlen hwo hwn hor hper hok hel
    subst her
    repeat' (first | (with_reducible first | refine CodeS.seq ?_ | refine CodeS.region_k fun K hK => ?_ | refine opsP_go fun K2 hK2 => ?_ | refine Post.then_normal ?_ | refine Post.then_ret ?_ | refine Post.then_exit ?_ | refine Post.block_normal ?_ | refine Post.block_ret ?_ | refine Post.block_here ?_ | refine Post.scope_normal ?_ | refine Post.scope_ret ?_ | refine Post.scope_exit ?_ | refine Post.round_ret ?_ | refine Post.round_exit ?_ | refine CodeS.block ?_ | refine CodeS.skip ?_ | refine CodeS.ret ?_ | refine CodeS.exit ?_ | refine CodeS.scope ?_ | refine CodeS.label ?_) | ((with_reducible refine opsP_nil (hK _ _ ?_)); clear hK K) | ((with_reducible refine opsP_gd ?hj ?hlt fun K1 K3 d hdst h1 h3 => ?_); (case hj => rfl); (case hlt => exact Nat.le_of_ble_eq_true rfl); cases hdst; go_simp) | ((with_reducible refine CodeS.cond_k fun K1 K3 h1 h3 => ?_); go_simp) | (refine h1 ?_; clear h1 h3 K1 K3) | (refine h3 ?_; clear h1 h3 K1 K3) | ((refine Either.mk (fun hb => h1 ?_) (fun hb => h3 ?_)) <;> (clear h1 h3 K1 K3; (try have hb2 := of_decide hb); (try have hb2 := of_not_decide_lt hb); (try have hb2 := of_not_decide_le hb); (try have hb2 := of_not_decide_ltN hb); (try have hb2 := of_not_decide_leN hb))) | ((refine Either.mk (fun hb => h3 ?_) (fun hb => h1 ?_)) <;> (clear h1 h3 K1 K3; (try have hb2 := of_decide hb); (try have hb2 := of_not_decide_lt hb); (try have hb2 := of_not_decide_le hb); (try have hb2 := of_not_decide_ltN hb); (try have hb2 := of_not_decide_leN hb))) | (refine fun (K2 : _ → AHeap → Prop) hK2 => ?_) | ((with_reducible refine Post.block_off ?hn ?_); (case hn => decide)) | ((with_reducible first | refine Post.body_k ?hd (fun K hK => ?_) | refine Post.body_kn ?hd (fun K hK => ?_)); (case hd => (go_simp; done)); go_simp; refine hK _ _ ?_; clear hK K) | ((with_reducible refine CodeS.tree_lit mixed rfl ?hok 20 fun K0 hK0 => ?_); (case hok => kernel_rfl)) | (with_reducible first | exact loudsP_nil | exact stableP_nil | refine treeP_lit ?_ | refine passP_nil ?_ | refine stableP_keep ?_) | ((with_reducible first | refine passP_skip ?h1 ?_ | refine loudsP_skip ?h1 ?_ | refine stepT_more ?h1 ?_); (case h1 => rfl)) | ((with_reducible refine stepT_done ?h1 ?_); (case h1 => rfl); refine hK0 _ _ ?_; clear hK0 K0) | ((with_reducible refine passP_loud ?h1 ?hg ?hl ?_); (case h1 => rfl); (case hg => rfl); (case hl => rfl)) | ((with_reducible refine passP_q ?h1 ?hl ?hlt fun K2 hK2 => ?_); (case h1 => rfl); (case hl => rfl); (case hlt => exact Nat.le_of_ble_eq_true rfl)) | ((with_reducible refine passP_g ?h1 ?hj ?hl ?hlt fun K1 K3 d hdst h1 h3 => ?_); (case h1 => rfl); (case hj => rfl); (case hl => rfl); (case hlt => exact Nat.le_of_ble_eq_true rfl); cases hdst; go_simp) | ((with_reducible refine passP_lg ?h1 ?hj ?hl ?hlt fun K1 K3 d hdst h1 h3 => ?_); (case h1 => rfl); (case hj => rfl); (case hl => rfl); (case hlt => exact Nat.le_of_ble_eq_true rfl); cases hdst; go_simp) | ((with_reducible refine loudsP_c ?h1 ?hlt (fun K2 hK2 => ?_) ?_); (case h1 => rfl); (case hlt => exact Nat.le_of_ble_eq_true rfl)) | ((with_reducible refine loudsP_cg ?h1 ?hlt ?hj ?hw (fun K2 hK2 => ?_) ?_); (case h1 => rfl); (case hlt => exact Nat.le_of_ble_eq_true rfl); (case hj => rfl); (case hw => (go_simp; done))) | ((with_reducible refine loudsP_v ?h1 ?hv ?hlt (fun K2 hK2 => ?_) ?_); (case h1 => rfl); (case hv => rfl); (case hlt => exact Nat.le_of_ble_eq_true rfl)) | ((with_reducible refine loudsP_u ?h1 ?hv (fun K2 hK2 => ?_) ?_); (case h1 => rfl); (case hv => rfl)) | ((with_reducible refine stableP_pre ?h1 ?_); (case h1 => (first | rfl | (dsimp only; decide +kernel)))) | ((with_reducible refine stableP_re ?h1 ?_); (case h1 => (go_simp; done))) | (go_simp; (try go_bits); (try first | ((with_reducible show CallS _ _ _ _ _ _); refine CallS.mono (checkCopy_s (s := s) (c := c) (HS.out.ext HX1.out) (HC.out.ext HX1.out)) ?_; rintro _ _ ⟨rfl, h9⟩; rw [h9, HE.out]; clear h9) | ((with_reducible show CallS _ _ _ _ _ _); refine CallS.mono (HCE.out _ _ HX1.out) ?_; rintro xv H1 ⟨hcv, hx⟩; (have HCV := Lib.hid hcv); (have HX2 := Lib.hid (HX1.out.trans hx)); (obtain ⟨ov, rfl, hov⟩ := hcv); (obtain ⟨hol, oa, oc, rfl⟩ := hov.slice); (have hn1 : H.n + 2 ≤ H1.n := by have := hx.n; simp only [AHeap.n_push] at this; omega); (have hcs2 : cellsAt H1 (H.n + 1) 0 4 = some [Value.slice ca c.words.length cc, .int .i64 c.beg, .int .i64 c.fin, .int .i64 c.per] := by rw [hx.cellsAt (by simp only [AHeap.n_push]; omega), ← AHeap.n_push H, cellsAt_new]; rfl); (have hcc1 : cellAt H1 (H.n + 1) 2 = some (.int .i64 c.fin) := by rw [hx.cellAt (by simp only [AHeap.n_push]; omega), ← AHeap.n_push H, cellAt_new]; rfl); (have hlt1 : H.n + 1 < H1.n := by omega); (have hcb : cellsAt ((H1.push (.row [Value.slice oa x.open_.length oc, .int .i64 x.per] 118)).push (.row [.int .i64 (c.fin + 1)] 3)) H1.n 0 2 = some [Value.slice oa x.open_.length oc, .int .i64 x.per] := by rw [cellsAt_old (by rw [AHeap.n_push]; omega), cellsAt_new]; rfl); clear hov hx) | ((with_reducible show CallS _ _ _ _ _ _); refine CallS.mono (canBeMade_s (x := x) (p := p) (HCV.out.ext (Ext.push _)) HOR.out HPE.out hpp hcn) ?_; rintro _ _ ⟨rfl, h9⟩; rw [h9]; clear h9) | ((with_reducible show CallS _ _ _ _ _ _); refine CallS.mono (earliest_e (x := x) (p := p) (HCV.out.ext (Ext.push _)) HOR.out HPE.out hpp hcn) ?_; rintro ev H2 ⟨he, hx⟩; (have HEO := Lib.hid he); (have HX3 := Lib.hid ((HX2.out.push' _).trans hx)); (have hn2 : H1.n + 1 ≤ H2.n := by have := hx.n; rw [AHeap.n_push] at this; omega); (obtain ⟨ea, en, rfl⟩ := own_slice he); (have hcc2 : cellAt H2 (H.n + 1) 2 = some (.int .i64 c.fin) := by rw [hx.cellAt (by rw [AHeap.n_push]; omega), cellAt_old hlt1]; exact hcc1); (have hc7 : cellsAt H2 H1.n 0 2 = some [Value.slice oa x.open_.length oc, .int .i64 x.per] := by rw [hx.cellsAt (by rw [AHeap.n_push]; omega)]; simp [cellsAt, get_at (H := H1) rfl]); (have hlt2 : H1.n < H2.n := by omega); clear he hx) | ((with_reducible show CallS _ _ _ _ _ _); refine CallS.mono (earliest_e (x := x) (p := p) (HCV.out.ext ((Ext.push _).push' _)) HOR.out HPE.out hpp hcn) ?_; rintro ev H2 ⟨he, hx⟩; (have HEO := Lib.hid he); (have HX3 := Lib.hid (((HX2.out.push' _).push' _).trans hx)); (have hn2 : H1.n + 2 ≤ H2.n := by have := hx.n; simp only [AHeap.n_push] at this; omega); (obtain ⟨ea, en, rfl⟩ := own_slice he); (have hcc2 : cellAt H2 (H.n + 1) 2 = some (.int .i64 c.fin) := by rw [hx.cellAt (by simp only [AHeap.n_push]; omega), cellAt_old (by rw [AHeap.n_push]; omega), cellAt_old hlt1]; exact hcc1); (have hnw : H2.get (H1.n + 1) = .row [.int .i64 (c.fin + 1)] 3 := (hx.get _ (by simp only [AHeap.n_push]; omega)).trans (get_at (by simp only [AHeap.n_push]))); clear he hx) | ((refine one_v el22 sz3 ze3 rfl (by decide) (by decide) rfl rfl ?_); go_simp) | ((refine append_v el22 sz3 by3 ze3 rfl (by decide) (HEO.out.ext (Ext.push _)) (srcCells_new rfl) (by decide) rfl (by rw [List.all_append, oneV_list_int]; rfl) HBG.out (by simp only [AHeap.n_push]; omega) fun v4 H4 ho4 hg4 => ?_); (have HR := Lib.hid (HIN.out _ _ _ ho4)); (have HXF := Lib.hid (Grown.ext hg4 (HEO.out.ext (Ext.push _)) (by have := HX2.out.n; simp only [AHeap.n_push]; omega) (HX3.out.push' _))); clear ho4 hg4; go_simp) | ((refine append_v el22 sz3 by3 ze3 rfl (by decide) HEO.out (srcCells_some (by decide) (by rw [cellsAt, hnw]; rfl)) (by decide) rfl (by rw [List.all_append, oneV_list_int]; rfl) HBG.out (by simp only [AHeap.n_push]; omega) fun v4 H4 ho4 hg4 => ?_); (have HR := Lib.hid (HIN.out _ _ _ ho4)); (have HXF := Lib.hid (Grown.ext hg4 HEO.out (by have := HX2.out.n; simp only [AHeap.n_push]; omega) HX3.out)); clear ho4 hg4; go_simp)); (first | (refine hK2 _ _ ?_ ?_ <;> clear hK2 K2) | (refine hK2 _ _ ?_; clear hK2 K2))))
    · have h1 : isClash s c = false := by rw [HEE.out, hb]; rfl
      exact ⟨⟨_, by rw [h1], by rw [HFL.out, if_neg (by simp [h1])]; exact HI.out _⟩, HX2.out.push' _⟩
    all_goals
      have h1 : isClash s c = true := by rw [HEE.out, hb]; rfl
      exact ⟨⟨_, by rw [h1], by rw [HFL.out, if_pos h1]; exact HR.out⟩, HXF.out⟩
  · repeat' (first | (with_reducible first | refine CodeS.seq ?_ | refine CodeS.region_k fun K hK => ?_ | refine opsP_go fun K2 hK2 => ?_ | refine Post.then_normal ?_ | refine Post.then_ret ?_ | refine Post.then_exit ?_ | refine Post.block_normal ?_ | refine Post.block_ret ?_ | refine Post.block_here ?_ | refine Post.scope_normal ?_ | refine Post.scope_ret ?_ | refine Post.scope_exit ?_ | refine Post.round_ret ?_ | refine Post.round_exit ?_ | refine CodeS.block ?_ | refine CodeS.skip ?_ | refine CodeS.ret ?_ | refine CodeS.exit ?_ | refine CodeS.scope ?_ | refine CodeS.label ?_) | ((with_reducible refine opsP_nil (hK _ _ ?_)); clear hK K) | ((with_reducible refine opsP_gd ?hj ?hlt fun K1 K3 d hdst h1 h3 => ?_); (case hj => rfl); (case hlt => exact Nat.le_of_ble_eq_true rfl); cases hdst; go_simp) | ((with_reducible refine CodeS.cond_k fun K1 K3 h1 h3 => ?_); go_simp) | (refine h1 ?_; clear h1 h3 K1 K3) | (refine h3 ?_; clear h1 h3 K1 K3) | ((refine Either.mk (fun hb => h1 ?_) (fun hb => h3 ?_)) <;> (clear h1 h3 K1 K3; (try have hb2 := of_decide hb); (try have hb2 := of_not_decide_lt hb); (try have hb2 := of_not_decide_le hb); (try have hb2 := of_not_decide_ltN hb); (try have hb2 := of_not_decide_leN hb))) | ((refine Either.mk (fun hb => h3 ?_) (fun hb => h1 ?_)) <;> (clear h1 h3 K1 K3; (try have hb2 := of_decide hb); (try have hb2 := of_not_decide_lt hb); (try have hb2 := of_not_decide_le hb); (try have hb2 := of_not_decide_ltN hb); (try have hb2 := of_not_decide_leN hb))) | (refine fun (K2 : _ → AHeap → Prop) hK2 => ?_) | ((with_reducible refine Post.block_off ?hn ?_); (case hn => decide)) | ((with_reducible first | refine Post.body_k ?hd (fun K hK => ?_) | refine Post.body_kn ?hd (fun K hK => ?_)); (case hd => (go_simp; done)); go_simp; refine hK _ _ ?_; clear hK K) | ((with_reducible refine CodeS.tree_lit mixed rfl ?hok 20 fun K0 hK0 => ?_); (case hok => kernel_rfl)) | (with_reducible first | exact loudsP_nil | exact stableP_nil | refine treeP_lit ?_ | refine passP_nil ?_ | refine stableP_keep ?_) | ((with_reducible first | refine passP_skip ?h1 ?_ | refine loudsP_skip ?h1 ?_ | refine stepT_more ?h1 ?_); (case h1 => rfl)) | ((with_reducible refine stepT_done ?h1 ?_); (case h1 => rfl); refine hK0 _ _ ?_; clear hK0 K0) | ((with_reducible refine passP_loud ?h1 ?hg ?hl ?_); (case h1 => rfl); (case hg => rfl); (case hl => rfl)) | ((with_reducible refine passP_q ?h1 ?hl ?hlt fun K2 hK2 => ?_); (case h1 => rfl); (case hl => rfl); (case hlt => exact Nat.le_of_ble_eq_true rfl)) | ((with_reducible refine passP_g ?h1 ?hj ?hl ?hlt fun K1 K3 d hdst h1 h3 => ?_); (case h1 => rfl); (case hj => rfl); (case hl => rfl); (case hlt => exact Nat.le_of_ble_eq_true rfl); cases hdst; go_simp) | ((with_reducible refine passP_lg ?h1 ?hj ?hl ?hlt fun K1 K3 d hdst h1 h3 => ?_); (case h1 => rfl); (case hj => rfl); (case hl => rfl); (case hlt => exact Nat.le_of_ble_eq_true rfl); cases hdst; go_simp) | ((with_reducible refine loudsP_c ?h1 ?hlt (fun K2 hK2 => ?_) ?_); (case h1 => rfl); (case hlt => exact Nat.le_of_ble_eq_true rfl)) | ((with_reducible refine loudsP_cg ?h1 ?hlt ?hj ?hw (fun K2 hK2 => ?_) ?_); (case h1 => rfl); (case hlt => exact Nat.le_of_ble_eq_true rfl); (case hj => rfl); (case hw => (go_simp; done))) | ((with_reducible refine loudsP_v ?h1 ?hv ?hlt (fun K2 hK2 => ?_) ?_); (case h1 => rfl); (case hv => rfl); (case hlt => exact Nat.le_of_ble_eq_true rfl)) | ((with_reducible refine loudsP_u ?h1 ?hv (fun K2 hK2 => ?_) ?_); (case h1 => rfl); (case hv => rfl)) | ((with_reducible refine stableP_pre ?h1 ?_); (case h1 => (first | rfl | (dsimp only; decide +kernel)))) | ((with_reducible refine stableP_re ?h1 ?_); (case h1 => (go_simp; done))) | (go_simp; (try go_bits); (try first | ((with_reducible show CallS _ _ _ _ _ _); refine CallS.mono (checkCopy_s (s := s) (c := c) (HS.out.ext HX1.out) (HC.out.ext HX1.out)) ?_; rintro _ _ ⟨rfl, h9⟩; rw [h9, HE.out]; clear h9)); (first | (refine hK2 _ _ ?_ ?_ <;> clear hK2 K2) | (refine hK2 _ _ ?_; clear hK2 K2))))
    all_goals try (exact absurd (show er = 0 by simpa using ‹(er != 0) = false›) her)
    have h1 : isClash s c = false := by rw [isClash, HE.out]; simp [her]
    exact ⟨⟨_, by rw [h1], by rw [clashL, if_neg (by simp [h1])]; exact HI.out _⟩, HX1.out⟩
end Go.Proofs.Try
namespace Go.Proofs.Try
open Go Go.Am Go.RowKit Go.Co
set_option maxRecDepth 100000

/-! The law StateClashes. -/
theorem clash_cases (s : Sheet) (c : Copy) (days fl : List Int) : ((errCopy s c != 0) = true ∧ errExt s c = errCopy s c) ∨ (errCopy s c = 0 ∧ isClash s c = true ∧ errExt s c = 9 ∧ errClash s c (clashL s c) = 0 ∧ ¬ FitsOk s c days) ∨ (errCopy s c = 0 ∧ isClash s c = false ∧ errExt s c = 0 ∧ clashL s c = [] ∧ (errClash s c fl == 0) = false) := by
  by_cases h : errCopy s c = 0
  · have k := known h
    have hi : isClash s c = !(courseOf s c).made c.per.toNat := by rw [isClash, h]; simp
    cases hm : (courseOf s c).made c.per.toNat
    · have h1 : isClash s c = true := by rw [hi, hm]; rfl
      have h2 : errExt s c = 9 := by rw [k.ext, hm]; rfl
      refine .inr (.inl ⟨h, h1, h2, ?_, fun hf => by have := fit_ext hf; omega⟩)
      obtain ⟨h3, h4⟩ := (courseOf s c).clash_holds (fin := c.fin) k.ord k.p1 hm k.fin0
      have h5 := k.len
      have h6 : errFloors s c (clashL s c) = 0 := by
        rw [clashL, if_pos h1, errFloors, if_neg (by simp [h]), if_pos, if_pos h3]
        exact win_iff.2 ⟨by simp; omega, by omega⟩
      rw [errClash, if_neg (by simp [h6]), if_neg]
      rw [clashL, if_pos h1]
      have h7 := @getD_snoc ((courseOf s c).early c.per.toNat 0) (c.fin + 1)
      rw [List.length_append, List.length_singleton, Nat.add_sub_cancel, h7]
      omega
    · have h1 : isClash s c = false := by rw [hi, hm]; rfl
      have h2 : errExt s c = 0 := by rw [k.ext, hm]; rfl
      refine .inr (.inr ⟨h, h1, h2, by rw [clashL, if_neg (by simp [h1])], ?_⟩)
      rw [beq_eq_false_iff_ne]
      intro hc
      rw [errClash] at hc
      split at hc
      · rename_i h3; exact h3 hc
      · rename_i h3
        split at hc
        · cases hc
        · rename_i h4
          have h5 : errFloors s c fl = 0 := by simpa using h3
          rw [errFloors, if_neg (by simp [h])] at h5
          split at h5
          · rename_i h6
            split at h5
            · rename_i h7
              have h8 := win_iff.1 h6
              have h9 := k.len
              have := (courseOf s c).not_made k.ord k.p1 h7 (by omega) (by omega) (fun i d hi ho => (k.fin i d (by omega) ho).2) (by omega)
              rw [hm] at this; cases this
            · cases h5
          · cases h5
  · exact .inl ⟨by simpa using h, by rw [errExt, if_pos h]⟩

set_option maxHeartbeats 8000000 in
theorem law10 {H : AHeap} {sv cv xv yv : Value} {s : Sheet} {c : Copy} {xs ys : List Int} (hv : SheetV H sv s) (hc : CopyV H cv c) (hx : Ints H xv xs) (hy : Ints H yv ys) : CallS Try.prog [] 10 [sv, cv, xv, yv] H fun r _ => r = .bool true := by
  have HV := Lib.hid hv
  have HC := Lib.hid hc
  have HXI := Lib.hid hx
  have HYI := Lib.hid hy
  obtain ⟨wv, av, rfl, hw, ha⟩ := hv
  obtain ⟨hwl, wa, wc, rfl⟩ := hw.slice
  obtain ⟨hal, aa, ac, rfl⟩ := ha.slice
  obtain ⟨cv, rfl, hcw⟩ := hc
  obtain ⟨hcl, ca, cc, rfl⟩ := hcw.slice
  obtain ⟨hxl, xa, xc, rfl⟩ := hx.slice
  obtain ⟨hyl, ya, yc, rfl⟩ := hy.slice
  clear hw ha hcw hx hy
  obtain ⟨n1, b1, hv1, hb1⟩ := fitsV_form' s c xs
  have HV1 := Lib.hid hv1
  have hcase := clash_cases s c xs ys
  have HNF : Hid (¬ FitsOk s c xs → ¬ (errFits s c xs = 0 ∧ b1 = true)) := Lib.hid fun h1 h2 => h1 (hb1 h2.1 h2.2)
  have HFF := Lib.hid (fun (loops : List (Nat × LInfo)) (H' : AHeap) (hx : Ext H H') => first_e (loops := loops) (HV.out.ext hx) (HC.out.ext hx))
  have HCL := Lib.hid (fun (loops : List (Nat × LInfo)) (H' : AHeap) (hx : Ext H H') => clash_e (loops := loops) (HV.out.ext hx) (HC.out.ext hx))
  have HCF := Lib.hid (fun (loops : List (Nat × LInfo)) (H' : AHeap) (hx : Ext H H') => checkClash_s (loops := loops) (HV.out.ext hx) (HC.out.ext hx) (HYI.out.ext hx))
  have HCF1 := Lib.hid (fun (loops : List (Nat × LInfo)) (H' : AHeap) (v : Value) (hx : Ext H H') (hi : Ints H' v (clashL s c)) => checkClash_s (loops := loops) (HV.out.ext hx) (HC.out.ext hx) hi)
  have HFX := Lib.hid (fun (loops : List (Nat × LInfo)) (H' : AHeap) (hx : Ext H H') => fits_s (loops := loops) (HV.out.ext hx) (HC.out.ext hx) (HXI.out.ext hx))
  clear hv1 hb1
  generalize FitsOk s c xs = FO at hcase HNF
  generalize errFits s c xs = ef at HV1 HNF
  generalize errClash s c ys = kf at hcase HCF
  generalize errClash s c (clashL s c) = kc at hcase HCF1
  generalize errExt s c = er at hcase HFF
  generalize errCopy s c = ec at hcase HCL
  generalize isClash s c = ic at hcase HCL
  generalize clashL s c = L1 at hcase HCL HCF1
  generalize firstL s c = L2 at HFF
  refine CallS.enter' Try.func10 rfl Try.ntmps10 (by simp) fun f hd hf => ?_
  have f0 := hf 0
  have f1 := hf 1
  have f2 := hf 2
  have f3 := hf 3
  simp at f0 f1 f2 f3
  clear hf
  have HX1 : Hid (Ext H ((H.push (.row [Value.slice wa s.words.length wc, Value.slice aa s.alts.length ac] 25)).push (.row [Value.slice ca c.words.length cc, .int .i64 c.beg, .int .i64 c.fin, .int .i64 c.per] 27))) := Lib.hid (((Ext.refl _).push' _).push' _)
  rcases hcase with ⟨hec, rfl⟩ | ⟨rfl, rfl, rfl, rfl, hnf⟩ | ⟨rfl, rfl, rfl, rfl, hkf⟩ <;>
  repeat' (first | (with_reducible first | refine CodeS.seq ?_ | refine CodeS.region_k fun K hK => ?_ | refine opsP_go fun K2 hK2 => ?_ | refine Post.then_normal ?_ | refine Post.then_ret ?_ | refine Post.then_exit ?_ | refine Post.block_normal ?_ | refine Post.block_ret ?_ | refine Post.block_here ?_ | refine Post.scope_normal ?_ | refine Post.scope_ret ?_ | refine Post.scope_exit ?_ | refine Post.round_ret ?_ | refine Post.round_exit ?_ | refine CodeS.block ?_ | refine CodeS.skip ?_ | refine CodeS.ret ?_ | refine CodeS.exit ?_ | refine CodeS.scope ?_ | refine CodeS.label ?_) | ((with_reducible refine opsP_nil (hK _ _ ?_)); clear hK K) | ((with_reducible refine opsP_gd ?hj ?hlt fun K1 K3 d hdst h1 h3 => ?_); (case hj => rfl); (case hlt => exact Nat.le_of_ble_eq_true rfl); cases hdst; go_simp) | ((with_reducible refine CodeS.cond_k fun K1 K3 h1 h3 => ?_); go_simp) | (refine h1 ?_; clear h1 h3 K1 K3) | (refine h3 ?_; clear h1 h3 K1 K3) | ((refine Either.mk (fun hb => h1 ?_) (fun hb => h3 ?_)) <;> (clear h1 h3 K1 K3; (try have hb2 := of_decide hb); (try have hb2 := of_not_decide_lt hb); (try have hb2 := of_not_decide_le hb); (try have hb2 := of_not_decide_ltN hb); (try have hb2 := of_not_decide_leN hb))) | ((refine Either.mk (fun hb => h3 ?_) (fun hb => h1 ?_)) <;> (clear h1 h3 K1 K3; (try have hb2 := of_decide hb); (try have hb2 := of_not_decide_lt hb); (try have hb2 := of_not_decide_le hb); (try have hb2 := of_not_decide_ltN hb); (try have hb2 := of_not_decide_leN hb))) | (refine fun (K2 : _ → AHeap → Prop) hK2 => ?_) | ((with_reducible refine Post.block_off ?hn ?_); (case hn => decide)) | ((with_reducible first | refine Post.body_k ?hd (fun K hK => ?_) | refine Post.body_kn ?hd (fun K hK => ?_)); (case hd => (go_simp; done)); go_simp; refine hK _ _ ?_; clear hK K) | ((with_reducible refine CodeS.tree_lit mixed rfl ?hok 20 fun K0 hK0 => ?_); (case hok => kernel_rfl)) | (with_reducible first | exact loudsP_nil | exact stableP_nil | refine treeP_lit ?_ | refine passP_nil ?_ | refine stableP_keep ?_) | ((with_reducible first | refine passP_skip ?h1 ?_ | refine loudsP_skip ?h1 ?_ | refine stepT_more ?h1 ?_); (case h1 => rfl)) | ((with_reducible refine stepT_done ?h1 ?_); (case h1 => rfl); refine hK0 _ _ ?_; clear hK0 K0) | ((with_reducible refine passP_loud ?h1 ?hg ?hl ?_); (case h1 => rfl); (case hg => rfl); (case hl => rfl)) | ((with_reducible refine passP_q ?h1 ?hl ?hlt fun K2 hK2 => ?_); (case h1 => rfl); (case hl => rfl); (case hlt => exact Nat.le_of_ble_eq_true rfl)) | ((with_reducible refine passP_g ?h1 ?hj ?hl ?hlt fun K1 K3 d hdst h1 h3 => ?_); (case h1 => rfl); (case hj => rfl); (case hl => rfl); (case hlt => exact Nat.le_of_ble_eq_true rfl); cases hdst; go_simp) | ((with_reducible refine passP_lg ?h1 ?hj ?hl ?hlt fun K1 K3 d hdst h1 h3 => ?_); (case h1 => rfl); (case hj => rfl); (case hl => rfl); (case hlt => exact Nat.le_of_ble_eq_true rfl); cases hdst; go_simp) | ((with_reducible refine loudsP_c ?h1 ?hlt (fun K2 hK2 => ?_) ?_); (case h1 => rfl); (case hlt => exact Nat.le_of_ble_eq_true rfl)) | ((with_reducible refine loudsP_cg ?h1 ?hlt ?hj ?hw (fun K2 hK2 => ?_) ?_); (case h1 => rfl); (case hlt => exact Nat.le_of_ble_eq_true rfl); (case hj => rfl); (case hw => (go_simp; done))) | ((with_reducible refine loudsP_v ?h1 ?hv ?hlt (fun K2 hK2 => ?_) ?_); (case h1 => rfl); (case hv => rfl); (case hlt => exact Nat.le_of_ble_eq_true rfl)) | ((with_reducible refine loudsP_u ?h1 ?hv (fun K2 hK2 => ?_) ?_); (case h1 => rfl); (case hv => rfl)) | ((with_reducible refine stableP_pre ?h1 ?_); (case h1 => (first | rfl | (dsimp only; decide +kernel)))) | ((with_reducible refine stableP_re ?h1 ?_); (case h1 => (go_simp; done))) | (go_simp; (try go_bits); (try first | ((with_reducible show CallS _ _ _ _ _ _); refine CallS.mono head_s ?_; rintro _ _ ⟨rfl, h9⟩; rw [h9]; clear h9; go_simp) | ((with_reducible show CallS _ _ _ _ _ _); refine CallS.mono (few_s (s := s) (HV.out.ext HX1.out)) ?_; rintro _ _ ⟨rfl, h9⟩; rw [h9]; clear h9; go_simp) | ((with_reducible show CallS _ _ _ _ _ _); refine CallS.mono (brief_s (c := c) (HC.out.ext HX1.out)) ?_; rintro _ _ ⟨rfl, h9⟩; rw [h9]; clear h9; go_simp) | ((with_reducible show CallS _ _ _ _ _ _); refine CallS.mono (HCL.out _ _ HX1.out) ?_; rintro _ H2 ⟨⟨fv, rfl, hi⟩, hx⟩; (have HF := Lib.hid hi); (obtain ⟨-, fa, fc, rfl⟩ := hi.slice); (have HX2 := Lib.hid (HX1.out.trans hx)); (have hcs1 : cellsAt H2 H.n 0 2 = some [Value.slice wa s.words.length wc, Value.slice aa s.alts.length ac] := by rw [hx.cellsAt (by simp only [AHeap.n_push]; omega), cellsAt_old (by rw [AHeap.n_push]; omega), cellsAt_new]; rfl); (have hcs2 : cellsAt H2 (H.n + 1) 0 4 = some [Value.slice ca c.words.length cc, .int .i64 c.beg, .int .i64 c.fin, .int .i64 c.per] := by rw [hx.cellsAt (by simp only [AHeap.n_push]; omega), ← AHeap.n_push H, cellsAt_new]; rfl); (have hn2 : H.n + 2 ≤ H2.n := by have := hx.n; simp only [AHeap.n_push] at this; omega); clear hi hx; go_simp) | ((with_reducible show CallS _ _ _ _ _ _); refine CallS.mono (HFF.out _ _ HX2.out) ?_; rintro _ H3 ⟨⟨lv, rfl, hi⟩, hx⟩; (have HF3 := Lib.hid (HF.out.ext hx)); (obtain ⟨-, la, lc, rfl⟩ := hi.slice); (have HX3 := Lib.hid (HX2.out.trans hx)); (have hcs13 : cellsAt H3 H.n 0 2 = some [Value.slice wa s.words.length wc, Value.slice aa s.alts.length ac] := by rw [hx.cellsAt (by omega)]; exact hcs1); (have hcs23 : cellsAt H3 (H.n + 1) 0 4 = some [Value.slice ca c.words.length cc, .int .i64 c.beg, .int .i64 c.fin, .int .i64 c.per] := by rw [hx.cellsAt (by omega)]; exact hcs2); clear hi hx; go_simp) | ((with_reducible show CallS _ _ _ _ _ _); refine CallS.mono (HFX.out _ _ HX3.out) ?_; rintro _ _ ⟨rfl, h9⟩; rw [h9, HV1.out]; clear h9; go_simp) | ((with_reducible show CallS _ _ _ _ _ _); refine CallS.mono (HCF.out _ _ HX3.out) ?_; rintro _ _ ⟨rfl, h9⟩; rw [h9]; clear h9; go_simp) | ((with_reducible show CallS _ _ _ _ _ _); refine CallS.mono (HCF1.out _ _ _ HX3.out HF3.out) ?_; rintro _ _ ⟨rfl, h9⟩; rw [h9]; clear h9; go_simp) | ((refine neqB_k (by first | (go_simp; done) | (go_simp; rfl)) (by first | (go_simp; done) | (go_simp; rfl)) ?_); go_simp)); (first | (refine hK2 _ _ ?_ ?_ <;> clear hK2 K2) | (refine hK2 _ _ ?_; clear hK2 K2))))
  all_goals try rfl
  all_goals
    exfalso
    have h1 : ef = 0 := by simpa using ‹(ef != 0) = false›
    have h2 : b1 = true := by simpa using ‹(!b1) = false›
    exact HNF.out hnf ⟨h1, h2⟩
end Go.Proofs.Try
namespace Go.Proofs.Try
open Go.ChangeShapes Go.WideShapes Go.ChangeAt Go.RowKit Go.Joins Go.Deep Go.Am
set_option maxRecDepth 100000

/-! What an argument holds, as the walk wants it. -/

section
variable {H : Type} {enc : TypeId × Value → H} {P : Program} {w : World} {base : Nat} {spare : Nat → Bool} {held : Bool}
theorem open_slice_fields {t e : TypeId} {fs : Array Field} {fuel : Nat} {cs : List Value} {x : DataW H × List MemPlace} (ht : P.underlying t = some (.slice e)) (he : P.underlying e = some (.struct fs))
    (hone : oneCellFields P fs = true) (hC : P.cellsOf e = fs.size) (h : DataW.trod enc P w base spare held fuel t cs = some x) :
    (cs = [.slice none 0 0] ∧ x = (.nil, [])) ∨
    ∃ (a : Addr) (len cap m : Nat) (D : Nat → DataW H) (Pl : Nat → List MemPlace), cs = [.slice (some a) len cap] ∧ base ≤ a.block ∧ len ≤ cap ∧ cap ≤ maxLen ∧ m = (if spare a.block then cap else len) ∧
      x = (.slice ((List.range len).map D) ((List.range (m - len)).map fun j => D (len + j)), MemPlace.row a (m * fs.size) ++ (List.range m).flatMap Pl) ∧
      ∀ i, i < m → ∃ (ys : List (DataW H × List MemPlace)) (n : Nat), D i = .agg (ys.map (·.1)) ∧ Pl i = ys.flatMap (·.2) ∧ ys.length = fs.size ∧
        ∀ (j : Nat) (f : Field), fs[j]? = some f → ∃ (v : Value) (y : DataW H × List MemPlace), w.cell? (a.add (i * fs.size + j)) = some v ∧ ys[j]? = some y ∧ DataW.trod enc P w base spare held n f.type [v] = some y := by
  rcases open_slice ht h with h0 | ⟨a, len, cap, m, n, D, Pl, hcs, hb, hl, hm, hmm, hx, hi⟩
  · exact .inl h0
  · refine .inr ⟨a, len, cap, m, D, Pl, hcs, hb, hl, hm, hmm, by rw [hC] at hx; exact hx, fun i him => ?_⟩
    obtain ⟨cs', hc, ht'⟩ := hi i him
    rw [hC] at hc
    obtain ⟨ys, n', hn', hy, hlen, hyl, hf⟩ := DataW.trod_struct he ht'
    obtain ⟨_, hcl, hat⟩ := World.cells?_some hc
    simp only [Prod.mk.injEq] at hy
    refine ⟨ys, n', hy.1, hy.2, hyl, fun j f hj => ?_⟩
    obtain ⟨ho, hk⟩ := hone_of hone j f hj
    have hjl : j < fs.size := (Array.getElem?_eq_some_iff.1 hj).1
    have hcell := hat j hjl
    have hv : cs'[j]? = some (cs'[j]'(by omega)) := List.getElem?_eq_getElem (by omega)
    have h1 := hf j f hj
    rw [ho, hk] at h1
    have hone' : (cs'.drop j).take 1 = [cs'[j]'(by omega)] := by
      rw [List.drop_eq_getElem_cons (by omega)]
      rfl
    rw [hone'] at h1
    have hys : ys[j]? = some (ys[j]'(by omega)) := List.getElem?_eq_getElem (by omega)
    refine ⟨_, _, ?_, hys, h1.trans hys⟩
    rw [← Go.Deep.add_add, hcell, hv]
end
theorem add_at (b o j : Nat) : (⟨b, o, none⟩ : Addr).add j = ⟨b, o + j, none⟩ := by
  unfold Addr.add
  split
  · rename_i h; subst h; rfl
  · rfl
theorem cell_lt {w : World} {p : Addr} {v : Value} (h : w.cell? p = some v) : p.block < w.heap.size := by
  rcases Nat.lt_or_ge p.block w.heap.size with hlt | hge
  · exact hlt
  · unfold World.cell? at h
    rw [Array.getElem?_eq_none hge] at h
    cases h
theorem cell_spot {w : World} {p : Addr} {v : Value} (h : w.cell? p = some v) : p.spot = none := by
  unfold World.cell? at h
  split at h
  · split at h
    · cases h
    · rename_i h0; simpa using h0
  · cases h

theorem slice_abs {w : World} {a : Addr} {len cap size d : Nat} {us : List Value} (hl : len ≤ cap) (hc : len ≤ 9223372036854775807) (hus : us.length = len * size) (hsz : 0 < size) (hplain : ∀ (j : Nat) (u : Value), us[j]? = some u → absV w.heap.size 8 u = u) (hcell : ∀ (j : Nat) (u : Value), us[j]? = some u → w.cell? (a.add j) = some u) : Cells (absH w) (absV w.heap.size (d + 1) (.slice (some a) len cap)) size len us := by
  by_cases h0 : len = 0
  · subst h0
    simp only [absV]
    split
    · exact ⟨hus, hc, _, _, rfl, by omega⟩
    · rw [if_pos trivial]; exact ⟨hus, hc, _, _, rfl, by omega⟩
  · have hpos : 0 < us.length := by rw [hus]; exact Nat.mul_pos (by omega) hsz
    have h1 := hcell 0 _ (List.getElem?_eq_getElem hpos)
    have e0 : a.add 0 = a := by unfold Addr.add; rw [if_pos rfl]
    rw [e0] at h1
    have hsp := cell_spot h1
    have hlt := cell_lt h1
    obtain ⟨b, o, sp⟩ := a
    simp only at hsp hlt
    subst hsp
    simp only [absV]
    rw [if_pos ⟨trivial, hlt, hl⟩]
    refine ⟨hus, hc, _, _, rfl, fun _ => ⟨b, o, none, rfl, by rw [absH_n]; exact hlt, fun j u hu => ?_⟩⟩
    have h2 := hcell j u hu
    rw [add_at] at h2
    rw [abs_cell h2, hplain j u hu]

section
variable {H : Type} {enc : TypeId × Value → H} {w : World}
theorem ints_abs {fuel d : Nat} {v : Value} {x : DataW H × List MemPlace} (h : DataW.trod enc Try.prog w 0 (fun _ => true) true fuel 22 [v] = some x) : ∃ xs, Ints (absH w) (absV w.heap.size (d + 1) v) xs := by
  rcases open_ints Try.underlying22 Try.underlying3 (by kernel_rfl) h with ⟨hcs, _⟩ | ⟨a, l, c, zs, hcs, _, hl, hm, hz, _, hcell, _⟩
  · injection hcs with hcs _
    subst hcs
    exact ⟨[], rfl, by simp, none, 0, rfl, by simp⟩
  · injection hcs with hcs _
    subst hcs
    simp only [if_true] at hz
    have hlen : (zs.take l).length = l := by rw [List.length_take]; omega
    refine ⟨zs.take l, ?_⟩
    unfold Ints
    rw [hlen]
    refine slice_abs hl (by unfold maxLen at hm; omega) (by rw [List.length_map, hlen]; omega) (by decide) (fun j u hu => ?_) (fun j u hu => ?_)
    · rw [List.getElem?_map] at hu
      obtain ⟨z, _, rfl⟩ := Option.map_eq_some_iff.1 hu
      rfl
    · rw [List.getElem?_map] at hu
      obtain ⟨z, hz1, rfl⟩ := Option.map_eq_some_iff.1 hu
      rw [List.getElem?_take] at hz1
      split at hz1
      · have hj : j < zs.length := (List.getElem?_eq_some_iff.1 hz1).1
        rw [hcell j hj, List.getD_eq_getElem?_getD, hz1]
        rfl
      · cases hz1

theorem alts_abs {fuel d : Nat} {v : Value} {x : DataW H × List MemPlace} (h : DataW.trod enc Try.prog w 0 (fun _ => true) true fuel 23 [v] = some x) : ∃ l, Alts (absH w) (absV w.heap.size (d + 1) v) l := by
  rcases open_slice_fields Try.underlying23 Try.underlying61 (by kernel_rfl) (by kernel_rfl) h with ⟨hcs, _⟩ | ⟨a, len, cap, m, D, Pl, hcs, _, hl, hm, hmm, _, hf⟩
  · injection hcs with hcs _
    subst hcs
    exact ⟨[], rfl, by simp, none, 0, rfl, by simp⟩
  · injection hcs with hcs _
    subst hcs
    simp only [if_true] at hmm
    have hq : ∀ i, i < len → ∃ q : Alt, ∀ j u, q.cells[j]? = some u → w.cell? (a.add (i * 6 + j)) = some u := by
      intro i hi
      obtain ⟨ys, n, _, _, _, hj⟩ := hf i (by omega)
      obtain ⟨v0, y0, hc0, _, ht0⟩ := hj 0 _ rfl
      obtain ⟨v1, y1, hc1, _, ht1⟩ := hj 1 _ rfl
      obtain ⟨v2, y2, hc2, _, ht2⟩ := hj 2 _ rfl
      obtain ⟨v3, y3, hc3, _, ht3⟩ := hj 3 _ rfl
      obtain ⟨v4, y4, hc4, _, ht4⟩ := hj 4 _ rfl
      obtain ⟨v5, y5, hc5, _, ht5⟩ := hj 5 _ rfl
      obtain ⟨z0, hz0, _, _⟩ := DataW.trod_int Try.underlying3 ht0
      obtain ⟨z1, hz1, _, _⟩ := DataW.trod_int Try.underlying3 ht1
      obtain ⟨z2, hz2, _, _⟩ := DataW.trod_int Try.underlying3 ht2
      obtain ⟨z3, hz3, _, _⟩ := DataW.trod_int Try.underlying3 ht3
      obtain ⟨z4, hz4, _, _⟩ := DataW.trod_int Try.underlying3 ht4
      obtain ⟨z5, hz5, _, _⟩ := DataW.trod_int Try.underlying3 ht5
      injection hz0 with hz0 _
      injection hz1 with hz1 _
      injection hz2 with hz2 _
      injection hz3 with hz3 _
      injection hz4 with hz4 _
      injection hz5 with hz5 _
      subst hz0 hz1 hz2 hz3 hz4 hz5
      refine ⟨⟨z0, z1, z2, z3, z4, z5⟩, fun j u hu => ?_⟩
      match j, hu with
      | 0, hu => cases hu; exact hc0
      | 1, hu => cases hu; exact hc1
      | 2, hu => cases hu; exact hc2
      | 3, hu => cases hu; exact hc3
      | 4, hu => cases hu; exact hc4
      | 5, hu => cases hu; exact hc5
      | j + 6, hu => simp [Alt.cells] at hu
    obtain ⟨f, hf'⟩ := Classical.skolem.1 (fun i => show ∃ q : Alt, i < len → ∀ j u, q.cells[j]? = some u → w.cell? (a.add (i * 6 + j)) = some u by
      by_cases hi : i < len
      · obtain ⟨q, hq⟩ := hq i hi; exact ⟨q, fun _ => hq⟩
      · exact ⟨⟨0, 0, 0, 0, 0, 0⟩, fun h => absurd h hi⟩)
    have hlen : ((List.range len).map f).length = len := by simp
    refine ⟨(List.range len).map f, ?_⟩
    unfold Alts
    rw [hlen]
    have hget : ∀ j u, (altCells ((List.range len).map f))[j]? = some u → ∃ k i, k < len ∧ j = k * 6 + i ∧ (f k).cells[i]? = some u := by
      intro j u hu
      have hj : j < len * 6 := by
        have := (List.getElem?_eq_some_iff.1 hu).1
        rw [altCells_length, hlen] at this; exact this
      have hk : j / 6 < len := by omega
      have hi : j % 6 < 6 := Nat.mod_lt _ (by decide)
      have hcl : (f (j / 6)).cells.length = 6 := rfl
      have h1 := altCells_get ((List.range len).map f) (j / 6) (by rw [hlen]; exact hk) (j % 6) ((f (j / 6)).cells[j % 6]'(by rw [hcl]; exact hi)) (by simp)
      have e : j / 6 * 6 + j % 6 = j := by omega
      rw [e, hu] at h1
      refine ⟨j / 6, j % 6, hk, e.symm, ?_⟩
      rw [List.getElem?_eq_getElem (by rw [hcl]; exact hi)]
      exact h1.symm ▸ rfl
    refine slice_abs hl (by unfold maxLen at hm; omega) (by rw [altCells_length, hlen]) (by decide) (fun j u hu => ?_) (fun j u hu => ?_)
    · obtain ⟨k, i, hk, rfl, hi⟩ := hget j u hu
      match i, hi with
      | 0, hi => cases hi; rfl
      | 1, hi => cases hi; rfl
      | 2, hi => cases hi; rfl
      | 3, hi => cases hi; rfl
      | 4, hi => cases hi; rfl
      | 5, hi => cases hi; rfl
      | i + 6, hi => simp [Alt.cells] at hi
    · obtain ⟨k, i, hk, rfl, hi⟩ := hget j u hu
      exact hf' k hk i u hi
end

theorem ownOne : ownKnob Try.prog.godebug = none := by kernel_rfl
theorem laidOut : laidOutB Try.prog = true := by kernel_rfl

theorem fields25 : ∃ f0 f1 : Field, Try.prog.underlying 25 = some (.struct #[f0, f1]) ∧ f0.type = 22 ∧ f1.type = 23 ∧ f0.offset = 0 ∧ f1.offset = 1 ∧ Try.prog.cellsOf 22 = 1 ∧ Try.prog.cellsOf 23 = 1 ∧ Try.prog.cellsOf 25 = 2 :=
  ⟨(fieldOf Try.prog 25 0).getD default, (fieldOf Try.prog 25 1).getD default, by kernel_rfl, by kernel_rfl, by kernel_rfl, by kernel_rfl, by kernel_rfl, by kernel_rfl, by kernel_rfl, by kernel_rfl⟩

section
variable {H : Type} {enc : TypeId × Value → H} {w : World}
/-- A sheet among the arguments. -/
theorem sheet_abs {r : Reach} {b0 : Nat} {v : Value} {d : DataW H} {p : List MemPlace} (hval : Value.okWide Try.prog w r b0 25 v) (h : DataW.Trod enc Try.prog w 0 (fun _ => true) true 25 v d p) : ∃ s, SheetV (absH w) (absV w.heap.size 8 v) s := by
  obtain ⟨f0, f1, hu, h0, h1, h2, h3, h4, h5, h6⟩ := fields25
  obtain ⟨cs, rfl, hcs⟩ := okWide_struct hu hval
  obtain ⟨fuel, hf⟩ := h
  obtain ⟨y0, y1, n, _, _, ht0, ht1⟩ := trod_struct2 hu hf
  rw [h6] at hcs
  obtain ⟨a, b, rfl⟩ : ∃ a b, cs = #[a, b] := by
    obtain ⟨l⟩ := cs
    match l, hcs with
    | [a, b], _ => exact ⟨a, b, rfl⟩
  rw [h0, h2, h4] at ht0
  rw [h1, h3, h5] at ht1
  obtain ⟨xs, hx⟩ := ints_abs (d := 6) (v := a) (by simpa [Value.cells] using ht0)
  obtain ⟨l, hl⟩ := alts_abs (d := 6) (v := b) (by simpa [Value.cells] using ht1)
  exact ⟨⟨xs, l⟩, _, _, by simp [absV], hx, hl⟩
end

theorem fields27 : ∃ f0 f1 f2 f3 : Field, Try.prog.underlying 27 = some (.struct #[f0, f1, f2, f3]) ∧ (f0.type = 22 ∧ f1.type = 3 ∧ f2.type = 3 ∧ f3.type = 3) ∧ (f0.offset = 0 ∧ f1.offset = 1 ∧ f2.offset = 2 ∧ f3.offset = 3) ∧ Try.prog.cellsOf 22 = 1 ∧ Try.prog.cellsOf 3 = 1 ∧ Try.prog.cellsOf 27 = 4 :=
  ⟨(fieldOf Try.prog 27 0).getD default, (fieldOf Try.prog 27 1).getD default, (fieldOf Try.prog 27 2).getD default, (fieldOf Try.prog 27 3).getD default, by kernel_rfl, by refine ⟨?_, ?_, ?_, ?_⟩ <;> kernel_rfl, by refine ⟨?_, ?_, ?_, ?_⟩ <;> kernel_rfl, by kernel_rfl, by kernel_rfl, by kernel_rfl⟩
section
variable {H : Type} {enc : TypeId × Value → H} {w : World}
/-- A copy among the arguments. -/
theorem copy_abs {r : Reach} {b0 : Nat} {v : Value} {d : DataW H} {p : List MemPlace} (hval : Value.okWide Try.prog w r b0 27 v) (h : DataW.Trod enc Try.prog w 0 (fun _ => true) true 27 v d p) : ∃ c, CopyV (absH w) (absV w.heap.size 8 v) c := by
  obtain ⟨f0, f1, f2, f3, hu, ⟨t0, t1, t2, t3⟩, ⟨o0, o1, o2, o3⟩, h4, h5, h6⟩ := fields27
  obtain ⟨cs, rfl, hcs⟩ := okWide_struct hu hval
  obtain ⟨fuel, hf⟩ := h
  obtain ⟨xs, n, _, _, _, _, ht⟩ := DataW.trod_struct hu hf
  rw [h6] at hcs
  obtain ⟨a, b, c, e, rfl⟩ : ∃ a b c e, cs = #[a, b, c, e] := by
    obtain ⟨l⟩ := cs
    match l, hcs with
    | [a, b, c, e], _ => exact ⟨a, b, c, e, rfl⟩
  have ht0 := ht 0 f0 rfl
  have ht1 := ht 1 f1 rfl
  have ht2 := ht 2 f2 rfl
  have ht3 := ht 3 f3 rfl
  rw [t0, o0, h4] at ht0
  rw [t1, o1, h5] at ht1
  rw [t2, o2, h5] at ht2
  rw [t3, o3, h5] at ht3
  have hlen : xs.length = 4 := by assumption
  rw [List.getElem?_eq_getElem (by omega)] at ht0 ht1 ht2 ht3
  obtain ⟨ws, hx⟩ := ints_abs (d := 6) (v := a) (by simpa [Value.cells] using ht0)
  obtain ⟨z1, hz1, _, _⟩ := DataW.trod_int Try.underlying3 (show DataW.trod enc Try.prog w 0 (fun _ => true) true n 3 [b] = _ by simpa [Value.cells] using ht1)
  obtain ⟨z2, hz2, _, _⟩ := DataW.trod_int Try.underlying3 (show DataW.trod enc Try.prog w 0 (fun _ => true) true n 3 [c] = _ by simpa [Value.cells] using ht2)
  obtain ⟨z3, hz3, _, _⟩ := DataW.trod_int Try.underlying3 (show DataW.trod enc Try.prog w 0 (fun _ => true) true n 3 [e] = _ by simpa [Value.cells] using ht3)
  injection hz1 with hz1 _
  injection hz2 with hz2 _
  injection hz3 with hz3 _
  subst hz1 hz2 hz3
  exact ⟨⟨ws, z1, z2, z3⟩, _, by simp [absV], hx⟩
/-- Numbers among the arguments. -/
theorem list_abs {r : Reach} {b0 : Nat} {v : Value} {d : DataW H} {p : List MemPlace} (hval : Value.okWide Try.prog w r b0 22 v) (h : DataW.Trod enc Try.prog w 0 (fun _ => true) true 22 v d p) : ∃ xs, Ints (absH w) (absV w.heap.size 8 v) xs := by
  obtain ⟨a, len, cap, rfl⟩ := okWide_slice Try.underlying22 hval
  obtain ⟨fuel, hf⟩ := h
  exact ints_abs (d := 7) hf
end
end Go.Proofs.Try
