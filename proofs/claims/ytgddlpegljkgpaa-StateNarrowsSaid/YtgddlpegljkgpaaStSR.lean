/- Contracts of functions, walked. -/
import Derived.Test.YtgddlpegljkgpaaChecked
import Derived.Test.YtgddlpegljkgpaaRows
import Derived.Below
import Derived.Carry
import Derived.Deep.Slices
import Derived.Deep.Fields
import Derived.ChangeSame
import Derived.ProofKit
import Derived.OpenShut
import Derived.ShutString
import Derived.ChangeOld
import Derived.Lib.SmallJoins
import Derived.Test.YtgddlpegljkgpaaStSO
import Derived.Test.YtgddlpegljkgpaaStTV
import Derived.Test.YtgddlpegljkgpaaStTG
import Derived.Test.YtgddlpegljkgpaaAmS
import Derived.Test.YtgddlpegljkgpaaStSL
set_option linter.all false
namespace Go.Proofs.Try
open Go Go.Am Go.RowKit Go.Co
set_option maxRecDepth 100000

/-! Fits. -/
def fitAt (x : Course) (p : Nat) (days : List Int) (i : Nat) : Bool := ins (x.at_ i) (days.getD i 0) && decide (lowL p days i ≤ days.getD i 0)
def fitFrom (x : Course) (p : Nat) (days : List Int) : Nat → Nat → Option Nat
  | 0, _ => none
  | r + 1, i => if fitAt x p days i = true then fitFrom x p days r (i + 1) else some i
theorem fitFrom_none {x : Course} {p : Nat} {days : List Int} : ∀ (r i : Nat), fitFrom x p days r i = none ↔ ∀ j, i ≤ j → j < i + r → fitAt x p days j = true
  | 0, i => by simp [fitFrom]; intro j h1 h2; omega
  | r + 1, i => by
    rw [fitFrom]
    by_cases h : fitAt x p days i = true
    · rw [if_pos h, fitFrom_none r (i + 1)]
      constructor
      · intro h1 j h2 h3
        by_cases hj : j = i
        · rw [hj]; exact h
        · exact h1 j (by omega) (by omega)
      · intro h1 j h2 h3; exact h1 j (by omega) (by omega)
    · rw [if_neg h]
      constructor
      · intro h1; cases h1
      · intro h1; exact absurd (h1 i (Nat.le_refl _) (by omega)) h
def errFits (s : Sheet) (c : Copy) (days : List Int) : Int := if errCopy s c ≠ 0 then errCopy s c else if days.length = c.words.length then 0 else 1
def fitsR (s : Sheet) (c : Copy) (days : List Int) : Option Nat := fitFrom (courseOf s c) c.per.toNat days days.length 0
def fitsV (s : Sheet) (c : Copy) (days : List Int) : Value := if errFits s c days = 0 then (match fitsR s c days with | none => .tuple #[.int .i64 0, .bool true, .int .i64 0] | some i => .tuple #[.int .i64 i, .bool false, .int .i64 0]) else .tuple #[.int .i64 0, .bool false, .int .i64 (errFits s c days)]

set_option maxHeartbeats 4000000 in
theorem fits_s {loops : List (Nat × LInfo)} {H : AHeap} {sv cv dv : Value} {s : Sheet} {c : Copy} {days : List Int} (hs : SheetV H sv s) (hc : CopyV H cv c) (hdv : Ints H dv days) : CallS Try.prog loops 48 [sv, cv, dv] H fun r H' => r = fitsV s c days ∧ H' = H := by
  refine CallS.forget (R := fun v => v = fitsV s c days) (by rintro v rfl; unfold fitsV; split; (split <;> rfl); rfl) ?_
  have HV := Lib.hid hs
  have HC := Lib.hid hc
  have HD := Lib.hid hdv
  obtain ⟨wv, av, rfl, hw, ha⟩ := hs
  obtain ⟨hwl, wa, wc, rfl⟩ := hw.slice
  obtain ⟨hal, aa, ac, rfl⟩ := ha.slice
  obtain ⟨cv, rfl, hcw⟩ := hc
  obtain ⟨hcl, ca, cc, rfl⟩ := hcw.slice
  obtain ⟨hdl, da, dc, rfl⟩ := hdv.slice
  clear hw ha hcw hdv
  generalize hr : fitsV s c days = r
  have HR : Hid (r = fitsV s c days) := Lib.hid hr.symm
  clear hr
  refine CallS.enter' Try.func48 rfl Try.ntmps48 (by simp) fun f hd hf => ?_
  have f0 := hf 0
  have f1 := hf 1
  have f2 := hf 2
  simp at f0 f1 f2
  clear hf
  have HX1 : Hid (Ext H ((H.push (.row [Value.slice wa s.words.length wc, Value.slice aa s.alts.length ac] 25)).push (.row [Value.slice ca c.words.length cc, .int .i64 c.beg, .int .i64 c.fin, .int .i64 c.per] 27))) := Lib.hid (((Ext.refl _).push' _).push' _)
  repeat' (first | (with_reducible first | refine CodeS.seq ?_ | refine CodeS.region_k fun K hK => ?_ | refine opsP_go fun K2 hK2 => ?_ | refine Post.then_normal ?_ | refine Post.then_ret ?_ | refine Post.then_exit ?_ | refine Post.block_normal ?_ | refine Post.block_ret ?_ | refine Post.block_here ?_ | refine Post.scope_normal ?_ | refine Post.scope_ret ?_ | refine Post.scope_exit ?_ | refine Post.round_ret ?_ | refine Post.round_exit ?_ | refine CodeS.block ?_ | refine CodeS.skip ?_ | refine CodeS.ret ?_ | refine CodeS.exit ?_ | refine CodeS.scope ?_ | refine CodeS.label ?_) | ((with_reducible refine opsP_nil (hK _ _ ?_)); clear hK K) | ((with_reducible refine opsP_gd ?hj ?hlt fun K1 K3 d hdst h1 h3 => ?_); (case hj => rfl); (case hlt => exact Nat.le_of_ble_eq_true rfl); cases hdst; go_simp) | ((with_reducible refine CodeS.cond_k fun K1 K3 h1 h3 => ?_); go_simp) | (refine h1 ?_; clear h1 h3 K1 K3) | (refine h3 ?_; clear h1 h3 K1 K3) | ((refine Either.mk (fun hb => h1 ?_) (fun hb => h3 ?_)) <;> (clear h1 h3 K1 K3; (try have hb2 := of_decide hb); (try have hb2 := of_not_decide_lt hb); (try have hb2 := of_not_decide_le hb); (try have hb2 := of_not_decide_ltN hb); (try have hb2 := of_not_decide_leN hb))) | ((refine Either.mk (fun hb => h3 ?_) (fun hb => h1 ?_)) <;> (clear h1 h3 K1 K3; (try have hb2 := of_decide hb); (try have hb2 := of_not_decide_lt hb); (try have hb2 := of_not_decide_le hb); (try have hb2 := of_not_decide_ltN hb); (try have hb2 := of_not_decide_leN hb))) | (refine fun (K2 : _ → AHeap → Prop) hK2 => ?_) | ((with_reducible refine Post.block_off ?hn ?_); (case hn => decide)) | ((with_reducible first | refine Post.body_k ?hd (fun K hK => ?_) | refine Post.body_kn ?hd (fun K hK => ?_)); (case hd => (go_simp; done)); go_simp; refine hK _ _ ?_; clear hK K) | ((with_reducible refine CodeS.tree_lit mixed rfl ?hok 20 fun K0 hK0 => ?_); (case hok => kernel_rfl)) | (with_reducible first | exact loudsP_nil | exact stableP_nil | refine treeP_lit ?_ | refine passP_nil ?_ | refine stableP_keep ?_) | ((with_reducible first | refine passP_skip ?h1 ?_ | refine loudsP_skip ?h1 ?_ | refine stepT_more ?h1 ?_); (case h1 => rfl)) | ((with_reducible refine stepT_done ?h1 ?_); (case h1 => rfl); refine hK0 _ _ ?_; clear hK0 K0) | ((with_reducible refine passP_loud ?h1 ?hg ?hl ?_); (case h1 => rfl); (case hg => rfl); (case hl => rfl)) | ((with_reducible refine passP_q ?h1 ?hl ?hlt fun K2 hK2 => ?_); (case h1 => rfl); (case hl => rfl); (case hlt => exact Nat.le_of_ble_eq_true rfl)) | ((with_reducible refine passP_g ?h1 ?hj ?hl ?hlt fun K1 K3 d hdst h1 h3 => ?_); (case h1 => rfl); (case hj => rfl); (case hl => rfl); (case hlt => exact Nat.le_of_ble_eq_true rfl); cases hdst; go_simp) | ((with_reducible refine passP_lg ?h1 ?hj ?hl ?hlt fun K1 K3 d hdst h1 h3 => ?_); (case h1 => rfl); (case hj => rfl); (case hl => rfl); (case hlt => exact Nat.le_of_ble_eq_true rfl); cases hdst; go_simp) | ((with_reducible refine loudsP_c ?h1 ?hlt (fun K2 hK2 => ?_) ?_); (case h1 => rfl); (case hlt => exact Nat.le_of_ble_eq_true rfl)) | ((with_reducible refine loudsP_cg ?h1 ?hlt ?hj ?hw (fun K2 hK2 => ?_) ?_); (case h1 => rfl); (case hlt => exact Nat.le_of_ble_eq_true rfl); (case hj => rfl); (case hw => (go_simp; done))) | ((with_reducible refine loudsP_v ?h1 ?hv ?hlt (fun K2 hK2 => ?_) ?_); (case h1 => rfl); (case hv => rfl); (case hlt => exact Nat.le_of_ble_eq_true rfl)) | ((with_reducible refine loudsP_u ?h1 ?hv (fun K2 hK2 => ?_) ?_); (case h1 => rfl); (case hv => rfl)) | ((with_reducible refine stableP_pre ?h1 ?_); (case h1 => (first | rfl | (dsimp only; decide +kernel)))) | ((with_reducible refine stableP_re ?h1 ?_); (case h1 => (go_simp; done))) | (go_simp; (try go_bits); (try first | ((with_reducible show CallS _ _ _ _ _ _); refine CallS.mono (checkCopy_s (s := s) (c := c) (HV.out.ext HX1.out) (HC.out.ext HX1.out)) ?_; rintro _ _ ⟨rfl, h9⟩; rw [h9]; clear h9) | ((with_reducible show CallS _ _ _ _ _ _); refine CallS.mono (courseOf_e (s := s) (c := c) (HV.out.ext HX1.out) (HC.out.ext HX1.out) (by simpa using ‹(errCopy s c != 0) = false›)) ?_; rintro xv H2 ⟨hx, hx2⟩; (have HXC := Lib.hid hx); (have HX2 := Lib.hid (HX1.out.trans hx2)); (obtain ⟨ov, rfl, hov⟩ := hx); (obtain ⟨-, oa, oc, rfl⟩ := hov.slice); clear hov hx2)); (first | (refine hK2 _ _ ?_ ?_ <;> clear hK2 K2) | (refine hK2 _ _ ?_; clear hK2 K2))))
  · refine ⟨?_, HX1.out⟩
    have h1 : errCopy s c ≠ 0 := by simpa using hb
    have h2 : errFits s c days = errCopy s c := by rw [errFits, if_pos h1]
    rw [HR.out, fitsV, h2, if_neg h1]
  · refine ⟨?_, HX1.out⟩
    have h1 : errCopy s c = 0 := by simpa using ‹(errCopy s c != 0) = false›
    have h3 : ¬ days.length = c.words.length := by rw [nat_neb] at hb; simpa using hb
    have h2 : errFits s c days = 1 := by rw [errFits, if_neg (by simp [h1]), if_neg h3]
    rw [HR.out, fitsV, h2, if_neg (by decide)]
  have h1 : errCopy s c = 0 := by simpa using ‹(errCopy s c != 0) = false›
  have h3 : days.length = c.words.length := by rw [nat_neb] at hb; simpa using hb
  have h2 : errFits s c days = 0 := by rw [errFits, if_neg (by simp [h1]), if_pos h3]
  have HR2 : Hid (r = (match fitFrom (courseOf s c) c.per.toNat days days.length 0 with | none => .tuple #[.int .i64 0, .bool true, .int .i64 0] | some i => .tuple #[.int .i64 i, .bool false, .int .i64 0])) := Lib.hid (by rw [HR.out, fitsV, if_pos h2]; rfl)
  have hor := courseOf_ord h1
  obtain ⟨-, -, -, -, -, -, hp1, hp2⟩ := errCopy_ok h1
  have hper : (courseOf s c).per = ((c.per.toNat : Nat) : Int) := by show c.per = _; omega
  have hp3 : 1 ≤ c.per.toNat := by omega
  have hxl : (courseOf s c).open_.length = days.length := by rw [courseOf_len, h3]
  have HPER := Lib.hid hper
  have HXL := Lib.hid hxl
  have HOR := Lib.hid hor
  clear hper hxl hor HR h2 hp1 hp2
  clear h1 h3 HV HC
  generalize courseOf s c = x at HXC HR2 HPER HXL HOR
  generalize c.per.toNat = p at HR2 HPER hp3
  generalize hpe : x.per = pe at HXC HPER
  have HPE := Lib.hid hpe
  clear hpe
  refine CodeS.loop (fun m f H' => ∃ k : Nat, k ≤ days.length ∧ m = days.length - k ∧ f.tmp 30 = .int .i64 k ∧ f.tmp 29 = .int .i64 days.length ∧ f.tmp 28 = .slice da days.length dc ∧ f.tmp 2 = .slice da days.length dc ∧ f.tmp 10 = .pointer (some ⟨H2.n, 0, none⟩) ∧ f.defers = [] ∧ Hid (∀ j, j < k → fitAt x p days j = true) ∧ H' = H2.push (.row [Value.slice oa x.open_.length oc, .int .i64 pe] 118)) days.length ?_ ?_
  · exact ⟨0, by simp, by simp, (by first | (go_simp; done) | (go_simp; go_num; done) | assumption), (by first | (go_simp; done) | (go_simp; go_num; done) | assumption), (by first | (go_simp; done) | (go_simp; go_num; done) | assumption), (by first | (go_simp; done) | (go_simp; go_num; done) | assumption), (by first | (go_simp; done) | (go_simp; go_num; done) | assumption), (by first | (go_simp; done) | (go_simp; go_num; done) | assumption), Lib.hid (by intro j hj; omega), rfl⟩
  clear f0 f1 f2 hd f hb
  rintro m f H' ⟨k, hk, rfl, f30, f29, f28, f2, f10, hd, HF, rfl⟩
  by_cases hlt : k < days.length
  · have HLW := Lib.hid (fun (loops : List (Nat × LInfo)) => lowest_s (loops := loops) (k := k) (HXC.out.ext (Ext.push (.row [Value.slice oa x.open_.length oc, .int .i64 pe] 118))) (HD.out.ext ((HX2.out.push' _))) hk (HPE.out.trans HPER.out) hp3 (fun j hj => by
      have h := HF.out j hj
      simp only [fitAt, Bool.and_eq_true] at h
      have := ordS_ins _ (HOR.out j) _ h.1
      omega))
    have HOP := Lib.hid (fun (loops : List (Nat × LInfo)) (d : Int) => isOpen_s (loops := loops) (d := d) (HXC.out.ext (Ext.push (.row [Value.slice oa x.open_.length oc, .int .i64 pe] 118))) (show k < x.open_.length by rw [HXL.out]; exact hlt))
    obtain ⟨b, o, sp, rfl, hb, hx⟩ := (HD.out.ext HX2.out).at_ hlt
    have hgd : days.getD k 0 = days[k] := by simp [List.getD_eq_getElem?_getD, hlt]
    have HFA : Hid (fitAt x p days k = (ins (x.at_ k) days[k] && decide (lowL p days k ≤ days[k]))) := Lib.hid (by rw [fitAt, hgd])
    have HST : Hid (fitAt x p days k = false → fitFrom x p days days.length 0 = some k) := Lib.hid (fun h => by
      have go : ∀ (r i : Nat), i ≤ k → k < i + r → fitFrom x p days r i = some k := by
        intro r
        induction r with
        | zero => intro i h1 h2; omega
        | succ r ih =>
          intro i h1 h2
          rw [fitFrom]
          by_cases hik : i = k
          · subst hik; rw [if_neg (by rw [h]; simp)]
          · rw [if_pos (HF.out i (by omega))]; exact ih (i + 1) (by omega) (by omega)
      exact go days.length 0 (by omega) (by omega))
    clear hgd
    generalize lowL p days k = lw at HLW HFA
    generalize days[k] = d at hx HFA
    have hop := fun (loops : List (Nat × LInfo)) => HOP.out loops d
    generalize ins (x.at_ k) d = io at hop HFA
    have HOP2 := Lib.hid hop
    clear hop
    repeat' (first | (with_reducible first | refine CodeS.seq ?_ | refine CodeS.region_k fun K hK => ?_ | refine opsP_go fun K2 hK2 => ?_ | refine Post.then_normal ?_ | refine Post.then_ret ?_ | refine Post.then_exit ?_ | refine Post.block_normal ?_ | refine Post.block_ret ?_ | refine Post.block_here ?_ | refine Post.scope_normal ?_ | refine Post.scope_ret ?_ | refine Post.scope_exit ?_ | refine Post.round_ret ?_ | refine Post.round_exit ?_ | refine CodeS.block ?_ | refine CodeS.skip ?_ | refine CodeS.ret ?_ | refine CodeS.exit ?_ | refine CodeS.scope ?_ | refine CodeS.label ?_) | ((with_reducible refine opsP_nil (hK _ _ ?_)); clear hK K) | ((with_reducible refine opsP_gd ?hj ?hlt fun K1 K3 d hdst h1 h3 => ?_); (case hj => rfl); (case hlt => exact Nat.le_of_ble_eq_true rfl); cases hdst; go_simp) | ((with_reducible refine CodeS.cond_k fun K1 K3 h1 h3 => ?_); go_simp) | (refine h1 ?_; clear h1 h3 K1 K3) | (refine h3 ?_; clear h1 h3 K1 K3) | ((refine Either.mk (fun hb => h1 ?_) (fun hb => h3 ?_)) <;> (clear h1 h3 K1 K3; (try have hb2 := of_decide hb); (try have hb2 := of_not_decide_lt hb); (try have hb2 := of_not_decide_le hb); (try have hb2 := of_not_decide_ltN hb); (try have hb2 := of_not_decide_leN hb))) | ((refine Either.mk (fun hb => h3 ?_) (fun hb => h1 ?_)) <;> (clear h1 h3 K1 K3; (try have hb2 := of_decide hb); (try have hb2 := of_not_decide_lt hb); (try have hb2 := of_not_decide_le hb); (try have hb2 := of_not_decide_ltN hb); (try have hb2 := of_not_decide_leN hb))) | (refine fun (K2 : _ → AHeap → Prop) hK2 => ?_) | ((with_reducible refine Post.block_off ?hn ?_); (case hn => decide)) | ((with_reducible first | refine Post.body_k ?hd (fun K hK => ?_) | refine Post.body_kn ?hd (fun K hK => ?_)); (case hd => (go_simp; done)); go_simp; refine hK _ _ ?_; clear hK K) | ((with_reducible refine CodeS.tree_lit mixed rfl ?hok 20 fun K0 hK0 => ?_); (case hok => kernel_rfl)) | (with_reducible first | exact loudsP_nil | exact stableP_nil | refine treeP_lit ?_ | refine passP_nil ?_ | refine stableP_keep ?_) | ((with_reducible first | refine passP_skip ?h1 ?_ | refine loudsP_skip ?h1 ?_ | refine stepT_more ?h1 ?_); (case h1 => rfl)) | ((with_reducible refine stepT_done ?h1 ?_); (case h1 => rfl); refine hK0 _ _ ?_; clear hK0 K0) | ((with_reducible refine passP_loud ?h1 ?hg ?hl ?_); (case h1 => rfl); (case hg => rfl); (case hl => rfl)) | ((with_reducible refine passP_q ?h1 ?hl ?hlt fun K2 hK2 => ?_); (case h1 => rfl); (case hl => rfl); (case hlt => exact Nat.le_of_ble_eq_true rfl)) | ((with_reducible refine passP_g ?h1 ?hj ?hl ?hlt fun K1 K3 d hdst h1 h3 => ?_); (case h1 => rfl); (case hj => rfl); (case hl => rfl); (case hlt => exact Nat.le_of_ble_eq_true rfl); cases hdst; go_simp) | ((with_reducible refine passP_lg ?h1 ?hj ?hl ?hlt fun K1 K3 d hdst h1 h3 => ?_); (case h1 => rfl); (case hj => rfl); (case hl => rfl); (case hlt => exact Nat.le_of_ble_eq_true rfl); cases hdst; go_simp) | ((with_reducible refine loudsP_c ?h1 ?hlt (fun K2 hK2 => ?_) ?_); (case h1 => rfl); (case hlt => exact Nat.le_of_ble_eq_true rfl)) | ((with_reducible refine loudsP_cg ?h1 ?hlt ?hj ?hw (fun K2 hK2 => ?_) ?_); (case h1 => rfl); (case hlt => exact Nat.le_of_ble_eq_true rfl); (case hj => rfl); (case hw => (go_simp; done))) | ((with_reducible refine loudsP_v ?h1 ?hv ?hlt (fun K2 hK2 => ?_) ?_); (case h1 => rfl); (case hv => rfl); (case hlt => exact Nat.le_of_ble_eq_true rfl)) | ((with_reducible refine loudsP_u ?h1 ?hv (fun K2 hK2 => ?_) ?_); (case h1 => rfl); (case hv => rfl)) | ((with_reducible refine stableP_pre ?h1 ?_); (case h1 => (first | rfl | (dsimp only; decide +kernel)))) | ((with_reducible refine stableP_re ?h1 ?_); (case h1 => (go_simp; done))) | (go_simp; (try go_bits); (try first | ((with_reducible show CallS _ _ _ _ _ _); refine CallS.mono (HLW.out _) ?_; rintro _ _ ⟨rfl, rfl⟩) | ((with_reducible show CallS _ _ _ _ _ _); refine CallS.mono (HOP2.out _) ?_; rintro _ _ ⟨rfl, rfl⟩)); (first | (refine hK2 _ _ ?_ ?_ <;> clear hK2 K2) | (refine hK2 _ _ ?_; clear hK2 K2))))
    · refine ⟨?_, HX2.out.push' _⟩
      have h9 : io = false := by simpa using hb
      rw [HR2.out, HST.out (by rw [HFA.out, h9]; rfl)]
    · refine ⟨?_, HX2.out.push' _⟩
      have h9 : decide (lw ≤ d) = false := by simp; omega
      rw [HR2.out, HST.out (by rw [HFA.out, h9, Bool.and_false])]
    · refine Post.round_normal ⟨days.length - (k + 1), by omega, k + 1, by omega, rfl, (by first | (go_simp; done) | (go_simp; go_num; done) | assumption), (by first | (go_simp; done) | (go_simp; go_num; done) | assumption), (by first | (go_simp; done) | (go_simp; go_num; done) | assumption), (by first | (go_simp; done) | (go_simp; go_num; done) | assumption), (by first | (go_simp; done) | (go_simp; go_num; done) | assumption), (by first | (go_simp; done) | (go_simp; go_num; done) | assumption), Lib.hid ?_, rfl⟩
      intro j hj
      by_cases hjk : j = k
      · have h9 : decide (lw ≤ d) = true := by simp; omega
        have h8 : io = true := by simpa using ‹(!io) = false›
        rw [hjk, HFA.out, h9, h8]; rfl
      · exact HF.out j (by omega)
  · repeat' (first | (with_reducible first | refine CodeS.seq ?_ | refine CodeS.region_k fun K hK => ?_ | refine opsP_go fun K2 hK2 => ?_ | refine Post.then_normal ?_ | refine Post.then_ret ?_ | refine Post.then_exit ?_ | refine Post.block_normal ?_ | refine Post.block_ret ?_ | refine Post.block_here ?_ | refine Post.scope_normal ?_ | refine Post.scope_ret ?_ | refine Post.scope_exit ?_ | refine Post.round_ret ?_ | refine Post.round_exit ?_ | refine CodeS.block ?_ | refine CodeS.skip ?_ | refine CodeS.ret ?_ | refine CodeS.exit ?_ | refine CodeS.scope ?_ | refine CodeS.label ?_) | ((with_reducible refine opsP_nil (hK _ _ ?_)); clear hK K) | ((with_reducible refine opsP_gd ?hj ?hlt fun K1 K3 d hdst h1 h3 => ?_); (case hj => rfl); (case hlt => exact Nat.le_of_ble_eq_true rfl); cases hdst; go_simp) | ((with_reducible refine CodeS.cond_k fun K1 K3 h1 h3 => ?_); go_simp) | (refine h1 ?_; clear h1 h3 K1 K3) | (refine h3 ?_; clear h1 h3 K1 K3) | ((refine Either.mk (fun hb => h1 ?_) (fun hb => h3 ?_)) <;> (clear h1 h3 K1 K3; (try have hb2 := of_decide hb); (try have hb2 := of_not_decide_lt hb); (try have hb2 := of_not_decide_le hb); (try have hb2 := of_not_decide_ltN hb); (try have hb2 := of_not_decide_leN hb))) | ((refine Either.mk (fun hb => h3 ?_) (fun hb => h1 ?_)) <;> (clear h1 h3 K1 K3; (try have hb2 := of_decide hb); (try have hb2 := of_not_decide_lt hb); (try have hb2 := of_not_decide_le hb); (try have hb2 := of_not_decide_ltN hb); (try have hb2 := of_not_decide_leN hb))) | (refine fun (K2 : _ → AHeap → Prop) hK2 => ?_) | ((with_reducible refine Post.block_off ?hn ?_); (case hn => decide)) | ((with_reducible first | refine Post.body_k ?hd (fun K hK => ?_) | refine Post.body_kn ?hd (fun K hK => ?_)); (case hd => (go_simp; done)); go_simp; refine hK _ _ ?_; clear hK K) | ((with_reducible refine CodeS.tree_lit mixed rfl ?hok 20 fun K0 hK0 => ?_); (case hok => kernel_rfl)) | (with_reducible first | exact loudsP_nil | exact stableP_nil | refine treeP_lit ?_ | refine passP_nil ?_ | refine stableP_keep ?_) | ((with_reducible first | refine passP_skip ?h1 ?_ | refine loudsP_skip ?h1 ?_ | refine stepT_more ?h1 ?_); (case h1 => rfl)) | ((with_reducible refine stepT_done ?h1 ?_); (case h1 => rfl); refine hK0 _ _ ?_; clear hK0 K0) | ((with_reducible refine passP_loud ?h1 ?hg ?hl ?_); (case h1 => rfl); (case hg => rfl); (case hl => rfl)) | ((with_reducible refine passP_q ?h1 ?hl ?hlt fun K2 hK2 => ?_); (case h1 => rfl); (case hl => rfl); (case hlt => exact Nat.le_of_ble_eq_true rfl)) | ((with_reducible refine passP_g ?h1 ?hj ?hl ?hlt fun K1 K3 d hdst h1 h3 => ?_); (case h1 => rfl); (case hj => rfl); (case hl => rfl); (case hlt => exact Nat.le_of_ble_eq_true rfl); cases hdst; go_simp) | ((with_reducible refine passP_lg ?h1 ?hj ?hl ?hlt fun K1 K3 d hdst h1 h3 => ?_); (case h1 => rfl); (case hj => rfl); (case hl => rfl); (case hlt => exact Nat.le_of_ble_eq_true rfl); cases hdst; go_simp) | ((with_reducible refine loudsP_c ?h1 ?hlt (fun K2 hK2 => ?_) ?_); (case h1 => rfl); (case hlt => exact Nat.le_of_ble_eq_true rfl)) | ((with_reducible refine loudsP_cg ?h1 ?hlt ?hj ?hw (fun K2 hK2 => ?_) ?_); (case h1 => rfl); (case hlt => exact Nat.le_of_ble_eq_true rfl); (case hj => rfl); (case hw => (go_simp; done))) | ((with_reducible refine loudsP_v ?h1 ?hv ?hlt (fun K2 hK2 => ?_) ?_); (case h1 => rfl); (case hv => rfl); (case hlt => exact Nat.le_of_ble_eq_true rfl)) | ((with_reducible refine loudsP_u ?h1 ?hv (fun K2 hK2 => ?_) ?_); (case h1 => rfl); (case hv => rfl)) | ((with_reducible refine stableP_pre ?h1 ?_); (case h1 => (first | rfl | (dsimp only; decide +kernel)))) | ((with_reducible refine stableP_re ?h1 ?_); (case h1 => (go_simp; done))) | (go_simp; (try go_bits); (first | (refine hK2 _ _ ?_ ?_ <;> clear hK2 K2) | (refine hK2 _ _ ?_; clear hK2 K2))))
    refine ⟨?_, HX2.out.push' _⟩
    have h9 : fitFrom x p days days.length 0 = none := (fitFrom_none _ _).2 fun j _ hj => HF.out j (by omega)
    rw [HR2.out, h9]

/-! What Fits tells. -/
def FitsOk (s : Sheet) (c : Copy) (days : List Int) : Prop := errFits s c days = 0 ∧ fitsR s c days = none
def opOf (s : Sheet) (c : Copy) (i : Nat) (d : Int) : Bool := ins ((courseOf s c).at_ i) d
theorem opOf_in {s : Sheet} {c : Copy} (h : errCopy s c = 0) (i : Nat) (d : Int) (ho : opOf s c i d = true) : 0 ≤ d ∧ d ≤ 730 := ordS_ins _ (courseOf_ord h i) d ho
theorem errFits_ok {s : Sheet} {c : Copy} {days : List Int} (h : errFits s c days = 0) : errCopy s c = 0 ∧ days.length = c.words.length := by
  unfold errFits at h
  split at h
  · rename_i h1; exact absurd h h1
  · rename_i h1
    split at h
    · rename_i h2; exact ⟨by simpa using h1, h2⟩
    · cases h
theorem fitsR_iff {s : Sheet} {c : Copy} {days : List Int} : fitsR s c days = none ↔ FitTo (opOf s c) c.per.toNat days days.length := by
  unfold fitsR
  rw [fitFrom_none]
  simp only [fitAt, Bool.and_eq_true, decide_eq_true_eq, Nat.zero_add, FitTo, opOf]
  exact ⟨fun h i hi => h i (Nat.zero_le _) hi, fun h i _ hi => h i hi⟩
theorem fitsV_ok {s : Sheet} {c : Copy} {days : List Int} (h : errFits s c days = 0) (hf : FitTo (opOf s c) c.per.toNat days days.length) : fitsV s c days = .tuple #[.int .i64 0, .bool true, .int .i64 0] := by
  rw [fitsV, if_pos h, fitsR_iff.2 hf]
end Go.Proofs.Try
namespace Go.Proofs.Try
open Go Go.Am Go.RowKit Go.Co
set_option maxRecDepth 100000

/-! What days that fit tell of the ends. -/
theorem fitsV_form' (s : Sheet) (c : Copy) (days : List Int) : ∃ n b, fitsV s c days = .tuple #[.int .i64 n, .bool b, .int .i64 (errFits s c days)] ∧ (errFits s c days = 0 → b = true → FitsOk s c days) := by
  unfold fitsV FitsOk
  by_cases h : errFits s c days = 0
  · rw [if_pos h, h]
    cases hf : fitsR s c days with
    | none => exact ⟨0, true, rfl, fun _ _ => ⟨rfl, rfl⟩⟩
    | some i => exact ⟨i, false, rfl, fun _ h => by cases h⟩
  · rw [if_neg h]
    exact ⟨0, false, rfl, fun h1 => absurd h1 h⟩
/-- What is known of a copy that is right. -/
structure Known (s : Sheet) (c : Copy) (x : Course) (p n : Nat) : Prop where
  ord : x.ord
  p1 : 1 ≤ p
  len : x.open_.length = n
  n1 : 1 ≤ n
  n40 : n ≤ 40
  ext : errExt s c = if x.made p then 0 else 9
  fin : ∀ i d, i < n → x.op i d = true → c.beg ≤ d ∧ d ≤ c.fin
  fin0 : 0 ≤ c.fin ∧ c.fin ≤ 730
theorem known {s : Sheet} {c : Copy} (h : errCopy s c = 0) : Known s c (courseOf s c) c.per.toNat c.words.length := by
  obtain ⟨he0, hlen, hwo, hb0, hb1, hb2, hp1, -⟩ := errCopy_ok h
  have hwl := win_iff.1 (err_ok he0).2.1
  refine ⟨courseOf_ord h, by omega, courseOf_len s c, by omega, by omega, by rw [errExt, if_neg (by simp [h])], fun i d hi ho => ?_, by omega⟩
  have h1 := courseOf_ins h hi (d := d)
  rw [Course.op, h1] at ho
  simp only [Bool.and_eq_true, decide_eq_true_eq] at ho
  omega
theorem fitsOk_fit {s : Sheet} {c : Copy} {days : List Int} : FitsOk s c days ↔ errCopy s c = 0 ∧ (courseOf s c).fit c.per.toNat days := by
  constructor
  · rintro ⟨h1, h2⟩
    obtain ⟨h3, h4⟩ := errFits_ok h1
    exact ⟨h3, by rw [courseOf_len]; exact h4, fitsR_iff.1 h2⟩
  · rintro ⟨h1, h2, h3⟩
    rw [courseOf_len] at h2
    exact ⟨by rw [errFits, if_neg (by simp [h1]), if_pos h2], fitsR_iff.2 h3⟩
theorem fitsOk_V {s : Sheet} {c : Copy} {days : List Int} (h : FitsOk s c days) : fitsV s c days = .tuple #[.int .i64 0, .bool true, .int .i64 0] := fitsV_ok h.1 (fitsR_iff.1 h.2)
theorem errExt_ok {s : Sheet} {c : Copy} (h : errExt s c = 0) : errCopy s c = 0 ∧ (courseOf s c).made c.per.toNat = true := by
  unfold errExt at h
  split at h
  · rename_i h1; exact absurd h h1
  · rename_i h1
    split at h
    · rename_i h2; exact ⟨by simpa using h1, h2⟩
    · cases h
theorem fit_ext {s : Sheet} {c : Copy} {days : List Int} (h : FitsOk s c days) : errExt s c = 0 := by
  obtain ⟨h1, h2⟩ := fitsOk_fit.1 h
  have k := known h1
  rw [k.ext, ((courseOf s c).fit_early k.ord k.p1 h2).1]; rfl
theorem first_fits {s : Sheet} {c : Copy} (h : errExt s c = 0) : FitsOk s c (firstL s c) := by
  obtain ⟨h1, h2⟩ := errExt_ok h
  have k := known h1
  rw [firstL, if_pos h]
  exact fitsOk_fit.2 ⟨h1, (courseOf s c).early_fit k.ord k.p1 h2⟩
theorem last_fits {s : Sheet} {c : Copy} (h : errExt s c = 0) : FitsOk s c (lastL s c) := by
  obtain ⟨h1, h2⟩ := errExt_ok h
  have k := known h1
  rw [lastL, if_pos h]
  exact fitsOk_fit.2 ⟨h1, (courseOf s c).late_fit k.ord k.p1 h2⟩
theorem first_below {s : Sheet} {c : Copy} {days : List Int} (h : FitsOk s c days) : belowL (firstL s c) days days.length = true := by
  obtain ⟨h1, h2⟩ := fitsOk_fit.1 h
  have he := fit_ext h
  have k := known h1
  have h3 := (fitsOk_fit.1 (first_fits he)).2.1
  rw [firstL, if_pos he] at h3 ⊢
  exact belowL_iff.2 ⟨by have := h2.1; omega, Nat.le_refl _, ((courseOf s c).fit_early k.ord k.p1 h2).2⟩
theorem last_below {s : Sheet} {c : Copy} {days : List Int} (h : FitsOk s c days) : belowL days (lastL s c) days.length = true := by
  obtain ⟨h1, h2⟩ := fitsOk_fit.1 h
  have he := fit_ext h
  have k := known h1
  have h3 := (fitsOk_fit.1 (last_fits he)).2.1
  rw [lastL, if_pos he] at h3 ⊢
  exact belowL_iff.2 ⟨Nat.le_refl _, by have := h2.1; omega, (courseOf s c).fit_late k.ord k.p1 h2⟩
end Go.Proofs.Try
namespace Go.Proofs.Try
open Go Go.Am Go.RowKit Go.Co
set_option maxRecDepth 100000

/-! Long. -/
def LongOk (s : Sheet) (c : Copy) (lo hi : Int) : Prop := if c.words.length = 1 then lo = 0 ∧ hi = 0 else (courseOf s c).Short c.per.toNat lo ∧ hi = (lastL s c).getD (c.words.length - 1) 0 - (firstL s c).getD 0 0

theorem long_s {loops : List (Nat × LInfo)} {H : AHeap} {sv cv : Value} {s : Sheet} {c : Copy} (hs : SheetV H sv s) (hc : CopyV H cv c) : CallS Try.prog loops 55 [sv, cv] H fun r H' => (∃ lo hi, r = .tuple #[.agg #[.int .i64 lo, .int .i64 hi], .int .i64 (errExt s c)] ∧ (errExt s c = 0 → LongOk s c lo hi)) ∧ H' = H := by
  refine CallS.forget (R := fun v => ∃ lo hi, v = .tuple #[.agg #[.int .i64 lo, .int .i64 hi], .int .i64 (errExt s c)] ∧ (errExt s c = 0 → LongOk s c lo hi)) (by rintro v ⟨lo, hi, rfl, -⟩; rfl) ?_
  have HS := Lib.hid hs
  have HC := Lib.hid hc
  obtain ⟨wv, av, rfl, hw, ha⟩ := hs
  obtain ⟨hwl, wa, wc, rfl⟩ := hw.slice
  obtain ⟨hal, aa, ac, rfl⟩ := ha.slice
  obtain ⟨cv, rfl, hcw⟩ := hc
  obtain ⟨hcl, ca, cc, rfl⟩ := hcw.slice
  clear hw ha hcw
  have HEX := Lib.hid (fun (loops : List (Nat × LInfo)) (H' : AHeap) (hx : Ext H H') => extentOf_e (loops := loops) (HS.out.ext hx) (HC.out.ext hx))
  refine CallS.enter' Try.func55 rfl Try.ntmps55 (by simp) fun f hd hf => ?_
  have f0 := hf 0
  have f1 := hf 1
  simp at f0 f1
  clear hf
  have HX1 : Hid (Ext H (((H.push (.row [Value.slice wa s.words.length wc, Value.slice aa s.alts.length ac] 25)).push (.row [Value.slice ca c.words.length cc, .int .i64 c.beg, .int .i64 c.fin, .int .i64 c.per] 27)).push (.row [.int .i64 0, .int .i64 0] 87))) := Lib.hid (((Ext.refl _).push' _).push' _ |>.push' _)
  by_cases hex : errExt s c = 0
  · obtain ⟨h0, hm⟩ := errExt_ok hex
    have k := known h0
    obtain ⟨-, -, -, -, -, -, hper1, -⟩ := errCopy_ok h0
    have hper : (courseOf s c).per = c.per.toNat := by simp [courseOf]; omega
    have hfe : firstL s c = (courseOf s c).early c.per.toNat 0 := by rw [firstL, if_pos hex]
    have hle : lastL s c = (courseOf s c).late c.per.toNat := by rw [lastL, if_pos hex]
    have HLO : Hid (∀ lo hi, LongOk s c lo hi = if c.words.length = 1 then lo = 0 ∧ hi = 0 else (courseOf s c).Short c.per.toNat lo ∧ hi = (lastL s c).getD (c.words.length - 1) 0 - (firstL s c).getD 0 0) := Lib.hid fun _ _ => rfl
    rw [hfe, hle] at HEX HLO
    rw [hex] at HEX ⊢
    have hn1 := k.n1
    have hn40 := k.n40
    have hfl := ((courseOf s c).early_fit k.ord k.p1 hm).1
    have hll := ((courseOf s c).late_fit k.ord k.p1 hm).1
    have hfi := (courseOf s c).fit_in k.ord ((courseOf s c).early_fit k.ord k.p1 hm) 0 (by rw [hfl, k.len]; omega)
    have hli := (courseOf s c).fit_in k.ord ((courseOf s c).late_fit k.ord k.p1 hm) (c.words.length - 1) (by rw [hll, k.len]; omega)
    have hlen := k.len
    have HSH := Lib.hid (fun (loops : List (Nat × LInfo)) (H : AHeap) (oa fa la : Option Addr) (oc fc lc : Nat) => shortest_s (loops := loops) (H := H) (oa := oa) (fa := fa) (la := la) (oc := oc) (fc := fc) (lc := lc) (x := courseOf s c) (p := c.per.toNat))
    have HOR := Lib.hid k.ord
    have hp1 := k.p1
    clear k hfe hle h0 hper1
    generalize hLK : LongOk s c = LK at HLO ⊢
    clear hLK
    generalize courseOf s c = x at HEX HLO HOR hfl hll hm hfi hli hlen HSH hper
    generalize c.per.toNat = p at HEX HLO hfl hll hm hfi hli HSH hper hp1
    have HPE := Lib.hid hper
    have HM := Lib.hid hm
    have HFL := Lib.hid hfl
    have HLL := Lib.hid hll
    have HLEN := Lib.hid hlen
    have h0i : (0 : Int) ≤ (c.words.length : Int) - 1 := by omega
    have h1i : (c.words.length : Int) - 1 < ((x.late p).length : Int) := by omega
    have h2i : (1 : Int) ≤ (c.words.length : Int) := by omega
    have h3i : ((c.words.length : Int) - 1).toNat = c.words.length - 1 := by omega
    have h4i : 0 < (x.early p 0).length := by omega
    have h5i : (0 : Int) < ((x.early p 0).length : Int) := by omega
    obtain ⟨g1, g2⟩ := hfi
    obtain ⟨g3, g4⟩ := hli
    generalize hy1 : (x.early p 0).getD 0 0 = y1 at g1 g2 HLO
    generalize hy2 : (x.late p).getD (c.words.length - 1) 0 = y2 at g3 g4 HLO
    have hwr : IntKind.i64.wrap (y2 - y1) = y2 - y1 := by rw [IntKind.wrap_i64]; omega
    have HY1 := Lib.hid hy1
    have HY2 := Lib.hid hy2
    clear hper hm hfl hll hlen hy1 hy2
    repeat' (first | (with_reducible first | refine CodeS.seq ?_ | refine CodeS.region_k fun K hK => ?_ | refine opsP_go fun K2 hK2 => ?_ | refine Post.then_normal ?_ | refine Post.then_ret ?_ | refine Post.then_exit ?_ | refine Post.block_normal ?_ | refine Post.block_ret ?_ | refine Post.block_here ?_ | refine Post.scope_normal ?_ | refine Post.scope_ret ?_ | refine Post.scope_exit ?_ | refine Post.round_ret ?_ | refine Post.round_exit ?_ | refine CodeS.block ?_ | refine CodeS.skip ?_ | refine CodeS.ret ?_ | refine CodeS.exit ?_ | refine CodeS.scope ?_ | refine CodeS.label ?_) | ((with_reducible refine opsP_nil (hK _ _ ?_)); clear hK K) | ((with_reducible refine opsP_gd ?hj ?hlt fun K1 K3 d hdst h1 h3 => ?_); (case hj => rfl); (case hlt => exact Nat.le_of_ble_eq_true rfl); cases hdst; go_simp) | ((with_reducible refine CodeS.cond_k fun K1 K3 h1 h3 => ?_); go_simp) | (refine h1 ?_; clear h1 h3 K1 K3) | (refine h3 ?_; clear h1 h3 K1 K3) | ((refine Either.mk (fun hb => h1 ?_) (fun hb => h3 ?_)) <;> (clear h1 h3 K1 K3; (try have hb2 := of_decide hb); (try have hb2 := of_not_decide_lt hb); (try have hb2 := of_not_decide_le hb); (try have hb2 := of_not_decide_ltN hb); (try have hb2 := of_not_decide_leN hb))) | ((refine Either.mk (fun hb => h3 ?_) (fun hb => h1 ?_)) <;> (clear h1 h3 K1 K3; (try have hb2 := of_decide hb); (try have hb2 := of_not_decide_lt hb); (try have hb2 := of_not_decide_le hb); (try have hb2 := of_not_decide_ltN hb); (try have hb2 := of_not_decide_leN hb))) | (refine fun (K2 : _ → AHeap → Prop) hK2 => ?_) | ((with_reducible refine Post.block_off ?hn ?_); (case hn => decide)) | ((with_reducible first | refine Post.body_k ?hd (fun K hK => ?_) | refine Post.body_kn ?hd (fun K hK => ?_)); (case hd => (go_simp; done)); go_simp; refine hK _ _ ?_; clear hK K) | ((with_reducible refine CodeS.tree_lit mixed rfl ?hok 20 fun K0 hK0 => ?_); (case hok => kernel_rfl)) | (with_reducible first | exact loudsP_nil | exact stableP_nil | refine treeP_lit ?_ | refine passP_nil ?_ | refine stableP_keep ?_) | ((with_reducible first | refine passP_skip ?h1 ?_ | refine loudsP_skip ?h1 ?_ | refine stepT_more ?h1 ?_); (case h1 => rfl)) | ((with_reducible refine stepT_done ?h1 ?_); (case h1 => rfl); refine hK0 _ _ ?_; clear hK0 K0) | ((with_reducible refine passP_loud ?h1 ?hg ?hl ?_); (case h1 => rfl); (case hg => rfl); (case hl => rfl)) | ((with_reducible refine passP_q ?h1 ?hl ?hlt fun K2 hK2 => ?_); (case h1 => rfl); (case hl => rfl); (case hlt => exact Nat.le_of_ble_eq_true rfl)) | ((with_reducible refine passP_g ?h1 ?hj ?hl ?hlt fun K1 K3 d hdst h1 h3 => ?_); (case h1 => rfl); (case hj => rfl); (case hl => rfl); (case hlt => exact Nat.le_of_ble_eq_true rfl); cases hdst; go_simp) | ((with_reducible refine passP_lg ?h1 ?hj ?hl ?hlt fun K1 K3 d hdst h1 h3 => ?_); (case h1 => rfl); (case hj => rfl); (case hl => rfl); (case hlt => exact Nat.le_of_ble_eq_true rfl); cases hdst; go_simp) | ((with_reducible refine loudsP_c ?h1 ?hlt (fun K2 hK2 => ?_) ?_); (case h1 => rfl); (case hlt => exact Nat.le_of_ble_eq_true rfl)) | ((with_reducible refine loudsP_cg ?h1 ?hlt ?hj ?hw (fun K2 hK2 => ?_) ?_); (case h1 => rfl); (case hlt => exact Nat.le_of_ble_eq_true rfl); (case hj => rfl); (case hw => (go_simp; done))) | ((with_reducible refine loudsP_v ?h1 ?hv ?hlt (fun K2 hK2 => ?_) ?_); (case h1 => rfl); (case hv => rfl); (case hlt => exact Nat.le_of_ble_eq_true rfl)) | ((with_reducible refine loudsP_u ?h1 ?hv (fun K2 hK2 => ?_) ?_); (case h1 => rfl); (case hv => rfl)) | ((with_reducible refine stableP_pre ?h1 ?_); (case h1 => (first | rfl | (dsimp only; decide +kernel)))) | ((with_reducible refine stableP_re ?h1 ?_); (case h1 => (go_simp; done))) | (go_simp; (try go_bits); (try first | ((with_reducible show CallS _ _ _ _ _ _); refine CallS.mono (HEX.out _ _ HX1.out) ?_; rintro _ H1 ⟨⟨oa, on, oc, pi, fv, lv, rfl, hf1, hl1, hcv⟩, hx⟩; (have HF := Lib.hid hf1); (have HL := Lib.hid hl1); (have hcv2 := hcv rfl); (have HX2 := Lib.hid (HX1.out.trans hx)); (obtain ⟨ov, he9, hrows⟩ := hcv2); (obtain ⟨hol, oa', oc', rfl⟩ := hrows.slice); (cases he9); (have HCV := Lib.hid (hcv rfl)); (obtain ⟨-, fa, fc, rfl⟩ := hf1.slice); (obtain ⟨-, la, lc, rfl⟩ := hl1.slice); (obtain ⟨ba, oa9, sa, rfl, hba, hca⟩ := HF.out.at_ h4i); (obtain ⟨bl, ol, sl, rfl, hbl, hcl9⟩ := HL.out.at_ (k := c.words.length - 1) (by omega)); (have hya : cellAt H1 ba oa9 = some (.int .i64 y1) := by have h8 := HY1.out; rw [List.getD_eq_getElem?_getD, List.getElem?_eq_getElem h4i] at h8; rw [← h8]; simpa using hca); (have hyl : cellAt H1 bl (ol + (c.words.length - 1)) = some (.int .i64 y2) := by have h8 := HY2.out; rw [List.getD_eq_getElem?_getD, List.getElem?_eq_getElem (by omega)] at h8; rw [← h8]; exact hcl9); (have hcc1 : cellAt H1 (H.n + 1) 0 = some (Value.slice ca c.words.length cc) := by rw [hx.cellAt (by simp only [AHeap.n_push]; omega), cellAt_old (by simp only [AHeap.n_push]; omega), ← AHeap.n_push H, cellAt_new]; rfl); (have hgr : H1.get (H.n + 1 + 1) = .row [.int .i64 0, .int .i64 0] 87 := (hx.get _ (by simp only [AHeap.n_push]; omega)).trans (get_at (by simp only [AHeap.n_push]))); (have hn1' : H.n + 3 ≤ H1.n := by have := hx.n; simp only [AHeap.n_push] at this; omega); (have hlt4 : H.n + 1 + 1 < H1.n := by omega); (have hgp : ∀ o : AObj, (H1.push o).get (H.n + 1 + 1) = .row [.int .i64 0, .int .i64 0] 87 := fun o => (AHeap.get_push_old hlt4).trans hgr); (have hltp : H.n + 1 + 1 < H1.n + 1 := by omega); (have hlt3 : H.n + 1 < H1.n := by omega); clear hx hcv hrows hf1 hl1 hca hcl9) | ((with_reducible show CallS _ _ _ _ _ _); refine CallS.mono (HSH.out _ _ _ _ _ _ _ _ (HCV.out.ext (Ext.push _)) HOR.out HPE.out hp1 (by rw [HLEN.out]; omega) (by rw [HLEN.out]; omega) HM.out (HF.out.ext (Ext.push _)) (HL.out.ext (Ext.push _))) ?_; rintro _ _ ⟨⟨l9, rfl, hsh⟩, h9⟩; rw [h9]; clear h9)); (first | (refine hK2 _ _ ?_ ?_ <;> clear hK2 K2) | (refine hK2 _ _ ?_; clear hK2 K2))))
    · refine ⟨⟨_, _, rfl, fun _ => ?_⟩, (HX2.out.upd (by omega) _).push' _⟩
      have h8 : (c.words.length : Int) - 1 = 0 := by simpa using ‹((c.words.length : Int) - 1 == 0) = true›
      rw [HLO.out, if_pos (by omega)]; exact ⟨rfl, rfl⟩
    · refine ⟨⟨_, _, rfl, fun _ => ?_⟩, (HX2.out.upd (by omega) _).push' _⟩
      have h8 : ¬ (c.words.length : Int) - 1 = 0 := by simpa using ‹((c.words.length : Int) - 1 == 0) = false›
      rw [HLO.out, if_neg (by omega)]; exact ⟨hsh, rfl⟩
  · have hexb : (errExt s c != 0) = true := by simpa using hex
    repeat' (first | (with_reducible first | refine CodeS.seq ?_ | refine CodeS.region_k fun K hK => ?_ | refine opsP_go fun K2 hK2 => ?_ | refine Post.then_normal ?_ | refine Post.then_ret ?_ | refine Post.then_exit ?_ | refine Post.block_normal ?_ | refine Post.block_ret ?_ | refine Post.block_here ?_ | refine Post.scope_normal ?_ | refine Post.scope_ret ?_ | refine Post.scope_exit ?_ | refine Post.round_ret ?_ | refine Post.round_exit ?_ | refine CodeS.block ?_ | refine CodeS.skip ?_ | refine CodeS.ret ?_ | refine CodeS.exit ?_ | refine CodeS.scope ?_ | refine CodeS.label ?_) | ((with_reducible refine opsP_nil (hK _ _ ?_)); clear hK K) | ((with_reducible refine opsP_gd ?hj ?hlt fun K1 K3 d hdst h1 h3 => ?_); (case hj => rfl); (case hlt => exact Nat.le_of_ble_eq_true rfl); cases hdst; go_simp) | ((with_reducible refine CodeS.cond_k fun K1 K3 h1 h3 => ?_); go_simp) | (refine h1 ?_; clear h1 h3 K1 K3) | (refine h3 ?_; clear h1 h3 K1 K3) | ((refine Either.mk (fun hb => h1 ?_) (fun hb => h3 ?_)) <;> (clear h1 h3 K1 K3; (try have hb2 := of_decide hb); (try have hb2 := of_not_decide_lt hb); (try have hb2 := of_not_decide_le hb); (try have hb2 := of_not_decide_ltN hb); (try have hb2 := of_not_decide_leN hb))) | ((refine Either.mk (fun hb => h3 ?_) (fun hb => h1 ?_)) <;> (clear h1 h3 K1 K3; (try have hb2 := of_decide hb); (try have hb2 := of_not_decide_lt hb); (try have hb2 := of_not_decide_le hb); (try have hb2 := of_not_decide_ltN hb); (try have hb2 := of_not_decide_leN hb))) | (refine fun (K2 : _ → AHeap → Prop) hK2 => ?_) | ((with_reducible refine Post.block_off ?hn ?_); (case hn => decide)) | ((with_reducible first | refine Post.body_k ?hd (fun K hK => ?_) | refine Post.body_kn ?hd (fun K hK => ?_)); (case hd => (go_simp; done)); go_simp; refine hK _ _ ?_; clear hK K) | ((with_reducible refine CodeS.tree_lit mixed rfl ?hok 20 fun K0 hK0 => ?_); (case hok => kernel_rfl)) | (with_reducible first | exact loudsP_nil | exact stableP_nil | refine treeP_lit ?_ | refine passP_nil ?_ | refine stableP_keep ?_) | ((with_reducible first | refine passP_skip ?h1 ?_ | refine loudsP_skip ?h1 ?_ | refine stepT_more ?h1 ?_); (case h1 => rfl)) | ((with_reducible refine stepT_done ?h1 ?_); (case h1 => rfl); refine hK0 _ _ ?_; clear hK0 K0) | ((with_reducible refine passP_loud ?h1 ?hg ?hl ?_); (case h1 => rfl); (case hg => rfl); (case hl => rfl)) | ((with_reducible refine passP_q ?h1 ?hl ?hlt fun K2 hK2 => ?_); (case h1 => rfl); (case hl => rfl); (case hlt => exact Nat.le_of_ble_eq_true rfl)) | ((with_reducible refine passP_g ?h1 ?hj ?hl ?hlt fun K1 K3 d hdst h1 h3 => ?_); (case h1 => rfl); (case hj => rfl); (case hl => rfl); (case hlt => exact Nat.le_of_ble_eq_true rfl); cases hdst; go_simp) | ((with_reducible refine passP_lg ?h1 ?hj ?hl ?hlt fun K1 K3 d hdst h1 h3 => ?_); (case h1 => rfl); (case hj => rfl); (case hl => rfl); (case hlt => exact Nat.le_of_ble_eq_true rfl); cases hdst; go_simp) | ((with_reducible refine loudsP_c ?h1 ?hlt (fun K2 hK2 => ?_) ?_); (case h1 => rfl); (case hlt => exact Nat.le_of_ble_eq_true rfl)) | ((with_reducible refine loudsP_cg ?h1 ?hlt ?hj ?hw (fun K2 hK2 => ?_) ?_); (case h1 => rfl); (case hlt => exact Nat.le_of_ble_eq_true rfl); (case hj => rfl); (case hw => (go_simp; done))) | ((with_reducible refine loudsP_v ?h1 ?hv ?hlt (fun K2 hK2 => ?_) ?_); (case h1 => rfl); (case hv => rfl); (case hlt => exact Nat.le_of_ble_eq_true rfl)) | ((with_reducible refine loudsP_u ?h1 ?hv (fun K2 hK2 => ?_) ?_); (case h1 => rfl); (case hv => rfl)) | ((with_reducible refine stableP_pre ?h1 ?_); (case h1 => (first | rfl | (dsimp only; decide +kernel)))) | ((with_reducible refine stableP_re ?h1 ?_); (case h1 => (go_simp; done))) | (go_simp; (try go_bits); (try first | ((with_reducible show CallS _ _ _ _ _ _); refine CallS.mono (HEX.out _ _ HX1.out) ?_; rintro _ H1 ⟨⟨oa, on, oc, pi, fv, lv, rfl, hf1, hl1, -⟩, hx⟩; (have HX2 := Lib.hid (HX1.out.trans hx)); (obtain ⟨-, fa, fc, rfl⟩ := hf1.slice); (obtain ⟨-, la, lc, rfl⟩ := hl1.slice); (have hgr : H1.get (H.n + 1 + 1) = .row [.int .i64 0, .int .i64 0] 87 := (hx.get _ (by simp only [AHeap.n_push]; omega)).trans (get_at (by simp only [AHeap.n_push]))); (have hn1' : H.n + 3 ≤ H1.n := by have := hx.n; simp only [AHeap.n_push] at this; omega); (have hlt4 : H.n + 1 + 1 < H1.n := by omega); (have hgp : ∀ o : AObj, (H1.push o).get (H.n + 1 + 1) = .row [.int .i64 0, .int .i64 0] 87 := fun o => (AHeap.get_push_old hlt4).trans hgr); (have hltp : H.n + 1 + 1 < H1.n + 1 := by omega); clear hf1 hl1 hx)); (first | (refine hK2 _ _ ?_ ?_ <;> clear hK2 K2) | (refine hK2 _ _ ?_; clear hK2 K2))))
    refine ⟨⟨_, _, rfl, fun h => absurd h hex⟩, ?_⟩
    exact (HX2.out.upd (by omega) _).push' _
end Go.Proofs.Try
namespace Go.Proofs.Try
open Go Go.Am Go.RowKit Go.Co
set_option maxRecDepth 100000

/-! A narrower copy. -/
theorem conv5 {dst : Option Tmp} {x : Operand} {ty : TypeId} {src : String} {af : Array Edge} {g : Option (Nat × Bool)} {a : Int} (ev : Operand → Value) (hx : ev x = .int .u8 a) : pureOf Try.prog (execOp ev ⟨dst, .convert 5 3 x, ty, src, af, g⟩) = some (.value (.int .i64 (IntKind.i64.wrap a))) := by
  simp only [execOp, hx]
  kernel_rfl
def convV {β : Type} (v : Value) (H : AHeap) (kk : K β) (other : Unit → Option β) : Option β := match v with
  | .int .u8 a => kk (.int .i64 (IntKind.i64.wrap a)) H
  | _ => other ()
@[go_sem] theorem convV_u8 {β : Type} {a : Int} {H : AHeap} {kk : K β} {other : Unit → Option β} : convV (.int .u8 a) H kk other = kk (.int .i64 (IntKind.i64.wrap a)) H := rfl
theorem aPlain_conv5 {β : Type} {dst : Option Tmp} {x : Operand} {ty : TypeId} {src : String} {af : Array Edge} {g : Option (Nat × Bool)} {ev : Operand → Value} {H : AHeap} {kk : K β} : aPlain Try.prog ⟨dst, .convert 5 3 x, ty, src, af, g⟩ ev H kk = convV (ev x) H kk fun _ => aPlain Try.prog ⟨dst, .convert 5 3 x, ty, src, af, g⟩ ev H kk := by
  unfold convV
  split
  · rename_i a hx
    rw [plain_of rfl]
    have e1 : ((Op.convert 5 3 x).operands.toList.all fun x => plainV 6 (ev x)) = true := by
      show ([x].all fun x => plainV 6 (ev x)) = true
      simp [hx]
      rfl
    rw [if_pos e1, conv5 ev hx]
    rfl
  · rfl
@[go_sem] theorem opP_conv5 {cx : Cx} {H : AHeap} {f : AF} {k : AF → AHeap → Prop} {dst : Option Tmp} {x : Operand} {ty : TypeId} {src : String} {af : Array Edge} {g : Option (Nat × Bool)} : opP Try.prog cx ⟨dst, .convert 5 3 x, ty, src, af, g⟩ f H k = Holds (convV (f.eval x) H (fun v H' => some (putP cx.sz f dst v fun f' => k f' H')) fun _ => aPlain Try.prog ⟨dst, .convert 5 3 x, ty, src, af, g⟩ f.eval H fun v H' => some (putP cx.sz f dst v fun f' => k f' H')) :=
  opP_convert.trans (congrArg Holds aPlain_conv5)
structure Narrow (s : Sheet) (c d : Copy) (n : Nat) : Prop where
  ext : errExt s c = 0
  len : c.words.length = n
  n40 : n ≤ 50
  f1 : (firstL s d).length = n
  l1 : (lastL s d).length = n
  f0 : (firstL s c).length = n
  l0 : (lastL s c).length = n
  ff : fitsV s c (firstL s d) = .tuple #[.int .i64 0, .bool true, .int .i64 0]
  fl : fitsV s c (lastL s d) = .tuple #[.int .i64 0, .bool true, .int .i64 0]
  bf : belowL (firstL s c) (firstL s d) n = true
  bl : belowL (lastL s d) (lastL s c) n = true
  long : ∀ lo hi lo' hi', LongOk s c lo hi → LongOk s d lo' hi' → lo ≤ lo' ∧ hi' ≤ hi
theorem narrow_ok {s : Sheet} {c d : Copy} (h0 : errCopy s c = 0) (hd : errExt s d = 0) (hw : d.words = c.words) (hb : c.beg ≤ d.beg) (hf : d.fin ≤ c.fin) (hp : d.per ≤ c.per) : Narrow s c d c.words.length := by
  obtain ⟨h1, hm⟩ := errExt_ok hd
  have k := known h0
  have j := known h1
  have hwl : d.words.length = c.words.length := by rw [hw]
  obtain ⟨-, -, -, -, -, -, hp1, -⟩ := errCopy_ok h0
  obtain ⟨-, -, -, -, -, -, hq1, -⟩ := errCopy_ok h1
  have hl : (courseOf s d).open_.length = (courseOf s c).open_.length := by rw [courseOf_len, courseOf_len, hwl]
  have hop : ∀ i x, i < (courseOf s c).open_.length → (courseOf s d).op i x = true → (courseOf s c).op i x = true := by
    intro i x hi ho
    rw [k.len] at hi
    rw [Course.op, courseOf_ins h1 (by rw [hwl]; exact hi)] at ho
    rw [Course.op, courseOf_ins h0 hi, ← hw]
    simp only [Bool.and_eq_true, decide_eq_true_eq] at ho ⊢
    exact ⟨⟨by omega, by omega⟩, ho.2⟩
  have hqp : d.per.toNat ≤ c.per.toNat := by omega
  have hN : ∀ g, FitsOk s d g → FitsOk s c g := by
    intro g hg
    obtain ⟨-, hg2⟩ := fitsOk_fit.1 hg
    exact fitsOk_fit.2 ⟨h0, Course.fit_narrow j.ord hl hqp hop hg2⟩
  have hF := hN _ (first_fits hd)
  have hL := hN _ (last_fits hd)
  have he := fit_ext hF
  have hmc := (errExt_ok he).2
  have hbf := first_below hF
  have hbl := last_below hL
  have n1 := (fitsOk_fit.1 hF).2.1
  have n2 := (fitsOk_fit.1 hL).2.1
  have n3 := (fitsOk_fit.1 (first_fits he)).2.1
  have n4 := (fitsOk_fit.1 (last_fits he)).2.1
  rw [k.len] at n1 n2 n3 n4
  rw [n1] at hbf
  rw [n2] at hbl
  have c40 := k.n40
  refine ⟨he, rfl, by omega, n1, n2, n3, n4, fitsOk_V hF, fitsOk_V hL, hbf, hbl, fun lo hi lo' hi' hc hc' => ?_⟩
  rw [LongOk] at hc
  rw [LongOk, hwl] at hc'
  by_cases h9 : c.words.length = 1
  · rw [if_pos h9] at hc hc'
    omega
  · rw [if_neg h9] at hc hc'
    have hn1 := k.n1
    refine ⟨Course.short_narrow k.ord j.ord hl j.p1 hqp hop hm (by rw [k.len]; omega) hc.1 hc'.1, ?_⟩
    rw [hc.2, hc'.2]
    have e1 := (belowL_iff.1 hbf).2.2 0 (by omega)
    have e2 := (belowL_iff.1 hbl).2.2 (c.words.length - 1) (by omega)
    omega
theorem first_n {loops : List (Nat × LInfo)} {H : AHeap} {sv cv : Value} {s : Sheet} {c : Copy} {n : Nat} (hs : SheetV H sv s) (hc : CopyV H cv c) (h : errExt s c = 0) (hn : (firstL s c).length = n) : CallS Try.prog loops 46 [sv, cv] H fun r H' => (∃ a k, r = .tuple #[.slice a n k, .int .i64 0] ∧ Ints H' (.slice a n k) (firstL s c)) ∧ Ext H H' :=
  CallS.mono (first_e hs hc) fun _ _ ⟨⟨fv, h1, h2⟩, h3⟩ => by
    obtain ⟨-, a, k, rfl⟩ := h2.slice
    rw [hn] at h1 h2
    exact ⟨⟨a, k, by rw [h1, h], h2⟩, h3⟩
theorem last_n {loops : List (Nat × LInfo)} {H : AHeap} {sv cv : Value} {s : Sheet} {c : Copy} {n : Nat} (hs : SheetV H sv s) (hc : CopyV H cv c) (h : errExt s c = 0) (hn : (lastL s c).length = n) : CallS Try.prog loops 47 [sv, cv] H fun r H' => (∃ a k, r = .tuple #[.slice a n k, .int .i64 0] ∧ Ints H' (.slice a n k) (lastL s c)) ∧ Ext H H' :=
  CallS.mono (last_e hs hc) fun _ _ ⟨⟨fv, h1, h2⟩, h3⟩ => by
    obtain ⟨-, a, k, rfl⟩ := h2.slice
    rw [hn] at h1 h2
    exact ⟨⟨a, k, by rw [h1, h], h2⟩, h3⟩
theorem u8_in {l : Int} (h : (Lit.int .u8 l).wf = true) : 0 ≤ l ∧ l ≤ 255 := by
  have h2 : IntKind.u8.min ≤ l ∧ l ≤ IntKind.u8.max := by simpa [Lit.wf] using h
  exact h2
end Go.Proofs.Try
namespace Go.Proofs.Try
open Go Go.Am Go.RowKit Go.Co
set_option maxRecDepth 100000

/-! The law StateNarrows. -/
set_option maxHeartbeats 8000000 in
theorem law13 {H : AHeap} {sv cv : Value} {s : Sheet} {c : Copy} {l e m : Int} (hv : SheetV H sv s) (hc : CopyV H cv c) (hl8 : (Lit.int .u8 l).wf = true) (he8 : (Lit.int .u8 e).wf = true) (hm8 : (Lit.int .u8 m).wf = true) : CallS Try.prog [] 13 [sv, cv, .int .u8 l, .int .u8 e, .int .u8 m] H fun r _ => r = .bool true := by
  have HV := Lib.hid hv
  have HC := Lib.hid hc
  obtain ⟨l0, l1⟩ := u8_in hl8
  obtain ⟨e0, e1⟩ := u8_in he8
  obtain ⟨m0, m1⟩ := u8_in hm8
  clear hl8 he8 hm8
  obtain ⟨wv, av, rfl, hw, ha⟩ := hv
  obtain ⟨hwl, wa, wc, rfl⟩ := hw.slice
  obtain ⟨hal, aa, ac, rfl⟩ := ha.slice
  obtain ⟨cv, rfl, hcw⟩ := hc
  have HCW := Lib.hid hcw
  obtain ⟨hcl, ca, cc, rfl⟩ := hcw.slice
  clear hw ha hcw
  have HCH := Lib.hid (fun (loops : List (Nat × LInfo)) (H' : AHeap) (hx : Ext H H') => checkCopy_s (loops := loops) (HV.out.ext hx) (HC.out.ext hx))
  refine CallS.enter' Try.func13 rfl Try.ntmps13 (by simp) fun f hd hf => ?_
  have f0 := hf 0
  have f1 := hf 1
  have f2 := hf 2
  have f3 := hf 3
  have f4 := hf 4
  simp at f0 f1 f2 f3 f4
  clear hf
  have HX1 : Hid (Ext H ((H.push (.row [Value.slice wa s.words.length wc, Value.slice aa s.alts.length ac] 25)).push (.row [Value.slice ca c.words.length cc, .int .i64 c.beg, .int .i64 c.fin, .int .i64 c.per] 27))) := Lib.hid (((Ext.refl _).push' _).push' _)
  by_cases h0 : errCopy s c = 0
  · have h0' := h0
    obtain ⟨-, -, -, hb0, hb1, hb2, hp0, hp1⟩ := errCopy_ok h0
    have HDV : Hid (CopyV H (.agg #[.slice ca c.words.length cc, .int .i64 (c.beg + l), .int .i64 (c.fin - e), .int .i64 (1 + m % c.per)]) ⟨c.words, c.beg + l, c.fin - e, 1 + m % c.per⟩) := Lib.hid ⟨_, rfl, HCW.out⟩
    have hmp0 : 0 ≤ m % c.per := Int.emod_nonneg _ (by omega)
    have hmp1 : m % c.per < c.per := Int.emod_lt_of_pos _ (by omega)
    have HNO : Hid (errExt s ⟨c.words, c.beg + l, c.fin - e, 1 + m % c.per⟩ = 0 → Narrow s c ⟨c.words, c.beg + l, c.fin - e, 1 + m % c.per⟩ c.words.length) := Lib.hid (fun h => narrow_ok h0' h rfl (by simp only; omega) (by simp only; omega) (by simp only; omega))
    rw [h0] at HCH
    clear h0'
    generalize hq : m % c.per = q at HDV HNO hmp0 hmp1
    repeat' (first | (with_reducible first | refine CodeS.seq ?_ | refine CodeS.region_k fun K hK => ?_ | refine opsP_go fun K2 hK2 => ?_ | refine Post.then_normal ?_ | refine Post.then_ret ?_ | refine Post.then_exit ?_ | refine Post.block_normal ?_ | refine Post.block_ret ?_ | refine Post.block_here ?_ | refine Post.scope_normal ?_ | refine Post.scope_ret ?_ | refine Post.scope_exit ?_ | refine Post.round_ret ?_ | refine Post.round_exit ?_ | refine CodeS.block ?_ | refine CodeS.skip ?_ | refine CodeS.ret ?_ | refine CodeS.exit ?_ | refine CodeS.scope ?_ | refine CodeS.label ?_) | ((with_reducible refine opsP_nil (hK _ _ ?_)); clear hK K) | ((with_reducible refine opsP_gd ?hj ?hlt fun K1 K3 d hdst h1 h3 => ?_); (case hj => rfl); (case hlt => exact Nat.le_of_ble_eq_true rfl); cases hdst; go_simp) | ((with_reducible refine CodeS.cond_k fun K1 K3 h1 h3 => ?_); go_simp) | (refine h1 ?_; clear h1 h3 K1 K3) | (refine h3 ?_; clear h1 h3 K1 K3) | ((refine Either.mk (fun hb => h1 ?_) (fun hb => h3 ?_)) <;> (clear h1 h3 K1 K3; (try have hb2 := of_decide hb); (try have hb2 := of_not_decide_lt hb); (try have hb2 := of_not_decide_le hb); (try have hb2 := of_not_decide_ltN hb); (try have hb2 := of_not_decide_leN hb))) | ((refine Either.mk (fun hb => h3 ?_) (fun hb => h1 ?_)) <;> (clear h1 h3 K1 K3; (try have hb2 := of_decide hb); (try have hb2 := of_not_decide_lt hb); (try have hb2 := of_not_decide_le hb); (try have hb2 := of_not_decide_ltN hb); (try have hb2 := of_not_decide_leN hb))) | (refine fun (K2 : _ → AHeap → Prop) hK2 => ?_) | ((with_reducible refine Post.block_off ?hn ?_); (case hn => decide)) | ((with_reducible first | refine Post.body_k ?hd (fun K hK => ?_) | refine Post.body_kn ?hd (fun K hK => ?_)); (case hd => (go_simp; done)); go_simp; refine hK _ _ ?_; clear hK K) | ((with_reducible refine CodeS.tree_lit mixed rfl ?hok 20 fun K0 hK0 => ?_); (case hok => kernel_rfl)) | (with_reducible first | exact loudsP_nil | exact stableP_nil | refine treeP_lit ?_ | refine passP_nil ?_ | refine stableP_keep ?_) | ((with_reducible first | refine passP_skip ?h1 ?_ | refine loudsP_skip ?h1 ?_ | refine stepT_more ?h1 ?_); (case h1 => rfl)) | ((with_reducible refine stepT_done ?h1 ?_); (case h1 => rfl); refine hK0 _ _ ?_; clear hK0 K0) | ((with_reducible refine passP_loud ?h1 ?hg ?hl ?_); (case h1 => rfl); (case hg => rfl); (case hl => rfl)) | ((with_reducible refine passP_q ?h1 ?hl ?hlt fun K2 hK2 => ?_); (case h1 => rfl); (case hl => rfl); (case hlt => exact Nat.le_of_ble_eq_true rfl)) | ((with_reducible refine passP_g ?h1 ?hj ?hl ?hlt fun K1 K3 d hdst h1 h3 => ?_); (case h1 => rfl); (case hj => rfl); (case hl => rfl); (case hlt => exact Nat.le_of_ble_eq_true rfl); cases hdst; go_simp) | ((with_reducible refine passP_lg ?h1 ?hj ?hl ?hlt fun K1 K3 d hdst h1 h3 => ?_); (case h1 => rfl); (case hj => rfl); (case hl => rfl); (case hlt => exact Nat.le_of_ble_eq_true rfl); cases hdst; go_simp) | ((with_reducible refine loudsP_c ?h1 ?hlt (fun K2 hK2 => ?_) ?_); (case h1 => rfl); (case hlt => exact Nat.le_of_ble_eq_true rfl)) | ((with_reducible refine loudsP_cg ?h1 ?hlt ?hj ?hw (fun K2 hK2 => ?_) ?_); (case h1 => rfl); (case hlt => exact Nat.le_of_ble_eq_true rfl); (case hj => rfl); (case hw => (go_simp; done))) | ((with_reducible refine loudsP_v ?h1 ?hv ?hlt (fun K2 hK2 => ?_) ?_); (case h1 => rfl); (case hv => rfl); (case hlt => exact Nat.le_of_ble_eq_true rfl)) | ((with_reducible refine loudsP_u ?h1 ?hv (fun K2 hK2 => ?_) ?_); (case h1 => rfl); (case hv => rfl)) | ((with_reducible refine stableP_pre ?h1 ?_); (case h1 => (first | rfl | (dsimp only; decide +kernel)))) | ((with_reducible refine stableP_re ?h1 ?_); (case h1 => (go_simp; done))) | (go_simp; (try go_bits); (try first | ((with_reducible show CallS _ _ _ _ _ _); refine CallS.mono head_s ?_; rintro _ _ ⟨rfl, h9⟩; rw [h9]; clear h9; go_simp) | ((with_reducible show CallS _ _ _ _ _ _); refine CallS.mono (few_s (s := s) (HV.out.ext HX1.out)) ?_; rintro _ _ ⟨rfl, h9⟩; rw [h9]; clear h9; go_simp) | ((with_reducible show CallS _ _ _ _ _ _); refine CallS.mono (brief_s (c := c) (HC.out.ext HX1.out)) ?_; rintro _ _ ⟨rfl, h9⟩; rw [h9]; clear h9; go_simp) | ((with_reducible show CallS _ _ _ _ _ _); refine CallS.mono (HCH.out _ _ HX1.out) ?_; rintro _ _ ⟨rfl, h9⟩; rw [h9]; clear h9; go_simp) | ((rw [aPlain_rem (a := m) (b := c.per) (by go_simp) (by go_simp) (by omega) (by omega), hq]); go_simp)); (first | (refine hK2 _ _ ?_ ?_ <;> clear hK2 K2) | (refine hK2 _ _ ?_; clear hK2 K2))))
    all_goals try rfl
    have HDD : Hid (CopyV H (.agg #[.slice ca c.words.length cc, .int .i64 (c.beg + l), .int .i64 (c.fin - e), .int .i64 (1 + q)]) ⟨c.words, c.beg + l, c.fin - e, 1 + q⟩) := HDV
    clear HDV
    generalize (⟨c.words, c.beg + l, c.fin - e, 1 + q⟩ : Copy) = d at HDD HNO
    have HXB : Hid (Ext H (((H.push (.row [Value.slice wa s.words.length wc, Value.slice aa s.alts.length ac] 25)).push (.row [Value.slice ca c.words.length cc, .int .i64 c.beg, .int .i64 c.fin, .int .i64 c.per] 27)).push (.row [Value.slice ca c.words.length cc, .int .i64 (c.beg + l), .int .i64 (c.fin - e), .int .i64 (1 + q)] 27))) := Lib.hid (((Ext.refl _).push' _).push' _ |>.push' _)
    have HCS : Hid (∀ G : AHeap, Ext (((H.push (.row [Value.slice wa s.words.length wc, Value.slice aa s.alts.length ac] 25)).push (.row [Value.slice ca c.words.length cc, .int .i64 c.beg, .int .i64 c.fin, .int .i64 c.per] 27)).push (.row [Value.slice ca c.words.length cc, .int .i64 (c.beg + l), .int .i64 (c.fin - e), .int .i64 (1 + q)] 27)) G → cellsAt G H.n 0 2 = some [Value.slice wa s.words.length wc, Value.slice aa s.alts.length ac] ∧ cellsAt G (H.n + 1) 0 4 = some [Value.slice ca c.words.length cc, .int .i64 c.beg, .int .i64 c.fin, .int .i64 c.per] ∧ cellsAt G (H.n + 1 + 1) 0 4 = some [Value.slice ca c.words.length cc, .int .i64 (c.beg + l), .int .i64 (c.fin - e), .int .i64 (1 + q)] ∧ H.n < G.n ∧ H.n + 1 < G.n ∧ H.n + 1 + 1 < G.n) := Lib.hid (fun G hx => by
      have hn := hx.n
      simp only [AHeap.n_push] at hn
      refine ⟨?_, ?_, ?_, by omega, by omega, by omega⟩
      · rw [hx.cellsAt (by simp only [AHeap.n_push]; omega), cellsAt_old (by simp only [AHeap.n_push]; omega), cellsAt_old (by simp only [AHeap.n_push]; omega), cellsAt_new]; rfl
      · rw [hx.cellsAt (by simp only [AHeap.n_push]; omega), cellsAt_old (by simp only [AHeap.n_push]; omega), ← AHeap.n_push H, cellsAt_new]; rfl
      · rw [hx.cellsAt (by simp only [AHeap.n_push]; omega)]
        conv => lhs; rw [show H.n + 1 + 1 = ((H.push (.row [Value.slice wa s.words.length wc, Value.slice aa s.alts.length ac] 25)).push (.row [Value.slice ca c.words.length cc, .int .i64 c.beg, .int .i64 c.fin, .int .i64 c.per] 27)).n from by simp only [AHeap.n_push]]
        rw [cellsAt_new]; rfl)
    obtain ⟨Hb, hHb⟩ : ∃ Hb, Hb = (((H.push (.row [Value.slice wa s.words.length wc, Value.slice aa s.alts.length ac] 25)).push (.row [Value.slice ca c.words.length cc, .int .i64 c.beg, .int .i64 c.fin, .int .i64 c.per] 27)).push (.row [Value.slice ca c.words.length cc, .int .i64 (c.beg + l), .int .i64 (c.fin - e), .int .i64 (1 + q)] 27)) := ⟨_, rfl⟩
    rw [← hHb] at HXB HCS ⊢
    obtain ⟨z1, z2, z3, z4, z5, z6⟩ := HCS.out Hb (Ext.refl _)
    have XR : Hid (Ext Hb Hb) := Lib.hid (Ext.refl _)
    clear hHb HX1
    by_cases hen : errExt s d = 0
    · have N := HNO.out hen
      have n50 := N.n40
      have HF1 := Lib.hid (fun (loops : List (Nat × LInfo)) (H' : AHeap) (hx : Ext H H') => first_n (loops := loops) (HV.out.ext hx) (HDD.out.ext hx) hen N.f1)
      have HL1 := Lib.hid (fun (loops : List (Nat × LInfo)) (H' : AHeap) (hx : Ext H H') => last_n (loops := loops) (HV.out.ext hx) (HDD.out.ext hx) hen N.l1)
      have HF0 := Lib.hid (fun (loops : List (Nat × LInfo)) (H' : AHeap) (hx : Ext H H') => first_n (loops := loops) (HV.out.ext hx) (HC.out.ext hx) N.ext N.f0)
      have HL0 := Lib.hid (fun (loops : List (Nat × LInfo)) (H' : AHeap) (hx : Ext H H') => last_n (loops := loops) (HV.out.ext hx) (HC.out.ext hx) N.ext N.l0)
      have HFT := Lib.hid (fun (loops : List (Nat × LInfo)) (H' : AHeap) (v : Value) (g : List Int) (hx : Ext H H') (hi : Ints H' v g) => fits_s (loops := loops) (HV.out.ext hx) (HC.out.ext hx) hi)
      have HG0 := Lib.hid (fun (loops : List (Nat × LInfo)) (H' : AHeap) (hx : Ext H H') => long_s (loops := loops) (HV.out.ext hx) (HC.out.ext hx))
      have HG1 := Lib.hid (fun (loops : List (Nat × LInfo)) (H' : AHeap) (hx : Ext H H') => long_s (loops := loops) (HV.out.ext hx) (HDD.out.ext hx))
      rw [N.ext] at HG0
      rw [hen] at HG1
      have NFF := Lib.hid N.ff
      have NFL := Lib.hid N.fl
      have NBF := Lib.hid N.bf
      have NBL := Lib.hid N.bl
      have NLO := Lib.hid N.long
      clear N HNO
      generalize firstL s d = A1 at HF1 NFF NBF
      generalize lastL s d = B1 at HL1 NFL NBL
      generalize firstL s c = A0 at HF0 NBF
      generalize lastL s c = B0 at HL0 NBL
      generalize LongOk s c = K0 at HG0 NLO
      generalize LongOk s d = K1 at HG1 NLO
      repeat' (first | (with_reducible first | refine CodeS.seq ?_ | refine CodeS.region_k fun K hK => ?_ | refine opsP_go fun K2 hK2 => ?_ | refine Post.then_normal ?_ | refine Post.then_ret ?_ | refine Post.then_exit ?_ | refine Post.block_normal ?_ | refine Post.block_ret ?_ | refine Post.block_here ?_ | refine Post.scope_normal ?_ | refine Post.scope_ret ?_ | refine Post.scope_exit ?_ | refine Post.round_ret ?_ | refine Post.round_exit ?_ | refine CodeS.block ?_ | refine CodeS.skip ?_ | refine CodeS.ret ?_ | refine CodeS.exit ?_ | refine CodeS.scope ?_ | refine CodeS.label ?_) | ((with_reducible refine opsP_nil (hK _ _ ?_)); clear hK K) | ((with_reducible refine opsP_gd ?hj ?hlt fun K1 K3 d hdst h1 h3 => ?_); (case hj => rfl); (case hlt => exact Nat.le_of_ble_eq_true rfl); cases hdst; go_simp) | ((with_reducible refine CodeS.cond_k fun K1 K3 h1 h3 => ?_); go_simp) | (refine h1 ?_; clear h1 h3 K1 K3) | (refine h3 ?_; clear h1 h3 K1 K3) | ((refine Either.mk (fun hb => h1 ?_) (fun hb => h3 ?_)) <;> (clear h1 h3 K1 K3; (try have hb2 := of_decide hb); (try have hb2 := of_not_decide_lt hb); (try have hb2 := of_not_decide_le hb); (try have hb2 := of_not_decide_ltN hb); (try have hb2 := of_not_decide_leN hb))) | ((refine Either.mk (fun hb => h3 ?_) (fun hb => h1 ?_)) <;> (clear h1 h3 K1 K3; (try have hb2 := of_decide hb); (try have hb2 := of_not_decide_lt hb); (try have hb2 := of_not_decide_le hb); (try have hb2 := of_not_decide_ltN hb); (try have hb2 := of_not_decide_leN hb))) | (refine fun (K2 : _ → AHeap → Prop) hK2 => ?_) | ((with_reducible refine Post.block_off ?hn ?_); (case hn => decide)) | ((with_reducible first | refine Post.body_k ?hd (fun K hK => ?_) | refine Post.body_kn ?hd (fun K hK => ?_)); (case hd => (go_simp; done)); go_simp; refine hK _ _ ?_; clear hK K) | ((with_reducible refine CodeS.tree_lit mixed rfl ?hok 20 fun K0 hK0 => ?_); (case hok => kernel_rfl)) | (with_reducible first | exact loudsP_nil | exact stableP_nil | refine treeP_lit ?_ | refine passP_nil ?_ | refine stableP_keep ?_) | ((with_reducible first | refine passP_skip ?h1 ?_ | refine loudsP_skip ?h1 ?_ | refine stepT_more ?h1 ?_); (case h1 => rfl)) | ((with_reducible refine stepT_done ?h1 ?_); (case h1 => rfl); refine hK0 _ _ ?_; clear hK0 K0) | ((with_reducible refine passP_loud ?h1 ?hg ?hl ?_); (case h1 => rfl); (case hg => rfl); (case hl => rfl)) | ((with_reducible refine passP_q ?h1 ?hl ?hlt fun K2 hK2 => ?_); (case h1 => rfl); (case hl => rfl); (case hlt => exact Nat.le_of_ble_eq_true rfl)) | ((with_reducible refine passP_g ?h1 ?hj ?hl ?hlt fun K1 K3 d hdst h1 h3 => ?_); (case h1 => rfl); (case hj => rfl); (case hl => rfl); (case hlt => exact Nat.le_of_ble_eq_true rfl); cases hdst; go_simp) | ((with_reducible refine passP_lg ?h1 ?hj ?hl ?hlt fun K1 K3 d hdst h1 h3 => ?_); (case h1 => rfl); (case hj => rfl); (case hl => rfl); (case hlt => exact Nat.le_of_ble_eq_true rfl); cases hdst; go_simp) | ((with_reducible refine loudsP_c ?h1 ?hlt (fun K2 hK2 => ?_) ?_); (case h1 => rfl); (case hlt => exact Nat.le_of_ble_eq_true rfl)) | ((with_reducible refine loudsP_cg ?h1 ?hlt ?hj ?hw (fun K2 hK2 => ?_) ?_); (case h1 => rfl); (case hlt => exact Nat.le_of_ble_eq_true rfl); (case hj => rfl); (case hw => (go_simp; done))) | ((with_reducible refine loudsP_v ?h1 ?hv ?hlt (fun K2 hK2 => ?_) ?_); (case h1 => rfl); (case hv => rfl); (case hlt => exact Nat.le_of_ble_eq_true rfl)) | ((with_reducible refine loudsP_u ?h1 ?hv (fun K2 hK2 => ?_) ?_); (case h1 => rfl); (case hv => rfl)) | ((with_reducible refine stableP_pre ?h1 ?_); (case h1 => (first | rfl | (dsimp only; decide +kernel)))) | ((with_reducible refine stableP_re ?h1 ?_); (case h1 => (go_simp; done))) | (go_simp; (try go_bits); (try first | ((with_reducible show CallS _ _ _ _ _ _); refine CallS.mono (HF1.out _ _ (HXB.out.trans XR.out)) ?_; rintro _ H2 ⟨⟨a1a, a1k, rfl, hi⟩, hx⟩; (have a1I := Lib.hid hi); (have XH2 : Hid (Ext Hb H2) := Lib.hid (XR.out.trans hx)); (obtain ⟨z1H2, z2H2, z3H2, z4H2, z5H2, z6H2⟩ := HCS.out H2 XH2.out); skip; clear hi hx; go_simp) | ((with_reducible show CallS _ _ _ _ _ _); refine CallS.mono (HL1.out _ _ (HXB.out.trans XH2.out)) ?_; rintro _ H3 ⟨⟨b1a, b1k, rfl, hi⟩, hx⟩; (have b1I := Lib.hid hi); (have XH3 : Hid (Ext Hb H3) := Lib.hid (XH2.out.trans hx)); (obtain ⟨z1H3, z2H3, z3H3, z4H3, z5H3, z6H3⟩ := HCS.out H3 XH3.out); (have a1I3 := Lib.hid (a1I.out.ext hx)); clear hi hx; go_simp) | ((with_reducible show CallS _ _ _ _ _ _); refine CallS.mono (HF0.out _ _ (HXB.out.trans XH3.out)) ?_; rintro _ H4 ⟨⟨a0a, a0k, rfl, hi⟩, hx⟩; (have a0I := Lib.hid hi); (have XH4 : Hid (Ext Hb H4) := Lib.hid (XH3.out.trans hx)); (obtain ⟨z1H4, z2H4, z3H4, z4H4, z5H4, z6H4⟩ := HCS.out H4 XH4.out); ((have a1I4 := Lib.hid (a1I3.out.ext hx)); (have b1I4 := Lib.hid (b1I.out.ext hx))); clear hi hx; go_simp) | ((with_reducible show CallS _ _ _ _ _ _); refine CallS.mono (HL0.out _ _ (HXB.out.trans XH4.out)) ?_; rintro _ H5 ⟨⟨b0a, b0k, rfl, hi⟩, hx⟩; (have b0I := Lib.hid hi); (have XH5 : Hid (Ext Hb H5) := Lib.hid (XH4.out.trans hx)); (obtain ⟨z1H5, z2H5, z3H5, z4H5, z5H5, z6H5⟩ := HCS.out H5 XH5.out); ((have a1I5 := Lib.hid (a1I4.out.ext hx)); (have b1I5 := Lib.hid (b1I4.out.ext hx)); (have a0I5 := Lib.hid (a0I.out.ext hx)); (have HX5 := Lib.hid (HXB.out.trans XH5.out))); clear hi hx; go_simp) | ((with_reducible show CallS _ _ _ _ _ _); refine CallS.mono (HFT.out _ _ _ _ HX5.out a1I5.out) ?_; rintro _ _ ⟨rfl, h9⟩; rw [h9, NFF.out]; clear h9; go_simp) | ((with_reducible show CallS _ _ _ _ _ _); refine CallS.mono (HFT.out _ _ _ _ HX5.out b1I5.out) ?_; rintro _ _ ⟨rfl, h9⟩; rw [h9, NFL.out]; clear h9; go_simp) | ((with_reducible show CallS _ _ _ _ _ _); refine CallS.mono (HG0.out _ _ HX5.out) ?_; rintro _ _ ⟨⟨lo0, hi0, rfl, hk0⟩, h9⟩; rw [h9]; (have KO0 := Lib.hid (hk0 rfl)); clear h9 hk0; go_simp) | ((with_reducible show CallS _ _ _ _ _ _); refine CallS.mono (HG1.out _ _ (HX5.out.push' _)) ?_; rintro _ _ ⟨⟨lo1, hi1, rfl, hk1⟩, h9⟩; rw [h9]; (have KO1 := Lib.hid (hk1 rfl)); (obtain ⟨hlo, hhi⟩ := NLO.out _ _ _ _ KO0.out KO1.out); clear h9 hk1; go_simp) | ((with_reducible show CallS _ _ _ _ _ _); refine CallS.mono (below_s (n := c.words.length) (a0I5.out.ext ((Ext.push _).push' _)) (a1I5.out.ext ((Ext.push _).push' _))) ?_; rintro _ _ ⟨rfl, h9⟩; rw [h9, NBF.out]; clear h9; go_simp) | ((with_reducible show CallS _ _ _ _ _ _); refine CallS.mono (below_s (n := c.words.length) (b1I5.out.ext ((Ext.push _).push' _)) (b0I.out.ext ((Ext.push _).push' _))) ?_; rintro _ _ ⟨rfl, h9⟩; rw [h9, NBL.out]; clear h9; go_simp)); (first | (refine hK2 _ _ ?_ ?_ <;> clear hK2 K2) | (refine hK2 _ _ ?_; clear hK2 K2))))
      all_goals try rfl
    · have henb : (errExt s d != 0) = true := by simpa using hen
      have HF1 := Lib.hid (fun (loops : List (Nat × LInfo)) (H' : AHeap) (hx : Ext H H') => first_e (loops := loops) (HV.out.ext hx) (HDD.out.ext hx))
      have HL1 := Lib.hid (fun (loops : List (Nat × LInfo)) (H' : AHeap) (hx : Ext H H') => last_e (loops := loops) (HV.out.ext hx) (HDD.out.ext hx))
      clear HNO hen
      generalize errExt s d = er at HF1 HL1 henb
      repeat' (first | (with_reducible first | refine CodeS.seq ?_ | refine CodeS.region_k fun K hK => ?_ | refine opsP_go fun K2 hK2 => ?_ | refine Post.then_normal ?_ | refine Post.then_ret ?_ | refine Post.then_exit ?_ | refine Post.block_normal ?_ | refine Post.block_ret ?_ | refine Post.block_here ?_ | refine Post.scope_normal ?_ | refine Post.scope_ret ?_ | refine Post.scope_exit ?_ | refine Post.round_ret ?_ | refine Post.round_exit ?_ | refine CodeS.block ?_ | refine CodeS.skip ?_ | refine CodeS.ret ?_ | refine CodeS.exit ?_ | refine CodeS.scope ?_ | refine CodeS.label ?_) | ((with_reducible refine opsP_nil (hK _ _ ?_)); clear hK K) | ((with_reducible refine opsP_gd ?hj ?hlt fun K1 K3 d hdst h1 h3 => ?_); (case hj => rfl); (case hlt => exact Nat.le_of_ble_eq_true rfl); cases hdst; go_simp) | ((with_reducible refine CodeS.cond_k fun K1 K3 h1 h3 => ?_); go_simp) | (refine h1 ?_; clear h1 h3 K1 K3) | (refine h3 ?_; clear h1 h3 K1 K3) | ((refine Either.mk (fun hb => h1 ?_) (fun hb => h3 ?_)) <;> (clear h1 h3 K1 K3; (try have hb2 := of_decide hb); (try have hb2 := of_not_decide_lt hb); (try have hb2 := of_not_decide_le hb); (try have hb2 := of_not_decide_ltN hb); (try have hb2 := of_not_decide_leN hb))) | ((refine Either.mk (fun hb => h3 ?_) (fun hb => h1 ?_)) <;> (clear h1 h3 K1 K3; (try have hb2 := of_decide hb); (try have hb2 := of_not_decide_lt hb); (try have hb2 := of_not_decide_le hb); (try have hb2 := of_not_decide_ltN hb); (try have hb2 := of_not_decide_leN hb))) | (refine fun (K2 : _ → AHeap → Prop) hK2 => ?_) | ((with_reducible refine Post.block_off ?hn ?_); (case hn => decide)) | ((with_reducible first | refine Post.body_k ?hd (fun K hK => ?_) | refine Post.body_kn ?hd (fun K hK => ?_)); (case hd => (go_simp; done)); go_simp; refine hK _ _ ?_; clear hK K) | ((with_reducible refine CodeS.tree_lit mixed rfl ?hok 20 fun K0 hK0 => ?_); (case hok => kernel_rfl)) | (with_reducible first | exact loudsP_nil | exact stableP_nil | refine treeP_lit ?_ | refine passP_nil ?_ | refine stableP_keep ?_) | ((with_reducible first | refine passP_skip ?h1 ?_ | refine loudsP_skip ?h1 ?_ | refine stepT_more ?h1 ?_); (case h1 => rfl)) | ((with_reducible refine stepT_done ?h1 ?_); (case h1 => rfl); refine hK0 _ _ ?_; clear hK0 K0) | ((with_reducible refine passP_loud ?h1 ?hg ?hl ?_); (case h1 => rfl); (case hg => rfl); (case hl => rfl)) | ((with_reducible refine passP_q ?h1 ?hl ?hlt fun K2 hK2 => ?_); (case h1 => rfl); (case hl => rfl); (case hlt => exact Nat.le_of_ble_eq_true rfl)) | ((with_reducible refine passP_g ?h1 ?hj ?hl ?hlt fun K1 K3 d hdst h1 h3 => ?_); (case h1 => rfl); (case hj => rfl); (case hl => rfl); (case hlt => exact Nat.le_of_ble_eq_true rfl); cases hdst; go_simp) | ((with_reducible refine passP_lg ?h1 ?hj ?hl ?hlt fun K1 K3 d hdst h1 h3 => ?_); (case h1 => rfl); (case hj => rfl); (case hl => rfl); (case hlt => exact Nat.le_of_ble_eq_true rfl); cases hdst; go_simp) | ((with_reducible refine loudsP_c ?h1 ?hlt (fun K2 hK2 => ?_) ?_); (case h1 => rfl); (case hlt => exact Nat.le_of_ble_eq_true rfl)) | ((with_reducible refine loudsP_cg ?h1 ?hlt ?hj ?hw (fun K2 hK2 => ?_) ?_); (case h1 => rfl); (case hlt => exact Nat.le_of_ble_eq_true rfl); (case hj => rfl); (case hw => (go_simp; done))) | ((with_reducible refine loudsP_v ?h1 ?hv ?hlt (fun K2 hK2 => ?_) ?_); (case h1 => rfl); (case hv => rfl); (case hlt => exact Nat.le_of_ble_eq_true rfl)) | ((with_reducible refine loudsP_u ?h1 ?hv (fun K2 hK2 => ?_) ?_); (case h1 => rfl); (case hv => rfl)) | ((with_reducible refine stableP_pre ?h1 ?_); (case h1 => (first | rfl | (dsimp only; decide +kernel)))) | ((with_reducible refine stableP_re ?h1 ?_); (case h1 => (go_simp; done))) | (go_simp; (try go_bits); (try first | ((with_reducible show CallS _ _ _ _ _ _); refine CallS.mono (HF1.out _ _ HXB.out) ?_; rintro _ H2 ⟨⟨fv, rfl, hi⟩, hx⟩; (obtain ⟨-, fa, fc, rfl⟩ := hi.slice); (have XH2 : Hid (Ext Hb H2) := Lib.hid hx); (obtain ⟨z1H2, z2H2, z3H2, z4H2, z5H2, z6H2⟩ := HCS.out H2 XH2.out); clear hi hx; go_simp) | ((with_reducible show CallS _ _ _ _ _ _); refine CallS.mono (HL1.out _ _ (HXB.out.trans XH2.out)) ?_; rintro _ H3 ⟨⟨lv, rfl, hi⟩, hx⟩; (obtain ⟨-, la, lc, rfl⟩ := hi.slice); (have XH3 : Hid (Ext Hb H3) := Lib.hid (XH2.out.trans hx)); (obtain ⟨z1H3, z2H3, z3H3, z4H3, z5H3, z6H3⟩ := HCS.out H3 XH3.out); clear hi hx; go_simp)); (first | (refine hK2 _ _ ?_ ?_ <;> clear hK2 K2) | (refine hK2 _ _ ?_; clear hK2 K2))))
      all_goals rfl
  · repeat' (first | (with_reducible first | refine CodeS.seq ?_ | refine CodeS.region_k fun K hK => ?_ | refine opsP_go fun K2 hK2 => ?_ | refine Post.then_normal ?_ | refine Post.then_ret ?_ | refine Post.then_exit ?_ | refine Post.block_normal ?_ | refine Post.block_ret ?_ | refine Post.block_here ?_ | refine Post.scope_normal ?_ | refine Post.scope_ret ?_ | refine Post.scope_exit ?_ | refine Post.round_ret ?_ | refine Post.round_exit ?_ | refine CodeS.block ?_ | refine CodeS.skip ?_ | refine CodeS.ret ?_ | refine CodeS.exit ?_ | refine CodeS.scope ?_ | refine CodeS.label ?_) | ((with_reducible refine opsP_nil (hK _ _ ?_)); clear hK K) | ((with_reducible refine opsP_gd ?hj ?hlt fun K1 K3 d hdst h1 h3 => ?_); (case hj => rfl); (case hlt => exact Nat.le_of_ble_eq_true rfl); cases hdst; go_simp) | ((with_reducible refine CodeS.cond_k fun K1 K3 h1 h3 => ?_); go_simp) | (refine h1 ?_; clear h1 h3 K1 K3) | (refine h3 ?_; clear h1 h3 K1 K3) | ((refine Either.mk (fun hb => h1 ?_) (fun hb => h3 ?_)) <;> (clear h1 h3 K1 K3; (try have hb2 := of_decide hb); (try have hb2 := of_not_decide_lt hb); (try have hb2 := of_not_decide_le hb); (try have hb2 := of_not_decide_ltN hb); (try have hb2 := of_not_decide_leN hb))) | ((refine Either.mk (fun hb => h3 ?_) (fun hb => h1 ?_)) <;> (clear h1 h3 K1 K3; (try have hb2 := of_decide hb); (try have hb2 := of_not_decide_lt hb); (try have hb2 := of_not_decide_le hb); (try have hb2 := of_not_decide_ltN hb); (try have hb2 := of_not_decide_leN hb))) | (refine fun (K2 : _ → AHeap → Prop) hK2 => ?_) | ((with_reducible refine Post.block_off ?hn ?_); (case hn => decide)) | ((with_reducible first | refine Post.body_k ?hd (fun K hK => ?_) | refine Post.body_kn ?hd (fun K hK => ?_)); (case hd => (go_simp; done)); go_simp; refine hK _ _ ?_; clear hK K) | ((with_reducible refine CodeS.tree_lit mixed rfl ?hok 20 fun K0 hK0 => ?_); (case hok => kernel_rfl)) | (with_reducible first | exact loudsP_nil | exact stableP_nil | refine treeP_lit ?_ | refine passP_nil ?_ | refine stableP_keep ?_) | ((with_reducible first | refine passP_skip ?h1 ?_ | refine loudsP_skip ?h1 ?_ | refine stepT_more ?h1 ?_); (case h1 => rfl)) | ((with_reducible refine stepT_done ?h1 ?_); (case h1 => rfl); refine hK0 _ _ ?_; clear hK0 K0) | ((with_reducible refine passP_loud ?h1 ?hg ?hl ?_); (case h1 => rfl); (case hg => rfl); (case hl => rfl)) | ((with_reducible refine passP_q ?h1 ?hl ?hlt fun K2 hK2 => ?_); (case h1 => rfl); (case hl => rfl); (case hlt => exact Nat.le_of_ble_eq_true rfl)) | ((with_reducible refine passP_g ?h1 ?hj ?hl ?hlt fun K1 K3 d hdst h1 h3 => ?_); (case h1 => rfl); (case hj => rfl); (case hl => rfl); (case hlt => exact Nat.le_of_ble_eq_true rfl); cases hdst; go_simp) | ((with_reducible refine passP_lg ?h1 ?hj ?hl ?hlt fun K1 K3 d hdst h1 h3 => ?_); (case h1 => rfl); (case hj => rfl); (case hl => rfl); (case hlt => exact Nat.le_of_ble_eq_true rfl); cases hdst; go_simp) | ((with_reducible refine loudsP_c ?h1 ?hlt (fun K2 hK2 => ?_) ?_); (case h1 => rfl); (case hlt => exact Nat.le_of_ble_eq_true rfl)) | ((with_reducible refine loudsP_cg ?h1 ?hlt ?hj ?hw (fun K2 hK2 => ?_) ?_); (case h1 => rfl); (case hlt => exact Nat.le_of_ble_eq_true rfl); (case hj => rfl); (case hw => (go_simp; done))) | ((with_reducible refine loudsP_v ?h1 ?hv ?hlt (fun K2 hK2 => ?_) ?_); (case h1 => rfl); (case hv => rfl); (case hlt => exact Nat.le_of_ble_eq_true rfl)) | ((with_reducible refine loudsP_u ?h1 ?hv (fun K2 hK2 => ?_) ?_); (case h1 => rfl); (case hv => rfl)) | ((with_reducible refine stableP_pre ?h1 ?_); (case h1 => (first | rfl | (dsimp only; decide +kernel)))) | ((with_reducible refine stableP_re ?h1 ?_); (case h1 => (go_simp; done))) | (go_simp; (try go_bits); (try first | ((with_reducible show CallS _ _ _ _ _ _); refine CallS.mono head_s ?_; rintro _ _ ⟨rfl, h9⟩; rw [h9]; clear h9; go_simp) | ((with_reducible show CallS _ _ _ _ _ _); refine CallS.mono (few_s (s := s) (HV.out.ext HX1.out)) ?_; rintro _ _ ⟨rfl, h9⟩; rw [h9]; clear h9; go_simp) | ((with_reducible show CallS _ _ _ _ _ _); refine CallS.mono (brief_s (c := c) (HC.out.ext HX1.out)) ?_; rintro _ _ ⟨rfl, h9⟩; rw [h9]; clear h9; go_simp) | ((with_reducible show CallS _ _ _ _ _ _); refine CallS.mono (HCH.out _ _ HX1.out) ?_; rintro _ _ ⟨rfl, h9⟩; rw [h9]; clear h9; go_simp)); (first | (refine hK2 _ _ ?_ ?_ <;> clear hK2 K2) | (refine hK2 _ _ ?_; clear hK2 K2))))
    all_goals first | rfl | exact absurd (by simpa using ‹(errCopy s c != 0) = false›) h0
end Go.Proofs.Try
namespace Go.Proofs.Try
open Go.ChangeShapes Go.WideShapes Go.ChangeAt Go.RowKit Go.Joins Go.Deep Go.Am
set_option maxRecDepth 100000

/-! What an argument holds, as the walk wants it. -/

section
variable {H : Type} {enc : TypeId × Value → H} {P : Program} {w : World} {base : Nat} {spare : Nat → Bool} {held : Bool}
theorem open_slice_fields {t e : TypeId} {fs : Array Field} {fuel : Nat} {cs : List Value} {x : DataW H × List MemPlace} (ht : P.underlying t = some (.slice e)) (he : P.underlying e = some (.struct fs))
    (hone : oneCellFields P fs = true) (hC : P.cellsOf e = fs.size) (h : DataW.trod enc P w base spare held fuel t cs = some x) :
    (cs = [.slice none 0 0] ∧ x = (.nil, [])) ∨
    ∃ (a : Addr) (len cap m : Nat) (D : Nat → DataW H) (Pl : Nat → List MemPlace), cs = [.slice (some a) len cap] ∧ base ≤ a.block ∧ len ≤ cap ∧ cap ≤ maxLen ∧ m = (if spare a.block then cap else len) ∧
      x = (.slice ((List.range len).map D) ((List.range (m - len)).map fun j => D (len + j)), MemPlace.row a (m * fs.size) ++ (List.range m).flatMap Pl) ∧
      ∀ i, i < m → ∃ (ys : List (DataW H × List MemPlace)) (n : Nat), D i = .agg (ys.map (·.1)) ∧ Pl i = ys.flatMap (·.2) ∧ ys.length = fs.size ∧
        ∀ (j : Nat) (f : Field), fs[j]? = some f → ∃ (v : Value) (y : DataW H × List MemPlace), w.cell? (a.add (i * fs.size + j)) = some v ∧ ys[j]? = some y ∧ DataW.trod enc P w base spare held n f.type [v] = some y := by
  rcases open_slice ht h with h0 | ⟨a, len, cap, m, n, D, Pl, hcs, hb, hl, hm, hmm, hx, hi⟩
  · exact .inl h0
  · refine .inr ⟨a, len, cap, m, D, Pl, hcs, hb, hl, hm, hmm, by rw [hC] at hx; exact hx, fun i him => ?_⟩
    obtain ⟨cs', hc, ht'⟩ := hi i him
    rw [hC] at hc
    obtain ⟨ys, n', hn', hy, hlen, hyl, hf⟩ := DataW.trod_struct he ht'
    obtain ⟨_, hcl, hat⟩ := World.cells?_some hc
    simp only [Prod.mk.injEq] at hy
    refine ⟨ys, n', hy.1, hy.2, hyl, fun j f hj => ?_⟩
    obtain ⟨ho, hk⟩ := hone_of hone j f hj
    have hjl : j < fs.size := (Array.getElem?_eq_some_iff.1 hj).1
    have hcell := hat j hjl
    have hv : cs'[j]? = some (cs'[j]'(by omega)) := List.getElem?_eq_getElem (by omega)
    have h1 := hf j f hj
    rw [ho, hk] at h1
    have hone' : (cs'.drop j).take 1 = [cs'[j]'(by omega)] := by
      rw [List.drop_eq_getElem_cons (by omega)]
      rfl
    rw [hone'] at h1
    have hys : ys[j]? = some (ys[j]'(by omega)) := List.getElem?_eq_getElem (by omega)
    refine ⟨_, _, ?_, hys, h1.trans hys⟩
    rw [← Go.Deep.add_add, hcell, hv]
end
theorem add_at (b o j : Nat) : (⟨b, o, none⟩ : Addr).add j = ⟨b, o + j, none⟩ := by
  unfold Addr.add
  split
  · rename_i h; subst h; rfl
  · rfl
theorem cell_lt {w : World} {p : Addr} {v : Value} (h : w.cell? p = some v) : p.block < w.heap.size := by
  rcases Nat.lt_or_ge p.block w.heap.size with hlt | hge
  · exact hlt
  · unfold World.cell? at h
    rw [Array.getElem?_eq_none hge] at h
    cases h
theorem cell_spot {w : World} {p : Addr} {v : Value} (h : w.cell? p = some v) : p.spot = none := by
  unfold World.cell? at h
  split at h
  · split at h
    · cases h
    · rename_i h0; simpa using h0
  · cases h

theorem slice_abs {w : World} {a : Addr} {len cap size d : Nat} {us : List Value} (hl : len ≤ cap) (hc : len ≤ 9223372036854775807) (hus : us.length = len * size) (hsz : 0 < size) (hplain : ∀ (j : Nat) (u : Value), us[j]? = some u → absV w.heap.size 8 u = u) (hcell : ∀ (j : Nat) (u : Value), us[j]? = some u → w.cell? (a.add j) = some u) : Cells (absH w) (absV w.heap.size (d + 1) (.slice (some a) len cap)) size len us := by
  by_cases h0 : len = 0
  · subst h0
    simp only [absV]
    split
    · exact ⟨hus, hc, _, _, rfl, by omega⟩
    · rw [if_pos trivial]; exact ⟨hus, hc, _, _, rfl, by omega⟩
  · have hpos : 0 < us.length := by rw [hus]; exact Nat.mul_pos (by omega) hsz
    have h1 := hcell 0 _ (List.getElem?_eq_getElem hpos)
    have e0 : a.add 0 = a := by unfold Addr.add; rw [if_pos rfl]
    rw [e0] at h1
    have hsp := cell_spot h1
    have hlt := cell_lt h1
    obtain ⟨b, o, sp⟩ := a
    simp only at hsp hlt
    subst hsp
    simp only [absV]
    rw [if_pos ⟨trivial, hlt, hl⟩]
    refine ⟨hus, hc, _, _, rfl, fun _ => ⟨b, o, none, rfl, by rw [absH_n]; exact hlt, fun j u hu => ?_⟩⟩
    have h2 := hcell j u hu
    rw [add_at] at h2
    rw [abs_cell h2, hplain j u hu]

section
variable {H : Type} {enc : TypeId × Value → H} {w : World}
theorem ints_abs {fuel d : Nat} {v : Value} {x : DataW H × List MemPlace} (h : DataW.trod enc Try.prog w 0 (fun _ => true) true fuel 22 [v] = some x) : ∃ xs, Ints (absH w) (absV w.heap.size (d + 1) v) xs := by
  rcases open_ints Try.underlying22 Try.underlying3 (by kernel_rfl) h with ⟨hcs, _⟩ | ⟨a, l, c, zs, hcs, _, hl, hm, hz, _, hcell, _⟩
  · injection hcs with hcs _
    subst hcs
    exact ⟨[], rfl, by simp, none, 0, rfl, by simp⟩
  · injection hcs with hcs _
    subst hcs
    simp only [if_true] at hz
    have hlen : (zs.take l).length = l := by rw [List.length_take]; omega
    refine ⟨zs.take l, ?_⟩
    unfold Ints
    rw [hlen]
    refine slice_abs hl (by unfold maxLen at hm; omega) (by rw [List.length_map, hlen]; omega) (by decide) (fun j u hu => ?_) (fun j u hu => ?_)
    · rw [List.getElem?_map] at hu
      obtain ⟨z, _, rfl⟩ := Option.map_eq_some_iff.1 hu
      rfl
    · rw [List.getElem?_map] at hu
      obtain ⟨z, hz1, rfl⟩ := Option.map_eq_some_iff.1 hu
      rw [List.getElem?_take] at hz1
      split at hz1
      · have hj : j < zs.length := (List.getElem?_eq_some_iff.1 hz1).1
        rw [hcell j hj, List.getD_eq_getElem?_getD, hz1]
        rfl
      · cases hz1

theorem alts_abs {fuel d : Nat} {v : Value} {x : DataW H × List MemPlace} (h : DataW.trod enc Try.prog w 0 (fun _ => true) true fuel 23 [v] = some x) : ∃ l, Alts (absH w) (absV w.heap.size (d + 1) v) l := by
  rcases open_slice_fields Try.underlying23 Try.underlying61 (by kernel_rfl) (by kernel_rfl) h with ⟨hcs, _⟩ | ⟨a, len, cap, m, D, Pl, hcs, _, hl, hm, hmm, _, hf⟩
  · injection hcs with hcs _
    subst hcs
    exact ⟨[], rfl, by simp, none, 0, rfl, by simp⟩
  · injection hcs with hcs _
    subst hcs
    simp only [if_true] at hmm
    have hq : ∀ i, i < len → ∃ q : Alt, ∀ j u, q.cells[j]? = some u → w.cell? (a.add (i * 6 + j)) = some u := by
      intro i hi
      obtain ⟨ys, n, _, _, _, hj⟩ := hf i (by omega)
      obtain ⟨v0, y0, hc0, _, ht0⟩ := hj 0 _ rfl
      obtain ⟨v1, y1, hc1, _, ht1⟩ := hj 1 _ rfl
      obtain ⟨v2, y2, hc2, _, ht2⟩ := hj 2 _ rfl
      obtain ⟨v3, y3, hc3, _, ht3⟩ := hj 3 _ rfl
      obtain ⟨v4, y4, hc4, _, ht4⟩ := hj 4 _ rfl
      obtain ⟨v5, y5, hc5, _, ht5⟩ := hj 5 _ rfl
      obtain ⟨z0, hz0, _, _⟩ := DataW.trod_int Try.underlying3 ht0
      obtain ⟨z1, hz1, _, _⟩ := DataW.trod_int Try.underlying3 ht1
      obtain ⟨z2, hz2, _, _⟩ := DataW.trod_int Try.underlying3 ht2
      obtain ⟨z3, hz3, _, _⟩ := DataW.trod_int Try.underlying3 ht3
      obtain ⟨z4, hz4, _, _⟩ := DataW.trod_int Try.underlying3 ht4
      obtain ⟨z5, hz5, _, _⟩ := DataW.trod_int Try.underlying3 ht5
      injection hz0 with hz0 _
      injection hz1 with hz1 _
      injection hz2 with hz2 _
      injection hz3 with hz3 _
      injection hz4 with hz4 _
      injection hz5 with hz5 _
      subst hz0 hz1 hz2 hz3 hz4 hz5
      refine ⟨⟨z0, z1, z2, z3, z4, z5⟩, fun j u hu => ?_⟩
      match j, hu with
      | 0, hu => cases hu; exact hc0
      | 1, hu => cases hu; exact hc1
      | 2, hu => cases hu; exact hc2
      | 3, hu => cases hu; exact hc3
      | 4, hu => cases hu; exact hc4
      | 5, hu => cases hu; exact hc5
      | j + 6, hu => simp [Alt.cells] at hu
    obtain ⟨f, hf'⟩ := Classical.skolem.1 (fun i => show ∃ q : Alt, i < len → ∀ j u, q.cells[j]? = some u → w.cell? (a.add (i * 6 + j)) = some u by
      by_cases hi : i < len
      · obtain ⟨q, hq⟩ := hq i hi; exact ⟨q, fun _ => hq⟩
      · exact ⟨⟨0, 0, 0, 0, 0, 0⟩, fun h => absurd h hi⟩)
    have hlen : ((List.range len).map f).length = len := by simp
    refine ⟨(List.range len).map f, ?_⟩
    unfold Alts
    rw [hlen]
    have hget : ∀ j u, (altCells ((List.range len).map f))[j]? = some u → ∃ k i, k < len ∧ j = k * 6 + i ∧ (f k).cells[i]? = some u := by
      intro j u hu
      have hj : j < len * 6 := by
        have := (List.getElem?_eq_some_iff.1 hu).1
        rw [altCells_length, hlen] at this; exact this
      have hk : j / 6 < len := by omega
      have hi : j % 6 < 6 := Nat.mod_lt _ (by decide)
      have hcl : (f (j / 6)).cells.length = 6 := rfl
      have h1 := altCells_get ((List.range len).map f) (j / 6) (by rw [hlen]; exact hk) (j % 6) ((f (j / 6)).cells[j % 6]'(by rw [hcl]; exact hi)) (by simp)
      have e : j / 6 * 6 + j % 6 = j := by omega
      rw [e, hu] at h1
      refine ⟨j / 6, j % 6, hk, e.symm, ?_⟩
      rw [List.getElem?_eq_getElem (by rw [hcl]; exact hi)]
      exact h1.symm ▸ rfl
    refine slice_abs hl (by unfold maxLen at hm; omega) (by rw [altCells_length, hlen]) (by decide) (fun j u hu => ?_) (fun j u hu => ?_)
    · obtain ⟨k, i, hk, rfl, hi⟩ := hget j u hu
      match i, hi with
      | 0, hi => cases hi; rfl
      | 1, hi => cases hi; rfl
      | 2, hi => cases hi; rfl
      | 3, hi => cases hi; rfl
      | 4, hi => cases hi; rfl
      | 5, hi => cases hi; rfl
      | i + 6, hi => simp [Alt.cells] at hi
    · obtain ⟨k, i, hk, rfl, hi⟩ := hget j u hu
      exact hf' k hk i u hi
end

theorem ownOne : ownKnob Try.prog.godebug = none := by kernel_rfl
theorem laidOut : laidOutB Try.prog = true := by kernel_rfl

theorem fields25 : ∃ f0 f1 : Field, Try.prog.underlying 25 = some (.struct #[f0, f1]) ∧ f0.type = 22 ∧ f1.type = 23 ∧ f0.offset = 0 ∧ f1.offset = 1 ∧ Try.prog.cellsOf 22 = 1 ∧ Try.prog.cellsOf 23 = 1 ∧ Try.prog.cellsOf 25 = 2 :=
  ⟨(fieldOf Try.prog 25 0).getD default, (fieldOf Try.prog 25 1).getD default, by kernel_rfl, by kernel_rfl, by kernel_rfl, by kernel_rfl, by kernel_rfl, by kernel_rfl, by kernel_rfl, by kernel_rfl⟩

section
variable {H : Type} {enc : TypeId × Value → H} {w : World}
/-- A sheet among the arguments. -/
theorem sheet_abs {r : Reach} {b0 : Nat} {v : Value} {d : DataW H} {p : List MemPlace} (hval : Value.okWide Try.prog w r b0 25 v) (h : DataW.Trod enc Try.prog w 0 (fun _ => true) true 25 v d p) : ∃ s, SheetV (absH w) (absV w.heap.size 8 v) s := by
  obtain ⟨f0, f1, hu, h0, h1, h2, h3, h4, h5, h6⟩ := fields25
  obtain ⟨cs, rfl, hcs⟩ := okWide_struct hu hval
  obtain ⟨fuel, hf⟩ := h
  obtain ⟨y0, y1, n, _, _, ht0, ht1⟩ := trod_struct2 hu hf
  rw [h6] at hcs
  obtain ⟨a, b, rfl⟩ : ∃ a b, cs = #[a, b] := by
    obtain ⟨l⟩ := cs
    match l, hcs with
    | [a, b], _ => exact ⟨a, b, rfl⟩
  rw [h0, h2, h4] at ht0
  rw [h1, h3, h5] at ht1
  obtain ⟨xs, hx⟩ := ints_abs (d := 6) (v := a) (by simpa [Value.cells] using ht0)
  obtain ⟨l, hl⟩ := alts_abs (d := 6) (v := b) (by simpa [Value.cells] using ht1)
  exact ⟨⟨xs, l⟩, _, _, by simp [absV], hx, hl⟩
end

theorem fields27 : ∃ f0 f1 f2 f3 : Field, Try.prog.underlying 27 = some (.struct #[f0, f1, f2, f3]) ∧ (f0.type = 22 ∧ f1.type = 3 ∧ f2.type = 3 ∧ f3.type = 3) ∧ (f0.offset = 0 ∧ f1.offset = 1 ∧ f2.offset = 2 ∧ f3.offset = 3) ∧ Try.prog.cellsOf 22 = 1 ∧ Try.prog.cellsOf 3 = 1 ∧ Try.prog.cellsOf 27 = 4 :=
  ⟨(fieldOf Try.prog 27 0).getD default, (fieldOf Try.prog 27 1).getD default, (fieldOf Try.prog 27 2).getD default, (fieldOf Try.prog 27 3).getD default, by kernel_rfl, by refine ⟨?_, ?_, ?_, ?_⟩ <;> kernel_rfl, by refine ⟨?_, ?_, ?_, ?_⟩ <;> kernel_rfl, by kernel_rfl, by kernel_rfl, by kernel_rfl⟩
section
variable {H : Type} {enc : TypeId × Value → H} {w : World}
/-- A copy among the arguments. -/
theorem copy_abs {r : Reach} {b0 : Nat} {v : Value} {d : DataW H} {p : List MemPlace} (hval : Value.okWide Try.prog w r b0 27 v) (h : DataW.Trod enc Try.prog w 0 (fun _ => true) true 27 v d p) : ∃ c, CopyV (absH w) (absV w.heap.size 8 v) c := by
  obtain ⟨f0, f1, f2, f3, hu, ⟨t0, t1, t2, t3⟩, ⟨o0, o1, o2, o3⟩, h4, h5, h6⟩ := fields27
  obtain ⟨cs, rfl, hcs⟩ := okWide_struct hu hval
  obtain ⟨fuel, hf⟩ := h
  obtain ⟨xs, n, _, _, _, _, ht⟩ := DataW.trod_struct hu hf
  rw [h6] at hcs
  obtain ⟨a, b, c, e, rfl⟩ : ∃ a b c e, cs = #[a, b, c, e] := by
    obtain ⟨l⟩ := cs
    match l, hcs with
    | [a, b, c, e], _ => exact ⟨a, b, c, e, rfl⟩
  have ht0 := ht 0 f0 rfl
  have ht1 := ht 1 f1 rfl
  have ht2 := ht 2 f2 rfl
  have ht3 := ht 3 f3 rfl
  rw [t0, o0, h4] at ht0
  rw [t1, o1, h5] at ht1
  rw [t2, o2, h5] at ht2
  rw [t3, o3, h5] at ht3
  have hlen : xs.length = 4 := by assumption
  rw [List.getElem?_eq_getElem (by omega)] at ht0 ht1 ht2 ht3
  obtain ⟨ws, hx⟩ := ints_abs (d := 6) (v := a) (by simpa [Value.cells] using ht0)
  obtain ⟨z1, hz1, _, _⟩ := DataW.trod_int Try.underlying3 (show DataW.trod enc Try.prog w 0 (fun _ => true) true n 3 [b] = _ by simpa [Value.cells] using ht1)
  obtain ⟨z2, hz2, _, _⟩ := DataW.trod_int Try.underlying3 (show DataW.trod enc Try.prog w 0 (fun _ => true) true n 3 [c] = _ by simpa [Value.cells] using ht2)
  obtain ⟨z3, hz3, _, _⟩ := DataW.trod_int Try.underlying3 (show DataW.trod enc Try.prog w 0 (fun _ => true) true n 3 [e] = _ by simpa [Value.cells] using ht3)
  injection hz1 with hz1 _
  injection hz2 with hz2 _
  injection hz3 with hz3 _
  subst hz1 hz2 hz3
  exact ⟨⟨ws, z1, z2, z3⟩, _, by simp [absV], hx⟩
/-- Numbers among the arguments. -/
theorem list_abs {r : Reach} {b0 : Nat} {v : Value} {d : DataW H} {p : List MemPlace} (hval : Value.okWide Try.prog w r b0 22 v) (h : DataW.Trod enc Try.prog w 0 (fun _ => true) true 22 v d p) : ∃ xs, Ints (absH w) (absV w.heap.size 8 v) xs := by
  obtain ⟨a, len, cap, rfl⟩ := okWide_slice Try.underlying22 hval
  obtain ⟨fuel, hf⟩ := h
  exact ints_abs (d := 7) hf
end
end Go.Proofs.Try
