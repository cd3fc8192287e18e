/- Contracts of functions, walked. -/
import Derived.Test.YtgddlpegljkgpaaStSO
set_option linter.all false
namespace Go.Proofs.Try
open Go Go.Am Go.RowKit Go.Co
set_option maxRecDepth 100000

/-! Fits. -/
def fitAt (x : Course) (p : Nat) (days : List Int) (i : Nat) : Bool := ins (x.at_ i) (days.getD i 0) && decide (lowL p days i ≤ days.getD i 0)
def fitFrom (x : Course) (p : Nat) (days : List Int) : Nat → Nat → Option Nat
  | 0, _ => none
  | r + 1, i => if fitAt x p days i = true then fitFrom x p days r (i + 1) else some i
theorem fitFrom_none {x : Course} {p : Nat} {days : List Int} : ∀ (r i : Nat), fitFrom x p days r i = none ↔ ∀ j, i ≤ j → j < i + r → fitAt x p days j = true
  | 0, i => by simp [fitFrom]; intro j h1 h2; omega
  | r + 1, i => by
    rw [fitFrom]
    by_cases h : fitAt x p days i = true
    · rw [if_pos h, fitFrom_none r (i + 1)]
      constructor
      · intro h1 j h2 h3
        by_cases hj : j = i
        · rw [hj]; exact h
        · exact h1 j (by omega) (by omega)
      · intro h1 j h2 h3; exact h1 j (by omega) (by omega)
    · rw [if_neg h]
      constructor
      · intro h1; cases h1
      · intro h1; exact absurd (h1 i (Nat.le_refl _) (by omega)) h
def errFits (s : Sheet) (c : Copy) (days : List Int) : Int := if errCopy s c ≠ 0 then errCopy s c else if days.length = c.words.length then 0 else 1
def fitsR (s : Sheet) (c : Copy) (days : List Int) : Option Nat := fitFrom (courseOf s c) c.per.toNat days days.length 0
def fitsV (s : Sheet) (c : Copy) (days : List Int) : Value := if errFits s c days = 0 then (match fitsR s c days with | none => .tuple #[.int .i64 0, .bool true, .int .i64 0] | some i => .tuple #[.int .i64 i, .bool false, .int .i64 0]) else .tuple #[.int .i64 0, .bool false, .int .i64 (errFits s c days)]

set_option maxHeartbeats 4000000 in
theorem fits_s {loops : List (Nat × LInfo)} {H : AHeap} {sv cv dv : Value} {s : Sheet} {c : Copy} {days : List Int} (hs : SheetV H sv s) (hc : CopyV H cv c) (hdv : Ints H dv days) : CallS Try.prog loops 48 [sv, cv, dv] H fun r H' => r = fitsV s c days ∧ H' = H := by
  refine CallS.forget (R := fun v => v = fitsV s c days) (by rintro v rfl; unfold fitsV; split; (split <;> rfl); rfl) ?_
  have HV := Lib.hid hs
  have HC := Lib.hid hc
  have HD := Lib.hid hdv
  obtain ⟨wv, av, rfl, hw, ha⟩ := hs
  obtain ⟨hwl, wa, wc, rfl⟩ := hw.slice
  obtain ⟨hal, aa, ac, rfl⟩ := ha.slice
  obtain ⟨cv, rfl, hcw⟩ := hc
  obtain ⟨hcl, ca, cc, rfl⟩ := hcw.slice
  obtain ⟨hdl, da, dc, rfl⟩ := hdv.slice
  clear hw ha hcw hdv
  generalize hr : fitsV s c days = r
  have HR : Hid (r = fitsV s c days) := Lib.hid hr.symm
  clear hr
  refine CallS.enter' Try.func48 rfl Try.ntmps48 (by simp) fun f hd hf => ?_
  have f0 := hf 0
  have f1 := hf 1
  have f2 := hf 2
  simp at f0 f1 f2
  clear hf
  have HX1 : Hid (Ext H ((H.push (.row [Value.slice wa s.words.length wc, Value.slice aa s.alts.length ac] 25)).push (.row [Value.slice ca c.words.length cc, .int .i64 c.beg, .int .i64 c.fin, .int .i64 c.per] 27))) := Lib.hid (((Ext.refl _).push' _).push' _)
  repeat' (first | (with_reducible first | refine CodeS.seq ?_ | refine CodeS.region_k fun K hK => ?_ | refine opsP_go fun K2 hK2 => ?_ | refine Post.then_normal ?_ | refine Post.then_ret ?_ | refine Post.then_exit ?_ | refine Post.block_normal ?_ | refine Post.block_ret ?_ | refine Post.block_here ?_ | refine Post.scope_normal ?_ | refine Post.scope_ret ?_ | refine Post.scope_exit ?_ | refine Post.round_ret ?_ | refine Post.round_exit ?_ | refine CodeS.block ?_ | refine CodeS.skip ?_ | refine CodeS.ret ?_ | refine CodeS.exit ?_ | refine CodeS.scope ?_ | refine CodeS.label ?_) | ((with_reducible refine opsP_nil (hK _ _ ?_)); clear hK K) | ((with_reducible refine opsP_gd ?hj ?hlt fun K1 K3 d hdst h1 h3 => ?_); (case hj => rfl); (case hlt => exact Nat.le_of_ble_eq_true rfl); cases hdst; go_simp) | ((with_reducible refine CodeS.cond_k fun K1 K3 h1 h3 => ?_); go_simp) | (refine h1 ?_; clear h1 h3 K1 K3) | (refine h3 ?_; clear h1 h3 K1 K3) | ((refine Either.mk (fun hb => h1 ?_) (fun hb => h3 ?_)) <;> (clear h1 h3 K1 K3; (try have hb2 := of_decide hb); (try have hb2 := of_not_decide_lt hb); (try have hb2 := of_not_decide_le hb); (try have hb2 := of_not_decide_ltN hb); (try have hb2 := of_not_decide_leN hb))) | ((refine Either.mk (fun hb => h3 ?_) (fun hb => h1 ?_)) <;> (clear h1 h3 K1 K3; (try have hb2 := of_decide hb); (try have hb2 := of_not_decide_lt hb); (try have hb2 := of_not_decide_le hb); (try have hb2 := of_not_decide_ltN hb); (try have hb2 := of_not_decide_leN hb))) | (refine fun (K2 : _ → AHeap → Prop) hK2 => ?_) | ((with_reducible refine Post.block_off ?hn ?_); (case hn => decide)) | ((with_reducible first | refine Post.body_k ?hd (fun K hK => ?_) | refine Post.body_kn ?hd (fun K hK => ?_)); (case hd => (go_simp; done)); go_simp; refine hK _ _ ?_; clear hK K) | ((with_reducible refine CodeS.tree_lit mixed rfl ?hok 20 fun K0 hK0 => ?_); (case hok => kernel_rfl)) | (with_reducible first | exact loudsP_nil | exact stableP_nil | refine treeP_lit ?_ | refine passP_nil ?_ | refine stableP_keep ?_) | ((with_reducible first | refine passP_skip ?h1 ?_ | refine loudsP_skip ?h1 ?_ | refine stepT_more ?h1 ?_); (case h1 => rfl)) | ((with_reducible refine stepT_done ?h1 ?_); (case h1 => rfl); refine hK0 _ _ ?_; clear hK0 K0) | ((with_reducible refine passP_loud ?h1 ?hg ?hl ?_); (case h1 => rfl); (case hg => rfl); (case hl => rfl)) | ((with_reducible refine passP_q ?h1 ?hl ?hlt fun K2 hK2 => ?_); (case h1 => rfl); (case hl => rfl); (case hlt => exact Nat.le_of_ble_eq_true rfl)) | ((with_reducible refine passP_g ?h1 ?hj ?hl ?hlt fun K1 K3 d hdst h1 h3 => ?_); (case h1 => rfl); (case hj => rfl); (case hl => rfl); (case hlt => exact Nat.le_of_ble_eq_true rfl); cases hdst; go_simp) | ((with_reducible refine passP_lg ?h1 ?hj ?hl ?hlt fun K1 K3 d hdst h1 h3 => ?_); (case h1 => rfl); (case hj => rfl); (case hl => rfl); (case hlt => exact Nat.le_of_ble_eq_true rfl); cases hdst; go_simp) | ((with_reducible refine loudsP_c ?h1 ?hlt (fun K2 hK2 => ?_) ?_); (case h1 => rfl); (case hlt => exact Nat.le_of_ble_eq_true rfl)) | ((with_reducible refine loudsP_cg ?h1 ?hlt ?hj ?hw (fun K2 hK2 => ?_) ?_); (case h1 => rfl); (case hlt => exact Nat.le_of_ble_eq_true rfl); (case hj => rfl); (case hw => (go_simp; done))) | ((with_reducible refine loudsP_v ?h1 ?hv ?hlt (fun K2 hK2 => ?_) ?_); (case h1 => rfl); (case hv => rfl); (case hlt => exact Nat.le_of_ble_eq_true rfl)) | ((with_reducible refine loudsP_u ?h1 ?hv (fun K2 hK2 => ?_) ?_); (case h1 => rfl); (case hv => rfl)) | ((with_reducible refine stableP_pre ?h1 ?_); (case h1 => (first | rfl | (dsimp only; decide +kernel)))) | ((with_reducible refine stableP_re ?h1 ?_); (case h1 => (go_simp; done))) | (go_simp; (try go_bits); (try first | ((with_reducible show CallS _ _ _ _ _ _); refine CallS.mono (checkCopy_s (s := s) (c := c) (HV.out.ext HX1.out) (HC.out.ext HX1.out)) ?_; rintro _ _ ⟨rfl, h9⟩; rw [h9]; clear h9) | ((with_reducible show CallS _ _ _ _ _ _); refine CallS.mono (courseOf_e (s := s) (c := c) (HV.out.ext HX1.out) (HC.out.ext HX1.out) (by simpa using ‹(errCopy s c != 0) = false›)) ?_; rintro xv H2 ⟨hx, hx2⟩; (have HXC := Lib.hid hx); (have HX2 := Lib.hid (HX1.out.trans hx2)); (obtain ⟨ov, rfl, hov⟩ := hx); (obtain ⟨-, oa, oc, rfl⟩ := hov.slice); clear hov hx2)); (first | (refine hK2 _ _ ?_ ?_ <;> clear hK2 K2) | (refine hK2 _ _ ?_; clear hK2 K2))))
  · refine ⟨?_, HX1.out⟩
    have h1 : errCopy s c ≠ 0 := by simpa using hb
    have h2 : errFits s c days = errCopy s c := by rw [errFits, if_pos h1]
    rw [HR.out, fitsV, h2, if_neg h1]
  · refine ⟨?_, HX1.out⟩
    have h1 : errCopy s c = 0 := by simpa using ‹(errCopy s c != 0) = false›
    have h3 : ¬ days.length = c.words.length := by rw [nat_neb] at hb; simpa using hb
    have h2 : errFits s c days = 1 := by rw [errFits, if_neg (by simp [h1]), if_neg h3]
    rw [HR.out, fitsV, h2, if_neg (by decide)]
  have h1 : errCopy s c = 0 := by simpa using ‹(errCopy s c != 0) = false›
  have h3 : days.length = c.words.length := by rw [nat_neb] at hb; simpa using hb
  have h2 : errFits s c days = 0 := by rw [errFits, if_neg (by simp [h1]), if_pos h3]
  have HR2 : Hid (r = (match fitFrom (courseOf s c) c.per.toNat days days.length 0 with | none => .tuple #[.int .i64 0, .bool true, .int .i64 0] | some i => .tuple #[.int .i64 i, .bool false, .int .i64 0])) := Lib.hid (by rw [HR.out, fitsV, if_pos h2]; rfl)
  have hor := courseOf_ord h1
  obtain ⟨-, -, -, -, -, -, hp1, hp2⟩ := errCopy_ok h1
  have hper : (courseOf s c).per = ((c.per.toNat : Nat) : Int) := by show c.per = _; omega
  have hp3 : 1 ≤ c.per.toNat := by omega
  have hxl : (courseOf s c).open_.length = days.length := by rw [courseOf_len, h3]
  have HPER := Lib.hid hper
  have HXL := Lib.hid hxl
  have HOR := Lib.hid hor
  clear hper hxl hor HR h2 hp1 hp2
  clear h1 h3 HV HC
  generalize courseOf s c = x at HXC HR2 HPER HXL HOR
  generalize c.per.toNat = p at HR2 HPER hp3
  generalize hpe : x.per = pe at HXC HPER
  have HPE := Lib.hid hpe
  clear hpe
  refine CodeS.loop (fun m f H' => ∃ k : Nat, k ≤ days.length ∧ m = days.length - k ∧ f.tmp 30 = .int .i64 k ∧ f.tmp 29 = .int .i64 days.length ∧ f.tmp 28 = .slice da days.length dc ∧ f.tmp 2 = .slice da days.length dc ∧ f.tmp 10 = .pointer (some ⟨H2.n, 0, none⟩) ∧ f.defers = [] ∧ Hid (∀ j, j < k → fitAt x p days j = true) ∧ H' = H2.push (.row [Value.slice oa x.open_.length oc, .int .i64 pe] 118)) days.length ?_ ?_
  · exact ⟨0, by simp, by simp, (by first | (go_simp; done) | (go_simp; go_num; done) | assumption), (by first | (go_simp; done) | (go_simp; go_num; done) | assumption), (by first | (go_simp; done) | (go_simp; go_num; done) | assumption), (by first | (go_simp; done) | (go_simp; go_num; done) | assumption), (by first | (go_simp; done) | (go_simp; go_num; done) | assumption), (by first | (go_simp; done) | (go_simp; go_num; done) | assumption), Lib.hid (by intro j hj; omega), rfl⟩
  clear f0 f1 f2 hd f hb
  rintro m f H' ⟨k, hk, rfl, f30, f29, f28, f2, f10, hd, HF, rfl⟩
  by_cases hlt : k < days.length
  · have HLW := Lib.hid (fun (loops : List (Nat × LInfo)) => lowest_s (loops := loops) (k := k) (HXC.out.ext (Ext.push (.row [Value.slice oa x.open_.length oc, .int .i64 pe] 118))) (HD.out.ext ((HX2.out.push' _))) hk (HPE.out.trans HPER.out) hp3 (fun j hj => by
      have h := HF.out j hj
      simp only [fitAt, Bool.and_eq_true] at h
      have := ordS_ins _ (HOR.out j) _ h.1
      omega))
    have HOP := Lib.hid (fun (loops : List (Nat × LInfo)) (d : Int) => isOpen_s (loops := loops) (d := d) (HXC.out.ext (Ext.push (.row [Value.slice oa x.open_.length oc, .int .i64 pe] 118))) (show k < x.open_.length by rw [HXL.out]; exact hlt))
    obtain ⟨b, o, sp, rfl, hb, hx⟩ := (HD.out.ext HX2.out).at_ hlt
    have hgd : days.getD k 0 = days[k] := by simp [List.getD_eq_getElem?_getD, hlt]
    have HFA : Hid (fitAt x p days k = (ins (x.at_ k) days[k] && decide (lowL p days k ≤ days[k]))) := Lib.hid (by rw [fitAt, hgd])
    have HST : Hid (fitAt x p days k = false → fitFrom x p days days.length 0 = some k) := Lib.hid (fun h => by
      have go : ∀ (r i : Nat), i ≤ k → k < i + r → fitFrom x p days r i = some k := by
        intro r
        induction r with
        | zero => intro i h1 h2; omega
        | succ r ih =>
          intro i h1 h2
          rw [fitFrom]
          by_cases hik : i = k
          · subst hik; rw [if_neg (by rw [h]; simp)]
          · rw [if_pos (HF.out i (by omega))]; exact ih (i + 1) (by omega) (by omega)
      exact go days.length 0 (by omega) (by omega))
    clear hgd
    generalize lowL p days k = lw at HLW HFA
    generalize days[k] = d at hx HFA
    have hop := fun (loops : List (Nat × LInfo)) => HOP.out loops d
    generalize ins (x.at_ k) d = io at hop HFA
    have HOP2 := Lib.hid hop
    clear hop
    repeat' (first | (with_reducible first | refine CodeS.seq ?_ | refine CodeS.region_k fun K hK => ?_ | refine opsP_go fun K2 hK2 => ?_ | refine Post.then_normal ?_ | refine Post.then_ret ?_ | refine Post.then_exit ?_ | refine Post.block_normal ?_ | refine Post.block_ret ?_ | refine Post.block_here ?_ | refine Post.scope_normal ?_ | refine Post.scope_ret ?_ | refine Post.scope_exit ?_ | refine Post.round_ret ?_ | refine Post.round_exit ?_ | refine CodeS.block ?_ | refine CodeS.skip ?_ | refine CodeS.ret ?_ | refine CodeS.exit ?_ | refine CodeS.scope ?_ | refine CodeS.label ?_) | ((with_reducible refine opsP_nil (hK _ _ ?_)); clear hK K) | ((with_reducible refine opsP_gd ?hj ?hlt fun K1 K3 d hdst h1 h3 => ?_); (case hj => rfl); (case hlt => exact Nat.le_of_ble_eq_true rfl); cases hdst; go_simp) | ((with_reducible refine CodeS.cond_k fun K1 K3 h1 h3 => ?_); go_simp) | (refine h1 ?_; clear h1 h3 K1 K3) | (refine h3 ?_; clear h1 h3 K1 K3) | ((refine Either.mk (fun hb => h1 ?_) (fun hb => h3 ?_)) <;> (clear h1 h3 K1 K3; (try have hb2 := of_decide hb); (try have hb2 := of_not_decide_lt hb); (try have hb2 := of_not_decide_le hb); (try have hb2 := of_not_decide_ltN hb); (try have hb2 := of_not_decide_leN hb))) | ((refine Either.mk (fun hb => h3 ?_) (fun hb => h1 ?_)) <;> (clear h1 h3 K1 K3; (try have hb2 := of_decide hb); (try have hb2 := of_not_decide_lt hb); (try have hb2 := of_not_decide_le hb); (try have hb2 := of_not_decide_ltN hb); (try have hb2 := of_not_decide_leN hb))) | (refine fun (K2 : _ → AHeap → Prop) hK2 => ?_) | ((with_reducible refine Post.block_off ?hn ?_); (case hn => decide)) | ((with_reducible first | refine Post.body_k ?hd (fun K hK => ?_) | refine Post.body_kn ?hd (fun K hK => ?_)); (case hd => (go_simp; done)); go_simp; refine hK _ _ ?_; clear hK K) | ((with_reducible refine CodeS.tree_lit mixed rfl ?hok 20 fun K0 hK0 => ?_); (case hok => kernel_rfl)) | (with_reducible first | exact loudsP_nil | exact stableP_nil | refine treeP_lit ?_ | refine passP_nil ?_ | refine stableP_keep ?_) | ((with_reducible first | refine passP_skip ?h1 ?_ | refine loudsP_skip ?h1 ?_ | refine stepT_more ?h1 ?_); (case h1 => rfl)) | ((with_reducible refine stepT_done ?h1 ?_); (case h1 => rfl); refine hK0 _ _ ?_; clear hK0 K0) | ((with_reducible refine passP_loud ?h1 ?hg ?hl ?_); (case h1 => rfl); (case hg => rfl); (case hl => rfl)) | ((with_reducible refine passP_q ?h1 ?hl ?hlt fun K2 hK2 => ?_); (case h1 => rfl); (case hl => rfl); (case hlt => exact Nat.le_of_ble_eq_true rfl)) | ((with_reducible refine passP_g ?h1 ?hj ?hl ?hlt fun K1 K3 d hdst h1 h3 => ?_); (case h1 => rfl); (case hj => rfl); (case hl => rfl); (case hlt => exact Nat.le_of_ble_eq_true rfl); cases hdst; go_simp) | ((with_reducible refine passP_lg ?h1 ?hj ?hl ?hlt fun K1 K3 d hdst h1 h3 => ?_); (case h1 => rfl); (case hj => rfl); (case hl => rfl); (case hlt => exact Nat.le_of_ble_eq_true rfl); cases hdst; go_simp) | ((with_reducible refine loudsP_c ?h1 ?hlt (fun K2 hK2 => ?_) ?_); (case h1 => rfl); (case hlt => exact Nat.le_of_ble_eq_true rfl)) | ((with_reducible refine loudsP_cg ?h1 ?hlt ?hj ?hw (fun K2 hK2 => ?_) ?_); (case h1 => rfl); (case hlt => exact Nat.le_of_ble_eq_true rfl); (case hj => rfl); (case hw => (go_simp; done))) | ((with_reducible refine loudsP_v ?h1 ?hv ?hlt (fun K2 hK2 => ?_) ?_); (case h1 => rfl); (case hv => rfl); (case hlt => exact Nat.le_of_ble_eq_true rfl)) | ((with_reducible refine loudsP_u ?h1 ?hv (fun K2 hK2 => ?_) ?_); (case h1 => rfl); (case hv => rfl)) | ((with_reducible refine stableP_pre ?h1 ?_); (case h1 => (first | rfl | (dsimp only; decide +kernel)))) | ((with_reducible refine stableP_re ?h1 ?_); (case h1 => (go_simp; done))) | (go_simp; (try go_bits); (try first | ((with_reducible show CallS _ _ _ _ _ _); refine CallS.mono (HLW.out _) ?_; rintro _ _ ⟨rfl, rfl⟩) | ((with_reducible show CallS _ _ _ _ _ _); refine CallS.mono (HOP2.out _) ?_; rintro _ _ ⟨rfl, rfl⟩)); (first | (refine hK2 _ _ ?_ ?_ <;> clear hK2 K2) | (refine hK2 _ _ ?_; clear hK2 K2))))
    · refine ⟨?_, HX2.out.push' _⟩
      have h9 : io = false := by simpa using hb
      rw [HR2.out, HST.out (by rw [HFA.out, h9]; rfl)]
    · refine ⟨?_, HX2.out.push' _⟩
      have h9 : decide (lw ≤ d) = false := by simp; omega
      rw [HR2.out, HST.out (by rw [HFA.out, h9, Bool.and_false])]
    · refine Post.round_normal ⟨days.length - (k + 1), by omega, k + 1, by omega, rfl, (by first | (go_simp; done) | (go_simp; go_num; done) | assumption), (by first | (go_simp; done) | (go_simp; go_num; done) | assumption), (by first | (go_simp; done) | (go_simp; go_num; done) | assumption), (by first | (go_simp; done) | (go_simp; go_num; done) | assumption), (by first | (go_simp; done) | (go_simp; go_num; done) | assumption), (by first | (go_simp; done) | (go_simp; go_num; done) | assumption), Lib.hid ?_, rfl⟩
      intro j hj
      by_cases hjk : j = k
      · have h9 : decide (lw ≤ d) = true := by simp; omega
        have h8 : io = true := by simpa using ‹(!io) = false›
        rw [hjk, HFA.out, h9, h8]; rfl
      · exact HF.out j (by omega)
  · repeat' (first | (with_reducible first | refine CodeS.seq ?_ | refine CodeS.region_k fun K hK => ?_ | refine opsP_go fun K2 hK2 => ?_ | refine Post.then_normal ?_ | refine Post.then_ret ?_ | refine Post.then_exit ?_ | refine Post.block_normal ?_ | refine Post.block_ret ?_ | refine Post.block_here ?_ | refine Post.scope_normal ?_ | refine Post.scope_ret ?_ | refine Post.scope_exit ?_ | refine Post.round_ret ?_ | refine Post.round_exit ?_ | refine CodeS.block ?_ | refine CodeS.skip ?_ | refine CodeS.ret ?_ | refine CodeS.exit ?_ | refine CodeS.scope ?_ | refine CodeS.label ?_) | ((with_reducible refine opsP_nil (hK _ _ ?_)); clear hK K) | ((with_reducible refine opsP_gd ?hj ?hlt fun K1 K3 d hdst h1 h3 => ?_); (case hj => rfl); (case hlt => exact Nat.le_of_ble_eq_true rfl); cases hdst; go_simp) | ((with_reducible refine CodeS.cond_k fun K1 K3 h1 h3 => ?_); go_simp) | (refine h1 ?_; clear h1 h3 K1 K3) | (refine h3 ?_; clear h1 h3 K1 K3) | ((refine Either.mk (fun hb => h1 ?_) (fun hb => h3 ?_)) <;> (clear h1 h3 K1 K3; (try have hb2 := of_decide hb); (try have hb2 := of_not_decide_lt hb); (try have hb2 := of_not_decide_le hb); (try have hb2 := of_not_decide_ltN hb); (try have hb2 := of_not_decide_leN hb))) | ((refine Either.mk (fun hb => h3 ?_) (fun hb => h1 ?_)) <;> (clear h1 h3 K1 K3; (try have hb2 := of_decide hb); (try have hb2 := of_not_decide_lt hb); (try have hb2 := of_not_decide_le hb); (try have hb2 := of_not_decide_ltN hb); (try have hb2 := of_not_decide_leN hb))) | (refine fun (K2 : _ → AHeap → Prop) hK2 => ?_) | ((with_reducible refine Post.block_off ?hn ?_); (case hn => decide)) | ((with_reducible first | refine Post.body_k ?hd (fun K hK => ?_) | refine Post.body_kn ?hd (fun K hK => ?_)); (case hd => (go_simp; done)); go_simp; refine hK _ _ ?_; clear hK K) | ((with_reducible refine CodeS.tree_lit mixed rfl ?hok 20 fun K0 hK0 => ?_); (case hok => kernel_rfl)) | (with_reducible first | exact loudsP_nil | exact stableP_nil | refine treeP_lit ?_ | refine passP_nil ?_ | refine stableP_keep ?_) | ((with_reducible first | refine passP_skip ?h1 ?_ | refine loudsP_skip ?h1 ?_ | refine stepT_more ?h1 ?_); (case h1 => rfl)) | ((with_reducible refine stepT_done ?h1 ?_); (case h1 => rfl); refine hK0 _ _ ?_; clear hK0 K0) | ((with_reducible refine passP_loud ?h1 ?hg ?hl ?_); (case h1 => rfl); (case hg => rfl); (case hl => rfl)) | ((with_reducible refine passP_q ?h1 ?hl ?hlt fun K2 hK2 => ?_); (case h1 => rfl); (case hl => rfl); (case hlt => exact Nat.le_of_ble_eq_true rfl)) | ((with_reducible refine passP_g ?h1 ?hj ?hl ?hlt fun K1 K3 d hdst h1 h3 => ?_); (case h1 => rfl); (case hj => rfl); (case hl => rfl); (case hlt => exact Nat.le_of_ble_eq_true rfl); cases hdst; go_simp) | ((with_reducible refine passP_lg ?h1 ?hj ?hl ?hlt fun K1 K3 d hdst h1 h3 => ?_); (case h1 => rfl); (case hj => rfl); (case hl => rfl); (case hlt => exact Nat.le_of_ble_eq_true rfl); cases hdst; go_simp) | ((with_reducible refine loudsP_c ?h1 ?hlt (fun K2 hK2 => ?_) ?_); (case h1 => rfl); (case hlt => exact Nat.le_of_ble_eq_true rfl)) | ((with_reducible refine loudsP_cg ?h1 ?hlt ?hj ?hw (fun K2 hK2 => ?_) ?_); (case h1 => rfl); (case hlt => exact Nat.le_of_ble_eq_true rfl); (case hj => rfl); (case hw => (go_simp; done))) | ((with_reducible refine loudsP_v ?h1 ?hv ?hlt (fun K2 hK2 => ?_) ?_); (case h1 => rfl); (case hv => rfl); (case hlt => exact Nat.le_of_ble_eq_true rfl)) | ((with_reducible refine loudsP_u ?h1 ?hv (fun K2 hK2 => ?_) ?_); (case h1 => rfl); (case hv => rfl)) | ((with_reducible refine stableP_pre ?h1 ?_); (case h1 => (first | rfl | (dsimp only; decide +kernel)))) | ((with_reducible refine stableP_re ?h1 ?_); (case h1 => (go_simp; done))) | (go_simp; (try go_bits); (first | (refine hK2 _ _ ?_ ?_ <;> clear hK2 K2) | (refine hK2 _ _ ?_; clear hK2 K2))))
    refine ⟨?_, HX2.out.push' _⟩
    have h9 : fitFrom x p days days.length 0 = none := (fitFrom_none _ _).2 fun j _ hj => HF.out j (by omega)
    rw [HR2.out, h9]

/-! What Fits tells. -/
def FitsOk (s : Sheet) (c : Copy) (days : List Int) : Prop := errFits s c days = 0 ∧ fitsR s c days = none
def opOf (s : Sheet) (c : Copy) (i : Nat) (d : Int) : Bool := ins ((courseOf s c).at_ i) d
theorem opOf_in {s : Sheet} {c : Copy} (h : errCopy s c = 0) (i : Nat) (d : Int) (ho : opOf s c i d = true) : 0 ≤ d ∧ d ≤ 730 := ordS_ins _ (courseOf_ord h i) d ho
theorem errFits_ok {s : Sheet} {c : Copy} {days : List Int} (h : errFits s c days = 0) : errCopy s c = 0 ∧ days.length = c.words.length := by
  unfold errFits at h
  split at h
  · rename_i h1; exact absurd h h1
  · rename_i h1
    split at h
    · rename_i h2; exact ⟨by simpa using h1, h2⟩
    · cases h
theorem fitsR_iff {s : Sheet} {c : Copy} {days : List Int} : fitsR s c days = none ↔ FitTo (opOf s c) c.per.toNat days days.length := by
  unfold fitsR
  rw [fitFrom_none]
  simp only [fitAt, Bool.and_eq_true, decide_eq_true_eq, Nat.zero_add, FitTo, opOf]
  exact ⟨fun h i hi => h i (Nat.zero_le _) hi, fun h i _ hi => h i hi⟩
theorem fitsV_ok {s : Sheet} {c : Copy} {days : List Int} (h : errFits s c days = 0) (hf : FitTo (opOf s c) c.per.toNat days days.length) : fitsV s c days = .tuple #[.int .i64 0, .bool true, .int .i64 0] := by
  rw [fitsV, if_pos h, fitsR_iff.2 hf]
end Go.Proofs.Try
