/- Contracts of functions, walked. -/
import Derived.Test.YtgddlpegljkgpaaStSO
set_option linter.all false
namespace Go.Proofs.Try
open Go Go.Am Go.RowKit Go.Co
set_option maxRecDepth 100000

/-! Whether a copy can have been made. -/
def Course.made (x : Course) (p : Nat) : Bool := decide ((x.early p 0).length = x.open_.length)
theorem canBeMade_s {loops : List (Nat × LInfo)} {H : AHeap} {v : Value} {x : Course} {p : Nat} (hv : CourseV H v x) (ho : x.ord) (hp : x.per = p) (hp1 : 1 ≤ p) (hn : x.open_.length ≤ 1000) : CallS Try.prog loops 85 [v] H fun r H' => r = .bool (x.made p) ∧ H' = H := by
  refine CallS.forget (R := fun v => v = .bool (x.made p)) (by rintro v rfl; rfl) ?_
  have HV := Lib.hid hv
  have HE := Lib.hid (fun (loops : List (Nat × LInfo)) (H2 : AHeap) (hx : Ext H H2) => earliest_e (loops := loops) (frm := 0) (hv.ext hx) ho hp hp1 hn)
  obtain ⟨ov, rfl, hov⟩ := hv
  obtain ⟨hol, oa, oc, rfl⟩ := hov.slice
  have hle : (x.early p 0).length ≤ x.open_.length := (early_ok (op := fun i => ins (x.at_ i)) hp1 (fun i f => x.nx_ok ho i f) x.open_.length).1
  have HLE := Lib.hid hle
  have HM : Hid (x.made p = decide ((x.early p 0).length = x.open_.length)) := Lib.hid rfl
  generalize x.early p 0 = E at HE HLE HM
  clear hov hle
  rw [hp] at HV HE
  rw [hp]
  clear hp
  refine CallS.enter' Try.func85 rfl Try.ntmps85 (by simp) fun f hd hf => ?_
  have f0 := hf 0
  simp at f0
  clear hf
  repeat' (first | (with_reducible first | refine CodeS.seq ?_ | refine CodeS.region_k fun K hK => ?_ | refine opsP_go fun K2 hK2 => ?_ | refine Post.then_normal ?_ | refine Post.then_ret ?_ | refine Post.then_exit ?_ | refine Post.block_normal ?_ | refine Post.block_ret ?_ | refine Post.block_here ?_ | refine Post.scope_normal ?_ | refine Post.scope_ret ?_ | refine Post.scope_exit ?_ | refine Post.round_ret ?_ | refine Post.round_exit ?_ | refine CodeS.block ?_ | refine CodeS.skip ?_ | refine CodeS.ret ?_ | refine CodeS.exit ?_ | refine CodeS.scope ?_ | refine CodeS.label ?_) | ((with_reducible refine opsP_nil (hK _ _ ?_)); clear hK K) | ((with_reducible refine opsP_gd ?hj ?hlt fun K1 K3 d hdst h1 h3 => ?_); (case hj => rfl); (case hlt => exact Nat.le_of_ble_eq_true rfl); cases hdst; go_simp) | ((with_reducible refine CodeS.cond_k fun K1 K3 h1 h3 => ?_); go_simp) | (refine h1 ?_; clear h1 h3 K1 K3) | (refine h3 ?_; clear h1 h3 K1 K3) | ((refine Either.mk (fun hb => h1 ?_) (fun hb => h3 ?_)) <;> (clear h1 h3 K1 K3; (try have hb2 := of_decide hb); (try have hb2 := of_not_decide_lt hb); (try have hb2 := of_not_decide_le hb); (try have hb2 := of_not_decide_ltN hb); (try have hb2 := of_not_decide_leN hb))) | ((refine Either.mk (fun hb => h3 ?_) (fun hb => h1 ?_)) <;> (clear h1 h3 K1 K3; (try have hb2 := of_decide hb); (try have hb2 := of_not_decide_lt hb); (try have hb2 := of_not_decide_le hb); (try have hb2 := of_not_decide_ltN hb); (try have hb2 := of_not_decide_leN hb))) | (refine fun (K2 : _ → AHeap → Prop) hK2 => ?_) | ((with_reducible refine Post.block_off ?hn ?_); (case hn => decide)) | ((with_reducible first | refine Post.body_k ?hd (fun K hK => ?_) | refine Post.body_kn ?hd (fun K hK => ?_)); (case hd => (go_simp; done)); go_simp; refine hK _ _ ?_; clear hK K) | ((with_reducible refine CodeS.tree_lit mixed rfl ?hok 20 fun K0 hK0 => ?_); (case hok => kernel_rfl)) | (with_reducible first | exact loudsP_nil | exact stableP_nil | refine treeP_lit ?_ | refine passP_nil ?_ | refine stableP_keep ?_) | ((with_reducible first | refine passP_skip ?h1 ?_ | refine loudsP_skip ?h1 ?_ | refine stepT_more ?h1 ?_); (case h1 => rfl)) | ((with_reducible refine stepT_done ?h1 ?_); (case h1 => rfl); refine hK0 _ _ ?_; clear hK0 K0) | ((with_reducible refine passP_loud ?h1 ?hg ?hl ?_); (case h1 => rfl); (case hg => rfl); (case hl => rfl)) | ((with_reducible refine passP_q ?h1 ?hl ?hlt fun K2 hK2 => ?_); (case h1 => rfl); (case hl => rfl); (case hlt => exact Nat.le_of_ble_eq_true rfl)) | ((with_reducible refine passP_g ?h1 ?hj ?hl ?hlt fun K1 K3 d hdst h1 h3 => ?_); (case h1 => rfl); (case hj => rfl); (case hl => rfl); (case hlt => exact Nat.le_of_ble_eq_true rfl); cases hdst; go_simp) | ((with_reducible refine passP_lg ?h1 ?hj ?hl ?hlt fun K1 K3 d hdst h1 h3 => ?_); (case h1 => rfl); (case hj => rfl); (case hl => rfl); (case hlt => exact Nat.le_of_ble_eq_true rfl); cases hdst; go_simp) | ((with_reducible refine loudsP_c ?h1 ?hlt (fun K2 hK2 => ?_) ?_); (case h1 => rfl); (case hlt => exact Nat.le_of_ble_eq_true rfl)) | ((with_reducible refine loudsP_cg ?h1 ?hlt ?hj ?hw (fun K2 hK2 => ?_) ?_); (case h1 => rfl); (case hlt => exact Nat.le_of_ble_eq_true rfl); (case hj => rfl); (case hw => (go_simp; done))) | ((with_reducible refine loudsP_v ?h1 ?hv ?hlt (fun K2 hK2 => ?_) ?_); (case h1 => rfl); (case hv => rfl); (case hlt => exact Nat.le_of_ble_eq_true rfl)) | ((with_reducible refine loudsP_u ?h1 ?hv (fun K2 hK2 => ?_) ?_); (case h1 => rfl); (case hv => rfl)) | ((with_reducible refine stableP_pre ?h1 ?_); (case h1 => (first | rfl | (dsimp only; decide +kernel)))) | ((with_reducible refine stableP_re ?h1 ?_); (case h1 => (go_simp; done))) | (go_simp; (try go_bits); (try first | ((with_reducible show CallS _ _ _ _ _ _); refine CallS.mono (HE.out _ _ (Ext.push _)) ?_; rintro ev H2 ⟨hi, hx⟩; (have HI := Lib.hid (ints_of_own hi (by have := HLE.out; omega))); (obtain ⟨-, ea, ec, rfl⟩ := HI.out.slice); (have HX := Lib.hid ((Ext.push _).trans hx)); (have hcc : cellAt H2 H.n 0 = some (Value.slice oa x.open_.length oc) := (hx.cellAt (by rw [AHeap.n_push]; omega)).trans (by rw [cellAt_new]; rfl)); (have hnn : H.n < H2.n := by have := hx.n; rw [AHeap.n_push] at this; omega); clear hi hx)); (first | (refine hK2 _ _ ?_ ?_ <;> clear hK2 K2) | (refine hK2 _ _ ?_; clear hK2 K2))))
  refine ⟨?_, HX.out⟩
  rw [HM.out]
  simp only [Value.bool.injEq]
  rw [Bool.eq_iff_iff]; simp; omega
def errCopied (s : Sheet) (c : Copy) : Int := if errCopy s c ≠ 0 then errCopy s c else if (courseOf s c).made c.per.toNat then 0 else 9

/-! The reference: the earliest days. -/
theorem nextOk_eq {p : Int → Bool} {f d e : Int} (h1 : NextOk p f d) (h2 : NextOk p f e) : d = e := by
  rcases h1 with ⟨h1, h1'⟩ | ⟨h1, h1', h1'', h1'''⟩
  · rcases h2 with ⟨h2, _⟩ | ⟨h2, h2', h2'', _⟩
    · omega
    · rw [h1' e h2'] at h2''; cases h2''
  · rcases h2 with ⟨h2, h2'⟩ | ⟨h2, h2', h2'', h2'''⟩
    · rw [h2' d h1'] at h1''; cases h1''
    · have a := h1''' e h2' h2''
      have b := h2''' d h1' h1''
      omega
theorem nx_of {s : Sheet} {c : Copy} (he : errCopy s c = 0) {i : Nat} (hi : i < c.words.length) {f d : Int} (hd : max c.beg f ≤ d) (hb : ∀ e, max c.beg f ≤ e → e < d → (hasOn s i e).offers (c.words.getD i 0) = false) (hc : d ≤ c.fin → (hasOn s i d).offers (c.words.getD i 0) = true) : (courseOf s c).nx i (max 0 f) = if d ≤ c.fin then d else 731 := by
  obtain ⟨h0, h1, h2, h3, h4, h5, h6, h7⟩ := errCopy_ok he
  refine nextOk_eq ((courseOf s c).nx_ok (courseOf_ord he) i (max 0 f)) ?_
  by_cases h : d ≤ c.fin
  · rw [if_pos h]
    refine .inr ⟨by omega, by omega, ?_, fun e h8 h9 => ?_⟩
    · rw [courseOf_ins he hi, hc h]; simp; omega
    · rw [courseOf_ins he hi] at h9
      simp only [Bool.and_eq_true, decide_eq_true_eq] at h9
      rcases Int.lt_or_le e d with h10 | h10
      · rw [hb e (by omega) h10] at h9; simp at h9
      · exact h10
  · rw [if_neg h]
    refine .inl ⟨rfl, fun e h8 => ?_⟩
    rw [courseOf_ins he hi, Bool.eq_false_iff]
    intro h9
    simp only [Bool.and_eq_true, decide_eq_true_eq] at h9
    rw [hb e (by omega) (by omega)] at h9; simp at h9
end Go.Proofs.Try
