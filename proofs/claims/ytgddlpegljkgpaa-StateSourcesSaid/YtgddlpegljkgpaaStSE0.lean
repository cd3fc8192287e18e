/- Contracts of functions, walked. -/
import Derived.Test.YtgddlpegljkgpaaStSB0
import Derived.Test.YtgddlpegljkgpaaAwB
import Derived.Test.YtgddlpegljkgpaaStCo
import Derived.Test.YtgddlpegljkgpaaStS2c
set_option linter.all false
namespace Go.Proofs.Try
open Go Go.Am Go.RowKit
set_option maxRecDepth 100000

/-! Copies, and what is wrong with them. -/

structure Copy where
  words : List Int
  beg : Int
  fin : Int
  per : Int

def CopyV (H : AHeap) (v : Value) (c : Copy) : Prop := ∃ wv, v = .agg #[wv, .int .i64 c.beg, .int .i64 c.fin, .int .i64 c.per] ∧ Ints H wv c.words
theorem CopyV.ext {H H' : AHeap} {v : Value} {c : Copy} (h : CopyV H v c) (hx : Ext H H') : CopyV H' v c := by
  obtain ⟨w, h1, h2⟩ := h
  exact ⟨w, h1, h2.ext hx⟩

theorem nat_neb {a b : Nat} : ((a : Int) != (b : Int)) = !decide (a = b) := by rw [Bool.eq_iff_iff]; simp; omega
theorem nat_eqb {a b : Nat} : ((a : Int) == (b : Int)) = decide (a = b) := by rw [Bool.eq_iff_iff]; simp; omega

theorem brief_s {loops : List (Nat × LInfo)} {H : AHeap} {cv : Value} {c : Copy} (hc : CopyV H cv c) : CallS Try.prog loops 20 [cv] H fun r H' => r = .bool (decide (c.words.length ≤ 50)) ∧ H' = H := by
  refine CallS.forget (R := fun v => v = .bool (decide (c.words.length ≤ 50))) (by rintro v rfl; rfl) ?_
  obtain ⟨wv, rfl, hw⟩ := hc
  obtain ⟨hwl, wa, wc, rfl⟩ := hw.slice
  clear hw
  refine CallS.enter' Try.func20 rfl Try.ntmps20 (by simp) fun f hd hf => ?_
  have f0 := hf 0
  simp at f0
  clear hf
  repeat' (first | (with_reducible first | refine CodeS.seq ?_ | refine CodeS.region_k fun K hK => ?_ | refine opsP_go fun K2 hK2 => ?_ | refine Post.then_normal ?_ | refine Post.then_ret ?_ | refine Post.then_exit ?_ | refine Post.block_normal ?_ | refine Post.block_ret ?_ | refine Post.block_here ?_ | refine Post.scope_normal ?_ | refine Post.scope_ret ?_ | refine Post.scope_exit ?_ | refine Post.round_ret ?_ | refine Post.round_exit ?_ | refine CodeS.block ?_ | refine CodeS.skip ?_ | refine CodeS.ret ?_ | refine CodeS.exit ?_ | refine CodeS.scope ?_ | refine CodeS.label ?_) | ((with_reducible refine opsP_nil (hK _ _ ?_)); clear hK K) | ((with_reducible refine opsP_gd ?hj ?hlt fun K1 K3 d hdst h1 h3 => ?_); (case hj => rfl); (case hlt => exact Nat.le_of_ble_eq_true rfl); cases hdst; go_simp) | ((with_reducible refine CodeS.cond_k fun K1 K3 h1 h3 => ?_); go_simp) | (refine h1 ?_; clear h1 h3 K1 K3) | (refine h3 ?_; clear h1 h3 K1 K3) | ((refine Either.mk (fun hb => h1 ?_) (fun hb => h3 ?_)) <;> (clear h1 h3 K1 K3; (try have hb2 := of_decide hb); (try have hb2 := of_not_decide_lt hb); (try have hb2 := of_not_decide_le hb); (try have hb2 := of_not_decide_ltN hb); (try have hb2 := of_not_decide_leN hb))) | ((refine Either.mk (fun hb => h3 ?_) (fun hb => h1 ?_)) <;> (clear h1 h3 K1 K3; (try have hb2 := of_decide hb); (try have hb2 := of_not_decide_lt hb); (try have hb2 := of_not_decide_le hb); (try have hb2 := of_not_decide_ltN hb); (try have hb2 := of_not_decide_leN hb))) | (refine fun (K2 : _ → AHeap → Prop) hK2 => ?_) | ((with_reducible refine Post.block_off ?hn ?_); (case hn => decide)) | ((with_reducible first | refine Post.body_k ?hd (fun K hK => ?_) | refine Post.body_kn ?hd (fun K hK => ?_)); (case hd => (go_simp; done)); go_simp; refine hK _ _ ?_; clear hK K) | (go_simp; (try go_bits); refine hK2 _ _ ?_; clear hK2 K2))
  refine ⟨?_, (Ext.refl _).push' _⟩
  simp only [Value.bool.injEq]
  rw [decide_eq_decide]; omega

def copyOk (s : Sheet) (c : Copy) : Bool := decide (c.words.length = s.words.length) && (wordsOk 0 c.words && (win 0 c.fin c.beg && (win 0 730 c.fin && win 1 40 c.per)))
def errCopy (s : Sheet) (c : Copy) : Int := if err s ≠ 0 then err s else if copyOk s c then 0 else 1
theorem errCopy_ok {s : Sheet} {c : Copy} (h : errCopy s c = 0) : err s = 0 ∧ c.words.length = s.words.length ∧ wordsOk 0 c.words = true ∧ 0 ≤ c.beg ∧ c.beg ≤ c.fin ∧ c.fin ≤ 730 ∧ 1 ≤ c.per ∧ c.per ≤ 40 := by
  unfold errCopy at h
  split at h
  · rename_i h1; exact absurd h h1
  · rename_i h1
    split at h
    · rename_i h2
      simp only [copyOk, Bool.and_eq_true, decide_eq_true_eq, win_iff] at h2
      exact ⟨by simpa using h1, h2.1, h2.2.1, h2.2.2.1.1, h2.2.2.1.2, h2.2.2.2.1.2, h2.2.2.2.2.1, h2.2.2.2.2.2⟩
    · cases h

theorem checkCopy_s {loops : List (Nat × LInfo)} {H : AHeap} {sv cv : Value} {s : Sheet} {c : Copy} (hs : SheetV H sv s) (hc : CopyV H cv c) : CallS Try.prog loops 29 [sv, cv] H fun r H' => r = .int .i64 (errCopy s c) ∧ H' = H := by
  refine CallS.forget (R := fun v => v = .int .i64 (errCopy s c)) (by rintro v rfl; rfl) ?_
  have HV := Lib.hid hs
  have HC := Lib.hid hc
  obtain ⟨wv, av, rfl, hw, ha⟩ := hs
  obtain ⟨hwl, wa, wc, rfl⟩ := hw.slice
  obtain ⟨hal, aa, ac, rfl⟩ := ha.slice
  obtain ⟨cv, rfl, hcw⟩ := hc
  obtain ⟨hcl, ca, cc, rfl⟩ := hcw.slice
  have HCW := Lib.hid hcw
  clear hw ha hcw
  generalize he : errCopy s c = er
  have HE := Lib.hid he
  clear he
  refine CallS.enter' Try.func29 rfl Try.ntmps29 (by simp) fun f hd hf => ?_
  have f0 := hf 0
  have f1 := hf 1
  simp at f0 f1
  clear hf
  repeat' (first | (with_reducible first | refine CodeS.seq ?_ | refine CodeS.region_k fun K hK => ?_ | refine opsP_go fun K2 hK2 => ?_ | refine Post.then_normal ?_ | refine Post.then_ret ?_ | refine Post.then_exit ?_ | refine Post.block_normal ?_ | refine Post.block_ret ?_ | refine Post.block_here ?_ | refine Post.scope_normal ?_ | refine Post.scope_ret ?_ | refine Post.scope_exit ?_ | refine Post.round_ret ?_ | refine Post.round_exit ?_ | refine CodeS.block ?_ | refine CodeS.skip ?_ | refine CodeS.ret ?_ | refine CodeS.exit ?_ | refine CodeS.scope ?_ | refine CodeS.label ?_) | ((with_reducible refine opsP_nil (hK _ _ ?_)); clear hK K) | ((with_reducible refine opsP_gd ?hj ?hlt fun K1 K3 d hdst h1 h3 => ?_); (case hj => rfl); (case hlt => exact Nat.le_of_ble_eq_true rfl); cases hdst; go_simp) | ((with_reducible refine CodeS.cond_k fun K1 K3 h1 h3 => ?_); go_simp) | (refine h1 ?_; clear h1 h3 K1 K3) | (refine h3 ?_; clear h1 h3 K1 K3) | ((refine Either.mk (fun hb => h1 ?_) (fun hb => h3 ?_)) <;> (clear h1 h3 K1 K3; (try have hb2 := of_decide hb); (try have hb2 := of_not_decide_lt hb); (try have hb2 := of_not_decide_le hb); (try have hb2 := of_not_decide_ltN hb); (try have hb2 := of_not_decide_leN hb))) | ((refine Either.mk (fun hb => h3 ?_) (fun hb => h1 ?_)) <;> (clear h1 h3 K1 K3; (try have hb2 := of_decide hb); (try have hb2 := of_not_decide_lt hb); (try have hb2 := of_not_decide_le hb); (try have hb2 := of_not_decide_ltN hb); (try have hb2 := of_not_decide_leN hb))) | (refine fun (K2 : _ → AHeap → Prop) hK2 => ?_) | ((with_reducible refine Post.block_off ?hn ?_); (case hn => decide)) | ((with_reducible first | refine Post.body_k ?hd (fun K hK => ?_) | refine Post.body_kn ?hd (fun K hK => ?_)); (case hd => (go_simp; done)); go_simp; refine hK _ _ ?_; clear hK K) | (go_simp; (try go_bits); (try first | ((with_reducible show CallS _ _ _ _ _ _); refine CallS.mono within_s ?_; rintro _ _ ⟨rfl, rfl⟩) | ((with_reducible show CallS _ _ _ _ _ _); refine CallS.mono (check_s (s := s) (HV.out.ext (((Ext.refl _).push' _).push' _))) ?_; rintro _ _ ⟨rfl, rfl⟩) | ((with_reducible show CallS _ _ _ _ _ _); refine CallS.mono (areWords_s (HCW.out.ext (((Ext.refl _).push' _).push' _))) ?_; rintro _ _ ⟨rfl, rfl⟩)); refine hK2 _ _ ?_; clear hK2 K2))
  all_goals
    refine ⟨?_, ((Ext.refl _).push' _).push' _⟩
    rw [← HE.out]
  · have h1 : err s ≠ 0 := by simpa using hb
    rw [errCopy, if_pos h1]
  all_goals
    have h1 : err s = 0 := by simpa using ‹(err s != 0) = false›
    rw [errCopy, if_neg (by simp [h1])]
  all_goals simp_all [copyOk, nat_neb]

end Go.Proofs.Try
