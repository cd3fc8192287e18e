/- Contracts of functions, walked. -/
import Derived.Test.YtgddlpegljkgpaaStS6
set_option linter.all false
namespace Go.Proofs.Try
open Go Go.Am Go.RowKit
set_option maxRecDepth 100000

/-! Reads: find, and the rest. -/

def zeroS : Str := ⟨0, 0, ⟨0, 0, false⟩⟩
def findS (l : List Str) (day : Int) : Option Str := l.find? fun x => decide (day ≤ x.hi)

theorem find_e {loops : List (Nat × LInfo)} {H : AHeap} {lv : Value} {l : List Str} {q : Nat} {day : Int} (hl : Strs H lv l) (hq : q < H.n) (hg : cellAt H q 0 = some (.int .i64 day)) : CallS Try.prog loops 103 [lv, .func (.func 104) #[] #[.pointer (some ⟨q, 0, none⟩)]] H fun v H' => v = .tuple #[((findS l day).getD zeroS).val, .bool (findS l day).isSome] ∧ Ext H H' := by
  obtain ⟨hlen, a, c, rfl⟩ := hl.slice
  have HV := Lib.hid hl
  clear hl
  generalize he : findS l day = er
  have HE := Lib.hid he
  clear he
  refine CallS.enter' Try.func103 rfl Try.ntmps103 (by simp) fun f hd hf => ?_
  have f0 := hf 0
  have f1 := hf 1
  simp at f0 f1
  clear hf
  repeat' (first | (with_reducible first | refine CodeS.seq ?_ | refine CodeS.region_k fun K hK => ?_ | refine opsP_go fun K2 hK2 => ?_ | refine Post.then_normal ?_ | refine Post.then_ret ?_ | refine Post.then_exit ?_ | refine Post.block_normal ?_ | refine Post.block_ret ?_ | refine Post.block_here ?_ | refine Post.scope_normal ?_ | refine Post.scope_ret ?_ | refine Post.scope_exit ?_ | refine Post.round_ret ?_ | refine Post.round_exit ?_ | refine CodeS.block ?_ | refine CodeS.skip ?_ | refine CodeS.ret ?_ | refine CodeS.exit ?_ | refine CodeS.scope ?_ | refine CodeS.label ?_) | ((with_reducible refine opsP_nil (hK _ _ ?_)); clear hK K) | ((with_reducible refine opsP_gd ?hj ?hlt fun K1 K3 d hdst h1 h3 => ?_); (case hj => rfl); (case hlt => exact Nat.le_of_ble_eq_true rfl); cases hdst; go_simp) | ((with_reducible refine CodeS.cond_k fun K1 K3 h1 h3 => ?_); go_simp) | (refine h1 ?_; clear h1 h3 K1 K3) | (refine h3 ?_; clear h1 h3 K1 K3) | ((refine Either.mk (fun hb => h1 ?_) (fun hb => h3 ?_)) <;> (clear h1 h3 K1 K3; (try have hb2 := of_decide hb); (try have hb2 := of_not_decide_lt hb); (try have hb2 := of_not_decide_le hb); (try have hb2 := of_not_decide_ltN hb); (try have hb2 := of_not_decide_leN hb))) | ((refine Either.mk (fun hb => h3 ?_) (fun hb => h1 ?_)) <;> (clear h1 h3 K1 K3; (try have hb2 := of_decide hb); (try have hb2 := of_not_decide_lt hb); (try have hb2 := of_not_decide_le hb); (try have hb2 := of_not_decide_ltN hb); (try have hb2 := of_not_decide_leN hb))) | (refine fun (K2 : _ → AHeap → Prop) hK2 => ?_) | ((with_reducible refine Post.block_off ?hn ?_); (case hn => decide)) | ((with_reducible first | refine Post.body_k ?hd (fun K hK => ?_) | refine Post.body_kn ?hd (fun K hK => ?_)); (case hd => (go_simp; done)); go_simp; refine hK _ _ ?_; clear hK K) | (go_simp; (try go_bits); refine hK2 _ _ ?_; clear hK2 K2))
  refine CodeS.loop (fun m f H' => ∃ k : Nat, k ≤ l.length ∧ m = l.length - k ∧ f.tmp 11 = .int .i64 k ∧ f.tmp 9 = .slice a l.length c ∧ f.tmp 10 = .int .i64 l.length ∧ f.tmp 1 = .func (.func 104) #[] #[.pointer (some ⟨q, 0, none⟩)] ∧ f.tmp 4 = .pointer (some ⟨H.n, 0, none⟩) ∧ f.defers = [] ∧ H.n < H'.n ∧ H'.get H.n = .row [.int .i64 0, .int .i64 0, .int .i64 0, .int .i64 0, .bool false] 149 ∧ Hid (findS (l.drop k) day = er) ∧ Hid (Ext H H')) l.length ?_ ?_
  · exact ⟨0, by simp, by simp, (by first | (go_simp; done) | (go_simp; go_num; done) | assumption), (by first | (go_simp; done) | (go_simp; go_num; done) | assumption), (by first | (go_simp; done) | (go_simp; go_num; done) | assumption), (by first | (go_simp; done) | (go_simp; go_num; done) | assumption), (by first | (go_simp; done) | (go_simp; go_num; done) | assumption), (by first | (go_simp; done) | (go_simp; go_num; done) | assumption), by rw [AHeap.n_push]; omega, AHeap.get_push_new, Lib.hid (by simpa using HE.out), Lib.hid (Ext.push _)⟩
  clear f0 f1 hd f HE
  rintro m f H' ⟨k, hk, rfl, f11, f9, f10, f1, f4, hd, hn, hg4, HG, HX⟩
  have hq' : q < H'.n := Nat.lt_of_lt_of_le hq HX.out.n
  have hg' : cellAt H' q 0 = some (.int .i64 day) := (HX.out.cellAt hq).trans hg
  have hne : (H'.n = H.n) = False := by simp; omega
  have hne' : (H.n = H'.n) = False := by simp; omega
  by_cases hlt : k < l.length
  · obtain ⟨b, o, sp, rfl, hb, hx⟩ := (HV.out.ext HX.out).at_ hlt
    have HD := Lib.hid (List.drop_eq_getElem_cons hlt)
    generalize l[k] = y at hx HD
    obtain ⟨lo, hi, ⟨ct, cm, cl⟩⟩ := y
    simp only [Str.cells] at hx
    repeat' (first | (with_reducible first | refine CodeS.seq ?_ | refine CodeS.region_k fun K hK => ?_ | refine opsP_go fun K2 hK2 => ?_ | refine Post.then_normal ?_ | refine Post.then_ret ?_ | refine Post.then_exit ?_ | refine Post.block_normal ?_ | refine Post.block_ret ?_ | refine Post.block_here ?_ | refine Post.scope_normal ?_ | refine Post.scope_ret ?_ | refine Post.scope_exit ?_ | refine Post.round_ret ?_ | refine Post.round_exit ?_ | refine CodeS.block ?_ | refine CodeS.skip ?_ | refine CodeS.ret ?_ | refine CodeS.exit ?_ | refine CodeS.scope ?_ | refine CodeS.label ?_) | ((with_reducible refine opsP_nil (hK _ _ ?_)); clear hK K) | ((with_reducible refine opsP_gd ?hj ?hlt fun K1 K3 d hdst h1 h3 => ?_); (case hj => rfl); (case hlt => exact Nat.le_of_ble_eq_true rfl); cases hdst; go_simp) | ((with_reducible refine CodeS.cond_k fun K1 K3 h1 h3 => ?_); go_simp) | (refine h1 ?_; clear h1 h3 K1 K3) | (refine h3 ?_; clear h1 h3 K1 K3) | ((refine Either.mk (fun hb => h1 ?_) (fun hb => h3 ?_)) <;> (clear h1 h3 K1 K3; (try have hb2 := of_decide hb); (try have hb2 := of_not_decide_lt hb); (try have hb2 := of_not_decide_le hb); (try have hb2 := of_not_decide_ltN hb); (try have hb2 := of_not_decide_leN hb))) | ((refine Either.mk (fun hb => h3 ?_) (fun hb => h1 ?_)) <;> (clear h1 h3 K1 K3; (try have hb2 := of_decide hb); (try have hb2 := of_not_decide_lt hb); (try have hb2 := of_not_decide_le hb); (try have hb2 := of_not_decide_ltN hb); (try have hb2 := of_not_decide_leN hb))) | (refine fun (K2 : _ → AHeap → Prop) hK2 => ?_) | ((with_reducible refine Post.block_off ?hn ?_); (case hn => decide)) | ((with_reducible first | refine Post.body_k ?hd (fun K hK => ?_) | refine Post.body_kn ?hd (fun K hK => ?_)); (case hd => (go_simp; done)); go_simp; refine hK _ _ ?_; clear hK K) | (go_simp; (try go_bits); (try first | ((with_reducible show CallS _ _ _ _ _ _); refine CallS.mono (until_s (x := ⟨lo, hi, ⟨ct, cm, cl⟩⟩) (day := day) (by rw [AHeap.n_push]; omega) (by rw [cellAt_old hq']; exact hg')) ?_; rintro _ _ ⟨rfl, rfl⟩)); refine hK2 _ _ ?_; clear hK2 K2))
    · have hh : day ≤ hi := by simpa using hb
      have hr : er = some ⟨lo, hi, ⟨ct, cm, cl⟩⟩ := by
        rw [← HG.out, HD.out, findS, List.find?_cons]; simp [hh]
      rw [hr]
      exact ⟨rfl, (HX.out.upd (Nat.le_refl _) _).push' _⟩
    · have hh : ¬ day ≤ hi := by simpa using hb
      refine Post.round_normal ⟨l.length - (k + 1), by omega, k + 1, by omega, rfl, (by first | (go_simp; done) | (go_simp; go_num; done) | assumption), (by first | (go_simp; done) | (go_simp; go_num; done) | assumption), (by first | (go_simp; done) | (go_simp; go_num; done) | assumption), (by first | (go_simp; done) | (go_simp; go_num; done) | assumption), (by first | (go_simp; done) | (go_simp; go_num; done) | assumption), (by first | (go_simp; done) | (go_simp; go_num; done) | assumption), ?_, ?_, Lib.hid ?_, Lib.hid (HX.out.push' _)⟩
      · rw [AHeap.n_push]; omega
      · rw [AHeap.get_push_old hn]; exact hg4
      · rw [← HG.out, HD.out, findS, findS, List.find?_cons]; simp [hh]
  · repeat' (first | (with_reducible first | refine CodeS.seq ?_ | refine CodeS.region_k fun K hK => ?_ | refine opsP_go fun K2 hK2 => ?_ | refine Post.then_normal ?_ | refine Post.then_ret ?_ | refine Post.then_exit ?_ | refine Post.block_normal ?_ | refine Post.block_ret ?_ | refine Post.block_here ?_ | refine Post.scope_normal ?_ | refine Post.scope_ret ?_ | refine Post.scope_exit ?_ | refine Post.round_ret ?_ | refine Post.round_exit ?_ | refine CodeS.block ?_ | refine CodeS.skip ?_ | refine CodeS.ret ?_ | refine CodeS.exit ?_ | refine CodeS.scope ?_ | refine CodeS.label ?_) | ((with_reducible refine opsP_nil (hK _ _ ?_)); clear hK K) | ((with_reducible refine opsP_gd ?hj ?hlt fun K1 K3 d hdst h1 h3 => ?_); (case hj => rfl); (case hlt => exact Nat.le_of_ble_eq_true rfl); cases hdst; go_simp) | ((with_reducible refine CodeS.cond_k fun K1 K3 h1 h3 => ?_); go_simp) | (refine h1 ?_; clear h1 h3 K1 K3) | (refine h3 ?_; clear h1 h3 K1 K3) | ((refine Either.mk (fun hb => h1 ?_) (fun hb => h3 ?_)) <;> (clear h1 h3 K1 K3; (try have hb2 := of_decide hb); (try have hb2 := of_not_decide_lt hb); (try have hb2 := of_not_decide_le hb); (try have hb2 := of_not_decide_ltN hb); (try have hb2 := of_not_decide_leN hb))) | ((refine Either.mk (fun hb => h3 ?_) (fun hb => h1 ?_)) <;> (clear h1 h3 K1 K3; (try have hb2 := of_decide hb); (try have hb2 := of_not_decide_lt hb); (try have hb2 := of_not_decide_le hb); (try have hb2 := of_not_decide_ltN hb); (try have hb2 := of_not_decide_leN hb))) | (refine fun (K2 : _ → AHeap → Prop) hK2 => ?_) | ((with_reducible refine Post.block_off ?hn ?_); (case hn => decide)) | ((with_reducible first | refine Post.body_k ?hd (fun K hK => ?_) | refine Post.body_kn ?hd (fun K hK => ?_)); (case hd => (go_simp; done)); go_simp; refine hK _ _ ?_; clear hK K) | (go_simp; (try go_bits); refine hK2 _ _ ?_; clear hK2 K2))
    have hr : er = none := by rw [← HG.out, List.drop_eq_nil_of_le (by omega)]; rfl
    rw [hr]
    exact ⟨rfl, (HX.out.upd (Nat.le_refl _) _).push' _⟩

theorem readDay_e {loops : List (Nat × LInfo)} {H : AHeap} {p : Nat} {lv : Value} {l : List Str} {day : Int} (hp : p < H.n) (hg : H.get p = .row [lv] 143) (hl : Strs H lv l) : CallS Try.prog loops 102 [.int .i64 day, .pointer (some ⟨p, 0, none⟩)] H fun v H' => Ints H' v ((findS l day).getD zeroS).has.reads ∧ Ext H H' := by
  obtain ⟨hlen, a, c, rfl⟩ := hl.slice
  have HV := Lib.hid hl
  have hc : cellAt H p 0 = some (.slice a l.length c) := by simp [cellAt, hg]
  clear hl hg
  refine CallS.enter' Try.func102 rfl Try.ntmps102 (by simp) fun f hd hf => ?_
  have f0 := hf 0
  have f1 := hf 1
  simp at f0 f1
  clear hf
  generalize hx : (findS l day).getD zeroS = x
  have HX := Lib.hid hx
  clear hx
  obtain ⟨lo, hi, ⟨ct, cm, cl⟩⟩ := x
  repeat' (first | (with_reducible first | refine CodeS.seq ?_ | refine CodeS.region_k fun K hK => ?_ | refine opsP_go fun K2 hK2 => ?_ | refine Post.then_normal ?_ | refine Post.then_ret ?_ | refine Post.then_exit ?_ | refine Post.block_normal ?_ | refine Post.block_ret ?_ | refine Post.block_here ?_ | refine Post.scope_normal ?_ | refine Post.scope_ret ?_ | refine Post.scope_exit ?_ | refine Post.round_ret ?_ | refine Post.round_exit ?_ | refine CodeS.block ?_ | refine CodeS.skip ?_ | refine CodeS.ret ?_ | refine CodeS.exit ?_ | refine CodeS.scope ?_ | refine CodeS.label ?_) | ((with_reducible refine opsP_nil (hK _ _ ?_)); clear hK K) | ((with_reducible refine opsP_gd ?hj ?hlt fun K1 K3 d hdst h1 h3 => ?_); (case hj => rfl); (case hlt => exact Nat.le_of_ble_eq_true rfl); cases hdst; go_simp) | ((with_reducible refine CodeS.cond_k fun K1 K3 h1 h3 => ?_); go_simp) | (refine h1 ?_; clear h1 h3 K1 K3) | (refine h3 ?_; clear h1 h3 K1 K3) | ((refine Either.mk (fun hb => h1 ?_) (fun hb => h3 ?_)) <;> (clear h1 h3 K1 K3; (try have hb2 := of_decide hb); (try have hb2 := of_not_decide_lt hb); (try have hb2 := of_not_decide_le hb); (try have hb2 := of_not_decide_ltN hb); (try have hb2 := of_not_decide_leN hb))) | ((refine Either.mk (fun hb => h3 ?_) (fun hb => h1 ?_)) <;> (clear h1 h3 K1 K3; (try have hb2 := of_decide hb); (try have hb2 := of_not_decide_lt hb); (try have hb2 := of_not_decide_le hb); (try have hb2 := of_not_decide_ltN hb); (try have hb2 := of_not_decide_leN hb))) | (refine fun (K2 : _ → AHeap → Prop) hK2 => ?_) | ((with_reducible refine Post.block_off ?hn ?_); (case hn => decide)) | ((with_reducible first | refine Post.body_k ?hd (fun K hK => ?_) | refine Post.body_kn ?hd (fun K hK => ?_)); (case hd => (go_simp; done)); go_simp; refine hK _ _ ?_; clear hK K) | (go_simp; (try go_bits); (try first | ((with_reducible show CallS _ _ _ _ _ _); refine CallS.mono (find_e (day := day) (HV.out.ext (Ext.push _)) (by rw [AHeap.n_push]; omega) (by rw [cellAt_new]; rfl)) ?_; rintro _ H2 ⟨rfl, hx⟩; (have HX2 := Lib.hid hx); rw [HX.out]; clear hx; go_simp) | ((with_reducible show CallS _ _ _ _ _ _); refine CallS.mono (reads_e (c := ⟨ct, cm, cl⟩)) ?_; rintro v H3 ⟨hi, hx⟩; (have HI := Lib.hid hi); (have HX3 := Lib.hid hx); clear hi hx; go_simp)); refine hK2 _ _ ?_; clear hK2 K2))
  exact ⟨HI.out, (Ext.push _).trans (HX2.out.trans ((Ext.push _).trans HX3.out))⟩

def readsErr (s : Sheet) (line day : Int) : Int := if errLine s line = 0 then (if win 0 730 day then 0 else 1) else errLine s line
def readsAt (s : Sheet) (line day : Int) : List Int := if readsErr s line day = 0 then ((findS (strs s line) day).getD zeroS).has.reads else []

theorem errLine_ok {s : Sheet} {line : Int} (h : errLine s line = 0) : err s = 0 ∧ 0 ≤ line ∧ line < s.words.length := by
  unfold errLine at h
  by_cases he : err s = 0
  · rw [if_neg (by simp [he])] at h
    by_cases hw : win 0 (s.words.length - 1) line = true
    · have := win_iff.1 hw
      exact ⟨he, this.1, by omega⟩
    · rw [if_neg hw] at h; cases h
  · rw [if_pos he] at h; exact absurd h he

theorem readsFn_e {loops : List (Nat × LInfo)} {H : AHeap} {sv : Value} {s : Sheet} {line day : Int} (hv : SheetV H sv s) : CallS Try.prog loops 21 [sv, .int .i64 line, .int .i64 day] H fun r H' => ∃ v, r = .tuple #[v, .int .i64 (readsErr s line day)] ∧ Ints H' v (readsAt s line day) ∧ Ext H H' := by
  have HV := Lib.hid hv
  obtain ⟨wv, av, rfl, hw, ha⟩ := hv
  obtain ⟨hwl, wa, wc, rfl⟩ := hw.slice
  obtain ⟨hal, aa, ac, rfl⟩ := ha.slice
  clear hw ha
  refine CallS.enter' Try.func21 rfl Try.ntmps21 (by simp) fun f hd hf => ?_
  have f0 := hf 0
  have f1 := hf 1
  have f2 := hf 2
  simp at f0 f1 f2
  clear hf
  have hnil : ∀ H : AHeap, Ints H (.slice none 0 0) [] := fun H => ⟨rfl, by simp, none, 0, rfl, by simp⟩
  have HNIL := Lib.hid hnil
  clear hnil
  have HEE : Hid (∀ h : errLine s line = 0, win 0 730 day = true → readsErr s line day = 0) := Lib.hid fun h1 h2 => by rw [readsErr, if_pos h1, if_pos h2]
  repeat' (first | (with_reducible first | refine CodeS.seq ?_ | refine CodeS.region_k fun K hK => ?_ | refine opsP_go fun K2 hK2 => ?_ | refine Post.then_normal ?_ | refine Post.then_ret ?_ | refine Post.then_exit ?_ | refine Post.block_normal ?_ | refine Post.block_ret ?_ | refine Post.block_here ?_ | refine Post.scope_normal ?_ | refine Post.scope_ret ?_ | refine Post.scope_exit ?_ | refine Post.round_ret ?_ | refine Post.round_exit ?_ | refine CodeS.block ?_ | refine CodeS.skip ?_ | refine CodeS.ret ?_ | refine CodeS.exit ?_ | refine CodeS.scope ?_ | refine CodeS.label ?_) | ((with_reducible refine opsP_nil (hK _ _ ?_)); clear hK K) | ((with_reducible refine opsP_gd ?hj ?hlt fun K1 K3 d hdst h1 h3 => ?_); (case hj => rfl); (case hlt => exact Nat.le_of_ble_eq_true rfl); cases hdst; go_simp) | ((with_reducible refine CodeS.cond_k fun K1 K3 h1 h3 => ?_); go_simp) | (refine h1 ?_; clear h1 h3 K1 K3) | (refine h3 ?_; clear h1 h3 K1 K3) | ((refine Either.mk (fun hb => h1 ?_) (fun hb => h3 ?_)) <;> (clear h1 h3 K1 K3; (try have hb2 := of_decide hb); (try have hb2 := of_not_decide_lt hb); (try have hb2 := of_not_decide_le hb); (try have hb2 := of_not_decide_ltN hb); (try have hb2 := of_not_decide_leN hb))) | ((refine Either.mk (fun hb => h3 ?_) (fun hb => h1 ?_)) <;> (clear h1 h3 K1 K3; (try have hb2 := of_decide hb); (try have hb2 := of_not_decide_lt hb); (try have hb2 := of_not_decide_le hb); (try have hb2 := of_not_decide_ltN hb); (try have hb2 := of_not_decide_leN hb))) | (refine fun (K2 : _ → AHeap → Prop) hK2 => ?_) | ((with_reducible refine Post.block_off ?hn ?_); (case hn => decide)) | ((with_reducible first | refine Post.body_k ?hd (fun K hK => ?_) | refine Post.body_kn ?hd (fun K hK => ?_)); (case hd => (go_simp; done)); go_simp; refine hK _ _ ?_; clear hK K) | (go_simp; (try go_bits); (try first | ((with_reducible show CallS _ _ _ _ _ _); refine CallS.mono (checkLine_s (s := s) (HV.out.ext ((Ext.refl _).push' _))) ?_; rintro _ _ ⟨rfl, rfl⟩; go_simp) | ((with_reducible show CallS _ _ _ _ _ _); refine CallS.mono within_s ?_; rintro _ _ ⟨rfl, rfl⟩; go_simp)); refine hK2 _ _ ?_; clear hK2 K2))
  · have h1 : ¬ errLine s line = 0 := by simpa using hb
    have h2 : readsErr s line day = errLine s line := by rw [readsErr, if_neg h1]
    exact ⟨_, by rw [h2], by rw [readsAt, h2, if_neg h1]; exact HNIL.out _, Ext.push _⟩
  · have h1 : errLine s line = 0 := by simpa using ‹(errLine s line != 0) = false›
    have h3 : ¬ win 0 730 day = true := by simpa using hb
    have h2 : readsErr s line day = 1 := by rw [readsErr, if_pos h1, if_neg h3]
    exact ⟨_, by rw [h2], by rw [readsAt, h2, if_neg (by decide)]; exact HNIL.out _, Ext.push _⟩
  · have h1 : errLine s line = 0 := by simpa using ‹(errLine s line != 0) = false›
    have h3 : win 0 730 day = true := by simpa using hb
    have h2 : readsErr s line day = 0 := by rw [readsErr, if_pos h1, if_pos h3]
    obtain ⟨he, hl0, hl1⟩ := errLine_ok h1
    repeat' (first | (with_reducible first | refine CodeS.seq ?_ | refine CodeS.region_k fun K hK => ?_ | refine opsP_go fun K2 hK2 => ?_ | refine Post.then_normal ?_ | refine Post.then_ret ?_ | refine Post.then_exit ?_ | refine Post.block_normal ?_ | refine Post.block_ret ?_ | refine Post.block_here ?_ | refine Post.scope_normal ?_ | refine Post.scope_ret ?_ | refine Post.scope_exit ?_ | refine Post.round_ret ?_ | refine Post.round_exit ?_ | refine CodeS.block ?_ | refine CodeS.skip ?_ | refine CodeS.ret ?_ | refine CodeS.exit ?_ | refine CodeS.scope ?_ | refine CodeS.label ?_) | ((with_reducible refine opsP_nil (hK _ _ ?_)); clear hK K) | ((with_reducible refine opsP_gd ?hj ?hlt fun K1 K3 d hdst h1 h3 => ?_); (case hj => rfl); (case hlt => exact Nat.le_of_ble_eq_true rfl); cases hdst; go_simp) | ((with_reducible refine CodeS.cond_k fun K1 K3 h1 h3 => ?_); go_simp) | (refine h1 ?_; clear h1 h3 K1 K3) | (refine h3 ?_; clear h1 h3 K1 K3) | ((refine Either.mk (fun hb => h1 ?_) (fun hb => h3 ?_)) <;> (clear h1 h3 K1 K3; (try have hb2 := of_decide hb); (try have hb2 := of_not_decide_lt hb); (try have hb2 := of_not_decide_le hb); (try have hb2 := of_not_decide_ltN hb); (try have hb2 := of_not_decide_leN hb))) | ((refine Either.mk (fun hb => h3 ?_) (fun hb => h1 ?_)) <;> (clear h1 h3 K1 K3; (try have hb2 := of_decide hb); (try have hb2 := of_not_decide_lt hb); (try have hb2 := of_not_decide_le hb); (try have hb2 := of_not_decide_ltN hb); (try have hb2 := of_not_decide_leN hb))) | (refine fun (K2 : _ → AHeap → Prop) hK2 => ?_) | ((with_reducible refine Post.block_off ?hn ?_); (case hn => decide)) | ((with_reducible first | refine Post.body_k ?hd (fun K hK => ?_) | refine Post.body_kn ?hd (fun K hK => ?_)); (case hd => (go_simp; done)); go_simp; refine hK _ _ ?_; clear hK K) | (go_simp; (try go_bits); (try first | ((with_reducible show CallS _ _ _ _ _ _); refine CallS.mono (history_e (s := s) (HV.out.ext (Ext.push _)) hl0 hl1 he) ?_; rintro _ H2 ⟨⟨p, lv, rfl, hp, hgp, hls⟩, hx⟩; (have HX2 := Lib.hid hx); (have HLS := Lib.hid hls); (have HGP := Lib.hid hgp); clear hx hls hgp; go_simp) | ((with_reducible show CallS _ _ _ _ _ _); refine CallS.mono (readDay_e hp HGP.out HLS.out) ?_; rintro v H3 ⟨hi, hx⟩; (have HI := Lib.hid hi); (have HX3 := Lib.hid hx); clear hi hx; go_simp)); refine hK2 _ _ ?_; clear hK2 K2))
    exact ⟨_, by rw [h2], by rw [readsAt, if_pos h2]; exact HI.out, (Ext.push _).trans (HX2.out.trans HX3.out)⟩
end Go.Proofs.Try
