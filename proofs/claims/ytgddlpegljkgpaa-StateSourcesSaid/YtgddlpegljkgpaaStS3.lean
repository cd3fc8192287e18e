/- Contracts of functions, walked. -/
import Derived.Test.YtgddlpegljkgpaaStS2b
import Derived.Test.YtgddlpegljkgpaaAwB
set_option linter.all false
namespace Go.Proofs.Try
open Go Go.Am Go.RowKit
set_option maxRecDepth 100000

/-! What a line has: after a change, what it reads, what it offers. -/

theorem after_e {loops : List (Nat × LInfo)} {H : AHeap} {c : Has} {a : Alt} : CallS Try.prog loops 123 [c.val, a.val] H fun v H' => v = (c.after a).val ∧ Ext H H' := by
  obtain ⟨ct, cm, cl⟩ := c
  obtain ⟨i, kd, dy, fr, to, wd⟩ := a
  refine CallS.enter' Try.func123 rfl Try.ntmps123 (by simp) fun f hd hf => ?_
  have f0 := hf 0
  have f1 := hf 1
  simp [Alt.val, Has.val] at f0 f1
  clear hf
  repeat' (first | (with_reducible first | refine CodeS.seq ?_ | refine CodeS.region_k fun K hK => ?_ | refine opsP_go fun K2 hK2 => ?_ | refine Post.then_normal ?_ | refine Post.then_ret ?_ | refine Post.then_exit ?_ | refine Post.block_normal ?_ | refine Post.block_ret ?_ | refine Post.block_here ?_ | refine Post.scope_normal ?_ | refine Post.scope_ret ?_ | refine Post.scope_exit ?_ | refine Post.round_ret ?_ | refine Post.round_exit ?_ | refine CodeS.block ?_ | refine CodeS.skip ?_ | refine CodeS.ret ?_ | refine CodeS.exit ?_ | refine CodeS.scope ?_ | refine CodeS.label ?_) | ((with_reducible refine opsP_nil (hK _ _ ?_)); clear hK K) | ((with_reducible refine opsP_gd ?hj ?hlt fun K1 K3 d hdst h1 h3 => ?_); (case hj => rfl); (case hlt => exact Nat.le_of_ble_eq_true rfl); cases hdst; go_simp) | ((with_reducible refine CodeS.cond_k fun K1 K3 h1 h3 => ?_); go_simp) | (refine h1 ?_; clear h1 h3 K1 K3) | (refine h3 ?_; clear h1 h3 K1 K3) | ((refine Either.mk (fun hb => h1 ?_) (fun hb => h3 ?_)) <;> (clear h1 h3 K1 K3; (try have hb2 := of_decide hb); (try have hb2 := of_not_decide_lt hb); (try have hb2 := of_not_decide_le hb); (try have hb2 := of_not_decide_ltN hb); (try have hb2 := of_not_decide_leN hb))) | ((refine Either.mk (fun hb => h3 ?_) (fun hb => h1 ?_)) <;> (clear h1 h3 K1 K3; (try have hb2 := of_decide hb); (try have hb2 := of_not_decide_lt hb); (try have hb2 := of_not_decide_le hb); (try have hb2 := of_not_decide_ltN hb); (try have hb2 := of_not_decide_leN hb))) | (refine fun (K2 : _ → AHeap → Prop) hK2 => ?_) | ((with_reducible refine Post.block_off ?hn ?_); (case hn => decide)) | ((with_reducible first | refine Post.body_k ?hd (fun K hK => ?_) | refine Post.body_kn ?hd (fun K hK => ?_)); (case hd => (go_simp; done)); go_simp; refine hK _ _ ?_; clear hK K) | (go_simp; (try go_bits); refine hK2 _ _ ?_; clear hK2 K2))
  all_goals (refine ⟨?_, (((Ext.refl _).push' _).push' _).push' _⟩; simp_all [Has.after, Has.val])
theorem Has.plain (c : Has) : plainV 6 c.val = true := rfl
theorem after_s {loops : List (Nat × LInfo)} {H : AHeap} {c : Has} {a : Alt} : CallS Try.prog loops 123 [c.val, a.val] H fun v H' => v = (c.after a).val ∧ H' = H :=
  after_e.forget (R := fun v => v = (c.after a).val) (by rintro v rfl; rfl)

def ixGo (w : Int) : Int → List Int → Int
  | _, [] => -1
  | k, x :: t => if w = x then k else ixGo w (k + 1) t
theorem ixGo_mem (w : Int) : ∀ (l : List Int) (k : Int), 0 ≤ k → decide (0 ≤ ixGo w k l) = decide (w ∈ l)
  | [], _, _ => by simp [ixGo]
  | x :: t, k, hk => by
    rw [ixGo]
    by_cases h : w = x
    · simp [h, hk]
    · rw [if_neg h, ixGo_mem w t (k + 1) (by omega)]; simp [h]

theorem index_s {loops : List (Nat × LInfo)} {H : AHeap} {v : Value} {xs : List Int} {w : Int} (hv : Ints H v xs) : CallS Try.prog loops 134 [v, .int .i64 w] H fun r H' => r = .int .i64 (ixGo w 0 xs) ∧ H' = H := by
  obtain ⟨hlen, a, c, rfl⟩ := hv.slice
  have HV := Lib.hid hv
  clear hv
  generalize he : ixGo w 0 xs = er
  have HE := Lib.hid he
  clear he
  refine CallS.enter' Try.func134 rfl Try.ntmps134 (by simp) fun f hd hf => ?_
  have f0 := hf 0
  have f1 := hf 1
  simp at f0 f1
  clear hf
  repeat' (first | (with_reducible first | refine CodeS.seq ?_ | refine CodeS.region_k fun K hK => ?_ | refine opsP_go fun K2 hK2 => ?_ | refine Post.then_normal ?_ | refine Post.then_ret ?_ | refine Post.then_exit ?_ | refine Post.block_normal ?_ | refine Post.block_ret ?_ | refine Post.block_here ?_ | refine Post.scope_normal ?_ | refine Post.scope_ret ?_ | refine Post.scope_exit ?_ | refine Post.round_ret ?_ | refine Post.round_exit ?_ | refine CodeS.block ?_ | refine CodeS.skip ?_ | refine CodeS.ret ?_ | refine CodeS.exit ?_ | refine CodeS.scope ?_ | refine CodeS.label ?_) | ((with_reducible refine opsP_nil (hK _ _ ?_)); clear hK K) | ((with_reducible refine opsP_gd ?hj ?hlt fun K1 K3 d hdst h1 h3 => ?_); (case hj => rfl); (case hlt => exact Nat.le_of_ble_eq_true rfl); cases hdst; go_simp) | ((with_reducible refine CodeS.cond_k fun K1 K3 h1 h3 => ?_); go_simp) | (refine h1 ?_; clear h1 h3 K1 K3) | (refine h3 ?_; clear h1 h3 K1 K3) | ((refine Either.mk (fun hb => h1 ?_) (fun hb => h3 ?_)) <;> (clear h1 h3 K1 K3; (try have hb2 := of_decide hb); (try have hb2 := of_not_decide_lt hb); (try have hb2 := of_not_decide_le hb); (try have hb2 := of_not_decide_ltN hb); (try have hb2 := of_not_decide_leN hb))) | ((refine Either.mk (fun hb => h3 ?_) (fun hb => h1 ?_)) <;> (clear h1 h3 K1 K3; (try have hb2 := of_decide hb); (try have hb2 := of_not_decide_lt hb); (try have hb2 := of_not_decide_le hb); (try have hb2 := of_not_decide_ltN hb); (try have hb2 := of_not_decide_leN hb))) | (refine fun (K2 : _ → AHeap → Prop) hK2 => ?_) | ((with_reducible refine Post.block_off ?hn ?_); (case hn => decide)) | ((with_reducible first | refine Post.body_k ?hd (fun K hK => ?_) | refine Post.body_kn ?hd (fun K hK => ?_)); (case hd => (go_simp; done)); go_simp; refine hK _ _ ?_; clear hK K) | (go_simp; (try go_bits); refine hK2 _ _ ?_; clear hK2 K2))
  refine CodeS.loop (fun m f H' => ∃ k : Nat, k ≤ xs.length ∧ m = xs.length - k ∧ f.tmp 8 = .int .i64 k ∧ f.tmp 0 = .slice a xs.length c ∧ f.tmp 7 = .int .i64 xs.length ∧ f.tmp 1 = .int .i64 w ∧ f.defers = [] ∧ Hid (ixGo w k (xs.drop k) = er) ∧ H' = H) xs.length ?_ ?_
  · exact ⟨0, by simp, by simp, by go_simp, by go_simp, by go_simp, by go_simp, by go_simp, Lib.hid (by simpa using HE.out), rfl⟩
  clear f0 f1 hd f HE
  rintro m f H' ⟨k, hk, rfl, f8, f0, f7, f1, hd, HG, rfl⟩
  by_cases hlt : k < xs.length
  · obtain ⟨b, o, sp, rfl, hb, hx⟩ := HV.out.at_ hlt
    have HD := Lib.hid (List.drop_eq_getElem_cons hlt)
    generalize xs[k] = y at hx HD
    repeat' (first | (with_reducible first | refine CodeS.seq ?_ | refine CodeS.region_k fun K hK => ?_ | refine opsP_go fun K2 hK2 => ?_ | refine Post.then_normal ?_ | refine Post.then_ret ?_ | refine Post.then_exit ?_ | refine Post.block_normal ?_ | refine Post.block_ret ?_ | refine Post.block_here ?_ | refine Post.scope_normal ?_ | refine Post.scope_ret ?_ | refine Post.scope_exit ?_ | refine Post.round_ret ?_ | refine Post.round_exit ?_ | refine CodeS.block ?_ | refine CodeS.skip ?_ | refine CodeS.ret ?_ | refine CodeS.exit ?_ | refine CodeS.scope ?_ | refine CodeS.label ?_) | ((with_reducible refine opsP_nil (hK _ _ ?_)); clear hK K) | ((with_reducible refine opsP_gd ?hj ?hlt fun K1 K3 d hdst h1 h3 => ?_); (case hj => rfl); (case hlt => exact Nat.le_of_ble_eq_true rfl); cases hdst; go_simp) | ((with_reducible refine CodeS.cond_k fun K1 K3 h1 h3 => ?_); go_simp) | (refine h1 ?_; clear h1 h3 K1 K3) | (refine h3 ?_; clear h1 h3 K1 K3) | ((refine Either.mk (fun hb => h1 ?_) (fun hb => h3 ?_)) <;> (clear h1 h3 K1 K3; (try have hb2 := of_decide hb); (try have hb2 := of_not_decide_lt hb); (try have hb2 := of_not_decide_le hb); (try have hb2 := of_not_decide_ltN hb); (try have hb2 := of_not_decide_leN hb))) | ((refine Either.mk (fun hb => h3 ?_) (fun hb => h1 ?_)) <;> (clear h1 h3 K1 K3; (try have hb2 := of_decide hb); (try have hb2 := of_not_decide_lt hb); (try have hb2 := of_not_decide_le hb); (try have hb2 := of_not_decide_ltN hb); (try have hb2 := of_not_decide_leN hb))) | (refine fun (K2 : _ → AHeap → Prop) hK2 => ?_) | ((with_reducible refine Post.block_off ?hn ?_); (case hn => decide)) | ((with_reducible first | refine Post.body_k ?hd (fun K hK => ?_) | refine Post.body_kn ?hd (fun K hK => ?_)); (case hd => (go_simp; done)); go_simp; refine hK _ _ ?_; clear hK K) | (go_simp; (try go_bits); refine hK2 _ _ ?_; clear hK2 K2))
    · refine ⟨?_, rfl⟩
      have hw : w = y := by simpa using hb
      rw [← HG.out, HD.out, ixGo, if_pos hw]
    · rename_i hq
      have hw : ¬ w = y := by simpa using hb
      refine Post.round_normal ⟨xs.length - (k + 1), by omega, k + 1, by omega, rfl, (by first | (go_simp; done) | (go_simp; go_num; done) | assumption), (by first | (go_simp; done) | (go_simp; go_num; done) | assumption), (by first | (go_simp; done) | (go_simp; go_num; done) | assumption), (by first | (go_simp; done) | (go_simp; go_num; done) | assumption), (by first | (go_simp; done) | (go_simp; go_num; done) | assumption), Lib.hid ?_, rfl⟩
      rw [← HG.out, HD.out, ixGo, if_neg hw]; simp
  · repeat' (first | (with_reducible first | refine CodeS.seq ?_ | refine CodeS.region_k fun K hK => ?_ | refine opsP_go fun K2 hK2 => ?_ | refine Post.then_normal ?_ | refine Post.then_ret ?_ | refine Post.then_exit ?_ | refine Post.block_normal ?_ | refine Post.block_ret ?_ | refine Post.block_here ?_ | refine Post.scope_normal ?_ | refine Post.scope_ret ?_ | refine Post.scope_exit ?_ | refine Post.round_ret ?_ | refine Post.round_exit ?_ | refine CodeS.block ?_ | refine CodeS.skip ?_ | refine CodeS.ret ?_ | refine CodeS.exit ?_ | refine CodeS.scope ?_ | refine CodeS.label ?_) | ((with_reducible refine opsP_nil (hK _ _ ?_)); clear hK K) | ((with_reducible refine opsP_gd ?hj ?hlt fun K1 K3 d hdst h1 h3 => ?_); (case hj => rfl); (case hlt => exact Nat.le_of_ble_eq_true rfl); cases hdst; go_simp) | ((with_reducible refine CodeS.cond_k fun K1 K3 h1 h3 => ?_); go_simp) | (refine h1 ?_; clear h1 h3 K1 K3) | (refine h3 ?_; clear h1 h3 K1 K3) | ((refine Either.mk (fun hb => h1 ?_) (fun hb => h3 ?_)) <;> (clear h1 h3 K1 K3; (try have hb2 := of_decide hb); (try have hb2 := of_not_decide_lt hb); (try have hb2 := of_not_decide_le hb); (try have hb2 := of_not_decide_ltN hb); (try have hb2 := of_not_decide_leN hb))) | ((refine Either.mk (fun hb => h3 ?_) (fun hb => h1 ?_)) <;> (clear h1 h3 K1 K3; (try have hb2 := of_decide hb); (try have hb2 := of_not_decide_lt hb); (try have hb2 := of_not_decide_le hb); (try have hb2 := of_not_decide_ltN hb); (try have hb2 := of_not_decide_leN hb))) | (refine fun (K2 : _ → AHeap → Prop) hK2 => ?_) | ((with_reducible refine Post.block_off ?hn ?_); (case hn => decide)) | ((with_reducible first | refine Post.body_k ?hd (fun K hK => ?_) | refine Post.body_kn ?hd (fun K hK => ?_)); (case hd => (go_simp; done)); go_simp; refine hK _ _ ?_; clear hK K) | (go_simp; (try go_bits); refine hK2 _ _ ?_; clear hK2 K2))
    refine ⟨?_, rfl⟩
    rw [← HG.out, List.drop_eq_nil_of_le (by omega)]; rfl
theorem contains_s {loops : List (Nat × LInfo)} {H : AHeap} {v : Value} {xs : List Int} {w : Int} (hv : Ints H v xs) : CallS Try.prog loops 124 [v, .int .i64 w] H fun r H' => r = .bool (decide (w ∈ xs)) ∧ H' = H := by
  obtain ⟨hlen, a, c, rfl⟩ := hv.slice
  have HV := Lib.hid hv
  clear hv
  rw [← ixGo_mem w xs 0 (by omega)]
  refine CallS.enter' Try.func124 rfl Try.ntmps124 (by simp) fun f hd hf => ?_
  have f0 := hf 0
  have f1 := hf 1
  simp at f0 f1
  clear hf
  repeat' (first | (with_reducible first | refine CodeS.seq ?_ | refine CodeS.region_k fun K hK => ?_ | refine opsP_go fun K2 hK2 => ?_ | refine Post.then_normal ?_ | refine Post.then_ret ?_ | refine Post.then_exit ?_ | refine Post.block_normal ?_ | refine Post.block_ret ?_ | refine Post.block_here ?_ | refine Post.scope_normal ?_ | refine Post.scope_ret ?_ | refine Post.scope_exit ?_ | refine Post.round_ret ?_ | refine Post.round_exit ?_ | refine CodeS.block ?_ | refine CodeS.skip ?_ | refine CodeS.ret ?_ | refine CodeS.exit ?_ | refine CodeS.scope ?_ | refine CodeS.label ?_) | ((with_reducible refine opsP_nil (hK _ _ ?_)); clear hK K) | ((with_reducible refine opsP_gd ?hj ?hlt fun K1 K3 d hdst h1 h3 => ?_); (case hj => rfl); (case hlt => exact Nat.le_of_ble_eq_true rfl); cases hdst; go_simp) | ((with_reducible refine CodeS.cond_k fun K1 K3 h1 h3 => ?_); go_simp) | (refine h1 ?_; clear h1 h3 K1 K3) | (refine h3 ?_; clear h1 h3 K1 K3) | ((refine Either.mk (fun hb => h1 ?_) (fun hb => h3 ?_)) <;> (clear h1 h3 K1 K3; (try have hb2 := of_decide hb); (try have hb2 := of_not_decide_lt hb); (try have hb2 := of_not_decide_le hb); (try have hb2 := of_not_decide_ltN hb); (try have hb2 := of_not_decide_leN hb))) | ((refine Either.mk (fun hb => h3 ?_) (fun hb => h1 ?_)) <;> (clear h1 h3 K1 K3; (try have hb2 := of_decide hb); (try have hb2 := of_not_decide_lt hb); (try have hb2 := of_not_decide_le hb); (try have hb2 := of_not_decide_ltN hb); (try have hb2 := of_not_decide_leN hb))) | (refine fun (K2 : _ → AHeap → Prop) hK2 => ?_) | ((with_reducible refine Post.block_off ?hn ?_); (case hn => decide)) | ((with_reducible first | refine Post.body_k ?hd (fun K hK => ?_) | refine Post.body_kn ?hd (fun K hK => ?_)); (case hd => (go_simp; done)); go_simp; refine hK _ _ ?_; clear hK K) | (go_simp; (try go_bits); (try first | ((with_reducible show CallS _ _ _ _ _ _); refine CallS.mono (index_s HV.out) ?_; rintro _ _ ⟨rfl, rfl⟩)); refine hK2 _ _ ?_; clear hK2 K2))
  all_goals (exact ⟨rfl, rfl⟩)

theorem ints_of_own {H : AHeap} {base : Nat} {v : Value} {l : List Int} (h : Own H base v 3 1 (l.map (Value.int .i64))) (hl : l.length ≤ 9223372036854775807) : Ints H v l := by
  rcases h with ⟨rfl, h2⟩ | ⟨b, n, rfl, h2, h3, h4, h5, h6⟩
  · have : l = [] := by simpa using h2
    subst this
    exact ⟨rfl, by simp, none, 0, rfl, by simp⟩
  · have hn : n = l.length := by simpa using h5.symm
    subst hn
    refine ⟨by simp, hl, _, _, rfl, fun _ => ⟨b, 0, none, rfl, h3, fun j u hu => ?_⟩⟩
    simp only [cellAt, h4, Nat.zero_add]; exact hu

theorem Has.wordsIn {H : AHeap} {ct cm : Int} {cl : Bool} {e : TypeId} : Ints (H.push (.row [.int .i64 ct, .int .i64 cm, .bool cl] e)) (.slice (some ⟨H.n, 0, some 0⟩) 2 2) [ct, cm] :=
  ⟨rfl, by simp, _, _, rfl, fun _ => ⟨H.n, 0, some 0, rfl, by rw [AHeap.n_push]; omega, fun j u hu => by
    rw [Nat.zero_add, cellAt_new]
    match j, hu with
    | 0, hu => exact hu
    | 1, hu => exact hu
    | j + 2, hu => simp at hu⟩⟩

theorem offers_e {loops : List (Nat × LInfo)} {H : AHeap} {c : Has} {w : Int} : CallS Try.prog loops 107 [c.val, .int .i64 w] H fun v H' => v = .bool (c.offers w) ∧ Ext H H' := by
  obtain ⟨ct, cm, cl⟩ := c
  refine CallS.enter' Try.func107 rfl Try.ntmps107 (by simp) fun f hd hf => ?_
  have f0 := hf 0
  have f1 := hf 1
  simp [Has.val] at f0 f1
  clear hf
  repeat' (first | (with_reducible first | refine CodeS.seq ?_ | refine CodeS.region_k fun K hK => ?_ | refine opsP_go fun K2 hK2 => ?_ | refine Post.then_normal ?_ | refine Post.then_ret ?_ | refine Post.then_exit ?_ | refine Post.block_normal ?_ | refine Post.block_ret ?_ | refine Post.block_here ?_ | refine Post.scope_normal ?_ | refine Post.scope_ret ?_ | refine Post.scope_exit ?_ | refine Post.round_ret ?_ | refine Post.round_exit ?_ | refine CodeS.block ?_ | refine CodeS.skip ?_ | refine CodeS.ret ?_ | refine CodeS.exit ?_ | refine CodeS.scope ?_ | refine CodeS.label ?_) | ((with_reducible refine opsP_nil (hK _ _ ?_)); clear hK K) | ((with_reducible refine opsP_gd ?hj ?hlt fun K1 K3 d hdst h1 h3 => ?_); (case hj => rfl); (case hlt => exact Nat.le_of_ble_eq_true rfl); cases hdst; go_simp) | ((with_reducible refine CodeS.cond_k fun K1 K3 h1 h3 => ?_); go_simp) | (refine h1 ?_; clear h1 h3 K1 K3) | (refine h3 ?_; clear h1 h3 K1 K3) | ((refine Either.mk (fun hb => h1 ?_) (fun hb => h3 ?_)) <;> (clear h1 h3 K1 K3; (try have hb2 := of_decide hb); (try have hb2 := of_not_decide_lt hb); (try have hb2 := of_not_decide_le hb); (try have hb2 := of_not_decide_ltN hb); (try have hb2 := of_not_decide_leN hb))) | ((refine Either.mk (fun hb => h3 ?_) (fun hb => h1 ?_)) <;> (clear h1 h3 K1 K3; (try have hb2 := of_decide hb); (try have hb2 := of_not_decide_lt hb); (try have hb2 := of_not_decide_le hb); (try have hb2 := of_not_decide_ltN hb); (try have hb2 := of_not_decide_leN hb))) | (refine fun (K2 : _ → AHeap → Prop) hK2 => ?_) | ((with_reducible refine Post.block_off ?hn ?_); (case hn => decide)) | ((with_reducible first | refine Post.body_k ?hd (fun K hK => ?_) | refine Post.body_kn ?hd (fun K hK => ?_)); (case hd => (go_simp; done)); go_simp; refine hK _ _ ?_; clear hK K) | (go_simp; (try go_bits); (try first | ((refine eq145_k (a := ct) (b := cm) (a' := 0) (b' := 0) (by go_simp) (by go_simp) ?_); go_simp) | ((rw [aSliceArr_k ar145 sz3]); go_simp) | ((with_reducible show CallS _ _ _ _ _ _); refine CallS.mono (contains_s Has.wordsIn) ?_; rintro _ _ ⟨rfl, rfl⟩)); refine hK2 _ _ ?_; clear hK2 K2))
  all_goals (refine ⟨?_, (Ext.refl _).push' _⟩)
  · have hw : w = 0 := by simpa using hb
    simp [Has.offers, hw]
  · have hw : ¬ w = 0 := by simpa using hb
    simp only [Has.offers, if_neg hw, Value.bool.injEq]
    rw [Bool.eq_iff_iff]
    simp only [List.mem_cons, List.not_mem_nil, or_false, decide_eq_true_eq, Bool.or_eq_true, beq_iff_eq]
    constructor <;> rintro (h | h) <;> first | (left; omega) | (right; omega)
theorem offers_s {loops : List (Nat × LInfo)} {H : AHeap} {c : Has} {w : Int} : CallS Try.prog loops 107 [c.val, .int .i64 w] H fun v H' => v = .bool (c.offers w) ∧ H' = H :=
  offers_e.forget (R := fun v => v = .bool (c.offers w)) (by rintro v rfl; rfl)

/-- What is read off the first k of its two words. -/
def Has.readsTo (c : Has) (k : Nat) : List Int := if k = 0 then [] else if k = 1 then (if c.text = 0 then [] else [c.text]) else c.reads

theorem readsTo_one (ct cm : Int) (cl : Bool) : Has.readsTo ⟨ct, cm, cl⟩ 1 = Has.readsTo ⟨ct, cm, cl⟩ 0 ++ if ct = 0 ∨ ct ∈ Has.readsTo ⟨ct, cm, cl⟩ 0 then [] else [ct] := by
  simp [Has.readsTo]
theorem readsTo_two (ct cm : Int) (cl : Bool) : Has.readsTo ⟨ct, cm, cl⟩ 2 = Has.readsTo ⟨ct, cm, cl⟩ 1 ++ if cm = 0 ∨ cm ∈ Has.readsTo ⟨ct, cm, cl⟩ 1 then [] else [cm] := by
  have h : (cm = 0 ∨ cm = ct) ↔ (cm = 0 ∨ cm ∈ if ct = 0 then [] else [ct]) := by
    by_cases hc : ct = 0 <;> simp [hc]
  simp only [Has.readsTo, if_neg (show ¬ (2 : Nat) = 0 by decide), if_neg (show ¬ (2 : Nat) = 1 by decide), if_neg (show ¬ (1 : Nat) = 0 by decide), if_true, Has.reads]
  congr 1
  by_cases h1 : cm = 0 ∨ cm = ct
  · rw [if_pos h1, if_pos (h.1 h1)]
  · rw [if_neg h1, if_neg (fun h2 => h1 (h.2 h2))]

theorem reads_e {loops : List (Nat × LInfo)} {H : AHeap} {c : Has} : CallS Try.prog loops 105 [c.val] H fun v H' => Ints H' v c.reads ∧ Ext H H' := by
  obtain ⟨ct, cm, cl⟩ := c
  refine CallS.enter' Try.func105 rfl Try.ntmps105 (by simp) fun f hd hf => ?_
  have f0 := hf 0
  simp [Has.val] at f0
  clear hf
  repeat' (first | (with_reducible first | refine CodeS.seq ?_ | refine CodeS.region_k fun K hK => ?_ | refine opsP_go fun K2 hK2 => ?_ | refine Post.then_normal ?_ | refine Post.then_ret ?_ | refine Post.then_exit ?_ | refine Post.block_normal ?_ | refine Post.block_ret ?_ | refine Post.block_here ?_ | refine Post.scope_normal ?_ | refine Post.scope_ret ?_ | refine Post.scope_exit ?_ | refine Post.round_ret ?_ | refine Post.round_exit ?_ | refine CodeS.block ?_ | refine CodeS.skip ?_ | refine CodeS.ret ?_ | refine CodeS.exit ?_ | refine CodeS.scope ?_ | refine CodeS.label ?_) | ((with_reducible refine opsP_nil (hK _ _ ?_)); clear hK K) | ((with_reducible refine opsP_gd ?hj ?hlt fun K1 K3 d hdst h1 h3 => ?_); (case hj => rfl); (case hlt => exact Nat.le_of_ble_eq_true rfl); cases hdst; go_simp) | ((with_reducible refine CodeS.cond_k fun K1 K3 h1 h3 => ?_); go_simp) | (refine h1 ?_; clear h1 h3 K1 K3) | (refine h3 ?_; clear h1 h3 K1 K3) | ((refine Either.mk (fun hb => h1 ?_) (fun hb => h3 ?_)) <;> (clear h1 h3 K1 K3; (try have hb2 := of_decide hb); (try have hb2 := of_not_decide_lt hb); (try have hb2 := of_not_decide_le hb); (try have hb2 := of_not_decide_ltN hb); (try have hb2 := of_not_decide_leN hb))) | ((refine Either.mk (fun hb => h3 ?_) (fun hb => h1 ?_)) <;> (clear h1 h3 K1 K3; (try have hb2 := of_decide hb); (try have hb2 := of_not_decide_lt hb); (try have hb2 := of_not_decide_le hb); (try have hb2 := of_not_decide_ltN hb); (try have hb2 := of_not_decide_leN hb))) | (refine fun (K2 : _ → AHeap → Prop) hK2 => ?_) | ((with_reducible refine Post.block_off ?hn ?_); (case hn => decide)) | ((with_reducible first | refine Post.body_k ?hd (fun K hK => ?_) | refine Post.body_kn ?hd (fun K hK => ?_)); (case hd => (go_simp; done)); go_simp; refine hK _ _ ?_; clear hK K) | (go_simp; (try go_bits); refine hK2 _ _ ?_; clear hK2 K2))
  refine CodeS.loop (fun m f H' => ∃ (k : Nat) (v : Value), k ≤ 2 ∧ m = 2 - k ∧ f.tmp 8 = .int .i64 k ∧ f.tmp 7 = .agg #[.int .i64 ct, .int .i64 cm] ∧ f.tmp 3 = v ∧ f.defers = [] ∧ Own H' H.n v 3 1 ((Has.readsTo ⟨ct, cm, cl⟩ k).map (Value.int .i64)) ∧ Ext H H') 2 ?_ ?_
  · exact ⟨0, .slice none 0 0, by simp, by simp, (by first | (go_simp; done) | (go_simp; go_num; done) | assumption), (by first | (go_simp; done) | (go_simp; go_num; done) | assumption), (by first | (go_simp; done) | (go_simp; go_num; done) | assumption), (by first | (go_simp; done) | (go_simp; go_num; done) | assumption), by simpa [Has.readsTo] using (Own.nil : Own _ H.n _ 3 1 []), (Ext.refl _).push' _⟩
  clear f0 hd f
  rintro m f H' ⟨k, v, hk, rfl, f8, f7, f3, hd, ho, hx⟩
  have HO := Lib.hid ho
  have HX := Lib.hid hx
  clear ho hx
  have hk3 : k = 0 ∨ k = 1 ∨ k = 2 := by omega
  have hl : ∀ k, (Has.readsTo ⟨ct, cm, cl⟩ k).length ≤ 2 := by
    intro k
    unfold Has.readsTo
    split
    · simp
    · split
      · split <;> simp
      · exact reads_len _
  have HL := Lib.hid hl
  clear hl
  rcases hk3 with rfl | rfl | rfl
  · repeat' (first | (with_reducible first | refine CodeS.seq ?_ | refine CodeS.region_k fun K hK => ?_ | refine opsP_go fun K2 hK2 => ?_ | refine Post.then_normal ?_ | refine Post.then_ret ?_ | refine Post.then_exit ?_ | refine Post.block_normal ?_ | refine Post.block_ret ?_ | refine Post.block_here ?_ | refine Post.scope_normal ?_ | refine Post.scope_ret ?_ | refine Post.scope_exit ?_ | refine Post.round_ret ?_ | refine Post.round_exit ?_ | refine CodeS.block ?_ | refine CodeS.skip ?_ | refine CodeS.ret ?_ | refine CodeS.exit ?_ | refine CodeS.scope ?_ | refine CodeS.label ?_) | ((with_reducible refine opsP_nil (hK _ _ ?_)); clear hK K) | ((with_reducible refine opsP_gd ?hj ?hlt fun K1 K3 d hdst h1 h3 => ?_); (case hj => rfl); (case hlt => exact Nat.le_of_ble_eq_true rfl); cases hdst; go_simp) | ((with_reducible refine CodeS.cond_k fun K1 K3 h1 h3 => ?_); go_simp) | (refine h1 ?_; clear h1 h3 K1 K3) | (refine h3 ?_; clear h1 h3 K1 K3) | ((refine Either.mk (fun hb => h1 ?_) (fun hb => h3 ?_)) <;> (clear h1 h3 K1 K3; (try have hb2 := of_decide hb); (try have hb2 := of_not_decide_lt hb); (try have hb2 := of_not_decide_le hb); (try have hb2 := of_not_decide_ltN hb); (try have hb2 := of_not_decide_leN hb))) | ((refine Either.mk (fun hb => h3 ?_) (fun hb => h1 ?_)) <;> (clear h1 h3 K1 K3; (try have hb2 := of_decide hb); (try have hb2 := of_not_decide_lt hb); (try have hb2 := of_not_decide_le hb); (try have hb2 := of_not_decide_ltN hb); (try have hb2 := of_not_decide_leN hb))) | (refine fun (K2 : _ → AHeap → Prop) hK2 => ?_) | ((with_reducible refine Post.block_off ?hn ?_); (case hn => decide)) | ((with_reducible first | refine Post.body_k ?hd (fun K hK => ?_) | refine Post.body_kn ?hd (fun K hK => ?_)); (case hd => (go_simp; done)); go_simp; refine hK _ _ ?_; clear hK K) | (go_simp; (try go_bits); (try first | ((refine ix145_k (a := ct) (b := cm) (i := 0) (by go_simp) (by go_simp) (by simp) ?_); go_simp) | ((with_reducible show CallS _ _ _ _ _ _); refine CallS.mono (contains_s (ints_of_own HO.out (Nat.le_trans (HL.out _) (by decide)))) ?_; rintro _ _ ⟨rfl, rfl⟩) | ((refine one_k el22 sz3 ze3 rfl (by decide) (by decide) rfl rfl ?_); go_simp) | ((refine append_k el22 sz3 by3 ze3 rfl (by decide) (HO.out.ext (Ext.push _)) (srcCells_new rfl) (by decide) rfl (by simp [List.all_append, oneV_list_int, oneV]) (by have := HL.out 0; simp; omega) (by have := HX.out.n; rw [AHeap.n_push]; omega) fun v2 H2 ho2 hg2 => ?_); (have HO2 := Lib.hid ho2); (have HX2 := Lib.hid (hg2.ext (HO.out.ext (Ext.push _)) (Nat.le_refl _) (HX.out.push' _))); clear ho2 hg2; go_simp)); refine hK2 _ _ ?_; clear hK2 K2))
    · have h1 : ¬ ct = 0 := by simpa using ‹(ct != 0) = true›
      have h2 : ct ∉ Has.readsTo ⟨ct, cm, cl⟩ 0 := by simpa using hb
      refine Post.round_normal ⟨1, by omega, 1, v2, by omega, rfl, (by first | (go_simp; done) | (go_simp; go_num; done) | assumption), (by first | (go_simp; done) | (go_simp; go_num; done) | assumption), (by first | (go_simp; done) | (go_simp; go_num; done) | assumption), (by first | (go_simp; done) | (go_simp; go_num; done) | assumption), ?_, HX2.out⟩
      rw [readsTo_one, if_neg (by simp [h1, h2]), List.map_append]; exact HO2.out
    · have h2 : ct ∈ Has.readsTo ⟨ct, cm, cl⟩ 0 := by simpa using hb
      refine Post.round_normal ⟨1, by omega, 1, v, by omega, rfl, (by first | (go_simp; done) | (go_simp; go_num; done) | assumption), (by first | (go_simp; done) | (go_simp; go_num; done) | assumption), (by first | (go_simp; done) | (go_simp; go_num; done) | assumption), (by first | (go_simp; done) | (go_simp; go_num; done) | assumption), ?_, HX.out⟩
      rw [readsTo_one, if_pos (by simp [h2]), List.append_nil]; exact HO.out
    · have h1 : ct = 0 := by simpa using hb
      refine Post.round_normal ⟨1, by omega, 1, v, by omega, rfl, (by first | (go_simp; done) | (go_simp; go_num; done) | assumption), (by first | (go_simp; done) | (go_simp; go_num; done) | assumption), (by first | (go_simp; done) | (go_simp; go_num; done) | assumption), (by first | (go_simp; done) | (go_simp; go_num; done) | assumption), ?_, HX.out⟩
      rw [readsTo_one, if_pos (by simp [h1]), List.append_nil]; exact HO.out
  · repeat' (first | (with_reducible first | refine CodeS.seq ?_ | refine CodeS.region_k fun K hK => ?_ | refine opsP_go fun K2 hK2 => ?_ | refine Post.then_normal ?_ | refine Post.then_ret ?_ | refine Post.then_exit ?_ | refine Post.block_normal ?_ | refine Post.block_ret ?_ | refine Post.block_here ?_ | refine Post.scope_normal ?_ | refine Post.scope_ret ?_ | refine Post.scope_exit ?_ | refine Post.round_ret ?_ | refine Post.round_exit ?_ | refine CodeS.block ?_ | refine CodeS.skip ?_ | refine CodeS.ret ?_ | refine CodeS.exit ?_ | refine CodeS.scope ?_ | refine CodeS.label ?_) | ((with_reducible refine opsP_nil (hK _ _ ?_)); clear hK K) | ((with_reducible refine opsP_gd ?hj ?hlt fun K1 K3 d hdst h1 h3 => ?_); (case hj => rfl); (case hlt => exact Nat.le_of_ble_eq_true rfl); cases hdst; go_simp) | ((with_reducible refine CodeS.cond_k fun K1 K3 h1 h3 => ?_); go_simp) | (refine h1 ?_; clear h1 h3 K1 K3) | (refine h3 ?_; clear h1 h3 K1 K3) | ((refine Either.mk (fun hb => h1 ?_) (fun hb => h3 ?_)) <;> (clear h1 h3 K1 K3; (try have hb2 := of_decide hb); (try have hb2 := of_not_decide_lt hb); (try have hb2 := of_not_decide_le hb); (try have hb2 := of_not_decide_ltN hb); (try have hb2 := of_not_decide_leN hb))) | ((refine Either.mk (fun hb => h3 ?_) (fun hb => h1 ?_)) <;> (clear h1 h3 K1 K3; (try have hb2 := of_decide hb); (try have hb2 := of_not_decide_lt hb); (try have hb2 := of_not_decide_le hb); (try have hb2 := of_not_decide_ltN hb); (try have hb2 := of_not_decide_leN hb))) | (refine fun (K2 : _ → AHeap → Prop) hK2 => ?_) | ((with_reducible refine Post.block_off ?hn ?_); (case hn => decide)) | ((with_reducible first | refine Post.body_k ?hd (fun K hK => ?_) | refine Post.body_kn ?hd (fun K hK => ?_)); (case hd => (go_simp; done)); go_simp; refine hK _ _ ?_; clear hK K) | (go_simp; (try go_bits); (try first | ((refine ix145_k (a := ct) (b := cm) (i := 1) (by go_simp) (by go_simp) (by simp) ?_); go_simp) | ((with_reducible show CallS _ _ _ _ _ _); refine CallS.mono (contains_s (ints_of_own HO.out (Nat.le_trans (HL.out _) (by decide)))) ?_; rintro _ _ ⟨rfl, rfl⟩) | ((refine one_k el22 sz3 ze3 rfl (by decide) (by decide) rfl rfl ?_); go_simp) | ((refine append_k el22 sz3 by3 ze3 rfl (by decide) (HO.out.ext (Ext.push _)) (srcCells_new rfl) (by decide) rfl (by simp [List.all_append, oneV_list_int, oneV]) (by have := HL.out 1; simp; omega) (by have := HX.out.n; rw [AHeap.n_push]; omega) fun v2 H2 ho2 hg2 => ?_); (have HO2 := Lib.hid ho2); (have HX2 := Lib.hid (hg2.ext (HO.out.ext (Ext.push _)) (Nat.le_refl _) (HX.out.push' _))); clear ho2 hg2; go_simp)); refine hK2 _ _ ?_; clear hK2 K2))
    · have h1 : ¬ cm = 0 := by simpa using ‹(cm != 0) = true›
      have h2 : cm ∉ Has.readsTo ⟨ct, cm, cl⟩ 1 := by simpa using hb
      refine Post.round_normal ⟨0, by omega, 2, v2, by omega, rfl, (by first | (go_simp; done) | (go_simp; go_num; done) | assumption), (by first | (go_simp; done) | (go_simp; go_num; done) | assumption), (by first | (go_simp; done) | (go_simp; go_num; done) | assumption), (by first | (go_simp; done) | (go_simp; go_num; done) | assumption), ?_, HX2.out⟩
      rw [readsTo_two, if_neg (by simp [h1, h2]), List.map_append]; exact HO2.out
    · have h2 : cm ∈ Has.readsTo ⟨ct, cm, cl⟩ 1 := by simpa using hb
      refine Post.round_normal ⟨0, by omega, 2, v, by omega, rfl, (by first | (go_simp; done) | (go_simp; go_num; done) | assumption), (by first | (go_simp; done) | (go_simp; go_num; done) | assumption), (by first | (go_simp; done) | (go_simp; go_num; done) | assumption), (by first | (go_simp; done) | (go_simp; go_num; done) | assumption), ?_, HX.out⟩
      rw [readsTo_two, if_pos (by simp [h2]), List.append_nil]; exact HO.out
    · have h1 : cm = 0 := by simpa using hb
      refine Post.round_normal ⟨0, by omega, 2, v, by omega, rfl, (by first | (go_simp; done) | (go_simp; go_num; done) | assumption), (by first | (go_simp; done) | (go_simp; go_num; done) | assumption), (by first | (go_simp; done) | (go_simp; go_num; done) | assumption), (by first | (go_simp; done) | (go_simp; go_num; done) | assumption), ?_, HX.out⟩
      rw [readsTo_two, if_pos (by simp [h1]), List.append_nil]; exact HO.out
  · repeat' (first | (with_reducible first | refine CodeS.seq ?_ | refine CodeS.region_k fun K hK => ?_ | refine opsP_go fun K2 hK2 => ?_ | refine Post.then_normal ?_ | refine Post.then_ret ?_ | refine Post.then_exit ?_ | refine Post.block_normal ?_ | refine Post.block_ret ?_ | refine Post.block_here ?_ | refine Post.scope_normal ?_ | refine Post.scope_ret ?_ | refine Post.scope_exit ?_ | refine Post.round_ret ?_ | refine Post.round_exit ?_ | refine CodeS.block ?_ | refine CodeS.skip ?_ | refine CodeS.ret ?_ | refine CodeS.exit ?_ | refine CodeS.scope ?_ | refine CodeS.label ?_) | ((with_reducible refine opsP_nil (hK _ _ ?_)); clear hK K) | ((with_reducible refine opsP_gd ?hj ?hlt fun K1 K3 d hdst h1 h3 => ?_); (case hj => rfl); (case hlt => exact Nat.le_of_ble_eq_true rfl); cases hdst; go_simp) | ((with_reducible refine CodeS.cond_k fun K1 K3 h1 h3 => ?_); go_simp) | (refine h1 ?_; clear h1 h3 K1 K3) | (refine h3 ?_; clear h1 h3 K1 K3) | ((refine Either.mk (fun hb => h1 ?_) (fun hb => h3 ?_)) <;> (clear h1 h3 K1 K3; (try have hb2 := of_decide hb); (try have hb2 := of_not_decide_lt hb); (try have hb2 := of_not_decide_le hb); (try have hb2 := of_not_decide_ltN hb); (try have hb2 := of_not_decide_leN hb))) | ((refine Either.mk (fun hb => h3 ?_) (fun hb => h1 ?_)) <;> (clear h1 h3 K1 K3; (try have hb2 := of_decide hb); (try have hb2 := of_not_decide_lt hb); (try have hb2 := of_not_decide_le hb); (try have hb2 := of_not_decide_ltN hb); (try have hb2 := of_not_decide_leN hb))) | (refine fun (K2 : _ → AHeap → Prop) hK2 => ?_) | ((with_reducible refine Post.block_off ?hn ?_); (case hn => decide)) | ((with_reducible first | refine Post.body_k ?hd (fun K hK => ?_) | refine Post.body_kn ?hd (fun K hK => ?_)); (case hd => (go_simp; done)); go_simp; refine hK _ _ ?_; clear hK K) | (go_simp; (try go_bits); refine hK2 _ _ ?_; clear hK2 K2))
    exact ⟨ints_of_own HO.out (Nat.le_trans (HL.out 2) (by decide)), HX.out⟩
end Go.Proofs.Try
