/- Contracts of functions, walked. -/
import Derived.Test.YtgddlpegljkgpaaStSL
set_option linter.all false
namespace Go.Proofs.Try
open Go Go.Am Go.RowKit Go.Co
set_option maxRecDepth 100000

/-! Courses: open days, the lowest day, the earliest days. -/

theorem isOpen1_s {loops : List (Nat × LInfo)} {H : AHeap} {x : Int × Int} {q : Nat} {d : Int} (hq : q < H.n) (hg : cellAt H q 0 = some (.int .i64 d)) : CallS Try.prog loops 116 [spanVal x, .pointer (some ⟨q, 0, none⟩)] H fun v H' => v = .bool (win x.1 x.2 d) ∧ H' = H := by
  refine CallS.forget (R := fun v => v = .bool (win x.1 x.2 d)) (by rintro v rfl; rfl) ?_
  obtain ⟨lo, hi⟩ := x
  refine CallS.enter' Try.func116 rfl Try.ntmps116 (by simp) fun f hd hf => ?_
  have f0 := hf 0
  have f1 := hf 1
  simp [spanVal] at f0 f1
  clear hf
  repeat' (first | (with_reducible first | refine CodeS.seq ?_ | refine CodeS.region_k fun K hK => ?_ | refine opsP_go fun K2 hK2 => ?_ | refine Post.then_normal ?_ | refine Post.then_ret ?_ | refine Post.then_exit ?_ | refine Post.block_normal ?_ | refine Post.block_ret ?_ | refine Post.block_here ?_ | refine Post.scope_normal ?_ | refine Post.scope_ret ?_ | refine Post.scope_exit ?_ | refine Post.round_ret ?_ | refine Post.round_exit ?_ | refine CodeS.block ?_ | refine CodeS.skip ?_ | refine CodeS.ret ?_ | refine CodeS.exit ?_ | refine CodeS.scope ?_ | refine CodeS.label ?_) | ((with_reducible refine opsP_nil (hK _ _ ?_)); clear hK K) | ((with_reducible refine opsP_gd ?hj ?hlt fun K1 K3 d hdst h1 h3 => ?_); (case hj => rfl); (case hlt => exact Nat.le_of_ble_eq_true rfl); cases hdst; go_simp) | ((with_reducible refine CodeS.cond_k fun K1 K3 h1 h3 => ?_); go_simp) | (refine h1 ?_; clear h1 h3 K1 K3) | (refine h3 ?_; clear h1 h3 K1 K3) | ((refine Either.mk (fun hb => h1 ?_) (fun hb => h3 ?_)) <;> (clear h1 h3 K1 K3; (try have hb2 := of_decide hb); (try have hb2 := of_not_decide_lt hb); (try have hb2 := of_not_decide_le hb); (try have hb2 := of_not_decide_ltN hb); (try have hb2 := of_not_decide_leN hb))) | ((refine Either.mk (fun hb => h3 ?_) (fun hb => h1 ?_)) <;> (clear h1 h3 K1 K3; (try have hb2 := of_decide hb); (try have hb2 := of_not_decide_lt hb); (try have hb2 := of_not_decide_le hb); (try have hb2 := of_not_decide_ltN hb); (try have hb2 := of_not_decide_leN hb))) | (refine fun (K2 : _ → AHeap → Prop) hK2 => ?_) | ((with_reducible refine Post.block_off ?hn ?_); (case hn => decide)) | ((with_reducible first | refine Post.body_k ?hd (fun K hK => ?_) | refine Post.body_kn ?hd (fun K hK => ?_)); (case hd => (go_simp; done)); go_simp; refine hK _ _ ?_; clear hK K) | (go_simp; (try go_bits); (try first | ((with_reducible show CallS _ _ _ _ _ _); refine CallS.mono within_s ?_; rintro _ _ ⟨rfl, rfl⟩)); refine hK2 _ _ ?_; clear hK2 K2))
  exact ⟨rfl, (Ext.refl _).push' _⟩

def ixF (d : Int) : Int → List (Int × Int) → Int
  | _, [] => -1
  | k, x :: t => if win x.1 x.2 d = true then k else ixF d (k + 1) t
theorem ixF_ins (d : Int) : ∀ (l : List (Int × Int)) (k : Int), 0 ≤ k → decide (0 ≤ ixF d k l) = ins l d
  | [], _, _ => by simp [ixF, ins]
  | x :: t, k, hk => by
    rw [ixF]
    have e : ins (x :: t) d = (win x.1 x.2 d || ins t d) := rfl
    by_cases h : win x.1 x.2 d = true
    · rw [if_pos h, e, h]; simp [hk]
    · rw [if_neg h, ixF_ins d t (k + 1) (by omega), e]; simp [h]
theorem ixF_ge (d : Int) : ∀ (l : List (Int × Int)) (k : Int), -1 ≤ k → -1 ≤ ixF d k l
  | [], _, _ => by simp [ixF]
  | x :: t, k, hk => by
    rw [ixF]; split
    · exact hk
    · exact ixF_ge d t (k + 1) (by omega)

theorem indexF_e {loops : List (Nat × LInfo)} {H : AHeap} {v : Value} {l : List (Int × Int)} {q : Nat} {d : Int} (hv : Spans H v l) (hq : q < H.n) (hg : cellAt H q 0 = some (.int .i64 d)) : CallS Try.prog loops 128 [v, .func (.func 116) #[] #[.pointer (some ⟨q, 0, none⟩)]] H fun r H' => r = .int .i64 (ixF d 0 l) ∧ H' = H := by
  obtain ⟨hlen, a, c, rfl⟩ := hv.slice
  have HV := Lib.hid hv
  clear hv
  generalize he : ixF d 0 l = er
  have HE := Lib.hid he
  clear he
  refine CallS.enter' Try.func128 rfl Try.ntmps128 (by simp) fun f hd hf => ?_
  have f0 := hf 0
  have f1 := hf 1
  simp at f0 f1
  clear hf
  repeat' (first | (with_reducible first | refine CodeS.seq ?_ | refine CodeS.region_k fun K hK => ?_ | refine opsP_go fun K2 hK2 => ?_ | refine Post.then_normal ?_ | refine Post.then_ret ?_ | refine Post.then_exit ?_ | refine Post.block_normal ?_ | refine Post.block_ret ?_ | refine Post.block_here ?_ | refine Post.scope_normal ?_ | refine Post.scope_ret ?_ | refine Post.scope_exit ?_ | refine Post.round_ret ?_ | refine Post.round_exit ?_ | refine CodeS.block ?_ | refine CodeS.skip ?_ | refine CodeS.ret ?_ | refine CodeS.exit ?_ | refine CodeS.scope ?_ | refine CodeS.label ?_) | ((with_reducible refine opsP_nil (hK _ _ ?_)); clear hK K) | ((with_reducible refine opsP_gd ?hj ?hlt fun K1 K3 d hdst h1 h3 => ?_); (case hj => rfl); (case hlt => exact Nat.le_of_ble_eq_true rfl); cases hdst; go_simp) | ((with_reducible refine CodeS.cond_k fun K1 K3 h1 h3 => ?_); go_simp) | (refine h1 ?_; clear h1 h3 K1 K3) | (refine h3 ?_; clear h1 h3 K1 K3) | ((refine Either.mk (fun hb => h1 ?_) (fun hb => h3 ?_)) <;> (clear h1 h3 K1 K3; (try have hb2 := of_decide hb); (try have hb2 := of_not_decide_lt hb); (try have hb2 := of_not_decide_le hb); (try have hb2 := of_not_decide_ltN hb); (try have hb2 := of_not_decide_leN hb))) | ((refine Either.mk (fun hb => h3 ?_) (fun hb => h1 ?_)) <;> (clear h1 h3 K1 K3; (try have hb2 := of_decide hb); (try have hb2 := of_not_decide_lt hb); (try have hb2 := of_not_decide_le hb); (try have hb2 := of_not_decide_ltN hb); (try have hb2 := of_not_decide_leN hb))) | (refine fun (K2 : _ → AHeap → Prop) hK2 => ?_) | ((with_reducible refine Post.block_off ?hn ?_); (case hn => decide)) | ((with_reducible first | refine Post.body_k ?hd (fun K hK => ?_) | refine Post.body_kn ?hd (fun K hK => ?_)); (case hd => (go_simp; done)); go_simp; refine hK _ _ ?_; clear hK K) | (go_simp; (try go_bits); refine hK2 _ _ ?_; clear hK2 K2))
  refine CodeS.loop (fun m f H' => ∃ k : Nat, k ≤ l.length ∧ m = l.length - k ∧ f.tmp 8 = .int .i64 k ∧ f.tmp 0 = .slice a l.length c ∧ f.tmp 7 = .int .i64 l.length ∧ f.tmp 1 = .func (.func 116) #[] #[.pointer (some ⟨q, 0, none⟩)] ∧ f.defers = [] ∧ Hid (ixF d k (l.drop k) = er) ∧ H' = H) l.length ?_ ?_
  · exact ⟨0, by simp, by simp, (by first | (go_simp; done) | (go_simp; go_num; done) | assumption), (by first | (go_simp; done) | (go_simp; go_num; done) | assumption), (by first | (go_simp; done) | (go_simp; go_num; done) | assumption), (by first | (go_simp; done) | (go_simp; go_num; done) | assumption), (by first | (go_simp; done) | (go_simp; go_num; done) | assumption), Lib.hid (by simpa using HE.out), rfl⟩
  clear f0 f1 hd f HE
  rintro m f H' ⟨k, hk, rfl, f8, f0, f7, f1, hd, HG, rfl⟩
  by_cases hlt : k < l.length
  · obtain ⟨b, o, sp, rfl, hb, hx⟩ := HV.out.cells_at hlt
    have HD := Lib.hid (List.drop_eq_getElem_cons hlt)
    generalize l[k] = y at hx HD
    obtain ⟨lo, hi⟩ := y
    simp only at hx
    have HO := Lib.hid (fun (loops : List (Nat × LInfo)) => isOpen1_s (loops := loops) (x := (lo, hi)) hq hg)
    generalize hww : win lo hi d = ww
    have HWW := Lib.hid hww
    simp only [hww] at HO
    clear hww
    repeat' (first | (with_reducible first | refine CodeS.seq ?_ | refine CodeS.region_k fun K hK => ?_ | refine opsP_go fun K2 hK2 => ?_ | refine Post.then_normal ?_ | refine Post.then_ret ?_ | refine Post.then_exit ?_ | refine Post.block_normal ?_ | refine Post.block_ret ?_ | refine Post.block_here ?_ | refine Post.scope_normal ?_ | refine Post.scope_ret ?_ | refine Post.scope_exit ?_ | refine Post.round_ret ?_ | refine Post.round_exit ?_ | refine CodeS.block ?_ | refine CodeS.skip ?_ | refine CodeS.ret ?_ | refine CodeS.exit ?_ | refine CodeS.scope ?_ | refine CodeS.label ?_) | ((with_reducible refine opsP_nil (hK _ _ ?_)); clear hK K) | ((with_reducible refine opsP_gd ?hj ?hlt fun K1 K3 d hdst h1 h3 => ?_); (case hj => rfl); (case hlt => exact Nat.le_of_ble_eq_true rfl); cases hdst; go_simp) | ((with_reducible refine CodeS.cond_k fun K1 K3 h1 h3 => ?_); go_simp) | (refine h1 ?_; clear h1 h3 K1 K3) | (refine h3 ?_; clear h1 h3 K1 K3) | ((refine Either.mk (fun hb => h1 ?_) (fun hb => h3 ?_)) <;> (clear h1 h3 K1 K3; (try have hb2 := of_decide hb); (try have hb2 := of_not_decide_lt hb); (try have hb2 := of_not_decide_le hb); (try have hb2 := of_not_decide_ltN hb); (try have hb2 := of_not_decide_leN hb))) | ((refine Either.mk (fun hb => h3 ?_) (fun hb => h1 ?_)) <;> (clear h1 h3 K1 K3; (try have hb2 := of_decide hb); (try have hb2 := of_not_decide_lt hb); (try have hb2 := of_not_decide_le hb); (try have hb2 := of_not_decide_ltN hb); (try have hb2 := of_not_decide_leN hb))) | (refine fun (K2 : _ → AHeap → Prop) hK2 => ?_) | ((with_reducible refine Post.block_off ?hn ?_); (case hn => decide)) | ((with_reducible first | refine Post.body_k ?hd (fun K hK => ?_) | refine Post.body_kn ?hd (fun K hK => ?_)); (case hd => (go_simp; done)); go_simp; refine hK _ _ ?_; clear hK K) | (go_simp; (try go_bits); (try first | ((with_reducible show CallS _ _ _ _ _ _); refine CallS.mono (HO.out _) ?_; rintro _ _ ⟨rfl, rfl⟩)); refine hK2 _ _ ?_; clear hK2 K2))
    · refine ⟨?_, rfl⟩
      have hw : win lo hi d = true := by rw [HWW.out]; simpa using hb
      rw [← HG.out, HD.out, ixF]; simp [hw]
    · have hw : ¬ win lo hi d = true := by rw [HWW.out]; simpa using hb
      refine Post.round_normal ⟨l.length - (k + 1), by omega, k + 1, by omega, rfl, (by first | (go_simp; done) | (go_simp; go_num; done) | assumption), (by first | (go_simp; done) | (go_simp; go_num; done) | assumption), (by first | (go_simp; done) | (go_simp; go_num; done) | assumption), (by first | (go_simp; done) | (go_simp; go_num; done) | assumption), (by first | (go_simp; done) | (go_simp; go_num; done) | assumption), Lib.hid ?_, rfl⟩
      rw [← HG.out, HD.out, ixF, if_neg hw]; simp
  · repeat' (first | (with_reducible first | refine CodeS.seq ?_ | refine CodeS.region_k fun K hK => ?_ | refine opsP_go fun K2 hK2 => ?_ | refine Post.then_normal ?_ | refine Post.then_ret ?_ | refine Post.then_exit ?_ | refine Post.block_normal ?_ | refine Post.block_ret ?_ | refine Post.block_here ?_ | refine Post.scope_normal ?_ | refine Post.scope_ret ?_ | refine Post.scope_exit ?_ | refine Post.round_ret ?_ | refine Post.round_exit ?_ | refine CodeS.block ?_ | refine CodeS.skip ?_ | refine CodeS.ret ?_ | refine CodeS.exit ?_ | refine CodeS.scope ?_ | refine CodeS.label ?_) | ((with_reducible refine opsP_nil (hK _ _ ?_)); clear hK K) | ((with_reducible refine opsP_gd ?hj ?hlt fun K1 K3 d hdst h1 h3 => ?_); (case hj => rfl); (case hlt => exact Nat.le_of_ble_eq_true rfl); cases hdst; go_simp) | ((with_reducible refine CodeS.cond_k fun K1 K3 h1 h3 => ?_); go_simp) | (refine h1 ?_; clear h1 h3 K1 K3) | (refine h3 ?_; clear h1 h3 K1 K3) | ((refine Either.mk (fun hb => h1 ?_) (fun hb => h3 ?_)) <;> (clear h1 h3 K1 K3; (try have hb2 := of_decide hb); (try have hb2 := of_not_decide_lt hb); (try have hb2 := of_not_decide_le hb); (try have hb2 := of_not_decide_ltN hb); (try have hb2 := of_not_decide_leN hb))) | ((refine Either.mk (fun hb => h3 ?_) (fun hb => h1 ?_)) <;> (clear h1 h3 K1 K3; (try have hb2 := of_decide hb); (try have hb2 := of_not_decide_lt hb); (try have hb2 := of_not_decide_le hb); (try have hb2 := of_not_decide_ltN hb); (try have hb2 := of_not_decide_leN hb))) | (refine fun (K2 : _ → AHeap → Prop) hK2 => ?_) | ((with_reducible refine Post.block_off ?hn ?_); (case hn => decide)) | ((with_reducible first | refine Post.body_k ?hd (fun K hK => ?_) | refine Post.body_kn ?hd (fun K hK => ?_)); (case hd => (go_simp; done)); go_simp; refine hK _ _ ?_; clear hK K) | (go_simp; (try go_bits); refine hK2 _ _ ?_; clear hK2 K2))
    refine ⟨?_, rfl⟩
    rw [← HG.out, List.drop_eq_nil_of_le (by omega)]; rfl
theorem containsF_e {loops : List (Nat × LInfo)} {H : AHeap} {v : Value} {l : List (Int × Int)} {q : Nat} {d : Int} (hv : Spans H v l) (hq : q < H.n) (hg : cellAt H q 0 = some (.int .i64 d)) : CallS Try.prog loops 115 [v, .func (.func 116) #[] #[.pointer (some ⟨q, 0, none⟩)]] H fun r H' => r = .bool (ins l d) ∧ H' = H := by
  obtain ⟨hlen, a, c, rfl⟩ := hv.slice
  have HV := Lib.hid hv
  clear hv
  rw [← ixF_ins d l 0 (by omega)]
  refine CallS.enter' Try.func115 rfl Try.ntmps115 (by simp) fun f hd hf => ?_
  have f0 := hf 0
  have f1 := hf 1
  simp at f0 f1
  clear hf
  repeat' (first | (with_reducible first | refine CodeS.seq ?_ | refine CodeS.region_k fun K hK => ?_ | refine opsP_go fun K2 hK2 => ?_ | refine Post.then_normal ?_ | refine Post.then_ret ?_ | refine Post.then_exit ?_ | refine Post.block_normal ?_ | refine Post.block_ret ?_ | refine Post.block_here ?_ | refine Post.scope_normal ?_ | refine Post.scope_ret ?_ | refine Post.scope_exit ?_ | refine Post.round_ret ?_ | refine Post.round_exit ?_ | refine CodeS.block ?_ | refine CodeS.skip ?_ | refine CodeS.ret ?_ | refine CodeS.exit ?_ | refine CodeS.scope ?_ | refine CodeS.label ?_) | ((with_reducible refine opsP_nil (hK _ _ ?_)); clear hK K) | ((with_reducible refine opsP_gd ?hj ?hlt fun K1 K3 d hdst h1 h3 => ?_); (case hj => rfl); (case hlt => exact Nat.le_of_ble_eq_true rfl); cases hdst; go_simp) | ((with_reducible refine CodeS.cond_k fun K1 K3 h1 h3 => ?_); go_simp) | (refine h1 ?_; clear h1 h3 K1 K3) | (refine h3 ?_; clear h1 h3 K1 K3) | ((refine Either.mk (fun hb => h1 ?_) (fun hb => h3 ?_)) <;> (clear h1 h3 K1 K3; (try have hb2 := of_decide hb); (try have hb2 := of_not_decide_lt hb); (try have hb2 := of_not_decide_le hb); (try have hb2 := of_not_decide_ltN hb); (try have hb2 := of_not_decide_leN hb))) | ((refine Either.mk (fun hb => h3 ?_) (fun hb => h1 ?_)) <;> (clear h1 h3 K1 K3; (try have hb2 := of_decide hb); (try have hb2 := of_not_decide_lt hb); (try have hb2 := of_not_decide_le hb); (try have hb2 := of_not_decide_ltN hb); (try have hb2 := of_not_decide_leN hb))) | (refine fun (K2 : _ → AHeap → Prop) hK2 => ?_) | ((with_reducible refine Post.block_off ?hn ?_); (case hn => decide)) | ((with_reducible first | refine Post.body_k ?hd (fun K hK => ?_) | refine Post.body_kn ?hd (fun K hK => ?_)); (case hd => (go_simp; done)); go_simp; refine hK _ _ ?_; clear hK K) | (go_simp; (try go_bits); (try first | ((with_reducible show CallS _ _ _ _ _ _); refine CallS.mono (indexF_e HV.out hq hg) ?_; rintro _ _ ⟨rfl, rfl⟩)); refine hK2 _ _ ?_; clear hK2 K2))
  all_goals (exact ⟨rfl, rfl⟩)

theorem isOpen_s {loops : List (Nat × LInfo)} {H : AHeap} {v : Value} {x : Course} {k : Nat} {d : Int} (hv : CourseV H v x) (hk : k < x.open_.length) : CallS Try.prog loops 91 [v, .int .i64 k, .int .i64 d] H fun r H' => r = .bool (ins (x.at_ k) d) ∧ H' = H := by
  refine CallS.forget (R := fun v => v = .bool (ins (x.at_ k) d)) (by rintro v rfl; rfl) ?_
  obtain ⟨ov, rfl, ho⟩ := hv
  obtain ⟨hol, oa, oc, rfl⟩ := ho.slice
  obtain ⟨b, o, sp, u, rfl, hb, hc, hu⟩ := ho.at_ hk
  have HU := Lib.hid hu
  have hat : x.at_ k = x.open_[k] := by simp [Course.at_, hk]
  rw [hat]
  generalize x.open_[k] = l at HU
  clear hu ho hat
  obtain ⟨hll, la, lc, rfl⟩ := HU.out.slice
  refine CallS.enter' Try.func91 rfl Try.ntmps91 (by simp) fun f hd hf => ?_
  have f0 := hf 0
  have f1 := hf 1
  have f2 := hf 2
  simp at f0 f1 f2
  clear hf
  repeat' (first | (with_reducible first | refine CodeS.seq ?_ | refine CodeS.region_k fun K hK => ?_ | refine opsP_go fun K2 hK2 => ?_ | refine Post.then_normal ?_ | refine Post.then_ret ?_ | refine Post.then_exit ?_ | refine Post.block_normal ?_ | refine Post.block_ret ?_ | refine Post.block_here ?_ | refine Post.scope_normal ?_ | refine Post.scope_ret ?_ | refine Post.scope_exit ?_ | refine Post.round_ret ?_ | refine Post.round_exit ?_ | refine CodeS.block ?_ | refine CodeS.skip ?_ | refine CodeS.ret ?_ | refine CodeS.exit ?_ | refine CodeS.scope ?_ | refine CodeS.label ?_) | ((with_reducible refine opsP_nil (hK _ _ ?_)); clear hK K) | ((with_reducible refine opsP_gd ?hj ?hlt fun K1 K3 d hdst h1 h3 => ?_); (case hj => rfl); (case hlt => exact Nat.le_of_ble_eq_true rfl); cases hdst; go_simp) | ((with_reducible refine CodeS.cond_k fun K1 K3 h1 h3 => ?_); go_simp) | (refine h1 ?_; clear h1 h3 K1 K3) | (refine h3 ?_; clear h1 h3 K1 K3) | ((refine Either.mk (fun hb => h1 ?_) (fun hb => h3 ?_)) <;> (clear h1 h3 K1 K3; (try have hb2 := of_decide hb); (try have hb2 := of_not_decide_lt hb); (try have hb2 := of_not_decide_le hb); (try have hb2 := of_not_decide_ltN hb); (try have hb2 := of_not_decide_leN hb))) | ((refine Either.mk (fun hb => h3 ?_) (fun hb => h1 ?_)) <;> (clear h1 h3 K1 K3; (try have hb2 := of_decide hb); (try have hb2 := of_not_decide_lt hb); (try have hb2 := of_not_decide_le hb); (try have hb2 := of_not_decide_ltN hb); (try have hb2 := of_not_decide_leN hb))) | (refine fun (K2 : _ → AHeap → Prop) hK2 => ?_) | ((with_reducible refine Post.block_off ?hn ?_); (case hn => decide)) | ((with_reducible first | refine Post.body_k ?hd (fun K hK => ?_) | refine Post.body_kn ?hd (fun K hK => ?_)); (case hd => (go_simp; done)); go_simp; refine hK _ _ ?_; clear hK K) | ((with_reducible refine CodeS.tree_lit mixed rfl ?hok 20 fun K0 hK0 => ?_); (case hok => kernel_rfl)) | (with_reducible first | exact loudsP_nil | exact stableP_nil | refine treeP_lit ?_ | refine passP_nil ?_ | refine stableP_keep ?_) | ((with_reducible first | refine passP_skip ?h1 ?_ | refine loudsP_skip ?h1 ?_ | refine stepT_more ?h1 ?_); (case h1 => rfl)) | ((with_reducible refine stepT_done ?h1 ?_); (case h1 => rfl); refine hK0 _ _ ?_; clear hK0 K0) | ((with_reducible refine passP_loud ?h1 ?hg ?hl ?_); (case h1 => rfl); (case hg => rfl); (case hl => rfl)) | ((with_reducible refine passP_q ?h1 ?hl ?hlt fun K2 hK2 => ?_); (case h1 => rfl); (case hl => rfl); (case hlt => exact Nat.le_of_ble_eq_true rfl)) | ((with_reducible refine passP_g ?h1 ?hj ?hl ?hlt fun K1 K3 d hdst h1 h3 => ?_); (case h1 => rfl); (case hj => rfl); (case hl => rfl); (case hlt => exact Nat.le_of_ble_eq_true rfl); cases hdst; go_simp) | ((with_reducible refine passP_lg ?h1 ?hj ?hl ?hlt fun K1 K3 d hdst h1 h3 => ?_); (case h1 => rfl); (case hj => rfl); (case hl => rfl); (case hlt => exact Nat.le_of_ble_eq_true rfl); cases hdst; go_simp) | ((with_reducible refine loudsP_c ?h1 ?hlt (fun K2 hK2 => ?_) ?_); (case h1 => rfl); (case hlt => exact Nat.le_of_ble_eq_true rfl)) | ((with_reducible refine loudsP_cg ?h1 ?hlt ?hj ?hw (fun K2 hK2 => ?_) ?_); (case h1 => rfl); (case hlt => exact Nat.le_of_ble_eq_true rfl); (case hj => rfl); (case hw => (go_simp; done))) | ((with_reducible refine loudsP_v ?h1 ?hv ?hlt (fun K2 hK2 => ?_) ?_); (case h1 => rfl); (case hv => rfl); (case hlt => exact Nat.le_of_ble_eq_true rfl)) | ((with_reducible refine loudsP_u ?h1 ?hv (fun K2 hK2 => ?_) ?_); (case h1 => rfl); (case hv => rfl)) | ((with_reducible refine stableP_pre ?h1 ?_); (case h1 => (first | rfl | (dsimp only; decide +kernel)))) | ((with_reducible refine stableP_re ?h1 ?_); (case h1 => (go_simp; done))) | (go_simp; (try go_bits); (try first | ((with_reducible show CallS _ _ _ _ _ _); refine CallS.mono (containsF_e (d := d) (HU.out.ext (((Ext.refl _).push' _).push' _)) (by simp only [AHeap.n_push]; omega) (by go_simp)) ?_; rintro _ _ ⟨rfl, rfl⟩)); (first | (refine hK2 _ _ ?_ ?_ <;> clear hK2 K2) | (refine hK2 _ _ ?_; clear hK2 K2))))
  exact ⟨rfl, ((Ext.refl _).push' _).push' _⟩

theorem lowest_s {loops : List (Nat × LInfo)} {H : AHeap} {v dv : Value} {x : Course} {k p : Nat} {days : List Int} (hv : CourseV H v x) (hd : Ints H dv days) (hk : k ≤ days.length) (hp : x.per = p) (hp1 : 1 ≤ p) (hb : ∀ j, j < k → -1 ≤ days.getD j 0 ∧ days.getD j 0 ≤ 731) : CallS Try.prog loops 92 [v, .int .i64 k, dv] H fun r H' => r = .int .i64 (lowL p days k) ∧ H' = H := by
  refine CallS.forget (R := fun v => v = .int .i64 (lowL p days k)) (by rintro v rfl; rfl) ?_
  obtain ⟨ov, rfl, ho⟩ := hv
  obtain ⟨hol, oa, oc, rfl⟩ := ho.slice
  clear ho
  rw [hp]
  clear hp
  obtain ⟨hdl, da, dc, rfl⟩ := hd.slice
  have HD := Lib.hid hd
  have HB := Lib.hid hb
  clear hd hb
  generalize hr : lowL p days k = r
  have HR := Lib.hid hr
  clear hr
  refine CallS.enter' Try.func92 rfl Try.ntmps92 (by simp) fun f hd hf => ?_
  have f0 := hf 0
  have f1 := hf 1
  have f2 := hf 2
  simp at f0 f1 f2
  clear hf
  rcases Nat.eq_zero_or_pos k with rfl | hk0
  · have h1 : ¬ ((1 : Int) ≤ (0 : Nat)) := by omega
    have h2 : ¬ ((p : Int) ≤ (0 : Nat)) := by omega
    have h3 : ¬ ((p : Int) ≤ 0) := by omega
    have h4 : ¬ (p = 0) := by omega
    have h5 : ¬ (p ≤ 0) := by omega
    repeat' (first | (with_reducible first | refine CodeS.seq ?_ | refine CodeS.region_k fun K hK => ?_ | refine opsP_go fun K2 hK2 => ?_ | refine Post.then_normal ?_ | refine Post.then_ret ?_ | refine Post.then_exit ?_ | refine Post.block_normal ?_ | refine Post.block_ret ?_ | refine Post.block_here ?_ | refine Post.scope_normal ?_ | refine Post.scope_ret ?_ | refine Post.scope_exit ?_ | refine Post.round_ret ?_ | refine Post.round_exit ?_ | refine CodeS.block ?_ | refine CodeS.skip ?_ | refine CodeS.ret ?_ | refine CodeS.exit ?_ | refine CodeS.scope ?_ | refine CodeS.label ?_) | ((with_reducible refine opsP_nil (hK _ _ ?_)); clear hK K) | ((with_reducible refine opsP_gd ?hj ?hlt fun K1 K3 d hdst h1 h3 => ?_); (case hj => rfl); (case hlt => exact Nat.le_of_ble_eq_true rfl); cases hdst; go_simp) | ((with_reducible refine CodeS.cond_k fun K1 K3 h1 h3 => ?_); go_simp) | (refine h1 ?_; clear h1 h3 K1 K3) | (refine h3 ?_; clear h1 h3 K1 K3) | ((refine Either.mk (fun hb => h1 ?_) (fun hb => h3 ?_)) <;> (clear h1 h3 K1 K3; (try have hb2 := of_decide hb); (try have hb2 := of_not_decide_lt hb); (try have hb2 := of_not_decide_le hb); (try have hb2 := of_not_decide_ltN hb); (try have hb2 := of_not_decide_leN hb))) | ((refine Either.mk (fun hb => h3 ?_) (fun hb => h1 ?_)) <;> (clear h1 h3 K1 K3; (try have hb2 := of_decide hb); (try have hb2 := of_not_decide_lt hb); (try have hb2 := of_not_decide_le hb); (try have hb2 := of_not_decide_ltN hb); (try have hb2 := of_not_decide_leN hb))) | (refine fun (K2 : _ → AHeap → Prop) hK2 => ?_) | ((with_reducible refine Post.block_off ?hn ?_); (case hn => decide)) | ((with_reducible first | refine Post.body_k ?hd (fun K hK => ?_) | refine Post.body_kn ?hd (fun K hK => ?_)); (case hd => (go_simp; done)); go_simp; refine hK _ _ ?_; clear hK K) | ((with_reducible refine CodeS.tree_lit mixed rfl ?hok 20 fun K0 hK0 => ?_); (case hok => kernel_rfl)) | (with_reducible first | exact loudsP_nil | exact stableP_nil | refine treeP_lit ?_ | refine passP_nil ?_ | refine stableP_keep ?_) | ((with_reducible first | refine passP_skip ?h1 ?_ | refine loudsP_skip ?h1 ?_ | refine stepT_more ?h1 ?_); (case h1 => rfl)) | ((with_reducible refine stepT_done ?h1 ?_); (case h1 => rfl); refine hK0 _ _ ?_; clear hK0 K0) | ((with_reducible refine passP_loud ?h1 ?hg ?hl ?_); (case h1 => rfl); (case hg => rfl); (case hl => rfl)) | ((with_reducible refine passP_q ?h1 ?hl ?hlt fun K2 hK2 => ?_); (case h1 => rfl); (case hl => rfl); (case hlt => exact Nat.le_of_ble_eq_true rfl)) | ((with_reducible refine passP_g ?h1 ?hj ?hl ?hlt fun K1 K3 d hdst h1 h3 => ?_); (case h1 => rfl); (case hj => rfl); (case hl => rfl); (case hlt => exact Nat.le_of_ble_eq_true rfl); cases hdst; go_simp) | ((with_reducible refine passP_lg ?h1 ?hj ?hl ?hlt fun K1 K3 d hdst h1 h3 => ?_); (case h1 => rfl); (case hj => rfl); (case hl => rfl); (case hlt => exact Nat.le_of_ble_eq_true rfl); cases hdst; go_simp) | ((with_reducible refine loudsP_c ?h1 ?hlt (fun K2 hK2 => ?_) ?_); (case h1 => rfl); (case hlt => exact Nat.le_of_ble_eq_true rfl)) | ((with_reducible refine loudsP_cg ?h1 ?hlt ?hj ?hw (fun K2 hK2 => ?_) ?_); (case h1 => rfl); (case hlt => exact Nat.le_of_ble_eq_true rfl); (case hj => rfl); (case hw => (go_simp; done))) | ((with_reducible refine loudsP_v ?h1 ?hv ?hlt (fun K2 hK2 => ?_) ?_); (case h1 => rfl); (case hv => rfl); (case hlt => exact Nat.le_of_ble_eq_true rfl)) | ((with_reducible refine loudsP_u ?h1 ?hv (fun K2 hK2 => ?_) ?_); (case h1 => rfl); (case hv => rfl)) | ((with_reducible refine stableP_pre ?h1 ?_); (case h1 => (first | rfl | (dsimp only; decide +kernel)))) | ((with_reducible refine stableP_re ?h1 ?_); (case h1 => (go_simp; done))) | (go_simp; (try go_bits); (first | (refine hK2 _ _ ?_ ?_ <;> clear hK2 K2) | (refine hK2 _ _ ?_; clear hK2 K2))))
    refine ⟨?_, Ext.push _⟩
    rw [← HR.out]
    simp [lowL, show ¬ p ≤ 0 by omega]
  · obtain ⟨b, o, sp, rfl, hb, hc⟩ := HD.out.at_ (k := k - 1) (by omega)
    have hg1 : Hid (days.getD (k - 1) 0 = days[k - 1]) := Lib.hid (by simp [List.getD_eq_getElem?_getD, show k - 1 < days.length by omega])
    have hbd := HB.out (k - 1) (by omega)
    rw [hg1.out] at hbd
    generalize days[k - 1] = y at hc hg1 hbd
    have h0i : (0 : Int) ≤ (k : Int) - 1 := by omega
    have h1i : (k : Int) - 1 < (days.length : Int) := by omega
    have h2i : (1 : Int) ≤ (k : Int) := by omega
    have h3i : 1 ≤ k := by omega
    by_cases hpk : p ≤ k
    · obtain ⟨b2, o2, sp2, he2, hb2, hc2⟩ := HD.out.at_ (k := k - p) (by omega)
      cases he2
      have hg2 : Hid (days.getD (k - p) 0 = days[k - p]) := Lib.hid (by simp [List.getD_eq_getElem?_getD, show k - p < days.length by omega])
      have hbd2 := HB.out (k - p) (by omega)
      rw [hg2.out] at hbd2
      generalize days[k - p] = y2 at hc2 hg2 hbd2
      obtain ⟨hy1, hy2⟩ := hbd2
      have j0 : (0 : Int) ≤ (k : Int) - p := by omega
      have j1 : (k : Int) - p < (days.length : Int) := by omega
      have j2 : (p : Int) ≤ (k : Int) := by omega
      have j3 : ((k : Int) - (p : Int)).toNat = k - p := by omega
      repeat' (first | (with_reducible first | refine CodeS.seq ?_ | refine CodeS.region_k fun K hK => ?_ | refine opsP_go fun K2 hK2 => ?_ | refine Post.then_normal ?_ | refine Post.then_ret ?_ | refine Post.then_exit ?_ | refine Post.block_normal ?_ | refine Post.block_ret ?_ | refine Post.block_here ?_ | refine Post.scope_normal ?_ | refine Post.scope_ret ?_ | refine Post.scope_exit ?_ | refine Post.round_ret ?_ | refine Post.round_exit ?_ | refine CodeS.block ?_ | refine CodeS.skip ?_ | refine CodeS.ret ?_ | refine CodeS.exit ?_ | refine CodeS.scope ?_ | refine CodeS.label ?_) | ((with_reducible refine opsP_nil (hK _ _ ?_)); clear hK K) | ((with_reducible refine opsP_gd ?hj ?hlt fun K1 K3 d hdst h1 h3 => ?_); (case hj => rfl); (case hlt => exact Nat.le_of_ble_eq_true rfl); cases hdst; go_simp) | ((with_reducible refine CodeS.cond_k fun K1 K3 h1 h3 => ?_); go_simp) | (refine h1 ?_; clear h1 h3 K1 K3) | (refine h3 ?_; clear h1 h3 K1 K3) | ((refine Either.mk (fun hb => h1 ?_) (fun hb => h3 ?_)) <;> (clear h1 h3 K1 K3; (try have hb2 := of_decide hb); (try have hb2 := of_not_decide_lt hb); (try have hb2 := of_not_decide_le hb); (try have hb2 := of_not_decide_ltN hb); (try have hb2 := of_not_decide_leN hb))) | ((refine Either.mk (fun hb => h3 ?_) (fun hb => h1 ?_)) <;> (clear h1 h3 K1 K3; (try have hb2 := of_decide hb); (try have hb2 := of_not_decide_lt hb); (try have hb2 := of_not_decide_le hb); (try have hb2 := of_not_decide_ltN hb); (try have hb2 := of_not_decide_leN hb))) | (refine fun (K2 : _ → AHeap → Prop) hK2 => ?_) | ((with_reducible refine Post.block_off ?hn ?_); (case hn => decide)) | ((with_reducible first | refine Post.body_k ?hd (fun K hK => ?_) | refine Post.body_kn ?hd (fun K hK => ?_)); (case hd => (go_simp; done)); go_simp; refine hK _ _ ?_; clear hK K) | ((with_reducible refine CodeS.tree_lit mixed rfl ?hok 20 fun K0 hK0 => ?_); (case hok => kernel_rfl)) | (with_reducible first | exact loudsP_nil | exact stableP_nil | refine treeP_lit ?_ | refine passP_nil ?_ | refine stableP_keep ?_) | ((with_reducible first | refine passP_skip ?h1 ?_ | refine loudsP_skip ?h1 ?_ | refine stepT_more ?h1 ?_); (case h1 => rfl)) | ((with_reducible refine stepT_done ?h1 ?_); (case h1 => rfl); refine hK0 _ _ ?_; clear hK0 K0) | ((with_reducible refine passP_loud ?h1 ?hg ?hl ?_); (case h1 => rfl); (case hg => rfl); (case hl => rfl)) | ((with_reducible refine passP_q ?h1 ?hl ?hlt fun K2 hK2 => ?_); (case h1 => rfl); (case hl => rfl); (case hlt => exact Nat.le_of_ble_eq_true rfl)) | ((with_reducible refine passP_g ?h1 ?hj ?hl ?hlt fun K1 K3 d hdst h1 h3 => ?_); (case h1 => rfl); (case hj => rfl); (case hl => rfl); (case hlt => exact Nat.le_of_ble_eq_true rfl); cases hdst; go_simp) | ((with_reducible refine passP_lg ?h1 ?hj ?hl ?hlt fun K1 K3 d hdst h1 h3 => ?_); (case h1 => rfl); (case hj => rfl); (case hl => rfl); (case hlt => exact Nat.le_of_ble_eq_true rfl); cases hdst; go_simp) | ((with_reducible refine loudsP_c ?h1 ?hlt (fun K2 hK2 => ?_) ?_); (case h1 => rfl); (case hlt => exact Nat.le_of_ble_eq_true rfl)) | ((with_reducible refine loudsP_cg ?h1 ?hlt ?hj ?hw (fun K2 hK2 => ?_) ?_); (case h1 => rfl); (case hlt => exact Nat.le_of_ble_eq_true rfl); (case hj => rfl); (case hw => (go_simp; done))) | ((with_reducible refine loudsP_v ?h1 ?hv ?hlt (fun K2 hK2 => ?_) ?_); (case h1 => rfl); (case hv => rfl); (case hlt => exact Nat.le_of_ble_eq_true rfl)) | ((with_reducible refine loudsP_u ?h1 ?hv (fun K2 hK2 => ?_) ?_); (case h1 => rfl); (case hv => rfl)) | ((with_reducible refine stableP_pre ?h1 ?_); (case h1 => (first | rfl | (dsimp only; decide +kernel)))) | ((with_reducible refine stableP_re ?h1 ?_); (case h1 => (go_simp; done))) | (go_simp; (try go_bits); (first | (refine hK2 _ _ ?_ ?_ <;> clear hK2 K2) | (refine hK2 _ _ ?_; clear hK2 K2))))
      refine ⟨?_, Ext.push _⟩
      rw [← HR.out]
      simp only [lowL, if_pos hpk, if_pos h3i, hg1.out, hg2.out]
    · have j2 : ¬ ((p : Int) ≤ (k : Int)) := by omega
      repeat' (first | (with_reducible first | refine CodeS.seq ?_ | refine CodeS.region_k fun K hK => ?_ | refine opsP_go fun K2 hK2 => ?_ | refine Post.then_normal ?_ | refine Post.then_ret ?_ | refine Post.then_exit ?_ | refine Post.block_normal ?_ | refine Post.block_ret ?_ | refine Post.block_here ?_ | refine Post.scope_normal ?_ | refine Post.scope_ret ?_ | refine Post.scope_exit ?_ | refine Post.round_ret ?_ | refine Post.round_exit ?_ | refine CodeS.block ?_ | refine CodeS.skip ?_ | refine CodeS.ret ?_ | refine CodeS.exit ?_ | refine CodeS.scope ?_ | refine CodeS.label ?_) | ((with_reducible refine opsP_nil (hK _ _ ?_)); clear hK K) | ((with_reducible refine opsP_gd ?hj ?hlt fun K1 K3 d hdst h1 h3 => ?_); (case hj => rfl); (case hlt => exact Nat.le_of_ble_eq_true rfl); cases hdst; go_simp) | ((with_reducible refine CodeS.cond_k fun K1 K3 h1 h3 => ?_); go_simp) | (refine h1 ?_; clear h1 h3 K1 K3) | (refine h3 ?_; clear h1 h3 K1 K3) | ((refine Either.mk (fun hb => h1 ?_) (fun hb => h3 ?_)) <;> (clear h1 h3 K1 K3; (try have hb2 := of_decide hb); (try have hb2 := of_not_decide_lt hb); (try have hb2 := of_not_decide_le hb); (try have hb2 := of_not_decide_ltN hb); (try have hb2 := of_not_decide_leN hb))) | ((refine Either.mk (fun hb => h3 ?_) (fun hb => h1 ?_)) <;> (clear h1 h3 K1 K3; (try have hb2 := of_decide hb); (try have hb2 := of_not_decide_lt hb); (try have hb2 := of_not_decide_le hb); (try have hb2 := of_not_decide_ltN hb); (try have hb2 := of_not_decide_leN hb))) | (refine fun (K2 : _ → AHeap → Prop) hK2 => ?_) | ((with_reducible refine Post.block_off ?hn ?_); (case hn => decide)) | ((with_reducible first | refine Post.body_k ?hd (fun K hK => ?_) | refine Post.body_kn ?hd (fun K hK => ?_)); (case hd => (go_simp; done)); go_simp; refine hK _ _ ?_; clear hK K) | ((with_reducible refine CodeS.tree_lit mixed rfl ?hok 20 fun K0 hK0 => ?_); (case hok => kernel_rfl)) | (with_reducible first | exact loudsP_nil | exact stableP_nil | refine treeP_lit ?_ | refine passP_nil ?_ | refine stableP_keep ?_) | ((with_reducible first | refine passP_skip ?h1 ?_ | refine loudsP_skip ?h1 ?_ | refine stepT_more ?h1 ?_); (case h1 => rfl)) | ((with_reducible refine stepT_done ?h1 ?_); (case h1 => rfl); refine hK0 _ _ ?_; clear hK0 K0) | ((with_reducible refine passP_loud ?h1 ?hg ?hl ?_); (case h1 => rfl); (case hg => rfl); (case hl => rfl)) | ((with_reducible refine passP_q ?h1 ?hl ?hlt fun K2 hK2 => ?_); (case h1 => rfl); (case hl => rfl); (case hlt => exact Nat.le_of_ble_eq_true rfl)) | ((with_reducible refine passP_g ?h1 ?hj ?hl ?hlt fun K1 K3 d hdst h1 h3 => ?_); (case h1 => rfl); (case hj => rfl); (case hl => rfl); (case hlt => exact Nat.le_of_ble_eq_true rfl); cases hdst; go_simp) | ((with_reducible refine passP_lg ?h1 ?hj ?hl ?hlt fun K1 K3 d hdst h1 h3 => ?_); (case h1 => rfl); (case hj => rfl); (case hl => rfl); (case hlt => exact Nat.le_of_ble_eq_true rfl); cases hdst; go_simp) | ((with_reducible refine loudsP_c ?h1 ?hlt (fun K2 hK2 => ?_) ?_); (case h1 => rfl); (case hlt => exact Nat.le_of_ble_eq_true rfl)) | ((with_reducible refine loudsP_cg ?h1 ?hlt ?hj ?hw (fun K2 hK2 => ?_) ?_); (case h1 => rfl); (case hlt => exact Nat.le_of_ble_eq_true rfl); (case hj => rfl); (case hw => (go_simp; done))) | ((with_reducible refine loudsP_v ?h1 ?hv ?hlt (fun K2 hK2 => ?_) ?_); (case h1 => rfl); (case hv => rfl); (case hlt => exact Nat.le_of_ble_eq_true rfl)) | ((with_reducible refine loudsP_u ?h1 ?hv (fun K2 hK2 => ?_) ?_); (case h1 => rfl); (case hv => rfl)) | ((with_reducible refine stableP_pre ?h1 ?_); (case h1 => (first | rfl | (dsimp only; decide +kernel)))) | ((with_reducible refine stableP_re ?h1 ?_); (case h1 => (go_simp; done))) | (go_simp; (try go_bits); (first | (refine hK2 _ _ ?_ ?_ <;> clear hK2 K2) | (refine hK2 _ _ ?_; clear hK2 K2))))
      refine ⟨?_, Ext.push _⟩
      rw [← HR.out]
      simp only [lowL, if_neg hpk, if_pos h3i, hg1.out]
end Go.Proofs.Try
