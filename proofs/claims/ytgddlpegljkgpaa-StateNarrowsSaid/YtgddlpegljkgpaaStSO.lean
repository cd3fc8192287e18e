/- Contracts of functions, walked. -/
import Derived.Test.YtgddlpegljkgpaaStSL
import Derived.Test.YtgddlpegljkgpaaAwB
set_option linter.all false
namespace Go.Proofs.Try
open Go Go.Am Go.RowKit Go.Co
set_option maxRecDepth 100000

/-! Courses: open days, the lowest day, the earliest days. -/

theorem isOpen1_s {loops : List (Nat × LInfo)} {H : AHeap} {x : Int × Int} {q : Nat} {d : Int} (hq : q < H.n) (hg : cellAt H q 0 = some (.int .i64 d)) : CallS Try.prog loops 116 [spanVal x, .pointer (some ⟨q, 0, none⟩)] H fun v H' => v = .bool (win x.1 x.2 d) ∧ H' = H := by
  refine CallS.forget (R := fun v => v = .bool (win x.1 x.2 d)) (by rintro v rfl; rfl) ?_
  obtain ⟨lo, hi⟩ := x
  refine CallS.enter' Try.func116 rfl Try.ntmps116 (by simp) fun f hd hf => ?_
  have f0 := hf 0
  have f1 := hf 1
  simp [spanVal] at f0 f1
  clear hf
  repeat' (first | (with_reducible first | refine CodeS.seq ?_ | refine CodeS.region_k fun K hK => ?_ | refine opsP_go fun K2 hK2 => ?_ | refine Post.then_normal ?_ | refine Post.then_ret ?_ | refine Post.then_exit ?_ | refine Post.block_normal ?_ | refine Post.block_ret ?_ | refine Post.block_here ?_ | refine Post.scope_normal ?_ | refine Post.scope_ret ?_ | refine Post.scope_exit ?_ | refine Post.round_ret ?_ | refine Post.round_exit ?_ | refine CodeS.block ?_ | refine CodeS.skip ?_ | refine CodeS.ret ?_ | refine CodeS.exit ?_ | refine CodeS.scope ?_ | refine CodeS.label ?_) | ((with_reducible refine opsP_nil (hK _ _ ?_)); clear hK K) | ((with_reducible refine opsP_gd ?hj ?hlt fun K1 K3 d hdst h1 h3 => ?_); (case hj => rfl); (case hlt => exact Nat.le_of_ble_eq_true rfl); cases hdst; go_simp) | ((with_reducible refine CodeS.cond_k fun K1 K3 h1 h3 => ?_); go_simp) | (refine h1 ?_; clear h1 h3 K1 K3) | (refine h3 ?_; clear h1 h3 K1 K3) | ((refine Either.mk (fun hb => h1 ?_) (fun hb => h3 ?_)) <;> (clear h1 h3 K1 K3; (try have hb2 := of_decide hb); (try have hb2 := of_not_decide_lt hb); (try have hb2 := of_not_decide_le hb); (try have hb2 := of_not_decide_ltN hb); (try have hb2 := of_not_decide_leN hb))) | ((refine Either.mk (fun hb => h3 ?_) (fun hb => h1 ?_)) <;> (clear h1 h3 K1 K3; (try have hb2 := of_decide hb); (try have hb2 := of_not_decide_lt hb); (try have hb2 := of_not_decide_le hb); (try have hb2 := of_not_decide_ltN hb); (try have hb2 := of_not_decide_leN hb))) | (refine fun (K2 : _ → AHeap → Prop) hK2 => ?_) | ((with_reducible refine Post.block_off ?hn ?_); (case hn => decide)) | ((with_reducible first | refine Post.body_k ?hd (fun K hK => ?_) | refine Post.body_kn ?hd (fun K hK => ?_)); (case hd => (go_simp; done)); go_simp; refine hK _ _ ?_; clear hK K) | (go_simp; (try go_bits); (try first | ((with_reducible show CallS _ _ _ _ _ _); refine CallS.mono within_s ?_; rintro _ _ ⟨rfl, rfl⟩)); refine hK2 _ _ ?_; clear hK2 K2))
  exact ⟨rfl, (Ext.refl _).push' _⟩

def ixF (d : Int) : Int → List (Int × Int) → Int
  | _, [] => -1
  | k, x :: t => if win x.1 x.2 d = true then k else ixF d (k + 1) t
theorem ixF_ins (d : Int) : ∀ (l : List (Int × Int)) (k : Int), 0 ≤ k → decide (0 ≤ ixF d k l) = ins l d
  | [], _, _ => by simp [ixF, ins]
  | x :: t, k, hk => by
    rw [ixF]
    have e : ins (x :: t) d = (win x.1 x.2 d || ins t d) := rfl
    by_cases h : win x.1 x.2 d = true
    · rw [if_pos h, e, h]; simp [hk]
    · rw [if_neg h, ixF_ins d t (k + 1) (by omega), e]; simp [h]
theorem ixF_ge (d : Int) : ∀ (l : List (Int × Int)) (k : Int), -1 ≤ k → -1 ≤ ixF d k l
  | [], _, _ => by simp [ixF]
  | x :: t, k, hk => by
    rw [ixF]; split
    · exact hk
    · exact ixF_ge d t (k + 1) (by omega)

theorem indexF_e {loops : List (Nat × LInfo)} {H : AHeap} {v : Value} {l : List (Int × Int)} {q : Nat} {d : Int} (hv : Spans H v l) (hq : q < H.n) (hg : cellAt H q 0 = some (.int .i64 d)) : CallS Try.prog loops 128 [v, .func (.func 116) #[] #[.pointer (some ⟨q, 0, none⟩)]] H fun r H' => r = .int .i64 (ixF d 0 l) ∧ H' = H := by
  obtain ⟨hlen, a, c, rfl⟩ := hv.slice
  have HV := Lib.hid hv
  clear hv
  generalize he : ixF d 0 l = er
  have HE := Lib.hid he
  clear he
  refine CallS.enter' Try.func128 rfl Try.ntmps128 (by simp) fun f hd hf => ?_
  have f0 := hf 0
  have f1 := hf 1
  simp at f0 f1
  clear hf
  repeat' (first | (with_reducible first | refine CodeS.seq ?_ | refine CodeS.region_k fun K hK => ?_ | refine opsP_go fun K2 hK2 => ?_ | refine Post.then_normal ?_ | refine Post.then_ret ?_ | refine Post.then_exit ?_ | refine Post.block_normal ?_ | refine Post.block_ret ?_ | refine Post.block_here ?_ | refine Post.scope_normal ?_ | refine Post.scope_ret ?_ | refine Post.scope_exit ?_ | refine Post.round_ret ?_ | refine Post.round_exit ?_ | refine CodeS.block ?_ | refine CodeS.skip ?_ | refine CodeS.ret ?_ | refine CodeS.exit ?_ | refine CodeS.scope ?_ | refine CodeS.label ?_) | ((with_reducible refine opsP_nil (hK _ _ ?_)); clear hK K) | ((with_reducible refine opsP_gd ?hj ?hlt fun K1 K3 d hdst h1 h3 => ?_); (case hj => rfl); (case hlt => exact Nat.le_of_ble_eq_true rfl); cases hdst; go_simp) | ((with_reducible refine CodeS.cond_k fun K1 K3 h1 h3 => ?_); go_simp) | (refine h1 ?_; clear h1 h3 K1 K3) | (refine h3 ?_; clear h1 h3 K1 K3) | ((refine Either.mk (fun hb => h1 ?_) (fun hb => h3 ?_)) <;> (clear h1 h3 K1 K3; (try have hb2 := of_decide hb); (try have hb2 := of_not_decide_lt hb); (try have hb2 := of_not_decide_le hb); (try have hb2 := of_not_decide_ltN hb); (try have hb2 := of_not_decide_leN hb))) | ((refine Either.mk (fun hb => h3 ?_) (fun hb => h1 ?_)) <;> (clear h1 h3 K1 K3; (try have hb2 := of_decide hb); (try have hb2 := of_not_decide_lt hb); (try have hb2 := of_not_decide_le hb); (try have hb2 := of_not_decide_ltN hb); (try have hb2 := of_not_decide_leN hb))) | (refine fun (K2 : _ → AHeap → Prop) hK2 => ?_) | ((with_reducible refine Post.block_off ?hn ?_); (case hn => decide)) | ((with_reducible first | refine Post.body_k ?hd (fun K hK => ?_) | refine Post.body_kn ?hd (fun K hK => ?_)); (case hd => (go_simp; done)); go_simp; refine hK _ _ ?_; clear hK K) | (go_simp; (try go_bits); refine hK2 _ _ ?_; clear hK2 K2))
  refine CodeS.loop (fun m f H' => ∃ k : Nat, k ≤ l.length ∧ m = l.length - k ∧ f.tmp 8 = .int .i64 k ∧ f.tmp 0 = .slice a l.length c ∧ f.tmp 7 = .int .i64 l.length ∧ f.tmp 1 = .func (.func 116) #[] #[.pointer (some ⟨q, 0, none⟩)] ∧ f.defers = [] ∧ Hid (ixF d k (l.drop k) = er) ∧ H' = H) l.length ?_ ?_
  · exact ⟨0, by simp, by simp, (by first | (go_simp; done) | (go_simp; go_num; done) | assumption), (by first | (go_simp; done) | (go_simp; go_num; done) | assumption), (by first | (go_simp; done) | (go_simp; go_num; done) | assumption), (by first | (go_simp; done) | (go_simp; go_num; done) | assumption), (by first | (go_simp; done) | (go_simp; go_num; done) | assumption), Lib.hid (by simpa using HE.out), rfl⟩
  clear f0 f1 hd f HE
  rintro m f H' ⟨k, hk, rfl, f8, f0, f7, f1, hd, HG, rfl⟩
  by_cases hlt : k < l.length
  · obtain ⟨b, o, sp, rfl, hb, hx⟩ := HV.out.cells_at hlt
    have HD := Lib.hid (List.drop_eq_getElem_cons hlt)
    generalize l[k] = y at hx HD
    obtain ⟨lo, hi⟩ := y
    simp only at hx
    have HO := Lib.hid (fun (loops : List (Nat × LInfo)) => isOpen1_s (loops := loops) (x := (lo, hi)) hq hg)
    generalize hww : win lo hi d = ww
    have HWW := Lib.hid hww
    simp only [hww] at HO
    clear hww
    repeat' (first | (with_reducible first | refine CodeS.seq ?_ | refine CodeS.region_k fun K hK => ?_ | refine opsP_go fun K2 hK2 => ?_ | refine Post.then_normal ?_ | refine Post.then_ret ?_ | refine Post.then_exit ?_ | refine Post.block_normal ?_ | refine Post.block_ret ?_ | refine Post.block_here ?_ | refine Post.scope_normal ?_ | refine Post.scope_ret ?_ | refine Post.scope_exit ?_ | refine Post.round_ret ?_ | refine Post.round_exit ?_ | refine CodeS.block ?_ | refine CodeS.skip ?_ | refine CodeS.ret ?_ | refine CodeS.exit ?_ | refine CodeS.scope ?_ | refine CodeS.label ?_) | ((with_reducible refine opsP_nil (hK _ _ ?_)); clear hK K) | ((with_reducible refine opsP_gd ?hj ?hlt fun K1 K3 d hdst h1 h3 => ?_); (case hj => rfl); (case hlt => exact Nat.le_of_ble_eq_true rfl); cases hdst; go_simp) | ((with_reducible refine CodeS.cond_k fun K1 K3 h1 h3 => ?_); go_simp) | (refine h1 ?_; clear h1 h3 K1 K3) | (refine h3 ?_; clear h1 h3 K1 K3) | ((refine Either.mk (fun hb => h1 ?_) (fun hb => h3 ?_)) <;> (clear h1 h3 K1 K3; (try have hb2 := of_decide hb); (try have hb2 := of_not_decide_lt hb); (try have hb2 := of_not_decide_le hb); (try have hb2 := of_not_decide_ltN hb); (try have hb2 := of_not_decide_leN hb))) | ((refine Either.mk (fun hb => h3 ?_) (fun hb => h1 ?_)) <;> (clear h1 h3 K1 K3; (try have hb2 := of_decide hb); (try have hb2 := of_not_decide_lt hb); (try have hb2 := of_not_decide_le hb); (try have hb2 := of_not_decide_ltN hb); (try have hb2 := of_not_decide_leN hb))) | (refine fun (K2 : _ → AHeap → Prop) hK2 => ?_) | ((with_reducible refine Post.block_off ?hn ?_); (case hn => decide)) | ((with_reducible first | refine Post.body_k ?hd (fun K hK => ?_) | refine Post.body_kn ?hd (fun K hK => ?_)); (case hd => (go_simp; done)); go_simp; refine hK _ _ ?_; clear hK K) | (go_simp; (try go_bits); (try first | ((with_reducible show CallS _ _ _ _ _ _); refine CallS.mono (HO.out _) ?_; rintro _ _ ⟨rfl, rfl⟩)); refine hK2 _ _ ?_; clear hK2 K2))
    · refine ⟨?_, rfl⟩
      have hw : win lo hi d = true := by rw [HWW.out]; simpa using hb
      rw [← HG.out, HD.out, ixF]; simp [hw]
    · have hw : ¬ win lo hi d = true := by rw [HWW.out]; simpa using hb
      refine Post.round_normal ⟨l.length - (k + 1), by omega, k + 1, by omega, rfl, (by first | (go_simp; done) | (go_simp; go_num; done) | assumption), (by first | (go_simp; done) | (go_simp; go_num; done) | assumption), (by first | (go_simp; done) | (go_simp; go_num; done) | assumption), (by first | (go_simp; done) | (go_simp; go_num; done) | assumption), (by first | (go_simp; done) | (go_simp; go_num; done) | assumption), Lib.hid ?_, rfl⟩
      rw [← HG.out, HD.out, ixF, if_neg hw]; simp
  · repeat' (first | (with_reducible first | refine CodeS.seq ?_ | refine CodeS.region_k fun K hK => ?_ | refine opsP_go fun K2 hK2 => ?_ | refine Post.then_normal ?_ | refine Post.then_ret ?_ | refine Post.then_exit ?_ | refine Post.block_normal ?_ | refine Post.block_ret ?_ | refine Post.block_here ?_ | refine Post.scope_normal ?_ | refine Post.scope_ret ?_ | refine Post.scope_exit ?_ | refine Post.round_ret ?_ | refine Post.round_exit ?_ | refine CodeS.block ?_ | refine CodeS.skip ?_ | refine CodeS.ret ?_ | refine CodeS.exit ?_ | refine CodeS.scope ?_ | refine CodeS.label ?_) | ((with_reducible refine opsP_nil (hK _ _ ?_)); clear hK K) | ((with_reducible refine opsP_gd ?hj ?hlt fun K1 K3 d hdst h1 h3 => ?_); (case hj => rfl); (case hlt => exact Nat.le_of_ble_eq_true rfl); cases hdst; go_simp) | ((with_reducible refine CodeS.cond_k fun K1 K3 h1 h3 => ?_); go_simp) | (refine h1 ?_; clear h1 h3 K1 K3) | (refine h3 ?_; clear h1 h3 K1 K3) | ((refine Either.mk (fun hb => h1 ?_) (fun hb => h3 ?_)) <;> (clear h1 h3 K1 K3; (try have hb2 := of_decide hb); (try have hb2 := of_not_decide_lt hb); (try have hb2 := of_not_decide_le hb); (try have hb2 := of_not_decide_ltN hb); (try have hb2 := of_not_decide_leN hb))) | ((refine Either.mk (fun hb => h3 ?_) (fun hb => h1 ?_)) <;> (clear h1 h3 K1 K3; (try have hb2 := of_decide hb); (try have hb2 := of_not_decide_lt hb); (try have hb2 := of_not_decide_le hb); (try have hb2 := of_not_decide_ltN hb); (try have hb2 := of_not_decide_leN hb))) | (refine fun (K2 : _ → AHeap → Prop) hK2 => ?_) | ((with_reducible refine Post.block_off ?hn ?_); (case hn => decide)) | ((with_reducible first | refine Post.body_k ?hd (fun K hK => ?_) | refine Post.body_kn ?hd (fun K hK => ?_)); (case hd => (go_simp; done)); go_simp; refine hK _ _ ?_; clear hK K) | (go_simp; (try go_bits); refine hK2 _ _ ?_; clear hK2 K2))
    refine ⟨?_, rfl⟩
    rw [← HG.out, List.drop_eq_nil_of_le (by omega)]; rfl
theorem containsF_e {loops : List (Nat × LInfo)} {H : AHeap} {v : Value} {l : List (Int × Int)} {q : Nat} {d : Int} (hv : Spans H v l) (hq : q < H.n) (hg : cellAt H q 0 = some (.int .i64 d)) : CallS Try.prog loops 115 [v, .func (.func 116) #[] #[.pointer (some ⟨q, 0, none⟩)]] H fun r H' => r = .bool (ins l d) ∧ H' = H := by
  obtain ⟨hlen, a, c, rfl⟩ := hv.slice
  have HV := Lib.hid hv
  clear hv
  rw [← ixF_ins d l 0 (by omega)]
  refine CallS.enter' Try.func115 rfl Try.ntmps115 (by simp) fun f hd hf => ?_
  have f0 := hf 0
  have f1 := hf 1
  simp at f0 f1
  clear hf
  repeat' (first | (with_reducible first | refine CodeS.seq ?_ | refine CodeS.region_k fun K hK => ?_ | refine opsP_go fun K2 hK2 => ?_ | refine Post.then_normal ?_ | refine Post.then_ret ?_ | refine Post.then_exit ?_ | refine Post.block_normal ?_ | refine Post.block_ret ?_ | refine Post.block_here ?_ | refine Post.scope_normal ?_ | refine Post.scope_ret ?_ | refine Post.scope_exit ?_ | refine Post.round_ret ?_ | refine Post.round_exit ?_ | refine CodeS.block ?_ | refine CodeS.skip ?_ | refine CodeS.ret ?_ | refine CodeS.exit ?_ | refine CodeS.scope ?_ | refine CodeS.label ?_) | ((with_reducible refine opsP_nil (hK _ _ ?_)); clear hK K) | ((with_reducible refine opsP_gd ?hj ?hlt fun K1 K3 d hdst h1 h3 => ?_); (case hj => rfl); (case hlt => exact Nat.le_of_ble_eq_true rfl); cases hdst; go_simp) | ((with_reducible refine CodeS.cond_k fun K1 K3 h1 h3 => ?_); go_simp) | (refine h1 ?_; clear h1 h3 K1 K3) | (refine h3 ?_; clear h1 h3 K1 K3) | ((refine Either.mk (fun hb => h1 ?_) (fun hb => h3 ?_)) <;> (clear h1 h3 K1 K3; (try have hb2 := of_decide hb); (try have hb2 := of_not_decide_lt hb); (try have hb2 := of_not_decide_le hb); (try have hb2 := of_not_decide_ltN hb); (try have hb2 := of_not_decide_leN hb))) | ((refine Either.mk (fun hb => h3 ?_) (fun hb => h1 ?_)) <;> (clear h1 h3 K1 K3; (try have hb2 := of_decide hb); (try have hb2 := of_not_decide_lt hb); (try have hb2 := of_not_decide_le hb); (try have hb2 := of_not_decide_ltN hb); (try have hb2 := of_not_decide_leN hb))) | (refine fun (K2 : _ → AHeap → Prop) hK2 => ?_) | ((with_reducible refine Post.block_off ?hn ?_); (case hn => decide)) | ((with_reducible first | refine Post.body_k ?hd (fun K hK => ?_) | refine Post.body_kn ?hd (fun K hK => ?_)); (case hd => (go_simp; done)); go_simp; refine hK _ _ ?_; clear hK K) | (go_simp; (try go_bits); (try first | ((with_reducible show CallS _ _ _ _ _ _); refine CallS.mono (indexF_e HV.out hq hg) ?_; rintro _ _ ⟨rfl, rfl⟩)); refine hK2 _ _ ?_; clear hK2 K2))
  all_goals (exact ⟨rfl, rfl⟩)

theorem isOpen_s {loops : List (Nat × LInfo)} {H : AHeap} {v : Value} {x : Course} {k : Nat} {d : Int} (hv : CourseV H v x) (hk : k < x.open_.length) : CallS Try.prog loops 91 [v, .int .i64 k, .int .i64 d] H fun r H' => r = .bool (ins (x.at_ k) d) ∧ H' = H := by
  refine CallS.forget (R := fun v => v = .bool (ins (x.at_ k) d)) (by rintro v rfl; rfl) ?_
  obtain ⟨ov, rfl, ho⟩ := hv
  obtain ⟨hol, oa, oc, rfl⟩ := ho.slice
  obtain ⟨b, o, sp, u, rfl, hb, hc, hu⟩ := ho.at_ hk
  have HU := Lib.hid hu
  have hat : x.at_ k = x.open_[k] := by simp [Course.at_, hk]
  rw [hat]
  generalize x.open_[k] = l at HU
  clear hu ho hat
  obtain ⟨hll, la, lc, rfl⟩ := HU.out.slice
  refine CallS.enter' Try.func91 rfl Try.ntmps91 (by simp) fun f hd hf => ?_
  have f0 := hf 0
  have f1 := hf 1
  have f2 := hf 2
  simp at f0 f1 f2
  clear hf
  repeat' (first | (with_reducible first | refine CodeS.seq ?_ | refine CodeS.region_k fun K hK => ?_ | refine opsP_go fun K2 hK2 => ?_ | refine Post.then_normal ?_ | refine Post.then_ret ?_ | refine Post.then_exit ?_ | refine Post.block_normal ?_ | refine Post.block_ret ?_ | refine Post.block_here ?_ | refine Post.scope_normal ?_ | refine Post.scope_ret ?_ | refine Post.scope_exit ?_ | refine Post.round_ret ?_ | refine Post.round_exit ?_ | refine CodeS.block ?_ | refine CodeS.skip ?_ | refine CodeS.ret ?_ | refine CodeS.exit ?_ | refine CodeS.scope ?_ | refine CodeS.label ?_) | ((with_reducible refine opsP_nil (hK _ _ ?_)); clear hK K) | ((with_reducible refine opsP_gd ?hj ?hlt fun K1 K3 d hdst h1 h3 => ?_); (case hj => rfl); (case hlt => exact Nat.le_of_ble_eq_true rfl); cases hdst; go_simp) | ((with_reducible refine CodeS.cond_k fun K1 K3 h1 h3 => ?_); go_simp) | (refine h1 ?_; clear h1 h3 K1 K3) | (refine h3 ?_; clear h1 h3 K1 K3) | ((refine Either.mk (fun hb => h1 ?_) (fun hb => h3 ?_)) <;> (clear h1 h3 K1 K3; (try have hb2 := of_decide hb); (try have hb2 := of_not_decide_lt hb); (try have hb2 := of_not_decide_le hb); (try have hb2 := of_not_decide_ltN hb); (try have hb2 := of_not_decide_leN hb))) | ((refine Either.mk (fun hb => h3 ?_) (fun hb => h1 ?_)) <;> (clear h1 h3 K1 K3; (try have hb2 := of_decide hb); (try have hb2 := of_not_decide_lt hb); (try have hb2 := of_not_decide_le hb); (try have hb2 := of_not_decide_ltN hb); (try have hb2 := of_not_decide_leN hb))) | (refine fun (K2 : _ → AHeap → Prop) hK2 => ?_) | ((with_reducible refine Post.block_off ?hn ?_); (case hn => decide)) | ((with_reducible first | refine Post.body_k ?hd (fun K hK => ?_) | refine Post.body_kn ?hd (fun K hK => ?_)); (case hd => (go_simp; done)); go_simp; refine hK _ _ ?_; clear hK K) | ((with_reducible refine CodeS.tree_lit mixed rfl ?hok 20 fun K0 hK0 => ?_); (case hok => kernel_rfl)) | (with_reducible first | exact loudsP_nil | exact stableP_nil | refine treeP_lit ?_ | refine passP_nil ?_ | refine stableP_keep ?_) | ((with_reducible first | refine passP_skip ?h1 ?_ | refine loudsP_skip ?h1 ?_ | refine stepT_more ?h1 ?_); (case h1 => rfl)) | ((with_reducible refine stepT_done ?h1 ?_); (case h1 => rfl); refine hK0 _ _ ?_; clear hK0 K0) | ((with_reducible refine passP_loud ?h1 ?hg ?hl ?_); (case h1 => rfl); (case hg => rfl); (case hl => rfl)) | ((with_reducible refine passP_q ?h1 ?hl ?hlt fun K2 hK2 => ?_); (case h1 => rfl); (case hl => rfl); (case hlt => exact Nat.le_of_ble_eq_true rfl)) | ((with_reducible refine passP_g ?h1 ?hj ?hl ?hlt fun K1 K3 d hdst h1 h3 => ?_); (case h1 => rfl); (case hj => rfl); (case hl => rfl); (case hlt => exact Nat.le_of_ble_eq_true rfl); cases hdst; go_simp) | ((with_reducible refine passP_lg ?h1 ?hj ?hl ?hlt fun K1 K3 d hdst h1 h3 => ?_); (case h1 => rfl); (case hj => rfl); (case hl => rfl); (case hlt => exact Nat.le_of_ble_eq_true rfl); cases hdst; go_simp) | ((with_reducible refine loudsP_c ?h1 ?hlt (fun K2 hK2 => ?_) ?_); (case h1 => rfl); (case hlt => exact Nat.le_of_ble_eq_true rfl)) | ((with_reducible refine loudsP_cg ?h1 ?hlt ?hj ?hw (fun K2 hK2 => ?_) ?_); (case h1 => rfl); (case hlt => exact Nat.le_of_ble_eq_true rfl); (case hj => rfl); (case hw => (go_simp; done))) | ((with_reducible refine loudsP_v ?h1 ?hv ?hlt (fun K2 hK2 => ?_) ?_); (case h1 => rfl); (case hv => rfl); (case hlt => exact Nat.le_of_ble_eq_true rfl)) | ((with_reducible refine loudsP_u ?h1 ?hv (fun K2 hK2 => ?_) ?_); (case h1 => rfl); (case hv => rfl)) | ((with_reducible refine stableP_pre ?h1 ?_); (case h1 => (first | rfl | (dsimp only; decide +kernel)))) | ((with_reducible refine stableP_re ?h1 ?_); (case h1 => (go_simp; done))) | (go_simp; (try go_bits); (try first | ((with_reducible show CallS _ _ _ _ _ _); refine CallS.mono (containsF_e (d := d) (HU.out.ext (((Ext.refl _).push' _).push' _)) (by simp only [AHeap.n_push]; omega) (by go_simp)) ?_; rintro _ _ ⟨rfl, rfl⟩)); (first | (refine hK2 _ _ ?_ ?_ <;> clear hK2 K2) | (refine hK2 _ _ ?_; clear hK2 K2))))
  exact ⟨rfl, ((Ext.refl _).push' _).push' _⟩

theorem lowest_s {loops : List (Nat × LInfo)} {H : AHeap} {v dv : Value} {x : Course} {k p : Nat} {days : List Int} (hv : CourseV H v x) (hd : Ints H dv days) (hk : k ≤ days.length) (hp : x.per = p) (hp1 : 1 ≤ p) (hb : ∀ j, j < k → -1 ≤ days.getD j 0 ∧ days.getD j 0 ≤ 731) : CallS Try.prog loops 92 [v, .int .i64 k, dv] H fun r H' => r = .int .i64 (lowL p days k) ∧ H' = H := by
  refine CallS.forget (R := fun v => v = .int .i64 (lowL p days k)) (by rintro v rfl; rfl) ?_
  obtain ⟨ov, rfl, ho⟩ := hv
  obtain ⟨hol, oa, oc, rfl⟩ := ho.slice
  clear ho
  rw [hp]
  clear hp
  obtain ⟨hdl, da, dc, rfl⟩ := hd.slice
  have HD := Lib.hid hd
  have HB := Lib.hid hb
  clear hd hb
  generalize hr : lowL p days k = r
  have HR := Lib.hid hr
  clear hr
  refine CallS.enter' Try.func92 rfl Try.ntmps92 (by simp) fun f hd hf => ?_
  have f0 := hf 0
  have f1 := hf 1
  have f2 := hf 2
  simp at f0 f1 f2
  clear hf
  rcases Nat.eq_zero_or_pos k with rfl | hk0
  · have h1 : ¬ ((1 : Int) ≤ (0 : Nat)) := by omega
    have h2 : ¬ ((p : Int) ≤ (0 : Nat)) := by omega
    have h3 : ¬ ((p : Int) ≤ 0) := by omega
    have h4 : ¬ (p = 0) := by omega
    have h5 : ¬ (p ≤ 0) := by omega
    repeat' (first | (with_reducible first | refine CodeS.seq ?_ | refine CodeS.region_k fun K hK => ?_ | refine opsP_go fun K2 hK2 => ?_ | refine Post.then_normal ?_ | refine Post.then_ret ?_ | refine Post.then_exit ?_ | refine Post.block_normal ?_ | refine Post.block_ret ?_ | refine Post.block_here ?_ | refine Post.scope_normal ?_ | refine Post.scope_ret ?_ | refine Post.scope_exit ?_ | refine Post.round_ret ?_ | refine Post.round_exit ?_ | refine CodeS.block ?_ | refine CodeS.skip ?_ | refine CodeS.ret ?_ | refine CodeS.exit ?_ | refine CodeS.scope ?_ | refine CodeS.label ?_) | ((with_reducible refine opsP_nil (hK _ _ ?_)); clear hK K) | ((with_reducible refine opsP_gd ?hj ?hlt fun K1 K3 d hdst h1 h3 => ?_); (case hj => rfl); (case hlt => exact Nat.le_of_ble_eq_true rfl); cases hdst; go_simp) | ((with_reducible refine CodeS.cond_k fun K1 K3 h1 h3 => ?_); go_simp) | (refine h1 ?_; clear h1 h3 K1 K3) | (refine h3 ?_; clear h1 h3 K1 K3) | ((refine Either.mk (fun hb => h1 ?_) (fun hb => h3 ?_)) <;> (clear h1 h3 K1 K3; (try have hb2 := of_decide hb); (try have hb2 := of_not_decide_lt hb); (try have hb2 := of_not_decide_le hb); (try have hb2 := of_not_decide_ltN hb); (try have hb2 := of_not_decide_leN hb))) | ((refine Either.mk (fun hb => h3 ?_) (fun hb => h1 ?_)) <;> (clear h1 h3 K1 K3; (try have hb2 := of_decide hb); (try have hb2 := of_not_decide_lt hb); (try have hb2 := of_not_decide_le hb); (try have hb2 := of_not_decide_ltN hb); (try have hb2 := of_not_decide_leN hb))) | (refine fun (K2 : _ → AHeap → Prop) hK2 => ?_) | ((with_reducible refine Post.block_off ?hn ?_); (case hn => decide)) | ((with_reducible first | refine Post.body_k ?hd (fun K hK => ?_) | refine Post.body_kn ?hd (fun K hK => ?_)); (case hd => (go_simp; done)); go_simp; refine hK _ _ ?_; clear hK K) | ((with_reducible refine CodeS.tree_lit mixed rfl ?hok 20 fun K0 hK0 => ?_); (case hok => kernel_rfl)) | (with_reducible first | exact loudsP_nil | exact stableP_nil | refine treeP_lit ?_ | refine passP_nil ?_ | refine stableP_keep ?_) | ((with_reducible first | refine passP_skip ?h1 ?_ | refine loudsP_skip ?h1 ?_ | refine stepT_more ?h1 ?_); (case h1 => rfl)) | ((with_reducible refine stepT_done ?h1 ?_); (case h1 => rfl); refine hK0 _ _ ?_; clear hK0 K0) | ((with_reducible refine passP_loud ?h1 ?hg ?hl ?_); (case h1 => rfl); (case hg => rfl); (case hl => rfl)) | ((with_reducible refine passP_q ?h1 ?hl ?hlt fun K2 hK2 => ?_); (case h1 => rfl); (case hl => rfl); (case hlt => exact Nat.le_of_ble_eq_true rfl)) | ((with_reducible refine passP_g ?h1 ?hj ?hl ?hlt fun K1 K3 d hdst h1 h3 => ?_); (case h1 => rfl); (case hj => rfl); (case hl => rfl); (case hlt => exact Nat.le_of_ble_eq_true rfl); cases hdst; go_simp) | ((with_reducible refine passP_lg ?h1 ?hj ?hl ?hlt fun K1 K3 d hdst h1 h3 => ?_); (case h1 => rfl); (case hj => rfl); (case hl => rfl); (case hlt => exact Nat.le_of_ble_eq_true rfl); cases hdst; go_simp) | ((with_reducible refine loudsP_c ?h1 ?hlt (fun K2 hK2 => ?_) ?_); (case h1 => rfl); (case hlt => exact Nat.le_of_ble_eq_true rfl)) | ((with_reducible refine loudsP_cg ?h1 ?hlt ?hj ?hw (fun K2 hK2 => ?_) ?_); (case h1 => rfl); (case hlt => exact Nat.le_of_ble_eq_true rfl); (case hj => rfl); (case hw => (go_simp; done))) | ((with_reducible refine loudsP_v ?h1 ?hv ?hlt (fun K2 hK2 => ?_) ?_); (case h1 => rfl); (case hv => rfl); (case hlt => exact Nat.le_of_ble_eq_true rfl)) | ((with_reducible refine loudsP_u ?h1 ?hv (fun K2 hK2 => ?_) ?_); (case h1 => rfl); (case hv => rfl)) | ((with_reducible refine stableP_pre ?h1 ?_); (case h1 => (first | rfl | (dsimp only; decide +kernel)))) | ((with_reducible refine stableP_re ?h1 ?_); (case h1 => (go_simp; done))) | (go_simp; (try go_bits); (first | (refine hK2 _ _ ?_ ?_ <;> clear hK2 K2) | (refine hK2 _ _ ?_; clear hK2 K2))))
    refine ⟨?_, Ext.push _⟩
    rw [← HR.out]
    simp [lowL, show ¬ p ≤ 0 by omega]
  · obtain ⟨b, o, sp, rfl, hb, hc⟩ := HD.out.at_ (k := k - 1) (by omega)
    have hg1 : Hid (days.getD (k - 1) 0 = days[k - 1]) := Lib.hid (by simp [List.getD_eq_getElem?_getD, show k - 1 < days.length by omega])
    have hbd := HB.out (k - 1) (by omega)
    rw [hg1.out] at hbd
    generalize days[k - 1] = y at hc hg1 hbd
    have h0i : (0 : Int) ≤ (k : Int) - 1 := by omega
    have h1i : (k : Int) - 1 < (days.length : Int) := by omega
    have h2i : (1 : Int) ≤ (k : Int) := by omega
    have h3i : 1 ≤ k := by omega
    by_cases hpk : p ≤ k
    · obtain ⟨b2, o2, sp2, he2, hb2, hc2⟩ := HD.out.at_ (k := k - p) (by omega)
      cases he2
      have hg2 : Hid (days.getD (k - p) 0 = days[k - p]) := Lib.hid (by simp [List.getD_eq_getElem?_getD, show k - p < days.length by omega])
      have hbd2 := HB.out (k - p) (by omega)
      rw [hg2.out] at hbd2
      generalize days[k - p] = y2 at hc2 hg2 hbd2
      obtain ⟨hy1, hy2⟩ := hbd2
      have j0 : (0 : Int) ≤ (k : Int) - p := by omega
      have j1 : (k : Int) - p < (days.length : Int) := by omega
      have j2 : (p : Int) ≤ (k : Int) := by omega
      have j3 : ((k : Int) - (p : Int)).toNat = k - p := by omega
      repeat' (first | (with_reducible first | refine CodeS.seq ?_ | refine CodeS.region_k fun K hK => ?_ | refine opsP_go fun K2 hK2 => ?_ | refine Post.then_normal ?_ | refine Post.then_ret ?_ | refine Post.then_exit ?_ | refine Post.block_normal ?_ | refine Post.block_ret ?_ | refine Post.block_here ?_ | refine Post.scope_normal ?_ | refine Post.scope_ret ?_ | refine Post.scope_exit ?_ | refine Post.round_ret ?_ | refine Post.round_exit ?_ | refine CodeS.block ?_ | refine CodeS.skip ?_ | refine CodeS.ret ?_ | refine CodeS.exit ?_ | refine CodeS.scope ?_ | refine CodeS.label ?_) | ((with_reducible refine opsP_nil (hK _ _ ?_)); clear hK K) | ((with_reducible refine opsP_gd ?hj ?hlt fun K1 K3 d hdst h1 h3 => ?_); (case hj => rfl); (case hlt => exact Nat.le_of_ble_eq_true rfl); cases hdst; go_simp) | ((with_reducible refine CodeS.cond_k fun K1 K3 h1 h3 => ?_); go_simp) | (refine h1 ?_; clear h1 h3 K1 K3) | (refine h3 ?_; clear h1 h3 K1 K3) | ((refine Either.mk (fun hb => h1 ?_) (fun hb => h3 ?_)) <;> (clear h1 h3 K1 K3; (try have hb2 := of_decide hb); (try have hb2 := of_not_decide_lt hb); (try have hb2 := of_not_decide_le hb); (try have hb2 := of_not_decide_ltN hb); (try have hb2 := of_not_decide_leN hb))) | ((refine Either.mk (fun hb => h3 ?_) (fun hb => h1 ?_)) <;> (clear h1 h3 K1 K3; (try have hb2 := of_decide hb); (try have hb2 := of_not_decide_lt hb); (try have hb2 := of_not_decide_le hb); (try have hb2 := of_not_decide_ltN hb); (try have hb2 := of_not_decide_leN hb))) | (refine fun (K2 : _ → AHeap → Prop) hK2 => ?_) | ((with_reducible refine Post.block_off ?hn ?_); (case hn => decide)) | ((with_reducible first | refine Post.body_k ?hd (fun K hK => ?_) | refine Post.body_kn ?hd (fun K hK => ?_)); (case hd => (go_simp; done)); go_simp; refine hK _ _ ?_; clear hK K) | ((with_reducible refine CodeS.tree_lit mixed rfl ?hok 20 fun K0 hK0 => ?_); (case hok => kernel_rfl)) | (with_reducible first | exact loudsP_nil | exact stableP_nil | refine treeP_lit ?_ | refine passP_nil ?_ | refine stableP_keep ?_) | ((with_reducible first | refine passP_skip ?h1 ?_ | refine loudsP_skip ?h1 ?_ | refine stepT_more ?h1 ?_); (case h1 => rfl)) | ((with_reducible refine stepT_done ?h1 ?_); (case h1 => rfl); refine hK0 _ _ ?_; clear hK0 K0) | ((with_reducible refine passP_loud ?h1 ?hg ?hl ?_); (case h1 => rfl); (case hg => rfl); (case hl => rfl)) | ((with_reducible refine passP_q ?h1 ?hl ?hlt fun K2 hK2 => ?_); (case h1 => rfl); (case hl => rfl); (case hlt => exact Nat.le_of_ble_eq_true rfl)) | ((with_reducible refine passP_g ?h1 ?hj ?hl ?hlt fun K1 K3 d hdst h1 h3 => ?_); (case h1 => rfl); (case hj => rfl); (case hl => rfl); (case hlt => exact Nat.le_of_ble_eq_true rfl); cases hdst; go_simp) | ((with_reducible refine passP_lg ?h1 ?hj ?hl ?hlt fun K1 K3 d hdst h1 h3 => ?_); (case h1 => rfl); (case hj => rfl); (case hl => rfl); (case hlt => exact Nat.le_of_ble_eq_true rfl); cases hdst; go_simp) | ((with_reducible refine loudsP_c ?h1 ?hlt (fun K2 hK2 => ?_) ?_); (case h1 => rfl); (case hlt => exact Nat.le_of_ble_eq_true rfl)) | ((with_reducible refine loudsP_cg ?h1 ?hlt ?hj ?hw (fun K2 hK2 => ?_) ?_); (case h1 => rfl); (case hlt => exact Nat.le_of_ble_eq_true rfl); (case hj => rfl); (case hw => (go_simp; done))) | ((with_reducible refine loudsP_v ?h1 ?hv ?hlt (fun K2 hK2 => ?_) ?_); (case h1 => rfl); (case hv => rfl); (case hlt => exact Nat.le_of_ble_eq_true rfl)) | ((with_reducible refine loudsP_u ?h1 ?hv (fun K2 hK2 => ?_) ?_); (case h1 => rfl); (case hv => rfl)) | ((with_reducible refine stableP_pre ?h1 ?_); (case h1 => (first | rfl | (dsimp only; decide +kernel)))) | ((with_reducible refine stableP_re ?h1 ?_); (case h1 => (go_simp; done))) | (go_simp; (try go_bits); (first | (refine hK2 _ _ ?_ ?_ <;> clear hK2 K2) | (refine hK2 _ _ ?_; clear hK2 K2))))
      refine ⟨?_, Ext.push _⟩
      rw [← HR.out]
      simp only [lowL, if_pos hpk, if_pos h3i, hg1.out, hg2.out]
    · have j2 : ¬ ((p : Int) ≤ (k : Int)) := by omega
      repeat' (first | (with_reducible first | refine CodeS.seq ?_ | refine CodeS.region_k fun K hK => ?_ | refine opsP_go fun K2 hK2 => ?_ | refine Post.then_normal ?_ | refine Post.then_ret ?_ | refine Post.then_exit ?_ | refine Post.block_normal ?_ | refine Post.block_ret ?_ | refine Post.block_here ?_ | refine Post.scope_normal ?_ | refine Post.scope_ret ?_ | refine Post.scope_exit ?_ | refine Post.round_ret ?_ | refine Post.round_exit ?_ | refine CodeS.block ?_ | refine CodeS.skip ?_ | refine CodeS.ret ?_ | refine CodeS.exit ?_ | refine CodeS.scope ?_ | refine CodeS.label ?_) | ((with_reducible refine opsP_nil (hK _ _ ?_)); clear hK K) | ((with_reducible refine opsP_gd ?hj ?hlt fun K1 K3 d hdst h1 h3 => ?_); (case hj => rfl); (case hlt => exact Nat.le_of_ble_eq_true rfl); cases hdst; go_simp) | ((with_reducible refine CodeS.cond_k fun K1 K3 h1 h3 => ?_); go_simp) | (refine h1 ?_; clear h1 h3 K1 K3) | (refine h3 ?_; clear h1 h3 K1 K3) | ((refine Either.mk (fun hb => h1 ?_) (fun hb => h3 ?_)) <;> (clear h1 h3 K1 K3; (try have hb2 := of_decide hb); (try have hb2 := of_not_decide_lt hb); (try have hb2 := of_not_decide_le hb); (try have hb2 := of_not_decide_ltN hb); (try have hb2 := of_not_decide_leN hb))) | ((refine Either.mk (fun hb => h3 ?_) (fun hb => h1 ?_)) <;> (clear h1 h3 K1 K3; (try have hb2 := of_decide hb); (try have hb2 := of_not_decide_lt hb); (try have hb2 := of_not_decide_le hb); (try have hb2 := of_not_decide_ltN hb); (try have hb2 := of_not_decide_leN hb))) | (refine fun (K2 : _ → AHeap → Prop) hK2 => ?_) | ((with_reducible refine Post.block_off ?hn ?_); (case hn => decide)) | ((with_reducible first | refine Post.body_k ?hd (fun K hK => ?_) | refine Post.body_kn ?hd (fun K hK => ?_)); (case hd => (go_simp; done)); go_simp; refine hK _ _ ?_; clear hK K) | ((with_reducible refine CodeS.tree_lit mixed rfl ?hok 20 fun K0 hK0 => ?_); (case hok => kernel_rfl)) | (with_reducible first | exact loudsP_nil | exact stableP_nil | refine treeP_lit ?_ | refine passP_nil ?_ | refine stableP_keep ?_) | ((with_reducible first | refine passP_skip ?h1 ?_ | refine loudsP_skip ?h1 ?_ | refine stepT_more ?h1 ?_); (case h1 => rfl)) | ((with_reducible refine stepT_done ?h1 ?_); (case h1 => rfl); refine hK0 _ _ ?_; clear hK0 K0) | ((with_reducible refine passP_loud ?h1 ?hg ?hl ?_); (case h1 => rfl); (case hg => rfl); (case hl => rfl)) | ((with_reducible refine passP_q ?h1 ?hl ?hlt fun K2 hK2 => ?_); (case h1 => rfl); (case hl => rfl); (case hlt => exact Nat.le_of_ble_eq_true rfl)) | ((with_reducible refine passP_g ?h1 ?hj ?hl ?hlt fun K1 K3 d hdst h1 h3 => ?_); (case h1 => rfl); (case hj => rfl); (case hl => rfl); (case hlt => exact Nat.le_of_ble_eq_true rfl); cases hdst; go_simp) | ((with_reducible refine passP_lg ?h1 ?hj ?hl ?hlt fun K1 K3 d hdst h1 h3 => ?_); (case h1 => rfl); (case hj => rfl); (case hl => rfl); (case hlt => exact Nat.le_of_ble_eq_true rfl); cases hdst; go_simp) | ((with_reducible refine loudsP_c ?h1 ?hlt (fun K2 hK2 => ?_) ?_); (case h1 => rfl); (case hlt => exact Nat.le_of_ble_eq_true rfl)) | ((with_reducible refine loudsP_cg ?h1 ?hlt ?hj ?hw (fun K2 hK2 => ?_) ?_); (case h1 => rfl); (case hlt => exact Nat.le_of_ble_eq_true rfl); (case hj => rfl); (case hw => (go_simp; done))) | ((with_reducible refine loudsP_v ?h1 ?hv ?hlt (fun K2 hK2 => ?_) ?_); (case h1 => rfl); (case hv => rfl); (case hlt => exact Nat.le_of_ble_eq_true rfl)) | ((with_reducible refine loudsP_u ?h1 ?hv (fun K2 hK2 => ?_) ?_); (case h1 => rfl); (case hv => rfl)) | ((with_reducible refine stableP_pre ?h1 ?_); (case h1 => (first | rfl | (dsimp only; decide +kernel)))) | ((with_reducible refine stableP_re ?h1 ?_); (case h1 => (go_simp; done))) | (go_simp; (try go_bits); (first | (refine hK2 _ _ ?_ ?_ <;> clear hK2 K2) | (refine hK2 _ _ ?_; clear hK2 K2))))
      refine ⟨?_, Ext.push _⟩
      rw [← HR.out]
      simp only [lowL, if_neg hpk, if_pos h3i, hg1.out]
end Go.Proofs.Try
namespace Go.Proofs.Try
open Go Go.Am Go.RowKit Go.Co
set_option maxRecDepth 100000

/-! Courses: the earliest days. -/
def Course.nx (x : Course) (i : Nat) (f : Int) : Int := nextS (x.at_ i) f
def Course.ord (x : Course) : Prop := ∀ i, ordS 0 (x.at_ i)
theorem Course.nx_ok {x : Course} (h : x.ord) (i : Nat) (f : Int) : NextOk (ins (x.at_ i)) f (x.nx i f) := nextS_ok _ (h i) f
theorem Course.nx_in {x : Course} (h : x.ord) {i : Nat} {f : Int} (hn : x.nx i f ≠ 731) : 0 ≤ x.nx i f ∧ x.nx i f ≤ 730 := by
  rcases x.nx_ok h i f with ⟨h1, _⟩ | ⟨_, _, h3, _⟩
  · exact absurd h1 hn
  · exact ordS_ins _ (h i) _ h3
def Course.early (x : Course) (p : Nat) (frm : Int) : List Int := Co.early x.nx p frm x.open_.length []

theorem earliest_e {loops : List (Nat × LInfo)} {H : AHeap} {v : Value} {x : Course} {p : Nat} {frm : Int} (hv : CourseV H v x) (ho : x.ord) (hp : x.per = p) (hp1 : 1 ≤ p) (hn : x.open_.length ≤ 1000) : CallS Try.prog loops 97 [v, .int .i64 frm] H fun r H' => Own H' H.n r 3 1 ((x.early p frm).map (Value.int .i64)) ∧ Ext H H' := by
  have HV := Lib.hid hv
  obtain ⟨ov, rfl, hov⟩ := hv
  obtain ⟨hol, oa, oc, rfl⟩ := hov.slice
  have HP := Lib.hid hp
  have HOR := Lib.hid ho
  generalize hr : x.early p frm = res
  have HE : Hid (Co.early x.nx p frm x.open_.length [] = res) := Lib.hid hr
  clear hov hr hp ho
  refine CallS.enter' Try.func97 rfl Try.ntmps97 (by simp) fun f hd hf => ?_
  have f0 := hf 0
  have f1 := hf 1
  simp at f0 f1
  clear hf
  generalize hper : x.per = per at f0 HV
  have HPER := Lib.hid hper
  clear hper
  repeat' (first | (with_reducible first | refine CodeS.seq ?_ | refine CodeS.region_k fun K hK => ?_ | refine opsP_go fun K2 hK2 => ?_ | refine Post.then_normal ?_ | refine Post.then_ret ?_ | refine Post.then_exit ?_ | refine Post.block_normal ?_ | refine Post.block_ret ?_ | refine Post.block_here ?_ | refine Post.scope_normal ?_ | refine Post.scope_ret ?_ | refine Post.scope_exit ?_ | refine Post.round_ret ?_ | refine Post.round_exit ?_ | refine CodeS.block ?_ | refine CodeS.skip ?_ | refine CodeS.ret ?_ | refine CodeS.exit ?_ | refine CodeS.scope ?_ | refine CodeS.label ?_) | ((with_reducible refine opsP_nil (hK _ _ ?_)); clear hK K) | ((with_reducible refine opsP_gd ?hj ?hlt fun K1 K3 d hdst h1 h3 => ?_); (case hj => rfl); (case hlt => exact Nat.le_of_ble_eq_true rfl); cases hdst; go_simp) | ((with_reducible refine CodeS.cond_k fun K1 K3 h1 h3 => ?_); go_simp) | (refine h1 ?_; clear h1 h3 K1 K3) | (refine h3 ?_; clear h1 h3 K1 K3) | ((refine Either.mk (fun hb => h1 ?_) (fun hb => h3 ?_)) <;> (clear h1 h3 K1 K3; (try have hb2 := of_decide hb); (try have hb2 := of_not_decide_lt hb); (try have hb2 := of_not_decide_le hb); (try have hb2 := of_not_decide_ltN hb); (try have hb2 := of_not_decide_leN hb))) | ((refine Either.mk (fun hb => h3 ?_) (fun hb => h1 ?_)) <;> (clear h1 h3 K1 K3; (try have hb2 := of_decide hb); (try have hb2 := of_not_decide_lt hb); (try have hb2 := of_not_decide_le hb); (try have hb2 := of_not_decide_ltN hb); (try have hb2 := of_not_decide_leN hb))) | (refine fun (K2 : _ → AHeap → Prop) hK2 => ?_) | ((with_reducible refine Post.block_off ?hn ?_); (case hn => decide)) | ((with_reducible first | refine Post.body_k ?hd (fun K hK => ?_) | refine Post.body_kn ?hd (fun K hK => ?_)); (case hd => (go_simp; done)); go_simp; refine hK _ _ ?_; clear hK K) | ((with_reducible refine CodeS.tree_lit mixed rfl ?hok 20 fun K0 hK0 => ?_); (case hok => kernel_rfl)) | (with_reducible first | exact loudsP_nil | exact stableP_nil | refine treeP_lit ?_ | refine passP_nil ?_ | refine stableP_keep ?_) | ((with_reducible first | refine passP_skip ?h1 ?_ | refine loudsP_skip ?h1 ?_ | refine stepT_more ?h1 ?_); (case h1 => rfl)) | ((with_reducible refine stepT_done ?h1 ?_); (case h1 => rfl); refine hK0 _ _ ?_; clear hK0 K0) | ((with_reducible refine passP_loud ?h1 ?hg ?hl ?_); (case h1 => rfl); (case hg => rfl); (case hl => rfl)) | ((with_reducible refine passP_q ?h1 ?hl ?hlt fun K2 hK2 => ?_); (case h1 => rfl); (case hl => rfl); (case hlt => exact Nat.le_of_ble_eq_true rfl)) | ((with_reducible refine passP_g ?h1 ?hj ?hl ?hlt fun K1 K3 d hdst h1 h3 => ?_); (case h1 => rfl); (case hj => rfl); (case hl => rfl); (case hlt => exact Nat.le_of_ble_eq_true rfl); cases hdst; go_simp) | ((with_reducible refine passP_lg ?h1 ?hj ?hl ?hlt fun K1 K3 d hdst h1 h3 => ?_); (case h1 => rfl); (case hj => rfl); (case hl => rfl); (case hlt => exact Nat.le_of_ble_eq_true rfl); cases hdst; go_simp) | ((with_reducible refine loudsP_c ?h1 ?hlt (fun K2 hK2 => ?_) ?_); (case h1 => rfl); (case hlt => exact Nat.le_of_ble_eq_true rfl)) | ((with_reducible refine loudsP_cg ?h1 ?hlt ?hj ?hw (fun K2 hK2 => ?_) ?_); (case h1 => rfl); (case hlt => exact Nat.le_of_ble_eq_true rfl); (case hj => rfl); (case hw => (go_simp; done))) | ((with_reducible refine loudsP_v ?h1 ?hv ?hlt (fun K2 hK2 => ?_) ?_); (case h1 => rfl); (case hv => rfl); (case hlt => exact Nat.le_of_ble_eq_true rfl)) | ((with_reducible refine loudsP_u ?h1 ?hv (fun K2 hK2 => ?_) ?_); (case h1 => rfl); (case hv => rfl)) | ((with_reducible refine stableP_pre ?h1 ?_); (case h1 => (first | rfl | (dsimp only; decide +kernel)))) | ((with_reducible refine stableP_re ?h1 ?_); (case h1 => (go_simp; done))) | (go_simp; (try go_bits); (first | (refine hK2 _ _ ?_ ?_ <;> clear hK2 K2) | (refine hK2 _ _ ?_; clear hK2 K2))))
  refine CodeS.loop (fun m f H' => ∃ (k : Nat) (v : Value) (acc : List Int), k ≤ x.open_.length ∧ acc.length = k ∧ m = x.open_.length - k ∧ f.tmp 11 = .int .i64 k ∧ f.tmp 10 = .int .i64 x.open_.length ∧ f.tmp 1 = .int .i64 frm ∧ f.tmp 2 = .pointer (some ⟨H.n, 0, none⟩) ∧ f.tmp 5 = v ∧ f.defers = [] ∧ Hid (Co.early x.nx p frm (x.open_.length - k) acc = res) ∧ Hid (∀ y, y ∈ acc → -1 ≤ y ∧ y ≤ 731) ∧ H.n < H'.n ∧ Ext H H' ∧ H'.get H.n = .row [Value.slice oa x.open_.length oc, .int .i64 per] 118 ∧ Own H' (H.n + 1) v 3 1 (acc.map (Value.int .i64))) x.open_.length ?_ ?_
  · refine ⟨0, .slice none 0 0, [], by simp, rfl, by simp, (by first | (go_simp; done) | (go_simp; go_num; done) | assumption), (by first | (go_simp; done) | (go_simp; go_num; done) | assumption), (by first | (go_simp; done) | (go_simp; go_num; done) | assumption), (by first | (go_simp; done) | (go_simp; go_num; done) | assumption), (by first | (go_simp; done) | (go_simp; go_num; done) | assumption), (by first | (go_simp; done) | (go_simp; go_num; done) | assumption), HE, Lib.hid (by simp), by rw [AHeap.n_push]; omega, Ext.push _, AHeap.get_push_new, Own.nil⟩
  clear f0 f1 hd f HE
  rintro m f H' ⟨k, v, acc, hk, hak, rfl, f11, f10, f1, f2, f5, hd, HG, HB, hn0, hx, hg0, ho⟩
  have hc2 : cellsAt H' H.n 0 2 = some [Value.slice oa x.open_.length oc, .int .i64 per] := by simp [cellsAt, hg0]
  have HX := Lib.hid hx
  have HO := Lib.hid ho
  have HG0 := Lib.hid hg0
  have HAK := Lib.hid hak
  clear hx ho hg0 hak
  by_cases hlt : k < x.open_.length
  · have hal : acc.length ≤ 1000 := by have := HAK.out; omega
    have HI : Hid (Ints H' v acc) := Lib.hid (ints_of_own HO.out (by omega))
    obtain ⟨-, va, vc, rfl⟩ := HI.out.slice
    have HLW := Lib.hid (fun (loops : List (Nat × LInfo)) => lowest_s (loops := loops) (k := k) (HV.out.ext HX.out) HI.out (by have := HAK.out; omega) HP.out hp1 (fun j hj => by have hjl : j < acc.length := (by have := HAK.out; omega); rw [List.getD_eq_getElem?_getD, List.getElem?_eq_getElem hjl]; exact HB.out _ (List.getElem_mem hjl)))
    have HNX := Lib.hid (fun (loops : List (Nat × LInfo)) (d : Int) => next_s (loops := loops) (d := d) (HV.out.ext HX.out) hlt)
    have HST : Hid (Co.early x.nx p frm (x.open_.length - k) acc = if x.nx k (max frm (lowL p acc k)) = 731 then acc else Co.early x.nx p frm (x.open_.length - (k + 1)) (acc ++ [x.nx k (max frm (lowL p acc k))])) := Lib.hid (by
      have := HAK.out
      rw [show x.open_.length - k = (x.open_.length - (k + 1)) + 1 by omega, Co.early, this])
    have HNI := Lib.hid (@Course.nx_in x HOR.out k (max frm (lowL p acc k)))
    have hbig : ((acc.map (Value.int .i64)).length + 1) * max 8 1 ≤ 1073741824 := by simp; omega
    have HBIG := Lib.hid hbig
    clear hbig
    generalize lowL p acc k = lw at HLW HST HNI
    generalize hdd : x.nx k (max frm lw) = d at HST HNI
    have HDD : Hid (nextS (x.at_ k) (max frm lw) = d) := Lib.hid hdd
    clear hdd
    repeat' (first | (with_reducible first | refine CodeS.seq ?_ | refine CodeS.region_k fun K hK => ?_ | refine opsP_go fun K2 hK2 => ?_ | refine Post.then_normal ?_ | refine Post.then_ret ?_ | refine Post.then_exit ?_ | refine Post.block_normal ?_ | refine Post.block_ret ?_ | refine Post.block_here ?_ | refine Post.scope_normal ?_ | refine Post.scope_ret ?_ | refine Post.scope_exit ?_ | refine Post.round_ret ?_ | refine Post.round_exit ?_ | refine CodeS.block ?_ | refine CodeS.skip ?_ | refine CodeS.ret ?_ | refine CodeS.exit ?_ | refine CodeS.scope ?_ | refine CodeS.label ?_) | ((with_reducible refine opsP_nil (hK _ _ ?_)); clear hK K) | ((with_reducible refine opsP_gd ?hj ?hlt fun K1 K3 d hdst h1 h3 => ?_); (case hj => rfl); (case hlt => exact Nat.le_of_ble_eq_true rfl); cases hdst; go_simp) | ((with_reducible refine CodeS.cond_k fun K1 K3 h1 h3 => ?_); go_simp) | (refine h1 ?_; clear h1 h3 K1 K3) | (refine h3 ?_; clear h1 h3 K1 K3) | ((refine Either.mk (fun hb => h1 ?_) (fun hb => h3 ?_)) <;> (clear h1 h3 K1 K3; (try have hb2 := of_decide hb); (try have hb2 := of_not_decide_lt hb); (try have hb2 := of_not_decide_le hb); (try have hb2 := of_not_decide_ltN hb); (try have hb2 := of_not_decide_leN hb))) | ((refine Either.mk (fun hb => h3 ?_) (fun hb => h1 ?_)) <;> (clear h1 h3 K1 K3; (try have hb2 := of_decide hb); (try have hb2 := of_not_decide_lt hb); (try have hb2 := of_not_decide_le hb); (try have hb2 := of_not_decide_ltN hb); (try have hb2 := of_not_decide_leN hb))) | (refine fun (K2 : _ → AHeap → Prop) hK2 => ?_) | ((with_reducible refine Post.block_off ?hn ?_); (case hn => decide)) | ((with_reducible first | refine Post.body_k ?hd (fun K hK => ?_) | refine Post.body_kn ?hd (fun K hK => ?_)); (case hd => (go_simp; done)); go_simp; refine hK _ _ ?_; clear hK K) | ((with_reducible refine CodeS.tree_lit mixed rfl ?hok 20 fun K0 hK0 => ?_); (case hok => kernel_rfl)) | (with_reducible first | exact loudsP_nil | exact stableP_nil | refine treeP_lit ?_ | refine passP_nil ?_ | refine stableP_keep ?_) | ((with_reducible first | refine passP_skip ?h1 ?_ | refine loudsP_skip ?h1 ?_ | refine stepT_more ?h1 ?_); (case h1 => rfl)) | ((with_reducible refine stepT_done ?h1 ?_); (case h1 => rfl); refine hK0 _ _ ?_; clear hK0 K0) | ((with_reducible refine passP_loud ?h1 ?hg ?hl ?_); (case h1 => rfl); (case hg => rfl); (case hl => rfl)) | ((with_reducible refine passP_q ?h1 ?hl ?hlt fun K2 hK2 => ?_); (case h1 => rfl); (case hl => rfl); (case hlt => exact Nat.le_of_ble_eq_true rfl)) | ((with_reducible refine passP_g ?h1 ?hj ?hl ?hlt fun K1 K3 d hdst h1 h3 => ?_); (case h1 => rfl); (case hj => rfl); (case hl => rfl); (case hlt => exact Nat.le_of_ble_eq_true rfl); cases hdst; go_simp) | ((with_reducible refine passP_lg ?h1 ?hj ?hl ?hlt fun K1 K3 d hdst h1 h3 => ?_); (case h1 => rfl); (case hj => rfl); (case hl => rfl); (case hlt => exact Nat.le_of_ble_eq_true rfl); cases hdst; go_simp) | ((with_reducible refine loudsP_c ?h1 ?hlt (fun K2 hK2 => ?_) ?_); (case h1 => rfl); (case hlt => exact Nat.le_of_ble_eq_true rfl)) | ((with_reducible refine loudsP_cg ?h1 ?hlt ?hj ?hw (fun K2 hK2 => ?_) ?_); (case h1 => rfl); (case hlt => exact Nat.le_of_ble_eq_true rfl); (case hj => rfl); (case hw => (go_simp; done))) | ((with_reducible refine loudsP_v ?h1 ?hv ?hlt (fun K2 hK2 => ?_) ?_); (case h1 => rfl); (case hv => rfl); (case hlt => exact Nat.le_of_ble_eq_true rfl)) | ((with_reducible refine loudsP_u ?h1 ?hv (fun K2 hK2 => ?_) ?_); (case h1 => rfl); (case hv => rfl)) | ((with_reducible refine stableP_pre ?h1 ?_); (case h1 => (first | rfl | (dsimp only; decide +kernel)))) | ((with_reducible refine stableP_re ?h1 ?_); (case h1 => (go_simp; done))) | (go_simp; (try go_bits); (try first | ((with_reducible show CallS _ _ _ _ _ _); refine CallS.mono (HLW.out _) ?_; rintro _ _ ⟨rfl, rfl⟩) | ((with_reducible show CallS _ _ _ _ _ _); refine CallS.mono (HNX.out _ (max frm lw)) ?_; rintro _ _ ⟨rfl, rfl⟩; rw [HDD.out]) | ((refine one_k el22 sz3 ze3 rfl (by decide) (by decide) rfl rfl ?_); go_simp) | ((refine append_k2 el22 sz3 by3 ze3 rfl (by decide) (HO.out.ext (Ext.push _)) (srcCells_new rfl) (by decide) rfl (by simp [List.all_append, oneV_list_int, oneV]) HBIG.out (by simp only [AHeap.n_push]; omega) fun v2 H4 ho4 hg4 => ?_); (have HO4 := Lib.hid ho4); (have HG4 := Lib.hid hg4); clear ho4 hg4; go_simp)); (first | (refine hK2 _ _ ?_ ?_ <;> clear hK2 K2) | (refine hK2 _ _ ?_; clear hK2 K2))))
    · refine ⟨?_, HX.out⟩
      have h9 : d = 731 := by simpa using hb
      have hr : acc = res := by rw [← HG.out, HST.out, if_pos h9]
      rw [← hr]
      exact HO.out.mono (by omega)
    · have h9 : ¬ d = 731 := by simpa using hb
      have hx4 : Ext H H4 := HG4.out.ext (HO.out.ext (Ext.push _)) (by omega) (HX.out.push' _)
      refine Post.round_normal ⟨x.open_.length - (k + 1), by omega, k + 1, v2, acc ++ [d], by omega, by have := HAK.out; simp; omega, rfl, (by first | (go_simp; done) | (go_simp; go_num; done) | assumption), (by first | (go_simp; done) | (go_simp; go_num; done) | assumption), (by first | (go_simp; done) | (go_simp; go_num; done) | assumption), (by first | (go_simp; done) | (go_simp; go_num; done) | assumption), (by first | (go_simp; done) | (go_simp; go_num; done) | assumption), (by first | (go_simp; done) | (go_simp; go_num; done) | assumption), Lib.hid (by rw [← HG.out, HST.out, if_neg h9]), Lib.hid ?_, ?_, hx4, ?_, ?_⟩
      · intro y hy
        rcases List.mem_append.1 hy with h | h
        · exact HB.out y h
        · rw [List.mem_singleton.1 h]; have := HNI.out h9; omega
      · have := HG4.out.1; simp only [AHeap.n_push] at this; omega
      · rw [HG4.out.2 _ (by simp only [AHeap.n_push]; omega) (fun b n hv hn => by have := (own_block HO.out hv hn).1; omega), AHeap.get_push_old hn0]; exact HG0.out
      · rw [List.map_append]; exact HO4.out.mono (by simp only [AHeap.n_push]; omega)
  · repeat' (first | (with_reducible first | refine CodeS.seq ?_ | refine CodeS.region_k fun K hK => ?_ | refine opsP_go fun K2 hK2 => ?_ | refine Post.then_normal ?_ | refine Post.then_ret ?_ | refine Post.then_exit ?_ | refine Post.block_normal ?_ | refine Post.block_ret ?_ | refine Post.block_here ?_ | refine Post.scope_normal ?_ | refine Post.scope_ret ?_ | refine Post.scope_exit ?_ | refine Post.round_ret ?_ | refine Post.round_exit ?_ | refine CodeS.block ?_ | refine CodeS.skip ?_ | refine CodeS.ret ?_ | refine CodeS.exit ?_ | refine CodeS.scope ?_ | refine CodeS.label ?_) | ((with_reducible refine opsP_nil (hK _ _ ?_)); clear hK K) | ((with_reducible refine opsP_gd ?hj ?hlt fun K1 K3 d hdst h1 h3 => ?_); (case hj => rfl); (case hlt => exact Nat.le_of_ble_eq_true rfl); cases hdst; go_simp) | ((with_reducible refine CodeS.cond_k fun K1 K3 h1 h3 => ?_); go_simp) | (refine h1 ?_; clear h1 h3 K1 K3) | (refine h3 ?_; clear h1 h3 K1 K3) | ((refine Either.mk (fun hb => h1 ?_) (fun hb => h3 ?_)) <;> (clear h1 h3 K1 K3; (try have hb2 := of_decide hb); (try have hb2 := of_not_decide_lt hb); (try have hb2 := of_not_decide_le hb); (try have hb2 := of_not_decide_ltN hb); (try have hb2 := of_not_decide_leN hb))) | ((refine Either.mk (fun hb => h3 ?_) (fun hb => h1 ?_)) <;> (clear h1 h3 K1 K3; (try have hb2 := of_decide hb); (try have hb2 := of_not_decide_lt hb); (try have hb2 := of_not_decide_le hb); (try have hb2 := of_not_decide_ltN hb); (try have hb2 := of_not_decide_leN hb))) | (refine fun (K2 : _ → AHeap → Prop) hK2 => ?_) | ((with_reducible refine Post.block_off ?hn ?_); (case hn => decide)) | ((with_reducible first | refine Post.body_k ?hd (fun K hK => ?_) | refine Post.body_kn ?hd (fun K hK => ?_)); (case hd => (go_simp; done)); go_simp; refine hK _ _ ?_; clear hK K) | ((with_reducible refine CodeS.tree_lit mixed rfl ?hok 20 fun K0 hK0 => ?_); (case hok => kernel_rfl)) | (with_reducible first | exact loudsP_nil | exact stableP_nil | refine treeP_lit ?_ | refine passP_nil ?_ | refine stableP_keep ?_) | ((with_reducible first | refine passP_skip ?h1 ?_ | refine loudsP_skip ?h1 ?_ | refine stepT_more ?h1 ?_); (case h1 => rfl)) | ((with_reducible refine stepT_done ?h1 ?_); (case h1 => rfl); refine hK0 _ _ ?_; clear hK0 K0) | ((with_reducible refine passP_loud ?h1 ?hg ?hl ?_); (case h1 => rfl); (case hg => rfl); (case hl => rfl)) | ((with_reducible refine passP_q ?h1 ?hl ?hlt fun K2 hK2 => ?_); (case h1 => rfl); (case hl => rfl); (case hlt => exact Nat.le_of_ble_eq_true rfl)) | ((with_reducible refine passP_g ?h1 ?hj ?hl ?hlt fun K1 K3 d hdst h1 h3 => ?_); (case h1 => rfl); (case hj => rfl); (case hl => rfl); (case hlt => exact Nat.le_of_ble_eq_true rfl); cases hdst; go_simp) | ((with_reducible refine passP_lg ?h1 ?hj ?hl ?hlt fun K1 K3 d hdst h1 h3 => ?_); (case h1 => rfl); (case hj => rfl); (case hl => rfl); (case hlt => exact Nat.le_of_ble_eq_true rfl); cases hdst; go_simp) | ((with_reducible refine loudsP_c ?h1 ?hlt (fun K2 hK2 => ?_) ?_); (case h1 => rfl); (case hlt => exact Nat.le_of_ble_eq_true rfl)) | ((with_reducible refine loudsP_cg ?h1 ?hlt ?hj ?hw (fun K2 hK2 => ?_) ?_); (case h1 => rfl); (case hlt => exact Nat.le_of_ble_eq_true rfl); (case hj => rfl); (case hw => (go_simp; done))) | ((with_reducible refine loudsP_v ?h1 ?hv ?hlt (fun K2 hK2 => ?_) ?_); (case h1 => rfl); (case hv => rfl); (case hlt => exact Nat.le_of_ble_eq_true rfl)) | ((with_reducible refine loudsP_u ?h1 ?hv (fun K2 hK2 => ?_) ?_); (case h1 => rfl); (case hv => rfl)) | ((with_reducible refine stableP_pre ?h1 ?_); (case h1 => (first | rfl | (dsimp only; decide +kernel)))) | ((with_reducible refine stableP_re ?h1 ?_); (case h1 => (go_simp; done))) | (go_simp; (try go_bits); (first | (refine hK2 _ _ ?_ ?_ <;> clear hK2 K2) | (refine hK2 _ _ ?_; clear hK2 K2))))
    refine ⟨?_, HX.out⟩
    have hr : acc = res := by rw [← HG.out, show x.open_.length - k = 0 by omega]; rfl
    rw [← hr]
    exact HO.out.mono (by omega)
end Go.Proofs.Try
namespace Go.Proofs.Try
open Go Go.Am Go.RowKit Go.Co
set_option maxRecDepth 100000

/-! The course of a copy. -/
def rowOf (s : Sheet) (c : Copy) (i : Nat) : List (Int × Int) := cutS c.beg c.fin (joinL (offS (strs s i) (c.words.getD i 0)))
def courseOf (s : Sheet) (c : Copy) : Course := ⟨(List.range c.words.length).map (rowOf s c), c.per⟩

/-- Spans, their block within bounds. -/
def SpansIn (lo hi : Nat) (H : AHeap) (v : Value) (l : List (Int × Int)) : Prop := (spanCells l).length = l.length * 2 ∧ l.length ≤ 9223372036854775807 ∧ ∃ a c, v = .slice a l.length c ∧ (0 < l.length → ∃ b o sp, a = some ⟨b, o, sp⟩ ∧ lo ≤ b ∧ b < hi ∧ ∀ j u, (spanCells l)[j]? = some u → cellAt H b (o + j) = some u)
theorem SpansIn.spans {lo hi : Nat} {H : AHeap} {v : Value} {l : List (Int × Int)} (h : SpansIn lo hi H v l) (hh : hi ≤ H.n) : Spans H v l := by
  obtain ⟨h1, h2, a, c, h3, h4⟩ := h
  refine ⟨h1, h2, a, c, h3, fun hn => ?_⟩
  obtain ⟨b, o, sp, h5, h6, h7, h8⟩ := h4 hn
  exact ⟨b, o, sp, h5, by omega, h8⟩
theorem SpansIn.keep {lo hi lo' hi' : Nat} {H H' : AHeap} {v : Value} {l : List (Int × Int)} (h : SpansIn lo hi H v l) (hl : lo' ≤ lo) (hh : hi ≤ hi') (hk : ∀ i, lo ≤ i → i < hi → H'.get i = H.get i) : SpansIn lo' hi' H' v l := by
  obtain ⟨h1, h2, a, c, h3, h4⟩ := h
  refine ⟨h1, h2, a, c, h3, fun hn => ?_⟩
  obtain ⟨b, o, sp, h5, h6, h7, h8⟩ := h4 hn
  exact ⟨b, o, sp, h5, by omega, by omega, fun j u hu => by rw [cellAt_get (hk b h6 h7)]; exact h8 j u hu⟩
theorem SpansIn.of_own {base : Nat} {H : AHeap} {v : Value} {l : List (Int × Int)} (h : Own H base v 87 2 (spanCells l)) (hl : l.length ≤ 9223372036854775807) : SpansIn base H.n H v l := by
  have hlen := spanCells_length l
  rcases h with ⟨rfl, h2⟩ | ⟨b, n, rfl, h2, h3, h4, h5, h6⟩
  · have : l.length = 0 := by rw [h2] at hlen; simp at hlen; omega
    exact ⟨hlen, hl, none, 0, by rw [this], by omega⟩
  · have hn : n = l.length := by omega
    subst hn
    refine ⟨hlen, hl, _, _, rfl, fun _ => ⟨b, 0, none, rfl, h2, h3, fun j u hu => ?_⟩⟩
    simp only [cellAt, h4, Nat.zero_add]; exact hu
theorem SpansIn.slice {lo hi : Nat} {H : AHeap} {v : Value} {l : List (Int × Int)} (h : SpansIn lo hi H v l) : ∃ a c, v = .slice a l.length c := by
  obtain ⟨h1, h2, a, c, h3, h4⟩ := h
  exact ⟨a, c, h3⟩

/-- The rows that a course has so far: the values, each by its spans. -/
def RowsTo (lo hi : Nat) (H : AHeap) (vs : List Value) (L : List (List (Int × Int))) : Prop := vs.length = L.length ∧ ∀ (i : Nat) (h : i < L.length), ∃ u, vs[i]? = some u ∧ SpansIn lo hi H u L[i]
theorem RowsTo.snoc {lo hi : Nat} {H : AHeap} {vs : List Value} {L : List (List (Int × Int))} {u : Value} {l : List (Int × Int)} (h : RowsTo lo hi H vs L) (hu : SpansIn lo hi H u l) : RowsTo lo hi H (vs ++ [u]) (L ++ [l]) := by
  refine ⟨by simp [h.1], fun i hi => ?_⟩
  rcases Nat.lt_or_ge i L.length with hlt | hge
  · obtain ⟨w, h1, h2⟩ := h.2 i hlt
    exact ⟨w, by rw [List.getElem?_append_left (by rw [h.1]; exact hlt)]; exact h1, by rw [List.getElem_append_left hlt]; exact h2⟩
  · have : i = L.length := by simp at hi; omega
    subst this
    refine ⟨u, by rw [← h.1]; simp, ?_⟩
    rw [List.getElem_append_right (Nat.le_refl _)]
    simpa using hu
theorem RowsTo.keep {lo hi lo' hi' : Nat} {H H' : AHeap} {vs : List Value} {L : List (List (Int × Int))} (h : RowsTo lo hi H vs L) (hl : lo' ≤ lo) (hh : hi ≤ hi') (hk : ∀ i, lo ≤ i → i < hi → H'.get i = H.get i) : RowsTo lo' hi' H' vs L :=
  ⟨h.1, fun i hi => by obtain ⟨w, h1, h2⟩ := h.2 i hi; exact ⟨w, h1, h2.keep hl hh hk⟩⟩
theorem RowsTo.one {lo hi : Nat} {H : AHeap} {vs : List Value} {L : List (List (Int × Int))} (h : RowsTo lo hi H vs L) : vs.all oneV = true := by
  rw [List.all_eq_true]
  intro v hv
  obtain ⟨i, hi, rfl⟩ := List.mem_iff_getElem.1 hv
  obtain ⟨u, h1, h2⟩ := h.2 i (by rw [← h.1]; exact hi)
  rw [List.getElem?_eq_getElem hi] at h1
  cases h1
  obtain ⟨a, c, h3⟩ := h2.slice
  rw [h3]; rfl
theorem RowsTo.rows {lo hi : Nat} {H : AHeap} {base : Nat} {v : Value} {vs : List Value} {L : List (List (Int × Int))} (h : RowsTo lo hi H vs L) (ho : Own H base v 37 1 vs) (hh : hi ≤ H.n) (hl : L.length ≤ 9223372036854775807) : Rows H v L := by
  refine ⟨vs, ?_, fun i hi => by obtain ⟨w, h1, h2⟩ := h.2 i hi; exact ⟨w, h1, h2.spans hh⟩⟩
  rcases ho with ⟨rfl, h2⟩ | ⟨b, n, rfl, h2, h3, h4, h5, h6⟩
  · have h7 := h.1
    rw [h2] at h7
    have h8 : L.length = 0 := by simpa using h7.symm
    exact ⟨by rw [h2, h8]; rfl, hl, none, 0, by rw [h8], by omega⟩
  · have hn : n = L.length := by rw [← h.1]; omega
    subst hn
    refine ⟨by rw [h.1]; omega, hl, _, _, rfl, fun _ => ⟨b, 0, none, rfl, h3, fun j u hu => ?_⟩⟩
    simp only [cellAt, h4, Nat.zero_add]; exact hu

theorem get_at {H : AHeap} {b : Nat} {o : AObj} (h : b = H.n) : (H.push o).get b = o := by rw [h, AHeap.get_push_new]
theorem rowOf_len {s : Sheet} {c : Copy} {i : Nat} (h : (strs s i).length ≤ 1000) : (rowOf s c i).length ≤ 1000 := by
  unfold rowOf
  have h1 := cutS_le c.beg c.fin (joinL (offS (strs s i) (c.words.getD i 0)))
  have h2 := joinL_le (offS (strs s i) (c.words.getD i 0))
  have h3 := offS_le (strs s i) (c.words.getD i 0)
  omega

theorem courseOf_len (s : Sheet) (c : Copy) : (courseOf s c).open_.length = c.words.length := by simp [courseOf]
set_option maxHeartbeats 4000000 in
/-- A course whose blocks lie behind a bound. -/
def CourseFrom (b : Nat) (H : AHeap) (v : Value) (x : Course) : Prop := ∀ G : AHeap, H.n ≤ G.n → (∀ i, b ≤ i → i < H.n → G.get i = H.get i) → CourseV G v x
theorem CourseFrom.v {b : Nat} {H : AHeap} {v : Value} {x : Course} (h : CourseFrom b H v x) : CourseV H v x := h H (Nat.le_refl _) fun _ _ _ => rfl
theorem courseOf_f {loops : List (Nat × LInfo)} {H : AHeap} {sv cv : Value} {s : Sheet} {c : Copy} (hs : SheetV H sv s) (hc : CopyV H cv c) (he : errCopy s c = 0) : CallS Try.prog loops 84 [sv, cv] H fun r H' => CourseFrom H.n H' r (courseOf s c) ∧ Ext H H' := by
  have HV := Lib.hid hs
  obtain ⟨wv, av, rfl, hw, ha⟩ := hs
  obtain ⟨hwl, wa, wc, rfl⟩ := hw.slice
  obtain ⟨hal, aa, ac, rfl⟩ := ha.slice
  obtain ⟨cv, rfl, hcw⟩ := hc
  obtain ⟨hcl, ca, cc, rfl⟩ := hcw.slice
  have HCW := Lib.hid hcw
  clear hw ha hcw
  obtain ⟨he0, hlen, hwo, -⟩ := errCopy_ok he
  have hso := (err_ok he0).1
  have hal4 := (err_ok he0).2.2.2
  have hwn : s.words.length ≤ 40 := by have := (win_iff.1 (err_ok he0).2.1).2; omega
  have HLEN := Lib.hid hlen
  have HSO := Lib.hid hso
  have hsl : ∀ i : Int, (strs s i).length ≤ 1000 := fun i => by have := go_le i s.alts 0 ⟨s.words[i.toNat]!, 0, false⟩; unfold strs; omega
  have HSL := Lib.hid hsl
  have hcn : c.words.length ≤ 40 := by omega
  clear he he0 hlen hso hsl
  refine CallS.enter' Try.func84 rfl Try.ntmps84 (by simp) fun f hd hf => ?_
  have f0 := hf 0
  have f1 := hf 1
  simp at f0 f1
  clear hf
  repeat' (first | (with_reducible first | refine CodeS.seq ?_ | refine CodeS.region_k fun K hK => ?_ | refine opsP_go fun K2 hK2 => ?_ | refine Post.then_normal ?_ | refine Post.then_ret ?_ | refine Post.then_exit ?_ | refine Post.block_normal ?_ | refine Post.block_ret ?_ | refine Post.block_here ?_ | refine Post.scope_normal ?_ | refine Post.scope_ret ?_ | refine Post.scope_exit ?_ | refine Post.round_ret ?_ | refine Post.round_exit ?_ | refine CodeS.block ?_ | refine CodeS.skip ?_ | refine CodeS.ret ?_ | refine CodeS.exit ?_ | refine CodeS.scope ?_ | refine CodeS.label ?_) | ((with_reducible refine opsP_nil (hK _ _ ?_)); clear hK K) | ((with_reducible refine opsP_gd ?hj ?hlt fun K1 K3 d hdst h1 h3 => ?_); (case hj => rfl); (case hlt => exact Nat.le_of_ble_eq_true rfl); cases hdst; go_simp) | ((with_reducible refine CodeS.cond_k fun K1 K3 h1 h3 => ?_); go_simp) | (refine h1 ?_; clear h1 h3 K1 K3) | (refine h3 ?_; clear h1 h3 K1 K3) | ((refine Either.mk (fun hb => h1 ?_) (fun hb => h3 ?_)) <;> (clear h1 h3 K1 K3; (try have hb2 := of_decide hb); (try have hb2 := of_not_decide_lt hb); (try have hb2 := of_not_decide_le hb); (try have hb2 := of_not_decide_ltN hb); (try have hb2 := of_not_decide_leN hb))) | ((refine Either.mk (fun hb => h3 ?_) (fun hb => h1 ?_)) <;> (clear h1 h3 K1 K3; (try have hb2 := of_decide hb); (try have hb2 := of_not_decide_lt hb); (try have hb2 := of_not_decide_le hb); (try have hb2 := of_not_decide_ltN hb); (try have hb2 := of_not_decide_leN hb))) | (refine fun (K2 : _ → AHeap → Prop) hK2 => ?_) | ((with_reducible refine Post.block_off ?hn ?_); (case hn => decide)) | ((with_reducible first | refine Post.body_k ?hd (fun K hK => ?_) | refine Post.body_kn ?hd (fun K hK => ?_)); (case hd => (go_simp; done)); go_simp; refine hK _ _ ?_; clear hK K) | ((with_reducible refine CodeS.tree_lit mixed rfl ?hok 20 fun K0 hK0 => ?_); (case hok => kernel_rfl)) | (with_reducible first | exact loudsP_nil | exact stableP_nil | refine treeP_lit ?_ | refine passP_nil ?_ | refine stableP_keep ?_) | ((with_reducible first | refine passP_skip ?h1 ?_ | refine loudsP_skip ?h1 ?_ | refine stepT_more ?h1 ?_); (case h1 => rfl)) | ((with_reducible refine stepT_done ?h1 ?_); (case h1 => rfl); refine hK0 _ _ ?_; clear hK0 K0) | ((with_reducible refine passP_loud ?h1 ?hg ?hl ?_); (case h1 => rfl); (case hg => rfl); (case hl => rfl)) | ((with_reducible refine passP_q ?h1 ?hl ?hlt fun K2 hK2 => ?_); (case h1 => rfl); (case hl => rfl); (case hlt => exact Nat.le_of_ble_eq_true rfl)) | ((with_reducible refine passP_g ?h1 ?hj ?hl ?hlt fun K1 K3 d hdst h1 h3 => ?_); (case h1 => rfl); (case hj => rfl); (case hl => rfl); (case hlt => exact Nat.le_of_ble_eq_true rfl); cases hdst; go_simp) | ((with_reducible refine passP_lg ?h1 ?hj ?hl ?hlt fun K1 K3 d hdst h1 h3 => ?_); (case h1 => rfl); (case hj => rfl); (case hl => rfl); (case hlt => exact Nat.le_of_ble_eq_true rfl); cases hdst; go_simp) | ((with_reducible refine loudsP_c ?h1 ?hlt (fun K2 hK2 => ?_) ?_); (case h1 => rfl); (case hlt => exact Nat.le_of_ble_eq_true rfl)) | ((with_reducible refine loudsP_cg ?h1 ?hlt ?hj ?hw (fun K2 hK2 => ?_) ?_); (case h1 => rfl); (case hlt => exact Nat.le_of_ble_eq_true rfl); (case hj => rfl); (case hw => (go_simp; done))) | ((with_reducible refine loudsP_v ?h1 ?hv ?hlt (fun K2 hK2 => ?_) ?_); (case h1 => rfl); (case hv => rfl); (case hlt => exact Nat.le_of_ble_eq_true rfl)) | ((with_reducible refine loudsP_u ?h1 ?hv (fun K2 hK2 => ?_) ?_); (case h1 => rfl); (case hv => rfl)) | ((with_reducible refine stableP_pre ?h1 ?_); (case h1 => (first | rfl | (dsimp only; decide +kernel)))) | ((with_reducible refine stableP_re ?h1 ?_); (case h1 => (go_simp; done))) | (go_simp; (try go_bits); (first | (refine hK2 _ _ ?_ ?_ <;> clear hK2 K2) | (refine hK2 _ _ ?_; clear hK2 K2))))
  refine CodeS.loop (fun m f H' => ∃ (k : Nat) (v : Value) (vs : List Value) (q : Nat), k ≤ c.words.length ∧ m = c.words.length - k ∧ f.tmp 15 = .int .i64 k ∧ f.tmp 14 = .int .i64 c.words.length ∧ f.tmp 13 = .slice ca c.words.length cc ∧ f.tmp 2 = .pointer (some ⟨H.n, 0, none⟩) ∧ f.tmp 3 = .pointer (some ⟨H.n + 1, 0, none⟩) ∧ f.tmp 4 = .pointer (some ⟨H.n + 2, 0, none⟩) ∧ f.tmp 5 = .pointer (some ⟨H.n + 3, 0, none⟩) ∧ f.defers = [] ∧ H.n + 4 ≤ q ∧ q ≤ H'.n ∧ Hid (Ext H H') ∧ Hid (H'.get H.n = .row [Value.slice wa s.words.length wc, Value.slice aa s.alts.length ac] 25) ∧ Hid (H'.get (H.n + 1) = .row [Value.slice ca c.words.length cc, .int .i64 c.beg, .int .i64 c.fin, .int .i64 c.per] 27) ∧ Hid (H'.get (H.n + 2) = .row [Value.slice none 0 0, .int .i64 0] 118) ∧ Hid (H'.get (H.n + 3) = .row [v, .int .i64 c.per] 118) ∧ Hid (Own H' q v 37 1 vs) ∧ Hid (RowsTo (H.n + 4) q H' vs ((List.range k).map (rowOf s c)))) c.words.length ?_ ?_
  · refine ⟨0, .slice none 0 0, [], H.n + 4, by simp, by simp, (by first | (go_simp; done) | (go_simp; go_num; done) | assumption), (by first | (go_simp; done) | (go_simp; go_num; done) | assumption), (by first | (go_simp; done) | (go_simp; go_num; done) | assumption), (by first | (go_simp; done) | (go_simp; go_num; done) | assumption), (by first | (go_simp; done) | (go_simp; go_num; done) | assumption), (by first | (go_simp; done) | (go_simp; go_num; done) | assumption), (by first | (go_simp; done) | (go_simp; go_num; done) | assumption), (by first | (go_simp; done) | (go_simp; go_num; done) | assumption), Nat.le_refl _, by simp only [AHeap.n_push]; omega, Lib.hid ((((Ext.refl _).push' _).push' _).push' _ |>.push' _), Lib.hid ?_, Lib.hid ?_, Lib.hid ?_, Lib.hid ?_, Lib.hid Own.nil, Lib.hid ⟨rfl, fun i h => by simp at h⟩⟩
    · rw [AHeap.get_push_old (by simp only [AHeap.n_push]; omega), AHeap.get_push_old (by simp only [AHeap.n_push]; omega), AHeap.get_push_old (by simp only [AHeap.n_push]; omega), get_at rfl]
    · rw [AHeap.get_push_old (by simp only [AHeap.n_push]; omega), AHeap.get_push_old (by simp only [AHeap.n_push]; omega), get_at (by simp only [AHeap.n_push])]
    · rw [AHeap.get_push_old (by simp only [AHeap.n_push]; omega), get_at (by simp only [AHeap.n_push])]
    · rw [get_at (by simp only [AHeap.n_push])]
  clear f0 f1 hd f
  rintro m f H' ⟨k, v, vs, q, hk, rfl, f15, f14, f13, f2, f3, f4, f5, hd, hq0, hq1, HX, HG0, HG1, HG2, HG3, HO, HR⟩
  have hcs : ∀ H2, Ext H' H2 → cellsAt H2 H.n 0 2 = some [Value.slice wa s.words.length wc, Value.slice aa s.alts.length ac] ∧ cellAt H2 (H.n + 1) 1 = some (.int .i64 c.beg) ∧ cellAt H2 (H.n + 1) 2 = some (.int .i64 c.fin) ∧ cellAt H2 (H.n + 3) 0 = some v ∧ H.n < H2.n ∧ H.n + 1 < H2.n ∧ H.n + 3 < H2.n := by
    intro H2 hx
    have hn := hx.n
    exact ⟨by simp [cellsAt, hx.get H.n (by omega), HG0.out], by simp [cellAt, hx.get (H.n + 1) (by omega), HG1.out], by simp [cellAt, hx.get (H.n + 1) (by omega), HG1.out], by simp [cellAt, hx.get (H.n + 3) (by omega), HG3.out], by omega, by omega, by omega⟩
  have HCS := Lib.hid hcs
  clear hcs
  by_cases hlt : k < c.words.length
  · obtain ⟨b, o, sp, rfl, hb, hx1⟩ := (HCW.out.ext HX.out).at_ hlt
    have hro : Hid (rowOf s c k = cutS c.beg c.fin (joinL (offS (strs s k) (c.words[k])))) := Lib.hid (by simp [rowOf, hlt])
    have HRL := Lib.hid (rowOf_len (c := c) (HSL.out k))
    generalize c.words[k] = w at hx1 hro
    obtain ⟨r1, r2, r3, r4, r5, r6, r7⟩ := HCS.out H' (Ext.refl _)
    obtain ⟨va, vn, rfl⟩ := own_slice HO.out
    have hvl : Hid (vs.length = k) := Lib.hid (by rw [HR.out.1]; simp)
    have hjl : Hid ((joinL (offS (strs s k) w)).length ≤ 1000) := Lib.hid (by
      have h2 := joinL_le (offS (strs s k) w)
      have h3 := offS_le (strs s k) w
      have h4 := HSL.out k
      omega)
    have hbig : (vs.length + 1) * max 24 1 ≤ 1073741824 := by have := hvl.out; simp; omega
    have HBIG := Lib.hid hbig
    have HONE : Hid (vs.all oneV = true) := Lib.hid HR.out.one
    clear hbig
    repeat' (first | (with_reducible first | refine CodeS.seq ?_ | refine CodeS.region_k fun K hK => ?_ | refine opsP_go fun K2 hK2 => ?_ | refine Post.then_normal ?_ | refine Post.then_ret ?_ | refine Post.then_exit ?_ | refine Post.block_normal ?_ | refine Post.block_ret ?_ | refine Post.block_here ?_ | refine Post.scope_normal ?_ | refine Post.scope_ret ?_ | refine Post.scope_exit ?_ | refine Post.round_ret ?_ | refine Post.round_exit ?_ | refine CodeS.block ?_ | refine CodeS.skip ?_ | refine CodeS.ret ?_ | refine CodeS.exit ?_ | refine CodeS.scope ?_ | refine CodeS.label ?_) | ((with_reducible refine opsP_nil (hK _ _ ?_)); clear hK K) | ((with_reducible refine opsP_gd ?hj ?hlt fun K1 K3 d hdst h1 h3 => ?_); (case hj => rfl); (case hlt => exact Nat.le_of_ble_eq_true rfl); cases hdst; go_simp) | ((with_reducible refine CodeS.cond_k fun K1 K3 h1 h3 => ?_); go_simp) | (refine h1 ?_; clear h1 h3 K1 K3) | (refine h3 ?_; clear h1 h3 K1 K3) | ((refine Either.mk (fun hb => h1 ?_) (fun hb => h3 ?_)) <;> (clear h1 h3 K1 K3; (try have hb2 := of_decide hb); (try have hb2 := of_not_decide_lt hb); (try have hb2 := of_not_decide_le hb); (try have hb2 := of_not_decide_ltN hb); (try have hb2 := of_not_decide_leN hb))) | ((refine Either.mk (fun hb => h3 ?_) (fun hb => h1 ?_)) <;> (clear h1 h3 K1 K3; (try have hb2 := of_decide hb); (try have hb2 := of_not_decide_lt hb); (try have hb2 := of_not_decide_le hb); (try have hb2 := of_not_decide_ltN hb); (try have hb2 := of_not_decide_leN hb))) | (refine fun (K2 : _ → AHeap → Prop) hK2 => ?_) | ((with_reducible refine Post.block_off ?hn ?_); (case hn => decide)) | ((with_reducible first | refine Post.body_k ?hd (fun K hK => ?_) | refine Post.body_kn ?hd (fun K hK => ?_)); (case hd => (go_simp; done)); go_simp; refine hK _ _ ?_; clear hK K) | ((with_reducible refine CodeS.tree_lit mixed rfl ?hok 20 fun K0 hK0 => ?_); (case hok => kernel_rfl)) | (with_reducible first | exact loudsP_nil | exact stableP_nil | refine treeP_lit ?_ | refine passP_nil ?_ | refine stableP_keep ?_) | ((with_reducible first | refine passP_skip ?h1 ?_ | refine loudsP_skip ?h1 ?_ | refine stepT_more ?h1 ?_); (case h1 => rfl)) | ((with_reducible refine stepT_done ?h1 ?_); (case h1 => rfl); refine hK0 _ _ ?_; clear hK0 K0) | ((with_reducible refine passP_loud ?h1 ?hg ?hl ?_); (case h1 => rfl); (case hg => rfl); (case hl => rfl)) | ((with_reducible refine passP_q ?h1 ?hl ?hlt fun K2 hK2 => ?_); (case h1 => rfl); (case hl => rfl); (case hlt => exact Nat.le_of_ble_eq_true rfl)) | ((with_reducible refine passP_g ?h1 ?hj ?hl ?hlt fun K1 K3 d hdst h1 h3 => ?_); (case h1 => rfl); (case hj => rfl); (case hl => rfl); (case hlt => exact Nat.le_of_ble_eq_true rfl); cases hdst; go_simp) | ((with_reducible refine passP_lg ?h1 ?hj ?hl ?hlt fun K1 K3 d hdst h1 h3 => ?_); (case h1 => rfl); (case hj => rfl); (case hl => rfl); (case hlt => exact Nat.le_of_ble_eq_true rfl); cases hdst; go_simp) | ((with_reducible refine loudsP_c ?h1 ?hlt (fun K2 hK2 => ?_) ?_); (case h1 => rfl); (case hlt => exact Nat.le_of_ble_eq_true rfl)) | ((with_reducible refine loudsP_cg ?h1 ?hlt ?hj ?hw (fun K2 hK2 => ?_) ?_); (case h1 => rfl); (case hlt => exact Nat.le_of_ble_eq_true rfl); (case hj => rfl); (case hw => (go_simp; done))) | ((with_reducible refine loudsP_v ?h1 ?hv ?hlt (fun K2 hK2 => ?_) ?_); (case h1 => rfl); (case hv => rfl); (case hlt => exact Nat.le_of_ble_eq_true rfl)) | ((with_reducible refine loudsP_u ?h1 ?hv (fun K2 hK2 => ?_) ?_); (case h1 => rfl); (case hv => rfl)) | ((with_reducible refine stableP_pre ?h1 ?_); (case h1 => (first | rfl | (dsimp only; decide +kernel)))) | ((with_reducible refine stableP_re ?h1 ?_); (case h1 => (go_simp; done))) | (go_simp; (try go_bits); (try first | ((with_reducible show CallS _ _ _ _ _ _); refine CallS.mono (copyable_e (s := s) (word := w) (HV.out.ext HX.out) (Ext.refl _)) ?_; rintro qv H2 ⟨hq, hx⟩; (have HQ := Lib.hid hq); (have HX2 := Lib.hid hx); clear hq hx) | ((with_reducible show CallS _ _ _ _ _ _); refine CallS.mono (joined_e (HQ.out.gives (by omega) (by have := HLEN.out; omega) HSO.out) (HSL.out _)) ?_; rintro jv H3 ⟨ho, hx⟩; (have HJ := Lib.hid (spans_of_own ho (by have := hjl.out; omega))); (have HX3 := Lib.hid (HX2.out.trans hx)); (obtain ⟨-, ja, jc, hjv⟩ := HJ.out.slice); subst hjv; (obtain ⟨s1, s2, s3, s4, s5, s6, s7⟩ := HCS.out _ (HX2.out.trans hx)); clear ho hx) | ((with_reducible show CallS _ _ _ _ _ _); refine CallS.mono (cut_e HJ.out hjl.out) ?_; rintro uv H4 ⟨ho, hx⟩; (have HU := Lib.hid ho); (have HX4 := Lib.hid (HX3.out.trans hx)); (have HY4 := Lib.hid hx); (obtain ⟨ua, un, huv⟩ := own_slice ho); subst huv; (obtain ⟨t1, t2, t3, t4, t5, t6, t7⟩ := HCS.out _ (HX3.out.trans hx)); clear ho hx) | ((refine one_v el116 sz37 ze37 rfl (by decide) (by decide) rfl rfl ?_); go_simp) | ((refine append_v el116 sz37 by37 ze37 rfl (by decide) ((HO.out.ext HX4.out).ext (Ext.push _)) (srcCells_new rfl) (by decide) rfl (by rw [List.all_append, HONE.out]; rfl) HBIG.out (by simp only [AHeap.n_push]; have := HX4.out.n; omega) fun v2 H5 ho5 hg5 => ?_); (obtain ⟨va2, vn2, rfl⟩ := own_slice ho5); (have HO5 := Lib.hid ho5); (have HG5 := Lib.hid hg5); (have hget5 : ∀ i, i < H.n + 4 → H5.get i = H'.get i := fun i hi => (hg5.2 i (by simp only [AHeap.n_push]; omega) (fun b n hv hn => by have := (own_block HO.out hv hn).1; omega)).trans ((AHeap.get_push_old (by omega)).trans (HX4.out.get i (by omega)))); (have HGET := Lib.hid hget5); (have hg53 : H5.get (H.n + 3) = .row [Value.slice va vn vn, .int .i64 c.per] 118 := (hget5 _ (by omega)).trans HG3.out); (have u1 : cellAt H5 (H.n + 1) 1 = some (.int .i64 c.beg) := by simp [cellAt, hget5 (H.n + 1) (by omega), HG1.out]); (have u2 : cellAt H5 (H.n + 1) 2 = some (.int .i64 c.fin) := by simp [cellAt, hget5 (H.n + 1) (by omega), HG1.out]); (have u3 : cellAt H5 (H.n + 3) 0 = some (Value.slice va vn vn) := by simp [cellAt, hg53]); (have hn5 : H4.n < H5.n := by have := hg5.1; simp only [AHeap.n_push] at this; omega); (have hx5 : Ext H H5 := ⟨by have := HX.out.n; have := HX4.out.n; omega, fun i hi => (hget5 i (by omega)).trans (HX.out.get i hi)⟩); (have HX5 := Lib.hid hx5); clear ho5 hg5 hget5 hx5; go_simp)); (first | (refine hK2 _ _ ?_ ?_ <;> clear hK2 K2) | (refine hK2 _ _ ?_; clear hK2 K2))))
    have hq9 : H'.n ≤ H4.n := HX4.out.n
    have hk6 : ∀ i, i ≠ H.n + 3 → i < H5.n → (H5.upd (H.n + 3) (.row [Value.slice va2 vn2 vn2, .int .i64 c.per] 118)).get i = H5.get i := fun i hi _ => AHeap.get_upd_ne hi
    refine Post.round_normal ⟨c.words.length - (k + 1), by omega, k + 1, .slice va2 vn2 vn2, vs ++ [.slice ua un un], H4.n, by omega, rfl, (by first | (go_simp; done) | (go_simp; go_num; done) | assumption), (by first | (go_simp; done) | (go_simp; go_num; done) | assumption), (by first | (go_simp; done) | (go_simp; go_num; done) | assumption), (by first | (go_simp; done) | (go_simp; go_num; done) | assumption), (by first | (go_simp; done) | (go_simp; go_num; done) | assumption), (by first | (go_simp; done) | (go_simp; go_num; done) | assumption), (by first | (go_simp; done) | (go_simp; go_num; done) | assumption), (by first | (go_simp; done) | (go_simp; go_num; done) | assumption), by omega, by rw [AHeap.n_upd]; omega, Lib.hid (HX5.out.upd (by omega) _), Lib.hid ?_, Lib.hid ?_, Lib.hid ?_, Lib.hid AHeap.get_upd_same, Lib.hid ?_, Lib.hid ?_⟩
    · rw [AHeap.get_upd_ne (by omega), HGET.out _ (by omega)]; exact HG0.out
    · rw [AHeap.get_upd_ne (by omega), HGET.out _ (by omega)]; exact HG1.out
    · rw [AHeap.get_upd_ne (by omega), HGET.out _ (by omega)]; exact HG2.out
    · exact own_upd (HO5.out.mono (by rw [AHeap.n_push]; omega)) (by omega)
    · have hkeep : ∀ i, H.n + 4 ≤ i → i < H4.n → (∀ b n, Value.slice va vn vn = .slice (some ⟨b, 0, none⟩) n n → 0 < n → i ≠ b) → (H5.upd (H.n + 3) (.row [Value.slice va2 vn2 vn2, .int .i64 c.per] 118)).get i = H4.get i := fun i h1 h2 h3 => by
        rw [AHeap.get_upd_ne (by omega), HG5.out.2 i (by rw [AHeap.n_push]; omega) h3, AHeap.get_push_old h2]
      rw [List.range_succ, List.map_append]
      refine RowsTo.snoc (HR.out.keep (Nat.le_refl _) (by omega) fun i h1 h2 => ?_) ?_
      · rw [hkeep i h1 (by omega) (fun b n hv hn => by have := (own_block HO.out hv hn).1; omega)]
        exact HX4.out.get i (by omega)
      · rw [hro.out]
        refine (SpansIn.of_own HU.out (by have h1 := cutS_le c.beg c.fin (joinL (offS (strs s k) w)); have := hjl.out; omega)).keep (by have h1 := HX3.out.n; omega) (Nat.le_refl _) fun i h1 h2 => ?_
        exact hkeep i (by have := HX3.out.n; omega) h2 (fun b n hv hn => by have := (own_block HO.out hv hn).2.1; have := HX3.out.n; omega)
  · have hg2 := HG2.out
    have hg3 := HG3.out
    have hcc : cellsAt H' (H.n + 3) 0 2 = some [v, .int .i64 c.per] := by simp [cellsAt, hg3]
    obtain ⟨r1, r2, r3, r4, r5, r6, r7⟩ := HCS.out H' (Ext.refl _)
    have r8 : H.n + 2 < H'.n := by omega
    obtain ⟨va, vn, rfl⟩ := own_slice HO.out
    clear hg3 HCS
    repeat' (first | (with_reducible first | refine CodeS.seq ?_ | refine CodeS.region_k fun K hK => ?_ | refine opsP_go fun K2 hK2 => ?_ | refine Post.then_normal ?_ | refine Post.then_ret ?_ | refine Post.then_exit ?_ | refine Post.block_normal ?_ | refine Post.block_ret ?_ | refine Post.block_here ?_ | refine Post.scope_normal ?_ | refine Post.scope_ret ?_ | refine Post.scope_exit ?_ | refine Post.round_ret ?_ | refine Post.round_exit ?_ | refine CodeS.block ?_ | refine CodeS.skip ?_ | refine CodeS.ret ?_ | refine CodeS.exit ?_ | refine CodeS.scope ?_ | refine CodeS.label ?_) | ((with_reducible refine opsP_nil (hK _ _ ?_)); clear hK K) | ((with_reducible refine opsP_gd ?hj ?hlt fun K1 K3 d hdst h1 h3 => ?_); (case hj => rfl); (case hlt => exact Nat.le_of_ble_eq_true rfl); cases hdst; go_simp) | ((with_reducible refine CodeS.cond_k fun K1 K3 h1 h3 => ?_); go_simp) | (refine h1 ?_; clear h1 h3 K1 K3) | (refine h3 ?_; clear h1 h3 K1 K3) | ((refine Either.mk (fun hb => h1 ?_) (fun hb => h3 ?_)) <;> (clear h1 h3 K1 K3; (try have hb2 := of_decide hb); (try have hb2 := of_not_decide_lt hb); (try have hb2 := of_not_decide_le hb); (try have hb2 := of_not_decide_ltN hb); (try have hb2 := of_not_decide_leN hb))) | ((refine Either.mk (fun hb => h3 ?_) (fun hb => h1 ?_)) <;> (clear h1 h3 K1 K3; (try have hb2 := of_decide hb); (try have hb2 := of_not_decide_lt hb); (try have hb2 := of_not_decide_le hb); (try have hb2 := of_not_decide_ltN hb); (try have hb2 := of_not_decide_leN hb))) | (refine fun (K2 : _ → AHeap → Prop) hK2 => ?_) | ((with_reducible refine Post.block_off ?hn ?_); (case hn => decide)) | ((with_reducible first | refine Post.body_k ?hd (fun K hK => ?_) | refine Post.body_kn ?hd (fun K hK => ?_)); (case hd => (go_simp; done)); go_simp; refine hK _ _ ?_; clear hK K) | ((with_reducible refine CodeS.tree_lit mixed rfl ?hok 20 fun K0 hK0 => ?_); (case hok => kernel_rfl)) | (with_reducible first | exact loudsP_nil | exact stableP_nil | refine treeP_lit ?_ | refine passP_nil ?_ | refine stableP_keep ?_) | ((with_reducible first | refine passP_skip ?h1 ?_ | refine loudsP_skip ?h1 ?_ | refine stepT_more ?h1 ?_); (case h1 => rfl)) | ((with_reducible refine stepT_done ?h1 ?_); (case h1 => rfl); refine hK0 _ _ ?_; clear hK0 K0) | ((with_reducible refine passP_loud ?h1 ?hg ?hl ?_); (case h1 => rfl); (case hg => rfl); (case hl => rfl)) | ((with_reducible refine passP_q ?h1 ?hl ?hlt fun K2 hK2 => ?_); (case h1 => rfl); (case hl => rfl); (case hlt => exact Nat.le_of_ble_eq_true rfl)) | ((with_reducible refine passP_g ?h1 ?hj ?hl ?hlt fun K1 K3 d hdst h1 h3 => ?_); (case h1 => rfl); (case hj => rfl); (case hl => rfl); (case hlt => exact Nat.le_of_ble_eq_true rfl); cases hdst; go_simp) | ((with_reducible refine passP_lg ?h1 ?hj ?hl ?hlt fun K1 K3 d hdst h1 h3 => ?_); (case h1 => rfl); (case hj => rfl); (case hl => rfl); (case hlt => exact Nat.le_of_ble_eq_true rfl); cases hdst; go_simp) | ((with_reducible refine loudsP_c ?h1 ?hlt (fun K2 hK2 => ?_) ?_); (case h1 => rfl); (case hlt => exact Nat.le_of_ble_eq_true rfl)) | ((with_reducible refine loudsP_cg ?h1 ?hlt ?hj ?hw (fun K2 hK2 => ?_) ?_); (case h1 => rfl); (case hlt => exact Nat.le_of_ble_eq_true rfl); (case hj => rfl); (case hw => (go_simp; done))) | ((with_reducible refine loudsP_v ?h1 ?hv ?hlt (fun K2 hK2 => ?_) ?_); (case h1 => rfl); (case hv => rfl); (case hlt => exact Nat.le_of_ble_eq_true rfl)) | ((with_reducible refine loudsP_u ?h1 ?hv (fun K2 hK2 => ?_) ?_); (case h1 => rfl); (case hv => rfl)) | ((with_reducible refine stableP_pre ?h1 ?_); (case h1 => (first | rfl | (dsimp only; decide +kernel)))) | ((with_reducible refine stableP_re ?h1 ?_); (case h1 => (go_simp; done))) | (go_simp; (try go_bits); (first | (refine hK2 _ _ ?_ ?_ <;> clear hK2 K2) | (refine hK2 _ _ ?_; clear hK2 K2))))
    have hkc : k = c.words.length := by omega
    subst hkc
    refine ⟨fun G hn hg => ⟨_, rfl, ?_⟩, HX.out.upd (by omega) _⟩
    rw [AHeap.n_upd] at hn hg
    refine RowsTo.rows (hi := q) (HR.out.keep (Nat.le_refl _) (Nat.le_refl _) fun i h1 h2 => (hg i (by omega) (by omega)).trans (AHeap.get_upd_ne (by omega))) (own_at (own_upd HO.out (by omega)) (by rw [AHeap.n_upd]; exact hn) fun i n hv hnn => hg i (by have := (own_block HO.out hv hnn).1; omega) (own_block HO.out hv hnn).2.1) (by omega) (by rw [courseOf_len]; exact hcl)
theorem courseOf_e {loops : List (Nat × LInfo)} {H : AHeap} {sv cv : Value} {s : Sheet} {c : Copy} (hs : SheetV H sv s) (hc : CopyV H cv c) (he : errCopy s c = 0) : CallS Try.prog loops 84 [sv, cv] H fun r H' => CourseV H' r (courseOf s c) ∧ Ext H H' :=
  CallS.mono (courseOf_f hs hc he) fun _ _ h => ⟨h.1.v, h.2⟩
theorem courseOf_at (s : Sheet) (c : Copy) {i : Nat} (h : i < c.words.length) : (courseOf s c).at_ i = rowOf s c i := by simp [courseOf, Course.at_, h]
theorem courseOf_ord {s : Sheet} {c : Copy} (h : errCopy s c = 0) : (courseOf s c).ord := by
  intro i
  have hs := (err_ok (errCopy_ok h).1).1
  by_cases hi : i < c.words.length
  · rw [courseOf_at s c hi]
    exact ordS_mono _ (by omega) (cutS_ord c.beg c.fin _ (whenS_ord hs))
  · have : (courseOf s c).at_ i = [] := by simp [courseOf, Course.at_, hi]
    rw [this]; trivial
theorem courseOf_ins {s : Sheet} {c : Copy} (h : errCopy s c = 0) {i : Nat} (hi : i < c.words.length) (d : Int) : ins ((courseOf s c).at_ i) d = ((decide (c.beg ≤ d) && decide (d ≤ c.fin)) && (hasOn s i d).offers (c.words.getD i 0)) := by
  obtain ⟨h0, h1, h2, h3, h4, h5, h6, h7⟩ := errCopy_ok h
  have hs := (err_ok h0).1
  rw [courseOf_at s c hi, rowOf, cutS_ins, whenS_ins hs, Bool.eq_iff_iff]
  simp only [Bool.and_eq_true, decide_eq_true_eq]
  constructor
  · rintro ⟨⟨a, b, e⟩, g⟩; exact ⟨g, e⟩
  · rintro ⟨g, e⟩; exact ⟨⟨by omega, by omega, e⟩, g⟩
end Go.Proofs.Try
