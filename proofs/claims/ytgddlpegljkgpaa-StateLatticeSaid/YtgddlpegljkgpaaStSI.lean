/- Contracts of functions, walked. -/
import Derived.Test.YtgddlpegljkgpaaStSH
set_option linter.all false
namespace Go.Proofs.Try
open Go Go.Am Go.RowKit
set_option maxRecDepth 100000

/-! Comparing spans. -/
theorem part3_0' (a b : Value) : pureOf Try.prog (part 3 #[a, b] 0) = some a := part3_0 a b
theorem un87p : ∃ f0 f1 : Field, pureOf Try.prog (underlying 87) = some (.struct #[f0, f1]) ∧ (f0.name != "_") = true ∧ (f1.name != "_") = true ∧ f0.type = 3 ∧ f1.type = 3 ∧ f0.offset = 0 ∧ f1.offset = 1 :=
  ⟨(fieldOf Try.prog 87 0).getD default, (fieldOf Try.prog 87 1).getD default, by kernel_rfl, by kernel_rfl, by kernel_rfl, by kernel_rfl, by kernel_rfl, by kernel_rfl, by kernel_rfl⟩
theorem pEq87 (d : Nat) (a b a' b' : Int) : pureOf Try.prog (Op.equalIn (d + 3) 87 (.agg #[.int .i64 a, .int .i64 b]) (.agg #[.int .i64 a', .int .i64 b'])) = some (a == a' && b == b') := by
  obtain ⟨f0, f1, hfs, h1, h2, h3, h4, h5, h6⟩ := un87p
  rw [Op.equalIn]
  rw [pureOf_bind, hfs]
  dsimp only [Option.bind]
  rw [pureOf_bind, show pureOf Try.prog program = some Try.prog from rfl]
  dsimp only [Option.bind]
  rw [show Try.prog.stoodInHeld 87 = false by kernel_rfl, if_neg (by simp)]
  simp only [List.forIn_toArray, List.forIn_cons, List.forIn_nil]
  rw [if_pos (bne_iff_ne.1 h1)]
  simp only [if_pos (bne_iff_ne.1 h2), h3, h4, h5, h6, pureOf_bind, part3_0, pEq3, Option.bind_some]
  cases (a == a')
  · rfl
  · simp only [Bool.not_true, Bool.false_eq_true, if_false, pureOf_pure, Option.bind_some, pureOf_bind, part3_1, pEq3]
    cases (b == b') <;> rfl
theorem neqF87 (x y : Operand) (a b a' b' : Int) : pureOf Try.prog (do eqGuard .neq 87 x y (.agg #[.int .i64 a, .int .i64 b]) (.agg #[.int .i64 a', .int .i64 b']); binOp .neq 87 (.agg #[.int .i64 a, .int .i64 b]) (.agg #[.int .i64 a', .int .i64 b'])) = some (.bool (!(a == a' && b == b'))) := by
  rw [pureOf_bind, show pureOf Try.prog (eqGuard .neq 87 x y (.agg #[.int .i64 a, .int .i64 b]) (.agg #[.int .i64 a', .int .i64 b'])) = some () by kernel_rfl]
  dsimp only [Option.bind]
  rw [show binOp .neq 87 (.agg #[.int .i64 a, .int .i64 b]) (.agg #[.int .i64 a', .int .i64 b']) = (do pure (.bool (!(← Op.equal 87 (.agg #[.int .i64 a, .int .i64 b]) (.agg #[.int .i64 a', .int .i64 b']))))) from rfl]
  rw [pureOf_bind, show Op.equal 87 (.agg #[.int .i64 a, .int .i64 b]) (.agg #[.int .i64 a', .int .i64 b']) = Op.equalIn (9997 + 3) 87 (.agg #[.int .i64 a, .int .i64 b]) (.agg #[.int .i64 a', .int .i64 b']) from rfl, pEq87]
  rfl
section
variable {H : AHeap} {kp : Value → AHeap → Option Prop} {ev : Operand → Value} {dst : Option Tmp} {ty t' : TypeId} {src : String} {af : Array Edge} {g : Option (Nat × Bool)} {x y : Operand} {β : Type} {kk : K β} {other : Unit → Option β}
theorem neq87_eq {a b a' b' : Int} (hx : ev x = .agg #[.int .i64 a, .int .i64 b]) (hy : ev y = .agg #[.int .i64 a', .int .i64 b']) : aPlain Try.prog ⟨dst, .binOp .neq 87 x y t', ty, src, af, g⟩ ev H kk = kk (.bool (!(a == a' && b == b'))) H := by
  have hr : pureOf Try.prog (execOp ev ⟨dst, .binOp .neq 87 x y t', ty, src, af, g⟩) = some (.value (.bool (!(a == a' && b == b')))) := by
    have h0 : execOp ev ⟨dst, .binOp .neq 87 x y t', ty, src, af, g⟩ = (do pure (.value (← (do eqGuard .neq 87 x y (ev x) (ev y); binOp .neq 87 (ev x) (ev y))))) := rfl
    rw [h0, hx, hy, pureOf_bind, neqF87]; rfl
  rw [plain_of rfl, hr]
  have ho : (Op.binOp .neq 87 x y t').operands.toList.all (fun x => plainV 6 (ev x)) = true := by
    show (#[x, y].toList.all fun x => plainV 6 (ev x)) = _
    simp [hx, hy]; exact ⟨rfl, rfl⟩
  rw [if_pos ho]; rfl
theorem neq87_k {a b a' b' : Int} (hx : ev x = .agg #[.int .i64 a, .int .i64 b]) (hy : ev y = .agg #[.int .i64 a', .int .i64 b']) (h : Holds (kp (.bool (!(a == a' && b == b'))) H)) : Holds (aPlain Try.prog ⟨dst, .binOp .neq 87 x y t', ty, src, af, g⟩ ev H kp) := by
  rw [neq87_eq hx hy]; exact h
theorem neq87_v {K : Value → AHeap → Prop} {a b a' b' : Int} (hx : ev x = .agg #[.int .i64 a, .int .i64 b]) (hy : ev y = .agg #[.int .i64 a', .int .i64 b']) (h : K (.bool (!(a == a' && b == b'))) H) : HoldsV (aPlain Try.prog ⟨dst, .binOp .neq 87 x y t', ty, src, af, g⟩ ev H pairK) K := by
  rw [neq87_eq hx hy]; exact h
@[go_sem] theorem aBin_aggN {t : TypeId} {a b : Array Value} : aBin Try.prog .neq t (.agg a) (.agg b) H kk other = other () := by
  have h : nilEq Try.prog t (.agg a) (.agg b) = none := by
    unfold nilEq
    split <;> simp_all
  simp only [aBin, aEq, h]
end

theorem Spans.cells_at {H : AHeap} {a : Option Addr} {n c : Nat} {l : List (Int × Int)} (h : Spans H (.slice a n c) l) {k : Nat} (hk : k < l.length) : ∃ b o sp, a = some ⟨b, o, sp⟩ ∧ b < H.n ∧ cellsAt H b (o + k * 2) 2 = some [.int .i64 (l[k]).1, .int .i64 (l[k]).2] := by
  obtain ⟨b, o, sp, h1, h2, h3, h4⟩ := h.at_ hk
  refine ⟨b, o, sp, h1, h2, cellsAt_of (us := [.int .i64 (l[k]).1, .int .i64 (l[k]).2]) (by simp) fun j u hu => ?_⟩
  match j, hu with
  | 0, hu => rw [Nat.add_zero, h3]; exact hu
  | 1, hu => rw [h4]; exact hu
  | j + 2, hu => simp at hu

theorem sameSpans_s {loops : List (Nat × LInfo)} {H : AHeap} {u v : Value} {xs ys : List (Int × Int)} (hu : Spans H u xs) (hv : Spans H v ys) : CallS Try.prog loops 26 [u, v] H fun r H' => r = .bool (decide (xs = ys)) ∧ H' = H := by
  obtain ⟨hlen, a, c, rfl⟩ := hu.slice
  obtain ⟨hlen2, a2, c2, rfl⟩ := hv.slice
  have HU := Lib.hid hu
  have HV := Lib.hid hv
  clear hu hv
  generalize he : decide (xs = ys) = er
  have HE := Lib.hid he
  clear he
  refine CallS.enter' Try.func26 rfl Try.ntmps26 (by simp) fun f hd hf => ?_
  have f0 := hf 0
  have f1 := hf 1
  simp at f0 f1
  clear hf
  repeat' (first | (with_reducible first | refine CodeS.seq ?_ | refine CodeS.region_k fun K hK => ?_ | refine opsP_go fun K2 hK2 => ?_ | refine Post.then_normal ?_ | refine Post.then_ret ?_ | refine Post.then_exit ?_ | refine Post.block_normal ?_ | refine Post.block_ret ?_ | refine Post.block_here ?_ | refine Post.scope_normal ?_ | refine Post.scope_ret ?_ | refine Post.scope_exit ?_ | refine Post.round_ret ?_ | refine Post.round_exit ?_ | refine CodeS.block ?_ | refine CodeS.skip ?_ | refine CodeS.ret ?_ | refine CodeS.exit ?_ | refine CodeS.scope ?_ | refine CodeS.label ?_) | ((with_reducible refine opsP_nil (hK _ _ ?_)); clear hK K) | ((with_reducible refine opsP_gd ?hj ?hlt fun K1 K3 d hdst h1 h3 => ?_); (case hj => rfl); (case hlt => exact Nat.le_of_ble_eq_true rfl); cases hdst; go_simp) | ((with_reducible refine CodeS.cond_k fun K1 K3 h1 h3 => ?_); go_simp) | (refine h1 ?_; clear h1 h3 K1 K3) | (refine h3 ?_; clear h1 h3 K1 K3) | ((refine Either.mk (fun hb => h1 ?_) (fun hb => h3 ?_)) <;> (clear h1 h3 K1 K3; (try have hb2 := of_decide hb); (try have hb2 := of_not_decide_lt hb); (try have hb2 := of_not_decide_le hb); (try have hb2 := of_not_decide_ltN hb); (try have hb2 := of_not_decide_leN hb))) | ((refine Either.mk (fun hb => h3 ?_) (fun hb => h1 ?_)) <;> (clear h1 h3 K1 K3; (try have hb2 := of_decide hb); (try have hb2 := of_not_decide_lt hb); (try have hb2 := of_not_decide_le hb); (try have hb2 := of_not_decide_ltN hb); (try have hb2 := of_not_decide_leN hb))) | (refine fun (K2 : _ → AHeap → Prop) hK2 => ?_) | ((with_reducible refine Post.block_off ?hn ?_); (case hn => decide)) | ((with_reducible first | refine Post.body_k ?hd (fun K hK => ?_) | refine Post.body_kn ?hd (fun K hK => ?_)); (case hd => (go_simp; done)); go_simp; refine hK _ _ ?_; clear hK K) | ((with_reducible refine CodeS.tree_lit mixed rfl ?hok 20 fun K0 hK0 => ?_); (case hok => kernel_rfl)) | (with_reducible first | exact loudsP_nil | exact stableP_nil | refine treeP_lit ?_ | refine passP_nil ?_ | refine stableP_keep ?_) | ((with_reducible first | refine passP_skip ?h1 ?_ | refine loudsP_skip ?h1 ?_ | refine stepT_more ?h1 ?_); (case h1 => rfl)) | ((with_reducible refine stepT_done ?h1 ?_); (case h1 => rfl); refine hK0 _ _ ?_; clear hK0 K0) | ((with_reducible refine passP_loud ?h1 ?hg ?hl ?_); (case h1 => rfl); (case hg => rfl); (case hl => rfl)) | ((with_reducible refine passP_q ?h1 ?hl ?hlt fun K2 hK2 => ?_); (case h1 => rfl); (case hl => rfl); (case hlt => exact Nat.le_of_ble_eq_true rfl)) | ((with_reducible refine passP_g ?h1 ?hj ?hl ?hlt fun K1 K3 d hdst h1 h3 => ?_); (case h1 => rfl); (case hj => rfl); (case hl => rfl); (case hlt => exact Nat.le_of_ble_eq_true rfl); cases hdst; go_simp) | ((with_reducible refine passP_lg ?h1 ?hj ?hl ?hlt fun K1 K3 d hdst h1 h3 => ?_); (case h1 => rfl); (case hj => rfl); (case hl => rfl); (case hlt => exact Nat.le_of_ble_eq_true rfl); cases hdst; go_simp) | ((with_reducible refine loudsP_c ?h1 ?hlt (fun K2 hK2 => ?_) ?_); (case h1 => rfl); (case hlt => exact Nat.le_of_ble_eq_true rfl)) | ((with_reducible refine loudsP_cg ?h1 ?hlt ?hj ?hw (fun K2 hK2 => ?_) ?_); (case h1 => rfl); (case hlt => exact Nat.le_of_ble_eq_true rfl); (case hj => rfl); (case hw => (go_simp; done))) | ((with_reducible refine loudsP_v ?h1 ?hv ?hlt (fun K2 hK2 => ?_) ?_); (case h1 => rfl); (case hv => rfl); (case hlt => exact Nat.le_of_ble_eq_true rfl)) | ((with_reducible refine loudsP_u ?h1 ?hv (fun K2 hK2 => ?_) ?_); (case h1 => rfl); (case hv => rfl)) | ((with_reducible refine stableP_pre ?h1 ?_); (case h1 => (first | rfl | (dsimp only; decide +kernel)))) | ((with_reducible refine stableP_re ?h1 ?_); (case h1 => (go_simp; done))) | (go_simp; (try go_bits); (first | (refine hK2 _ _ ?_ ?_ <;> clear hK2 K2) | (refine hK2 _ _ ?_; clear hK2 K2))))
  · refine ⟨?_, rfl⟩
    have h0 : ¬ (xs.length : Int) = ys.length := by simpa using hb
    have h1 : ¬ xs.length = ys.length := by omega
    rw [← HE.out]
    simp only [Value.bool.injEq]
    exact (decide_eq_false fun e => h1 (by rw [e])).symm
  have h0 : (xs.length : Int) = ys.length := by simpa using hb
  have hll : xs.length = ys.length := by omega
  have HLL := Lib.hid hll
  clear hll h0
  refine CodeS.loop (fun m f H' => ∃ k : Nat, k ≤ xs.length ∧ m = xs.length - k ∧ f.tmp 5 = .int .i64 k ∧ f.tmp 0 = .slice a xs.length c ∧ f.tmp 1 = .slice a2 ys.length c2 ∧ f.defers = [] ∧ Hid (decide (xs.drop k = ys.drop k) = er) ∧ H' = H) xs.length ?_ ?_
  · exact ⟨0, by simp, by simp, (by first | (go_simp; done) | (go_simp; go_num; done) | assumption), (by first | (go_simp; done) | (go_simp; go_num; done) | assumption), (by first | (go_simp; done) | (go_simp; go_num; done) | assumption), (by first | (go_simp; done) | (go_simp; go_num; done) | assumption), Lib.hid (by simpa using HE.out), rfl⟩
  clear f0 f1 hd f HE hb
  rintro m f H' ⟨k, hk, rfl, f5, f0, f1, hd, HG, rfl⟩
  by_cases hlt : k < xs.length
  · have hlt2 : k < ys.length := by have := HLL.out; omega
    obtain ⟨b, o, sp, rfl, hb, hx⟩ := HU.out.cells_at hlt
    obtain ⟨b2, o2, sp2, rfl, hb2, hx2⟩ := HV.out.cells_at hlt2
    have HD := Lib.hid (List.drop_eq_getElem_cons hlt)
    have HD2 := Lib.hid (List.drop_eq_getElem_cons hlt2)
    generalize xs[k] = y at hx HD
    generalize ys[k] = y2 at hx2 HD2
    obtain ⟨p, q⟩ := y
    obtain ⟨p2, q2⟩ := y2
    simp only at hx hx2
    repeat' (first | (with_reducible first | refine CodeS.seq ?_ | refine CodeS.region_k fun K hK => ?_ | refine opsP_go fun K2 hK2 => ?_ | refine Post.then_normal ?_ | refine Post.then_ret ?_ | refine Post.then_exit ?_ | refine Post.block_normal ?_ | refine Post.block_ret ?_ | refine Post.block_here ?_ | refine Post.scope_normal ?_ | refine Post.scope_ret ?_ | refine Post.scope_exit ?_ | refine Post.round_ret ?_ | refine Post.round_exit ?_ | refine CodeS.block ?_ | refine CodeS.skip ?_ | refine CodeS.ret ?_ | refine CodeS.exit ?_ | refine CodeS.scope ?_ | refine CodeS.label ?_) | ((with_reducible refine opsP_nil (hK _ _ ?_)); clear hK K) | ((with_reducible refine opsP_gd ?hj ?hlt fun K1 K3 d hdst h1 h3 => ?_); (case hj => rfl); (case hlt => exact Nat.le_of_ble_eq_true rfl); cases hdst; go_simp) | ((with_reducible refine CodeS.cond_k fun K1 K3 h1 h3 => ?_); go_simp) | (refine h1 ?_; clear h1 h3 K1 K3) | (refine h3 ?_; clear h1 h3 K1 K3) | ((refine Either.mk (fun hb => h1 ?_) (fun hb => h3 ?_)) <;> (clear h1 h3 K1 K3; (try have hb2 := of_decide hb); (try have hb2 := of_not_decide_lt hb); (try have hb2 := of_not_decide_le hb); (try have hb2 := of_not_decide_ltN hb); (try have hb2 := of_not_decide_leN hb))) | ((refine Either.mk (fun hb => h3 ?_) (fun hb => h1 ?_)) <;> (clear h1 h3 K1 K3; (try have hb2 := of_decide hb); (try have hb2 := of_not_decide_lt hb); (try have hb2 := of_not_decide_le hb); (try have hb2 := of_not_decide_ltN hb); (try have hb2 := of_not_decide_leN hb))) | (refine fun (K2 : _ → AHeap → Prop) hK2 => ?_) | ((with_reducible refine Post.block_off ?hn ?_); (case hn => decide)) | ((with_reducible first | refine Post.body_k ?hd (fun K hK => ?_) | refine Post.body_kn ?hd (fun K hK => ?_)); (case hd => (go_simp; done)); go_simp; refine hK _ _ ?_; clear hK K) | ((with_reducible refine CodeS.tree_lit mixed rfl ?hok 20 fun K0 hK0 => ?_); (case hok => kernel_rfl)) | (with_reducible first | exact loudsP_nil | exact stableP_nil | refine treeP_lit ?_ | refine passP_nil ?_ | refine stableP_keep ?_) | ((with_reducible first | refine passP_skip ?h1 ?_ | refine loudsP_skip ?h1 ?_ | refine stepT_more ?h1 ?_); (case h1 => rfl)) | ((with_reducible refine stepT_done ?h1 ?_); (case h1 => rfl); refine hK0 _ _ ?_; clear hK0 K0) | ((with_reducible refine passP_loud ?h1 ?hg ?hl ?_); (case h1 => rfl); (case hg => rfl); (case hl => rfl)) | ((with_reducible refine passP_q ?h1 ?hl ?hlt fun K2 hK2 => ?_); (case h1 => rfl); (case hl => rfl); (case hlt => exact Nat.le_of_ble_eq_true rfl)) | ((with_reducible refine passP_g ?h1 ?hj ?hl ?hlt fun K1 K3 d hdst h1 h3 => ?_); (case h1 => rfl); (case hj => rfl); (case hl => rfl); (case hlt => exact Nat.le_of_ble_eq_true rfl); cases hdst; go_simp) | ((with_reducible refine passP_lg ?h1 ?hj ?hl ?hlt fun K1 K3 d hdst h1 h3 => ?_); (case h1 => rfl); (case hj => rfl); (case hl => rfl); (case hlt => exact Nat.le_of_ble_eq_true rfl); cases hdst; go_simp) | ((with_reducible refine loudsP_c ?h1 ?hlt (fun K2 hK2 => ?_) ?_); (case h1 => rfl); (case hlt => exact Nat.le_of_ble_eq_true rfl)) | ((with_reducible refine loudsP_cg ?h1 ?hlt ?hj ?hw (fun K2 hK2 => ?_) ?_); (case h1 => rfl); (case hlt => exact Nat.le_of_ble_eq_true rfl); (case hj => rfl); (case hw => (go_simp; done))) | ((with_reducible refine loudsP_v ?h1 ?hv ?hlt (fun K2 hK2 => ?_) ?_); (case h1 => rfl); (case hv => rfl); (case hlt => exact Nat.le_of_ble_eq_true rfl)) | ((with_reducible refine loudsP_u ?h1 ?hv (fun K2 hK2 => ?_) ?_); (case h1 => rfl); (case hv => rfl)) | ((with_reducible refine stableP_pre ?h1 ?_); (case h1 => (first | rfl | (dsimp only; decide +kernel)))) | ((with_reducible refine stableP_re ?h1 ?_); (case h1 => (go_simp; done))) | (go_simp; (try go_bits); (try first | (refine neq87_v (a := p) (b := q) (a' := p2) (b' := q2) (by rw [evR_self (by simp [Op.operands])]; go_simp) (by rw [evR_self (by simp [Op.operands])]; go_simp) ?_)); (first | (refine hK2 _ _ ?_ ?_ <;> clear hK2 K2) | (refine hK2 _ _ ?_; clear hK2 K2))))
    · refine ⟨?_, rfl⟩
      have h1 : ¬ (p, q) = (p2, q2) := by intro e; cases e; simp at hb
      rw [← HG.out, HD.out, HD2.out]
      simp only [List.cons.injEq, h1, false_and, decide_false]
    · have h1 : (p, q) = (p2, q2) := by simpa using hb
      refine Post.round_normal ⟨xs.length - (k + 1), by omega, k + 1, by omega, rfl, (by first | (go_simp; done) | (go_simp; go_num; done) | assumption), (by first | (go_simp; done) | (go_simp; go_num; done) | assumption), (by first | (go_simp; done) | (go_simp; go_num; done) | assumption), (by first | (go_simp; done) | (go_simp; go_num; done) | assumption), Lib.hid ?_, rfl⟩
      rw [← HG.out, HD.out, HD2.out, h1]
      simp
  · repeat' (first | (with_reducible first | refine CodeS.seq ?_ | refine CodeS.region_k fun K hK => ?_ | refine opsP_go fun K2 hK2 => ?_ | refine Post.then_normal ?_ | refine Post.then_ret ?_ | refine Post.then_exit ?_ | refine Post.block_normal ?_ | refine Post.block_ret ?_ | refine Post.block_here ?_ | refine Post.scope_normal ?_ | refine Post.scope_ret ?_ | refine Post.scope_exit ?_ | refine Post.round_ret ?_ | refine Post.round_exit ?_ | refine CodeS.block ?_ | refine CodeS.skip ?_ | refine CodeS.ret ?_ | refine CodeS.exit ?_ | refine CodeS.scope ?_ | refine CodeS.label ?_) | ((with_reducible refine opsP_nil (hK _ _ ?_)); clear hK K) | ((with_reducible refine opsP_gd ?hj ?hlt fun K1 K3 d hdst h1 h3 => ?_); (case hj => rfl); (case hlt => exact Nat.le_of_ble_eq_true rfl); cases hdst; go_simp) | ((with_reducible refine CodeS.cond_k fun K1 K3 h1 h3 => ?_); go_simp) | (refine h1 ?_; clear h1 h3 K1 K3) | (refine h3 ?_; clear h1 h3 K1 K3) | ((refine Either.mk (fun hb => h1 ?_) (fun hb => h3 ?_)) <;> (clear h1 h3 K1 K3; (try have hb2 := of_decide hb); (try have hb2 := of_not_decide_lt hb); (try have hb2 := of_not_decide_le hb); (try have hb2 := of_not_decide_ltN hb); (try have hb2 := of_not_decide_leN hb))) | ((refine Either.mk (fun hb => h3 ?_) (fun hb => h1 ?_)) <;> (clear h1 h3 K1 K3; (try have hb2 := of_decide hb); (try have hb2 := of_not_decide_lt hb); (try have hb2 := of_not_decide_le hb); (try have hb2 := of_not_decide_ltN hb); (try have hb2 := of_not_decide_leN hb))) | (refine fun (K2 : _ → AHeap → Prop) hK2 => ?_) | ((with_reducible refine Post.block_off ?hn ?_); (case hn => decide)) | ((with_reducible first | refine Post.body_k ?hd (fun K hK => ?_) | refine Post.body_kn ?hd (fun K hK => ?_)); (case hd => (go_simp; done)); go_simp; refine hK _ _ ?_; clear hK K) | ((with_reducible refine CodeS.tree_lit mixed rfl ?hok 20 fun K0 hK0 => ?_); (case hok => kernel_rfl)) | (with_reducible first | exact loudsP_nil | exact stableP_nil | refine treeP_lit ?_ | refine passP_nil ?_ | refine stableP_keep ?_) | ((with_reducible first | refine passP_skip ?h1 ?_ | refine loudsP_skip ?h1 ?_ | refine stepT_more ?h1 ?_); (case h1 => rfl)) | ((with_reducible refine stepT_done ?h1 ?_); (case h1 => rfl); refine hK0 _ _ ?_; clear hK0 K0) | ((with_reducible refine passP_loud ?h1 ?hg ?hl ?_); (case h1 => rfl); (case hg => rfl); (case hl => rfl)) | ((with_reducible refine passP_q ?h1 ?hl ?hlt fun K2 hK2 => ?_); (case h1 => rfl); (case hl => rfl); (case hlt => exact Nat.le_of_ble_eq_true rfl)) | ((with_reducible refine passP_g ?h1 ?hj ?hl ?hlt fun K1 K3 d hdst h1 h3 => ?_); (case h1 => rfl); (case hj => rfl); (case hl => rfl); (case hlt => exact Nat.le_of_ble_eq_true rfl); cases hdst; go_simp) | ((with_reducible refine passP_lg ?h1 ?hj ?hl ?hlt fun K1 K3 d hdst h1 h3 => ?_); (case h1 => rfl); (case hj => rfl); (case hl => rfl); (case hlt => exact Nat.le_of_ble_eq_true rfl); cases hdst; go_simp) | ((with_reducible refine loudsP_c ?h1 ?hlt (fun K2 hK2 => ?_) ?_); (case h1 => rfl); (case hlt => exact Nat.le_of_ble_eq_true rfl)) | ((with_reducible refine loudsP_cg ?h1 ?hlt ?hj ?hw (fun K2 hK2 => ?_) ?_); (case h1 => rfl); (case hlt => exact Nat.le_of_ble_eq_true rfl); (case hj => rfl); (case hw => (go_simp; done))) | ((with_reducible refine loudsP_v ?h1 ?hv ?hlt (fun K2 hK2 => ?_) ?_); (case h1 => rfl); (case hv => rfl); (case hlt => exact Nat.le_of_ble_eq_true rfl)) | ((with_reducible refine loudsP_u ?h1 ?hv (fun K2 hK2 => ?_) ?_); (case h1 => rfl); (case hv => rfl)) | ((with_reducible refine stableP_pre ?h1 ?_); (case h1 => (first | rfl | (dsimp only; decide +kernel)))) | ((with_reducible refine stableP_re ?h1 ?_); (case h1 => (go_simp; done))) | (go_simp; (try go_bits); (first | (refine hK2 _ _ ?_ ?_ <;> clear hK2 K2) | (refine hK2 _ _ ?_; clear hK2 K2))))
    refine ⟨?_, rfl⟩
    rw [← HG.out, List.drop_eq_nil_of_le (by omega), List.drop_eq_nil_of_le (by have := HLL.out; omega)]; simp
end Go.Proofs.Try
