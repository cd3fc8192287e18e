/- Contracts of functions, walked. -/
import Derived.Test.YtgddlpegljkgpaaChecked
import Derived.Test.YtgddlpegljkgpaaRows
import Derived.Below
import Derived.Carry
import Derived.Deep.Slices
import Derived.Deep.Fields
import Derived.ChangeSame
import Derived.ProofKit
import Derived.OpenShut
import Derived.ShutString
import Derived.ChangeOld
import Derived.Lib.SmallJoins
import Derived.Test.YtgddlpegljkgpaaStTU1a
import Derived.Test.YtgddlpegljkgpaaAmS
import Derived.Test.YtgddlpegljkgpaaStSM
set_option linter.all false
namespace Go.Proofs.Try
open Go Go.Am Go.RowKit Go.Co
set_option maxRecDepth 100000
set_option maxHeartbeats 8000000 in
/-- The days that the law puts together: those ahead of a line, the day, those behind it. -/
theorem region19b {f : AF} {H5 : AHeap} {Q : Post} {b1 b2 n k : Nat} {day : Int} {L1 L2 : List Int} (f12 : f.tmp 12 = .slice (some ⟨b1, 0, none⟩) n n) (f14 : f.tmp 14 = .slice (some ⟨b2, 0, none⟩) n n) (f2 : f.tmp 2 = .int .i64 k) (f3 : f.tmp 3 = .int .i64 day) (hd : f.defers = []) (hlen1 : L1.length = n) (hlen2 : L2.length = n) (hkn : k < n) (HK0 : Hid (k = 0)) (hke : k + 1 = n) (hn40 : n ≤ 40) (hg15 : H5.get b1 = .row (L1.map (Value.int .i64)) 3) (hg25 : H5.get b2 = .row (L2.map (Value.int .i64)) 3) (hb15 : b1 < H5.n) (hb25 : b2 < H5.n)
    (hQ : ∀ (f' : AF) (G : AHeap), f'.tmp 4 = f.tmp 4 → f'.tmp 5 = f.tmp 5 → f'.tmp 9 = f.tmp 9 → f'.defers = [] → Ext H5 G → Ints G (f'.tmp 19) (mixL L1 L2 k day) → Q .normal f' G) :
    CodeS Try.prog { fn := 11, sz := 147, round := none, loops := [] } (Code.region 19 #[{ dst := some 118, op := Op.buildSlice 22 0 #[], type := 22, pos := "theorem.go:150", after := #[], guard := none }, { dst := some 119, op := Op.move (Operand.tmp 12), type := 22, pos := "theorem.go:150", after := #[], guard := none }, { dst := some 120, op := Op.move (Operand.tmp 2), type := 3, pos := "theorem.go:150", after := #[], guard := none }, { dst := some 121, op := Op.slice 22 (Operand.tmp 119) none (some (Operand.tmp 120)) none, type := 22, pos := "theorem.go:150", after := #[{ on := 1, ground := Ground.data }, { on := 2, ground := Ground.data }], guard := none }, { dst := some 122, op := Op.call { callee := Callee.builtin Builtin.append, args := #[Operand.tmp 118, Operand.tmp 121], argTypes := #[22, 22] }, type := 22, pos := "theorem.go:150", after := #[{ on := 0, ground := Ground.data }, { on := 3, ground := Ground.data }], guard := none }, { dst := some 123, op := Op.move (Operand.tmp 3), type := 3, pos := "theorem.go:150", after := #[], guard := none }, { dst := some 124, op := Op.buildSlice 22 1 #[(0, Operand.tmp 123)], type := 22, pos := "theorem.go:150", after := #[{ on := 5, ground := Ground.data }], guard := none }, { dst := some 125, op := Op.call { callee := Callee.builtin Builtin.append, args := #[Operand.tmp 122, Operand.tmp 124], argTypes := #[22, 22] }, type := 22, pos := "theorem.go:150", after := #[{ on := 4, ground := Ground.data }, { on := 6, ground := Ground.data }, { on := 4, ground := Ground.chain }], guard := none }, { dst := some 126, op := Op.move (Operand.tmp 14), type := 22, pos := "theorem.go:150", after := #[], guard := none }, { dst := some 127, op := Op.move (Operand.tmp 2), type := 3, pos := "theorem.go:150", after := #[], guard := none }, { dst := some 128, op := Op.binOp BinOp.add 3 (Operand.tmp 127) (Operand.const (Value.int IntKind.i64 1)) 3, type := 3, pos := "theorem.go:150", after := #[{ on := 9, ground := Ground.data }], guard := none }, { dst := some 129, op := Op.slice 22 (Operand.tmp 126) (some (Operand.tmp 128)) none none, type := 22, pos := "theorem.go:150", after := #[{ on := 8, ground := Ground.data }, { on := 10, ground := Ground.data }], guard := none }, { dst := some 130, op := Op.call { callee := Callee.builtin Builtin.append, args := #[Operand.tmp 125, Operand.tmp 129], argTypes := #[22, 22] }, type := 22, pos := "theorem.go:150", after := #[{ on := 7, ground := Ground.data }, { on := 11, ground := Ground.data }, { on := 7, ground := Ground.chain }], guard := none }, { dst := some 19, op := Op.assign (Operand.tmp 130), type := 22, pos := "theorem.go:150", after := #[{ on := 12, ground := Ground.data }, { on := 12, ground := Ground.chain }, { on := 0, ground := Ground.phase }, { on := 1, ground := Ground.phase }, { on := 2, ground := Ground.phase }, { on := 3, ground := Ground.phase }, { on := 4, ground := Ground.phase }, { on := 5, ground := Ground.phase }, { on := 6, ground := Ground.phase }, { on := 7, ground := Ground.phase }, { on := 8, ground := Ground.phase }, { on := 9, ground := Ground.phase }, { on := 10, ground := Ground.phase }, { on := 11, ground := Ground.phase }, { on := 12, ground := Ground.phase }], guard := none }] true) f H5 Q := by
  have HG15 := Lib.hid hg15
  have HG25 := Lib.hid hg25
  have HQ := Lib.hid hQ
  have he15 : elemIsR H5 b1 3 = true := elemIsR_row hg15
  have he25 : elemIsR H5 b2 3 = true := elemIsR_row hg25
  have hwk : IntKind.i64.wrap ((k : Int) + 1) = (k : Int) + 1 := by rw [IntKind.wrap_i64]; omega
  have hkle : k ≤ n := by omega
  have h0n : 0 < n := by omega
  have hk40 : k ≤ 40 := by omega
  have hb15a : b1 ≤ H5.n := by omega
  have hb25a : b2 ≤ H5.n := by omega
  have hb15b : b1 < H5.n + 1 := by omega
  have hb25b : b2 < H5.n + 1 := by omega
  have hb15c : b1 ≤ H5.n + 1 := by omega
  have hb25c : b2 ≤ H5.n + 1 := by omega
  clear hg15 hg25 hQ
  have HB1G : Hid (∀ G : AHeap, Ext H5 G → cellsAt G b1 0 (k * 1) = some ((L1.take k).map (Value.int .i64))) := Lib.hid (fun G hx => by
    rw [cellsAt_row ((hx.get _ hb15).trans HG15.out) (by simp; omega)]; simp)
  have HB2G : Hid (∀ G : AHeap, Ext H5 G → cellsAt G b2 (k + 1) ((n - (k + 1)) * 1) = some ((L2.drop (k + 1)).map (Value.int .i64))) := Lib.hid (fun G hx => by
    rw [cellsAt_row ((hx.get _ hb25).trans HG25.out) (by simp; omega)]
    rw [Nat.mul_one, List.map_drop, List.take_of_length_le (by simp; omega)])
  have HMI : Hid (∀ (G : AHeap) (b : Nat) (v : Value), Own G b v 3 1 ((L1.take k).map (Value.int .i64) ++ [Value.int .i64 day] ++ (L2.drop (k + 1)).map (Value.int .i64)) → Ints G v (mixL L1 L2 k day)) := Lib.hid (fun G b v h => ints_of_own (by rw [mixL, List.map_append, List.map_append]; exact h) (by rw [mixL]; simp; omega))
  have HT1 : Hid (((L1.take k).map (Value.int .i64)).length = k * 1) := Lib.hid (by simp; omega)
  have HT2 : Hid (((L2.drop (k + 1)).map (Value.int .i64)).length = (n - (k + 1)) * 1) := Lib.hid (by simp; omega)
  have HCS : Hid (∀ G : AHeap, Ext H5 G → b1 < G.n ∧ b2 < G.n ∧ elemIsR G b1 3 = true ∧ elemIsR G b2 3 = true) := Lib.hid (fun G hx => ⟨by have := hx.n; omega, by have := hx.n; omega, elemIsR_row ((hx.get _ hb15).trans HG15.out), elemIsR_row ((hx.get _ hb25).trans HG25.out)⟩)
  have HNIL : Hid (k + 1 = n → L2.drop (k + 1) = []) := Lib.hid (fun h => List.drop_eq_nil_of_le (by omega))
  clear hlen1 hlen2
  repeat' (first | (with_reducible first | refine CodeS.seq ?_ | refine CodeS.region_k fun K hK => ?_ | refine opsP_go fun K2 hK2 => ?_ | refine Post.then_normal ?_ | refine Post.then_ret ?_ | refine Post.then_exit ?_ | refine Post.block_normal ?_ | refine Post.block_ret ?_ | refine Post.block_here ?_ | refine Post.scope_normal ?_ | refine Post.scope_ret ?_ | refine Post.scope_exit ?_ | refine Post.round_ret ?_ | refine Post.round_exit ?_ | refine CodeS.block ?_ | refine CodeS.skip ?_ | refine CodeS.ret ?_ | refine CodeS.exit ?_ | refine CodeS.scope ?_ | refine CodeS.label ?_) | ((with_reducible refine opsP_nil (hK _ _ ?_)); clear hK K) | ((with_reducible refine opsP_gd ?hj ?hlt fun K1 K3 d hdst h1 h3 => ?_); (case hj => rfl); (case hlt => exact Nat.le_of_ble_eq_true rfl); cases hdst; go_simp) | ((with_reducible refine CodeS.cond_k fun K1 K3 h1 h3 => ?_); go_simp) | (refine h1 ?_; clear h1 h3 K1 K3) | (refine h3 ?_; clear h1 h3 K1 K3) | ((refine Either.mk (fun hb => h1 ?_) (fun hb => h3 ?_)) <;> (clear h1 h3 K1 K3; (try have hb2 := of_decide hb); (try have hb2 := of_not_decide_lt hb); (try have hb2 := of_not_decide_le hb); (try have hb2 := of_not_decide_ltN hb); (try have hb2 := of_not_decide_leN hb))) | ((refine Either.mk (fun hb => h3 ?_) (fun hb => h1 ?_)) <;> (clear h1 h3 K1 K3; (try have hb2 := of_decide hb); (try have hb2 := of_not_decide_lt hb); (try have hb2 := of_not_decide_le hb); (try have hb2 := of_not_decide_ltN hb); (try have hb2 := of_not_decide_leN hb))) | (refine fun (K2 : _ → AHeap → Prop) hK2 => ?_) | ((with_reducible refine Post.block_off ?hn ?_); (case hn => decide)) | ((with_reducible first | refine Post.body_k ?hd (fun K hK => ?_) | refine Post.body_kn ?hd (fun K hK => ?_)); (case hd => (go_simp; done)); go_simp; refine hK _ _ ?_; clear hK K) | ((with_reducible refine CodeS.tree_lit mixed rfl ?hok 20 fun K0 hK0 => ?_); (case hok => kernel_rfl)) | (with_reducible first | exact loudsP_nil | exact stableP_nil | refine treeP_lit ?_ | refine passP_nil ?_ | refine stableP_keep ?_) | ((with_reducible first | refine passP_skip ?h1 ?_ | refine loudsP_skip ?h1 ?_ | refine stepT_more ?h1 ?_); (case h1 => rfl)) | ((with_reducible refine stepT_done ?h1 ?_); (case h1 => rfl); refine hK0 _ _ ?_; clear hK0 K0) | ((with_reducible refine passP_loud ?h1 ?hg ?hl ?_); (case h1 => rfl); (case hg => rfl); (case hl => rfl)) | ((with_reducible refine passP_q ?h1 ?hl ?hlt fun K2 hK2 => ?_); (case h1 => rfl); (case hl => rfl); (case hlt => exact Nat.le_of_ble_eq_true rfl)) | ((with_reducible refine passP_g ?h1 ?hj ?hl ?hlt fun K1 K3 d hdst h1 h3 => ?_); (case h1 => rfl); (case hj => rfl); (case hl => rfl); (case hlt => exact Nat.le_of_ble_eq_true rfl); cases hdst; go_simp) | ((with_reducible refine passP_lg ?h1 ?hj ?hl ?hlt fun K1 K3 d hdst h1 h3 => ?_); (case h1 => rfl); (case hj => rfl); (case hl => rfl); (case hlt => exact Nat.le_of_ble_eq_true rfl); cases hdst; go_simp) | ((with_reducible refine loudsP_c ?h1 ?hlt (fun K2 hK2 => ?_) ?_); (case h1 => rfl); (case hlt => exact Nat.le_of_ble_eq_true rfl)) | ((with_reducible refine loudsP_cg ?h1 ?hlt ?hj ?hw (fun K2 hK2 => ?_) ?_); (case h1 => rfl); (case hlt => exact Nat.le_of_ble_eq_true rfl); (case hj => rfl); (case hw => (go_simp; done))) | ((with_reducible refine loudsP_v ?h1 ?hv ?hlt (fun K2 hK2 => ?_) ?_); (case h1 => rfl); (case hv => rfl); (case hlt => exact Nat.le_of_ble_eq_true rfl)) | ((with_reducible refine loudsP_u ?h1 ?hv (fun K2 hK2 => ?_) ?_); (case h1 => rfl); (case hv => rfl)) | ((with_reducible refine stableP_pre ?h1 ?_); (case h1 => (first | rfl | (dsimp only; decide +kernel)))) | ((with_reducible refine stableP_re ?h1 ?_); (case h1 => (go_simp; done))) | (go_simp; (try go_bits); (try first | ((refine lit0_v el22 sz3 ze3 rfl (by decide) ?_); go_simp) | ((refine one_v el22 sz3 ze3 rfl (by decide) (by decide) rfl rfl ?_); go_simp) | ((refine appendNil_v el22 sz3 srcCells_none ?_); go_simp) | ((refine appendNil_v el22 sz3 (by rw [HK0.out]; exact srcCells_none) ?_); go_simp) | ((refine append0_v (b := H5.n) el22 sz3 by3 ze3 rfl (by decide) (by rw [AHeap.get_push_old (by rw [AHeap.n_push]; omega)]; exact AHeap.get_push_new) (srcCells_some (b := H5.n + 1) (by decide) (by rw [cellsAt, get_at (by rw [AHeap.n_push])]; rfl)) (by decide) rfl rfl (by show 1 * 8 ≤ 1073741824; omega) fun H7 hn7 hg7 hk7 => ?_); (have HX7 : Hid (Ext H5 H7) := Lib.hid (grown_ext ((Ext.push _).push' _) (by omega) hn7 hk7)); (obtain ⟨p4H7, p5H7, p6H7, p7H7⟩ := HCS.out H7 HX7.out); (have HO7 : Hid (Own H7 H5.n (.slice (some ⟨_, 0, none⟩) 1 1) 3 1 ((L1.take k).map (Value.int .i64) ++ [Value.int .i64 day])) := Lib.hid (by rw [HK0.out]; exact own_new (by simp only [AHeap.n_push]; omega) (by omega) hg7 rfl (by decide))); clear hg7 hk7 hn7; go_simp) | ((refine append0_v (b := H5.n + 1) el22 sz3 by3 ze3 rfl (by decide) (get_at (by rw [AHeap.n_push])) (srcCells_some (b := H5.n) (by decide) (by rw [cellsAt, AHeap.get_push_old (by rw [AHeap.n_push]; omega), AHeap.get_push_new]; rfl)) (by decide) rfl rfl (by show 1 * 8 ≤ 1073741824; omega) fun H7 hn7 hg7 hk7 => ?_); (have HX7 : Hid (Ext H5 H7) := Lib.hid (grown_ext ((Ext.push _).push' _) (by omega) hn7 hk7)); (obtain ⟨p4H7, p5H7, p6H7, p7H7⟩ := HCS.out H7 HX7.out); (have HO7 : Hid (Own H7 H5.n (.slice (some ⟨_, 0, none⟩) 1 1) 3 1 ((L1.take k).map (Value.int .i64) ++ [Value.int .i64 day])) := Lib.hid (by rw [HK0.out]; exact own_new (by simp only [AHeap.n_push]; omega) (by omega) hg7 rfl (by decide))); clear hg7 hk7 hn7; go_simp)); (first | (refine hK2 _ _ ?_ ?_ <;> clear hK2 K2) | (refine hK2 _ _ ?_; clear hK2 K2))))
  all_goals
    refine HQ.out _ _ (by first | (go_simp; done) | (go_simp; go_num; done) | assumption) (by first | (go_simp; done) | (go_simp; go_num; done) | assumption) (by first | (go_simp; done) | (go_simp; go_num; done) | assumption) (by first | (go_simp; done) | (go_simp; go_num; done) | assumption) HX7.out ?_
    go_simp
    exact HMI.out _ _ _ (by rw [HNIL.out hke, List.map_nil, List.append_nil]; exact HO7.out)
end Go.Proofs.Try
namespace Go.Proofs.Try
open Go Go.Am Go.RowKit Go.Co
set_option maxRecDepth 100000
set_option maxHeartbeats 8000000 in
/-- The days that the law puts together: those ahead of a line, the day, those behind it. -/
theorem region19c {f : AF} {H5 : AHeap} {Q : Post} {b1 b2 n k : Nat} {day : Int} {L1 L2 : List Int} (f12 : f.tmp 12 = .slice (some ⟨b1, 0, none⟩) n n) (f14 : f.tmp 14 = .slice (some ⟨b2, 0, none⟩) n n) (f2 : f.tmp 2 = .int .i64 k) (f3 : f.tmp 3 = .int .i64 day) (hd : f.defers = []) (hlen1 : L1.length = n) (hlen2 : L2.length = n) (hkn : k < n) (hk0 : 0 < k) (hkl : k + 1 < n) (hn40 : n ≤ 40) (hg15 : H5.get b1 = .row (L1.map (Value.int .i64)) 3) (hg25 : H5.get b2 = .row (L2.map (Value.int .i64)) 3) (hb15 : b1 < H5.n) (hb25 : b2 < H5.n)
    (hQ : ∀ (f' : AF) (G : AHeap), f'.tmp 4 = f.tmp 4 → f'.tmp 5 = f.tmp 5 → f'.tmp 9 = f.tmp 9 → f'.defers = [] → Ext H5 G → Ints G (f'.tmp 19) (mixL L1 L2 k day) → Q .normal f' G) :
    CodeS Try.prog { fn := 11, sz := 147, round := none, loops := [] } (Code.region 19 #[{ dst := some 118, op := Op.buildSlice 22 0 #[], type := 22, pos := "theorem.go:150", after := #[], guard := none }, { dst := some 119, op := Op.move (Operand.tmp 12), type := 22, pos := "theorem.go:150", after := #[], guard := none }, { dst := some 120, op := Op.move (Operand.tmp 2), type := 3, pos := "theorem.go:150", after := #[], guard := none }, { dst := some 121, op := Op.slice 22 (Operand.tmp 119) none (some (Operand.tmp 120)) none, type := 22, pos := "theorem.go:150", after := #[{ on := 1, ground := Ground.data }, { on := 2, ground := Ground.data }], guard := none }, { dst := some 122, op := Op.call { callee := Callee.builtin Builtin.append, args := #[Operand.tmp 118, Operand.tmp 121], argTypes := #[22, 22] }, type := 22, pos := "theorem.go:150", after := #[{ on := 0, ground := Ground.data }, { on := 3, ground := Ground.data }], guard := none }, { dst := some 123, op := Op.move (Operand.tmp 3), type := 3, pos := "theorem.go:150", after := #[], guard := none }, { dst := some 124, op := Op.buildSlice 22 1 #[(0, Operand.tmp 123)], type := 22, pos := "theorem.go:150", after := #[{ on := 5, ground := Ground.data }], guard := none }, { dst := some 125, op := Op.call { callee := Callee.builtin Builtin.append, args := #[Operand.tmp 122, Operand.tmp 124], argTypes := #[22, 22] }, type := 22, pos := "theorem.go:150", after := #[{ on := 4, ground := Ground.data }, { on := 6, ground := Ground.data }, { on := 4, ground := Ground.chain }], guard := none }, { dst := some 126, op := Op.move (Operand.tmp 14), type := 22, pos := "theorem.go:150", after := #[], guard := none }, { dst := some 127, op := Op.move (Operand.tmp 2), type := 3, pos := "theorem.go:150", after := #[], guard := none }, { dst := some 128, op := Op.binOp BinOp.add 3 (Operand.tmp 127) (Operand.const (Value.int IntKind.i64 1)) 3, type := 3, pos := "theorem.go:150", after := #[{ on := 9, ground := Ground.data }], guard := none }, { dst := some 129, op := Op.slice 22 (Operand.tmp 126) (some (Operand.tmp 128)) none none, type := 22, pos := "theorem.go:150", after := #[{ on := 8, ground := Ground.data }, { on := 10, ground := Ground.data }], guard := none }, { dst := some 130, op := Op.call { callee := Callee.builtin Builtin.append, args := #[Operand.tmp 125, Operand.tmp 129], argTypes := #[22, 22] }, type := 22, pos := "theorem.go:150", after := #[{ on := 7, ground := Ground.data }, { on := 11, ground := Ground.data }, { on := 7, ground := Ground.chain }], guard := none }, { dst := some 19, op := Op.assign (Operand.tmp 130), type := 22, pos := "theorem.go:150", after := #[{ on := 12, ground := Ground.data }, { on := 12, ground := Ground.chain }, { on := 0, ground := Ground.phase }, { on := 1, ground := Ground.phase }, { on := 2, ground := Ground.phase }, { on := 3, ground := Ground.phase }, { on := 4, ground := Ground.phase }, { on := 5, ground := Ground.phase }, { on := 6, ground := Ground.phase }, { on := 7, ground := Ground.phase }, { on := 8, ground := Ground.phase }, { on := 9, ground := Ground.phase }, { on := 10, ground := Ground.phase }, { on := 11, ground := Ground.phase }, { on := 12, ground := Ground.phase }], guard := none }] true) f H5 Q := by
  have HG15 := Lib.hid hg15
  have HG25 := Lib.hid hg25
  have HQ := Lib.hid hQ
  have he15 : elemIsR H5 b1 3 = true := elemIsR_row hg15
  have he25 : elemIsR H5 b2 3 = true := elemIsR_row hg25
  have hwk : IntKind.i64.wrap ((k : Int) + 1) = (k : Int) + 1 := by rw [IntKind.wrap_i64]; omega
  have hkle : k ≤ n := by omega
  have h0n : 0 < n := by omega
  have hk40 : k ≤ 40 := by omega
  have hb15a : b1 ≤ H5.n := by omega
  have hb25a : b2 ≤ H5.n := by omega
  have hb15b : b1 < H5.n + 1 := by omega
  have hb25b : b2 < H5.n + 1 := by omega
  have hb15c : b1 ≤ H5.n + 1 := by omega
  have hb25c : b2 ≤ H5.n + 1 := by omega
  clear hg15 hg25 hQ
  have HB1G : Hid (∀ G : AHeap, Ext H5 G → cellsAt G b1 0 (k * 1) = some ((L1.take k).map (Value.int .i64))) := Lib.hid (fun G hx => by
    rw [cellsAt_row ((hx.get _ hb15).trans HG15.out) (by simp; omega)]; simp)
  have HB2G : Hid (∀ G : AHeap, Ext H5 G → cellsAt G b2 (k + 1) ((n - (k + 1)) * 1) = some ((L2.drop (k + 1)).map (Value.int .i64))) := Lib.hid (fun G hx => by
    rw [cellsAt_row ((hx.get _ hb25).trans HG25.out) (by simp; omega)]
    rw [Nat.mul_one, List.map_drop, List.take_of_length_le (by simp; omega)])
  have HMI : Hid (∀ (G : AHeap) (b : Nat) (v : Value), Own G b v 3 1 ((L1.take k).map (Value.int .i64) ++ [Value.int .i64 day] ++ (L2.drop (k + 1)).map (Value.int .i64)) → Ints G v (mixL L1 L2 k day)) := Lib.hid (fun G b v h => ints_of_own (by rw [mixL, List.map_append, List.map_append]; exact h) (by rw [mixL]; simp; omega))
  have HT1 : Hid (((L1.take k).map (Value.int .i64)).length = k * 1) := Lib.hid (by simp; omega)
  have HT2 : Hid (((L2.drop (k + 1)).map (Value.int .i64)).length = (n - (k + 1)) * 1) := Lib.hid (by simp; omega)
  have HCS : Hid (∀ G : AHeap, Ext H5 G → b1 < G.n ∧ b2 < G.n ∧ elemIsR G b1 3 = true ∧ elemIsR G b2 3 = true) := Lib.hid (fun G hx => ⟨by have := hx.n; omega, by have := hx.n; omega, elemIsR_row ((hx.get _ hb15).trans HG15.out), elemIsR_row ((hx.get _ hb25).trans HG25.out)⟩)
  have HNIL : Hid (k + 1 = n → L2.drop (k + 1) = []) := Lib.hid (fun h => List.drop_eq_nil_of_le (by omega))
  clear hlen1 hlen2
  repeat' (first | (with_reducible first | refine CodeS.seq ?_ | refine CodeS.region_k fun K hK => ?_ | refine opsP_go fun K2 hK2 => ?_ | refine Post.then_normal ?_ | refine Post.then_ret ?_ | refine Post.then_exit ?_ | refine Post.block_normal ?_ | refine Post.block_ret ?_ | refine Post.block_here ?_ | refine Post.scope_normal ?_ | refine Post.scope_ret ?_ | refine Post.scope_exit ?_ | refine Post.round_ret ?_ | refine Post.round_exit ?_ | refine CodeS.block ?_ | refine CodeS.skip ?_ | refine CodeS.ret ?_ | refine CodeS.exit ?_ | refine CodeS.scope ?_ | refine CodeS.label ?_) | ((with_reducible refine opsP_nil (hK _ _ ?_)); clear hK K) | ((with_reducible refine opsP_gd ?hj ?hlt fun K1 K3 d hdst h1 h3 => ?_); (case hj => rfl); (case hlt => exact Nat.le_of_ble_eq_true rfl); cases hdst; go_simp) | ((with_reducible refine CodeS.cond_k fun K1 K3 h1 h3 => ?_); go_simp) | (refine h1 ?_; clear h1 h3 K1 K3) | (refine h3 ?_; clear h1 h3 K1 K3) | ((refine Either.mk (fun hb => h1 ?_) (fun hb => h3 ?_)) <;> (clear h1 h3 K1 K3; (try have hb2 := of_decide hb); (try have hb2 := of_not_decide_lt hb); (try have hb2 := of_not_decide_le hb); (try have hb2 := of_not_decide_ltN hb); (try have hb2 := of_not_decide_leN hb))) | ((refine Either.mk (fun hb => h3 ?_) (fun hb => h1 ?_)) <;> (clear h1 h3 K1 K3; (try have hb2 := of_decide hb); (try have hb2 := of_not_decide_lt hb); (try have hb2 := of_not_decide_le hb); (try have hb2 := of_not_decide_ltN hb); (try have hb2 := of_not_decide_leN hb))) | (refine fun (K2 : _ → AHeap → Prop) hK2 => ?_) | ((with_reducible refine Post.block_off ?hn ?_); (case hn => decide)) | ((with_reducible first | refine Post.body_k ?hd (fun K hK => ?_) | refine Post.body_kn ?hd (fun K hK => ?_)); (case hd => (go_simp; done)); go_simp; refine hK _ _ ?_; clear hK K) | ((with_reducible refine CodeS.tree_lit mixed rfl ?hok 20 fun K0 hK0 => ?_); (case hok => kernel_rfl)) | (with_reducible first | exact loudsP_nil | exact stableP_nil | refine treeP_lit ?_ | refine passP_nil ?_ | refine stableP_keep ?_) | ((with_reducible first | refine passP_skip ?h1 ?_ | refine loudsP_skip ?h1 ?_ | refine stepT_more ?h1 ?_); (case h1 => rfl)) | ((with_reducible refine stepT_done ?h1 ?_); (case h1 => rfl); refine hK0 _ _ ?_; clear hK0 K0) | ((with_reducible refine passP_loud ?h1 ?hg ?hl ?_); (case h1 => rfl); (case hg => rfl); (case hl => rfl)) | ((with_reducible refine passP_q ?h1 ?hl ?hlt fun K2 hK2 => ?_); (case h1 => rfl); (case hl => rfl); (case hlt => exact Nat.le_of_ble_eq_true rfl)) | ((with_reducible refine passP_g ?h1 ?hj ?hl ?hlt fun K1 K3 d hdst h1 h3 => ?_); (case h1 => rfl); (case hj => rfl); (case hl => rfl); (case hlt => exact Nat.le_of_ble_eq_true rfl); cases hdst; go_simp) | ((with_reducible refine passP_lg ?h1 ?hj ?hl ?hlt fun K1 K3 d hdst h1 h3 => ?_); (case h1 => rfl); (case hj => rfl); (case hl => rfl); (case hlt => exact Nat.le_of_ble_eq_true rfl); cases hdst; go_simp) | ((with_reducible refine loudsP_c ?h1 ?hlt (fun K2 hK2 => ?_) ?_); (case h1 => rfl); (case hlt => exact Nat.le_of_ble_eq_true rfl)) | ((with_reducible refine loudsP_cg ?h1 ?hlt ?hj ?hw (fun K2 hK2 => ?_) ?_); (case h1 => rfl); (case hlt => exact Nat.le_of_ble_eq_true rfl); (case hj => rfl); (case hw => (go_simp; done))) | ((with_reducible refine loudsP_v ?h1 ?hv ?hlt (fun K2 hK2 => ?_) ?_); (case h1 => rfl); (case hv => rfl); (case hlt => exact Nat.le_of_ble_eq_true rfl)) | ((with_reducible refine loudsP_u ?h1 ?hv (fun K2 hK2 => ?_) ?_); (case h1 => rfl); (case hv => rfl)) | ((with_reducible refine stableP_pre ?h1 ?_); (case h1 => (first | rfl | (dsimp only; decide +kernel)))) | ((with_reducible refine stableP_re ?h1 ?_); (case h1 => (go_simp; done))) | (go_simp; (try go_bits); (try first | ((refine lit0_v el22 sz3 ze3 rfl (by decide) ?_); go_simp) | ((refine one_v el22 sz3 ze3 rfl (by decide) (by decide) rfl rfl ?_); go_simp) | ((refine append0_v (b := H5.n) el22 sz3 by3 ze3 rfl (by decide) (by first | exact AHeap.get_push_new | (rw [AHeap.get_push_old (by rw [AHeap.n_push]; omega)]; exact AHeap.get_push_new)) (srcCells_some hk0 (HB1G.out _ (by first | exact Ext.push _ | exact (Ext.push _).push' _))) hk0 HT1.out oneV_list_int (by rw [HT1.out]; show k * 1 * 8 ≤ 1073741824; omega) fun H6 hn6 hg6 hk6 => ?_); (have HX6 : Hid (Ext H5 H6) := Lib.hid (grown_ext (by first | exact Ext.push _ | exact (Ext.push _).push' _) (by omega) hn6 hk6)); (obtain ⟨p4H6, p5H6, p6H6, p7H6⟩ := HCS.out H6 HX6.out); (have HO6 : Hid (Own H6 H5.n (.slice (some ⟨_, 0, none⟩) k k) 3 1 ((L1.take k).map (Value.int .i64))) := Lib.hid (own_new (by simp only [AHeap.n_push]; omega) (by omega) hg6 HT1.out hk0)); (try have hd6 : H6.get (H5.n + 1) = .row [.int .i64 day] 3 := (hk6 (H5.n + 1) (by simp only [AHeap.n_push]; omega) (by omega)).trans (get_at (by rw [AHeap.n_push]))); clear hg6 hk6 hn6; go_simp) | ((refine append0_v (b := H5.n + 1) el22 sz3 by3 ze3 rfl (by decide) (get_at (by rw [AHeap.n_push])) (srcCells_some hk0 (HB1G.out _ (by first | exact Ext.push _ | exact (Ext.push _).push' _))) hk0 HT1.out oneV_list_int (by rw [HT1.out]; show k * 1 * 8 ≤ 1073741824; omega) fun H6 hn6 hg6 hk6 => ?_); (have HX6 : Hid (Ext H5 H6) := Lib.hid (grown_ext (by first | exact Ext.push _ | exact (Ext.push _).push' _) (by omega) hn6 hk6)); (obtain ⟨p4H6, p5H6, p6H6, p7H6⟩ := HCS.out H6 HX6.out); (have HO6 : Hid (Own H6 H5.n (.slice (some ⟨_, 0, none⟩) k k) 3 1 ((L1.take k).map (Value.int .i64))) := Lib.hid (own_new (by simp only [AHeap.n_push]; omega) (by omega) hg6 HT1.out hk0)); (have hd6 : H6.get H5.n = .row [.int .i64 day] 3 := (hk6 H5.n (by simp only [AHeap.n_push]; omega) (by omega)).trans ((AHeap.get_push_old (by rw [AHeap.n_push]; omega)).trans AHeap.get_push_new)); clear hg6 hk6 hn6; go_simp) | ((refine append_v el22 sz3 by3 ze3 rfl (by decide) (HO6.out.ext (Ext.push _)) (srcCells_new rfl) (by decide) rfl (by rw [List.all_append, oneV_list_int]; rfl) (by rw [HT1.out]; show (k * 1 + 1) * 8 ≤ 1073741824; omega) (by have := HX6.out.n; (try simp only [AHeap.n_push]); omega) fun v7 H7 ho7 hg7 => ?_); (have HO7 := Lib.hid ho7); (have HX7 : Hid (Ext H5 H7) := Lib.hid (Grown.ext hg7 (HO6.out.ext (Ext.push _)) (Nat.le_refl _) (HX6.out.push' _))); (obtain ⟨p4H7, p5H7, p6H7, p7H7⟩ := HCS.out H7 HX7.out); (obtain ⟨va7, vn7, rfl⟩ := own_slice ho7); (have hle7 := hg7.1); clear ho7 hg7; go_simp) | ((refine append_v el22 sz3 by3 ze3 rfl (by decide) HO6.out (srcCells_some (by decide) (by rw [cellsAt, hd6]; rfl)) (by decide) rfl (by rw [List.all_append, oneV_list_int]; rfl) (by rw [HT1.out]; show (k * 1 + 1) * 8 ≤ 1073741824; omega) (by have := HX6.out.n; (try simp only [AHeap.n_push]); omega) fun v7 H7 ho7 hg7 => ?_); (have HO7 := Lib.hid ho7); (have HX7 : Hid (Ext H5 H7) := Lib.hid (Grown.ext hg7 HO6.out (Nat.le_refl _) HX6.out)); (obtain ⟨p4H7, p5H7, p6H7, p7H7⟩ := HCS.out H7 HX7.out); (obtain ⟨va7, vn7, rfl⟩ := own_slice ho7); (have hle7 := hg7.1); clear ho7 hg7; go_simp) | ((refine append_v el22 sz3 by3 ze3 rfl (by decide) HO7.out (srcCells_some (by omega) (HB2G.out _ HX7.out)) (by omega) HT2.out (by rw [List.all_append, List.all_append, oneV_list_int, oneV_list_int]; rfl) (by rw [List.length_append, HT1.out, HT2.out]; show (k * 1 + 1 + (n - (k + 1)) * 1) * 8 ≤ 1073741824; omega) (by first | exact hle7 | exact HX7.out.n) fun v8 H8 ho8 hg8 => ?_); (have HM8 := Lib.hid (HMI.out _ _ _ ho8)); (have HX8 : Hid (Ext H5 H8) := Lib.hid (Grown.ext hg8 HO7.out (by first | exact Nat.le_refl _ | (have := HX6.out.n; (try simp only [AHeap.n_push]); omega)) HX7.out)); (obtain ⟨p4H8, p5H8, p6H8, p7H8⟩ := HCS.out H8 HX8.out); clear ho8 hg8; go_simp)); (first | (refine hK2 _ _ ?_ ?_ <;> clear hK2 K2) | (refine hK2 _ _ ?_; clear hK2 K2))))
  all_goals
    refine HQ.out _ _ (by first | (go_simp; done) | (go_simp; go_num; done) | assumption) (by first | (go_simp; done) | (go_simp; go_num; done) | assumption) (by first | (go_simp; done) | (go_simp; go_num; done) | assumption) (by first | (go_simp; done) | (go_simp; go_num; done) | assumption) HX8.out ?_
    go_simp
    exact HM8.out
end Go.Proofs.Try
namespace Go.Proofs.Try
open Go Go.Am Go.RowKit Go.Co
set_option maxRecDepth 100000
set_option maxHeartbeats 8000000 in
/-- The days that the law puts together: those ahead of a line, the day, those behind it. -/
theorem region19d {f : AF} {H5 : AHeap} {Q : Post} {b1 b2 n k : Nat} {day : Int} {L1 L2 : List Int} (f12 : f.tmp 12 = .slice (some ⟨b1, 0, none⟩) n n) (f14 : f.tmp 14 = .slice (some ⟨b2, 0, none⟩) n n) (f2 : f.tmp 2 = .int .i64 k) (f3 : f.tmp 3 = .int .i64 day) (hd : f.defers = []) (hlen1 : L1.length = n) (hlen2 : L2.length = n) (hkn : k < n) (hk0 : 0 < k) (hke : k + 1 = n) (hn40 : n ≤ 40) (hg15 : H5.get b1 = .row (L1.map (Value.int .i64)) 3) (hg25 : H5.get b2 = .row (L2.map (Value.int .i64)) 3) (hb15 : b1 < H5.n) (hb25 : b2 < H5.n)
    (hQ : ∀ (f' : AF) (G : AHeap), f'.tmp 4 = f.tmp 4 → f'.tmp 5 = f.tmp 5 → f'.tmp 9 = f.tmp 9 → f'.defers = [] → Ext H5 G → Ints G (f'.tmp 19) (mixL L1 L2 k day) → Q .normal f' G) :
    CodeS Try.prog { fn := 11, sz := 147, round := none, loops := [] } (Code.region 19 #[{ dst := some 118, op := Op.buildSlice 22 0 #[], type := 22, pos := "theorem.go:150", after := #[], guard := none }, { dst := some 119, op := Op.move (Operand.tmp 12), type := 22, pos := "theorem.go:150", after := #[], guard := none }, { dst := some 120, op := Op.move (Operand.tmp 2), type := 3, pos := "theorem.go:150", after := #[], guard := none }, { dst := some 121, op := Op.slice 22 (Operand.tmp 119) none (some (Operand.tmp 120)) none, type := 22, pos := "theorem.go:150", after := #[{ on := 1, ground := Ground.data }, { on := 2, ground := Ground.data }], guard := none }, { dst := some 122, op := Op.call { callee := Callee.builtin Builtin.append, args := #[Operand.tmp 118, Operand.tmp 121], argTypes := #[22, 22] }, type := 22, pos := "theorem.go:150", after := #[{ on := 0, ground := Ground.data }, { on := 3, ground := Ground.data }], guard := none }, { dst := some 123, op := Op.move (Operand.tmp 3), type := 3, pos := "theorem.go:150", after := #[], guard := none }, { dst := some 124, op := Op.buildSlice 22 1 #[(0, Operand.tmp 123)], type := 22, pos := "theorem.go:150", after := #[{ on := 5, ground := Ground.data }], guard := none }, { dst := some 125, op := Op.call { callee := Callee.builtin Builtin.append, args := #[Operand.tmp 122, Operand.tmp 124], argTypes := #[22, 22] }, type := 22, pos := "theorem.go:150", after := #[{ on := 4, ground := Ground.data }, { on := 6, ground := Ground.data }, { on := 4, ground := Ground.chain }], guard := none }, { dst := some 126, op := Op.move (Operand.tmp 14), type := 22, pos := "theorem.go:150", after := #[], guard := none }, { dst := some 127, op := Op.move (Operand.tmp 2), type := 3, pos := "theorem.go:150", after := #[], guard := none }, { dst := some 128, op := Op.binOp BinOp.add 3 (Operand.tmp 127) (Operand.const (Value.int IntKind.i64 1)) 3, type := 3, pos := "theorem.go:150", after := #[{ on := 9, ground := Ground.data }], guard := none }, { dst := some 129, op := Op.slice 22 (Operand.tmp 126) (some (Operand.tmp 128)) none none, type := 22, pos := "theorem.go:150", after := #[{ on := 8, ground := Ground.data }, { on := 10, ground := Ground.data }], guard := none }, { dst := some 130, op := Op.call { callee := Callee.builtin Builtin.append, args := #[Operand.tmp 125, Operand.tmp 129], argTypes := #[22, 22] }, type := 22, pos := "theorem.go:150", after := #[{ on := 7, ground := Ground.data }, { on := 11, ground := Ground.data }, { on := 7, ground := Ground.chain }], guard := none }, { dst := some 19, op := Op.assign (Operand.tmp 130), type := 22, pos := "theorem.go:150", after := #[{ on := 12, ground := Ground.data }, { on := 12, ground := Ground.chain }, { on := 0, ground := Ground.phase }, { on := 1, ground := Ground.phase }, { on := 2, ground := Ground.phase }, { on := 3, ground := Ground.phase }, { on := 4, ground := Ground.phase }, { on := 5, ground := Ground.phase }, { on := 6, ground := Ground.phase }, { on := 7, ground := Ground.phase }, { on := 8, ground := Ground.phase }, { on := 9, ground := Ground.phase }, { on := 10, ground := Ground.phase }, { on := 11, ground := Ground.phase }, { on := 12, ground := Ground.phase }], guard := none }] true) f H5 Q := by
  have HG15 := Lib.hid hg15
  have HG25 := Lib.hid hg25
  have HQ := Lib.hid hQ
  have he15 : elemIsR H5 b1 3 = true := elemIsR_row hg15
  have he25 : elemIsR H5 b2 3 = true := elemIsR_row hg25
  have hwk : IntKind.i64.wrap ((k : Int) + 1) = (k : Int) + 1 := by rw [IntKind.wrap_i64]; omega
  have hkle : k ≤ n := by omega
  have h0n : 0 < n := by omega
  have hk40 : k ≤ 40 := by omega
  have hb15a : b1 ≤ H5.n := by omega
  have hb25a : b2 ≤ H5.n := by omega
  have hb15b : b1 < H5.n + 1 := by omega
  have hb25b : b2 < H5.n + 1 := by omega
  have hb15c : b1 ≤ H5.n + 1 := by omega
  have hb25c : b2 ≤ H5.n + 1 := by omega
  clear hg15 hg25 hQ
  have HB1G : Hid (∀ G : AHeap, Ext H5 G → cellsAt G b1 0 (k * 1) = some ((L1.take k).map (Value.int .i64))) := Lib.hid (fun G hx => by
    rw [cellsAt_row ((hx.get _ hb15).trans HG15.out) (by simp; omega)]; simp)
  have HB2G : Hid (∀ G : AHeap, Ext H5 G → cellsAt G b2 (k + 1) ((n - (k + 1)) * 1) = some ((L2.drop (k + 1)).map (Value.int .i64))) := Lib.hid (fun G hx => by
    rw [cellsAt_row ((hx.get _ hb25).trans HG25.out) (by simp; omega)]
    rw [Nat.mul_one, List.map_drop, List.take_of_length_le (by simp; omega)])
  have HMI : Hid (∀ (G : AHeap) (b : Nat) (v : Value), Own G b v 3 1 ((L1.take k).map (Value.int .i64) ++ [Value.int .i64 day] ++ (L2.drop (k + 1)).map (Value.int .i64)) → Ints G v (mixL L1 L2 k day)) := Lib.hid (fun G b v h => ints_of_own (by rw [mixL, List.map_append, List.map_append]; exact h) (by rw [mixL]; simp; omega))
  have HT1 : Hid (((L1.take k).map (Value.int .i64)).length = k * 1) := Lib.hid (by simp; omega)
  have HT2 : Hid (((L2.drop (k + 1)).map (Value.int .i64)).length = (n - (k + 1)) * 1) := Lib.hid (by simp; omega)
  have HCS : Hid (∀ G : AHeap, Ext H5 G → b1 < G.n ∧ b2 < G.n ∧ elemIsR G b1 3 = true ∧ elemIsR G b2 3 = true) := Lib.hid (fun G hx => ⟨by have := hx.n; omega, by have := hx.n; omega, elemIsR_row ((hx.get _ hb15).trans HG15.out), elemIsR_row ((hx.get _ hb25).trans HG25.out)⟩)
  have HNIL : Hid (k + 1 = n → L2.drop (k + 1) = []) := Lib.hid (fun h => List.drop_eq_nil_of_le (by omega))
  clear hlen1 hlen2
  repeat' (first | (with_reducible first | refine CodeS.seq ?_ | refine CodeS.region_k fun K hK => ?_ | refine opsP_go fun K2 hK2 => ?_ | refine Post.then_normal ?_ | refine Post.then_ret ?_ | refine Post.then_exit ?_ | refine Post.block_normal ?_ | refine Post.block_ret ?_ | refine Post.block_here ?_ | refine Post.scope_normal ?_ | refine Post.scope_ret ?_ | refine Post.scope_exit ?_ | refine Post.round_ret ?_ | refine Post.round_exit ?_ | refine CodeS.block ?_ | refine CodeS.skip ?_ | refine CodeS.ret ?_ | refine CodeS.exit ?_ | refine CodeS.scope ?_ | refine CodeS.label ?_) | ((with_reducible refine opsP_nil (hK _ _ ?_)); clear hK K) | ((with_reducible refine opsP_gd ?hj ?hlt fun K1 K3 d hdst h1 h3 => ?_); (case hj => rfl); (case hlt => exact Nat.le_of_ble_eq_true rfl); cases hdst; go_simp) | ((with_reducible refine CodeS.cond_k fun K1 K3 h1 h3 => ?_); go_simp) | (refine h1 ?_; clear h1 h3 K1 K3) | (refine h3 ?_; clear h1 h3 K1 K3) | ((refine Either.mk (fun hb => h1 ?_) (fun hb => h3 ?_)) <;> (clear h1 h3 K1 K3; (try have hb2 := of_decide hb); (try have hb2 := of_not_decide_lt hb); (try have hb2 := of_not_decide_le hb); (try have hb2 := of_not_decide_ltN hb); (try have hb2 := of_not_decide_leN hb))) | ((refine Either.mk (fun hb => h3 ?_) (fun hb => h1 ?_)) <;> (clear h1 h3 K1 K3; (try have hb2 := of_decide hb); (try have hb2 := of_not_decide_lt hb); (try have hb2 := of_not_decide_le hb); (try have hb2 := of_not_decide_ltN hb); (try have hb2 := of_not_decide_leN hb))) | (refine fun (K2 : _ → AHeap → Prop) hK2 => ?_) | ((with_reducible refine Post.block_off ?hn ?_); (case hn => decide)) | ((with_reducible first | refine Post.body_k ?hd (fun K hK => ?_) | refine Post.body_kn ?hd (fun K hK => ?_)); (case hd => (go_simp; done)); go_simp; refine hK _ _ ?_; clear hK K) | ((with_reducible refine CodeS.tree_lit mixed rfl ?hok 20 fun K0 hK0 => ?_); (case hok => kernel_rfl)) | (with_reducible first | exact loudsP_nil | exact stableP_nil | refine treeP_lit ?_ | refine passP_nil ?_ | refine stableP_keep ?_) | ((with_reducible first | refine passP_skip ?h1 ?_ | refine loudsP_skip ?h1 ?_ | refine stepT_more ?h1 ?_); (case h1 => rfl)) | ((with_reducible refine stepT_done ?h1 ?_); (case h1 => rfl); refine hK0 _ _ ?_; clear hK0 K0) | ((with_reducible refine passP_loud ?h1 ?hg ?hl ?_); (case h1 => rfl); (case hg => rfl); (case hl => rfl)) | ((with_reducible refine passP_q ?h1 ?hl ?hlt fun K2 hK2 => ?_); (case h1 => rfl); (case hl => rfl); (case hlt => exact Nat.le_of_ble_eq_true rfl)) | ((with_reducible refine passP_g ?h1 ?hj ?hl ?hlt fun K1 K3 d hdst h1 h3 => ?_); (case h1 => rfl); (case hj => rfl); (case hl => rfl); (case hlt => exact Nat.le_of_ble_eq_true rfl); cases hdst; go_simp) | ((with_reducible refine passP_lg ?h1 ?hj ?hl ?hlt fun K1 K3 d hdst h1 h3 => ?_); (case h1 => rfl); (case hj => rfl); (case hl => rfl); (case hlt => exact Nat.le_of_ble_eq_true rfl); cases hdst; go_simp) | ((with_reducible refine loudsP_c ?h1 ?hlt (fun K2 hK2 => ?_) ?_); (case h1 => rfl); (case hlt => exact Nat.le_of_ble_eq_true rfl)) | ((with_reducible refine loudsP_cg ?h1 ?hlt ?hj ?hw (fun K2 hK2 => ?_) ?_); (case h1 => rfl); (case hlt => exact Nat.le_of_ble_eq_true rfl); (case hj => rfl); (case hw => (go_simp; done))) | ((with_reducible refine loudsP_v ?h1 ?hv ?hlt (fun K2 hK2 => ?_) ?_); (case h1 => rfl); (case hv => rfl); (case hlt => exact Nat.le_of_ble_eq_true rfl)) | ((with_reducible refine loudsP_u ?h1 ?hv (fun K2 hK2 => ?_) ?_); (case h1 => rfl); (case hv => rfl)) | ((with_reducible refine stableP_pre ?h1 ?_); (case h1 => (first | rfl | (dsimp only; decide +kernel)))) | ((with_reducible refine stableP_re ?h1 ?_); (case h1 => (go_simp; done))) | (go_simp; (try go_bits); (try first | ((refine lit0_v el22 sz3 ze3 rfl (by decide) ?_); go_simp) | ((refine one_v el22 sz3 ze3 rfl (by decide) (by decide) rfl rfl ?_); go_simp) | ((refine appendNil_v el22 sz3 srcCells_none ?_); go_simp) | ((refine append0_v (b := H5.n) el22 sz3 by3 ze3 rfl (by decide) (by first | exact AHeap.get_push_new | (rw [AHeap.get_push_old (by rw [AHeap.n_push]; omega)]; exact AHeap.get_push_new)) (srcCells_some hk0 (HB1G.out _ (by first | exact Ext.push _ | exact (Ext.push _).push' _))) hk0 HT1.out oneV_list_int (by rw [HT1.out]; show k * 1 * 8 ≤ 1073741824; omega) fun H6 hn6 hg6 hk6 => ?_); (have HX6 : Hid (Ext H5 H6) := Lib.hid (grown_ext (by first | exact Ext.push _ | exact (Ext.push _).push' _) (by omega) hn6 hk6)); (obtain ⟨p4H6, p5H6, p6H6, p7H6⟩ := HCS.out H6 HX6.out); (have HO6 : Hid (Own H6 H5.n (.slice (some ⟨_, 0, none⟩) k k) 3 1 ((L1.take k).map (Value.int .i64))) := Lib.hid (own_new (by simp only [AHeap.n_push]; omega) (by omega) hg6 HT1.out hk0)); (try have hd6 : H6.get (H5.n + 1) = .row [.int .i64 day] 3 := (hk6 (H5.n + 1) (by simp only [AHeap.n_push]; omega) (by omega)).trans (get_at (by rw [AHeap.n_push]))); clear hg6 hk6 hn6; go_simp) | ((refine append0_v (b := H5.n + 1) el22 sz3 by3 ze3 rfl (by decide) (get_at (by rw [AHeap.n_push])) (srcCells_some hk0 (HB1G.out _ (by first | exact Ext.push _ | exact (Ext.push _).push' _))) hk0 HT1.out oneV_list_int (by rw [HT1.out]; show k * 1 * 8 ≤ 1073741824; omega) fun H6 hn6 hg6 hk6 => ?_); (have HX6 : Hid (Ext H5 H6) := Lib.hid (grown_ext (by first | exact Ext.push _ | exact (Ext.push _).push' _) (by omega) hn6 hk6)); (obtain ⟨p4H6, p5H6, p6H6, p7H6⟩ := HCS.out H6 HX6.out); (have HO6 : Hid (Own H6 H5.n (.slice (some ⟨_, 0, none⟩) k k) 3 1 ((L1.take k).map (Value.int .i64))) := Lib.hid (own_new (by simp only [AHeap.n_push]; omega) (by omega) hg6 HT1.out hk0)); (have hd6 : H6.get H5.n = .row [.int .i64 day] 3 := (hk6 H5.n (by simp only [AHeap.n_push]; omega) (by omega)).trans ((AHeap.get_push_old (by rw [AHeap.n_push]; omega)).trans AHeap.get_push_new)); clear hg6 hk6 hn6; go_simp) | ((refine append_v el22 sz3 by3 ze3 rfl (by decide) (HO6.out.ext (Ext.push _)) (srcCells_new rfl) (by decide) rfl (by rw [List.all_append, oneV_list_int]; rfl) (by rw [HT1.out]; show (k * 1 + 1) * 8 ≤ 1073741824; omega) (by have := HX6.out.n; (try simp only [AHeap.n_push]); omega) fun v7 H7 ho7 hg7 => ?_); (have HO7 := Lib.hid ho7); (have HX7 : Hid (Ext H5 H7) := Lib.hid (Grown.ext hg7 (HO6.out.ext (Ext.push _)) (Nat.le_refl _) (HX6.out.push' _))); (obtain ⟨p4H7, p5H7, p6H7, p7H7⟩ := HCS.out H7 HX7.out); (obtain ⟨va7, vn7, rfl⟩ := own_slice ho7); clear ho7 hg7; go_simp) | ((refine append_v el22 sz3 by3 ze3 rfl (by decide) HO6.out (srcCells_some (by decide) (by rw [cellsAt, hd6]; rfl)) (by decide) rfl (by rw [List.all_append, oneV_list_int]; rfl) (by rw [HT1.out]; show (k * 1 + 1) * 8 ≤ 1073741824; omega) (by have := HX6.out.n; (try simp only [AHeap.n_push]); omega) fun v7 H7 ho7 hg7 => ?_); (have HO7 := Lib.hid ho7); (have HX7 : Hid (Ext H5 H7) := Lib.hid (Grown.ext hg7 HO6.out (Nat.le_refl _) HX6.out)); (obtain ⟨p4H7, p5H7, p6H7, p7H7⟩ := HCS.out H7 HX7.out); (obtain ⟨va7, vn7, rfl⟩ := own_slice ho7); clear ho7 hg7; go_simp)); (first | (refine hK2 _ _ ?_ ?_ <;> clear hK2 K2) | (refine hK2 _ _ ?_; clear hK2 K2))))
  all_goals
    refine HQ.out _ _ (by first | (go_simp; done) | (go_simp; go_num; done) | assumption) (by first | (go_simp; done) | (go_simp; go_num; done) | assumption) (by first | (go_simp; done) | (go_simp; go_num; done) | assumption) (by first | (go_simp; done) | (go_simp; go_num; done) | assumption) HX7.out ?_
    go_simp
    exact HMI.out _ _ _ (by rw [HNIL.out hke, List.map_nil, List.append_nil]; exact HO7.out)
end Go.Proofs.Try
namespace Go.Proofs.Try
open Go Go.Am Go.RowKit Go.Co
set_option maxRecDepth 100000

/-! The law StateLines. -/
theorem region19 {f : AF} {H5 : AHeap} {Q : Post} {b1 b2 n k : Nat} {day : Int} {L1 L2 : List Int} (f12 : f.tmp 12 = .slice (some ⟨b1, 0, none⟩) n n) (f14 : f.tmp 14 = .slice (some ⟨b2, 0, none⟩) n n) (f2 : f.tmp 2 = .int .i64 k) (f3 : f.tmp 3 = .int .i64 day) (hd : f.defers = []) (hlen1 : L1.length = n) (hlen2 : L2.length = n) (hkn : k < n) (hn40 : n ≤ 40) (hg15 : H5.get b1 = .row (L1.map (Value.int .i64)) 3) (hg25 : H5.get b2 = .row (L2.map (Value.int .i64)) 3) (hb15 : b1 < H5.n) (hb25 : b2 < H5.n)
    (hQ : ∀ (f' : AF) (G : AHeap), f'.tmp 4 = f.tmp 4 → f'.tmp 5 = f.tmp 5 → f'.tmp 9 = f.tmp 9 → f'.defers = [] → Ext H5 G → Ints G (f'.tmp 19) (mixL L1 L2 k day) → Q .normal f' G) :
    CodeS Try.prog { fn := 11, sz := 147, round := none, loops := [] } (Code.region 19 #[{ dst := some 118, op := Op.buildSlice 22 0 #[], type := 22, pos := "theorem.go:150", after := #[], guard := none }, { dst := some 119, op := Op.move (Operand.tmp 12), type := 22, pos := "theorem.go:150", after := #[], guard := none }, { dst := some 120, op := Op.move (Operand.tmp 2), type := 3, pos := "theorem.go:150", after := #[], guard := none }, { dst := some 121, op := Op.slice 22 (Operand.tmp 119) none (some (Operand.tmp 120)) none, type := 22, pos := "theorem.go:150", after := #[{ on := 1, ground := Ground.data }, { on := 2, ground := Ground.data }], guard := none }, { dst := some 122, op := Op.call { callee := Callee.builtin Builtin.append, args := #[Operand.tmp 118, Operand.tmp 121], argTypes := #[22, 22] }, type := 22, pos := "theorem.go:150", after := #[{ on := 0, ground := Ground.data }, { on := 3, ground := Ground.data }], guard := none }, { dst := some 123, op := Op.move (Operand.tmp 3), type := 3, pos := "theorem.go:150", after := #[], guard := none }, { dst := some 124, op := Op.buildSlice 22 1 #[(0, Operand.tmp 123)], type := 22, pos := "theorem.go:150", after := #[{ on := 5, ground := Ground.data }], guard := none }, { dst := some 125, op := Op.call { callee := Callee.builtin Builtin.append, args := #[Operand.tmp 122, Operand.tmp 124], argTypes := #[22, 22] }, type := 22, pos := "theorem.go:150", after := #[{ on := 4, ground := Ground.data }, { on := 6, ground := Ground.data }, { on := 4, ground := Ground.chain }], guard := none }, { dst := some 126, op := Op.move (Operand.tmp 14), type := 22, pos := "theorem.go:150", after := #[], guard := none }, { dst := some 127, op := Op.move (Operand.tmp 2), type := 3, pos := "theorem.go:150", after := #[], guard := none }, { dst := some 128, op := Op.binOp BinOp.add 3 (Operand.tmp 127) (Operand.const (Value.int IntKind.i64 1)) 3, type := 3, pos := "theorem.go:150", after := #[{ on := 9, ground := Ground.data }], guard := none }, { dst := some 129, op := Op.slice 22 (Operand.tmp 126) (some (Operand.tmp 128)) none none, type := 22, pos := "theorem.go:150", after := #[{ on := 8, ground := Ground.data }, { on := 10, ground := Ground.data }], guard := none }, { dst := some 130, op := Op.call { callee := Callee.builtin Builtin.append, args := #[Operand.tmp 125, Operand.tmp 129], argTypes := #[22, 22] }, type := 22, pos := "theorem.go:150", after := #[{ on := 7, ground := Ground.data }, { on := 11, ground := Ground.data }, { on := 7, ground := Ground.chain }], guard := none }, { dst := some 19, op := Op.assign (Operand.tmp 130), type := 22, pos := "theorem.go:150", after := #[{ on := 12, ground := Ground.data }, { on := 12, ground := Ground.chain }, { on := 0, ground := Ground.phase }, { on := 1, ground := Ground.phase }, { on := 2, ground := Ground.phase }, { on := 3, ground := Ground.phase }, { on := 4, ground := Ground.phase }, { on := 5, ground := Ground.phase }, { on := 6, ground := Ground.phase }, { on := 7, ground := Ground.phase }, { on := 8, ground := Ground.phase }, { on := 9, ground := Ground.phase }, { on := 10, ground := Ground.phase }, { on := 11, ground := Ground.phase }, { on := 12, ground := Ground.phase }], guard := none }] true) f H5 Q := by
  rcases Nat.eq_zero_or_pos k with h | h <;> rcases Nat.lt_or_eq_of_le (show k + 1 ≤ n from hkn) with g | g
  · exact region19a f12 f14 f2 f3 hd hlen1 hlen2 hkn (Lib.hid h) g hn40 hg15 hg25 hb15 hb25 hQ
  · exact region19b f12 f14 f2 f3 hd hlen1 hlen2 hkn (Lib.hid h) g hn40 hg15 hg25 hb15 hb25 hQ
  · exact region19c f12 f14 f2 f3 hd hlen1 hlen2 hkn h g hn40 hg15 hg25 hb15 hb25 hQ
  · exact region19d f12 f14 f2 f3 hd hlen1 hlen2 hkn h g hn40 hg15 hg25 hb15 hb25 hQ

set_option maxHeartbeats 8000000 in
theorem law11 {H : AHeap} {sv cv : Value} {s : Sheet} {c : Copy} {n day : Int} (hv : SheetV H sv s) (hc : CopyV H cv c) : CallS Try.prog [] 11 [sv, cv, .int .i64 n, .int .i64 day] H fun r _ => r = .bool true := by
  have HV := Lib.hid hv
  have HC := Lib.hid hc
  obtain ⟨wv, av, rfl, hw, ha⟩ := hv
  obtain ⟨hwl, wa, wc, rfl⟩ := hw.slice
  obtain ⟨hal, aa, ac, rfl⟩ := ha.slice
  obtain ⟨cv, rfl, hcw⟩ := hc
  have HCW := Lib.hid hcw
  obtain ⟨hcl, ca, cc, rfl⟩ := hcw.slice
  clear hw ha hcw
  have HPO := Lib.hid (fun (loops : List (Nat × LInfo)) (H' : AHeap) (hx : Ext H H') => possible_f (loops := loops) (n := n) (HV.out.ext hx) (HC.out.ext hx))
  have HFF := Lib.hid (fun (loops : List (Nat × LInfo)) (H' : AHeap) (hx : Ext H H') => first_o (loops := loops) (HV.out.ext hx) (HC.out.ext hx))
  have HFL := Lib.hid (fun (loops : List (Nat × LInfo)) (H' : AHeap) (hx : Ext H H') => last_o (loops := loops) (HV.out.ext hx) (HC.out.ext hx))
  refine CallS.enter' Try.func11 rfl Try.ntmps11 (by simp) fun f hd hf => ?_
  have f0 := hf 0
  have f1 := hf 1
  have f2 := hf 2
  have f3 := hf 3
  simp at f0 f1 f2 f3
  clear hf
  have HX1 : Hid (Ext H ((H.push (.row [Value.slice wa s.words.length wc, Value.slice aa s.alts.length ac] 25)).push (.row [Value.slice ca c.words.length cc, .int .i64 c.beg, .int .i64 c.fin, .int .i64 c.per] 27))) := Lib.hid (((Ext.refl _).push' _).push' _)
  by_cases hep : errPoss s c n = 0
  · obtain ⟨k, w, y1, y2, rfl, OK⟩ := line_ok (day := day) hep
    have hkn := OK.lt
    have HOK := Lib.hid OK
    have HEX : Hid (errExt s c = 0) := Lib.hid OK.ext
    have HWH := Lib.hid (fun (loops : List (Nat × LInfo)) (H' : AHeap) (hx : Ext H H') => when_e (loops := loops) (line := (k : Int)) (word := w) (HV.out.ext hx))
    have HCN : Hid (insideL (possL s c k) day = (insideL (whenL s k w) day && decide (y1 ≤ day) && decide (day ≤ y2))) := Lib.hid OK.can
    have HMX : Hid (insideL (whenL s k w) day = true → y1 ≤ day → day ≤ y2 → fitsV s c (mixL (firstL s c) (lastL s c) k day) = .tuple #[.int .i64 0, .bool true, .int .i64 0]) := Lib.hid OK.mix
    have HL1 : Hid ((firstL s c).length = c.words.length) := Lib.hid OK.len1
    have HL2 : Hid ((lastL s c).length = c.words.length) := Lib.hid OK.len2
    have HY1 : Hid ((firstL s c).getD k 0 = y1) := Lib.hid OK.fst
    have HY2 : Hid ((lastL s c).getD k 0 = y2) := Lib.hid OK.lst
    have HWE : Hid (whenErr s k w = 0) := Lib.hid OK.when0
    have hn40 := OK.n40
    have HCWK : Hid (∃ b o sp, ca = some ⟨b, o, sp⟩ ∧ b < H.n ∧ cellAt H b (o + k) = some (.int .i64 w)) := Lib.hid (by
      obtain ⟨b, o, sp, h1, h2, h3⟩ := HCW.out.at_ hkn
      refine ⟨b, o, sp, h1, h2, ?_⟩
      have h4 := OK.word
      rw [List.getD_eq_getElem?_getD, List.getElem?_eq_getElem hkn] at h4
      rw [h3]; simp only [Option.getD_some] at h4; rw [h4])
    obtain ⟨cb, co, csp, rfl, hcb, hck⟩ := HCWK.out
    clear OK HOK HCWK
    generalize possL s c k = PL at HPO HCN
    generalize whenL s k w = WL at HWH HCN HMX
    generalize firstL s c = L1 at HFF HMX HL1 HY1
    generalize lastL s c = L2 at HFL HMX HL2 HY2
    rw [hep] at HPO
    rw [HEX.out] at HFF HFL
    rw [HWE.out] at HWH
    clear hep
    have h0n : 0 < c.words.length := by omega
    have hkle : k ≤ c.words.length := by omega
    have hwk : IntKind.i64.wrap ((k : Int) + 1) = (k : Int) + 1 := by rw [IntKind.wrap_i64]; omega
    repeat' (first | ((with_reducible refine gen19 (fun f G => G = H5 ∧ f.tmp 12 = .slice (some ⟨b1, 0, none⟩) c.words.length c.words.length ∧ f.tmp 14 = .slice (some ⟨b2, 0, none⟩) c.words.length c.words.length ∧ f.tmp 2 = .int .i64 k ∧ f.tmp 3 = .int .i64 day ∧ f.tmp 4 = .pointer (some ⟨H.n, 0, none⟩) ∧ f.tmp 5 = .pointer (some ⟨H.n + 1, 0, none⟩) ∧ f.tmp 9 = .bool true ∧ f.defers = []) ?stage2 ?stage1)) | (with_reducible first | refine CodeS.seq ?_ | refine CodeS.region_k fun K hK => ?_ | refine opsP_go fun K2 hK2 => ?_ | refine Post.then_normal ?_ | refine Post.then_ret ?_ | refine Post.then_exit ?_ | refine Post.block_normal ?_ | refine Post.block_ret ?_ | refine Post.block_here ?_ | refine Post.scope_normal ?_ | refine Post.scope_ret ?_ | refine Post.scope_exit ?_ | refine Post.round_ret ?_ | refine Post.round_exit ?_ | refine CodeS.block ?_ | refine CodeS.skip ?_ | refine CodeS.ret ?_ | refine CodeS.exit ?_ | refine CodeS.scope ?_ | refine CodeS.label ?_) | ((with_reducible refine opsP_nil (hK _ _ ?_)); clear hK K) | ((with_reducible refine opsP_gd ?hj ?hlt fun K1 K3 d hdst h1 h3 => ?_); (case hj => rfl); (case hlt => exact Nat.le_of_ble_eq_true rfl); cases hdst; go_simp) | ((with_reducible refine CodeS.cond_k fun K1 K3 h1 h3 => ?_); go_simp) | (refine h1 ?_; clear h1 h3 K1 K3) | (refine h3 ?_; clear h1 h3 K1 K3) | ((refine Either.mk (fun hb => h1 ?_) (fun hb => h3 ?_)) <;> (clear h1 h3 K1 K3; (try have hb2 := of_decide hb); (try have hb2 := of_not_decide_lt hb); (try have hb2 := of_not_decide_le hb); (try have hb2 := of_not_decide_ltN hb); (try have hb2 := of_not_decide_leN hb))) | ((refine Either.mk (fun hb => h3 ?_) (fun hb => h1 ?_)) <;> (clear h1 h3 K1 K3; (try have hb2 := of_decide hb); (try have hb2 := of_not_decide_lt hb); (try have hb2 := of_not_decide_le hb); (try have hb2 := of_not_decide_ltN hb); (try have hb2 := of_not_decide_leN hb))) | (refine fun (K2 : _ → AHeap → Prop) hK2 => ?_) | ((with_reducible refine Post.block_off ?hn ?_); (case hn => decide)) | ((with_reducible first | refine Post.body_k ?hd (fun K hK => ?_) | refine Post.body_kn ?hd (fun K hK => ?_)); (case hd => (go_simp; done)); go_simp; refine hK _ _ ?_; clear hK K) | ((with_reducible refine CodeS.tree_lit mixed rfl ?hok 20 fun K0 hK0 => ?_); (case hok => kernel_rfl)) | (with_reducible first | exact loudsP_nil | exact stableP_nil | refine treeP_lit ?_ | refine passP_nil ?_ | refine stableP_keep ?_) | ((with_reducible first | refine passP_skip ?h1 ?_ | refine loudsP_skip ?h1 ?_ | refine stepT_more ?h1 ?_); (case h1 => rfl)) | ((with_reducible refine stepT_done ?h1 ?_); (case h1 => rfl); refine hK0 _ _ ?_; clear hK0 K0) | ((with_reducible refine passP_loud ?h1 ?hg ?hl ?_); (case h1 => rfl); (case hg => rfl); (case hl => rfl)) | ((with_reducible refine passP_q ?h1 ?hl ?hlt fun K2 hK2 => ?_); (case h1 => rfl); (case hl => rfl); (case hlt => exact Nat.le_of_ble_eq_true rfl)) | ((with_reducible refine passP_g ?h1 ?hj ?hl ?hlt fun K1 K3 d hdst h1 h3 => ?_); (case h1 => rfl); (case hj => rfl); (case hl => rfl); (case hlt => exact Nat.le_of_ble_eq_true rfl); cases hdst; go_simp) | ((with_reducible refine passP_lg ?h1 ?hj ?hl ?hlt fun K1 K3 d hdst h1 h3 => ?_); (case h1 => rfl); (case hj => rfl); (case hl => rfl); (case hlt => exact Nat.le_of_ble_eq_true rfl); cases hdst; go_simp) | ((with_reducible refine loudsP_c ?h1 ?hlt (fun K2 hK2 => ?_) ?_); (case h1 => rfl); (case hlt => exact Nat.le_of_ble_eq_true rfl)) | ((with_reducible refine loudsP_cg ?h1 ?hlt ?hj ?hw (fun K2 hK2 => ?_) ?_); (case h1 => rfl); (case hlt => exact Nat.le_of_ble_eq_true rfl); (case hj => rfl); (case hw => (go_simp; done))) | ((with_reducible refine loudsP_v ?h1 ?hv ?hlt (fun K2 hK2 => ?_) ?_); (case h1 => rfl); (case hv => rfl); (case hlt => exact Nat.le_of_ble_eq_true rfl)) | ((with_reducible refine loudsP_u ?h1 ?hv (fun K2 hK2 => ?_) ?_); (case h1 => rfl); (case hv => rfl)) | ((with_reducible refine stableP_pre ?h1 ?_); (case h1 => (first | rfl | (dsimp only; decide +kernel)))) | ((with_reducible refine stableP_re ?h1 ?_); (case h1 => (go_simp; done))) | (go_simp; (try go_bits); (try first  | ((with_reducible show CallS _ _ _ _ _ _); refine CallS.mono head_s ?_; rintro _ _ ⟨rfl, h9⟩; rw [h9]; clear h9; go_simp) | ((with_reducible show CallS _ _ _ _ _ _); refine CallS.mono (few_s (s := s) (HV.out.ext HX1.out)) ?_; rintro _ _ ⟨rfl, h9⟩; rw [h9]; clear h9; go_simp) | ((with_reducible show CallS _ _ _ _ _ _); refine CallS.mono (brief_s (c := c) (HC.out.ext HX1.out)) ?_; rintro _ _ ⟨rfl, h9⟩; rw [h9]; clear h9; go_simp) | ((with_reducible show CallS _ _ _ _ _ _); refine CallS.mono (HPO.out _ _ HX1.out) ?_; rintro _ H2 ⟨⟨pv, rfl, hi⟩, hx⟩; (have HPS := Lib.hid hi); (obtain ⟨-, pa, pc, rfl⟩ := hi.slice); (have HX2 := Lib.hid (HX1.out.trans hx)); (have hcs1 : cellsAt H2 H.n 0 2 = some [Value.slice wa s.words.length wc, Value.slice aa s.alts.length ac] := by rw [hx.cellsAt (by simp only [AHeap.n_push]; omega), cellsAt_old (by rw [AHeap.n_push]; omega), cellsAt_new]; rfl); (have hcs2 : cellsAt H2 (H.n + 1) 0 4 = some [Value.slice (some ⟨cb, co, csp⟩) c.words.length cc, .int .i64 c.beg, .int .i64 c.fin, .int .i64 c.per] := by rw [hx.cellsAt (by simp only [AHeap.n_push]; omega), ← AHeap.n_push H, cellsAt_new]; rfl); (have hcc2 : cellAt H2 (H.n + 1) 0 = some (Value.slice (some ⟨cb, co, csp⟩) c.words.length cc) := by rw [hx.cellAt (by simp only [AHeap.n_push]; omega), ← AHeap.n_push H, cellAt_new]; rfl); (have hn2 : H.n + 2 ≤ H2.n := by have := hx.n; simp only [AHeap.n_push] at this; omega); clear hi hx; go_simp) | ((with_reducible show CallS _ _ _ _ _ _); refine CallS.mono (HFF.out _ _ HX2.out) ?_; rintro _ H3 ⟨⟨fv, rfl, hi⟩, hx⟩; (obtain ⟨b1, rfl, hb1, hb1', hg1⟩ := own_pos hi HL1.out h0n); (have HX3 := Lib.hid (HX2.out.trans hx)); (have HP3 := Lib.hid (HPS.out.ext hx)); (have HG1 := Lib.hid hg1); (have hcs13 : cellsAt H3 H.n 0 2 = some [Value.slice wa s.words.length wc, Value.slice aa s.alts.length ac] := by rw [hx.cellsAt (by omega)]; exact hcs1); (have hcs23 : cellsAt H3 (H.n + 1) 0 4 = some [Value.slice (some ⟨cb, co, csp⟩) c.words.length cc, .int .i64 c.beg, .int .i64 c.fin, .int .i64 c.per] := by rw [hx.cellsAt (by omega)]; exact hcs2); (have hcc3 : cellAt H3 (H.n + 1) 0 = some (Value.slice (some ⟨cb, co, csp⟩) c.words.length cc) := by rw [hx.cellAt (by omega)]; exact hcc2); (have hn3 := hx.n); clear hi hx hg1; go_simp) | ((with_reducible show CallS _ _ _ _ _ _); refine CallS.mono (HFL.out _ _ HX3.out) ?_; rintro _ H4 ⟨⟨lv, rfl, hi⟩, hx⟩; (obtain ⟨b2, rfl, hb2, hb2', hg2⟩ := own_pos hi HL2.out h0n); (have HX4 := Lib.hid (HX3.out.trans hx)); (have HP4 := Lib.hid (HP3.out.ext hx)); (have HG2 := Lib.hid hg2); (have HG14 : Hid (H4.get b1 = .row (L1.map (Value.int .i64)) 3) := Lib.hid ((hx.get _ hb1').trans HG1.out)); (have hcs14 : cellsAt H4 H.n 0 2 = some [Value.slice wa s.words.length wc, Value.slice aa s.alts.length ac] := by rw [hx.cellsAt (by omega)]; exact hcs13); (have hcs24 : cellsAt H4 (H.n + 1) 0 4 = some [Value.slice (some ⟨cb, co, csp⟩) c.words.length cc, .int .i64 c.beg, .int .i64 c.fin, .int .i64 c.per] := by rw [hx.cellsAt (by omega)]; exact hcs23); (have hcc4 : cellAt H4 (H.n + 1) 0 = some (Value.slice (some ⟨cb, co, csp⟩) c.words.length cc) := by rw [hx.cellAt (by omega)]; exact hcc3); (have hck4 : cellAt H4 cb (co + k) = some (.int .i64 w) := (HX4.out.cellAt hcb).trans hck); (have hn4 := hx.n); clear hi hx hg2; go_simp) | ((with_reducible show CallS _ _ _ _ _ _); refine CallS.mono (HWH.out _ _ HX4.out) ?_; rintro _ H5 ⟨wv, rfl, hi, hx⟩; (have HW5 := Lib.hid hi); (obtain ⟨-, xa, xc, rfl⟩ := hi.slice); (have HX5 := Lib.hid (HX4.out.trans hx)); (have HP5 := Lib.hid (HP4.out.ext hx)); (have HG15 : Hid (H5.get b1 = .row (L1.map (Value.int .i64)) 3) := Lib.hid ((hx.get _ (by omega)).trans HG14.out)); (have HG25 : Hid (H5.get b2 = .row (L2.map (Value.int .i64)) 3) := Lib.hid ((hx.get _ (by omega)).trans HG2.out)); (have hcs15 : cellsAt H5 H.n 0 2 = some [Value.slice wa s.words.length wc, Value.slice aa s.alts.length ac] := by rw [hx.cellsAt (by omega)]; exact hcs14); (have hcs25 : cellsAt H5 (H.n + 1) 0 4 = some [Value.slice (some ⟨cb, co, csp⟩) c.words.length cc, .int .i64 c.beg, .int .i64 c.fin, .int .i64 c.per] := by rw [hx.cellsAt (by omega)]; exact hcs24); (have hy1 : cellAt H5 b1 k = some (.int .i64 y1) := by rw [cellAt_row HG15.out (by rw [HL1.out]; exact hkn), HY1.out]); (have hy2 : cellAt H5 b2 k = some (.int .i64 y2) := by rw [cellAt_row HG25.out (by rw [HL2.out]; exact hkn), HY2.out]); (have hn5 := hx.n); (have he15 : elemIsR H5 b1 3 = true := elemIsR_row HG15.out); (have he25 : elemIsR H5 b2 3 = true := elemIsR_row HG25.out); (have hb15 : b1 < H5.n := by omega); (have hb25 : b2 < H5.n := by omega); clear hi hx; go_simp) | ((with_reducible show CallS _ _ _ _ _ _); refine CallS.mono (inside_s HW5.out) ?_; rintro _ _ ⟨rfl, h9⟩; rw [h9]; clear h9; go_simp) | ((with_reducible show CallS _ _ _ _ _ _); refine CallS.mono (inside_s HP5.out) ?_; rintro _ _ ⟨rfl, h9⟩; rw [h9, HCN.out]; clear h9; go_simp) | ((refine neqB_k (by first | (go_simp; done) | (go_simp; rfl)) (by first | (go_simp; done) | (go_simp; rfl)) ?_); go_simp) | ((refine lit0_v el22 sz3 ze3 rfl (by decide) ?_); go_simp)); (first | (refine hK2 _ _ ?_ ?_ <;> clear hK2 K2) | (refine hK2 _ _ ?_; clear hK2 K2))))
    all_goals first | rfl | (exfalso; omega) | (refine ⟨rfl, (by first | (go_simp; done) | (go_simp; go_num; done) | assumption), (by first | (go_simp; done) | (go_simp; go_num; done) | assumption), (by first | (go_simp; done) | (go_simp; go_num; done) | assumption), (by first | (go_simp; done) | (go_simp; go_num; done) | assumption), (by first | (go_simp; done) | (go_simp; go_num; done) | assumption), (by first | (go_simp; done) | (go_simp; go_num; done) | assumption), (by first | (go_simp; done) | (go_simp; go_num; done) | assumption), (by first | (go_simp; done) | (go_simp; go_num; done) | assumption)⟩; done) | skip
    clear f0 f1 f2 f3 hd
    intro f G hP
    obtain ⟨hG, f12, f14, f2, f3, f4, f5, f9, hd⟩ := hP
    rw [hG]
    clear hG G
    have hfit := HMX.out ‹insideL WL day = true› hb2 (by simpa using hb)
    have HFIT := Lib.hid hfit
    have HCS : Hid (∀ G : AHeap, Ext H5 G → cellsAt G H.n 0 2 = some [Value.slice wa s.words.length wc, Value.slice aa s.alts.length ac] ∧ cellsAt G (H.n + 1) 0 4 = some [Value.slice (some ⟨cb, co, csp⟩) c.words.length cc, .int .i64 c.beg, .int .i64 c.fin, .int .i64 c.per] ∧ H.n < G.n ∧ H.n + 1 < G.n) := Lib.hid (fun G hx => ⟨by rw [hx.cellsAt (by omega)]; exact hcs15, by rw [hx.cellsAt (by omega)]; exact hcs25, by have := hx.n; omega, by have := hx.n; omega⟩)
    refine region19 f12 f14 f2 f3 hd HL1.out HL2.out hkn hn40 HG15.out HG25.out hb15 hb25 fun f' G g4 g5 g9 gd hx hi => ?_
    rw [f4] at g4
    rw [f5] at g5
    rw [f9] at g9
    obtain ⟨z1, z2, z3, z4⟩ := HCS.out G hx
    have HXG := Lib.hid (HX5.out.trans hx)
    have HIG := Lib.hid hi
    generalize hv19 : f'.tmp 19 = v at HIG
    obtain ⟨-, ga, gc, rfl⟩ := HIG.out.slice
    clear f12 f14 f2 f3 f4 f5 f9 hd hi hx hfit
    repeat' (first | (with_reducible first | refine CodeS.seq ?_ | refine CodeS.region_k fun K hK => ?_ | refine opsP_go fun K2 hK2 => ?_ | refine Post.then_normal ?_ | refine Post.then_ret ?_ | refine Post.then_exit ?_ | refine Post.block_normal ?_ | refine Post.block_ret ?_ | refine Post.block_here ?_ | refine Post.scope_normal ?_ | refine Post.scope_ret ?_ | refine Post.scope_exit ?_ | refine Post.round_ret ?_ | refine Post.round_exit ?_ | refine CodeS.block ?_ | refine CodeS.skip ?_ | refine CodeS.ret ?_ | refine CodeS.exit ?_ | refine CodeS.scope ?_ | refine CodeS.label ?_) | ((with_reducible refine opsP_nil (hK _ _ ?_)); clear hK K) | ((with_reducible refine opsP_gd ?hj ?hlt fun K1 K3 d hdst h1 h3 => ?_); (case hj => rfl); (case hlt => exact Nat.le_of_ble_eq_true rfl); cases hdst; go_simp) | ((with_reducible refine CodeS.cond_k fun K1 K3 h1 h3 => ?_); go_simp) | (refine h1 ?_; clear h1 h3 K1 K3) | (refine h3 ?_; clear h1 h3 K1 K3) | ((refine Either.mk (fun hb => h1 ?_) (fun hb => h3 ?_)) <;> (clear h1 h3 K1 K3; (try have hb2 := of_decide hb); (try have hb2 := of_not_decide_lt hb); (try have hb2 := of_not_decide_le hb); (try have hb2 := of_not_decide_ltN hb); (try have hb2 := of_not_decide_leN hb))) | ((refine Either.mk (fun hb => h3 ?_) (fun hb => h1 ?_)) <;> (clear h1 h3 K1 K3; (try have hb2 := of_decide hb); (try have hb2 := of_not_decide_lt hb); (try have hb2 := of_not_decide_le hb); (try have hb2 := of_not_decide_ltN hb); (try have hb2 := of_not_decide_leN hb))) | (refine fun (K2 : _ → AHeap → Prop) hK2 => ?_) | ((with_reducible refine Post.block_off ?hn ?_); (case hn => decide)) | ((with_reducible first | refine Post.body_k ?hd (fun K hK => ?_) | refine Post.body_kn ?hd (fun K hK => ?_)); (case hd => (go_simp; done)); go_simp; refine hK _ _ ?_; clear hK K) | ((with_reducible refine CodeS.tree_lit mixed rfl ?hok 20 fun K0 hK0 => ?_); (case hok => kernel_rfl)) | (with_reducible first | exact loudsP_nil | exact stableP_nil | refine treeP_lit ?_ | refine passP_nil ?_ | refine stableP_keep ?_) | ((with_reducible first | refine passP_skip ?h1 ?_ | refine loudsP_skip ?h1 ?_ | refine stepT_more ?h1 ?_); (case h1 => rfl)) | ((with_reducible refine stepT_done ?h1 ?_); (case h1 => rfl); refine hK0 _ _ ?_; clear hK0 K0) | ((with_reducible refine passP_loud ?h1 ?hg ?hl ?_); (case h1 => rfl); (case hg => rfl); (case hl => rfl)) | ((with_reducible refine passP_q ?h1 ?hl ?hlt fun K2 hK2 => ?_); (case h1 => rfl); (case hl => rfl); (case hlt => exact Nat.le_of_ble_eq_true rfl)) | ((with_reducible refine passP_g ?h1 ?hj ?hl ?hlt fun K1 K3 d hdst h1 h3 => ?_); (case h1 => rfl); (case hj => rfl); (case hl => rfl); (case hlt => exact Nat.le_of_ble_eq_true rfl); cases hdst; go_simp) | ((with_reducible refine passP_lg ?h1 ?hj ?hl ?hlt fun K1 K3 d hdst h1 h3 => ?_); (case h1 => rfl); (case hj => rfl); (case hl => rfl); (case hlt => exact Nat.le_of_ble_eq_true rfl); cases hdst; go_simp) | ((with_reducible refine loudsP_c ?h1 ?hlt (fun K2 hK2 => ?_) ?_); (case h1 => rfl); (case hlt => exact Nat.le_of_ble_eq_true rfl)) | ((with_reducible refine loudsP_cg ?h1 ?hlt ?hj ?hw (fun K2 hK2 => ?_) ?_); (case h1 => rfl); (case hlt => exact Nat.le_of_ble_eq_true rfl); (case hj => rfl); (case hw => (go_simp; done))) | ((with_reducible refine loudsP_v ?h1 ?hv ?hlt (fun K2 hK2 => ?_) ?_); (case h1 => rfl); (case hv => rfl); (case hlt => exact Nat.le_of_ble_eq_true rfl)) | ((with_reducible refine loudsP_u ?h1 ?hv (fun K2 hK2 => ?_) ?_); (case h1 => rfl); (case hv => rfl)) | ((with_reducible refine stableP_pre ?h1 ?_); (case h1 => (first | rfl | (dsimp only; decide +kernel)))) | ((with_reducible refine stableP_re ?h1 ?_); (case h1 => (go_simp; done))) | (go_simp; (try go_bits); (try first | ((with_reducible show CallS _ _ _ _ _ _); refine CallS.mono (fits_s (s := s) (c := c) (HV.out.ext HXG.out) (HC.out.ext HXG.out) HIG.out) ?_; rintro _ _ ⟨rfl, h9⟩; rw [h9, HFIT.out]; clear h9; go_simp)); (first | (refine hK2 _ _ ?_ ?_ <;> clear hK2 K2) | (refine hK2 _ _ ?_; clear hK2 K2))))
    all_goals rfl
  · repeat' (first | (with_reducible first | refine CodeS.seq ?_ | refine CodeS.region_k fun K hK => ?_ | refine opsP_go fun K2 hK2 => ?_ | refine Post.then_normal ?_ | refine Post.then_ret ?_ | refine Post.then_exit ?_ | refine Post.block_normal ?_ | refine Post.block_ret ?_ | refine Post.block_here ?_ | refine Post.scope_normal ?_ | refine Post.scope_ret ?_ | refine Post.scope_exit ?_ | refine Post.round_ret ?_ | refine Post.round_exit ?_ | refine CodeS.block ?_ | refine CodeS.skip ?_ | refine CodeS.ret ?_ | refine CodeS.exit ?_ | refine CodeS.scope ?_ | refine CodeS.label ?_) | ((with_reducible refine opsP_nil (hK _ _ ?_)); clear hK K) | ((with_reducible refine opsP_gd ?hj ?hlt fun K1 K3 d hdst h1 h3 => ?_); (case hj => rfl); (case hlt => exact Nat.le_of_ble_eq_true rfl); cases hdst; go_simp) | ((with_reducible refine CodeS.cond_k fun K1 K3 h1 h3 => ?_); go_simp) | (refine h1 ?_; clear h1 h3 K1 K3) | (refine h3 ?_; clear h1 h3 K1 K3) | ((refine Either.mk (fun hb => h1 ?_) (fun hb => h3 ?_)) <;> (clear h1 h3 K1 K3; (try have hb2 := of_decide hb); (try have hb2 := of_not_decide_lt hb); (try have hb2 := of_not_decide_le hb); (try have hb2 := of_not_decide_ltN hb); (try have hb2 := of_not_decide_leN hb))) | ((refine Either.mk (fun hb => h3 ?_) (fun hb => h1 ?_)) <;> (clear h1 h3 K1 K3; (try have hb2 := of_decide hb); (try have hb2 := of_not_decide_lt hb); (try have hb2 := of_not_decide_le hb); (try have hb2 := of_not_decide_ltN hb); (try have hb2 := of_not_decide_leN hb))) | (refine fun (K2 : _ → AHeap → Prop) hK2 => ?_) | ((with_reducible refine Post.block_off ?hn ?_); (case hn => decide)) | ((with_reducible first | refine Post.body_k ?hd (fun K hK => ?_) | refine Post.body_kn ?hd (fun K hK => ?_)); (case hd => (go_simp; done)); go_simp; refine hK _ _ ?_; clear hK K) | ((with_reducible refine CodeS.tree_lit mixed rfl ?hok 20 fun K0 hK0 => ?_); (case hok => kernel_rfl)) | (with_reducible first | exact loudsP_nil | exact stableP_nil | refine treeP_lit ?_ | refine passP_nil ?_ | refine stableP_keep ?_) | ((with_reducible first | refine passP_skip ?h1 ?_ | refine loudsP_skip ?h1 ?_ | refine stepT_more ?h1 ?_); (case h1 => rfl)) | ((with_reducible refine stepT_done ?h1 ?_); (case h1 => rfl); refine hK0 _ _ ?_; clear hK0 K0) | ((with_reducible refine passP_loud ?h1 ?hg ?hl ?_); (case h1 => rfl); (case hg => rfl); (case hl => rfl)) | ((with_reducible refine passP_q ?h1 ?hl ?hlt fun K2 hK2 => ?_); (case h1 => rfl); (case hl => rfl); (case hlt => exact Nat.le_of_ble_eq_true rfl)) | ((with_reducible refine passP_g ?h1 ?hj ?hl ?hlt fun K1 K3 d hdst h1 h3 => ?_); (case h1 => rfl); (case hj => rfl); (case hl => rfl); (case hlt => exact Nat.le_of_ble_eq_true rfl); cases hdst; go_simp) | ((with_reducible refine passP_lg ?h1 ?hj ?hl ?hlt fun K1 K3 d hdst h1 h3 => ?_); (case h1 => rfl); (case hj => rfl); (case hl => rfl); (case hlt => exact Nat.le_of_ble_eq_true rfl); cases hdst; go_simp) | ((with_reducible refine loudsP_c ?h1 ?hlt (fun K2 hK2 => ?_) ?_); (case h1 => rfl); (case hlt => exact Nat.le_of_ble_eq_true rfl)) | ((with_reducible refine loudsP_cg ?h1 ?hlt ?hj ?hw (fun K2 hK2 => ?_) ?_); (case h1 => rfl); (case hlt => exact Nat.le_of_ble_eq_true rfl); (case hj => rfl); (case hw => (go_simp; done))) | ((with_reducible refine loudsP_v ?h1 ?hv ?hlt (fun K2 hK2 => ?_) ?_); (case h1 => rfl); (case hv => rfl); (case hlt => exact Nat.le_of_ble_eq_true rfl)) | ((with_reducible refine loudsP_u ?h1 ?hv (fun K2 hK2 => ?_) ?_); (case h1 => rfl); (case hv => rfl)) | ((with_reducible refine stableP_pre ?h1 ?_); (case h1 => (first | rfl | (dsimp only; decide +kernel)))) | ((with_reducible refine stableP_re ?h1 ?_); (case h1 => (go_simp; done))) | (go_simp; (try go_bits); (try first | ((with_reducible show CallS _ _ _ _ _ _); refine CallS.mono head_s ?_; rintro _ _ ⟨rfl, h9⟩; rw [h9]; clear h9; go_simp) | ((with_reducible show CallS _ _ _ _ _ _); refine CallS.mono (few_s (s := s) (HV.out.ext HX1.out)) ?_; rintro _ _ ⟨rfl, h9⟩; rw [h9]; clear h9; go_simp) | ((with_reducible show CallS _ _ _ _ _ _); refine CallS.mono (brief_s (c := c) (HC.out.ext HX1.out)) ?_; rintro _ _ ⟨rfl, h9⟩; rw [h9]; clear h9; go_simp) | ((with_reducible show CallS _ _ _ _ _ _); refine CallS.mono (HPO.out _ _ HX1.out) ?_; rintro _ H2 ⟨⟨pv, rfl, hi⟩, hx⟩; (obtain ⟨-, pa, pc, rfl⟩ := hi.slice); clear hi hx; go_simp)); (first | (refine hK2 _ _ ?_ ?_ <;> clear hK2 K2) | (refine hK2 _ _ ?_; clear hK2 K2))))
    all_goals first | rfl | exact absurd (by simpa using ‹(errPoss s c n != 0) = false›) hep
end Go.Proofs.Try
namespace Go.Proofs.Try
open Go.ChangeShapes Go.WideShapes Go.ChangeAt Go.RowKit Go.Joins Go.Deep Go.Am
set_option maxRecDepth 100000

/-! What an argument holds, as the walk wants it. -/

section
variable {H : Type} {enc : TypeId × Value → H} {P : Program} {w : World} {base : Nat} {spare : Nat → Bool} {held : Bool}
theorem open_slice_fields {t e : TypeId} {fs : Array Field} {fuel : Nat} {cs : List Value} {x : DataW H × List MemPlace} (ht : P.underlying t = some (.slice e)) (he : P.underlying e = some (.struct fs))
    (hone : oneCellFields P fs = true) (hC : P.cellsOf e = fs.size) (h : DataW.trod enc P w base spare held fuel t cs = some x) :
    (cs = [.slice none 0 0] ∧ x = (.nil, [])) ∨
    ∃ (a : Addr) (len cap m : Nat) (D : Nat → DataW H) (Pl : Nat → List MemPlace), cs = [.slice (some a) len cap] ∧ base ≤ a.block ∧ len ≤ cap ∧ cap ≤ maxLen ∧ m = (if spare a.block then cap else len) ∧
      x = (.slice ((List.range len).map D) ((List.range (m - len)).map fun j => D (len + j)), MemPlace.row a (m * fs.size) ++ (List.range m).flatMap Pl) ∧
      ∀ i, i < m → ∃ (ys : List (DataW H × List MemPlace)) (n : Nat), D i = .agg (ys.map (·.1)) ∧ Pl i = ys.flatMap (·.2) ∧ ys.length = fs.size ∧
        ∀ (j : Nat) (f : Field), fs[j]? = some f → ∃ (v : Value) (y : DataW H × List MemPlace), w.cell? (a.add (i * fs.size + j)) = some v ∧ ys[j]? = some y ∧ DataW.trod enc P w base spare held n f.type [v] = some y := by
  rcases open_slice ht h with h0 | ⟨a, len, cap, m, n, D, Pl, hcs, hb, hl, hm, hmm, hx, hi⟩
  · exact .inl h0
  · refine .inr ⟨a, len, cap, m, D, Pl, hcs, hb, hl, hm, hmm, by rw [hC] at hx; exact hx, fun i him => ?_⟩
    obtain ⟨cs', hc, ht'⟩ := hi i him
    rw [hC] at hc
    obtain ⟨ys, n', hn', hy, hlen, hyl, hf⟩ := DataW.trod_struct he ht'
    obtain ⟨_, hcl, hat⟩ := World.cells?_some hc
    simp only [Prod.mk.injEq] at hy
    refine ⟨ys, n', hy.1, hy.2, hyl, fun j f hj => ?_⟩
    obtain ⟨ho, hk⟩ := hone_of hone j f hj
    have hjl : j < fs.size := (Array.getElem?_eq_some_iff.1 hj).1
    have hcell := hat j hjl
    have hv : cs'[j]? = some (cs'[j]'(by omega)) := List.getElem?_eq_getElem (by omega)
    have h1 := hf j f hj
    rw [ho, hk] at h1
    have hone' : (cs'.drop j).take 1 = [cs'[j]'(by omega)] := by
      rw [List.drop_eq_getElem_cons (by omega)]
      rfl
    rw [hone'] at h1
    have hys : ys[j]? = some (ys[j]'(by omega)) := List.getElem?_eq_getElem (by omega)
    refine ⟨_, _, ?_, hys, h1.trans hys⟩
    rw [← Go.Deep.add_add, hcell, hv]
end
theorem add_at (b o j : Nat) : (⟨b, o, none⟩ : Addr).add j = ⟨b, o + j, none⟩ := by
  unfold Addr.add
  split
  · rename_i h; subst h; rfl
  · rfl
theorem cell_lt {w : World} {p : Addr} {v : Value} (h : w.cell? p = some v) : p.block < w.heap.size := by
  rcases Nat.lt_or_ge p.block w.heap.size with hlt | hge
  · exact hlt
  · unfold World.cell? at h
    rw [Array.getElem?_eq_none hge] at h
    cases h
theorem cell_spot {w : World} {p : Addr} {v : Value} (h : w.cell? p = some v) : p.spot = none := by
  unfold World.cell? at h
  split at h
  · split at h
    · cases h
    · rename_i h0; simpa using h0
  · cases h

theorem slice_abs {w : World} {a : Addr} {len cap size d : Nat} {us : List Value} (hl : len ≤ cap) (hc : len ≤ 9223372036854775807) (hus : us.length = len * size) (hsz : 0 < size) (hplain : ∀ (j : Nat) (u : Value), us[j]? = some u → absV w.heap.size 8 u = u) (hcell : ∀ (j : Nat) (u : Value), us[j]? = some u → w.cell? (a.add j) = some u) : Cells (absH w) (absV w.heap.size (d + 1) (.slice (some a) len cap)) size len us := by
  by_cases h0 : len = 0
  · subst h0
    simp only [absV]
    split
    · exact ⟨hus, hc, _, _, rfl, by omega⟩
    · rw [if_pos trivial]; exact ⟨hus, hc, _, _, rfl, by omega⟩
  · have hpos : 0 < us.length := by rw [hus]; exact Nat.mul_pos (by omega) hsz
    have h1 := hcell 0 _ (List.getElem?_eq_getElem hpos)
    have e0 : a.add 0 = a := by unfold Addr.add; rw [if_pos rfl]
    rw [e0] at h1
    have hsp := cell_spot h1
    have hlt := cell_lt h1
    obtain ⟨b, o, sp⟩ := a
    simp only at hsp hlt
    subst hsp
    simp only [absV]
    rw [if_pos ⟨trivial, hlt, hl⟩]
    refine ⟨hus, hc, _, _, rfl, fun _ => ⟨b, o, none, rfl, by rw [absH_n]; exact hlt, fun j u hu => ?_⟩⟩
    have h2 := hcell j u hu
    rw [add_at] at h2
    rw [abs_cell h2, hplain j u hu]

section
variable {H : Type} {enc : TypeId × Value → H} {w : World}
theorem ints_abs {fuel d : Nat} {v : Value} {x : DataW H × List MemPlace} (h : DataW.trod enc Try.prog w 0 (fun _ => true) true fuel 22 [v] = some x) : ∃ xs, Ints (absH w) (absV w.heap.size (d + 1) v) xs := by
  rcases open_ints Try.underlying22 Try.underlying3 (by kernel_rfl) h with ⟨hcs, _⟩ | ⟨a, l, c, zs, hcs, _, hl, hm, hz, _, hcell, _⟩
  · injection hcs with hcs _
    subst hcs
    exact ⟨[], rfl, by simp, none, 0, rfl, by simp⟩
  · injection hcs with hcs _
    subst hcs
    simp only [if_true] at hz
    have hlen : (zs.take l).length = l := by rw [List.length_take]; omega
    refine ⟨zs.take l, ?_⟩
    unfold Ints
    rw [hlen]
    refine slice_abs hl (by unfold maxLen at hm; omega) (by rw [List.length_map, hlen]; omega) (by decide) (fun j u hu => ?_) (fun j u hu => ?_)
    · rw [List.getElem?_map] at hu
      obtain ⟨z, _, rfl⟩ := Option.map_eq_some_iff.1 hu
      rfl
    · rw [List.getElem?_map] at hu
      obtain ⟨z, hz1, rfl⟩ := Option.map_eq_some_iff.1 hu
      rw [List.getElem?_take] at hz1
      split at hz1
      · have hj : j < zs.length := (List.getElem?_eq_some_iff.1 hz1).1
        rw [hcell j hj, List.getD_eq_getElem?_getD, hz1]
        rfl
      · cases hz1

theorem alts_abs {fuel d : Nat} {v : Value} {x : DataW H × List MemPlace} (h : DataW.trod enc Try.prog w 0 (fun _ => true) true fuel 23 [v] = some x) : ∃ l, Alts (absH w) (absV w.heap.size (d + 1) v) l := by
  rcases open_slice_fields Try.underlying23 Try.underlying61 (by kernel_rfl) (by kernel_rfl) h with ⟨hcs, _⟩ | ⟨a, len, cap, m, D, Pl, hcs, _, hl, hm, hmm, _, hf⟩
  · injection hcs with hcs _
    subst hcs
    exact ⟨[], rfl, by simp, none, 0, rfl, by simp⟩
  · injection hcs with hcs _
    subst hcs
    simp only [if_true] at hmm
    have hq : ∀ i, i < len → ∃ q : Alt, ∀ j u, q.cells[j]? = some u → w.cell? (a.add (i * 6 + j)) = some u := by
      intro i hi
      obtain ⟨ys, n, _, _, _, hj⟩ := hf i (by omega)
      obtain ⟨v0, y0, hc0, _, ht0⟩ := hj 0 _ rfl
      obtain ⟨v1, y1, hc1, _, ht1⟩ := hj 1 _ rfl
      obtain ⟨v2, y2, hc2, _, ht2⟩ := hj 2 _ rfl
      obtain ⟨v3, y3, hc3, _, ht3⟩ := hj 3 _ rfl
      obtain ⟨v4, y4, hc4, _, ht4⟩ := hj 4 _ rfl
      obtain ⟨v5, y5, hc5, _, ht5⟩ := hj 5 _ rfl
      obtain ⟨z0, hz0, _, _⟩ := DataW.trod_int Try.underlying3 ht0
      obtain ⟨z1, hz1, _, _⟩ := DataW.trod_int Try.underlying3 ht1
      obtain ⟨z2, hz2, _, _⟩ := DataW.trod_int Try.underlying3 ht2
      obtain ⟨z3, hz3, _, _⟩ := DataW.trod_int Try.underlying3 ht3
      obtain ⟨z4, hz4, _, _⟩ := DataW.trod_int Try.underlying3 ht4
      obtain ⟨z5, hz5, _, _⟩ := DataW.trod_int Try.underlying3 ht5
      injection hz0 with hz0 _
      injection hz1 with hz1 _
      injection hz2 with hz2 _
      injection hz3 with hz3 _
      injection hz4 with hz4 _
      injection hz5 with hz5 _
      subst hz0 hz1 hz2 hz3 hz4 hz5
      refine ⟨⟨z0, z1, z2, z3, z4, z5⟩, fun j u hu => ?_⟩
      match j, hu with
      | 0, hu => cases hu; exact hc0
      | 1, hu => cases hu; exact hc1
      | 2, hu => cases hu; exact hc2
      | 3, hu => cases hu; exact hc3
      | 4, hu => cases hu; exact hc4
      | 5, hu => cases hu; exact hc5
      | j + 6, hu => simp [Alt.cells] at hu
    obtain ⟨f, hf'⟩ := Classical.skolem.1 (fun i => show ∃ q : Alt, i < len → ∀ j u, q.cells[j]? = some u → w.cell? (a.add (i * 6 + j)) = some u by
      by_cases hi : i < len
      · obtain ⟨q, hq⟩ := hq i hi; exact ⟨q, fun _ => hq⟩
      · exact ⟨⟨0, 0, 0, 0, 0, 0⟩, fun h => absurd h hi⟩)
    have hlen : ((List.range len).map f).length = len := by simp
    refine ⟨(List.range len).map f, ?_⟩
    unfold Alts
    rw [hlen]
    have hget : ∀ j u, (altCells ((List.range len).map f))[j]? = some u → ∃ k i, k < len ∧ j = k * 6 + i ∧ (f k).cells[i]? = some u := by
      intro j u hu
      have hj : j < len * 6 := by
        have := (List.getElem?_eq_some_iff.1 hu).1
        rw [altCells_length, hlen] at this; exact this
      have hk : j / 6 < len := by omega
      have hi : j % 6 < 6 := Nat.mod_lt _ (by decide)
      have hcl : (f (j / 6)).cells.length = 6 := rfl
      have h1 := altCells_get ((List.range len).map f) (j / 6) (by rw [hlen]; exact hk) (j % 6) ((f (j / 6)).cells[j % 6]'(by rw [hcl]; exact hi)) (by simp)
      have e : j / 6 * 6 + j % 6 = j := by omega
      rw [e, hu] at h1
      refine ⟨j / 6, j % 6, hk, e.symm, ?_⟩
      rw [List.getElem?_eq_getElem (by rw [hcl]; exact hi)]
      exact h1.symm ▸ rfl
    refine slice_abs hl (by unfold maxLen at hm; omega) (by rw [altCells_length, hlen]) (by decide) (fun j u hu => ?_) (fun j u hu => ?_)
    · obtain ⟨k, i, hk, rfl, hi⟩ := hget j u hu
      match i, hi with
      | 0, hi => cases hi; rfl
      | 1, hi => cases hi; rfl
      | 2, hi => cases hi; rfl
      | 3, hi => cases hi; rfl
      | 4, hi => cases hi; rfl
      | 5, hi => cases hi; rfl
      | i + 6, hi => simp [Alt.cells] at hi
    · obtain ⟨k, i, hk, rfl, hi⟩ := hget j u hu
      exact hf' k hk i u hi
end

theorem ownOne : ownKnob Try.prog.godebug = none := by kernel_rfl
theorem laidOut : laidOutB Try.prog = true := by kernel_rfl

theorem fields25 : ∃ f0 f1 : Field, Try.prog.underlying 25 = some (.struct #[f0, f1]) ∧ f0.type = 22 ∧ f1.type = 23 ∧ f0.offset = 0 ∧ f1.offset = 1 ∧ Try.prog.cellsOf 22 = 1 ∧ Try.prog.cellsOf 23 = 1 ∧ Try.prog.cellsOf 25 = 2 :=
  ⟨(fieldOf Try.prog 25 0).getD default, (fieldOf Try.prog 25 1).getD default, by kernel_rfl, by kernel_rfl, by kernel_rfl, by kernel_rfl, by kernel_rfl, by kernel_rfl, by kernel_rfl, by kernel_rfl⟩

section
variable {H : Type} {enc : TypeId × Value → H} {w : World}
/-- A sheet among the arguments. -/
theorem sheet_abs {r : Reach} {b0 : Nat} {v : Value} {d : DataW H} {p : List MemPlace} (hval : Value.okWide Try.prog w r b0 25 v) (h : DataW.Trod enc Try.prog w 0 (fun _ => true) true 25 v d p) : ∃ s, SheetV (absH w) (absV w.heap.size 8 v) s := by
  obtain ⟨f0, f1, hu, h0, h1, h2, h3, h4, h5, h6⟩ := fields25
  obtain ⟨cs, rfl, hcs⟩ := okWide_struct hu hval
  obtain ⟨fuel, hf⟩ := h
  obtain ⟨y0, y1, n, _, _, ht0, ht1⟩ := trod_struct2 hu hf
  rw [h6] at hcs
  obtain ⟨a, b, rfl⟩ : ∃ a b, cs = #[a, b] := by
    obtain ⟨l⟩ := cs
    match l, hcs with
    | [a, b], _ => exact ⟨a, b, rfl⟩
  rw [h0, h2, h4] at ht0
  rw [h1, h3, h5] at ht1
  obtain ⟨xs, hx⟩ := ints_abs (d := 6) (v := a) (by simpa [Value.cells] using ht0)
  obtain ⟨l, hl⟩ := alts_abs (d := 6) (v := b) (by simpa [Value.cells] using ht1)
  exact ⟨⟨xs, l⟩, _, _, by simp [absV], hx, hl⟩
end

theorem fields27 : ∃ f0 f1 f2 f3 : Field, Try.prog.underlying 27 = some (.struct #[f0, f1, f2, f3]) ∧ (f0.type = 22 ∧ f1.type = 3 ∧ f2.type = 3 ∧ f3.type = 3) ∧ (f0.offset = 0 ∧ f1.offset = 1 ∧ f2.offset = 2 ∧ f3.offset = 3) ∧ Try.prog.cellsOf 22 = 1 ∧ Try.prog.cellsOf 3 = 1 ∧ Try.prog.cellsOf 27 = 4 :=
  ⟨(fieldOf Try.prog 27 0).getD default, (fieldOf Try.prog 27 1).getD default, (fieldOf Try.prog 27 2).getD default, (fieldOf Try.prog 27 3).getD default, by kernel_rfl, by refine ⟨?_, ?_, ?_, ?_⟩ <;> kernel_rfl, by refine ⟨?_, ?_, ?_, ?_⟩ <;> kernel_rfl, by kernel_rfl, by kernel_rfl, by kernel_rfl⟩
section
variable {H : Type} {enc : TypeId × Value → H} {w : World}
/-- A copy among the arguments. -/
theorem copy_abs {r : Reach} {b0 : Nat} {v : Value} {d : DataW H} {p : List MemPlace} (hval : Value.okWide Try.prog w r b0 27 v) (h : DataW.Trod enc Try.prog w 0 (fun _ => true) true 27 v d p) : ∃ c, CopyV (absH w) (absV w.heap.size 8 v) c := by
  obtain ⟨f0, f1, f2, f3, hu, ⟨t0, t1, t2, t3⟩, ⟨o0, o1, o2, o3⟩, h4, h5, h6⟩ := fields27
  obtain ⟨cs, rfl, hcs⟩ := okWide_struct hu hval
  obtain ⟨fuel, hf⟩ := h
  obtain ⟨xs, n, _, _, _, _, ht⟩ := DataW.trod_struct hu hf
  rw [h6] at hcs
  obtain ⟨a, b, c, e, rfl⟩ : ∃ a b c e, cs = #[a, b, c, e] := by
    obtain ⟨l⟩ := cs
    match l, hcs with
    | [a, b, c, e], _ => exact ⟨a, b, c, e, rfl⟩
  have ht0 := ht 0 f0 rfl
  have ht1 := ht 1 f1 rfl
  have ht2 := ht 2 f2 rfl
  have ht3 := ht 3 f3 rfl
  rw [t0, o0, h4] at ht0
  rw [t1, o1, h5] at ht1
  rw [t2, o2, h5] at ht2
  rw [t3, o3, h5] at ht3
  have hlen : xs.length = 4 := by assumption
  rw [List.getElem?_eq_getElem (by omega)] at ht0 ht1 ht2 ht3
  obtain ⟨ws, hx⟩ := ints_abs (d := 6) (v := a) (by simpa [Value.cells] using ht0)
  obtain ⟨z1, hz1, _, _⟩ := DataW.trod_int Try.underlying3 (show DataW.trod enc Try.prog w 0 (fun _ => true) true n 3 [b] = _ by simpa [Value.cells] using ht1)
  obtain ⟨z2, hz2, _, _⟩ := DataW.trod_int Try.underlying3 (show DataW.trod enc Try.prog w 0 (fun _ => true) true n 3 [c] = _ by simpa [Value.cells] using ht2)
  obtain ⟨z3, hz3, _, _⟩ := DataW.trod_int Try.underlying3 (show DataW.trod enc Try.prog w 0 (fun _ => true) true n 3 [e] = _ by simpa [Value.cells] using ht3)
  injection hz1 with hz1 _
  injection hz2 with hz2 _
  injection hz3 with hz3 _
  subst hz1 hz2 hz3
  exact ⟨⟨ws, z1, z2, z3⟩, _, by simp [absV], hx⟩
/-- Numbers among the arguments. -/
theorem list_abs {r : Reach} {b0 : Nat} {v : Value} {d : DataW H} {p : List MemPlace} (hval : Value.okWide Try.prog w r b0 22 v) (h : DataW.Trod enc Try.prog w 0 (fun _ => true) true 22 v d p) : ∃ xs, Ints (absH w) (absV w.heap.size 8 v) xs := by
  obtain ⟨a, len, cap, rfl⟩ := okWide_slice Try.underlying22 hval
  obtain ⟨fuel, hf⟩ := h
  exact ints_abs (d := 7) hf
end
end Go.Proofs.Try
