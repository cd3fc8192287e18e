/- Contracts of functions, walked. -/
import Derived.Lib.Hide
import Derived.Test.YtgddlpegljkgpaaStS0
import Derived.Test.YtgddlpegljkgpaaAwB
set_option linter.all false
namespace Go.Proofs.Try
open Go Go.Am Go.RowKit
set_option maxRecDepth 100000

/-! Small functions of package state. -/

def win (lo hi n : Int) : Bool := decide (lo ≤ n) && decide (n ≤ hi)
theorem win_iff {lo hi n : Int} : win lo hi n = true ↔ lo ≤ n ∧ n ≤ hi := by simp [win]
theorem win_not {lo hi n : Int} : win lo hi n = false ↔ ¬ (lo ≤ n ∧ n ≤ hi) := by rw [← win_iff]; simp

theorem within_s {loops : List (Nat × LInfo)} {H : AHeap} {n lo hi : Int} : CallS Try.prog loops 58 [.int .i64 n, .int .i64 lo, .int .i64 hi] H fun v H' => v = .bool (win lo hi n) ∧ H' = H := by
  refine CallS.enter' Try.func58 rfl Try.ntmps58 (by simp) fun f hd hf => ?_
  have f0 := hf 0
  have f1 := hf 1
  have f2 := hf 2
  simp at f0 f1 f2
  clear hf
  unfold win
  repeat' (first | (with_reducible first | refine CodeS.seq ?_ | refine CodeS.region_k fun K hK => ?_ | refine opsP_go fun K2 hK2 => ?_ | refine Post.then_normal ?_ | refine Post.then_ret ?_ | refine Post.then_exit ?_ | refine Post.block_normal ?_ | refine Post.block_ret ?_ | refine Post.block_here ?_ | refine Post.scope_normal ?_ | refine Post.scope_ret ?_ | refine Post.scope_exit ?_ | refine Post.round_ret ?_ | refine Post.round_exit ?_ | refine CodeS.block ?_ | refine CodeS.skip ?_ | refine CodeS.ret ?_ | refine CodeS.exit ?_ | refine CodeS.scope ?_ | refine CodeS.label ?_) | ((with_reducible refine opsP_nil (hK _ _ ?_)); clear hK K) | ((with_reducible refine opsP_gd ?hj ?hlt fun K1 K3 d hdst h1 h3 => ?_); (case hj => rfl); (case hlt => exact Nat.le_of_ble_eq_true rfl); cases hdst; go_simp) | ((with_reducible refine CodeS.cond_k fun K1 K3 h1 h3 => ?_); go_simp) | (refine h1 ?_; clear h1 h3 K1 K3) | (refine h3 ?_; clear h1 h3 K1 K3) | ((refine Either.mk (fun hb => h1 ?_) (fun hb => h3 ?_)) <;> (clear h1 h3 K1 K3; (try have hb2 := of_decide hb); (try have hb2 := of_not_decide_lt hb); (try have hb2 := of_not_decide_le hb); (try have hb2 := of_not_decide_ltN hb); (try have hb2 := of_not_decide_leN hb))) | ((refine Either.mk (fun hb => h3 ?_) (fun hb => h1 ?_)) <;> (clear h1 h3 K1 K3; (try have hb2 := of_decide hb); (try have hb2 := of_not_decide_lt hb); (try have hb2 := of_not_decide_le hb); (try have hb2 := of_not_decide_ltN hb); (try have hb2 := of_not_decide_leN hb))) | (refine fun (K2 : _ → AHeap → Prop) hK2 => ?_) | ((with_reducible refine Post.block_off ?hn ?_); (case hn => decide)) | ((with_reducible first | refine Post.body_k ?hd (fun K hK => ?_) | refine Post.body_kn ?hd (fun K hK => ?_)); (case hd => (go_simp; done)); go_simp; refine hK _ _ ?_; clear hK K) | (go_simp; (try go_bits); refine hK2 _ _ ?_; clear hK2 K2))
  all_goals (refine ⟨?_, rfl⟩; simp [*])

structure Alt where
  id : Int
  kind : Int
  day : Int
  frm : Int
  to : Int
  word : Int
  deriving DecidableEq

def Alt.cells (a : Alt) : List Value := [.int .i64 a.id, .int .i64 a.kind, .int .i64 a.day, .int .i64 a.frm, .int .i64 a.to, .int .i64 a.word]
def Alt.val (a : Alt) : Value := .agg #[.int .i64 a.id, .int .i64 a.kind, .int .i64 a.day, .int .i64 a.frm, .int .i64 a.to, .int .i64 a.word]

def Alt.suits (a : Alt) : Bool := if a.kind = 1 ∨ a.kind = 2 then a.word == 0 else if a.kind = 3 ∨ a.kind = 4 then (a.to == a.frm) && win 1 9999 a.word else false

theorem suits_e {loops : List (Nat × LInfo)} {H : AHeap} {a : Alt} : CallS Try.prog loops 108 [a.val] H fun v H' => v = .bool a.suits ∧ Ext H H' := by
  obtain ⟨i, kd, dy, fr, to, wd⟩ := a
  refine CallS.enter' Try.func108 rfl Try.ntmps108 (by simp) fun f hd hf => ?_
  have f0 := hf 0
  simp [Alt.val] at f0
  clear hf
  repeat' (first | (with_reducible first | refine CodeS.seq ?_ | refine CodeS.region_k fun K hK => ?_ | refine opsP_go fun K2 hK2 => ?_ | refine Post.then_normal ?_ | refine Post.then_ret ?_ | refine Post.then_exit ?_ | refine Post.block_normal ?_ | refine Post.block_ret ?_ | refine Post.block_here ?_ | refine Post.scope_normal ?_ | refine Post.scope_ret ?_ | refine Post.scope_exit ?_ | refine Post.round_ret ?_ | refine Post.round_exit ?_ | refine CodeS.block ?_ | refine CodeS.skip ?_ | refine CodeS.ret ?_ | refine CodeS.exit ?_ | refine CodeS.scope ?_ | refine CodeS.label ?_) | ((with_reducible refine opsP_nil (hK _ _ ?_)); clear hK K) | ((with_reducible refine opsP_gd ?hj ?hlt fun K1 K3 d hdst h1 h3 => ?_); (case hj => rfl); (case hlt => exact Nat.le_of_ble_eq_true rfl); cases hdst; go_simp) | ((with_reducible refine CodeS.cond_k fun K1 K3 h1 h3 => ?_); go_simp) | (refine h1 ?_; clear h1 h3 K1 K3) | (refine h3 ?_; clear h1 h3 K1 K3) | ((refine Either.mk (fun hb => h1 ?_) (fun hb => h3 ?_)) <;> (clear h1 h3 K1 K3; (try have hb2 := of_decide hb); (try have hb2 := of_not_decide_lt hb); (try have hb2 := of_not_decide_le hb); (try have hb2 := of_not_decide_ltN hb); (try have hb2 := of_not_decide_leN hb))) | ((refine Either.mk (fun hb => h3 ?_) (fun hb => h1 ?_)) <;> (clear h1 h3 K1 K3; (try have hb2 := of_decide hb); (try have hb2 := of_not_decide_lt hb); (try have hb2 := of_not_decide_le hb); (try have hb2 := of_not_decide_ltN hb); (try have hb2 := of_not_decide_leN hb))) | (refine fun (K2 : _ → AHeap → Prop) hK2 => ?_) | ((with_reducible refine Post.block_off ?hn ?_); (case hn => decide)) | ((with_reducible first | refine Post.body_k ?hd (fun K hK => ?_) | refine Post.body_kn ?hd (fun K hK => ?_)); (case hd => (go_simp; done)); go_simp; refine hK _ _ ?_; clear hK K) | (go_simp; (try go_bits); (try first | ((with_reducible show CallS _ _ _ _ _ _); refine CallS.mono within_s ?_; rintro _ _ ⟨rfl, rfl⟩)); refine hK2 _ _ ?_; clear hK2 K2))
  all_goals (refine ⟨?_, (Ext.refl _).push' _⟩; simp_all [Alt.suits])
theorem suits_s {loops : List (Nat × LInfo)} {H : AHeap} {a : Alt} : CallS Try.prog loops 108 [a.val] H fun v H' => v = .bool a.suits ∧ H' = H :=
  (suits_e.forget (R := fun v => v = .bool a.suits) (by rintro v rfl; rfl))

def Alt.right (a : Alt) (lines : Int) : Bool := win 1 1099511627776 a.id && (win 0 730 a.day && (win 0 a.to a.frm && (win 0 (lines - 1) a.to && a.suits)))

theorem right_s {loops : List (Nat × LInfo)} {H : AHeap} {a : Alt} {n : Nat} (hn : n ≤ 9223372036854775807) : CallS Try.prog loops 68 [a.val, .int .i64 n] H fun v H' => v = .bool (a.right n) ∧ H' = H := by
  refine CallS.forget (R := fun v => v = .bool (a.right n)) (by rintro v rfl; rfl) ?_
  have hsuit := fun (loops : List (Nat × LInfo)) (H : AHeap) => suits_s (loops := loops) (H := H) (a := a)
  unfold Alt.right
  generalize a.suits = ss at hsuit ⊢
  obtain ⟨i, kd, dy, fr, to, wd⟩ := a
  refine CallS.enter' Try.func68 rfl Try.ntmps68 (by simp) fun f hd hf => ?_
  have f0 := hf 0
  have f1 := hf 1
  simp [Alt.val] at f0 f1
  clear hf
  have HS := Lib.hid hsuit
  clear hsuit
  repeat' (first | (with_reducible first | refine CodeS.seq ?_ | refine CodeS.region_k fun K hK => ?_ | refine opsP_go fun K2 hK2 => ?_ | refine Post.then_normal ?_ | refine Post.then_ret ?_ | refine Post.then_exit ?_ | refine Post.block_normal ?_ | refine Post.block_ret ?_ | refine Post.block_here ?_ | refine Post.scope_normal ?_ | refine Post.scope_ret ?_ | refine Post.scope_exit ?_ | refine Post.round_ret ?_ | refine Post.round_exit ?_ | refine CodeS.block ?_ | refine CodeS.skip ?_ | refine CodeS.ret ?_ | refine CodeS.exit ?_ | refine CodeS.scope ?_ | refine CodeS.label ?_) | ((with_reducible refine opsP_nil (hK _ _ ?_)); clear hK K) | ((with_reducible refine opsP_gd ?hj ?hlt fun K1 K3 d hdst h1 h3 => ?_); (case hj => rfl); (case hlt => exact Nat.le_of_ble_eq_true rfl); cases hdst; go_simp) | ((with_reducible refine CodeS.cond_k fun K1 K3 h1 h3 => ?_); go_simp) | (refine h1 ?_; clear h1 h3 K1 K3) | (refine h3 ?_; clear h1 h3 K1 K3) | ((refine Either.mk (fun hb => h1 ?_) (fun hb => h3 ?_)) <;> (clear h1 h3 K1 K3; (try have hb2 := of_decide hb); (try have hb2 := of_not_decide_lt hb); (try have hb2 := of_not_decide_le hb); (try have hb2 := of_not_decide_ltN hb); (try have hb2 := of_not_decide_leN hb))) | ((refine Either.mk (fun hb => h3 ?_) (fun hb => h1 ?_)) <;> (clear h1 h3 K1 K3; (try have hb2 := of_decide hb); (try have hb2 := of_not_decide_lt hb); (try have hb2 := of_not_decide_le hb); (try have hb2 := of_not_decide_ltN hb); (try have hb2 := of_not_decide_leN hb))) | (refine fun (K2 : _ → AHeap → Prop) hK2 => ?_) | ((with_reducible refine Post.block_off ?hn ?_); (case hn => decide)) | ((with_reducible first | refine Post.body_k ?hd (fun K hK => ?_) | refine Post.body_kn ?hd (fun K hK => ?_)); (case hd => (go_simp; done)); go_simp; refine hK _ _ ?_; clear hK K) | (go_simp; (try go_bits); (try first | ((with_reducible show CallS _ _ _ _ _ _); refine CallS.mono within_s ?_; rintro _ _ ⟨rfl, rfl⟩) | ((with_reducible show CallS _ _ _ _ _ _); refine CallS.mono (HS.out _ _) ?_; rintro _ _ ⟨rfl, rfl⟩)); refine hK2 _ _ ?_; clear hK2 K2))
  all_goals (refine ⟨?_, (Ext.refl _).push' _⟩; simp_all)

/-- A slice, by its cells. -/
def Cells (H : AHeap) (v : Value) (size n : Nat) (xs : List Value) : Prop :=
  xs.length = n * size ∧ n ≤ 9223372036854775807 ∧ ∃ a c, v = .slice a n c ∧ (0 < n → ∃ b o sp, a = some ⟨b, o, sp⟩ ∧ b < H.n ∧ ∀ j u, xs[j]? = some u → cellAt H b (o + j) = some u)
theorem Cells.ext {H H' : AHeap} {v : Value} {size n : Nat} {xs : List Value} (h : Cells H v size n xs) (hx : Ext H H') : Cells H' v size n xs := by
  obtain ⟨h1, h2, a, c, h3, h4⟩ := h
  refine ⟨h1, h2, a, c, h3, fun hn => ?_⟩
  obtain ⟨b, o, sp, h5, h6, h7⟩ := h4 hn
  exact ⟨b, o, sp, h5, Nat.lt_of_lt_of_le h6 hx.n, fun j u hu => by rw [hx.cellAt h6]; exact h7 j u hu⟩
def Ints (H : AHeap) (v : Value) (xs : List Int) : Prop := Cells H v 1 xs.length (xs.map (Value.int .i64))
theorem Ints.ext {H H' : AHeap} {v : Value} {xs : List Int} (h : Ints H v xs) (hx : Ext H H') : Ints H' v xs := Cells.ext h hx
theorem Ints.at_ {H : AHeap} {a : Option Addr} {n c : Nat} {xs : List Int} (h : Ints H (.slice a n c) xs) {k : Nat} (hk : k < xs.length) : ∃ b o sp, a = some ⟨b, o, sp⟩ ∧ b < H.n ∧ cellAt H b (o + k) = some (.int .i64 xs[k]) := by
  obtain ⟨h1, h2, a', c', h3, h4⟩ := h
  cases h3
  obtain ⟨b, o, sp, h5, h6, h7⟩ := h4 (by omega)
  exact ⟨b, o, sp, h5, h6, h7 k _ (by simp [hk])⟩
theorem Ints.slice {H : AHeap} {v : Value} {xs : List Int} (h : Ints H v xs) : xs.length ≤ 9223372036854775807 ∧ ∃ a c, v = .slice a xs.length c := by
  obtain ⟨h1, h2, a', c', h3, h4⟩ := h
  exact ⟨h2, a', c', h3⟩

def wordsOk (least : Int) (xs : List Int) : Bool := xs.all (win least 9999)

theorem areWords_s {loops : List (Nat × LInfo)} {H : AHeap} {v : Value} {xs : List Int} {least : Int} (hv : Ints H v xs) : CallS Try.prog loops 67 [v, .int .i64 least] H fun r H' => r = .bool (wordsOk least xs) ∧ H' = H := by
  obtain ⟨hlen, a, c, rfl⟩ := hv.slice
  have HV := Lib.hid hv
  clear hv
  refine CallS.enter' Try.func67 rfl Try.ntmps67 (by simp) fun f hd hf => ?_
  have f0 := hf 0
  have f1 := hf 1
  simp at f0 f1
  clear hf
  repeat' (first | (with_reducible first | refine CodeS.seq ?_ | refine CodeS.region_k fun K hK => ?_ | refine opsP_go fun K2 hK2 => ?_ | refine Post.then_normal ?_ | refine Post.then_ret ?_ | refine Post.then_exit ?_ | refine Post.block_normal ?_ | refine Post.block_ret ?_ | refine Post.block_here ?_ | refine Post.scope_normal ?_ | refine Post.scope_ret ?_ | refine Post.scope_exit ?_ | refine Post.round_ret ?_ | refine Post.round_exit ?_ | refine CodeS.block ?_ | refine CodeS.skip ?_ | refine CodeS.ret ?_ | refine CodeS.exit ?_ | refine CodeS.scope ?_ | refine CodeS.label ?_) | ((with_reducible refine opsP_nil (hK _ _ ?_)); clear hK K) | ((with_reducible refine opsP_gd ?hj ?hlt fun K1 K3 d hdst h1 h3 => ?_); (case hj => rfl); (case hlt => exact Nat.le_of_ble_eq_true rfl); cases hdst; go_simp) | ((with_reducible refine CodeS.cond_k fun K1 K3 h1 h3 => ?_); go_simp) | (refine h1 ?_; clear h1 h3 K1 K3) | (refine h3 ?_; clear h1 h3 K1 K3) | ((refine Either.mk (fun hb => h1 ?_) (fun hb => h3 ?_)) <;> (clear h1 h3 K1 K3; (try have hb2 := of_decide hb); (try have hb2 := of_not_decide_lt hb); (try have hb2 := of_not_decide_le hb); (try have hb2 := of_not_decide_ltN hb); (try have hb2 := of_not_decide_leN hb))) | ((refine Either.mk (fun hb => h3 ?_) (fun hb => h1 ?_)) <;> (clear h1 h3 K1 K3; (try have hb2 := of_decide hb); (try have hb2 := of_not_decide_lt hb); (try have hb2 := of_not_decide_le hb); (try have hb2 := of_not_decide_ltN hb); (try have hb2 := of_not_decide_leN hb))) | (refine fun (K2 : _ → AHeap → Prop) hK2 => ?_) | ((with_reducible refine Post.block_off ?hn ?_); (case hn => decide)) | ((with_reducible first | refine Post.body_k ?hd (fun K hK => ?_) | refine Post.body_kn ?hd (fun K hK => ?_)); (case hd => (go_simp; done)); go_simp; refine hK _ _ ?_; clear hK K) | (go_simp; (try go_bits); refine hK2 _ _ ?_; clear hK2 K2))
  refine CodeS.loop (fun m f H' => ∃ k : Nat, k ≤ xs.length ∧ m = xs.length - k ∧ f.tmp 9 = .int .i64 k ∧ f.tmp 7 = .slice a xs.length c ∧ f.tmp 8 = .int .i64 xs.length ∧ f.tmp 1 = .int .i64 least ∧ f.defers = [] ∧ Hid (wordsOk least (xs.drop k) = wordsOk least xs) ∧ H' = H) xs.length ?_ ?_
  · exact ⟨0, by simp, by simp, by go_simp, by go_simp, by go_simp, by go_simp, by go_simp, Lib.hid (by simp), rfl⟩
  clear f0 f1 hd f
  rintro m f H' ⟨k, hk, rfl, f9, f7, f8, f1, hd, HG, rfl⟩
  by_cases hlt : k < xs.length
  · obtain ⟨b, o, sp, rfl, hb, hx⟩ := HV.out.at_ hlt
    have HD := Lib.hid (List.drop_eq_getElem_cons hlt)
    generalize xs[k] = y at hx HD
    repeat' (first | (with_reducible first | refine CodeS.seq ?_ | refine CodeS.region_k fun K hK => ?_ | refine opsP_go fun K2 hK2 => ?_ | refine Post.then_normal ?_ | refine Post.then_ret ?_ | refine Post.then_exit ?_ | refine Post.block_normal ?_ | refine Post.block_ret ?_ | refine Post.block_here ?_ | refine Post.scope_normal ?_ | refine Post.scope_ret ?_ | refine Post.scope_exit ?_ | refine Post.round_ret ?_ | refine Post.round_exit ?_ | refine CodeS.block ?_ | refine CodeS.skip ?_ | refine CodeS.ret ?_ | refine CodeS.exit ?_ | refine CodeS.scope ?_ | refine CodeS.label ?_) | ((with_reducible refine opsP_nil (hK _ _ ?_)); clear hK K) | ((with_reducible refine opsP_gd ?hj ?hlt fun K1 K3 d hdst h1 h3 => ?_); (case hj => rfl); (case hlt => exact Nat.le_of_ble_eq_true rfl); cases hdst; go_simp) | ((with_reducible refine CodeS.cond_k fun K1 K3 h1 h3 => ?_); go_simp) | (refine h1 ?_; clear h1 h3 K1 K3) | (refine h3 ?_; clear h1 h3 K1 K3) | ((refine Either.mk (fun hb => h1 ?_) (fun hb => h3 ?_)) <;> (clear h1 h3 K1 K3; (try have hb2 := of_decide hb); (try have hb2 := of_not_decide_lt hb); (try have hb2 := of_not_decide_le hb); (try have hb2 := of_not_decide_ltN hb); (try have hb2 := of_not_decide_leN hb))) | ((refine Either.mk (fun hb => h3 ?_) (fun hb => h1 ?_)) <;> (clear h1 h3 K1 K3; (try have hb2 := of_decide hb); (try have hb2 := of_not_decide_lt hb); (try have hb2 := of_not_decide_le hb); (try have hb2 := of_not_decide_ltN hb); (try have hb2 := of_not_decide_leN hb))) | (refine fun (K2 : _ → AHeap → Prop) hK2 => ?_) | ((with_reducible refine Post.block_off ?hn ?_); (case hn => decide)) | ((with_reducible first | refine Post.body_k ?hd (fun K hK => ?_) | refine Post.body_kn ?hd (fun K hK => ?_)); (case hd => (go_simp; done)); go_simp; refine hK _ _ ?_; clear hK K) | (go_simp; (try go_bits); (try first | ((with_reducible show CallS _ _ _ _ _ _); refine CallS.mono within_s ?_; rintro _ _ ⟨rfl, rfl⟩)); refine hK2 _ _ ?_; clear hK2 K2))
    · refine ⟨?_, rfl⟩
      have hw : win least 9999 y = false := by simpa using hb
      rw [← HG.out, HD.out]; simp [wordsOk, hw]
    · have hw : win least 9999 y = true := by simpa using hb
      refine Post.round_normal ⟨xs.length - (k + 1), by omega, k + 1, by omega, rfl, (by first | (go_simp; done) | (go_simp; go_num; done) | assumption), (by first | (go_simp; done) | (go_simp; go_num; done) | assumption), (by first | (go_simp; done) | (go_simp; go_num; done) | assumption), (by first | (go_simp; done) | (go_simp; go_num; done) | assumption), (by first | (go_simp; done) | (go_simp; go_num; done) | assumption), Lib.hid ?_, rfl⟩
      rw [← HG.out, HD.out]; simp [wordsOk, hw]
  · repeat' (first | (with_reducible first | refine CodeS.seq ?_ | refine CodeS.region_k fun K hK => ?_ | refine opsP_go fun K2 hK2 => ?_ | refine Post.then_normal ?_ | refine Post.then_ret ?_ | refine Post.then_exit ?_ | refine Post.block_normal ?_ | refine Post.block_ret ?_ | refine Post.block_here ?_ | refine Post.scope_normal ?_ | refine Post.scope_ret ?_ | refine Post.scope_exit ?_ | refine Post.round_ret ?_ | refine Post.round_exit ?_ | refine CodeS.block ?_ | refine CodeS.skip ?_ | refine CodeS.ret ?_ | refine CodeS.exit ?_ | refine CodeS.scope ?_ | refine CodeS.label ?_) | ((with_reducible refine opsP_nil (hK _ _ ?_)); clear hK K) | ((with_reducible refine opsP_gd ?hj ?hlt fun K1 K3 d hdst h1 h3 => ?_); (case hj => rfl); (case hlt => exact Nat.le_of_ble_eq_true rfl); cases hdst; go_simp) | ((with_reducible refine CodeS.cond_k fun K1 K3 h1 h3 => ?_); go_simp) | (refine h1 ?_; clear h1 h3 K1 K3) | (refine h3 ?_; clear h1 h3 K1 K3) | ((refine Either.mk (fun hb => h1 ?_) (fun hb => h3 ?_)) <;> (clear h1 h3 K1 K3; (try have hb2 := of_decide hb); (try have hb2 := of_not_decide_lt hb); (try have hb2 := of_not_decide_le hb); (try have hb2 := of_not_decide_ltN hb); (try have hb2 := of_not_decide_leN hb))) | ((refine Either.mk (fun hb => h3 ?_) (fun hb => h1 ?_)) <;> (clear h1 h3 K1 K3; (try have hb2 := of_decide hb); (try have hb2 := of_not_decide_lt hb); (try have hb2 := of_not_decide_le hb); (try have hb2 := of_not_decide_ltN hb); (try have hb2 := of_not_decide_leN hb))) | (refine fun (K2 : _ → AHeap → Prop) hK2 => ?_) | ((with_reducible refine Post.block_off ?hn ?_); (case hn => decide)) | ((with_reducible first | refine Post.body_k ?hd (fun K hK => ?_) | refine Post.body_kn ?hd (fun K hK => ?_)); (case hd => (go_simp; done)); go_simp; refine hK _ _ ?_; clear hK K) | (go_simp; (try go_bits); refine hK2 _ _ ?_; clear hK2 K2))
    refine ⟨?_, rfl⟩
    rw [← HG.out, List.drop_eq_nil_of_le (by omega)]; rfl
end Go.Proofs.Try
