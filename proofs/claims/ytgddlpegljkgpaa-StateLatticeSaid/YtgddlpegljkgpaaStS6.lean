/- Contracts of functions, walked. -/
import Derived.Test.YtgddlpegljkgpaaStS5
set_option linter.all false
namespace Go.Proofs.Try
open Go Go.Am Go.RowKit
set_option maxRecDepth 100000

/-! Reads. -/

theorem strCells_get : ∀ (l : List Str) (k : Nat) (h : k < l.length) (j : Nat) (u : Value), (l[k]).cells[j]? = some u → (strCells l)[k * 5 + j]? = some u
  | a :: l, 0, _, j, u, hu => by
    simp only [strCells, List.flatMap_cons, Nat.zero_mul, Nat.zero_add]
    have hu' : a.cells[j]? = some u := hu
    rw [List.getElem?_append_left (List.getElem?_eq_some_iff.1 hu').1]; exact hu'
  | a :: l, k + 1, h, j, u, hu => by
    have := strCells_get l k (by simpa using h) j u (by simpa using hu)
    simp only [strCells, List.flatMap_cons]
    rw [List.getElem?_append_right (by simp [Str.cells]; omega)]
    have e : (k + 1) * 5 + j - a.cells.length = k * 5 + j := by simp [Str.cells]; omega
    rw [e]; exact this

def Strs (H : AHeap) (v : Value) (l : List Str) : Prop := Cells H v 5 l.length (strCells l)
theorem Strs.ext {H H' : AHeap} {v : Value} {l : List Str} (h : Strs H v l) (hx : Ext H H') : Strs H' v l := Cells.ext h hx
theorem Strs.slice {H : AHeap} {v : Value} {l : List Str} (h : Strs H v l) : l.length ≤ 9223372036854775807 ∧ ∃ a c, v = .slice a l.length c := by
  obtain ⟨h1, h2, a', c', h3, h4⟩ := h
  exact ⟨h2, a', c', h3⟩
theorem Strs.at_ {H : AHeap} {a : Option Addr} {n c : Nat} {l : List Str} (h : Strs H (.slice a n c) l) {k : Nat} (hk : k < l.length) : ∃ b o sp, a = some ⟨b, o, sp⟩ ∧ b < H.n ∧ cellsAt H b (o + k * 5) 5 = some (l[k]).cells := by
  obtain ⟨h1, h2, a', c', h3, h4⟩ := h
  cases h3
  obtain ⟨b, o, sp, h5, h6, h7⟩ := h4 (by omega)
  exact ⟨b, o, sp, h5, h6, cellsAt_of (us := (l[k]).cells) (by simp [Str.cells]) fun j u hu => by rw [Nat.add_assoc]; exact h7 _ u (strCells_get l k hk j u hu)⟩
theorem strs_of_own {H : AHeap} {base : Nat} {v : Value} {l : List Str} (h : Own H base v 149 5 (strCells l)) (hl : l.length ≤ 9223372036854775807) : Strs H v l := by
  have hlen := strCells_length l
  rcases h with ⟨rfl, h2⟩ | ⟨b, n, rfl, h2, h3, h4, h5, h6⟩
  · have : l.length = 0 := by rw [h2] at hlen; simp at hlen; omega
    exact ⟨hlen, hl, none, 0, by rw [this], by omega⟩
  · have hn : n = l.length := by omega
    subst hn
    refine ⟨hlen, hl, _, _, rfl, fun _ => ⟨b, 0, none, rfl, h3, fun j u hu => ?_⟩⟩
    simp only [cellAt, h4, Nat.zero_add]; exact hu

theorem collect_e {loops : List (Nat × LInfo)} {H : AHeap} {R : Nat → Prop} {N : Nat} {qv : Value} {xs : List Str} (hq : Gives Try.prog H R N qv Str.isVal (xs.map Str.val)) (hlen : N ≤ 1000) (hlen2 : xs.length ≤ 1000) : CallS Try.prog loops 100 [qv] H fun v H' => Strs H' v xs ∧ Ext H H' := by
  have HQ := Lib.hid hq
  clear hq
  refine CallS.enter' Try.func100 rfl Try.ntmps100 (by simp) fun f hd hf => ?_
  have f0 := hf 0
  simp at f0
  clear hf
  repeat' (first | (with_reducible first | refine CodeS.seq ?_ | refine CodeS.region_k fun K hK => ?_ | refine opsP_go fun K2 hK2 => ?_ | refine Post.then_normal ?_ | refine Post.then_ret ?_ | refine Post.then_exit ?_ | refine Post.block_normal ?_ | refine Post.block_ret ?_ | refine Post.block_here ?_ | refine Post.scope_normal ?_ | refine Post.scope_ret ?_ | refine Post.scope_exit ?_ | refine Post.round_ret ?_ | refine Post.round_exit ?_ | refine CodeS.block ?_ | refine CodeS.skip ?_ | refine CodeS.ret ?_ | refine CodeS.exit ?_ | refine CodeS.scope ?_ | refine CodeS.label ?_) | ((with_reducible refine opsP_nil (hK _ _ ?_)); clear hK K) | ((with_reducible refine opsP_gd ?hj ?hlt fun K1 K3 d hdst h1 h3 => ?_); (case hj => rfl); (case hlt => exact Nat.le_of_ble_eq_true rfl); cases hdst; go_simp) | ((with_reducible refine CodeS.cond_k fun K1 K3 h1 h3 => ?_); go_simp) | (refine h1 ?_; clear h1 h3 K1 K3) | (refine h3 ?_; clear h1 h3 K1 K3) | ((refine Either.mk (fun hb => h1 ?_) (fun hb => h3 ?_)) <;> (clear h1 h3 K1 K3; (try have hb2 := of_decide hb); (try have hb2 := of_not_decide_lt hb); (try have hb2 := of_not_decide_le hb); (try have hb2 := of_not_decide_ltN hb); (try have hb2 := of_not_decide_leN hb))) | ((refine Either.mk (fun hb => h3 ?_) (fun hb => h1 ?_)) <;> (clear h1 h3 K1 K3; (try have hb2 := of_decide hb); (try have hb2 := of_not_decide_lt hb); (try have hb2 := of_not_decide_le hb); (try have hb2 := of_not_decide_ltN hb); (try have hb2 := of_not_decide_leN hb))) | (refine fun (K2 : _ → AHeap → Prop) hK2 => ?_) | ((with_reducible refine Post.block_off ?hn ?_); (case hn => decide)) | ((with_reducible first | refine Post.body_k ?hd (fun K hK => ?_) | refine Post.body_kn ?hd (fun K hK => ?_)); (case hd => (go_simp; done)); go_simp; refine hK _ _ ?_; clear hK K) | (go_simp; (try go_bits); (try first | ((with_reducible show CallS _ _ _ _ _ _); refine CallS.mono (appendSeq_e HQ.out hlen) ?_; rintro v H2 ⟨ho, hx⟩; (have HO := Lib.hid ho); (have HX := Lib.hid hx); clear ho hx; go_simp)); refine hK2 _ _ ?_; clear hK2 K2))
  exact ⟨strs_of_own HO.out (by omega), HX.out⟩

/-- The closure that tells what a line reads on a day. -/
def HistAt (H : AHeap) (v : Value) (l : List Str) : Prop := ∃ p lv, v = .func (.func 102) #[] #[.pointer (some ⟨p, 0, none⟩)] ∧ p < H.n ∧ H.get p = .row [lv] 143 ∧ Strs H lv l
theorem HistAt.ext {H H' : AHeap} {v : Value} {l : List Str} (h : HistAt H v l) (hx : Ext H H') : HistAt H' v l := by
  obtain ⟨p, lv, h1, h2, h3, h4⟩ := h
  exact ⟨p, lv, h1, Nat.lt_of_lt_of_le h2 hx.n, (hx.get p h2).trans h3, h4.ext hx⟩

theorem history_e {loops : List (Nat × LInfo)} {H : AHeap} {sv : Value} {s : Sheet} {line : Int} (hv : SheetV H sv s) (hl0 : 0 ≤ line) (hl1 : line < s.words.length) (he : err s = 0) : CallS Try.prog loops 59 [sv, .int .i64 line] H fun v H' => HistAt H' v (strs s line) ∧ Ext H H' := by
  have hso := (err_ok he).1
  have hal := (err_ok he).2.2.2
  have HV := Lib.hid hv
  obtain ⟨wv, av, rfl, hw, ha⟩ := hv
  obtain ⟨hwl, wa, wc, rfl⟩ := hw.slice
  obtain ⟨hal2, aa, ac, rfl⟩ := ha.slice
  clear hw ha
  have HSO := Lib.hid hso
  clear hso he
  have hlen : (strs s line).length ≤ 1000 := by have := go_le line s.alts 0 ⟨s.words[line.toNat]!, 0, false⟩; unfold strs; omega
  refine CallS.enter' Try.func59 rfl Try.ntmps59 (by simp) fun f hd hf => ?_
  have f0 := hf 0
  have f1 := hf 1
  simp at f0 f1
  clear hf
  repeat' (first | (with_reducible first | refine CodeS.seq ?_ | refine CodeS.region_k fun K hK => ?_ | refine opsP_go fun K2 hK2 => ?_ | refine Post.then_normal ?_ | refine Post.then_ret ?_ | refine Post.then_exit ?_ | refine Post.block_normal ?_ | refine Post.block_ret ?_ | refine Post.block_here ?_ | refine Post.scope_normal ?_ | refine Post.scope_ret ?_ | refine Post.scope_exit ?_ | refine Post.round_ret ?_ | refine Post.round_exit ?_ | refine CodeS.block ?_ | refine CodeS.skip ?_ | refine CodeS.ret ?_ | refine CodeS.exit ?_ | refine CodeS.scope ?_ | refine CodeS.label ?_) | ((with_reducible refine opsP_nil (hK _ _ ?_)); clear hK K) | ((with_reducible refine opsP_gd ?hj ?hlt fun K1 K3 d hdst h1 h3 => ?_); (case hj => rfl); (case hlt => exact Nat.le_of_ble_eq_true rfl); cases hdst; go_simp) | ((with_reducible refine CodeS.cond_k fun K1 K3 h1 h3 => ?_); go_simp) | (refine h1 ?_; clear h1 h3 K1 K3) | (refine h3 ?_; clear h1 h3 K1 K3) | ((refine Either.mk (fun hb => h1 ?_) (fun hb => h3 ?_)) <;> (clear h1 h3 K1 K3; (try have hb2 := of_decide hb); (try have hb2 := of_not_decide_lt hb); (try have hb2 := of_not_decide_le hb); (try have hb2 := of_not_decide_ltN hb); (try have hb2 := of_not_decide_leN hb))) | ((refine Either.mk (fun hb => h3 ?_) (fun hb => h1 ?_)) <;> (clear h1 h3 K1 K3; (try have hb2 := of_decide hb); (try have hb2 := of_not_decide_lt hb); (try have hb2 := of_not_decide_le hb); (try have hb2 := of_not_decide_ltN hb); (try have hb2 := of_not_decide_leN hb))) | (refine fun (K2 : _ → AHeap → Prop) hK2 => ?_) | ((with_reducible refine Post.block_off ?hn ?_); (case hn => decide)) | ((with_reducible first | refine Post.body_k ?hd (fun K hK => ?_) | refine Post.body_kn ?hd (fun K hK => ?_)); (case hd => (go_simp; done)); go_simp; refine hK _ _ ?_; clear hK K) | (go_simp; (try go_bits); (try first | ((with_reducible show CallS _ _ _ _ _ _); refine CallS.mono (stretches_e HV.out (Ext.push _)) ?_; rintro qv H2 ⟨hq, hx⟩; (have HQ := Lib.hid hq); (have HX := Lib.hid hx); clear hq hx; go_simp) | ((with_reducible show CallS _ _ _ _ _ _); refine CallS.mono (collect_e (HQ.out.gives hl0 hl1 HSO.out) hlen hlen) ?_; rintro v H3 ⟨hq, hx⟩; (have HS := Lib.hid hq); (have HX3 := Lib.hid hx); (obtain ⟨-, va, vc, rfl⟩ := hq.slice); clear hq hx; go_simp)); refine hK2 _ _ ?_; clear hK2 K2))
  exact ⟨⟨H3.n, _, rfl, by rw [AHeap.n_push]; omega, AHeap.get_push_new, HS.out.ext (Ext.push _)⟩, ((Ext.push _).trans (HX.out.trans HX3.out)).push' _⟩

theorem until_s {loops : List (Nat × LInfo)} {H : AHeap} {x : Str} {q : Nat} {day : Int} (hq : q < H.n) (hg : cellAt H q 0 = some (.int .i64 day)) : CallS Try.prog loops 104 [x.val, .pointer (some ⟨q, 0, none⟩)] H fun v H' => v = .bool (decide (day ≤ x.hi)) ∧ H' = H := by
  refine CallS.forget (R := fun v => v = .bool (decide (day ≤ x.hi))) (by rintro v rfl; rfl) ?_
  obtain ⟨lo, hi, ⟨ct, cm, cl⟩⟩ := x
  refine CallS.enter' Try.func104 rfl Try.ntmps104 (by simp) fun f hd hf => ?_
  have f0 := hf 0
  have f1 := hf 1
  simp [Str.val] at f0 f1
  clear hf
  repeat' (first | (with_reducible first | refine CodeS.seq ?_ | refine CodeS.region_k fun K hK => ?_ | refine opsP_go fun K2 hK2 => ?_ | refine Post.then_normal ?_ | refine Post.then_ret ?_ | refine Post.then_exit ?_ | refine Post.block_normal ?_ | refine Post.block_ret ?_ | refine Post.block_here ?_ | refine Post.scope_normal ?_ | refine Post.scope_ret ?_ | refine Post.scope_exit ?_ | refine Post.round_ret ?_ | refine Post.round_exit ?_ | refine CodeS.block ?_ | refine CodeS.skip ?_ | refine CodeS.ret ?_ | refine CodeS.exit ?_ | refine CodeS.scope ?_ | refine CodeS.label ?_) | ((with_reducible refine opsP_nil (hK _ _ ?_)); clear hK K) | ((with_reducible refine opsP_gd ?hj ?hlt fun K1 K3 d hdst h1 h3 => ?_); (case hj => rfl); (case hlt => exact Nat.le_of_ble_eq_true rfl); cases hdst; go_simp) | ((with_reducible refine CodeS.cond_k fun K1 K3 h1 h3 => ?_); go_simp) | (refine h1 ?_; clear h1 h3 K1 K3) | (refine h3 ?_; clear h1 h3 K1 K3) | ((refine Either.mk (fun hb => h1 ?_) (fun hb => h3 ?_)) <;> (clear h1 h3 K1 K3; (try have hb2 := of_decide hb); (try have hb2 := of_not_decide_lt hb); (try have hb2 := of_not_decide_le hb); (try have hb2 := of_not_decide_ltN hb); (try have hb2 := of_not_decide_leN hb))) | ((refine Either.mk (fun hb => h3 ?_) (fun hb => h1 ?_)) <;> (clear h1 h3 K1 K3; (try have hb2 := of_decide hb); (try have hb2 := of_not_decide_lt hb); (try have hb2 := of_not_decide_le hb); (try have hb2 := of_not_decide_ltN hb); (try have hb2 := of_not_decide_leN hb))) | (refine fun (K2 : _ → AHeap → Prop) hK2 => ?_) | ((with_reducible refine Post.block_off ?hn ?_); (case hn => decide)) | ((with_reducible first | refine Post.body_k ?hd (fun K hK => ?_) | refine Post.body_kn ?hd (fun K hK => ?_)); (case hd => (go_simp; done)); go_simp; refine hK _ _ ?_; clear hK K) | (go_simp; (try go_bits); refine hK2 _ _ ?_; clear hK2 K2))
  exact ⟨rfl, (Ext.refl _).push' _⟩
end Go.Proofs.Try
