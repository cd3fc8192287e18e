/- Contracts of functions, walked. -/
import Derived.Test.YtgddlpegljkgpaaStTG
import Derived.Test.YtgddlpegljkgpaaStSA
import Derived.Test.YtgddlpegljkgpaaStSL
import Derived.Test.YtgddlpegljkgpaaAwB
set_option linter.all false
namespace Go.Proofs.Try
open Go Go.Am Go.RowKit Go.Co
set_option maxRecDepth 100000

theorem first_o {loops : List (Nat × LInfo)} {H : AHeap} {sv cv : Value} {s : Sheet} {c : Copy} (hs : SheetV H sv s) (hc : CopyV H cv c) : CallS Try.prog loops 46 [sv, cv] H fun r H' => (∃ fv, r = .tuple #[fv, .int .i64 (errExt s c)] ∧ Own H' H.n fv 3 1 ((firstL s c).map (Value.int .i64))) ∧ Ext H H' := by
  have HS := Lib.hid hs
  have HC := Lib.hid hc
  obtain ⟨wv, av, rfl, hw, ha⟩ := hs
  obtain ⟨hwl, wa, wc, rfl⟩ := hw.slice
  obtain ⟨hal, aa, ac, rfl⟩ := ha.slice
  obtain ⟨cv, rfl, hcw⟩ := hc
  obtain ⟨hcl, ca, cc, rfl⟩ := hcw.slice
  clear hw ha hcw
  refine CallS.enter' Try.func46 rfl Try.ntmps46 (by simp) fun f hd hf => ?_
  have f0 := hf 0
  have f1 := hf 1
  simp at f0 f1
  clear hf
  have HX1 : Hid (Ext H ((H.push (.row [Value.slice wa s.words.length wc, Value.slice aa s.alts.length ac] 25)).push (.row [Value.slice ca c.words.length cc, .int .i64 c.beg, .int .i64 c.fin, .int .i64 c.per] 27))) := Lib.hid (((Ext.refl _).push' _).push' _)
  generalize hee : errExt s c = er
  have HE := Lib.hid hee
  clear hee
  repeat' (first | (with_reducible first | refine CodeS.seq ?_ | refine CodeS.region_k fun K hK => ?_ | refine opsP_go fun K2 hK2 => ?_ | refine Post.then_normal ?_ | refine Post.then_ret ?_ | refine Post.then_exit ?_ | refine Post.block_normal ?_ | refine Post.block_ret ?_ | refine Post.block_here ?_ | refine Post.scope_normal ?_ | refine Post.scope_ret ?_ | refine Post.scope_exit ?_ | refine Post.round_ret ?_ | refine Post.round_exit ?_ | refine CodeS.block ?_ | refine CodeS.skip ?_ | refine CodeS.ret ?_ | refine CodeS.exit ?_ | refine CodeS.scope ?_ | refine CodeS.label ?_) | ((with_reducible refine opsP_nil (hK _ _ ?_)); clear hK K) | ((with_reducible refine opsP_gd ?hj ?hlt fun K1 K3 d hdst h1 h3 => ?_); (case hj => rfl); (case hlt => exact Nat.le_of_ble_eq_true rfl); cases hdst; go_simp) | ((with_reducible refine CodeS.cond_k fun K1 K3 h1 h3 => ?_); go_simp) | (refine h1 ?_; clear h1 h3 K1 K3) | (refine h3 ?_; clear h1 h3 K1 K3) | ((refine Either.mk (fun hb => h1 ?_) (fun hb => h3 ?_)) <;> (clear h1 h3 K1 K3; (try have hb2 := of_decide hb); (try have hb2 := of_not_decide_lt hb); (try have hb2 := of_not_decide_le hb); (try have hb2 := of_not_decide_ltN hb); (try have hb2 := of_not_decide_leN hb))) | ((refine Either.mk (fun hb => h3 ?_) (fun hb => h1 ?_)) <;> (clear h1 h3 K1 K3; (try have hb2 := of_decide hb); (try have hb2 := of_not_decide_lt hb); (try have hb2 := of_not_decide_le hb); (try have hb2 := of_not_decide_ltN hb); (try have hb2 := of_not_decide_leN hb))) | (refine fun (K2 : _ → AHeap → Prop) hK2 => ?_) | ((with_reducible refine Post.block_off ?hn ?_); (case hn => decide)) | ((with_reducible first | refine Post.body_k ?hd (fun K hK => ?_) | refine Post.body_kn ?hd (fun K hK => ?_)); (case hd => (go_simp; done)); go_simp; refine hK _ _ ?_; clear hK K) | ((with_reducible refine CodeS.tree_lit mixed rfl ?hok 20 fun K0 hK0 => ?_); (case hok => kernel_rfl)) | (with_reducible first | exact loudsP_nil | exact stableP_nil | refine treeP_lit ?_ | refine passP_nil ?_ | refine stableP_keep ?_) | ((with_reducible first | refine passP_skip ?h1 ?_ | refine loudsP_skip ?h1 ?_ | refine stepT_more ?h1 ?_); (case h1 => rfl)) | ((with_reducible refine stepT_done ?h1 ?_); (case h1 => rfl); refine hK0 _ _ ?_; clear hK0 K0) | ((with_reducible refine passP_loud ?h1 ?hg ?hl ?_); (case h1 => rfl); (case hg => rfl); (case hl => rfl)) | ((with_reducible refine passP_q ?h1 ?hl ?hlt fun K2 hK2 => ?_); (case h1 => rfl); (case hl => rfl); (case hlt => exact Nat.le_of_ble_eq_true rfl)) | ((with_reducible refine passP_g ?h1 ?hj ?hl ?hlt fun K1 K3 d hdst h1 h3 => ?_); (case h1 => rfl); (case hj => rfl); (case hl => rfl); (case hlt => exact Nat.le_of_ble_eq_true rfl); cases hdst; go_simp) | ((with_reducible refine passP_lg ?h1 ?hj ?hl ?hlt fun K1 K3 d hdst h1 h3 => ?_); (case h1 => rfl); (case hj => rfl); (case hl => rfl); (case hlt => exact Nat.le_of_ble_eq_true rfl); cases hdst; go_simp) | ((with_reducible refine loudsP_c ?h1 ?hlt (fun K2 hK2 => ?_) ?_); (case h1 => rfl); (case hlt => exact Nat.le_of_ble_eq_true rfl)) | ((with_reducible refine loudsP_cg ?h1 ?hlt ?hj ?hw (fun K2 hK2 => ?_) ?_); (case h1 => rfl); (case hlt => exact Nat.le_of_ble_eq_true rfl); (case hj => rfl); (case hw => (go_simp; done))) | ((with_reducible refine loudsP_v ?h1 ?hv ?hlt (fun K2 hK2 => ?_) ?_); (case h1 => rfl); (case hv => rfl); (case hlt => exact Nat.le_of_ble_eq_true rfl)) | ((with_reducible refine loudsP_u ?h1 ?hv (fun K2 hK2 => ?_) ?_); (case h1 => rfl); (case hv => rfl)) | ((with_reducible refine stableP_pre ?h1 ?_); (case h1 => (first | rfl | (dsimp only; decide +kernel)))) | ((with_reducible refine stableP_re ?h1 ?_); (case h1 => (go_simp; done))) | (go_simp; (try go_bits); (try first | ((with_reducible show CallS _ _ _ _ _ _); refine CallS.mono (extentOf_o (s := s) (c := c) (HS.out.ext HX1.out) (HC.out.ext HX1.out)) ?_; rintro _ H1 ⟨⟨oa, on, oc, pi, fv, lv, rfl, hf1, hl1, -⟩, hx⟩; rw [HE.out]; (have HF := Lib.hid hf1); (have HX2 := Lib.hid (HX1.out.trans hx)); (obtain ⟨fa, fn, rfl⟩ := own_slice hf1); (obtain ⟨la, ln, rfl⟩ := own_slice hl1); clear hf1 hl1 hx)); (first | (refine hK2 _ _ ?_ ?_ <;> clear hK2 K2) | (refine hK2 _ _ ?_; clear hK2 K2))))
  exact ⟨⟨_, rfl, (HF.out.mono (by simp only [AHeap.n_push]; omega)).ext (Ext.push _)⟩, HX2.out.push' _⟩

theorem last_o {loops : List (Nat × LInfo)} {H : AHeap} {sv cv : Value} {s : Sheet} {c : Copy} (hs : SheetV H sv s) (hc : CopyV H cv c) : CallS Try.prog loops 47 [sv, cv] H fun r H' => (∃ fv, r = .tuple #[fv, .int .i64 (errExt s c)] ∧ Own H' H.n fv 3 1 ((lastL s c).map (Value.int .i64))) ∧ Ext H H' := by
  have HS := Lib.hid hs
  have HC := Lib.hid hc
  obtain ⟨wv, av, rfl, hw, ha⟩ := hs
  obtain ⟨hwl, wa, wc, rfl⟩ := hw.slice
  obtain ⟨hal, aa, ac, rfl⟩ := ha.slice
  obtain ⟨cv, rfl, hcw⟩ := hc
  obtain ⟨hcl, ca, cc, rfl⟩ := hcw.slice
  clear hw ha hcw
  refine CallS.enter' Try.func47 rfl Try.ntmps47 (by simp) fun f hd hf => ?_
  have f0 := hf 0
  have f1 := hf 1
  simp at f0 f1
  clear hf
  have HX1 : Hid (Ext H ((H.push (.row [Value.slice wa s.words.length wc, Value.slice aa s.alts.length ac] 25)).push (.row [Value.slice ca c.words.length cc, .int .i64 c.beg, .int .i64 c.fin, .int .i64 c.per] 27))) := Lib.hid (((Ext.refl _).push' _).push' _)
  generalize hee : errExt s c = er
  have HE := Lib.hid hee
  clear hee
  repeat' (first | (with_reducible first | refine CodeS.seq ?_ | refine CodeS.region_k fun K hK => ?_ | refine opsP_go fun K2 hK2 => ?_ | refine Post.then_normal ?_ | refine Post.then_ret ?_ | refine Post.then_exit ?_ | refine Post.block_normal ?_ | refine Post.block_ret ?_ | refine Post.block_here ?_ | refine Post.scope_normal ?_ | refine Post.scope_ret ?_ | refine Post.scope_exit ?_ | refine Post.round_ret ?_ | refine Post.round_exit ?_ | refine CodeS.block ?_ | refine CodeS.skip ?_ | refine CodeS.ret ?_ | refine CodeS.exit ?_ | refine CodeS.scope ?_ | refine CodeS.label ?_) | ((with_reducible refine opsP_nil (hK _ _ ?_)); clear hK K) | ((with_reducible refine opsP_gd ?hj ?hlt fun K1 K3 d hdst h1 h3 => ?_); (case hj => rfl); (case hlt => exact Nat.le_of_ble_eq_true rfl); cases hdst; go_simp) | ((with_reducible refine CodeS.cond_k fun K1 K3 h1 h3 => ?_); go_simp) | (refine h1 ?_; clear h1 h3 K1 K3) | (refine h3 ?_; clear h1 h3 K1 K3) | ((refine Either.mk (fun hb => h1 ?_) (fun hb => h3 ?_)) <;> (clear h1 h3 K1 K3; (try have hb2 := of_decide hb); (try have hb2 := of_not_decide_lt hb); (try have hb2 := of_not_decide_le hb); (try have hb2 := of_not_decide_ltN hb); (try have hb2 := of_not_decide_leN hb))) | ((refine Either.mk (fun hb => h3 ?_) (fun hb => h1 ?_)) <;> (clear h1 h3 K1 K3; (try have hb2 := of_decide hb); (try have hb2 := of_not_decide_lt hb); (try have hb2 := of_not_decide_le hb); (try have hb2 := of_not_decide_ltN hb); (try have hb2 := of_not_decide_leN hb))) | (refine fun (K2 : _ → AHeap → Prop) hK2 => ?_) | ((with_reducible refine Post.block_off ?hn ?_); (case hn => decide)) | ((with_reducible first | refine Post.body_k ?hd (fun K hK => ?_) | refine Post.body_kn ?hd (fun K hK => ?_)); (case hd => (go_simp; done)); go_simp; refine hK _ _ ?_; clear hK K) | ((with_reducible refine CodeS.tree_lit mixed rfl ?hok 20 fun K0 hK0 => ?_); (case hok => kernel_rfl)) | (with_reducible first | exact loudsP_nil | exact stableP_nil | refine treeP_lit ?_ | refine passP_nil ?_ | refine stableP_keep ?_) | ((with_reducible first | refine passP_skip ?h1 ?_ | refine loudsP_skip ?h1 ?_ | refine stepT_more ?h1 ?_); (case h1 => rfl)) | ((with_reducible refine stepT_done ?h1 ?_); (case h1 => rfl); refine hK0 _ _ ?_; clear hK0 K0) | ((with_reducible refine passP_loud ?h1 ?hg ?hl ?_); (case h1 => rfl); (case hg => rfl); (case hl => rfl)) | ((with_reducible refine passP_q ?h1 ?hl ?hlt fun K2 hK2 => ?_); (case h1 => rfl); (case hl => rfl); (case hlt => exact Nat.le_of_ble_eq_true rfl)) | ((with_reducible refine passP_g ?h1 ?hj ?hl ?hlt fun K1 K3 d hdst h1 h3 => ?_); (case h1 => rfl); (case hj => rfl); (case hl => rfl); (case hlt => exact Nat.le_of_ble_eq_true rfl); cases hdst; go_simp) | ((with_reducible refine passP_lg ?h1 ?hj ?hl ?hlt fun K1 K3 d hdst h1 h3 => ?_); (case h1 => rfl); (case hj => rfl); (case hl => rfl); (case hlt => exact Nat.le_of_ble_eq_true rfl); cases hdst; go_simp) | ((with_reducible refine loudsP_c ?h1 ?hlt (fun K2 hK2 => ?_) ?_); (case h1 => rfl); (case hlt => exact Nat.le_of_ble_eq_true rfl)) | ((with_reducible refine loudsP_cg ?h1 ?hlt ?hj ?hw (fun K2 hK2 => ?_) ?_); (case h1 => rfl); (case hlt => exact Nat.le_of_ble_eq_true rfl); (case hj => rfl); (case hw => (go_simp; done))) | ((with_reducible refine loudsP_v ?h1 ?hv ?hlt (fun K2 hK2 => ?_) ?_); (case h1 => rfl); (case hv => rfl); (case hlt => exact Nat.le_of_ble_eq_true rfl)) | ((with_reducible refine loudsP_u ?h1 ?hv (fun K2 hK2 => ?_) ?_); (case h1 => rfl); (case hv => rfl)) | ((with_reducible refine stableP_pre ?h1 ?_); (case h1 => (first | rfl | (dsimp only; decide +kernel)))) | ((with_reducible refine stableP_re ?h1 ?_); (case h1 => (go_simp; done))) | (go_simp; (try go_bits); (try first | ((with_reducible show CallS _ _ _ _ _ _); refine CallS.mono (extentOf_o (s := s) (c := c) (HS.out.ext HX1.out) (HC.out.ext HX1.out)) ?_; rintro _ H1 ⟨⟨oa, on, oc, pi, fv, lv, rfl, hf1, hl1, -⟩, hx⟩; rw [HE.out]; (have HF := Lib.hid hl1); (have HX2 := Lib.hid (HX1.out.trans hx)); (obtain ⟨fa, fn, rfl⟩ := own_slice hf1); (obtain ⟨la, ln, rfl⟩ := own_slice hl1); clear hf1 hl1 hx)); (first | (refine hK2 _ _ ?_ ?_ <;> clear hK2 K2) | (refine hK2 _ _ ?_; clear hK2 K2))))
  exact ⟨⟨_, rfl, (HF.out.mono (by simp only [AHeap.n_push]; omega)).ext (Ext.push _)⟩, HX2.out.push' _⟩
theorem first_e {loops : List (Nat × LInfo)} {H : AHeap} {sv cv : Value} {s : Sheet} {c : Copy} (hs : SheetV H sv s) (hc : CopyV H cv c) : CallS Try.prog loops 46 [sv, cv] H fun r H' => (∃ fv, r = .tuple #[fv, .int .i64 (errExt s c)] ∧ Ints H' fv (firstL s c)) ∧ Ext H H' :=
  CallS.mono (first_o hs hc) fun _ _ ⟨⟨fv, h1, h2⟩, h3⟩ => ⟨⟨fv, h1, ints_of_own h2 (ends_len s c).1⟩, h3⟩
theorem last_e {loops : List (Nat × LInfo)} {H : AHeap} {sv cv : Value} {s : Sheet} {c : Copy} (hs : SheetV H sv s) (hc : CopyV H cv c) : CallS Try.prog loops 47 [sv, cv] H fun r H' => (∃ fv, r = .tuple #[fv, .int .i64 (errExt s c)] ∧ Ints H' fv (lastL s c)) ∧ Ext H H' :=
  CallS.mono (last_o hs hc) fun _ _ ⟨⟨fv, h1, h2⟩, h3⟩ => ⟨⟨fv, h1, ints_of_own h2 (ends_len s c).2⟩, h3⟩
end Go.Proofs.Try
namespace Go.Proofs.Try
open Go Go.Am Go.RowKit Go.Co

/-! The ends of a course: pure. -/
def Course.op (x : Course) (i : Nat) (d : Int) : Bool := ins (x.at_ i) d
theorem Course.op_in {x : Course} (h : x.ord) (i : Nat) (d : Int) (ho : x.op i d = true) : 0 ≤ d ∧ d ≤ 730 := ordS_ins _ (h i) d ho
def Course.fit (x : Course) (p : Nat) (g : List Int) : Prop := g.length = x.open_.length ∧ FitTo x.op p g g.length

theorem Course.early_fit {x : Course} {p : Nat} (h : x.ord) (hp : 1 ≤ p) (hm : x.made p = true) : x.fit p (x.early p 0) := by
  have h1 : (x.early p 0).length = x.open_.length := by simpa [Course.made] using hm
  exact ⟨h1, (early_ok (op := x.op) hp (fun i f => x.nx_ok h i f) x.open_.length (frm := 0)).2.1⟩
theorem Course.fit_in {x : Course} {p : Nat} {g : List Int} (h : x.ord) (hg : x.fit p g) : ∀ i, i < g.length → 0 ≤ g.getD i 0 ∧ g.getD i 0 ≤ 730 := fun i hi => x.op_in h i _ (hg.2 i hi).1
theorem Course.fit_early {x : Course} {p : Nat} {g : List Int} (h : x.ord) (hp : 1 ≤ p) (hg : x.fit p g) : x.made p = true ∧ ∀ i, i < g.length → (x.early p 0).getD i 0 ≤ g.getD i 0 := by
  have h1 := early_ok (op := x.op) hp (fun i f => x.nx_ok h i f) x.open_.length (frm := 0)
  obtain ⟨h2, -, -, h3⟩ := h1
  obtain ⟨h4, h5⟩ := h3 g g.length (by have := hg.1; omega) hg.2 (fun i hi => (x.fit_in h hg i hi).1)
  refine ⟨?_, h5⟩
  have h6 : (x.early p 0).length = x.open_.length := by
    have h7 : g.length ≤ (x.early p 0).length := h4
    have h8 : (x.early p 0).length ≤ x.open_.length := h2
    have := hg.1
    omega
  simp [Course.made, h6]

theorem Course.mir_len (x : Course) : x.mir.open_.length = x.open_.length := by simp [Course.mir]
theorem Course.mir_at {x : Course} {i : Nat} (hi : i < x.open_.length) : x.mir.at_ i = flipS (x.at_ (x.open_.length - 1 - i)) := by
  simp [Course.mir, Course.at_, hi, List.getElem_reverse, show x.open_.length - 1 - i < x.open_.length by omega]
theorem Course.mir_op {x : Course} {i : Nat} (hi : i < x.open_.length) (d : Int) : x.mir.op i d = x.op (x.open_.length - 1 - i) (730 - d) := by
  rw [Course.op, x.mir_at hi, flipS_ins]; rfl
theorem Course.mir_fit {x : Course} {p : Nat} {g : List Int} (h : x.ord) (hp : 1 ≤ p) (hg : x.fit p g) : x.mir.fit p (flipD g) := by
  refine ⟨by rw [flipD_len, x.mir_len]; exact hg.1, ?_⟩
  rw [flipD_len]
  refine fit_flip hp (x.op_in h) (fun i d hi => ?_) hg.2
  rw [x.mir_op (by have := hg.1; omega), ← hg.1]
theorem Course.fit_mir {x : Course} {p : Nat} {g : List Int} (h : x.ord) (hp : 1 ≤ p) (hg : x.mir.fit p g) : x.fit p (flipD g) := by
  have hl : g.length = x.open_.length := by rw [← x.mir_len]; exact hg.1
  refine ⟨by rw [flipD_len]; exact hl, ?_⟩
  rw [flipD_len]
  refine fit_flip hp (x.mir.op_in (Course.mir_ord h)) (fun i d hi => ?_) hg.2
  rw [x.mir_op (by omega), hl, show x.open_.length - 1 - (x.open_.length - 1 - i) = i by omega, show (730 : Int) - (730 - d) = d by omega]
theorem Course.mir_made {x : Course} {p : Nat} (h : x.ord) (hp : 1 ≤ p) : x.mir.made p = x.made p := by
  rw [Bool.eq_iff_iff]
  constructor
  · intro hm
    exact (x.fit_early h hp (x.fit_mir h hp (x.mir.early_fit (Course.mir_ord h) hp hm))).1
  · intro hm
    exact (x.mir.fit_early (Course.mir_ord h) hp (x.mir_fit h hp (x.early_fit h hp hm))).1
theorem Course.late_fit {x : Course} {p : Nat} (h : x.ord) (hp : 1 ≤ p) (hm : x.made p = true) : x.fit p (x.late p) :=
  x.fit_mir h hp (x.mir.early_fit (Course.mir_ord h) hp (by rw [x.mir_made h hp]; exact hm))
theorem flip_le {a b : List Int} (hl : a.length = b.length) (h : ∀ i, i < b.length → a.getD i 0 ≤ (flipD b).getD i 0) : ∀ i, i < b.length → b.getD i 0 ≤ (flipD a).getD i 0 := by
  intro i hi
  have h1 := h (b.length - 1 - i) (by omega)
  rw [flipD_get (by omega)] at h1
  rw [flipD_get (by omega), hl]
  rw [show b.length - 1 - (b.length - 1 - i) = i by omega] at h1
  omega
theorem Course.fit_late {x : Course} {p : Nat} {g : List Int} (h : x.ord) (hp : 1 ≤ p) (hg : x.fit p g) : ∀ i, i < g.length → g.getD i 0 ≤ (x.late p).getD i 0 := by
  have h1 := x.mir.fit_early (Course.mir_ord h) hp (x.mir_fit h hp hg)
  have h2 : (x.mir.early p 0).length = g.length := by
    have := h1.1
    simp only [Course.made, decide_eq_true_eq] at this
    rw [this, x.mir_len, hg.1]
  refine flip_le h2 (fun i hi => h1.2 i (by rw [flipD_len]; exact hi))

end Go.Proofs.Try
namespace Go.Proofs.Try
open Go Go.Am Go.RowKit
set_option maxRecDepth 100000

/-! Numbers below others. -/
def belowL (a b : List Int) (n : Nat) : Bool := decide (n ≤ a.length) && decide (n ≤ b.length) && (List.range n).all fun i => decide (a.getD i 0 ≤ b.getD i 0)
theorem belowL_iff {a b : List Int} {n : Nat} : belowL a b n = true ↔ n ≤ a.length ∧ n ≤ b.length ∧ ∀ i, i < n → a.getD i 0 ≤ b.getD i 0 := by
  simp [belowL, and_assoc]

theorem below_s {loops : List (Nat × LInfo)} {H : AHeap} {u v : Value} {xs ys : List Int} {n : Nat} (hu : Ints H u xs) (hv : Ints H v ys) : CallS Try.prog loops 50 [u, v, .int .i64 n] H fun r H' => r = .bool (belowL xs ys n) ∧ H' = H := by
  obtain ⟨hlen, a, c, rfl⟩ := hu.slice
  obtain ⟨hlen2, a2, c2, rfl⟩ := hv.slice
  have HU := Lib.hid hu
  have HV := Lib.hid hv
  clear hu hv
  generalize he : belowL xs ys n = er
  have HE := Lib.hid he
  clear he
  refine CallS.enter' Try.func50 rfl Try.ntmps50 (by simp) fun f hd hf => ?_
  have f0 := hf 0
  have f1 := hf 1
  have f2 := hf 2
  simp at f0 f1 f2
  clear hf
  repeat' (first | (with_reducible first | refine CodeS.seq ?_ | refine CodeS.region_k fun K hK => ?_ | refine opsP_go fun K2 hK2 => ?_ | refine Post.then_normal ?_ | refine Post.then_ret ?_ | refine Post.then_exit ?_ | refine Post.block_normal ?_ | refine Post.block_ret ?_ | refine Post.block_here ?_ | refine Post.scope_normal ?_ | refine Post.scope_ret ?_ | refine Post.scope_exit ?_ | refine Post.round_ret ?_ | refine Post.round_exit ?_ | refine CodeS.block ?_ | refine CodeS.skip ?_ | refine CodeS.ret ?_ | refine CodeS.exit ?_ | refine CodeS.scope ?_ | refine CodeS.label ?_) | ((with_reducible refine opsP_nil (hK _ _ ?_)); clear hK K) | ((with_reducible refine opsP_gd ?hj ?hlt fun K1 K3 d hdst h1 h3 => ?_); (case hj => rfl); (case hlt => exact Nat.le_of_ble_eq_true rfl); cases hdst; go_simp) | ((with_reducible refine CodeS.cond_k fun K1 K3 h1 h3 => ?_); go_simp) | (refine h1 ?_; clear h1 h3 K1 K3) | (refine h3 ?_; clear h1 h3 K1 K3) | ((refine Either.mk (fun hb => h1 ?_) (fun hb => h3 ?_)) <;> (clear h1 h3 K1 K3; (try have hb2 := of_decide hb); (try have hb2 := of_not_decide_lt hb); (try have hb2 := of_not_decide_le hb); (try have hb2 := of_not_decide_ltN hb); (try have hb2 := of_not_decide_leN hb))) | ((refine Either.mk (fun hb => h3 ?_) (fun hb => h1 ?_)) <;> (clear h1 h3 K1 K3; (try have hb2 := of_decide hb); (try have hb2 := of_not_decide_lt hb); (try have hb2 := of_not_decide_le hb); (try have hb2 := of_not_decide_ltN hb); (try have hb2 := of_not_decide_leN hb))) | (refine fun (K2 : _ → AHeap → Prop) hK2 => ?_) | ((with_reducible refine Post.block_off ?hn ?_); (case hn => decide)) | ((with_reducible first | refine Post.body_k ?hd (fun K hK => ?_) | refine Post.body_kn ?hd (fun K hK => ?_)); (case hd => (go_simp; done)); go_simp; refine hK _ _ ?_; clear hK K) | ((with_reducible refine CodeS.tree_lit mixed rfl ?hok 20 fun K0 hK0 => ?_); (case hok => kernel_rfl)) | (with_reducible first | exact loudsP_nil | exact stableP_nil | refine treeP_lit ?_ | refine passP_nil ?_ | refine stableP_keep ?_) | ((with_reducible first | refine passP_skip ?h1 ?_ | refine loudsP_skip ?h1 ?_ | refine stepT_more ?h1 ?_); (case h1 => rfl)) | ((with_reducible refine stepT_done ?h1 ?_); (case h1 => rfl); refine hK0 _ _ ?_; clear hK0 K0) | ((with_reducible refine passP_loud ?h1 ?hg ?hl ?_); (case h1 => rfl); (case hg => rfl); (case hl => rfl)) | ((with_reducible refine passP_q ?h1 ?hl ?hlt fun K2 hK2 => ?_); (case h1 => rfl); (case hl => rfl); (case hlt => exact Nat.le_of_ble_eq_true rfl)) | ((with_reducible refine passP_g ?h1 ?hj ?hl ?hlt fun K1 K3 d hdst h1 h3 => ?_); (case h1 => rfl); (case hj => rfl); (case hl => rfl); (case hlt => exact Nat.le_of_ble_eq_true rfl); cases hdst; go_simp) | ((with_reducible refine passP_lg ?h1 ?hj ?hl ?hlt fun K1 K3 d hdst h1 h3 => ?_); (case h1 => rfl); (case hj => rfl); (case hl => rfl); (case hlt => exact Nat.le_of_ble_eq_true rfl); cases hdst; go_simp) | ((with_reducible refine loudsP_c ?h1 ?hlt (fun K2 hK2 => ?_) ?_); (case h1 => rfl); (case hlt => exact Nat.le_of_ble_eq_true rfl)) | ((with_reducible refine loudsP_cg ?h1 ?hlt ?hj ?hw (fun K2 hK2 => ?_) ?_); (case h1 => rfl); (case hlt => exact Nat.le_of_ble_eq_true rfl); (case hj => rfl); (case hw => (go_simp; done))) | ((with_reducible refine loudsP_v ?h1 ?hv ?hlt (fun K2 hK2 => ?_) ?_); (case h1 => rfl); (case hv => rfl); (case hlt => exact Nat.le_of_ble_eq_true rfl)) | ((with_reducible refine loudsP_u ?h1 ?hv (fun K2 hK2 => ?_) ?_); (case h1 => rfl); (case hv => rfl)) | ((with_reducible refine stableP_pre ?h1 ?_); (case h1 => (first | rfl | (dsimp only; decide +kernel)))) | ((with_reducible refine stableP_re ?h1 ?_); (case h1 => (go_simp; done))) | (go_simp; (try go_bits); (first | (refine hK2 _ _ ?_ ?_ <;> clear hK2 K2) | (refine hK2 _ _ ?_; clear hK2 K2))))
  all_goals first
    | (refine ⟨?_, rfl⟩
       have h0 : ¬ (n ≤ xs.length ∧ n ≤ ys.length) := by omega
       have h1 : belowL xs ys n = false := by rw [Bool.eq_false_iff]; intro h; have := belowL_iff.1 h; exact h0 ⟨this.1, this.2.1⟩
       rw [← HE.out, h1])
    | skip
  have h1 : n ≤ xs.length := by omega
  have h2 : n ≤ ys.length := by omega
  refine CodeS.loop (fun m f H' => ∃ k : Nat, k ≤ n ∧ m = n - k ∧ f.tmp 7 = .int .i64 k ∧ f.tmp 0 = .slice a xs.length c ∧ f.tmp 1 = .slice a2 ys.length c2 ∧ f.tmp 2 = .int .i64 n ∧ f.defers = [] ∧ Hid (∀ i, i < k → xs.getD i 0 ≤ ys.getD i 0) ∧ H' = H) n ?_ ?_
  · exact ⟨0, by simp, by simp, (by first | (go_simp; done) | (go_simp; go_num; done) | assumption), (by first | (go_simp; done) | (go_simp; go_num; done) | assumption), (by first | (go_simp; done) | (go_simp; go_num; done) | assumption), (by first | (go_simp; done) | (go_simp; go_num; done) | assumption), (by first | (go_simp; done) | (go_simp; go_num; done) | assumption), Lib.hid (by intro i hi; omega), rfl⟩
  clear f0 f1 f2 hd f
  rintro m f H' ⟨k, hk, rfl, f7, f0, f1, f2, hd, HG, rfl⟩
  by_cases hlt : k < n
  · have hlx : k < xs.length := by omega
    have hly : k < ys.length := by omega
    obtain ⟨b, o, sp, rfl, hb, hx⟩ := HU.out.at_ hlx
    obtain ⟨b2, o2, sp2, rfl, hb2, hx2⟩ := HV.out.at_ hly
    have HX : Hid (xs.getD k 0 = xs[k]) := Lib.hid (by simp [List.getD_eq_getElem?_getD, hlx])
    have HY : Hid (ys.getD k 0 = ys[k]) := Lib.hid (by simp [List.getD_eq_getElem?_getD, hly])
    generalize xs[k] = x at hx HX
    generalize ys[k] = y at hx2 HY
    repeat' (first | (with_reducible first | refine CodeS.seq ?_ | refine CodeS.region_k fun K hK => ?_ | refine opsP_go fun K2 hK2 => ?_ | refine Post.then_normal ?_ | refine Post.then_ret ?_ | refine Post.then_exit ?_ | refine Post.block_normal ?_ | refine Post.block_ret ?_ | refine Post.block_here ?_ | refine Post.scope_normal ?_ | refine Post.scope_ret ?_ | refine Post.scope_exit ?_ | refine Post.round_ret ?_ | refine Post.round_exit ?_ | refine CodeS.block ?_ | refine CodeS.skip ?_ | refine CodeS.ret ?_ | refine CodeS.exit ?_ | refine CodeS.scope ?_ | refine CodeS.label ?_) | ((with_reducible refine opsP_nil (hK _ _ ?_)); clear hK K) | ((with_reducible refine opsP_gd ?hj ?hlt fun K1 K3 d hdst h1 h3 => ?_); (case hj => rfl); (case hlt => exact Nat.le_of_ble_eq_true rfl); cases hdst; go_simp) | ((with_reducible refine CodeS.cond_k fun K1 K3 h1 h3 => ?_); go_simp) | (refine h1 ?_; clear h1 h3 K1 K3) | (refine h3 ?_; clear h1 h3 K1 K3) | ((refine Either.mk (fun hb => h1 ?_) (fun hb => h3 ?_)) <;> (clear h1 h3 K1 K3; (try have hb2 := of_decide hb); (try have hb2 := of_not_decide_lt hb); (try have hb2 := of_not_decide_le hb); (try have hb2 := of_not_decide_ltN hb); (try have hb2 := of_not_decide_leN hb))) | ((refine Either.mk (fun hb => h3 ?_) (fun hb => h1 ?_)) <;> (clear h1 h3 K1 K3; (try have hb2 := of_decide hb); (try have hb2 := of_not_decide_lt hb); (try have hb2 := of_not_decide_le hb); (try have hb2 := of_not_decide_ltN hb); (try have hb2 := of_not_decide_leN hb))) | (refine fun (K2 : _ → AHeap → Prop) hK2 => ?_) | ((with_reducible refine Post.block_off ?hn ?_); (case hn => decide)) | ((with_reducible first | refine Post.body_k ?hd (fun K hK => ?_) | refine Post.body_kn ?hd (fun K hK => ?_)); (case hd => (go_simp; done)); go_simp; refine hK _ _ ?_; clear hK K) | ((with_reducible refine CodeS.tree_lit mixed rfl ?hok 20 fun K0 hK0 => ?_); (case hok => kernel_rfl)) | (with_reducible first | exact loudsP_nil | exact stableP_nil | refine treeP_lit ?_ | refine passP_nil ?_ | refine stableP_keep ?_) | ((with_reducible first | refine passP_skip ?h1 ?_ | refine loudsP_skip ?h1 ?_ | refine stepT_more ?h1 ?_); (case h1 => rfl)) | ((with_reducible refine stepT_done ?h1 ?_); (case h1 => rfl); refine hK0 _ _ ?_; clear hK0 K0) | ((with_reducible refine passP_loud ?h1 ?hg ?hl ?_); (case h1 => rfl); (case hg => rfl); (case hl => rfl)) | ((with_reducible refine passP_q ?h1 ?hl ?hlt fun K2 hK2 => ?_); (case h1 => rfl); (case hl => rfl); (case hlt => exact Nat.le_of_ble_eq_true rfl)) | ((with_reducible refine passP_g ?h1 ?hj ?hl ?hlt fun K1 K3 d hdst h1 h3 => ?_); (case h1 => rfl); (case hj => rfl); (case hl => rfl); (case hlt => exact Nat.le_of_ble_eq_true rfl); cases hdst; go_simp) | ((with_reducible refine passP_lg ?h1 ?hj ?hl ?hlt fun K1 K3 d hdst h1 h3 => ?_); (case h1 => rfl); (case hj => rfl); (case hl => rfl); (case hlt => exact Nat.le_of_ble_eq_true rfl); cases hdst; go_simp) | ((with_reducible refine loudsP_c ?h1 ?hlt (fun K2 hK2 => ?_) ?_); (case h1 => rfl); (case hlt => exact Nat.le_of_ble_eq_true rfl)) | ((with_reducible refine loudsP_cg ?h1 ?hlt ?hj ?hw (fun K2 hK2 => ?_) ?_); (case h1 => rfl); (case hlt => exact Nat.le_of_ble_eq_true rfl); (case hj => rfl); (case hw => (go_simp; done))) | ((with_reducible refine loudsP_v ?h1 ?hv ?hlt (fun K2 hK2 => ?_) ?_); (case h1 => rfl); (case hv => rfl); (case hlt => exact Nat.le_of_ble_eq_true rfl)) | ((with_reducible refine loudsP_u ?h1 ?hv (fun K2 hK2 => ?_) ?_); (case h1 => rfl); (case hv => rfl)) | ((with_reducible refine stableP_pre ?h1 ?_); (case h1 => (first | rfl | (dsimp only; decide +kernel)))) | ((with_reducible refine stableP_re ?h1 ?_); (case h1 => (go_simp; done))) | (go_simp; (try go_bits); (first | (refine hK2 _ _ ?_ ?_ <;> clear hK2 K2) | (refine hK2 _ _ ?_; clear hK2 K2))))
    · refine ⟨?_, rfl⟩
      have h3 : belowL xs ys n = false := by rw [Bool.eq_false_iff]; intro h; have := (belowL_iff.1 h).2.2 k hlt; rw [HX.out, HY.out] at this; omega
      rw [← HE.out, h3]
    · refine Post.round_normal ⟨n - (k + 1), by omega, k + 1, by omega, rfl, (by first | (go_simp; done) | (go_simp; go_num; done) | assumption), (by first | (go_simp; done) | (go_simp; go_num; done) | assumption), (by first | (go_simp; done) | (go_simp; go_num; done) | assumption), (by first | (go_simp; done) | (go_simp; go_num; done) | assumption), (by first | (go_simp; done) | (go_simp; go_num; done) | assumption), Lib.hid ?_, rfl⟩
      intro i hi
      rcases Nat.lt_or_ge i k with h3 | h3
      · exact HG.out i h3
      · have : i = k := by omega
        rw [this, HX.out, HY.out]; omega
  · repeat' (first | (with_reducible first | refine CodeS.seq ?_ | refine CodeS.region_k fun K hK => ?_ | refine opsP_go fun K2 hK2 => ?_ | refine Post.then_normal ?_ | refine Post.then_ret ?_ | refine Post.then_exit ?_ | refine Post.block_normal ?_ | refine Post.block_ret ?_ | refine Post.block_here ?_ | refine Post.scope_normal ?_ | refine Post.scope_ret ?_ | refine Post.scope_exit ?_ | refine Post.round_ret ?_ | refine Post.round_exit ?_ | refine CodeS.block ?_ | refine CodeS.skip ?_ | refine CodeS.ret ?_ | refine CodeS.exit ?_ | refine CodeS.scope ?_ | refine CodeS.label ?_) | ((with_reducible refine opsP_nil (hK _ _ ?_)); clear hK K) | ((with_reducible refine opsP_gd ?hj ?hlt fun K1 K3 d hdst h1 h3 => ?_); (case hj => rfl); (case hlt => exact Nat.le_of_ble_eq_true rfl); cases hdst; go_simp) | ((with_reducible refine CodeS.cond_k fun K1 K3 h1 h3 => ?_); go_simp) | (refine h1 ?_; clear h1 h3 K1 K3) | (refine h3 ?_; clear h1 h3 K1 K3) | ((refine Either.mk (fun hb => h1 ?_) (fun hb => h3 ?_)) <;> (clear h1 h3 K1 K3; (try have hb2 := of_decide hb); (try have hb2 := of_not_decide_lt hb); (try have hb2 := of_not_decide_le hb); (try have hb2 := of_not_decide_ltN hb); (try have hb2 := of_not_decide_leN hb))) | ((refine Either.mk (fun hb => h3 ?_) (fun hb => h1 ?_)) <;> (clear h1 h3 K1 K3; (try have hb2 := of_decide hb); (try have hb2 := of_not_decide_lt hb); (try have hb2 := of_not_decide_le hb); (try have hb2 := of_not_decide_ltN hb); (try have hb2 := of_not_decide_leN hb))) | (refine fun (K2 : _ → AHeap → Prop) hK2 => ?_) | ((with_reducible refine Post.block_off ?hn ?_); (case hn => decide)) | ((with_reducible first | refine Post.body_k ?hd (fun K hK => ?_) | refine Post.body_kn ?hd (fun K hK => ?_)); (case hd => (go_simp; done)); go_simp; refine hK _ _ ?_; clear hK K) | ((with_reducible refine CodeS.tree_lit mixed rfl ?hok 20 fun K0 hK0 => ?_); (case hok => kernel_rfl)) | (with_reducible first | exact loudsP_nil | exact stableP_nil | refine treeP_lit ?_ | refine passP_nil ?_ | refine stableP_keep ?_) | ((with_reducible first | refine passP_skip ?h1 ?_ | refine loudsP_skip ?h1 ?_ | refine stepT_more ?h1 ?_); (case h1 => rfl)) | ((with_reducible refine stepT_done ?h1 ?_); (case h1 => rfl); refine hK0 _ _ ?_; clear hK0 K0) | ((with_reducible refine passP_loud ?h1 ?hg ?hl ?_); (case h1 => rfl); (case hg => rfl); (case hl => rfl)) | ((with_reducible refine passP_q ?h1 ?hl ?hlt fun K2 hK2 => ?_); (case h1 => rfl); (case hl => rfl); (case hlt => exact Nat.le_of_ble_eq_true rfl)) | ((with_reducible refine passP_g ?h1 ?hj ?hl ?hlt fun K1 K3 d hdst h1 h3 => ?_); (case h1 => rfl); (case hj => rfl); (case hl => rfl); (case hlt => exact Nat.le_of_ble_eq_true rfl); cases hdst; go_simp) | ((with_reducible refine passP_lg ?h1 ?hj ?hl ?hlt fun K1 K3 d hdst h1 h3 => ?_); (case h1 => rfl); (case hj => rfl); (case hl => rfl); (case hlt => exact Nat.le_of_ble_eq_true rfl); cases hdst; go_simp) | ((with_reducible refine loudsP_c ?h1 ?hlt (fun K2 hK2 => ?_) ?_); (case h1 => rfl); (case hlt => exact Nat.le_of_ble_eq_true rfl)) | ((with_reducible refine loudsP_cg ?h1 ?hlt ?hj ?hw (fun K2 hK2 => ?_) ?_); (case h1 => rfl); (case hlt => exact Nat.le_of_ble_eq_true rfl); (case hj => rfl); (case hw => (go_simp; done))) | ((with_reducible refine loudsP_v ?h1 ?hv ?hlt (fun K2 hK2 => ?_) ?_); (case h1 => rfl); (case hv => rfl); (case hlt => exact Nat.le_of_ble_eq_true rfl)) | ((with_reducible refine loudsP_u ?h1 ?hv (fun K2 hK2 => ?_) ?_); (case h1 => rfl); (case hv => rfl)) | ((with_reducible refine stableP_pre ?h1 ?_); (case h1 => (first | rfl | (dsimp only; decide +kernel)))) | ((with_reducible refine stableP_re ?h1 ?_); (case h1 => (go_simp; done))) | (go_simp; (try go_bits); (first | (refine hK2 _ _ ?_ ?_ <;> clear hK2 K2) | (refine hK2 _ _ ?_; clear hK2 K2))))
    refine ⟨?_, rfl⟩
    have h3 : belowL xs ys n = true := belowL_iff.2 ⟨h1, h2, fun i hi => HG.out i (by omega)⟩
    rw [← HE.out, h3]
end Go.Proofs.Try
namespace Go.Proofs.Try
open Go Go.Am Go.RowKit Go.Co
set_option maxRecDepth 100000

/-! The days of a line. -/
theorem possible_e {loops : List (Nat × LInfo)} {H : AHeap} {oa fa la : Option Addr} {oc fc lc : Nat} {pi : Int} {x : Course} {fs ls : List Int} {k : Nat} (hv : Rows H (.slice oa x.open_.length oc) x.open_) (hf : Ints H (.slice fa fs.length fc) fs) (hl : Ints H (.slice la ls.length lc) ls) (hk : k < x.open_.length) (hkf : k < fs.length) (hkl : k < ls.length) (hlen : (x.at_ k).length ≤ 1000) : CallS Try.prog loops 98 [.agg #[.slice oa x.open_.length oc, .int .i64 pi, .slice fa fs.length fc, .slice la ls.length lc], .int .i64 k] H fun r H' => Own H' H.n r 87 2 (spanCells (cutS (fs.getD k 0) (ls.getD k 0) (x.at_ k))) ∧ Ext H H' := by
  obtain ⟨b, o, sp, u, rfl, hb, hc, hu⟩ := hv.at_ hk
  have HU := Lib.hid hu
  have hat : x.at_ k = x.open_[k] := by simp [Course.at_, hk]
  rw [hat] at hlen ⊢
  obtain ⟨b1, o1, sp1, rfl, hb1, hc1⟩ := hf.at_ hkf
  obtain ⟨b2, o2, sp2, rfl, hb2, hc2⟩ := hl.at_ hkl
  have e1 : fs.getD k 0 = fs[k] := by simp [List.getD_eq_getElem?_getD, hkf]
  have e2 : ls.getD k 0 = ls[k] := by simp [List.getD_eq_getElem?_getD, hkl]
  rw [e1, e2]
  have HB := Lib.hid (fun (loops : List (Nat × LInfo)) (H' : AHeap) (hx : Ext H H') => cut_e (loops := loops) (lo := fs[k]) (hi := ls[k]) (HU.out.ext hx) hlen)
  obtain ⟨hll, ua, uc, rfl⟩ := hu.slice
  generalize fs[k] = lo at hc1 HB
  generalize ls[k] = hi at hc2 HB
  generalize x.open_[k] = l at HB HU hll hc
  clear hu e1 e2 hat hf hl hv
  refine CallS.enter' Try.func98 rfl Try.ntmps98 (by simp) fun f hd hf => ?_
  have f0 := hf 0
  have f1 := hf 1
  simp at f0 f1
  clear hf
  repeat' (first | (with_reducible first | refine CodeS.seq ?_ | refine CodeS.region_k fun K hK => ?_ | refine opsP_go fun K2 hK2 => ?_ | refine Post.then_normal ?_ | refine Post.then_ret ?_ | refine Post.then_exit ?_ | refine Post.block_normal ?_ | refine Post.block_ret ?_ | refine Post.block_here ?_ | refine Post.scope_normal ?_ | refine Post.scope_ret ?_ | refine Post.scope_exit ?_ | refine Post.round_ret ?_ | refine Post.round_exit ?_ | refine CodeS.block ?_ | refine CodeS.skip ?_ | refine CodeS.ret ?_ | refine CodeS.exit ?_ | refine CodeS.scope ?_ | refine CodeS.label ?_) | ((with_reducible refine opsP_nil (hK _ _ ?_)); clear hK K) | ((with_reducible refine opsP_gd ?hj ?hlt fun K1 K3 d hdst h1 h3 => ?_); (case hj => rfl); (case hlt => exact Nat.le_of_ble_eq_true rfl); cases hdst; go_simp) | ((with_reducible refine CodeS.cond_k fun K1 K3 h1 h3 => ?_); go_simp) | (refine h1 ?_; clear h1 h3 K1 K3) | (refine h3 ?_; clear h1 h3 K1 K3) | ((refine Either.mk (fun hb => h1 ?_) (fun hb => h3 ?_)) <;> (clear h1 h3 K1 K3; (try have hb2 := of_decide hb); (try have hb2 := of_not_decide_lt hb); (try have hb2 := of_not_decide_le hb); (try have hb2 := of_not_decide_ltN hb); (try have hb2 := of_not_decide_leN hb))) | ((refine Either.mk (fun hb => h3 ?_) (fun hb => h1 ?_)) <;> (clear h1 h3 K1 K3; (try have hb2 := of_decide hb); (try have hb2 := of_not_decide_lt hb); (try have hb2 := of_not_decide_le hb); (try have hb2 := of_not_decide_ltN hb); (try have hb2 := of_not_decide_leN hb))) | (refine fun (K2 : _ → AHeap → Prop) hK2 => ?_) | ((with_reducible refine Post.block_off ?hn ?_); (case hn => decide)) | ((with_reducible first | refine Post.body_k ?hd (fun K hK => ?_) | refine Post.body_kn ?hd (fun K hK => ?_)); (case hd => (go_simp; done)); go_simp; refine hK _ _ ?_; clear hK K) | ((with_reducible refine CodeS.tree_lit mixed rfl ?hok 20 fun K0 hK0 => ?_); (case hok => kernel_rfl)) | (with_reducible first | exact loudsP_nil | exact stableP_nil | refine treeP_lit ?_ | refine passP_nil ?_ | refine stableP_keep ?_) | ((with_reducible first | refine passP_skip ?h1 ?_ | refine loudsP_skip ?h1 ?_ | refine stepT_more ?h1 ?_); (case h1 => rfl)) | ((with_reducible refine stepT_done ?h1 ?_); (case h1 => rfl); refine hK0 _ _ ?_; clear hK0 K0) | ((with_reducible refine passP_loud ?h1 ?hg ?hl ?_); (case h1 => rfl); (case hg => rfl); (case hl => rfl)) | ((with_reducible refine passP_q ?h1 ?hl ?hlt fun K2 hK2 => ?_); (case h1 => rfl); (case hl => rfl); (case hlt => exact Nat.le_of_ble_eq_true rfl)) | ((with_reducible refine passP_g ?h1 ?hj ?hl ?hlt fun K1 K3 d hdst h1 h3 => ?_); (case h1 => rfl); (case hj => rfl); (case hl => rfl); (case hlt => exact Nat.le_of_ble_eq_true rfl); cases hdst; go_simp) | ((with_reducible refine passP_lg ?h1 ?hj ?hl ?hlt fun K1 K3 d hdst h1 h3 => ?_); (case h1 => rfl); (case hj => rfl); (case hl => rfl); (case hlt => exact Nat.le_of_ble_eq_true rfl); cases hdst; go_simp) | ((with_reducible refine loudsP_c ?h1 ?hlt (fun K2 hK2 => ?_) ?_); (case h1 => rfl); (case hlt => exact Nat.le_of_ble_eq_true rfl)) | ((with_reducible refine loudsP_cg ?h1 ?hlt ?hj ?hw (fun K2 hK2 => ?_) ?_); (case h1 => rfl); (case hlt => exact Nat.le_of_ble_eq_true rfl); (case hj => rfl); (case hw => (go_simp; done))) | ((with_reducible refine loudsP_v ?h1 ?hv ?hlt (fun K2 hK2 => ?_) ?_); (case h1 => rfl); (case hv => rfl); (case hlt => exact Nat.le_of_ble_eq_true rfl)) | ((with_reducible refine loudsP_u ?h1 ?hv (fun K2 hK2 => ?_) ?_); (case h1 => rfl); (case hv => rfl)) | ((with_reducible refine stableP_pre ?h1 ?_); (case h1 => (first | rfl | (dsimp only; decide +kernel)))) | ((with_reducible refine stableP_re ?h1 ?_); (case h1 => (go_simp; done))) | (go_simp; (try go_bits); (try first | ((with_reducible show CallS _ _ _ _ _ _); refine CallS.mono (HB.out _ _ (Ext.push _)) ?_; rintro r H2 ⟨ho, hx⟩; (have HO := Lib.hid ho); (have HX := Lib.hid hx); clear ho hx)); (first | (refine hK2 _ _ ?_ ?_ <;> clear hK2 K2) | (refine hK2 _ _ ?_; clear hK2 K2))))
  exact ⟨HO.out.mono (by rw [AHeap.n_push]; omega), (Ext.push _).trans HX.out⟩
end Go.Proofs.Try
namespace Go.Proofs.Try
open Go Go.Am Go.RowKit Go.Co

/-! A line's days; a narrower copy: pure. -/
theorem Course.early_late {x : Course} {p : Nat} (h : x.ord) (hp : 1 ≤ p) (hm : x.made p = true) : ∀ i, i < x.open_.length → (x.early p 0).getD i 0 ≤ (x.late p).getD i 0 := by
  have hf := x.early_fit h hp hm
  exact fun i hi => x.fit_late h hp hf i (by rw [hf.1]; exact hi)
/-- The earliest days ahead of a line, a day of it, the latest ones behind it. -/
def mixL (a b : List Int) (k : Nat) (d : Int) : List Int := (a.take k ++ [d]) ++ b.drop (k + 1)
theorem mixL_len {a b : List Int} {k : Nat} {d : Int} (hl : a.length = b.length) (hk : k < a.length) : (mixL a b k d).length = a.length := by
  simp [mixL]; omega
theorem mixL_get {a b : List Int} {k : Nat} {d : Int} (hl : a.length = b.length) (hk : k < a.length) (i : Nat) : (mixL a b k d).getD i 0 = if i < k then a.getD i 0 else if i = k then d else b.getD i 0 := by
  have htl : (a.take k ++ [d]).length = k + 1 := by simp; omega
  have htl0 : (a.take k).length = k := by simp; omega
  unfold mixL
  rcases Nat.lt_trichotomy i k with h | h | h
  · rw [if_pos h, getD_app (by omega), getD_app (by omega)]
    simp [List.getD_eq_getElem?_getD, h]
  · rw [if_neg (by omega), if_pos h, getD_app (by omega), h]
    have := @getD_snoc (a.take k) d
    rw [htl0] at this; exact this
  · rw [if_neg (by omega), if_neg (by omega), List.getD_eq_getElem?_getD, List.getElem?_append_right (by omega), htl, List.getElem?_drop, List.getD_eq_getElem?_getD, show k + 1 + (i - (k + 1)) = i by omega]
theorem Course.mix_fit {x : Course} {p k : Nat} {d : Int} {a b : List Int} (hp : 1 ≤ p) (ha : x.fit p a) (hb : x.fit p b) (hk : k < a.length) (hop : x.op k d = true) (h1 : a.getD k 0 ≤ d) (h2 : d ≤ b.getD k 0) (hab : ∀ i, i < a.length → a.getD i 0 ≤ b.getD i 0) : x.fit p (mixL a b k d) := by
  have hl : a.length = b.length := by rw [ha.1, hb.1]
  have hg := mixL_get (d := d) hl hk
  have hll := mixL_len (d := d) hl hk
  refine ⟨by rw [hll]; exact ha.1, fun i hi => ?_⟩
  rw [hll] at hi
  have hle : ∀ j, j < a.length → (mixL a b k d).getD j 0 ≤ b.getD j 0 := by
    intro j hj
    rw [hg j]
    split
    · exact hab j hj
    · split
      · rename_i h3; rw [h3]; exact h2
      · exact Int.le_refl _
  rw [hg i]
  rcases Nat.lt_trichotomy i k with h | h | h
  · rw [if_pos h]
    have e : lowL p (mixL a b k d) i = lowL p a i := lowL_same hp fun j hj => by rw [hg j, if_pos (by omega)]
    rw [e]; exact ha.2 i hi
  · subst h
    rw [if_neg (by omega), if_pos rfl]
    have e : lowL p (mixL a b i d) i = lowL p a i := lowL_same hp fun j hj => by rw [hg j, if_pos (by omega)]
    rw [e]
    have := (ha.2 i hi).2
    exact ⟨hop, by omega⟩
  · rw [if_neg (by omega), if_neg (by omega)]
    have hb2 := hb.2 i (by omega)
    exact ⟨hb2.1, Int.le_trans (lowL_mono hp fun j hj => hle j (by omega)) hb2.2⟩

/-- Days that fit do not fall. -/
theorem Course.fit_mono {x : Course} {p : Nat} {g : List Int} (h : x.ord) (hg : x.fit p g) : ∀ (n i : Nat), i + n < g.length → g.getD i 0 ≤ g.getD (i + n) 0
  | 0, i, _ => Int.le_refl _
  | n + 1, i, hn => by
    have h1 := x.fit_mono h hg n i (by omega)
    have h2 := (lowL_iff (x.fit_in h hg (i + (n + 1)) hn).1).1 (hg.2 (i + (n + 1)) hn).2
    have h3 := h2.1 (by omega)
    rw [show i + (n + 1) - 1 = i + n by omega] at h3
    omega
theorem Course.fit_narrow {x y : Course} {p q : Nat} {g : List Int} (hy : y.ord) (hl : y.open_.length = x.open_.length) (hqp : q ≤ p) (hop : ∀ i d, i < x.open_.length → y.op i d = true → x.op i d = true) (hg : y.fit q g) : x.fit p g := by
  refine ⟨by rw [hg.1, hl], fun i hi => ?_⟩
  obtain ⟨h1, h2⟩ := hg.2 i hi
  have h0 := (y.fit_in hy hg i hi).1
  refine ⟨hop i _ (by rw [← hl, ← hg.1]; exact hi) h1, ?_⟩
  rw [lowL_iff h0] at h2 ⊢
  refine ⟨h2.1, fun hpi => ?_⟩
  have h3 := h2.2 (by omega)
  have h4 := y.fit_mono hy hg (p - q) (i - p) (by omega)
  rw [show i - p + (p - q) = i - q by omega] at h4
  omega
/-- So many lines want so many days. -/
theorem Course.fit_bound {x : Course} {p : Nat} {g : List Int} (h : x.ord) (hg : x.fit p g) : ∀ (k : Nat), k * p < g.length → g.getD 0 0 + k ≤ g.getD (k * p) 0
  | 0, _ => by simp
  | k + 1, hk => by
    have e : (k + 1) * p = k * p + p := Nat.succ_mul k p
    have h1 := x.fit_bound h hg k (by omega)
    have h2 := ((lowL_iff (x.fit_in h hg ((k + 1) * p) hk).1).1 (hg.2 ((k + 1) * p) hk).2).2 (by omega)
    rw [show (k + 1) * p - p = k * p by omega] at h2
    omega

/-! How long a copy took at least. -/
/-- The earliest days from a day on, if some days fit that begin on it. -/
theorem Course.early_from {x : Course} {p : Nat} {g : List Int} {b : Int} (h : x.ord) (hp : 1 ≤ p) (hg : x.fit p g) (hb : b ≤ g.getD 0 0) : (x.early p b).length = x.open_.length ∧ x.fit p (x.early p b) ∧ (∀ i, i < g.length → (x.early p b).getD i 0 ≤ g.getD i 0) ∧ ∀ i, i < g.length → b ≤ (x.early p b).getD i 0 := by
  obtain ⟨h1, h2, h3, h4⟩ := early_ok (op := x.op) hp (fun i f => x.nx_ok h i f) x.open_.length (frm := b)
  obtain ⟨h5, h6⟩ := h4 g g.length (by have := hg.1; omega) hg.2 (fun i hi => by have := x.fit_mono h hg i 0 (by omega); rw [Nat.zero_add] at this; omega)
  have h7 : (x.early p b).length = x.open_.length := by
    have h8 : g.length ≤ (x.early p b).length := h5
    have h9 : (x.early p b).length ≤ x.open_.length := h1
    have := hg.1
    omega
  exact ⟨h7, ⟨h7, h2⟩, h6, fun i hi => h3 i (by have := hg.1; change i < (x.early p b).length; omega)⟩
def Course.poss (x : Course) (p k : Nat) : List (Int × Int) := cutS ((x.early p 0).getD k 0) ((x.late p).getD k 0) (x.at_ k)
theorem Course.poss_iff {x : Course} {p k : Nat} {d : Int} : ins (x.poss p k) d = true ↔ x.op k d = true ∧ (x.early p 0).getD k 0 ≤ d ∧ d ≤ (x.late p).getD k 0 := by
  rw [Course.poss, cutS_ins]; simp [Course.op]
/-- On each possible day of a line some days fit. -/
theorem Course.poss_fit {x : Course} {p k : Nat} {d : Int} (h : x.ord) (hp : 1 ≤ p) (hm : x.made p = true) (hk : k < x.open_.length) (hd : ins (x.poss p k) d = true) : x.fit p (mixL (x.early p 0) (x.late p) k d) := by
  obtain ⟨h1, h2, h3⟩ := x.poss_iff.1 hd
  have hf := x.early_fit h hp hm
  exact x.mix_fit hp hf (x.late_fit h hp hm) (by rw [hf.1]; exact hk) h1 h2 h3 (fun i hi => x.early_late h hp hm i (by rw [← hf.1]; exact hi))
theorem Course.fit_poss {x : Course} {p k : Nat} {g : List Int} (h : x.ord) (hp : 1 ≤ p) (hg : x.fit p g) (hk : k < g.length) : ins (x.poss p k) (g.getD k 0) = true :=
  x.poss_iff.2 ⟨(hg.2 k hk).1, (x.fit_early h hp hg).2 k hk, x.fit_late h hp hg k hk⟩
def Course.took (x : Course) (p : Nat) (b : Int) : Int := (x.early p b).getD (x.open_.length - 1) 0 - b
structure Course.Short (x : Course) (p : Nat) (l : Int) : Prop where
  at_ : ∃ b, ins (x.poss p 0) b = true ∧ l = x.took p b
  le : ∀ b, ins (x.poss p 0) b = true → l ≤ x.took p b
theorem Course.took_fit {x : Course} {p : Nat} {b : Int} (h : x.ord) (hp : 1 ≤ p) (hm : x.made p = true) (hn : 0 < x.open_.length) (hb : ins (x.poss p 0) b = true) : x.fit p (x.early p b) ∧ (x.early p b).getD 0 0 = b ∧ x.took p b = (x.early p b).getD (x.open_.length - 1) 0 - (x.early p b).getD 0 0 := by
  have hg := x.poss_fit h hp hm hn hb
  have hf := x.early_fit h hp hm
  have hlt := x.late_fit h hp hm
  have hll : (x.early p 0).length = (x.late p).length := by rw [hf.1, hlt.1]
  have h0 : (mixL (x.early p 0) (x.late p) 0 b).getD 0 0 = b := by rw [mixL_get hll (by rw [hf.1]; exact hn)]; simp
  obtain ⟨h1, h2, h3, h4⟩ := x.early_from (b := b) h hp hg (by rw [h0]; exact Int.le_refl _)
  have h5 := h3 0 (by rw [hg.1]; exact hn)
  have h6 := h4 0 (by rw [hg.1]; exact hn)
  have h7 : (x.early p b).getD 0 0 = b := by omega
  exact ⟨h2, h7, by rw [Course.took, h7]⟩
theorem Course.took_bound {x : Course} {p : Nat} {b : Int} (h : x.ord) (hp : 1 ≤ p) (hm : x.made p = true) (hn : 0 < x.open_.length) (hb : ins (x.poss p 0) b = true) : (((x.open_.length - 1) / p : Nat) : Int) ≤ x.took p b ∧ x.took p b ≤ 730 := by
  obtain ⟨h1, h2, h3⟩ := x.took_fit h hp hm hn hb
  have hdm : (x.open_.length - 1) / p * p ≤ x.open_.length - 1 := Nat.div_mul_le_self _ _
  have h4 := x.fit_bound h h1 ((x.open_.length - 1) / p) (by rw [h1.1]; omega)
  have h5 := x.fit_mono h h1 (x.open_.length - 1 - (x.open_.length - 1) / p * p) ((x.open_.length - 1) / p * p) (by rw [h1.1]; omega)
  rw [show (x.open_.length - 1) / p * p + (x.open_.length - 1 - (x.open_.length - 1) / p * p) = x.open_.length - 1 by omega] at h5
  have h6 := x.fit_in h h1 0 (by rw [h1.1]; exact hn)
  have h7 := x.fit_in h h1 (x.open_.length - 1) (by rw [h1.1]; omega)
  rw [h3]
  omega
theorem Course.poss_ex {x : Course} {p : Nat} (h : x.ord) (hp : 1 ≤ p) (hm : x.made p = true) (hn : 0 < x.open_.length) : ins (x.poss p 0) ((x.early p 0).getD 0 0) = true := by
  have hf := x.early_fit h hp hm
  exact x.fit_poss h hp hf (by rw [hf.1]; exact hn)
/-- A narrower copy takes no less. -/
theorem Course.short_narrow {x y : Course} {p q : Nat} {l m : Int} (hx : x.ord) (hy : y.ord) (hl : y.open_.length = x.open_.length) (hq : 1 ≤ q) (hqp : q ≤ p) (hop : ∀ i d, i < x.open_.length → y.op i d = true → x.op i d = true) (hm : y.made q = true) (hn : 0 < x.open_.length) (h1 : x.Short p l) (h2 : y.Short q m) : l ≤ m := by
  obtain ⟨b, hb, rfl⟩ := h2.at_
  obtain ⟨hf, h0, ht⟩ := y.took_fit hy hq hm (by omega) hb
  have hfx := Course.fit_narrow hy hl hqp hop hf
  have hp : 1 ≤ p := by omega
  have hbx := x.fit_poss hx hp hfx (k := 0) (by rw [hfx.1]; exact hn)
  rw [h0] at hbx
  have h3 := h1.le b hbx
  obtain ⟨h4, h5, h6, h7⟩ := x.early_from (b := b) hx hp hfx (by rw [h0]; exact Int.le_refl _)
  have h8 := h6 (x.open_.length - 1) (by rw [hfx.1]; omega)
  have h9 : y.took q b = (y.early q b).getD (x.open_.length - 1) 0 - b := by rw [Course.took, hl]
  have h10 : x.took p b = (x.early p b).getD (x.open_.length - 1) 0 - b := rfl
  omega
end Go.Proofs.Try
namespace Go.Proofs.Try
open Go Go.Am Go.RowKit Go.Co
set_option maxRecDepth 100000

/-! How long a copy took at least. -/
structure LeastG (x : Course) (p : Nat) (PL : List (Int × Int)) (k : Nat) (l : Int) : Prop where
  seen : ∀ (j : Nat) (hj : j < PL.length), j < k → ∀ b, (PL[j]).1 ≤ b → b ≤ (PL[j]).2 → l ≤ x.took p b
  got : l = 731 ∨ ∃ b, ins PL b = true ∧ l = x.took p b

theorem LeastG.all {x : Course} {p : Nat} {PL : List (Int × Int)} {l : Int} (h : LeastG x p PL PL.length l) : ∀ b, ins PL b = true → l ≤ x.took p b := by
  intro b hb
  rw [ins, List.any_eq_true] at hb
  obtain ⟨y, hy, h2⟩ := hb
  obtain ⟨j, hj, rfl⟩ := List.mem_iff_getElem.1 hy
  simp only [Bool.and_eq_true, decide_eq_true_eq] at h2
  exact h.seen j hj hj b h2.1 h2.2
theorem LeastG.min {x : Course} {p k : Nat} {PL : List (Int × Int)} {l d tk : Int} (h : LeastG x p PL k l) (hd : ins PL d = true) (ht : x.took p d = tk) (h730 : tk ≤ 730) : LeastG x p PL k (min l tk) ∧ (min l tk ≠ 731) := by
  refine ⟨⟨fun j hj h1 b h2 h3 => by have := h.seen j hj h1 b h2 h3; omega, ?_⟩, by omega⟩
  rcases Int.le_total l tk with h1 | h1
  · rw [Int.min_eq_left h1]; exact h.got
  · rw [Int.min_eq_right h1]; exact .inr ⟨d, hd, ht.symm⟩

theorem shortest_s {loops : List (Nat × LInfo)} {H : AHeap} {oa fa la : Option Addr} {oc fc lc : Nat} {x : Course} {p : Nat} (hcv : CourseV H (.agg #[.slice oa x.open_.length oc, .int .i64 x.per]) x) (ho : x.ord) (hp : x.per = p) (hp1 : 1 ≤ p) (hn : x.open_.length ≤ 1000) (hn0 : 0 < x.open_.length) (hm : x.made p = true) (hf : Ints H (.slice fa (x.early p 0).length fc) (x.early p 0)) (hl : Ints H (.slice la (x.late p).length lc) (x.late p)) : CallS Try.prog loops 99 [.agg #[.slice oa x.open_.length oc, .int .i64 x.per, .slice fa (x.early p 0).length fc, .slice la (x.late p).length lc]] H fun r H' => (∃ l, r = .int .i64 l ∧ x.Short p l) ∧ H' = H := by
  refine CallS.forget (R := fun v => ∃ l, v = .int .i64 l ∧ x.Short p l) (by rintro v ⟨l, rfl, -⟩; rfl) ?_
  have HCV := Lib.hid hcv
  have HRO : Hid (Rows H (.slice oa x.open_.length oc) x.open_) := Lib.hid (by obtain ⟨w, h1, h2⟩ := hcv; cases h1; exact h2)
  have HF := Lib.hid hf
  have HL := Lib.hid hl
  have hfl := (x.early_fit ho hp1 hm).1
  have hll := (x.late_fit ho hp1 hm).1
  have HFL := Lib.hid hfl
  have HLL := Lib.hid hll
  have HPO := Lib.hid (fun (loops : List (Nat × LInfo)) (H' : AHeap) (hx : Ext H H') => possible_e (loops := loops) (pi := (p : Int)) (k := 0) (HRO.out.ext hx) (HF.out.ext hx) (HL.out.ext hx) hn0 (by omega) (by omega) (by have := ordS_len _ (by omega) (ho 0); omega))
  have HEA := Lib.hid (fun (loops : List (Nat × LInfo)) (H' : AHeap) (d : Int) (hx : Ext H H') => earliest_e (loops := loops) (frm := d) (HCV.out.ext hx) ho hp hp1 hn)
  have HTB : Hid (∀ b, ins (x.poss p 0) b = true → (((x.open_.length - 1) / p : Nat) : Int) ≤ x.took p b ∧ x.took p b ≤ 730 ∧ 0 ≤ b ∧ b ≤ 730 ∧ (x.early p b).length = x.open_.length ∧ x.took p b = (x.early p b).getD (x.open_.length - 1) 0 - b ∧ 0 ≤ (x.early p b).getD (x.open_.length - 1) 0 ∧ (x.early p b).getD (x.open_.length - 1) 0 ≤ 730) := Lib.hid (fun b hb => by
    obtain ⟨h1, h2⟩ := x.took_bound ho hp1 hm hn0 hb
    obtain ⟨h3, h4, h5⟩ := x.took_fit ho hp1 hm hn0 hb
    have h6 := x.op_in ho 0 b (x.poss_iff.1 hb).1
    have h7 := x.fit_in ho h3 (x.open_.length - 1) (by rw [h3.1]; omega)
    exact ⟨h1, h2, h6.1, h6.2, h3.1, rfl, h7.1, h7.2⟩)
  have HPX := Lib.hid (x.poss_ex ho hp1 hm hn0)
  have HPL : Hid (x.poss p 0 = cutS ((x.early p 0).getD 0 0) ((x.late p).getD 0 0) (x.at_ 0)) := Lib.hid rfl
  have HPN : Hid ((x.poss p 0).length ≤ 1000) := Lib.hid (by have h1 := cutS_le ((x.early p 0).getD 0 0) ((x.late p).getD 0 0) (x.at_ 0); have h2 := ordS_len _ (by omega) (ho 0); rw [HPL.out]; omega)
  rw [← HPL.out] at HPO
  rw [hp] at HCV HEA
  rw [hp]
  refine CallS.enter' Try.func99 rfl Try.ntmps99 (by simp) fun f hd hf => ?_
  have f0 := hf 0
  simp at f0
  rw [hfl] at f0 HPO
  rw [hll] at f0 HPO
  clear hf hfl hll ho hp hm hl hcv HRO HF HL HFL HLL
  generalize hsh : x.poss p 0 = PL at HPO HTB HPX HPN
  have HSH := Lib.hid hsh
  clear hsh HPL
  have h1n : (0 : Int) ≤ (x.open_.length : Int) - 1 := by omega
  have hpz : (p : Int) ≠ 0 := by omega
  have hpz2 : p ≠ 0 := by omega
  have h1i : (x.open_.length : Int) - 1 < (x.open_.length : Int) := by omega
  have h2i : (1 : Int) ≤ (x.open_.length : Int) := by omega
  have h5i : (0 : Int) < (x.open_.length : Int) := by omega
  repeat' (first | (with_reducible first | refine CodeS.seq ?_ | refine CodeS.region_k fun K hK => ?_ | refine opsP_go fun K2 hK2 => ?_ | refine Post.then_normal ?_ | refine Post.then_ret ?_ | refine Post.then_exit ?_ | refine Post.block_normal ?_ | refine Post.block_ret ?_ | refine Post.block_here ?_ | refine Post.scope_normal ?_ | refine Post.scope_ret ?_ | refine Post.scope_exit ?_ | refine Post.round_ret ?_ | refine Post.round_exit ?_ | refine CodeS.block ?_ | refine CodeS.skip ?_ | refine CodeS.ret ?_ | refine CodeS.exit ?_ | refine CodeS.scope ?_ | refine CodeS.label ?_) | ((with_reducible refine opsP_nil (hK _ _ ?_)); clear hK K) | ((with_reducible refine opsP_gd ?hj ?hlt fun K1 K3 d hdst h1 h3 => ?_); (case hj => rfl); (case hlt => exact Nat.le_of_ble_eq_true rfl); cases hdst; go_simp) | ((with_reducible refine CodeS.cond_k fun K1 K3 h1 h3 => ?_); go_simp) | (refine h1 ?_; clear h1 h3 K1 K3) | (refine h3 ?_; clear h1 h3 K1 K3) | ((refine Either.mk (fun hb => h1 ?_) (fun hb => h3 ?_)) <;> (clear h1 h3 K1 K3; (try have hb2 := of_decide hb); (try have hb2 := of_not_decide_lt hb); (try have hb2 := of_not_decide_le hb); (try have hb2 := of_not_decide_ltN hb); (try have hb2 := of_not_decide_leN hb))) | ((refine Either.mk (fun hb => h3 ?_) (fun hb => h1 ?_)) <;> (clear h1 h3 K1 K3; (try have hb2 := of_decide hb); (try have hb2 := of_not_decide_lt hb); (try have hb2 := of_not_decide_le hb); (try have hb2 := of_not_decide_ltN hb); (try have hb2 := of_not_decide_leN hb))) | (refine fun (K2 : _ → AHeap → Prop) hK2 => ?_) | ((with_reducible refine Post.block_off ?hn ?_); (case hn => decide)) | ((with_reducible first | refine Post.body_k ?hd (fun K hK => ?_) | refine Post.body_kn ?hd (fun K hK => ?_)); (case hd => (go_simp; done)); go_simp; refine hK _ _ ?_; clear hK K) | ((with_reducible refine CodeS.tree_lit mixed rfl ?hok 20 fun K0 hK0 => ?_); (case hok => kernel_rfl)) | (with_reducible first | exact loudsP_nil | exact stableP_nil | refine treeP_lit ?_ | refine passP_nil ?_ | refine stableP_keep ?_) | ((with_reducible first | refine passP_skip ?h1 ?_ | refine loudsP_skip ?h1 ?_ | refine stepT_more ?h1 ?_); (case h1 => rfl)) | ((with_reducible refine stepT_done ?h1 ?_); (case h1 => rfl); refine hK0 _ _ ?_; clear hK0 K0) | ((with_reducible refine passP_loud ?h1 ?hg ?hl ?_); (case h1 => rfl); (case hg => rfl); (case hl => rfl)) | ((with_reducible refine passP_q ?h1 ?hl ?hlt fun K2 hK2 => ?_); (case h1 => rfl); (case hl => rfl); (case hlt => exact Nat.le_of_ble_eq_true rfl)) | ((with_reducible refine passP_g ?h1 ?hj ?hl ?hlt fun K1 K3 d hdst h1 h3 => ?_); (case h1 => rfl); (case hj => rfl); (case hl => rfl); (case hlt => exact Nat.le_of_ble_eq_true rfl); cases hdst; go_simp) | ((with_reducible refine passP_lg ?h1 ?hj ?hl ?hlt fun K1 K3 d hdst h1 h3 => ?_); (case h1 => rfl); (case hj => rfl); (case hl => rfl); (case hlt => exact Nat.le_of_ble_eq_true rfl); cases hdst; go_simp) | ((with_reducible refine loudsP_c ?h1 ?hlt (fun K2 hK2 => ?_) ?_); (case h1 => rfl); (case hlt => exact Nat.le_of_ble_eq_true rfl)) | ((with_reducible refine loudsP_cg ?h1 ?hlt ?hj ?hw (fun K2 hK2 => ?_) ?_); (case h1 => rfl); (case hlt => exact Nat.le_of_ble_eq_true rfl); (case hj => rfl); (case hw => (go_simp; done))) | ((with_reducible refine loudsP_v ?h1 ?hv ?hlt (fun K2 hK2 => ?_) ?_); (case h1 => rfl); (case hv => rfl); (case hlt => exact Nat.le_of_ble_eq_true rfl)) | ((with_reducible refine loudsP_u ?h1 ?hv (fun K2 hK2 => ?_) ?_); (case h1 => rfl); (case hv => rfl)) | ((with_reducible refine stableP_pre ?h1 ?_); (case h1 => (first | rfl | (dsimp only; decide +kernel)))) | ((with_reducible refine stableP_re ?h1 ?_); (case h1 => (go_simp; done))) | (go_simp; (try go_bits); (try first | ((with_reducible show CallS _ _ _ _ _ _); refine CallS.mono (HPO.out _ _ (Ext.push _)) ?_; rintro pv H1 ⟨ho1, hx⟩; (have HPV := Lib.hid (spans_of_own ho1 (by have := HPN.out; omega))); (have HX1 := Lib.hid hx); (obtain ⟨-, pa, pc, rfl⟩ := HPV.out.slice); clear ho1 hx) | ((rw [aPlain_quo (a := (x.open_.length : Int) - 1) (b := (p : Int)) (by go_simp) (by go_simp) ⟨by omega, by omega⟩ (by omega)]); go_simp)); (first | (refine hK2 _ _ ?_ ?_ <;> clear hK2 K2) | (refine hK2 _ _ ?_; clear hK2 K2))))
  have hpn := HPN.out
  have HBQ : Hid ((((x.open_.length - 1) / p : Nat) : Int) = ((x.open_.length : Int) - 1) / p) := Lib.hid (by rw [Int.natCast_ediv, Int.natCast_sub (by omega)]; rfl)
  generalize ((x.open_.length : Int) - 1) / p = bd at HBQ
  have HXT : Hid (Ext H H1) := Lib.hid ((Ext.push _).trans HX1.out)
  have HC0 : Hid (∀ G : AHeap, Ext H1 G → cellsAt G H.n 0 2 = some [Value.slice oa x.open_.length oc, .int .i64 p] ∧ H.n < G.n) := Lib.hid (fun G hx => ⟨by rw [hx.cellsAt (by have := HX1.out.n; rw [AHeap.n_push] at this; omega), HX1.out.cellsAt (by rw [AHeap.n_push]; omega)]; simp [cellsAt, get_at (H := H) rfl], by have := HX1.out.n; have := hx.n; simp only [AHeap.n_push] at *; omega⟩)
  refine CodeS.loop (fun m f H' => ∃ (k : Nat) (l : Int), k ≤ PL.length ∧ m = PL.length - k ∧ f.tmp 22 = .int .i64 k ∧ f.tmp 21 = .int .i64 PL.length ∧ f.tmp 20 = .slice pa PL.length pc ∧ f.tmp 1 = .pointer (some ⟨H.n, 0, none⟩) ∧ f.tmp 3 = .int .i64 ((x.open_.length : Int) - 1) ∧ f.tmp 4 = .int .i64 bd ∧ f.tmp 5 = .int .i64 l ∧ f.defers = [] ∧ Hid (Ext H1 H') ∧ Hid (LeastG x p PL k l)) PL.length ?_ ?_
  · exact ⟨0, 731, by simp, by simp, (by first | (go_simp; done) | (go_simp; go_num; done) | assumption), (by first | (go_simp; done) | (go_simp; go_num; done) | assumption), (by first | (go_simp; done) | (go_simp; go_num; done) | assumption), (by first | (go_simp; done) | (go_simp; go_num; done) | assumption), (by first | (go_simp; done) | (go_simp; go_num; done) | assumption), (by first | (go_simp; done) | (go_simp; go_num; done) | assumption), (by first | (go_simp; done) | (go_simp; go_num; done) | assumption), (by first | (go_simp; done) | (go_simp; go_num; done) | assumption), Lib.hid (Ext.refl _), Lib.hid ⟨fun j hj h => by omega, .inl rfl⟩⟩
  clear f0 hd f HX1
  rintro m f H' ⟨k, l, hk, rfl, f22, f21, f20, f1, f3, f4, f5, hd, HX, HG⟩
  obtain ⟨hc0, hnn⟩ := HC0.out _ HX.out
  by_cases hlt : k < PL.length
  · obtain ⟨b0, o0, sp0, rfl, hb0, hcc⟩ := HPV.out.cells_at hlt
    have hcc2 : cellsAt H' b0 (o0 + k * 2) 2 = some [.int .i64 (PL[k]).1, .int .i64 (PL[k]).2] := by rw [HX.out.cellsAt hb0]; exact hcc
    have hb02 : b0 < H'.n := Nat.lt_of_lt_of_le hb0 HX.out.n
    have HIN : Hid (∀ d, (PL[k]).1 ≤ d → d ≤ (PL[k]).2 → ins PL d = true) := Lib.hid (fun d h1 h2 => by
      rw [ins, List.any_eq_true]
      exact ⟨PL[k], List.getElem_mem hlt, by simp [h1, h2]⟩)
    have HNX : Hid (∀ l', LeastG x p PL k l' → (∀ b, (PL[k]).1 ≤ b → b ≤ (PL[k]).2 → l' ≤ x.took p b) → LeastG x p PL (k + 1) l') := Lib.hid (fun l' h1 h2 => ⟨fun j hj h3 b h4 h5 => by
      rcases Nat.lt_or_ge j k with h6 | h6
      · exact h1.seen j hj h6 b h4 h5
      · have : j = k := by omega
        subst this; exact h2 b h4 h5, h1.got⟩)
    generalize PL[k] = y at hcc2 HIN HNX
    obtain ⟨lo, hi⟩ := y
    simp only at hcc2 HIN HNX
    clear hcc
    repeat' (first | (with_reducible first | refine CodeS.seq ?_ | refine CodeS.region_k fun K hK => ?_ | refine opsP_go fun K2 hK2 => ?_ | refine Post.then_normal ?_ | refine Post.then_ret ?_ | refine Post.then_exit ?_ | refine Post.block_normal ?_ | refine Post.block_ret ?_ | refine Post.block_here ?_ | refine Post.scope_normal ?_ | refine Post.scope_ret ?_ | refine Post.scope_exit ?_ | refine Post.round_ret ?_ | refine Post.round_exit ?_ | refine CodeS.block ?_ | refine CodeS.skip ?_ | refine CodeS.ret ?_ | refine CodeS.exit ?_ | refine CodeS.scope ?_ | refine CodeS.label ?_) | ((with_reducible refine opsP_nil (hK _ _ ?_)); clear hK K) | ((with_reducible refine opsP_gd ?hj ?hlt fun K1 K3 d hdst h1 h3 => ?_); (case hj => rfl); (case hlt => exact Nat.le_of_ble_eq_true rfl); cases hdst; go_simp) | ((with_reducible refine CodeS.cond_k fun K1 K3 h1 h3 => ?_); go_simp) | (refine h1 ?_; clear h1 h3 K1 K3) | (refine h3 ?_; clear h1 h3 K1 K3) | ((refine Either.mk (fun hb => h1 ?_) (fun hb => h3 ?_)) <;> (clear h1 h3 K1 K3; (try have hb2 := of_decide hb); (try have hb2 := of_not_decide_lt hb); (try have hb2 := of_not_decide_le hb); (try have hb2 := of_not_decide_ltN hb); (try have hb2 := of_not_decide_leN hb))) | ((refine Either.mk (fun hb => h3 ?_) (fun hb => h1 ?_)) <;> (clear h1 h3 K1 K3; (try have hb2 := of_decide hb); (try have hb2 := of_not_decide_lt hb); (try have hb2 := of_not_decide_le hb); (try have hb2 := of_not_decide_ltN hb); (try have hb2 := of_not_decide_leN hb))) | (refine fun (K2 : _ → AHeap → Prop) hK2 => ?_) | ((with_reducible refine Post.block_off ?hn ?_); (case hn => decide)) | ((with_reducible first | refine Post.body_k ?hd (fun K hK => ?_) | refine Post.body_kn ?hd (fun K hK => ?_)); (case hd => (go_simp; done)); go_simp; refine hK _ _ ?_; clear hK K) | ((with_reducible refine CodeS.tree_lit mixed rfl ?hok 20 fun K0 hK0 => ?_); (case hok => kernel_rfl)) | (with_reducible first | exact loudsP_nil | exact stableP_nil | refine treeP_lit ?_ | refine passP_nil ?_ | refine stableP_keep ?_) | ((with_reducible first | refine passP_skip ?h1 ?_ | refine loudsP_skip ?h1 ?_ | refine stepT_more ?h1 ?_); (case h1 => rfl)) | ((with_reducible refine stepT_done ?h1 ?_); (case h1 => rfl); refine hK0 _ _ ?_; clear hK0 K0) | ((with_reducible refine passP_loud ?h1 ?hg ?hl ?_); (case h1 => rfl); (case hg => rfl); (case hl => rfl)) | ((with_reducible refine passP_q ?h1 ?hl ?hlt fun K2 hK2 => ?_); (case h1 => rfl); (case hl => rfl); (case hlt => exact Nat.le_of_ble_eq_true rfl)) | ((with_reducible refine passP_g ?h1 ?hj ?hl ?hlt fun K1 K3 d hdst h1 h3 => ?_); (case h1 => rfl); (case hj => rfl); (case hl => rfl); (case hlt => exact Nat.le_of_ble_eq_true rfl); cases hdst; go_simp) | ((with_reducible refine passP_lg ?h1 ?hj ?hl ?hlt fun K1 K3 d hdst h1 h3 => ?_); (case h1 => rfl); (case hj => rfl); (case hl => rfl); (case hlt => exact Nat.le_of_ble_eq_true rfl); cases hdst; go_simp) | ((with_reducible refine loudsP_c ?h1 ?hlt (fun K2 hK2 => ?_) ?_); (case h1 => rfl); (case hlt => exact Nat.le_of_ble_eq_true rfl)) | ((with_reducible refine loudsP_cg ?h1 ?hlt ?hj ?hw (fun K2 hK2 => ?_) ?_); (case h1 => rfl); (case hlt => exact Nat.le_of_ble_eq_true rfl); (case hj => rfl); (case hw => (go_simp; done))) | ((with_reducible refine loudsP_v ?h1 ?hv ?hlt (fun K2 hK2 => ?_) ?_); (case h1 => rfl); (case hv => rfl); (case hlt => exact Nat.le_of_ble_eq_true rfl)) | ((with_reducible refine loudsP_u ?h1 ?hv (fun K2 hK2 => ?_) ?_); (case h1 => rfl); (case hv => rfl)) | ((with_reducible refine stableP_pre ?h1 ?_); (case h1 => (first | rfl | (dsimp only; decide +kernel)))) | ((with_reducible refine stableP_re ?h1 ?_); (case h1 => (go_simp; done))) | (go_simp; (try go_bits); (first | (refine hK2 _ _ ?_ ?_ <;> clear hK2 K2) | (refine hK2 _ _ ?_; clear hK2 K2))))
    have HXP : Hid (Ext H1 (H'.push (.row [.int .i64 lo, .int .i64 hi] 87))) := Lib.hid (HX.out.push' _)
    refine CodeS.loop (fun m f G => ∃ (d l' : Int), lo ≤ d ∧ (lo ≤ hi → d ≤ hi + 1) ∧ m = (hi + 1 - d).toNat ∧ f.tmp 8 = .int .i64 d ∧ f.tmp 7 = .pointer (some ⟨H'.n, 0, none⟩) ∧ f.tmp 22 = .int .i64 k ∧ f.tmp 21 = .int .i64 PL.length ∧ f.tmp 20 = .slice (some ⟨b0, o0, sp0⟩) PL.length pc ∧ f.tmp 1 = .pointer (some ⟨H.n, 0, none⟩) ∧ f.tmp 3 = .int .i64 ((x.open_.length : Int) - 1) ∧ f.tmp 4 = .int .i64 bd ∧ f.tmp 5 = .int .i64 l' ∧ f.defers = [] ∧ Hid (Ext (H'.push (.row [.int .i64 lo, .int .i64 hi] 87)) G) ∧ Hid (LeastG x p PL k l') ∧ Hid (∀ b, lo ≤ b → b < d → l' ≤ x.took p b)) ((hi + 1 - lo).toNat) ?_ ?_
    · exact ⟨lo, l, Int.le_refl _, fun h => by omega, rfl, (by first | (go_simp; done) | (go_simp; go_num; done) | assumption), (by first | (go_simp; done) | (go_simp; go_num; done) | assumption), (by first | (go_simp; done) | (go_simp; go_num; done) | assumption), (by first | (go_simp; done) | (go_simp; go_num; done) | assumption), (by first | (go_simp; done) | (go_simp; go_num; done) | assumption), (by first | (go_simp; done) | (go_simp; go_num; done) | assumption), (by first | (go_simp; done) | (go_simp; go_num; done) | assumption), (by first | (go_simp; done) | (go_simp; go_num; done) | assumption), (by first | (go_simp; done) | (go_simp; go_num; done) | assumption), (by first | (go_simp; done) | (go_simp; go_num; done) | assumption), Lib.hid (Ext.refl _), HG, Lib.hid (fun b h1 h2 => by omega)⟩
    clear f22 f21 f20 f1 f3 f4 f5 hd f hc0 hcc2 hb02 HG
    rintro m f G ⟨d, l', hd1, hd2, rfl, f8, f7, f22, f21, f20, f1, f3, f4, f5, hd, HXG, HG, HS⟩
    obtain ⟨hc0, hnn2⟩ := HC0.out _ (HXP.out.trans HXG.out)
    have hcl : cellAt G H'.n 0 = some (.int .i64 lo) := by rw [HXG.out.cellAt (by rw [AHeap.n_push]; omega), cellAt_new]; rfl
    have hch : cellAt G H'.n 1 = some (.int .i64 hi) := by rw [HXG.out.cellAt (by rw [AHeap.n_push]; omega), cellAt_new]; rfl
    have hng : H'.n < G.n := by have := HXG.out.n; rw [AHeap.n_push] at this; omega
    by_cases hdh : d ≤ hi
    · obtain ⟨t1, t2, t3, t4, t5, t6, t7, t8⟩ := HTB.out d (HIN.out d hd1 hdh)
      have HEN := Lib.hid t5
      have HTK := Lib.hid t6
      have HT1 := Lib.hid t1
      have hE := HEA.out
      have HEE := Lib.hid (fun (loops : List (Nat × LInfo)) (H' : AHeap) (hx : Ext H H') => hE loops H' d hx)
      clear hE t5 t6 t1
      generalize x.early p d = E at HEE HEN HTK t7 t8
      generalize hev : E.getD (x.open_.length - 1) 0 = ev at HTK t7 t8
      have HEV := Lib.hid hev
      generalize htk : x.took p d = tk at HTK HT1 t2
      have HTD := Lib.hid htk
      clear hev htk
      repeat' (first | (with_reducible first | refine CodeS.seq ?_ | refine CodeS.region_k fun K hK => ?_ | refine opsP_go fun K2 hK2 => ?_ | refine Post.then_normal ?_ | refine Post.then_ret ?_ | refine Post.then_exit ?_ | refine Post.block_normal ?_ | refine Post.block_ret ?_ | refine Post.block_here ?_ | refine Post.scope_normal ?_ | refine Post.scope_ret ?_ | refine Post.scope_exit ?_ | refine Post.round_ret ?_ | refine Post.round_exit ?_ | refine CodeS.block ?_ | refine CodeS.skip ?_ | refine CodeS.ret ?_ | refine CodeS.exit ?_ | refine CodeS.scope ?_ | refine CodeS.label ?_) | ((with_reducible refine opsP_nil (hK _ _ ?_)); clear hK K) | ((with_reducible refine opsP_gd ?hj ?hlt fun K1 K3 d hdst h1 h3 => ?_); (case hj => rfl); (case hlt => exact Nat.le_of_ble_eq_true rfl); cases hdst; go_simp) | ((with_reducible refine CodeS.cond_k fun K1 K3 h1 h3 => ?_); go_simp) | (refine h1 ?_; clear h1 h3 K1 K3) | (refine h3 ?_; clear h1 h3 K1 K3) | ((refine Either.mk (fun hb => h1 ?_) (fun hb => h3 ?_)) <;> (clear h1 h3 K1 K3; (try have hb2 := of_decide hb); (try have hb2 := of_not_decide_lt hb); (try have hb2 := of_not_decide_le hb); (try have hb2 := of_not_decide_ltN hb); (try have hb2 := of_not_decide_leN hb))) | ((refine Either.mk (fun hb => h3 ?_) (fun hb => h1 ?_)) <;> (clear h1 h3 K1 K3; (try have hb2 := of_decide hb); (try have hb2 := of_not_decide_lt hb); (try have hb2 := of_not_decide_le hb); (try have hb2 := of_not_decide_ltN hb); (try have hb2 := of_not_decide_leN hb))) | (refine fun (K2 : _ → AHeap → Prop) hK2 => ?_) | ((with_reducible refine Post.block_off ?hn ?_); (case hn => decide)) | ((with_reducible first | refine Post.body_k ?hd (fun K hK => ?_) | refine Post.body_kn ?hd (fun K hK => ?_)); (case hd => (go_simp; done)); go_simp; refine hK _ _ ?_; clear hK K) | ((with_reducible refine CodeS.tree_lit mixed rfl ?hok 20 fun K0 hK0 => ?_); (case hok => kernel_rfl)) | (with_reducible first | exact loudsP_nil | exact stableP_nil | refine treeP_lit ?_ | refine passP_nil ?_ | refine stableP_keep ?_) | ((with_reducible first | refine passP_skip ?h1 ?_ | refine loudsP_skip ?h1 ?_ | refine stepT_more ?h1 ?_); (case h1 => rfl)) | ((with_reducible refine stepT_done ?h1 ?_); (case h1 => rfl); refine hK0 _ _ ?_; clear hK0 K0) | ((with_reducible refine passP_loud ?h1 ?hg ?hl ?_); (case h1 => rfl); (case hg => rfl); (case hl => rfl)) | ((with_reducible refine passP_q ?h1 ?hl ?hlt fun K2 hK2 => ?_); (case h1 => rfl); (case hl => rfl); (case hlt => exact Nat.le_of_ble_eq_true rfl)) | ((with_reducible refine passP_g ?h1 ?hj ?hl ?hlt fun K1 K3 d hdst h1 h3 => ?_); (case h1 => rfl); (case hj => rfl); (case hl => rfl); (case hlt => exact Nat.le_of_ble_eq_true rfl); cases hdst; go_simp) | ((with_reducible refine passP_lg ?h1 ?hj ?hl ?hlt fun K1 K3 d hdst h1 h3 => ?_); (case h1 => rfl); (case hj => rfl); (case hl => rfl); (case hlt => exact Nat.le_of_ble_eq_true rfl); cases hdst; go_simp) | ((with_reducible refine loudsP_c ?h1 ?hlt (fun K2 hK2 => ?_) ?_); (case h1 => rfl); (case hlt => exact Nat.le_of_ble_eq_true rfl)) | ((with_reducible refine loudsP_cg ?h1 ?hlt ?hj ?hw (fun K2 hK2 => ?_) ?_); (case h1 => rfl); (case hlt => exact Nat.le_of_ble_eq_true rfl); (case hj => rfl); (case hw => (go_simp; done))) | ((with_reducible refine loudsP_v ?h1 ?hv ?hlt (fun K2 hK2 => ?_) ?_); (case h1 => rfl); (case hv => rfl); (case hlt => exact Nat.le_of_ble_eq_true rfl)) | ((with_reducible refine loudsP_u ?h1 ?hv (fun K2 hK2 => ?_) ?_); (case h1 => rfl); (case hv => rfl)) | ((with_reducible refine stableP_pre ?h1 ?_); (case h1 => (first | rfl | (dsimp only; decide +kernel)))) | ((with_reducible refine stableP_re ?h1 ?_); (case h1 => (go_simp; done))) | (go_simp; (try go_bits); (try first | ((with_reducible show CallS _ _ _ _ _ _); refine CallS.mono (HEE.out _ _ (HXT.out.trans (HXP.out.trans HXG.out))) ?_; rintro ev0 H3 ⟨ho3, hx⟩; (have HI3 := Lib.hid (ints_of_own ho3 (by rw [HEN.out]; omega))); (have HX3 := Lib.hid (HXG.out.trans hx)); (obtain ⟨-, ea, ec, rfl⟩ := HI3.out.slice); (obtain ⟨be, oe, se, rfl, hbe, hce⟩ := HI3.out.at_ (k := x.open_.length - 1) (by rw [HEN.out]; omega)); (have hce2 : cellAt H3 be (oe + (x.open_.length - 1)) = some (.int .i64 ev) := by rw [hce, ← HEV.out]; simp [List.getD_eq_getElem?_getD, show x.open_.length - 1 < E.length by rw [HEN.out]; omega]); rw [HEN.out]; (have h3i : ((x.open_.length : Int) - 1).toNat = x.open_.length - 1 := by omega); clear ho3 hx hce)); (first | (refine hK2 _ _ ?_ ?_ <;> clear hK2 K2) | (refine hK2 _ _ ?_; clear hK2 K2))))
      · obtain ⟨g1, g2⟩ := HG.out.min (HIN.out d hd1 hdh) HTD.out t2
        have hbk : min l' tk = bd := by have h8 := ‹(min l' (ev - d) == bd) = true›; rw [HTK.out]; simpa using h8
        refine ⟨⟨_, rfl, ?_, ?_⟩, (HXT.out.trans HXP.out).trans HX3.out⟩
        · rw [HSH.out, ← hbk]
          rcases g1.got with h1 | h1
          · exact absurd h1 g2
          · exact h1
        · rw [HSH.out, ← HBQ.out]
          exact fun b hb => (HTB.out b hb).1
      · obtain ⟨g1, g2⟩ := HG.out.min (HIN.out d hd1 hdh) HTD.out t2
        refine Post.round_normal ⟨(hi + 1 - (d + 1)).toNat, by omega, d + 1, min l' (ev - d), by omega, by omega, rfl, (by first | (go_simp; done) | (go_simp; go_num; done) | assumption), (by first | (go_simp; done) | (go_simp; go_num; done) | assumption), (by first | (go_simp; done) | (go_simp; go_num; done) | assumption), (by first | (go_simp; done) | (go_simp; go_num; done) | assumption), (by first | (go_simp; done) | (go_simp; go_num; done) | assumption), (by first | (go_simp; done) | (go_simp; go_num; done) | assumption), (by first | (go_simp; done) | (go_simp; go_num; done) | assumption), (by first | (go_simp; done) | (go_simp; go_num; done) | assumption), (by first | (go_simp; done) | (go_simp; go_num; done) | assumption), (by first | (go_simp; done) | (go_simp; go_num; done) | assumption), Lib.hid HX3.out, Lib.hid (by rw [← HTK.out]; exact g1), Lib.hid fun b h1 h2 => ?_⟩
        have h9 := HTK.out
        by_cases hbd : b = d
        · rw [hbd, HTD.out]; omega
        · have := HS.out b h1 (by omega); omega
    · repeat' (first | (with_reducible first | refine CodeS.seq ?_ | refine CodeS.region_k fun K hK => ?_ | refine opsP_go fun K2 hK2 => ?_ | refine Post.then_normal ?_ | refine Post.then_ret ?_ | refine Post.then_exit ?_ | refine Post.block_normal ?_ | refine Post.block_ret ?_ | refine Post.block_here ?_ | refine Post.scope_normal ?_ | refine Post.scope_ret ?_ | refine Post.scope_exit ?_ | refine Post.round_ret ?_ | refine Post.round_exit ?_ | refine CodeS.block ?_ | refine CodeS.skip ?_ | refine CodeS.ret ?_ | refine CodeS.exit ?_ | refine CodeS.scope ?_ | refine CodeS.label ?_) | ((with_reducible refine opsP_nil (hK _ _ ?_)); clear hK K) | ((with_reducible refine opsP_gd ?hj ?hlt fun K1 K3 d hdst h1 h3 => ?_); (case hj => rfl); (case hlt => exact Nat.le_of_ble_eq_true rfl); cases hdst; go_simp) | ((with_reducible refine CodeS.cond_k fun K1 K3 h1 h3 => ?_); go_simp) | (refine h1 ?_; clear h1 h3 K1 K3) | (refine h3 ?_; clear h1 h3 K1 K3) | ((refine Either.mk (fun hb => h1 ?_) (fun hb => h3 ?_)) <;> (clear h1 h3 K1 K3; (try have hb2 := of_decide hb); (try have hb2 := of_not_decide_lt hb); (try have hb2 := of_not_decide_le hb); (try have hb2 := of_not_decide_ltN hb); (try have hb2 := of_not_decide_leN hb))) | ((refine Either.mk (fun hb => h3 ?_) (fun hb => h1 ?_)) <;> (clear h1 h3 K1 K3; (try have hb2 := of_decide hb); (try have hb2 := of_not_decide_lt hb); (try have hb2 := of_not_decide_le hb); (try have hb2 := of_not_decide_ltN hb); (try have hb2 := of_not_decide_leN hb))) | (refine fun (K2 : _ → AHeap → Prop) hK2 => ?_) | ((with_reducible refine Post.block_off ?hn ?_); (case hn => decide)) | ((with_reducible first | refine Post.body_k ?hd (fun K hK => ?_) | refine Post.body_kn ?hd (fun K hK => ?_)); (case hd => (go_simp; done)); go_simp; refine hK _ _ ?_; clear hK K) | ((with_reducible refine CodeS.tree_lit mixed rfl ?hok 20 fun K0 hK0 => ?_); (case hok => kernel_rfl)) | (with_reducible first | exact loudsP_nil | exact stableP_nil | refine treeP_lit ?_ | refine passP_nil ?_ | refine stableP_keep ?_) | ((with_reducible first | refine passP_skip ?h1 ?_ | refine loudsP_skip ?h1 ?_ | refine stepT_more ?h1 ?_); (case h1 => rfl)) | ((with_reducible refine stepT_done ?h1 ?_); (case h1 => rfl); refine hK0 _ _ ?_; clear hK0 K0) | ((with_reducible refine passP_loud ?h1 ?hg ?hl ?_); (case h1 => rfl); (case hg => rfl); (case hl => rfl)) | ((with_reducible refine passP_q ?h1 ?hl ?hlt fun K2 hK2 => ?_); (case h1 => rfl); (case hl => rfl); (case hlt => exact Nat.le_of_ble_eq_true rfl)) | ((with_reducible refine passP_g ?h1 ?hj ?hl ?hlt fun K1 K3 d hdst h1 h3 => ?_); (case h1 => rfl); (case hj => rfl); (case hl => rfl); (case hlt => exact Nat.le_of_ble_eq_true rfl); cases hdst; go_simp) | ((with_reducible refine passP_lg ?h1 ?hj ?hl ?hlt fun K1 K3 d hdst h1 h3 => ?_); (case h1 => rfl); (case hj => rfl); (case hl => rfl); (case hlt => exact Nat.le_of_ble_eq_true rfl); cases hdst; go_simp) | ((with_reducible refine loudsP_c ?h1 ?hlt (fun K2 hK2 => ?_) ?_); (case h1 => rfl); (case hlt => exact Nat.le_of_ble_eq_true rfl)) | ((with_reducible refine loudsP_cg ?h1 ?hlt ?hj ?hw (fun K2 hK2 => ?_) ?_); (case h1 => rfl); (case hlt => exact Nat.le_of_ble_eq_true rfl); (case hj => rfl); (case hw => (go_simp; done))) | ((with_reducible refine loudsP_v ?h1 ?hv ?hlt (fun K2 hK2 => ?_) ?_); (case h1 => rfl); (case hv => rfl); (case hlt => exact Nat.le_of_ble_eq_true rfl)) | ((with_reducible refine loudsP_u ?h1 ?hv (fun K2 hK2 => ?_) ?_); (case h1 => rfl); (case hv => rfl)) | ((with_reducible refine stableP_pre ?h1 ?_); (case h1 => (first | rfl | (dsimp only; decide +kernel)))) | ((with_reducible refine stableP_re ?h1 ?_); (case h1 => (go_simp; done))) | (go_simp; (try go_bits); (first | (refine hK2 _ _ ?_ ?_ <;> clear hK2 K2) | (refine hK2 _ _ ?_; clear hK2 K2))))
      refine Post.round_normal ⟨PL.length - (k + 1), by omega, k + 1, l', by omega, rfl, (by first | (go_simp; done) | (go_simp; go_num; done) | assumption), (by first | (go_simp; done) | (go_simp; go_num; done) | assumption), (by first | (go_simp; done) | (go_simp; go_num; done) | assumption), (by first | (go_simp; done) | (go_simp; go_num; done) | assumption), (by first | (go_simp; done) | (go_simp; go_num; done) | assumption), (by first | (go_simp; done) | (go_simp; go_num; done) | assumption), (by first | (go_simp; done) | (go_simp; go_num; done) | assumption), (by first | (go_simp; done) | (go_simp; go_num; done) | assumption), Lib.hid ((HX.out.push' _).trans HXG.out), Lib.hid (HNX.out l' HG.out fun b h1 h2 => HS.out b h1 (by omega))⟩
  · repeat' (first | (with_reducible first | refine CodeS.seq ?_ | refine CodeS.region_k fun K hK => ?_ | refine opsP_go fun K2 hK2 => ?_ | refine Post.then_normal ?_ | refine Post.then_ret ?_ | refine Post.then_exit ?_ | refine Post.block_normal ?_ | refine Post.block_ret ?_ | refine Post.block_here ?_ | refine Post.scope_normal ?_ | refine Post.scope_ret ?_ | refine Post.scope_exit ?_ | refine Post.round_ret ?_ | refine Post.round_exit ?_ | refine CodeS.block ?_ | refine CodeS.skip ?_ | refine CodeS.ret ?_ | refine CodeS.exit ?_ | refine CodeS.scope ?_ | refine CodeS.label ?_) | ((with_reducible refine opsP_nil (hK _ _ ?_)); clear hK K) | ((with_reducible refine opsP_gd ?hj ?hlt fun K1 K3 d hdst h1 h3 => ?_); (case hj => rfl); (case hlt => exact Nat.le_of_ble_eq_true rfl); cases hdst; go_simp) | ((with_reducible refine CodeS.cond_k fun K1 K3 h1 h3 => ?_); go_simp) | (refine h1 ?_; clear h1 h3 K1 K3) | (refine h3 ?_; clear h1 h3 K1 K3) | ((refine Either.mk (fun hb => h1 ?_) (fun hb => h3 ?_)) <;> (clear h1 h3 K1 K3; (try have hb2 := of_decide hb); (try have hb2 := of_not_decide_lt hb); (try have hb2 := of_not_decide_le hb); (try have hb2 := of_not_decide_ltN hb); (try have hb2 := of_not_decide_leN hb))) | ((refine Either.mk (fun hb => h3 ?_) (fun hb => h1 ?_)) <;> (clear h1 h3 K1 K3; (try have hb2 := of_decide hb); (try have hb2 := of_not_decide_lt hb); (try have hb2 := of_not_decide_le hb); (try have hb2 := of_not_decide_ltN hb); (try have hb2 := of_not_decide_leN hb))) | (refine fun (K2 : _ → AHeap → Prop) hK2 => ?_) | ((with_reducible refine Post.block_off ?hn ?_); (case hn => decide)) | ((with_reducible first | refine Post.body_k ?hd (fun K hK => ?_) | refine Post.body_kn ?hd (fun K hK => ?_)); (case hd => (go_simp; done)); go_simp; refine hK _ _ ?_; clear hK K) | ((with_reducible refine CodeS.tree_lit mixed rfl ?hok 20 fun K0 hK0 => ?_); (case hok => kernel_rfl)) | (with_reducible first | exact loudsP_nil | exact stableP_nil | refine treeP_lit ?_ | refine passP_nil ?_ | refine stableP_keep ?_) | ((with_reducible first | refine passP_skip ?h1 ?_ | refine loudsP_skip ?h1 ?_ | refine stepT_more ?h1 ?_); (case h1 => rfl)) | ((with_reducible refine stepT_done ?h1 ?_); (case h1 => rfl); refine hK0 _ _ ?_; clear hK0 K0) | ((with_reducible refine passP_loud ?h1 ?hg ?hl ?_); (case h1 => rfl); (case hg => rfl); (case hl => rfl)) | ((with_reducible refine passP_q ?h1 ?hl ?hlt fun K2 hK2 => ?_); (case h1 => rfl); (case hl => rfl); (case hlt => exact Nat.le_of_ble_eq_true rfl)) | ((with_reducible refine passP_g ?h1 ?hj ?hl ?hlt fun K1 K3 d hdst h1 h3 => ?_); (case h1 => rfl); (case hj => rfl); (case hl => rfl); (case hlt => exact Nat.le_of_ble_eq_true rfl); cases hdst; go_simp) | ((with_reducible refine passP_lg ?h1 ?hj ?hl ?hlt fun K1 K3 d hdst h1 h3 => ?_); (case h1 => rfl); (case hj => rfl); (case hl => rfl); (case hlt => exact Nat.le_of_ble_eq_true rfl); cases hdst; go_simp) | ((with_reducible refine loudsP_c ?h1 ?hlt (fun K2 hK2 => ?_) ?_); (case h1 => rfl); (case hlt => exact Nat.le_of_ble_eq_true rfl)) | ((with_reducible refine loudsP_cg ?h1 ?hlt ?hj ?hw (fun K2 hK2 => ?_) ?_); (case h1 => rfl); (case hlt => exact Nat.le_of_ble_eq_true rfl); (case hj => rfl); (case hw => (go_simp; done))) | ((with_reducible refine loudsP_v ?h1 ?hv ?hlt (fun K2 hK2 => ?_) ?_); (case h1 => rfl); (case hv => rfl); (case hlt => exact Nat.le_of_ble_eq_true rfl)) | ((with_reducible refine loudsP_u ?h1 ?hv (fun K2 hK2 => ?_) ?_); (case h1 => rfl); (case hv => rfl)) | ((with_reducible refine stableP_pre ?h1 ?_); (case h1 => (first | rfl | (dsimp only; decide +kernel)))) | ((with_reducible refine stableP_re ?h1 ?_); (case h1 => (go_simp; done))) | (go_simp; (try go_bits); (first | (refine hK2 _ _ ?_ ?_ <;> clear hK2 K2) | (refine hK2 _ _ ?_; clear hK2 K2))))
    have hke : k = PL.length := by omega
    subst hke
    refine ⟨⟨_, rfl, ?_, ?_⟩, HXT.out.trans HX.out⟩
    · rw [HSH.out]
      rcases HG.out.got with h1 | h1
      · have h2 := HG.out.all _ HPX.out
        have h3 := (HTB.out _ HPX.out).2.1
        omega
      · exact h1
    · rw [HSH.out]; exact HG.out.all
end Go.Proofs.Try
