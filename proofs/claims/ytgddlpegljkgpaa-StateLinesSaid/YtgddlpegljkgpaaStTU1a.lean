/- Contracts of functions, walked. -/
import Derived.Test.YtgddlpegljkgpaaStTG
import Derived.Test.YtgddlpegljkgpaaStSA
import Derived.Test.YtgddlpegljkgpaaStSM
import Derived.Test.YtgddlpegljkgpaaStTC
import Derived.Test.YtgddlpegljkgpaaAwB
set_option linter.all false
namespace Go.Proofs.Try
open Go Go.Am Go.RowKit Go.Co
set_option maxRecDepth 100000

theorem first_o {loops : List (Nat × LInfo)} {H : AHeap} {sv cv : Value} {s : Sheet} {c : Copy} (hs : SheetV H sv s) (hc : CopyV H cv c) : CallS Try.prog loops 46 [sv, cv] H fun r H' => (∃ fv, r = .tuple #[fv, .int .i64 (errExt s c)] ∧ Own H' H.n fv 3 1 ((firstL s c).map (Value.int .i64))) ∧ Ext H H' := by
  have HS := Lib.hid hs
  have HC := Lib.hid hc
  obtain ⟨wv, av, rfl, hw, ha⟩ := hs
  obtain ⟨hwl, wa, wc, rfl⟩ := hw.slice
  obtain ⟨hal, aa, ac, rfl⟩ := ha.slice
  obtain ⟨cv, rfl, hcw⟩ := hc
  obtain ⟨hcl, ca, cc, rfl⟩ := hcw.slice
  clear hw ha hcw
  refine CallS.enter' Try.func46 rfl Try.ntmps46 (by simp) fun f hd hf => ?_
  have f0 := hf 0
  have f1 := hf 1
  simp at f0 f1
  clear hf
  have HX1 : Hid (Ext H ((H.push (.row [Value.slice wa s.words.length wc, Value.slice aa s.alts.length ac] 25)).push (.row [Value.slice ca c.words.length cc, .int .i64 c.beg, .int .i64 c.fin, .int .i64 c.per] 27))) := Lib.hid (((Ext.refl _).push' _).push' _)
  generalize hee : errExt s c = er
  have HE := Lib.hid hee
  clear hee
  repeat' (first | (with_reducible first | refine CodeS.seq ?_ | refine CodeS.region_k fun K hK => ?_ | refine opsP_go fun K2 hK2 => ?_ | refine Post.then_normal ?_ | refine Post.then_ret ?_ | refine Post.then_exit ?_ | refine Post.block_normal ?_ | refine Post.block_ret ?_ | refine Post.block_here ?_ | refine Post.scope_normal ?_ | refine Post.scope_ret ?_ | refine Post.scope_exit ?_ | refine Post.round_ret ?_ | refine Post.round_exit ?_ | refine CodeS.block ?_ | refine CodeS.skip ?_ | refine CodeS.ret ?_ | refine CodeS.exit ?_ | refine CodeS.scope ?_ | refine CodeS.label ?_) | ((with_reducible refine opsP_nil (hK _ _ ?_)); clear hK K) | ((with_reducible refine opsP_gd ?hj ?hlt fun K1 K3 d hdst h1 h3 => ?_); (case hj => rfl); (case hlt => exact Nat.le_of_ble_eq_true rfl); cases hdst; go_simp) | ((with_reducible refine CodeS.cond_k fun K1 K3 h1 h3 => ?_); go_simp) | (refine h1 ?_; clear h1 h3 K1 K3) | (refine h3 ?_; clear h1 h3 K1 K3) | ((refine Either.mk (fun hb => h1 ?_) (fun hb => h3 ?_)) <;> (clear h1 h3 K1 K3; (try have hb2 := of_decide hb); (try have hb2 := of_not_decide_lt hb); (try have hb2 := of_not_decide_le hb); (try have hb2 := of_not_decide_ltN hb); (try have hb2 := of_not_decide_leN hb))) | ((refine Either.mk (fun hb => h3 ?_) (fun hb => h1 ?_)) <;> (clear h1 h3 K1 K3; (try have hb2 := of_decide hb); (try have hb2 := of_not_decide_lt hb); (try have hb2 := of_not_decide_le hb); (try have hb2 := of_not_decide_ltN hb); (try have hb2 := of_not_decide_leN hb))) | (refine fun (K2 : _ → AHeap → Prop) hK2 => ?_) | ((with_reducible refine Post.block_off ?hn ?_); (case hn => decide)) | ((with_reducible first | refine Post.body_k ?hd (fun K hK => ?_) | refine Post.body_kn ?hd (fun K hK => ?_)); (case hd => (go_simp; done)); go_simp; refine hK _ _ ?_; clear hK K) | (go_simp; (try go_bits); (try first | ((with_reducible show CallS _ _ _ _ _ _); refine CallS.mono (extentOf_o (s := s) (c := c) (HS.out.ext HX1.out) (HC.out.ext HX1.out)) ?_; rintro _ H1 ⟨⟨oa, on, oc, pi, fv, lv, rfl, hf1, hl1, -⟩, hx⟩; rw [HE.out]; (have HF := Lib.hid hf1); (have HX2 := Lib.hid (HX1.out.trans hx)); (obtain ⟨fa, fn, rfl⟩ := own_slice hf1); (obtain ⟨la, ln, rfl⟩ := own_slice hl1); clear hf1 hl1 hx)); refine hK2 _ _ ?_; clear hK2 K2))
  exact ⟨⟨_, rfl, (HF.out.mono (by simp only [AHeap.n_push]; omega)).ext (Ext.push _)⟩, HX2.out.push' _⟩

theorem last_o {loops : List (Nat × LInfo)} {H : AHeap} {sv cv : Value} {s : Sheet} {c : Copy} (hs : SheetV H sv s) (hc : CopyV H cv c) : CallS Try.prog loops 47 [sv, cv] H fun r H' => (∃ fv, r = .tuple #[fv, .int .i64 (errExt s c)] ∧ Own H' H.n fv 3 1 ((lastL s c).map (Value.int .i64))) ∧ Ext H H' := by
  have HS := Lib.hid hs
  have HC := Lib.hid hc
  obtain ⟨wv, av, rfl, hw, ha⟩ := hs
  obtain ⟨hwl, wa, wc, rfl⟩ := hw.slice
  obtain ⟨hal, aa, ac, rfl⟩ := ha.slice
  obtain ⟨cv, rfl, hcw⟩ := hc
  obtain ⟨hcl, ca, cc, rfl⟩ := hcw.slice
  clear hw ha hcw
  refine CallS.enter' Try.func47 rfl Try.ntmps47 (by simp) fun f hd hf => ?_
  have f0 := hf 0
  have f1 := hf 1
  simp at f0 f1
  clear hf
  have HX1 : Hid (Ext H ((H.push (.row [Value.slice wa s.words.length wc, Value.slice aa s.alts.length ac] 25)).push (.row [Value.slice ca c.words.length cc, .int .i64 c.beg, .int .i64 c.fin, .int .i64 c.per] 27))) := Lib.hid (((Ext.refl _).push' _).push' _)
  generalize hee : errExt s c = er
  have HE := Lib.hid hee
  clear hee
  repeat' (first | (with_reducible first | refine CodeS.seq ?_ | refine CodeS.region_k fun K hK => ?_ | refine opsP_go fun K2 hK2 => ?_ | refine Post.then_normal ?_ | refine Post.then_ret ?_ | refine Post.then_exit ?_ | refine Post.block_normal ?_ | refine Post.block_ret ?_ | refine Post.block_here ?_ | refine Post.scope_normal ?_ | refine Post.scope_ret ?_ | refine Post.scope_exit ?_ | refine Post.round_ret ?_ | refine Post.round_exit ?_ | refine CodeS.block ?_ | refine CodeS.skip ?_ | refine CodeS.ret ?_ | refine CodeS.exit ?_ | refine CodeS.scope ?_ | refine CodeS.label ?_) | ((with_reducible refine opsP_nil (hK _ _ ?_)); clear hK K) | ((with_reducible refine opsP_gd ?hj ?hlt fun K1 K3 d hdst h1 h3 => ?_); (case hj => rfl); (case hlt => exact Nat.le_of_ble_eq_true rfl); cases hdst; go_simp) | ((with_reducible refine CodeS.cond_k fun K1 K3 h1 h3 => ?_); go_simp) | (refine h1 ?_; clear h1 h3 K1 K3) | (refine h3 ?_; clear h1 h3 K1 K3) | ((refine Either.mk (fun hb => h1 ?_) (fun hb => h3 ?_)) <;> (clear h1 h3 K1 K3; (try have hb2 := of_decide hb); (try have hb2 := of_not_decide_lt hb); (try have hb2 := of_not_decide_le hb); (try have hb2 := of_not_decide_ltN hb); (try have hb2 := of_not_decide_leN hb))) | ((refine Either.mk (fun hb => h3 ?_) (fun hb => h1 ?_)) <;> (clear h1 h3 K1 K3; (try have hb2 := of_decide hb); (try have hb2 := of_not_decide_lt hb); (try have hb2 := of_not_decide_le hb); (try have hb2 := of_not_decide_ltN hb); (try have hb2 := of_not_decide_leN hb))) | (refine fun (K2 : _ → AHeap → Prop) hK2 => ?_) | ((with_reducible refine Post.block_off ?hn ?_); (case hn => decide)) | ((with_reducible first | refine Post.body_k ?hd (fun K hK => ?_) | refine Post.body_kn ?hd (fun K hK => ?_)); (case hd => (go_simp; done)); go_simp; refine hK _ _ ?_; clear hK K) | (go_simp; (try go_bits); (try first | ((with_reducible show CallS _ _ _ _ _ _); refine CallS.mono (extentOf_o (s := s) (c := c) (HS.out.ext HX1.out) (HC.out.ext HX1.out)) ?_; rintro _ H1 ⟨⟨oa, on, oc, pi, fv, lv, rfl, hf1, hl1, -⟩, hx⟩; rw [HE.out]; (have HF := Lib.hid hl1); (have HX2 := Lib.hid (HX1.out.trans hx)); (obtain ⟨fa, fn, rfl⟩ := own_slice hf1); (obtain ⟨la, ln, rfl⟩ := own_slice hl1); clear hf1 hl1 hx)); refine hK2 _ _ ?_; clear hK2 K2))
  exact ⟨⟨_, rfl, (HF.out.mono (by simp only [AHeap.n_push]; omega)).ext (Ext.push _)⟩, HX2.out.push' _⟩
theorem first_e {loops : List (Nat × LInfo)} {H : AHeap} {sv cv : Value} {s : Sheet} {c : Copy} (hs : SheetV H sv s) (hc : CopyV H cv c) : CallS Try.prog loops 46 [sv, cv] H fun r H' => (∃ fv, r = .tuple #[fv, .int .i64 (errExt s c)] ∧ Ints H' fv (firstL s c)) ∧ Ext H H' :=
  CallS.mono (first_o hs hc) fun _ _ ⟨⟨fv, h1, h2⟩, h3⟩ => ⟨⟨fv, h1, ints_of_own h2 (ends_len s c).1⟩, h3⟩
theorem last_e {loops : List (Nat × LInfo)} {H : AHeap} {sv cv : Value} {s : Sheet} {c : Copy} (hs : SheetV H sv s) (hc : CopyV H cv c) : CallS Try.prog loops 47 [sv, cv] H fun r H' => (∃ fv, r = .tuple #[fv, .int .i64 (errExt s c)] ∧ Ints H' fv (lastL s c)) ∧ Ext H H' :=
  CallS.mono (last_o hs hc) fun _ _ ⟨⟨fv, h1, h2⟩, h3⟩ => ⟨⟨fv, h1, ints_of_own h2 (ends_len s c).2⟩, h3⟩
end Go.Proofs.Try
namespace Go.Proofs.Try
open Go Go.Am Go.RowKit Go.Co

/-! The ends of a course: pure. -/
def Course.op (x : Course) (i : Nat) (d : Int) : Bool := ins (x.at_ i) d
theorem Course.op_in {x : Course} (h : x.ord) (i : Nat) (d : Int) (ho : x.op i d = true) : 0 ≤ d ∧ d ≤ 730 := ordS_ins _ (h i) d ho
def Course.fit (x : Course) (p : Nat) (g : List Int) : Prop := g.length = x.open_.length ∧ FitTo x.op p g g.length

theorem Course.early_fit {x : Course} {p : Nat} (h : x.ord) (hp : 1 ≤ p) (hm : x.made p = true) : x.fit p (x.early p 0) := by
  have h1 : (x.early p 0).length = x.open_.length := by simpa [Course.made] using hm
  exact ⟨h1, (early_ok (op := x.op) hp (fun i f => x.nx_ok h i f) x.open_.length (frm := 0)).2.1⟩
theorem Course.fit_in {x : Course} {p : Nat} {g : List Int} (h : x.ord) (hg : x.fit p g) : ∀ i, i < g.length → 0 ≤ g.getD i 0 ∧ g.getD i 0 ≤ 730 := fun i hi => x.op_in h i _ (hg.2 i hi).1
theorem Course.fit_early {x : Course} {p : Nat} {g : List Int} (h : x.ord) (hp : 1 ≤ p) (hg : x.fit p g) : x.made p = true ∧ ∀ i, i < g.length → (x.early p 0).getD i 0 ≤ g.getD i 0 := by
  have h1 := early_ok (op := x.op) hp (fun i f => x.nx_ok h i f) x.open_.length (frm := 0)
  obtain ⟨h2, -, -, h3⟩ := h1
  obtain ⟨h4, h5⟩ := h3 g g.length (by have := hg.1; omega) hg.2 (fun i hi => (x.fit_in h hg i hi).1)
  refine ⟨?_, h5⟩
  have h6 : (x.early p 0).length = x.open_.length := by
    have h7 : g.length ≤ (x.early p 0).length := h4
    have h8 : (x.early p 0).length ≤ x.open_.length := h2
    have := hg.1
    omega
  simp [Course.made, h6]

theorem Course.mir_len (x : Course) : x.mir.open_.length = x.open_.length := by simp [Course.mir]
theorem Course.mir_at {x : Course} {i : Nat} (hi : i < x.open_.length) : x.mir.at_ i = flipS (x.at_ (x.open_.length - 1 - i)) := by
  simp [Course.mir, Course.at_, hi, List.getElem_reverse, show x.open_.length - 1 - i < x.open_.length by omega]
theorem Course.mir_op {x : Course} {i : Nat} (hi : i < x.open_.length) (d : Int) : x.mir.op i d = x.op (x.open_.length - 1 - i) (730 - d) := by
  rw [Course.op, x.mir_at hi, flipS_ins]; rfl
theorem Course.mir_fit {x : Course} {p : Nat} {g : List Int} (h : x.ord) (hp : 1 ≤ p) (hg : x.fit p g) : x.mir.fit p (flipD g) := by
  refine ⟨by rw [flipD_len, x.mir_len]; exact hg.1, ?_⟩
  rw [flipD_len]
  refine fit_flip hp (x.op_in h) (fun i d hi => ?_) hg.2
  rw [x.mir_op (by have := hg.1; omega), ← hg.1]
theorem Course.fit_mir {x : Course} {p : Nat} {g : List Int} (h : x.ord) (hp : 1 ≤ p) (hg : x.mir.fit p g) : x.fit p (flipD g) := by
  have hl : g.length = x.open_.length := by rw [← x.mir_len]; exact hg.1
  refine ⟨by rw [flipD_len]; exact hl, ?_⟩
  rw [flipD_len]
  refine fit_flip hp (x.mir.op_in (Course.mir_ord h)) (fun i d hi => ?_) hg.2
  rw [x.mir_op (by omega), hl, show x.open_.length - 1 - (x.open_.length - 1 - i) = i by omega, show (730 : Int) - (730 - d) = d by omega]
theorem Course.mir_made {x : Course} {p : Nat} (h : x.ord) (hp : 1 ≤ p) : x.mir.made p = x.made p := by
  rw [Bool.eq_iff_iff]
  constructor
  · intro hm
    exact (x.fit_early h hp (x.fit_mir h hp (x.mir.early_fit (Course.mir_ord h) hp hm))).1
  · intro hm
    exact (x.mir.fit_early (Course.mir_ord h) hp (x.mir_fit h hp (x.early_fit h hp hm))).1
theorem Course.late_fit {x : Course} {p : Nat} (h : x.ord) (hp : 1 ≤ p) (hm : x.made p = true) : x.fit p (x.late p) :=
  x.fit_mir h hp (x.mir.early_fit (Course.mir_ord h) hp (by rw [x.mir_made h hp]; exact hm))
theorem flip_le {a b : List Int} (hl : a.length = b.length) (h : ∀ i, i < b.length → a.getD i 0 ≤ (flipD b).getD i 0) : ∀ i, i < b.length → b.getD i 0 ≤ (flipD a).getD i 0 := by
  intro i hi
  have h1 := h (b.length - 1 - i) (by omega)
  rw [flipD_get (by omega)] at h1
  rw [flipD_get (by omega), hl]
  rw [show b.length - 1 - (b.length - 1 - i) = i by omega] at h1
  omega
theorem Course.fit_late {x : Course} {p : Nat} {g : List Int} (h : x.ord) (hp : 1 ≤ p) (hg : x.fit p g) : ∀ i, i < g.length → g.getD i 0 ≤ (x.late p).getD i 0 := by
  have h1 := x.mir.fit_early (Course.mir_ord h) hp (x.mir_fit h hp hg)
  have h2 : (x.mir.early p 0).length = g.length := by
    have := h1.1
    simp only [Course.made, decide_eq_true_eq] at this
    rw [this, x.mir_len, hg.1]
  refine flip_le h2 (fun i hi => h1.2 i (by rw [flipD_len]; exact hi))

end Go.Proofs.Try
namespace Go.Proofs.Try
open Go Go.Am Go.RowKit
set_option maxRecDepth 100000

/-! Numbers below others. -/
def belowL (a b : List Int) (n : Nat) : Bool := decide (n ≤ a.length) && decide (n ≤ b.length) && (List.range n).all fun i => decide (a.getD i 0 ≤ b.getD i 0)
theorem belowL_iff {a b : List Int} {n : Nat} : belowL a b n = true ↔ n ≤ a.length ∧ n ≤ b.length ∧ ∀ i, i < n → a.getD i 0 ≤ b.getD i 0 := by
  simp [belowL, and_assoc]

theorem below_s {loops : List (Nat × LInfo)} {H : AHeap} {u v : Value} {xs ys : List Int} {n : Nat} (hu : Ints H u xs) (hv : Ints H v ys) : CallS Try.prog loops 50 [u, v, .int .i64 n] H fun r H' => r = .bool (belowL xs ys n) ∧ H' = H := by
  obtain ⟨hlen, a, c, rfl⟩ := hu.slice
  obtain ⟨hlen2, a2, c2, rfl⟩ := hv.slice
  have HU := Lib.hid hu
  have HV := Lib.hid hv
  clear hu hv
  generalize he : belowL xs ys n = er
  have HE := Lib.hid he
  clear he
  refine CallS.enter' Try.func50 rfl Try.ntmps50 (by simp) fun f hd hf => ?_
  have f0 := hf 0
  have f1 := hf 1
  have f2 := hf 2
  simp at f0 f1 f2
  clear hf
  repeat' (first | (with_reducible first | refine CodeS.seq ?_ | refine CodeS.region_k fun K hK => ?_ | refine opsP_go fun K2 hK2 => ?_ | refine Post.then_normal ?_ | refine Post.then_ret ?_ | refine Post.then_exit ?_ | refine Post.block_normal ?_ | refine Post.block_ret ?_ | refine Post.block_here ?_ | refine Post.scope_normal ?_ | refine Post.scope_ret ?_ | refine Post.scope_exit ?_ | refine Post.round_ret ?_ | refine Post.round_exit ?_ | refine CodeS.block ?_ | refine CodeS.skip ?_ | refine CodeS.ret ?_ | refine CodeS.exit ?_ | refine CodeS.scope ?_ | refine CodeS.label ?_) | ((with_reducible refine opsP_nil (hK _ _ ?_)); clear hK K) | ((with_reducible refine opsP_gd ?hj ?hlt fun K1 K3 d hdst h1 h3 => ?_); (case hj => rfl); (case hlt => exact Nat.le_of_ble_eq_true rfl); cases hdst; go_simp) | ((with_reducible refine CodeS.cond_k fun K1 K3 h1 h3 => ?_); go_simp) | (refine h1 ?_; clear h1 h3 K1 K3) | (refine h3 ?_; clear h1 h3 K1 K3) | ((refine Either.mk (fun hb => h1 ?_) (fun hb => h3 ?_)) <;> (clear h1 h3 K1 K3; (try have hb2 := of_decide hb); (try have hb2 := of_not_decide_lt hb); (try have hb2 := of_not_decide_le hb); (try have hb2 := of_not_decide_ltN hb); (try have hb2 := of_not_decide_leN hb))) | ((refine Either.mk (fun hb => h3 ?_) (fun hb => h1 ?_)) <;> (clear h1 h3 K1 K3; (try have hb2 := of_decide hb); (try have hb2 := of_not_decide_lt hb); (try have hb2 := of_not_decide_le hb); (try have hb2 := of_not_decide_ltN hb); (try have hb2 := of_not_decide_leN hb))) | (refine fun (K2 : _ → AHeap → Prop) hK2 => ?_) | ((with_reducible refine Post.block_off ?hn ?_); (case hn => decide)) | ((with_reducible first | refine Post.body_k ?hd (fun K hK => ?_) | refine Post.body_kn ?hd (fun K hK => ?_)); (case hd => (go_simp; done)); go_simp; refine hK _ _ ?_; clear hK K) | ((with_reducible refine CodeS.tree_lit mixed rfl ?hok 20 fun K0 hK0 => ?_); (case hok => kernel_rfl)) | (with_reducible first | exact loudsP_nil | exact stableP_nil | refine treeP_lit ?_ | refine passP_nil ?_ | refine stableP_keep ?_) | ((with_reducible first | refine passP_skip ?h1 ?_ | refine loudsP_skip ?h1 ?_ | refine stepT_more ?h1 ?_); (case h1 => rfl)) | ((with_reducible refine stepT_done ?h1 ?_); (case h1 => rfl); refine hK0 _ _ ?_; clear hK0 K0) | ((with_reducible refine passP_loud ?h1 ?hg ?hl ?_); (case h1 => rfl); (case hg => rfl); (case hl => rfl)) | ((with_reducible refine passP_q ?h1 ?hl ?hlt fun K2 hK2 => ?_); (case h1 => rfl); (case hl => rfl); (case hlt => exact Nat.le_of_ble_eq_true rfl)) | ((with_reducible refine passP_g ?h1 ?hj ?hl ?hlt fun K1 K3 d hdst h1 h3 => ?_); (case h1 => rfl); (case hj => rfl); (case hl => rfl); (case hlt => exact Nat.le_of_ble_eq_true rfl); cases hdst; go_simp) | ((with_reducible refine passP_lg ?h1 ?hj ?hl ?hlt fun K1 K3 d hdst h1 h3 => ?_); (case h1 => rfl); (case hj => rfl); (case hl => rfl); (case hlt => exact Nat.le_of_ble_eq_true rfl); cases hdst; go_simp) | ((with_reducible refine loudsP_c ?h1 ?hlt (fun K2 hK2 => ?_) ?_); (case h1 => rfl); (case hlt => exact Nat.le_of_ble_eq_true rfl)) | ((with_reducible refine loudsP_cg ?h1 ?hlt ?hj ?hw (fun K2 hK2 => ?_) ?_); (case h1 => rfl); (case hlt => exact Nat.le_of_ble_eq_true rfl); (case hj => rfl); (case hw => (go_simp; done))) | ((with_reducible refine loudsP_v ?h1 ?hv ?hlt (fun K2 hK2 => ?_) ?_); (case h1 => rfl); (case hv => rfl); (case hlt => exact Nat.le_of_ble_eq_true rfl)) | ((with_reducible refine loudsP_u ?h1 ?hv (fun K2 hK2 => ?_) ?_); (case h1 => rfl); (case hv => rfl)) | ((with_reducible refine stableP_pre ?h1 ?_); (case h1 => (first | rfl | (dsimp only; decide +kernel)))) | ((with_reducible refine stableP_re ?h1 ?_); (case h1 => (go_simp; done))) | (go_simp; (try go_bits); (first | (refine hK2 _ _ ?_ ?_ <;> clear hK2 K2) | (refine hK2 _ _ ?_; clear hK2 K2))))
  all_goals first
    | (refine ⟨?_, rfl⟩
       have h0 : ¬ (n ≤ xs.length ∧ n ≤ ys.length) := by omega
       have h1 : belowL xs ys n = false := by rw [Bool.eq_false_iff]; intro h; have := belowL_iff.1 h; exact h0 ⟨this.1, this.2.1⟩
       rw [← HE.out, h1])
    | skip
  have h1 : n ≤ xs.length := by omega
  have h2 : n ≤ ys.length := by omega
  refine CodeS.loop (fun m f H' => ∃ k : Nat, k ≤ n ∧ m = n - k ∧ f.tmp 7 = .int .i64 k ∧ f.tmp 0 = .slice a xs.length c ∧ f.tmp 1 = .slice a2 ys.length c2 ∧ f.tmp 2 = .int .i64 n ∧ f.defers = [] ∧ Hid (∀ i, i < k → xs.getD i 0 ≤ ys.getD i 0) ∧ H' = H) n ?_ ?_
  · exact ⟨0, by simp, by simp, (by first | (go_simp; done) | (go_simp; go_num; done) | assumption), (by first | (go_simp; done) | (go_simp; go_num; done) | assumption), (by first | (go_simp; done) | (go_simp; go_num; done) | assumption), (by first | (go_simp; done) | (go_simp; go_num; done) | assumption), (by first | (go_simp; done) | (go_simp; go_num; done) | assumption), Lib.hid (by intro i hi; omega), rfl⟩
  clear f0 f1 f2 hd f
  rintro m f H' ⟨k, hk, rfl, f7, f0, f1, f2, hd, HG, rfl⟩
  by_cases hlt : k < n
  · have hlx : k < xs.length := by omega
    have hly : k < ys.length := by omega
    obtain ⟨b, o, sp, rfl, hb, hx⟩ := HU.out.at_ hlx
    obtain ⟨b2, o2, sp2, rfl, hb2, hx2⟩ := HV.out.at_ hly
    have HX : Hid (xs.getD k 0 = xs[k]) := Lib.hid (by simp [List.getD_eq_getElem?_getD, hlx])
    have HY : Hid (ys.getD k 0 = ys[k]) := Lib.hid (by simp [List.getD_eq_getElem?_getD, hly])
    generalize xs[k] = x at hx HX
    generalize ys[k] = y at hx2 HY
    repeat' (first | (with_reducible first | refine CodeS.seq ?_ | refine CodeS.region_k fun K hK => ?_ | refine opsP_go fun K2 hK2 => ?_ | refine Post.then_normal ?_ | refine Post.then_ret ?_ | refine Post.then_exit ?_ | refine Post.block_normal ?_ | refine Post.block_ret ?_ | refine Post.block_here ?_ | refine Post.scope_normal ?_ | refine Post.scope_ret ?_ | refine Post.scope_exit ?_ | refine Post.round_ret ?_ | refine Post.round_exit ?_ | refine CodeS.block ?_ | refine CodeS.skip ?_ | refine CodeS.ret ?_ | refine CodeS.exit ?_ | refine CodeS.scope ?_ | refine CodeS.label ?_) | ((with_reducible refine opsP_nil (hK _ _ ?_)); clear hK K) | ((with_reducible refine opsP_gd ?hj ?hlt fun K1 K3 d hdst h1 h3 => ?_); (case hj => rfl); (case hlt => exact Nat.le_of_ble_eq_true rfl); cases hdst; go_simp) | ((with_reducible refine CodeS.cond_k fun K1 K3 h1 h3 => ?_); go_simp) | (refine h1 ?_; clear h1 h3 K1 K3) | (refine h3 ?_; clear h1 h3 K1 K3) | ((refine Either.mk (fun hb => h1 ?_) (fun hb => h3 ?_)) <;> (clear h1 h3 K1 K3; (try have hb2 := of_decide hb); (try have hb2 := of_not_decide_lt hb); (try have hb2 := of_not_decide_le hb); (try have hb2 := of_not_decide_ltN hb); (try have hb2 := of_not_decide_leN hb))) | ((refine Either.mk (fun hb => h3 ?_) (fun hb => h1 ?_)) <;> (clear h1 h3 K1 K3; (try have hb2 := of_decide hb); (try have hb2 := of_not_decide_lt hb); (try have hb2 := of_not_decide_le hb); (try have hb2 := of_not_decide_ltN hb); (try have hb2 := of_not_decide_leN hb))) | (refine fun (K2 : _ → AHeap → Prop) hK2 => ?_) | ((with_reducible refine Post.block_off ?hn ?_); (case hn => decide)) | ((with_reducible first | refine Post.body_k ?hd (fun K hK => ?_) | refine Post.body_kn ?hd (fun K hK => ?_)); (case hd => (go_simp; done)); go_simp; refine hK _ _ ?_; clear hK K) | ((with_reducible refine CodeS.tree_lit mixed rfl ?hok 20 fun K0 hK0 => ?_); (case hok => kernel_rfl)) | (with_reducible first | exact loudsP_nil | exact stableP_nil | refine treeP_lit ?_ | refine passP_nil ?_ | refine stableP_keep ?_) | ((with_reducible first | refine passP_skip ?h1 ?_ | refine loudsP_skip ?h1 ?_ | refine stepT_more ?h1 ?_); (case h1 => rfl)) | ((with_reducible refine stepT_done ?h1 ?_); (case h1 => rfl); refine hK0 _ _ ?_; clear hK0 K0) | ((with_reducible refine passP_loud ?h1 ?hg ?hl ?_); (case h1 => rfl); (case hg => rfl); (case hl => rfl)) | ((with_reducible refine passP_q ?h1 ?hl ?hlt fun K2 hK2 => ?_); (case h1 => rfl); (case hl => rfl); (case hlt => exact Nat.le_of_ble_eq_true rfl)) | ((with_reducible refine passP_g ?h1 ?hj ?hl ?hlt fun K1 K3 d hdst h1 h3 => ?_); (case h1 => rfl); (case hj => rfl); (case hl => rfl); (case hlt => exact Nat.le_of_ble_eq_true rfl); cases hdst; go_simp) | ((with_reducible refine passP_lg ?h1 ?hj ?hl ?hlt fun K1 K3 d hdst h1 h3 => ?_); (case h1 => rfl); (case hj => rfl); (case hl => rfl); (case hlt => exact Nat.le_of_ble_eq_true rfl); cases hdst; go_simp) | ((with_reducible refine loudsP_c ?h1 ?hlt (fun K2 hK2 => ?_) ?_); (case h1 => rfl); (case hlt => exact Nat.le_of_ble_eq_true rfl)) | ((with_reducible refine loudsP_cg ?h1 ?hlt ?hj ?hw (fun K2 hK2 => ?_) ?_); (case h1 => rfl); (case hlt => exact Nat.le_of_ble_eq_true rfl); (case hj => rfl); (case hw => (go_simp; done))) | ((with_reducible refine loudsP_v ?h1 ?hv ?hlt (fun K2 hK2 => ?_) ?_); (case h1 => rfl); (case hv => rfl); (case hlt => exact Nat.le_of_ble_eq_true rfl)) | ((with_reducible refine loudsP_u ?h1 ?hv (fun K2 hK2 => ?_) ?_); (case h1 => rfl); (case hv => rfl)) | ((with_reducible refine stableP_pre ?h1 ?_); (case h1 => (first | rfl | (dsimp only; decide +kernel)))) | ((with_reducible refine stableP_re ?h1 ?_); (case h1 => (go_simp; done))) | (go_simp; (try go_bits); (first | (refine hK2 _ _ ?_ ?_ <;> clear hK2 K2) | (refine hK2 _ _ ?_; clear hK2 K2))))
    · refine ⟨?_, rfl⟩
      have h3 : belowL xs ys n = false := by rw [Bool.eq_false_iff]; intro h; have := (belowL_iff.1 h).2.2 k hlt; rw [HX.out, HY.out] at this; omega
      rw [← HE.out, h3]
    · refine Post.round_normal ⟨n - (k + 1), by omega, k + 1, by omega, rfl, (by first | (go_simp; done) | (go_simp; go_num; done) | assumption), (by first | (go_simp; done) | (go_simp; go_num; done) | assumption), (by first | (go_simp; done) | (go_simp; go_num; done) | assumption), (by first | (go_simp; done) | (go_simp; go_num; done) | assumption), (by first | (go_simp; done) | (go_simp; go_num; done) | assumption), Lib.hid ?_, rfl⟩
      intro i hi
      rcases Nat.lt_or_ge i k with h3 | h3
      · exact HG.out i h3
      · have : i = k := by omega
        rw [this, HX.out, HY.out]; omega
  · repeat' (first | (with_reducible first | refine CodeS.seq ?_ | refine CodeS.region_k fun K hK => ?_ | refine opsP_go fun K2 hK2 => ?_ | refine Post.then_normal ?_ | refine Post.then_ret ?_ | refine Post.then_exit ?_ | refine Post.block_normal ?_ | refine Post.block_ret ?_ | refine Post.block_here ?_ | refine Post.scope_normal ?_ | refine Post.scope_ret ?_ | refine Post.scope_exit ?_ | refine Post.round_ret ?_ | refine Post.round_exit ?_ | refine CodeS.block ?_ | refine CodeS.skip ?_ | refine CodeS.ret ?_ | refine CodeS.exit ?_ | refine CodeS.scope ?_ | refine CodeS.label ?_) | ((with_reducible refine opsP_nil (hK _ _ ?_)); clear hK K) | ((with_reducible refine opsP_gd ?hj ?hlt fun K1 K3 d hdst h1 h3 => ?_); (case hj => rfl); (case hlt => exact Nat.le_of_ble_eq_true rfl); cases hdst; go_simp) | ((with_reducible refine CodeS.cond_k fun K1 K3 h1 h3 => ?_); go_simp) | (refine h1 ?_; clear h1 h3 K1 K3) | (refine h3 ?_; clear h1 h3 K1 K3) | ((refine Either.mk (fun hb => h1 ?_) (fun hb => h3 ?_)) <;> (clear h1 h3 K1 K3; (try have hb2 := of_decide hb); (try have hb2 := of_not_decide_lt hb); (try have hb2 := of_not_decide_le hb); (try have hb2 := of_not_decide_ltN hb); (try have hb2 := of_not_decide_leN hb))) | ((refine Either.mk (fun hb => h3 ?_) (fun hb => h1 ?_)) <;> (clear h1 h3 K1 K3; (try have hb2 := of_decide hb); (try have hb2 := of_not_decide_lt hb); (try have hb2 := of_not_decide_le hb); (try have hb2 := of_not_decide_ltN hb); (try have hb2 := of_not_decide_leN hb))) | (refine fun (K2 : _ → AHeap → Prop) hK2 => ?_) | ((with_reducible refine Post.block_off ?hn ?_); (case hn => decide)) | ((with_reducible first | refine Post.body_k ?hd (fun K hK => ?_) | refine Post.body_kn ?hd (fun K hK => ?_)); (case hd => (go_simp; done)); go_simp; refine hK _ _ ?_; clear hK K) | ((with_reducible refine CodeS.tree_lit mixed rfl ?hok 20 fun K0 hK0 => ?_); (case hok => kernel_rfl)) | (with_reducible first | exact loudsP_nil | exact stableP_nil | refine treeP_lit ?_ | refine passP_nil ?_ | refine stableP_keep ?_) | ((with_reducible first | refine passP_skip ?h1 ?_ | refine loudsP_skip ?h1 ?_ | refine stepT_more ?h1 ?_); (case h1 => rfl)) | ((with_reducible refine stepT_done ?h1 ?_); (case h1 => rfl); refine hK0 _ _ ?_; clear hK0 K0) | ((with_reducible refine passP_loud ?h1 ?hg ?hl ?_); (case h1 => rfl); (case hg => rfl); (case hl => rfl)) | ((with_reducible refine passP_q ?h1 ?hl ?hlt fun K2 hK2 => ?_); (case h1 => rfl); (case hl => rfl); (case hlt => exact Nat.le_of_ble_eq_true rfl)) | ((with_reducible refine passP_g ?h1 ?hj ?hl ?hlt fun K1 K3 d hdst h1 h3 => ?_); (case h1 => rfl); (case hj => rfl); (case hl => rfl); (case hlt => exact Nat.le_of_ble_eq_true rfl); cases hdst; go_simp) | ((with_reducible refine passP_lg ?h1 ?hj ?hl ?hlt fun K1 K3 d hdst h1 h3 => ?_); (case h1 => rfl); (case hj => rfl); (case hl => rfl); (case hlt => exact Nat.le_of_ble_eq_true rfl); cases hdst; go_simp) | ((with_reducible refine loudsP_c ?h1 ?hlt (fun K2 hK2 => ?_) ?_); (case h1 => rfl); (case hlt => exact Nat.le_of_ble_eq_true rfl)) | ((with_reducible refine loudsP_cg ?h1 ?hlt ?hj ?hw (fun K2 hK2 => ?_) ?_); (case h1 => rfl); (case hlt => exact Nat.le_of_ble_eq_true rfl); (case hj => rfl); (case hw => (go_simp; done))) | ((with_reducible refine loudsP_v ?h1 ?hv ?hlt (fun K2 hK2 => ?_) ?_); (case h1 => rfl); (case hv => rfl); (case hlt => exact Nat.le_of_ble_eq_true rfl)) | ((with_reducible refine loudsP_u ?h1 ?hv (fun K2 hK2 => ?_) ?_); (case h1 => rfl); (case hv => rfl)) | ((with_reducible refine stableP_pre ?h1 ?_); (case h1 => (first | rfl | (dsimp only; decide +kernel)))) | ((with_reducible refine stableP_re ?h1 ?_); (case h1 => (go_simp; done))) | (go_simp; (try go_bits); (first | (refine hK2 _ _ ?_ ?_ <;> clear hK2 K2) | (refine hK2 _ _ ?_; clear hK2 K2))))
    refine ⟨?_, rfl⟩
    have h3 : belowL xs ys n = true := belowL_iff.2 ⟨h1, h2, fun i hi => HG.out i (by omega)⟩
    rw [← HE.out, h3]
end Go.Proofs.Try
namespace Go.Proofs.Try
open Go Go.Am Go.RowKit Go.Co
set_option maxRecDepth 100000

/-! The days of a line. -/
theorem possible_e {loops : List (Nat × LInfo)} {H : AHeap} {oa fa la : Option Addr} {oc fc lc : Nat} {pi : Int} {x : Course} {fs ls : List Int} {k : Nat} (hv : Rows H (.slice oa x.open_.length oc) x.open_) (hf : Ints H (.slice fa fs.length fc) fs) (hl : Ints H (.slice la ls.length lc) ls) (hk : k < x.open_.length) (hkf : k < fs.length) (hkl : k < ls.length) (hlen : (x.at_ k).length ≤ 1000) : CallS Try.prog loops 98 [.agg #[.slice oa x.open_.length oc, .int .i64 pi, .slice fa fs.length fc, .slice la ls.length lc], .int .i64 k] H fun r H' => Own H' H.n r 87 2 (spanCells (cutS (fs.getD k 0) (ls.getD k 0) (x.at_ k))) ∧ Ext H H' := by
  obtain ⟨b, o, sp, u, rfl, hb, hc, hu⟩ := hv.at_ hk
  have HU := Lib.hid hu
  have hat : x.at_ k = x.open_[k] := by simp [Course.at_, hk]
  rw [hat] at hlen ⊢
  obtain ⟨b1, o1, sp1, rfl, hb1, hc1⟩ := hf.at_ hkf
  obtain ⟨b2, o2, sp2, rfl, hb2, hc2⟩ := hl.at_ hkl
  have e1 : fs.getD k 0 = fs[k] := by simp [List.getD_eq_getElem?_getD, hkf]
  have e2 : ls.getD k 0 = ls[k] := by simp [List.getD_eq_getElem?_getD, hkl]
  rw [e1, e2]
  have HB := Lib.hid (fun (loops : List (Nat × LInfo)) (H' : AHeap) (hx : Ext H H') => cut_e (loops := loops) (lo := fs[k]) (hi := ls[k]) (HU.out.ext hx) hlen)
  obtain ⟨hll, ua, uc, rfl⟩ := hu.slice
  generalize fs[k] = lo at hc1 HB
  generalize ls[k] = hi at hc2 HB
  generalize x.open_[k] = l at HB HU hll hc
  clear hu e1 e2 hat hf hl hv
  refine CallS.enter' Try.func98 rfl Try.ntmps98 (by simp) fun f hd hf => ?_
  have f0 := hf 0
  have f1 := hf 1
  simp at f0 f1
  clear hf
  repeat' (first | (with_reducible first | refine CodeS.seq ?_ | refine CodeS.region_k fun K hK => ?_ | refine opsP_go fun K2 hK2 => ?_ | refine Post.then_normal ?_ | refine Post.then_ret ?_ | refine Post.then_exit ?_ | refine Post.block_normal ?_ | refine Post.block_ret ?_ | refine Post.block_here ?_ | refine Post.scope_normal ?_ | refine Post.scope_ret ?_ | refine Post.scope_exit ?_ | refine Post.round_ret ?_ | refine Post.round_exit ?_ | refine CodeS.block ?_ | refine CodeS.skip ?_ | refine CodeS.ret ?_ | refine CodeS.exit ?_ | refine CodeS.scope ?_ | refine CodeS.label ?_) | ((with_reducible refine opsP_nil (hK _ _ ?_)); clear hK K) | ((with_reducible refine opsP_gd ?hj ?hlt fun K1 K3 d hdst h1 h3 => ?_); (case hj => rfl); (case hlt => exact Nat.le_of_ble_eq_true rfl); cases hdst; go_simp) | ((with_reducible refine CodeS.cond_k fun K1 K3 h1 h3 => ?_); go_simp) | (refine h1 ?_; clear h1 h3 K1 K3) | (refine h3 ?_; clear h1 h3 K1 K3) | ((refine Either.mk (fun hb => h1 ?_) (fun hb => h3 ?_)) <;> (clear h1 h3 K1 K3; (try have hb2 := of_decide hb); (try have hb2 := of_not_decide_lt hb); (try have hb2 := of_not_decide_le hb); (try have hb2 := of_not_decide_ltN hb); (try have hb2 := of_not_decide_leN hb))) | ((refine Either.mk (fun hb => h3 ?_) (fun hb => h1 ?_)) <;> (clear h1 h3 K1 K3; (try have hb2 := of_decide hb); (try have hb2 := of_not_decide_lt hb); (try have hb2 := of_not_decide_le hb); (try have hb2 := of_not_decide_ltN hb); (try have hb2 := of_not_decide_leN hb))) | (refine fun (K2 : _ → AHeap → Prop) hK2 => ?_) | ((with_reducible refine Post.block_off ?hn ?_); (case hn => decide)) | ((with_reducible first | refine Post.body_k ?hd (fun K hK => ?_) | refine Post.body_kn ?hd (fun K hK => ?_)); (case hd => (go_simp; done)); go_simp; refine hK _ _ ?_; clear hK K) | ((with_reducible refine CodeS.tree_lit mixed rfl ?hok 20 fun K0 hK0 => ?_); (case hok => kernel_rfl)) | (with_reducible first | exact loudsP_nil | exact stableP_nil | refine treeP_lit ?_ | refine passP_nil ?_ | refine stableP_keep ?_) | ((with_reducible first | refine passP_skip ?h1 ?_ | refine loudsP_skip ?h1 ?_ | refine stepT_more ?h1 ?_); (case h1 => rfl)) | ((with_reducible refine stepT_done ?h1 ?_); (case h1 => rfl); refine hK0 _ _ ?_; clear hK0 K0) | ((with_reducible refine passP_loud ?h1 ?hg ?hl ?_); (case h1 => rfl); (case hg => rfl); (case hl => rfl)) | ((with_reducible refine passP_q ?h1 ?hl ?hlt fun K2 hK2 => ?_); (case h1 => rfl); (case hl => rfl); (case hlt => exact Nat.le_of_ble_eq_true rfl)) | ((with_reducible refine passP_g ?h1 ?hj ?hl ?hlt fun K1 K3 d hdst h1 h3 => ?_); (case h1 => rfl); (case hj => rfl); (case hl => rfl); (case hlt => exact Nat.le_of_ble_eq_true rfl); cases hdst; go_simp) | ((with_reducible refine passP_lg ?h1 ?hj ?hl ?hlt fun K1 K3 d hdst h1 h3 => ?_); (case h1 => rfl); (case hj => rfl); (case hl => rfl); (case hlt => exact Nat.le_of_ble_eq_true rfl); cases hdst; go_simp) | ((with_reducible refine loudsP_c ?h1 ?hlt (fun K2 hK2 => ?_) ?_); (case h1 => rfl); (case hlt => exact Nat.le_of_ble_eq_true rfl)) | ((with_reducible refine loudsP_cg ?h1 ?hlt ?hj ?hw (fun K2 hK2 => ?_) ?_); (case h1 => rfl); (case hlt => exact Nat.le_of_ble_eq_true rfl); (case hj => rfl); (case hw => (go_simp; done))) | ((with_reducible refine loudsP_v ?h1 ?hv ?hlt (fun K2 hK2 => ?_) ?_); (case h1 => rfl); (case hv => rfl); (case hlt => exact Nat.le_of_ble_eq_true rfl)) | ((with_reducible refine loudsP_u ?h1 ?hv (fun K2 hK2 => ?_) ?_); (case h1 => rfl); (case hv => rfl)) | ((with_reducible refine stableP_pre ?h1 ?_); (case h1 => (first | rfl | (dsimp only; decide +kernel)))) | ((with_reducible refine stableP_re ?h1 ?_); (case h1 => (go_simp; done))) | (go_simp; (try go_bits); (try first | ((with_reducible show CallS _ _ _ _ _ _); refine CallS.mono (HB.out _ _ (Ext.push _)) ?_; rintro r H2 ⟨ho, hx⟩; (have HO := Lib.hid ho); (have HX := Lib.hid hx); clear ho hx)); (first | (refine hK2 _ _ ?_ ?_ <;> clear hK2 K2) | (refine hK2 _ _ ?_; clear hK2 K2))))
  exact ⟨HO.out.mono (by rw [AHeap.n_push]; omega), (Ext.push _).trans HX.out⟩
end Go.Proofs.Try
namespace Go.Proofs.Try
open Go Go.Am Go.RowKit Go.Co
set_option maxRecDepth 100000

/-! Fits. -/
def fitAt (x : Course) (p : Nat) (days : List Int) (i : Nat) : Bool := ins (x.at_ i) (days.getD i 0) && decide (lowL p days i ≤ days.getD i 0)
def fitFrom (x : Course) (p : Nat) (days : List Int) : Nat → Nat → Option Nat
  | 0, _ => none
  | r + 1, i => if fitAt x p days i = true then fitFrom x p days r (i + 1) else some i
theorem fitFrom_none {x : Course} {p : Nat} {days : List Int} : ∀ (r i : Nat), fitFrom x p days r i = none ↔ ∀ j, i ≤ j → j < i + r → fitAt x p days j = true
  | 0, i => by simp [fitFrom]; intro j h1 h2; omega
  | r + 1, i => by
    rw [fitFrom]
    by_cases h : fitAt x p days i = true
    · rw [if_pos h, fitFrom_none r (i + 1)]
      constructor
      · intro h1 j h2 h3
        by_cases hj : j = i
        · rw [hj]; exact h
        · exact h1 j (by omega) (by omega)
      · intro h1 j h2 h3; exact h1 j (by omega) (by omega)
    · rw [if_neg h]
      constructor
      · intro h1; cases h1
      · intro h1; exact absurd (h1 i (Nat.le_refl _) (by omega)) h
def errFits (s : Sheet) (c : Copy) (days : List Int) : Int := if errCopy s c ≠ 0 then errCopy s c else if days.length = c.words.length then 0 else 1
def fitsR (s : Sheet) (c : Copy) (days : List Int) : Option Nat := fitFrom (courseOf s c) c.per.toNat days days.length 0
def fitsV (s : Sheet) (c : Copy) (days : List Int) : Value := if errFits s c days = 0 then (match fitsR s c days with | none => .tuple #[.int .i64 0, .bool true, .int .i64 0] | some i => .tuple #[.int .i64 i, .bool false, .int .i64 0]) else .tuple #[.int .i64 0, .bool false, .int .i64 (errFits s c days)]

set_option maxHeartbeats 4000000 in
theorem fits_s {loops : List (Nat × LInfo)} {H : AHeap} {sv cv dv : Value} {s : Sheet} {c : Copy} {days : List Int} (hs : SheetV H sv s) (hc : CopyV H cv c) (hdv : Ints H dv days) : CallS Try.prog loops 48 [sv, cv, dv] H fun r H' => r = fitsV s c days ∧ H' = H := by
  refine CallS.forget (R := fun v => v = fitsV s c days) (by rintro v rfl; unfold fitsV; split; (split <;> rfl); rfl) ?_
  have HV := Lib.hid hs
  have HC := Lib.hid hc
  have HD := Lib.hid hdv
  obtain ⟨wv, av, rfl, hw, ha⟩ := hs
  obtain ⟨hwl, wa, wc, rfl⟩ := hw.slice
  obtain ⟨hal, aa, ac, rfl⟩ := ha.slice
  obtain ⟨cv, rfl, hcw⟩ := hc
  obtain ⟨hcl, ca, cc, rfl⟩ := hcw.slice
  obtain ⟨hdl, da, dc, rfl⟩ := hdv.slice
  clear hw ha hcw hdv
  generalize hr : fitsV s c days = r
  have HR : Hid (r = fitsV s c days) := Lib.hid hr.symm
  clear hr
  refine CallS.enter' Try.func48 rfl Try.ntmps48 (by simp) fun f hd hf => ?_
  have f0 := hf 0
  have f1 := hf 1
  have f2 := hf 2
  simp at f0 f1 f2
  clear hf
  have HX1 : Hid (Ext H ((H.push (.row [Value.slice wa s.words.length wc, Value.slice aa s.alts.length ac] 25)).push (.row [Value.slice ca c.words.length cc, .int .i64 c.beg, .int .i64 c.fin, .int .i64 c.per] 27))) := Lib.hid (((Ext.refl _).push' _).push' _)
  repeat' (first | (with_reducible first | refine CodeS.seq ?_ | refine CodeS.region_k fun K hK => ?_ | refine opsP_go fun K2 hK2 => ?_ | refine Post.then_normal ?_ | refine Post.then_ret ?_ | refine Post.then_exit ?_ | refine Post.block_normal ?_ | refine Post.block_ret ?_ | refine Post.block_here ?_ | refine Post.scope_normal ?_ | refine Post.scope_ret ?_ | refine Post.scope_exit ?_ | refine Post.round_ret ?_ | refine Post.round_exit ?_ | refine CodeS.block ?_ | refine CodeS.skip ?_ | refine CodeS.ret ?_ | refine CodeS.exit ?_ | refine CodeS.scope ?_ | refine CodeS.label ?_) | ((with_reducible refine opsP_nil (hK _ _ ?_)); clear hK K) | ((with_reducible refine opsP_gd ?hj ?hlt fun K1 K3 d hdst h1 h3 => ?_); (case hj => rfl); (case hlt => exact Nat.le_of_ble_eq_true rfl); cases hdst; go_simp) | ((with_reducible refine CodeS.cond_k fun K1 K3 h1 h3 => ?_); go_simp) | (refine h1 ?_; clear h1 h3 K1 K3) | (refine h3 ?_; clear h1 h3 K1 K3) | ((refine Either.mk (fun hb => h1 ?_) (fun hb => h3 ?_)) <;> (clear h1 h3 K1 K3; (try have hb2 := of_decide hb); (try have hb2 := of_not_decide_lt hb); (try have hb2 := of_not_decide_le hb); (try have hb2 := of_not_decide_ltN hb); (try have hb2 := of_not_decide_leN hb))) | ((refine Either.mk (fun hb => h3 ?_) (fun hb => h1 ?_)) <;> (clear h1 h3 K1 K3; (try have hb2 := of_decide hb); (try have hb2 := of_not_decide_lt hb); (try have hb2 := of_not_decide_le hb); (try have hb2 := of_not_decide_ltN hb); (try have hb2 := of_not_decide_leN hb))) | (refine fun (K2 : _ → AHeap → Prop) hK2 => ?_) | ((with_reducible refine Post.block_off ?hn ?_); (case hn => decide)) | ((with_reducible first | refine Post.body_k ?hd (fun K hK => ?_) | refine Post.body_kn ?hd (fun K hK => ?_)); (case hd => (go_simp; done)); go_simp; refine hK _ _ ?_; clear hK K) | (go_simp; (try go_bits); (try first | ((with_reducible show CallS _ _ _ _ _ _); refine CallS.mono (checkCopy_s (s := s) (c := c) (HV.out.ext HX1.out) (HC.out.ext HX1.out)) ?_; rintro _ _ ⟨rfl, h9⟩; rw [h9]; clear h9) | ((with_reducible show CallS _ _ _ _ _ _); refine CallS.mono (courseOf_e (s := s) (c := c) (HV.out.ext HX1.out) (HC.out.ext HX1.out) (by simpa using ‹(errCopy s c != 0) = false›)) ?_; rintro xv H2 ⟨hx, hx2⟩; (have HXC := Lib.hid hx); (have HX2 := Lib.hid (HX1.out.trans hx2)); (obtain ⟨ov, rfl, hov⟩ := hx); (obtain ⟨-, oa, oc, rfl⟩ := hov.slice); clear hov hx2)); refine hK2 _ _ ?_; clear hK2 K2))
  · refine ⟨?_, HX1.out⟩
    have h1 : errCopy s c ≠ 0 := by simpa using hb
    have h2 : errFits s c days = errCopy s c := by rw [errFits, if_pos h1]
    rw [HR.out, fitsV, h2, if_neg h1]
  · refine ⟨?_, HX1.out⟩
    have h1 : errCopy s c = 0 := by simpa using ‹(errCopy s c != 0) = false›
    have h3 : ¬ days.length = c.words.length := by rw [nat_neb] at hb; simpa using hb
    have h2 : errFits s c days = 1 := by rw [errFits, if_neg (by simp [h1]), if_neg h3]
    rw [HR.out, fitsV, h2, if_neg (by decide)]
  have h1 : errCopy s c = 0 := by simpa using ‹(errCopy s c != 0) = false›
  have h3 : days.length = c.words.length := by rw [nat_neb] at hb; simpa using hb
  have h2 : errFits s c days = 0 := by rw [errFits, if_neg (by simp [h1]), if_pos h3]
  have HR2 : Hid (r = (match fitFrom (courseOf s c) c.per.toNat days days.length 0 with | none => .tuple #[.int .i64 0, .bool true, .int .i64 0] | some i => .tuple #[.int .i64 i, .bool false, .int .i64 0])) := Lib.hid (by rw [HR.out, fitsV, if_pos h2]; rfl)
  have hor := courseOf_ord h1
  obtain ⟨-, -, -, -, -, -, hp1, hp2⟩ := errCopy_ok h1
  have hper : (courseOf s c).per = ((c.per.toNat : Nat) : Int) := by show c.per = _; omega
  have hp3 : 1 ≤ c.per.toNat := by omega
  have hxl : (courseOf s c).open_.length = days.length := by rw [courseOf_len, h3]
  have HPER := Lib.hid hper
  have HXL := Lib.hid hxl
  have HOR := Lib.hid hor
  clear hper hxl hor HR h2 hp1 hp2
  clear h1 h3 HV HC
  generalize courseOf s c = x at HXC HR2 HPER HXL HOR
  generalize c.per.toNat = p at HR2 HPER hp3
  generalize hpe : x.per = pe at HXC HPER
  have HPE := Lib.hid hpe
  clear hpe
  refine CodeS.loop (fun m f H' => ∃ k : Nat, k ≤ days.length ∧ m = days.length - k ∧ f.tmp 30 = .int .i64 k ∧ f.tmp 29 = .int .i64 days.length ∧ f.tmp 28 = .slice da days.length dc ∧ f.tmp 2 = .slice da days.length dc ∧ f.tmp 10 = .pointer (some ⟨H2.n, 0, none⟩) ∧ f.defers = [] ∧ Hid (∀ j, j < k → fitAt x p days j = true) ∧ H' = H2.push (.row [Value.slice oa x.open_.length oc, .int .i64 pe] 118)) days.length ?_ ?_
  · exact ⟨0, by simp, by simp, (by first | (go_simp; done) | (go_simp; go_num; done) | assumption), (by first | (go_simp; done) | (go_simp; go_num; done) | assumption), (by first | (go_simp; done) | (go_simp; go_num; done) | assumption), (by first | (go_simp; done) | (go_simp; go_num; done) | assumption), (by first | (go_simp; done) | (go_simp; go_num; done) | assumption), (by first | (go_simp; done) | (go_simp; go_num; done) | assumption), Lib.hid (by intro j hj; omega), rfl⟩
  clear f0 f1 f2 hd f hb
  rintro m f H' ⟨k, hk, rfl, f30, f29, f28, f2, f10, hd, HF, rfl⟩
  by_cases hlt : k < days.length
  · have HLW := Lib.hid (fun (loops : List (Nat × LInfo)) => lowest_s (loops := loops) (k := k) (HXC.out.ext (Ext.push (.row [Value.slice oa x.open_.length oc, .int .i64 pe] 118))) (HD.out.ext ((HX2.out.push' _))) hk (HPE.out.trans HPER.out) hp3 (fun j hj => by
      have h := HF.out j hj
      simp only [fitAt, Bool.and_eq_true] at h
      have := ordS_ins _ (HOR.out j) _ h.1
      omega))
    have HOP := Lib.hid (fun (loops : List (Nat × LInfo)) (d : Int) => isOpen_s (loops := loops) (d := d) (HXC.out.ext (Ext.push (.row [Value.slice oa x.open_.length oc, .int .i64 pe] 118))) (show k < x.open_.length by rw [HXL.out]; exact hlt))
    obtain ⟨b, o, sp, rfl, hb, hx⟩ := (HD.out.ext HX2.out).at_ hlt
    have hgd : days.getD k 0 = days[k] := by simp [List.getD_eq_getElem?_getD, hlt]
    have HFA : Hid (fitAt x p days k = (ins (x.at_ k) days[k] && decide (lowL p days k ≤ days[k]))) := Lib.hid (by rw [fitAt, hgd])
    have HST : Hid (fitAt x p days k = false → fitFrom x p days days.length 0 = some k) := Lib.hid (fun h => by
      have go : ∀ (r i : Nat), i ≤ k → k < i + r → fitFrom x p days r i = some k := by
        intro r
        induction r with
        | zero => intro i h1 h2; omega
        | succ r ih =>
          intro i h1 h2
          rw [fitFrom]
          by_cases hik : i = k
          · subst hik; rw [if_neg (by rw [h]; simp)]
          · rw [if_pos (HF.out i (by omega))]; exact ih (i + 1) (by omega) (by omega)
      exact go days.length 0 (by omega) (by omega))
    clear hgd
    generalize lowL p days k = lw at HLW HFA
    generalize days[k] = d at hx HFA
    have hop := fun (loops : List (Nat × LInfo)) => HOP.out loops d
    generalize ins (x.at_ k) d = io at hop HFA
    have HOP2 := Lib.hid hop
    clear hop
    repeat' (first | (with_reducible first | refine CodeS.seq ?_ | refine CodeS.region_k fun K hK => ?_ | refine opsP_go fun K2 hK2 => ?_ | refine Post.then_normal ?_ | refine Post.then_ret ?_ | refine Post.then_exit ?_ | refine Post.block_normal ?_ | refine Post.block_ret ?_ | refine Post.block_here ?_ | refine Post.scope_normal ?_ | refine Post.scope_ret ?_ | refine Post.scope_exit ?_ | refine Post.round_ret ?_ | refine Post.round_exit ?_ | refine CodeS.block ?_ | refine CodeS.skip ?_ | refine CodeS.ret ?_ | refine CodeS.exit ?_ | refine CodeS.scope ?_ | refine CodeS.label ?_) | ((with_reducible refine opsP_nil (hK _ _ ?_)); clear hK K) | ((with_reducible refine opsP_gd ?hj ?hlt fun K1 K3 d hdst h1 h3 => ?_); (case hj => rfl); (case hlt => exact Nat.le_of_ble_eq_true rfl); cases hdst; go_simp) | ((with_reducible refine CodeS.cond_k fun K1 K3 h1 h3 => ?_); go_simp) | (refine h1 ?_; clear h1 h3 K1 K3) | (refine h3 ?_; clear h1 h3 K1 K3) | ((refine Either.mk (fun hb => h1 ?_) (fun hb => h3 ?_)) <;> (clear h1 h3 K1 K3; (try have hb2 := of_decide hb); (try have hb2 := of_not_decide_lt hb); (try have hb2 := of_not_decide_le hb); (try have hb2 := of_not_decide_ltN hb); (try have hb2 := of_not_decide_leN hb))) | ((refine Either.mk (fun hb => h3 ?_) (fun hb => h1 ?_)) <;> (clear h1 h3 K1 K3; (try have hb2 := of_decide hb); (try have hb2 := of_not_decide_lt hb); (try have hb2 := of_not_decide_le hb); (try have hb2 := of_not_decide_ltN hb); (try have hb2 := of_not_decide_leN hb))) | (refine fun (K2 : _ → AHeap → Prop) hK2 => ?_) | ((with_reducible refine Post.block_off ?hn ?_); (case hn => decide)) | ((with_reducible first | refine Post.body_k ?hd (fun K hK => ?_) | refine Post.body_kn ?hd (fun K hK => ?_)); (case hd => (go_simp; done)); go_simp; refine hK _ _ ?_; clear hK K) | (go_simp; (try go_bits); (try first | ((with_reducible show CallS _ _ _ _ _ _); refine CallS.mono (HLW.out _) ?_; rintro _ _ ⟨rfl, rfl⟩) | ((with_reducible show CallS _ _ _ _ _ _); refine CallS.mono (HOP2.out _) ?_; rintro _ _ ⟨rfl, rfl⟩)); refine hK2 _ _ ?_; clear hK2 K2))
    · refine ⟨?_, HX2.out.push' _⟩
      have h9 : io = false := by simpa using hb
      rw [HR2.out, HST.out (by rw [HFA.out, h9]; rfl)]
    · refine ⟨?_, HX2.out.push' _⟩
      have h9 : decide (lw ≤ d) = false := by simp; omega
      rw [HR2.out, HST.out (by rw [HFA.out, h9, Bool.and_false])]
    · refine Post.round_normal ⟨days.length - (k + 1), by omega, k + 1, by omega, rfl, (by first | (go_simp; done) | (go_simp; go_num; done) | assumption), (by first | (go_simp; done) | (go_simp; go_num; done) | assumption), (by first | (go_simp; done) | (go_simp; go_num; done) | assumption), (by first | (go_simp; done) | (go_simp; go_num; done) | assumption), (by first | (go_simp; done) | (go_simp; go_num; done) | assumption), (by first | (go_simp; done) | (go_simp; go_num; done) | assumption), Lib.hid ?_, rfl⟩
      intro j hj
      by_cases hjk : j = k
      · have h9 : decide (lw ≤ d) = true := by simp; omega
        have h8 : io = true := by simpa using ‹(!io) = false›
        rw [hjk, HFA.out, h9, h8]; rfl
      · exact HF.out j (by omega)
  · repeat' (first | (with_reducible first | refine CodeS.seq ?_ | refine CodeS.region_k fun K hK => ?_ | refine opsP_go fun K2 hK2 => ?_ | refine Post.then_normal ?_ | refine Post.then_ret ?_ | refine Post.then_exit ?_ | refine Post.block_normal ?_ | refine Post.block_ret ?_ | refine Post.block_here ?_ | refine Post.scope_normal ?_ | refine Post.scope_ret ?_ | refine Post.scope_exit ?_ | refine Post.round_ret ?_ | refine Post.round_exit ?_ | refine CodeS.block ?_ | refine CodeS.skip ?_ | refine CodeS.ret ?_ | refine CodeS.exit ?_ | refine CodeS.scope ?_ | refine CodeS.label ?_) | ((with_reducible refine opsP_nil (hK _ _ ?_)); clear hK K) | ((with_reducible refine opsP_gd ?hj ?hlt fun K1 K3 d hdst h1 h3 => ?_); (case hj => rfl); (case hlt => exact Nat.le_of_ble_eq_true rfl); cases hdst; go_simp) | ((with_reducible refine CodeS.cond_k fun K1 K3 h1 h3 => ?_); go_simp) | (refine h1 ?_; clear h1 h3 K1 K3) | (refine h3 ?_; clear h1 h3 K1 K3) | ((refine Either.mk (fun hb => h1 ?_) (fun hb => h3 ?_)) <;> (clear h1 h3 K1 K3; (try have hb2 := of_decide hb); (try have hb2 := of_not_decide_lt hb); (try have hb2 := of_not_decide_le hb); (try have hb2 := of_not_decide_ltN hb); (try have hb2 := of_not_decide_leN hb))) | ((refine Either.mk (fun hb => h3 ?_) (fun hb => h1 ?_)) <;> (clear h1 h3 K1 K3; (try have hb2 := of_decide hb); (try have hb2 := of_not_decide_lt hb); (try have hb2 := of_not_decide_le hb); (try have hb2 := of_not_decide_ltN hb); (try have hb2 := of_not_decide_leN hb))) | (refine fun (K2 : _ → AHeap → Prop) hK2 => ?_) | ((with_reducible refine Post.block_off ?hn ?_); (case hn => decide)) | ((with_reducible first | refine Post.body_k ?hd (fun K hK => ?_) | refine Post.body_kn ?hd (fun K hK => ?_)); (case hd => (go_simp; done)); go_simp; refine hK _ _ ?_; clear hK K) | (go_simp; (try go_bits); refine hK2 _ _ ?_; clear hK2 K2))
    refine ⟨?_, HX2.out.push' _⟩
    have h9 : fitFrom x p days days.length 0 = none := (fitFrom_none _ _).2 fun j _ hj => HF.out j (by omega)
    rw [HR2.out, h9]

/-! What Fits tells. -/
def FitsOk (s : Sheet) (c : Copy) (days : List Int) : Prop := errFits s c days = 0 ∧ fitsR s c days = none
def opOf (s : Sheet) (c : Copy) (i : Nat) (d : Int) : Bool := ins ((courseOf s c).at_ i) d
theorem opOf_in {s : Sheet} {c : Copy} (h : errCopy s c = 0) (i : Nat) (d : Int) (ho : opOf s c i d = true) : 0 ≤ d ∧ d ≤ 730 := ordS_ins _ (courseOf_ord h i) d ho
theorem errFits_ok {s : Sheet} {c : Copy} {days : List Int} (h : errFits s c days = 0) : errCopy s c = 0 ∧ days.length = c.words.length := by
  unfold errFits at h
  split at h
  · rename_i h1; exact absurd h h1
  · rename_i h1
    split at h
    · rename_i h2; exact ⟨by simpa using h1, h2⟩
    · cases h
theorem fitsR_iff {s : Sheet} {c : Copy} {days : List Int} : fitsR s c days = none ↔ FitTo (opOf s c) c.per.toNat days days.length := by
  unfold fitsR
  rw [fitFrom_none]
  simp only [fitAt, Bool.and_eq_true, decide_eq_true_eq, Nat.zero_add, FitTo, opOf]
  exact ⟨fun h i hi => h i (Nat.zero_le _) hi, fun h i _ hi => h i hi⟩
theorem fitsV_ok {s : Sheet} {c : Copy} {days : List Int} (h : errFits s c days = 0) (hf : FitTo (opOf s c) c.per.toNat days days.length) : fitsV s c days = .tuple #[.int .i64 0, .bool true, .int .i64 0] := by
  rw [fitsV, if_pos h, fitsR_iff.2 hf]
end Go.Proofs.Try
namespace Go.Proofs.Try
open Go Go.Am Go.RowKit Go.Co
set_option maxRecDepth 100000

/-! What days that fit tell of the ends. -/
theorem fitsV_form' (s : Sheet) (c : Copy) (days : List Int) : ∃ n b, fitsV s c days = .tuple #[.int .i64 n, .bool b, .int .i64 (errFits s c days)] ∧ (errFits s c days = 0 → b = true → FitsOk s c days) := by
  unfold fitsV FitsOk
  by_cases h : errFits s c days = 0
  · rw [if_pos h, h]
    cases hf : fitsR s c days with
    | none => exact ⟨0, true, rfl, fun _ _ => ⟨rfl, rfl⟩⟩
    | some i => exact ⟨i, false, rfl, fun _ h => by cases h⟩
  · rw [if_neg h]
    exact ⟨0, false, rfl, fun h1 => absurd h1 h⟩
/-- What is known of a copy that is right. -/
structure Known (s : Sheet) (c : Copy) (x : Course) (p n : Nat) : Prop where
  ord : x.ord
  p1 : 1 ≤ p
  len : x.open_.length = n
  n1 : 1 ≤ n
  n40 : n ≤ 40
  ext : errExt s c = if x.made p then 0 else 9
  fin : ∀ i d, i < n → x.op i d = true → c.beg ≤ d ∧ d ≤ c.fin
  fin0 : 0 ≤ c.fin ∧ c.fin ≤ 730
theorem known {s : Sheet} {c : Copy} (h : errCopy s c = 0) : Known s c (courseOf s c) c.per.toNat c.words.length := by
  obtain ⟨he0, hlen, hwo, hb0, hb1, hb2, hp1, -⟩ := errCopy_ok h
  have hwl := win_iff.1 (err_ok he0).2.1
  refine ⟨courseOf_ord h, by omega, courseOf_len s c, by omega, by omega, by rw [errExt, if_neg (by simp [h])], fun i d hi ho => ?_, by omega⟩
  have h1 := courseOf_ins h hi (d := d)
  rw [Course.op, h1] at ho
  simp only [Bool.and_eq_true, decide_eq_true_eq] at ho
  omega
theorem fitsOk_fit {s : Sheet} {c : Copy} {days : List Int} : FitsOk s c days ↔ errCopy s c = 0 ∧ (courseOf s c).fit c.per.toNat days := by
  constructor
  · rintro ⟨h1, h2⟩
    obtain ⟨h3, h4⟩ := errFits_ok h1
    exact ⟨h3, by rw [courseOf_len]; exact h4, fitsR_iff.1 h2⟩
  · rintro ⟨h1, h2, h3⟩
    rw [courseOf_len] at h2
    exact ⟨by rw [errFits, if_neg (by simp [h1]), if_pos h2], fitsR_iff.2 h3⟩
theorem fitsOk_V {s : Sheet} {c : Copy} {days : List Int} (h : FitsOk s c days) : fitsV s c days = .tuple #[.int .i64 0, .bool true, .int .i64 0] := fitsV_ok h.1 (fitsR_iff.1 h.2)
theorem errExt_ok {s : Sheet} {c : Copy} (h : errExt s c = 0) : errCopy s c = 0 ∧ (courseOf s c).made c.per.toNat = true := by
  unfold errExt at h
  split at h
  · rename_i h1; exact absurd h h1
  · rename_i h1
    split at h
    · rename_i h2; exact ⟨by simpa using h1, h2⟩
    · cases h
theorem fit_ext {s : Sheet} {c : Copy} {days : List Int} (h : FitsOk s c days) : errExt s c = 0 := by
  obtain ⟨h1, h2⟩ := fitsOk_fit.1 h
  have k := known h1
  rw [k.ext, ((courseOf s c).fit_early k.ord k.p1 h2).1]; rfl
theorem first_fits {s : Sheet} {c : Copy} (h : errExt s c = 0) : FitsOk s c (firstL s c) := by
  obtain ⟨h1, h2⟩ := errExt_ok h
  have k := known h1
  rw [firstL, if_pos h]
  exact fitsOk_fit.2 ⟨h1, (courseOf s c).early_fit k.ord k.p1 h2⟩
theorem last_fits {s : Sheet} {c : Copy} (h : errExt s c = 0) : FitsOk s c (lastL s c) := by
  obtain ⟨h1, h2⟩ := errExt_ok h
  have k := known h1
  rw [lastL, if_pos h]
  exact fitsOk_fit.2 ⟨h1, (courseOf s c).late_fit k.ord k.p1 h2⟩
theorem first_below {s : Sheet} {c : Copy} {days : List Int} (h : FitsOk s c days) : belowL (firstL s c) days days.length = true := by
  obtain ⟨h1, h2⟩ := fitsOk_fit.1 h
  have he := fit_ext h
  have k := known h1
  have h3 := (fitsOk_fit.1 (first_fits he)).2.1
  rw [firstL, if_pos he] at h3 ⊢
  exact belowL_iff.2 ⟨by have := h2.1; omega, Nat.le_refl _, ((courseOf s c).fit_early k.ord k.p1 h2).2⟩
theorem last_below {s : Sheet} {c : Copy} {days : List Int} (h : FitsOk s c days) : belowL days (lastL s c) days.length = true := by
  obtain ⟨h1, h2⟩ := fitsOk_fit.1 h
  have he := fit_ext h
  have k := known h1
  have h3 := (fitsOk_fit.1 (last_fits he)).2.1
  rw [lastL, if_pos he] at h3 ⊢
  exact belowL_iff.2 ⟨Nat.le_refl _, by have := h2.1; omega, (courseOf s c).fit_late k.ord k.p1 h2⟩
end Go.Proofs.Try
namespace Go.Proofs.Try
open Go Go.Am Go.RowKit Go.Co

/-! A line's days; a narrower copy: pure. -/
theorem Course.early_late {x : Course} {p : Nat} (h : x.ord) (hp : 1 ≤ p) (hm : x.made p = true) : ∀ i, i < x.open_.length → (x.early p 0).getD i 0 ≤ (x.late p).getD i 0 := by
  have hf := x.early_fit h hp hm
  exact fun i hi => x.fit_late h hp hf i (by rw [hf.1]; exact hi)
/-- The earliest days ahead of a line, a day of it, the latest ones behind it. -/
def mixL (a b : List Int) (k : Nat) (d : Int) : List Int := (a.take k ++ [d]) ++ b.drop (k + 1)
theorem mixL_len {a b : List Int} {k : Nat} {d : Int} (hl : a.length = b.length) (hk : k < a.length) : (mixL a b k d).length = a.length := by
  simp [mixL]; omega
theorem mixL_get {a b : List Int} {k : Nat} {d : Int} (hl : a.length = b.length) (hk : k < a.length) (i : Nat) : (mixL a b k d).getD i 0 = if i < k then a.getD i 0 else if i = k then d else b.getD i 0 := by
  have htl : (a.take k ++ [d]).length = k + 1 := by simp; omega
  have htl0 : (a.take k).length = k := by simp; omega
  unfold mixL
  rcases Nat.lt_trichotomy i k with h | h | h
  · rw [if_pos h, getD_app (by omega), getD_app (by omega)]
    simp [List.getD_eq_getElem?_getD, h]
  · rw [if_neg (by omega), if_pos h, getD_app (by omega), h]
    have := @getD_snoc (a.take k) d
    rw [htl0] at this; exact this
  · rw [if_neg (by omega), if_neg (by omega), List.getD_eq_getElem?_getD, List.getElem?_append_right (by omega), htl, List.getElem?_drop, List.getD_eq_getElem?_getD, show k + 1 + (i - (k + 1)) = i by omega]
theorem Course.mix_fit {x : Course} {p k : Nat} {d : Int} {a b : List Int} (hp : 1 ≤ p) (ha : x.fit p a) (hb : x.fit p b) (hk : k < a.length) (hop : x.op k d = true) (h1 : a.getD k 0 ≤ d) (h2 : d ≤ b.getD k 0) (hab : ∀ i, i < a.length → a.getD i 0 ≤ b.getD i 0) : x.fit p (mixL a b k d) := by
  have hl : a.length = b.length := by rw [ha.1, hb.1]
  have hg := mixL_get (d := d) hl hk
  have hll := mixL_len (d := d) hl hk
  refine ⟨by rw [hll]; exact ha.1, fun i hi => ?_⟩
  rw [hll] at hi
  have hle : ∀ j, j < a.length → (mixL a b k d).getD j 0 ≤ b.getD j 0 := by
    intro j hj
    rw [hg j]
    split
    · exact hab j hj
    · split
      · rename_i h3; rw [h3]; exact h2
      · exact Int.le_refl _
  rw [hg i]
  rcases Nat.lt_trichotomy i k with h | h | h
  · rw [if_pos h]
    have e : lowL p (mixL a b k d) i = lowL p a i := lowL_same hp fun j hj => by rw [hg j, if_pos (by omega)]
    rw [e]; exact ha.2 i hi
  · subst h
    rw [if_neg (by omega), if_pos rfl]
    have e : lowL p (mixL a b i d) i = lowL p a i := lowL_same hp fun j hj => by rw [hg j, if_pos (by omega)]
    rw [e]
    have := (ha.2 i hi).2
    exact ⟨hop, by omega⟩
  · rw [if_neg (by omega), if_neg (by omega)]
    have hb2 := hb.2 i (by omega)
    exact ⟨hb2.1, Int.le_trans (lowL_mono hp fun j hj => hle j (by omega)) hb2.2⟩

/-- Days that fit do not fall. -/
theorem Course.fit_mono {x : Course} {p : Nat} {g : List Int} (h : x.ord) (hg : x.fit p g) : ∀ (n i : Nat), i + n < g.length → g.getD i 0 ≤ g.getD (i + n) 0
  | 0, i, _ => Int.le_refl _
  | n + 1, i, hn => by
    have h1 := x.fit_mono h hg n i (by omega)
    have h2 := (lowL_iff (x.fit_in h hg (i + (n + 1)) hn).1).1 (hg.2 (i + (n + 1)) hn).2
    have h3 := h2.1 (by omega)
    rw [show i + (n + 1) - 1 = i + n by omega] at h3
    omega
theorem Course.fit_narrow {x y : Course} {p q : Nat} {g : List Int} (hy : y.ord) (hl : y.open_.length = x.open_.length) (hqp : q ≤ p) (hop : ∀ i d, i < x.open_.length → y.op i d = true → x.op i d = true) (hg : y.fit q g) : x.fit p g := by
  refine ⟨by rw [hg.1, hl], fun i hi => ?_⟩
  obtain ⟨h1, h2⟩ := hg.2 i hi
  have h0 := (y.fit_in hy hg i hi).1
  refine ⟨hop i _ (by rw [← hl, ← hg.1]; exact hi) h1, ?_⟩
  rw [lowL_iff h0] at h2 ⊢
  refine ⟨h2.1, fun hpi => ?_⟩
  have h3 := h2.2 (by omega)
  have h4 := y.fit_mono hy hg (p - q) (i - p) (by omega)
  rw [show i - p + (p - q) = i - q by omega] at h4
  omega
/-- So many lines want so many days. -/
theorem Course.fit_bound {x : Course} {p : Nat} {g : List Int} (h : x.ord) (hg : x.fit p g) : ∀ (k : Nat), k * p < g.length → g.getD 0 0 + k ≤ g.getD (k * p) 0
  | 0, _ => by simp
  | k + 1, hk => by
    have e : (k + 1) * p = k * p + p := Nat.succ_mul k p
    have h1 := x.fit_bound h hg k (by omega)
    have h2 := ((lowL_iff (x.fit_in h hg ((k + 1) * p) hk).1).1 (hg.2 ((k + 1) * p) hk).2).2 (by omega)
    rw [show (k + 1) * p - p = k * p by omega] at h2
    omega

/-! How long a copy took at least. -/
/-- The earliest days from a day on, if some days fit that begin on it. -/
theorem Course.early_from {x : Course} {p : Nat} {g : List Int} {b : Int} (h : x.ord) (hp : 1 ≤ p) (hg : x.fit p g) (hb : b ≤ g.getD 0 0) : (x.early p b).length = x.open_.length ∧ x.fit p (x.early p b) ∧ (∀ i, i < g.length → (x.early p b).getD i 0 ≤ g.getD i 0) ∧ ∀ i, i < g.length → b ≤ (x.early p b).getD i 0 := by
  obtain ⟨h1, h2, h3, h4⟩ := early_ok (op := x.op) hp (fun i f => x.nx_ok h i f) x.open_.length (frm := b)
  obtain ⟨h5, h6⟩ := h4 g g.length (by have := hg.1; omega) hg.2 (fun i hi => by have := x.fit_mono h hg i 0 (by omega); rw [Nat.zero_add] at this; omega)
  have h7 : (x.early p b).length = x.open_.length := by
    have h8 : g.length ≤ (x.early p b).length := h5
    have h9 : (x.early p b).length ≤ x.open_.length := h1
    have := hg.1
    omega
  exact ⟨h7, ⟨h7, h2⟩, h6, fun i hi => h3 i (by have := hg.1; change i < (x.early p b).length; omega)⟩
def Course.poss (x : Course) (p k : Nat) : List (Int × Int) := cutS ((x.early p 0).getD k 0) ((x.late p).getD k 0) (x.at_ k)
theorem Course.poss_iff {x : Course} {p k : Nat} {d : Int} : ins (x.poss p k) d = true ↔ x.op k d = true ∧ (x.early p 0).getD k 0 ≤ d ∧ d ≤ (x.late p).getD k 0 := by
  rw [Course.poss, cutS_ins]; simp [Course.op]
/-- On each possible day of a line some days fit. -/
theorem Course.poss_fit {x : Course} {p k : Nat} {d : Int} (h : x.ord) (hp : 1 ≤ p) (hm : x.made p = true) (hk : k < x.open_.length) (hd : ins (x.poss p k) d = true) : x.fit p (mixL (x.early p 0) (x.late p) k d) := by
  obtain ⟨h1, h2, h3⟩ := x.poss_iff.1 hd
  have hf := x.early_fit h hp hm
  exact x.mix_fit hp hf (x.late_fit h hp hm) (by rw [hf.1]; exact hk) h1 h2 h3 (fun i hi => x.early_late h hp hm i (by rw [← hf.1]; exact hi))
theorem Course.fit_poss {x : Course} {p k : Nat} {g : List Int} (h : x.ord) (hp : 1 ≤ p) (hg : x.fit p g) (hk : k < g.length) : ins (x.poss p k) (g.getD k 0) = true :=
  x.poss_iff.2 ⟨(hg.2 k hk).1, (x.fit_early h hp hg).2 k hk, x.fit_late h hp hg k hk⟩
def Course.took (x : Course) (p : Nat) (b : Int) : Int := (x.early p b).getD (x.open_.length - 1) 0 - b
structure Course.Short (x : Course) (p : Nat) (l : Int) : Prop where
  at_ : ∃ b, ins (x.poss p 0) b = true ∧ l = x.took p b
  le : ∀ b, ins (x.poss p 0) b = true → l ≤ x.took p b
theorem Course.took_fit {x : Course} {p : Nat} {b : Int} (h : x.ord) (hp : 1 ≤ p) (hm : x.made p = true) (hn : 0 < x.open_.length) (hb : ins (x.poss p 0) b = true) : x.fit p (x.early p b) ∧ (x.early p b).getD 0 0 = b ∧ x.took p b = (x.early p b).getD (x.open_.length - 1) 0 - (x.early p b).getD 0 0 := by
  have hg := x.poss_fit h hp hm hn hb
  have hf := x.early_fit h hp hm
  have hlt := x.late_fit h hp hm
  have hll : (x.early p 0).length = (x.late p).length := by rw [hf.1, hlt.1]
  have h0 : (mixL (x.early p 0) (x.late p) 0 b).getD 0 0 = b := by rw [mixL_get hll (by rw [hf.1]; exact hn)]; simp
  obtain ⟨h1, h2, h3, h4⟩ := x.early_from (b := b) h hp hg (by rw [h0]; exact Int.le_refl _)
  have h5 := h3 0 (by rw [hg.1]; exact hn)
  have h6 := h4 0 (by rw [hg.1]; exact hn)
  have h7 : (x.early p b).getD 0 0 = b := by omega
  exact ⟨h2, h7, by rw [Course.took, h7]⟩
theorem Course.took_bound {x : Course} {p : Nat} {b : Int} (h : x.ord) (hp : 1 ≤ p) (hm : x.made p = true) (hn : 0 < x.open_.length) (hb : ins (x.poss p 0) b = true) : (((x.open_.length - 1) / p : Nat) : Int) ≤ x.took p b ∧ x.took p b ≤ 730 := by
  obtain ⟨h1, h2, h3⟩ := x.took_fit h hp hm hn hb
  have hdm : (x.open_.length - 1) / p * p ≤ x.open_.length - 1 := Nat.div_mul_le_self _ _
  have h4 := x.fit_bound h h1 ((x.open_.length - 1) / p) (by rw [h1.1]; omega)
  have h5 := x.fit_mono h h1 (x.open_.length - 1 - (x.open_.length - 1) / p * p) ((x.open_.length - 1) / p * p) (by rw [h1.1]; omega)
  rw [show (x.open_.length - 1) / p * p + (x.open_.length - 1 - (x.open_.length - 1) / p * p) = x.open_.length - 1 by omega] at h5
  have h6 := x.fit_in h h1 0 (by rw [h1.1]; exact hn)
  have h7 := x.fit_in h h1 (x.open_.length - 1) (by rw [h1.1]; omega)
  rw [h3]
  omega
theorem Course.poss_ex {x : Course} {p : Nat} (h : x.ord) (hp : 1 ≤ p) (hm : x.made p = true) (hn : 0 < x.open_.length) : ins (x.poss p 0) ((x.early p 0).getD 0 0) = true := by
  have hf := x.early_fit h hp hm
  exact x.fit_poss h hp hf (by rw [hf.1]; exact hn)
/-- A narrower copy takes no less. -/
theorem Course.short_narrow {x y : Course} {p q : Nat} {l m : Int} (hx : x.ord) (hy : y.ord) (hl : y.open_.length = x.open_.length) (hq : 1 ≤ q) (hqp : q ≤ p) (hop : ∀ i d, i < x.open_.length → y.op i d = true → x.op i d = true) (hm : y.made q = true) (hn : 0 < x.open_.length) (h1 : x.Short p l) (h2 : y.Short q m) : l ≤ m := by
  obtain ⟨b, hb, rfl⟩ := h2.at_
  obtain ⟨hf, h0, ht⟩ := y.took_fit hy hq hm (by omega) hb
  have hfx := Course.fit_narrow hy hl hqp hop hf
  have hp : 1 ≤ p := by omega
  have hbx := x.fit_poss hx hp hfx (k := 0) (by rw [hfx.1]; exact hn)
  rw [h0] at hbx
  have h3 := h1.le b hbx
  obtain ⟨h4, h5, h6, h7⟩ := x.early_from (b := b) hx hp hfx (by rw [h0]; exact Int.le_refl _)
  have h8 := h6 (x.open_.length - 1) (by rw [hfx.1]; omega)
  have h9 : y.took q b = (y.early q b).getD (x.open_.length - 1) 0 - b := by rw [Course.took, hl]
  have h10 : x.took p b = (x.early p b).getD (x.open_.length - 1) 0 - b := rfl
  omega
end Go.Proofs.Try
namespace Go.Proofs.Try
open Go Go.Am Go.RowKit Go.Co
set_option maxRecDepth 100000

/-! Possible. -/
def errPoss (s : Sheet) (c : Copy) (n : Int) : Int := if errCopy s c ≠ 0 then errCopy s c else if errLine s n ≠ 0 then errLine s n else errExt s c
def possL (s : Sheet) (c : Copy) (n : Int) : List (Int × Int) := if errPoss s c n = 0 then (courseOf s c).poss c.per.toNat n.toNat else []
theorem spans_nil (G : AHeap) : Spans G (.slice none 0 0) [] := ⟨rfl, by simp, none, 0, rfl, fun h => by cases h⟩

theorem possible_f {loops : List (Nat × LInfo)} {H : AHeap} {sv cv : Value} {s : Sheet} {c : Copy} {n : Int} (hs : SheetV H sv s) (hc : CopyV H cv c) : CallS Try.prog loops 54 [sv, cv, .int .i64 n] H fun r H' => (∃ pv, r = .tuple #[pv, .int .i64 (errPoss s c n)] ∧ Spans H' pv (possL s c n)) ∧ Ext H H' := by
  have HS := Lib.hid hs
  have HC := Lib.hid hc
  obtain ⟨wv, av, rfl, hw, ha⟩ := hs
  obtain ⟨hwl, wa, wc, rfl⟩ := hw.slice
  obtain ⟨hal, aa, ac, rfl⟩ := ha.slice
  obtain ⟨cv, rfl, hcw⟩ := hc
  obtain ⟨hcl, ca, cc, rfl⟩ := hcw.slice
  clear hw ha hcw
  have HCC := Lib.hid (fun (loops : List (Nat × LInfo)) (H' : AHeap) (hx : Ext H H') => checkCopy_s (loops := loops) (HS.out.ext hx) (HC.out.ext hx))
  have HCL := Lib.hid (fun (loops : List (Nat × LInfo)) (H' : AHeap) (hx : Ext H H') => checkLine_s (loops := loops) (n := n) (HS.out.ext hx))
  have HEX := Lib.hid (fun (loops : List (Nat × LInfo)) (H' : AHeap) (hx : Ext H H') => extentOf_e (loops := loops) (HS.out.ext hx) (HC.out.ext hx))
  have hcase : ((errCopy s c != 0) = true ∧ errPoss s c n = errCopy s c ∧ possL s c n = []) ∨ (errCopy s c = 0 ∧ (errLine s n != 0) = true ∧ errPoss s c n = errLine s n ∧ possL s c n = []) ∨ (errCopy s c = 0 ∧ errLine s n = 0 ∧ (errExt s c != 0) = true ∧ errPoss s c n = errExt s c ∧ possL s c n = []) ∨ (errCopy s c = 0 ∧ errLine s n = 0 ∧ errExt s c = 0 ∧ errPoss s c n = 0 ∧ ∃ k : Nat, n = k ∧ k < (courseOf s c).open_.length ∧ possL s c n = cutS ((firstL s c).getD k 0) ((lastL s c).getD k 0) ((courseOf s c).at_ k) ∧ k < (firstL s c).length ∧ k < (lastL s c).length ∧ ((courseOf s c).at_ k).length ≤ 1000) := by
    by_cases h1 : errCopy s c = 0
    · by_cases h2 : errLine s n = 0
      · by_cases h3 : errExt s c = 0
        · have h4 : errPoss s c n = 0 := by rw [errPoss, if_neg (by simp [h1]), if_neg (by simp [h2]), h3]
          refine .inr (.inr (.inr ⟨h1, h2, h3, h4, n.toNat, ?_⟩))
          obtain ⟨-, hl0, hl1⟩ := errLine_ok h2
          have k := known h1
          have hm := (errExt_ok h3).2
          have hw := (errCopy_ok h1).2.1
          have hkl : n.toNat < (courseOf s c).open_.length := by rw [k.len]; omega
          have hf : firstL s c = (courseOf s c).early c.per.toNat 0 := by rw [firstL, if_pos h3]
          have hl : lastL s c = (courseOf s c).late c.per.toNat := by rw [lastL, if_pos h3]
          refine ⟨by omega, hkl, ?_, ?_, ?_, ?_⟩
          · rw [possL, if_pos h4, hf, hl]; rfl
          · rw [hf, ((courseOf s c).early_fit k.ord k.p1 hm).1]; exact hkl
          · rw [hl, ((courseOf s c).late_fit k.ord k.p1 hm).1]; exact hkl
          · have := ordS_len _ (by omega) (k.ord n.toNat); omega
        · have h4 : errPoss s c n = errExt s c := by rw [errPoss, if_neg (by simp [h1]), if_neg (by simp [h2])]
          exact .inr (.inr (.inl ⟨h1, h2, by simpa using h3, h4, by rw [possL, h4, if_neg h3]⟩))
      · have h4 : errPoss s c n = errLine s n := by rw [errPoss, if_neg (by simp [h1]), if_pos h2]
        exact .inr (.inl ⟨h1, by simpa using h2, h4, by rw [possL, h4, if_neg h2]⟩)
    · have h4 : errPoss s c n = errCopy s c := by rw [errPoss, if_pos h1]
      exact .inl ⟨by simpa using h1, h4, by rw [possL, h4, if_neg h1]⟩
  generalize errPoss s c n = ep at hcase ⊢
  generalize possL s c n = PL at hcase ⊢
  generalize errCopy s c = ec at hcase HCC
  generalize errLine s n = el at hcase HCL
  generalize errExt s c = ex at hcase HEX
  generalize firstL s c = L1 at hcase HEX
  generalize lastL s c = L2 at hcase HEX
  generalize courseOf s c = x at hcase HEX
  refine CallS.enter' Try.func54 rfl Try.ntmps54 (by simp) fun f hd hf => ?_
  have f0 := hf 0
  have f1 := hf 1
  have f2 := hf 2
  simp at f0 f1 f2
  clear hf
  have HX1 : Hid (Ext H ((H.push (.row [Value.slice wa s.words.length wc, Value.slice aa s.alts.length ac] 25)).push (.row [Value.slice ca c.words.length cc, .int .i64 c.beg, .int .i64 c.fin, .int .i64 c.per] 27))) := Lib.hid (((Ext.refl _).push' _).push' _)
  rcases hcase with ⟨hec, rfl, rfl⟩ | ⟨rfl, hel, rfl, rfl⟩ | ⟨rfl, rfl, hex, rfl, rfl⟩ | ⟨rfl, rfl, rfl, rfl, k, rfl, hk, hPL, hk1, hk2, hle⟩
  · repeat' (first | (with_reducible first | refine CodeS.seq ?_ | refine CodeS.region_k fun K hK => ?_ | refine opsP_go fun K2 hK2 => ?_ | refine Post.then_normal ?_ | refine Post.then_ret ?_ | refine Post.then_exit ?_ | refine Post.block_normal ?_ | refine Post.block_ret ?_ | refine Post.block_here ?_ | refine Post.scope_normal ?_ | refine Post.scope_ret ?_ | refine Post.scope_exit ?_ | refine Post.round_ret ?_ | refine Post.round_exit ?_ | refine CodeS.block ?_ | refine CodeS.skip ?_ | refine CodeS.ret ?_ | refine CodeS.exit ?_ | refine CodeS.scope ?_ | refine CodeS.label ?_) | ((with_reducible refine opsP_nil (hK _ _ ?_)); clear hK K) | ((with_reducible refine opsP_gd ?hj ?hlt fun K1 K3 d hdst h1 h3 => ?_); (case hj => rfl); (case hlt => exact Nat.le_of_ble_eq_true rfl); cases hdst; go_simp) | ((with_reducible refine CodeS.cond_k fun K1 K3 h1 h3 => ?_); go_simp) | (refine h1 ?_; clear h1 h3 K1 K3) | (refine h3 ?_; clear h1 h3 K1 K3) | ((refine Either.mk (fun hb => h1 ?_) (fun hb => h3 ?_)) <;> (clear h1 h3 K1 K3; (try have hb2 := of_decide hb); (try have hb2 := of_not_decide_lt hb); (try have hb2 := of_not_decide_le hb); (try have hb2 := of_not_decide_ltN hb); (try have hb2 := of_not_decide_leN hb))) | ((refine Either.mk (fun hb => h3 ?_) (fun hb => h1 ?_)) <;> (clear h1 h3 K1 K3; (try have hb2 := of_decide hb); (try have hb2 := of_not_decide_lt hb); (try have hb2 := of_not_decide_le hb); (try have hb2 := of_not_decide_ltN hb); (try have hb2 := of_not_decide_leN hb))) | (refine fun (K2 : _ → AHeap → Prop) hK2 => ?_) | ((with_reducible refine Post.block_off ?hn ?_); (case hn => decide)) | ((with_reducible first | refine Post.body_k ?hd (fun K hK => ?_) | refine Post.body_kn ?hd (fun K hK => ?_)); (case hd => (go_simp; done)); go_simp; refine hK _ _ ?_; clear hK K) | (go_simp; (try go_bits); (try first | ((with_reducible show CallS _ _ _ _ _ _); refine CallS.mono (HCC.out _ _ HX1.out) ?_; rintro _ _ ⟨rfl, h9⟩; rw [h9]; clear h9)); refine hK2 _ _ ?_; clear hK2 K2))
    exact ⟨⟨_, rfl, spans_nil _⟩, HX1.out⟩
  · repeat' (first | (with_reducible first | refine CodeS.seq ?_ | refine CodeS.region_k fun K hK => ?_ | refine opsP_go fun K2 hK2 => ?_ | refine Post.then_normal ?_ | refine Post.then_ret ?_ | refine Post.then_exit ?_ | refine Post.block_normal ?_ | refine Post.block_ret ?_ | refine Post.block_here ?_ | refine Post.scope_normal ?_ | refine Post.scope_ret ?_ | refine Post.scope_exit ?_ | refine Post.round_ret ?_ | refine Post.round_exit ?_ | refine CodeS.block ?_ | refine CodeS.skip ?_ | refine CodeS.ret ?_ | refine CodeS.exit ?_ | refine CodeS.scope ?_ | refine CodeS.label ?_) | ((with_reducible refine opsP_nil (hK _ _ ?_)); clear hK K) | ((with_reducible refine opsP_gd ?hj ?hlt fun K1 K3 d hdst h1 h3 => ?_); (case hj => rfl); (case hlt => exact Nat.le_of_ble_eq_true rfl); cases hdst; go_simp) | ((with_reducible refine CodeS.cond_k fun K1 K3 h1 h3 => ?_); go_simp) | (refine h1 ?_; clear h1 h3 K1 K3) | (refine h3 ?_; clear h1 h3 K1 K3) | ((refine Either.mk (fun hb => h1 ?_) (fun hb => h3 ?_)) <;> (clear h1 h3 K1 K3; (try have hb2 := of_decide hb); (try have hb2 := of_not_decide_lt hb); (try have hb2 := of_not_decide_le hb); (try have hb2 := of_not_decide_ltN hb); (try have hb2 := of_not_decide_leN hb))) | ((refine Either.mk (fun hb => h3 ?_) (fun hb => h1 ?_)) <;> (clear h1 h3 K1 K3; (try have hb2 := of_decide hb); (try have hb2 := of_not_decide_lt hb); (try have hb2 := of_not_decide_le hb); (try have hb2 := of_not_decide_ltN hb); (try have hb2 := of_not_decide_leN hb))) | (refine fun (K2 : _ → AHeap → Prop) hK2 => ?_) | ((with_reducible refine Post.block_off ?hn ?_); (case hn => decide)) | ((with_reducible first | refine Post.body_k ?hd (fun K hK => ?_) | refine Post.body_kn ?hd (fun K hK => ?_)); (case hd => (go_simp; done)); go_simp; refine hK _ _ ?_; clear hK K) | (go_simp; (try go_bits); (try first | ((with_reducible show CallS _ _ _ _ _ _); refine CallS.mono (HCC.out _ _ HX1.out) ?_; rintro _ _ ⟨rfl, h9⟩; rw [h9]; clear h9) | ((with_reducible show CallS _ _ _ _ _ _); refine CallS.mono (HCL.out _ _ HX1.out) ?_; rintro _ _ ⟨rfl, h9⟩; rw [h9]; clear h9)); refine hK2 _ _ ?_; clear hK2 K2))
    exact ⟨⟨_, rfl, spans_nil _⟩, HX1.out⟩
  · repeat' (first | (with_reducible first | refine CodeS.seq ?_ | refine CodeS.region_k fun K hK => ?_ | refine opsP_go fun K2 hK2 => ?_ | refine Post.then_normal ?_ | refine Post.then_ret ?_ | refine Post.then_exit ?_ | refine Post.block_normal ?_ | refine Post.block_ret ?_ | refine Post.block_here ?_ | refine Post.scope_normal ?_ | refine Post.scope_ret ?_ | refine Post.scope_exit ?_ | refine Post.round_ret ?_ | refine Post.round_exit ?_ | refine CodeS.block ?_ | refine CodeS.skip ?_ | refine CodeS.ret ?_ | refine CodeS.exit ?_ | refine CodeS.scope ?_ | refine CodeS.label ?_) | ((with_reducible refine opsP_nil (hK _ _ ?_)); clear hK K) | ((with_reducible refine opsP_gd ?hj ?hlt fun K1 K3 d hdst h1 h3 => ?_); (case hj => rfl); (case hlt => exact Nat.le_of_ble_eq_true rfl); cases hdst; go_simp) | ((with_reducible refine CodeS.cond_k fun K1 K3 h1 h3 => ?_); go_simp) | (refine h1 ?_; clear h1 h3 K1 K3) | (refine h3 ?_; clear h1 h3 K1 K3) | ((refine Either.mk (fun hb => h1 ?_) (fun hb => h3 ?_)) <;> (clear h1 h3 K1 K3; (try have hb2 := of_decide hb); (try have hb2 := of_not_decide_lt hb); (try have hb2 := of_not_decide_le hb); (try have hb2 := of_not_decide_ltN hb); (try have hb2 := of_not_decide_leN hb))) | ((refine Either.mk (fun hb => h3 ?_) (fun hb => h1 ?_)) <;> (clear h1 h3 K1 K3; (try have hb2 := of_decide hb); (try have hb2 := of_not_decide_lt hb); (try have hb2 := of_not_decide_le hb); (try have hb2 := of_not_decide_ltN hb); (try have hb2 := of_not_decide_leN hb))) | (refine fun (K2 : _ → AHeap → Prop) hK2 => ?_) | ((with_reducible refine Post.block_off ?hn ?_); (case hn => decide)) | ((with_reducible first | refine Post.body_k ?hd (fun K hK => ?_) | refine Post.body_kn ?hd (fun K hK => ?_)); (case hd => (go_simp; done)); go_simp; refine hK _ _ ?_; clear hK K) | (go_simp; (try go_bits); (try first | ((with_reducible show CallS _ _ _ _ _ _); refine CallS.mono (HCC.out _ _ HX1.out) ?_; rintro _ _ ⟨rfl, h9⟩; rw [h9]; clear h9) | ((with_reducible show CallS _ _ _ _ _ _); refine CallS.mono (HCL.out _ _ HX1.out) ?_; rintro _ _ ⟨rfl, h9⟩; rw [h9]; clear h9) | ((with_reducible show CallS _ _ _ _ _ _); refine CallS.mono (HEX.out _ _ HX1.out) ?_; rintro _ H1 ⟨⟨oa, on, oc, pi, fv, lv, rfl, hf1, hl1, -⟩, hx⟩; (have HX2 := Lib.hid (HX1.out.trans hx)); (obtain ⟨-, fa, fc, rfl⟩ := hf1.slice); (obtain ⟨-, la, lc, rfl⟩ := hl1.slice); clear hf1 hl1 hx)); refine hK2 _ _ ?_; clear hK2 K2))
    exact ⟨⟨_, rfl, spans_nil _⟩, HX2.out.push' _⟩
  · repeat' (first | (with_reducible first | refine CodeS.seq ?_ | refine CodeS.region_k fun K hK => ?_ | refine opsP_go fun K2 hK2 => ?_ | refine Post.then_normal ?_ | refine Post.then_ret ?_ | refine Post.then_exit ?_ | refine Post.block_normal ?_ | refine Post.block_ret ?_ | refine Post.block_here ?_ | refine Post.scope_normal ?_ | refine Post.scope_ret ?_ | refine Post.scope_exit ?_ | refine Post.round_ret ?_ | refine Post.round_exit ?_ | refine CodeS.block ?_ | refine CodeS.skip ?_ | refine CodeS.ret ?_ | refine CodeS.exit ?_ | refine CodeS.scope ?_ | refine CodeS.label ?_) | ((with_reducible refine opsP_nil (hK _ _ ?_)); clear hK K) | ((with_reducible refine opsP_gd ?hj ?hlt fun K1 K3 d hdst h1 h3 => ?_); (case hj => rfl); (case hlt => exact Nat.le_of_ble_eq_true rfl); cases hdst; go_simp) | ((with_reducible refine CodeS.cond_k fun K1 K3 h1 h3 => ?_); go_simp) | (refine h1 ?_; clear h1 h3 K1 K3) | (refine h3 ?_; clear h1 h3 K1 K3) | ((refine Either.mk (fun hb => h1 ?_) (fun hb => h3 ?_)) <;> (clear h1 h3 K1 K3; (try have hb2 := of_decide hb); (try have hb2 := of_not_decide_lt hb); (try have hb2 := of_not_decide_le hb); (try have hb2 := of_not_decide_ltN hb); (try have hb2 := of_not_decide_leN hb))) | ((refine Either.mk (fun hb => h3 ?_) (fun hb => h1 ?_)) <;> (clear h1 h3 K1 K3; (try have hb2 := of_decide hb); (try have hb2 := of_not_decide_lt hb); (try have hb2 := of_not_decide_le hb); (try have hb2 := of_not_decide_ltN hb); (try have hb2 := of_not_decide_leN hb))) | (refine fun (K2 : _ → AHeap → Prop) hK2 => ?_) | ((with_reducible refine Post.block_off ?hn ?_); (case hn => decide)) | ((with_reducible first | refine Post.body_k ?hd (fun K hK => ?_) | refine Post.body_kn ?hd (fun K hK => ?_)); (case hd => (go_simp; done)); go_simp; refine hK _ _ ?_; clear hK K) | (go_simp; (try go_bits); (try first | ((with_reducible show CallS _ _ _ _ _ _); refine CallS.mono (HCC.out _ _ HX1.out) ?_; rintro _ _ ⟨rfl, h9⟩; rw [h9]; clear h9) | ((with_reducible show CallS _ _ _ _ _ _); refine CallS.mono (HCL.out _ _ HX1.out) ?_; rintro _ _ ⟨rfl, h9⟩; rw [h9]; clear h9) | ((with_reducible show CallS _ _ _ _ _ _); refine CallS.mono (HEX.out _ _ HX1.out) ?_; rintro _ H1 ⟨⟨oa, on, oc, pi, fv, lv, rfl, hf1, hl1, hcv⟩, hx⟩; (have HF := Lib.hid hf1); (have HL := Lib.hid hl1); (have HCV := Lib.hid (hcv rfl)); (have HX2 := Lib.hid (HX1.out.trans hx)); (obtain ⟨ov, he9, hrows⟩ := hcv rfl); (obtain ⟨hol, oa', oc', rfl⟩ := hrows.slice); (cases he9); (have HR := Lib.hid hrows); (obtain ⟨-, fa, fc, rfl⟩ := hf1.slice); (obtain ⟨-, la, lc, rfl⟩ := hl1.slice); clear hf1 hl1 hx hcv hrows) | ((with_reducible show CallS _ _ _ _ _ _); refine CallS.mono (possible_e (x := x) (k := k) (HR.out.ext (Ext.push _)) (HF.out.ext (Ext.push _)) (HL.out.ext (Ext.push _)) hk hk1 hk2 hle) ?_; rintro pv H4 ⟨ho, hx⟩; (have HO := Lib.hid ho); (have HX4 := Lib.hid hx); clear ho hx)); refine hK2 _ _ ?_; clear hK2 K2))
    refine ⟨⟨_, rfl, ?_⟩, (HX2.out.push' _).trans HX4.out⟩
    rw [hPL]
    exact spans_of_own HO.out (by have := cutS_le (L1.getD k 0) (L2.getD k 0) (x.at_ k); omega)
end Go.Proofs.Try
namespace Go.Proofs.Try
open Go Go.Am Go.RowKit Go.Co
set_option maxRecDepth 100000

/-! The law StateLines: what it leans on. -/
structure LineOk (s : Sheet) (c : Copy) (k : Nat) (w y1 y2 day : Int) : Prop where
  lt : k < c.words.length
  ext : errExt s c = 0
  len1 : (firstL s c).length = c.words.length
  len2 : (lastL s c).length = c.words.length
  n40 : c.words.length ≤ 40
  word : c.words.getD k 0 = w
  fst : (firstL s c).getD k 0 = y1
  lst : (lastL s c).getD k 0 = y2
  when0 : whenErr s k w = 0
  can : insideL (possL s c k) day = (insideL (whenL s k w) day && decide (y1 ≤ day) && decide (day ≤ y2))
  mix : insideL (whenL s k w) day = true → y1 ≤ day → day ≤ y2 → fitsV s c (mixL (firstL s c) (lastL s c) k day) = .tuple #[.int .i64 0, .bool true, .int .i64 0]
theorem line_ok {s : Sheet} {c : Copy} {n day : Int} (h : errPoss s c n = 0) : ∃ (k : Nat) (w y1 y2 : Int), n = k ∧ LineOk s c k w y1 y2 day := by
  have h1 : errCopy s c = 0 := by
    unfold errPoss at h
    split at h
    · rename_i h2; exact absurd h h2
    · rename_i h2; simpa using h2
  have h2 : errLine s n = 0 := by
    rw [errPoss, if_neg (by simp [h1])] at h
    split at h
    · rename_i h2; exact absurd h h2
    · rename_i h2; simpa using h2
  have h3 : errExt s c = 0 := by
    rw [errPoss, if_neg (by simp [h1]), if_neg (by simp [h2])] at h
    exact h
  obtain ⟨-, hl0, hl1⟩ := errLine_ok h2
  have k := known h1
  have hm := (errExt_ok h3).2
  obtain ⟨he0, hlen, hwo, -⟩ := errCopy_ok h1
  have hf := (courseOf s c).early_fit k.ord k.p1 hm
  have hl := (courseOf s c).late_fit k.ord k.p1 hm
  have hfe : firstL s c = (courseOf s c).early c.per.toNat 0 := by rw [firstL, if_pos h3]
  have hle : lastL s c = (courseOf s c).late c.per.toNat := by rw [lastL, if_pos h3]
  have hkl : n.toNat < c.words.length := by omega
  have hn : n = (n.toNat : Int) := by omega
  generalize n.toNat = m at hkl hn
  subst hn
  have hw0 : whenErr s m (c.words.getD m 0) = 0 := by
    rw [whenErr, if_pos h2, if_pos]
    unfold wordsOk at hwo
    have hm2 : c.words.getD m 0 ∈ c.words := by simp [List.getD_eq_getElem?_getD, hkl]
    exact List.all_eq_true.1 hwo _ hm2
  have hwl : whenL s m (c.words.getD m 0) = joinL (offS (strs s m) (c.words.getD m 0)) := by rw [whenL, if_pos hw0]
  have hop : ∀ d, (courseOf s c).op m d = ((decide (c.beg ≤ d) && decide (d ≤ c.fin)) && insideL (whenL s m (c.words.getD m 0)) d) := by
    intro d
    rw [Course.op, courseOf_at s c hkl, rowOf, cutS_ins, hwl, insideL_ins, Bool.and_comm]
  have hff := (courseOf s c).fit_in k.ord hf
  have hf1 : c.beg ≤ ((courseOf s c).early c.per.toNat 0).getD m 0 := (k.fin m _ hkl (hf.2 m (by rw [hf.1, k.len]; exact hkl)).1).1
  have hl1' : ((courseOf s c).late c.per.toNat).getD m 0 ≤ c.fin := (k.fin m _ hkl (hl.2 m (by rw [hl.1, k.len]; exact hkl)).1).2
  refine ⟨m, _, _, _, rfl, hkl, h3, by rw [hfe, hf.1, k.len], by rw [hle, hl.1, k.len], k.n40, rfl, rfl, rfl, hw0, ?_, ?_⟩
  · rw [possL, if_pos h, insideL_ins, Int.toNat_natCast, Bool.eq_iff_iff, Course.poss_iff, hop, hfe, hle]
    simp only [Bool.and_eq_true, decide_eq_true_eq]
    constructor
    · rintro ⟨⟨-, h5⟩, h6, h7⟩; exact ⟨⟨h5, h6⟩, h7⟩
    · rintro ⟨⟨h5, h6⟩, h7⟩; exact ⟨⟨⟨by omega, by omega⟩, h5⟩, h6, h7⟩
  · intro h5 h6 h7
    rw [hfe] at h6 ⊢
    rw [hle] at h7 ⊢
    refine fitsOk_V (fitsOk_fit.2 ⟨h1, (courseOf s c).mix_fit k.p1 hf hl (by rw [hf.1, k.len]; exact hkl) ?_ h6 h7 (fun i hi => (courseOf s c).early_late k.ord k.p1 hm i (by rw [← hf.1]; exact hi))⟩)
    rw [hop, h5]; simp; omega
end Go.Proofs.Try
namespace Go.Proofs.Try
open Go Go.Am Go.RowKit Go.Co
set_option maxRecDepth 100000

/-! The law StateLines. -/
theorem own_pos {H : AHeap} {base : Nat} {v : Value} {L : List Int} {n : Nat} (h : Own H base v 3 1 (L.map (Value.int .i64))) (hn : L.length = n) (h0 : 0 < n) : ∃ b, v = .slice (some ⟨b, 0, none⟩) n n ∧ base ≤ b ∧ b < H.n ∧ H.get b = .row (L.map (Value.int .i64)) 3 := by
  rcases h with ⟨_, h2⟩ | ⟨b, m, h1, h2, h3, h4, h5, h6⟩
  · have : L = [] := by simpa using h2
    rw [this] at hn; simp at hn; omega
  · have : m = n := by simp at h5; omega
    subst this
    exact ⟨b, h1, h2, h3, h4⟩
theorem cellAt_row {H : AHeap} {b : Nat} {L : List Int} {k : Nat} (h : H.get b = .row (L.map (Value.int .i64)) 3) (hk : k < L.length) : cellAt H b k = some (.int .i64 (L.getD k 0)) := by
  simp [cellAt, h, List.getD_eq_getElem?_getD, hk]
theorem cellsAt_row {H : AHeap} {b o m : Nat} {l : List Value} {e : TypeId} (h : H.get b = .row l e) (hm : o + m ≤ l.length) : cellsAt H b o m = some ((l.drop o).take m) := by
  simp [cellsAt, h, hm]

@[go_sem] theorem slHi {β : Type} {kk : K β} {H : AHeap} {b n c k : Nat} {q : IntKind} (hg : elemIsR H b 3 = true) (hk : k ≤ c) (hc : 0 < c) : aSlice Try.prog 22 (.slice (some ⟨b, 0, none⟩) n c) none (some (.int q (k : Int))) H kk = kk (.slice (some ⟨b, 0, none⟩) k c) H := by
  have h1 : hiOf n c (some (.int q (k : Int))) = some k := by show (if k ≤ c then some k else none) = _; rw [if_pos hk]
  simp only [aSlice, el22, h1, loOf, sz3, Nat.zero_le, if_true, sliceOn, hg, Bool.not_true, Bool.false_eq_true, if_false, hc, Nat.zero_mul, Nat.add_zero, Nat.sub_zero]
@[go_sem] theorem slLo {β : Type} {kk : K β} {H : AHeap} {b n k : Nat} {q : IntKind} (hg : elemIsR H b 3 = true) (hk : k + 1 < n) : aSlice Try.prog 22 (.slice (some ⟨b, 0, none⟩) n n) (some (.int q ((k : Int) + 1))) none H kk = kk (.slice (some ⟨b, k + 1, none⟩) (n - (k + 1)) (n - (k + 1))) H := by
  have h1 : loOf (some (.int q ((k : Int) + 1))) = some (k + 1) := rfl
  simp only [aSlice, el22, h1, hiOf, sz3, sliceOn, hg, Bool.not_true, Bool.false_eq_true, if_false, show k + 1 ≤ n from by omega, hk, if_true, Nat.zero_add, Nat.mul_one]
@[go_sem] theorem slEnd {β : Type} {kk : K β} {H : AHeap} {b n k : Nat} {q : IntKind} (hg : elemIsR H b 3 = true) (hk : k + 1 = n) : aSlice Try.prog 22 (.slice (some ⟨b, 0, none⟩) n n) (some (.int q ((k : Int) + 1))) none H kk = kk (.slice (some ⟨b, 0, some 1⟩) 0 0) H := by
  have h1 : loOf (some (.int q ((k : Int) + 1))) = some (k + 1) := rfl
  simp only [aSlice, el22, h1, hiOf, sz3, sliceOn, hg, Bool.not_true, Bool.false_eq_true, if_false, show k + 1 ≤ n from by omega, show ¬ k + 1 < n from by omega, show ¬ k + 1 = 0 from by omega, if_true, show n - (k + 1) = 0 from by omega]
@[go_sem] theorem elemIsR_old {H : AHeap} {o : AObj} {b : Nat} {e : TypeId} (h : b < H.n) : elemIsR (H.push o) b e = elemIsR H b e := by
  simp only [elemIsR, AHeap.get_push_old h]

theorem gen19 {P : Program} {cx : Cx} {ops : Array Oper} {b : Bool} {f : AF} {H : AHeap} {Q : Post} (I : AF → AHeap → Prop) (h : ∀ f H, I f H → CodeS P cx (.region 19 ops b) f H Q) (hp : I f H) : CodeS P cx (.region 19 ops b) f H Q := h f H hp

end Go.Proofs.Try
namespace Go.Proofs.Try
open Go Go.Am Go.RowKit Go.Co
set_option maxRecDepth 100000
set_option maxHeartbeats 8000000 in
/-- The days that the law puts together: those ahead of a line, the day, those behind it. -/
theorem region19a {f : AF} {H5 : AHeap} {Q : Post} {b1 b2 n k : Nat} {day : Int} {L1 L2 : List Int} (f12 : f.tmp 12 = .slice (some ⟨b1, 0, none⟩) n n) (f14 : f.tmp 14 = .slice (some ⟨b2, 0, none⟩) n n) (f2 : f.tmp 2 = .int .i64 k) (f3 : f.tmp 3 = .int .i64 day) (hd : f.defers = []) (hlen1 : L1.length = n) (hlen2 : L2.length = n) (hkn : k < n) (HK0 : Hid (k = 0)) (hkl : k + 1 < n) (hn40 : n ≤ 40) (hg15 : H5.get b1 = .row (L1.map (Value.int .i64)) 3) (hg25 : H5.get b2 = .row (L2.map (Value.int .i64)) 3) (hb15 : b1 < H5.n) (hb25 : b2 < H5.n)
    (hQ : ∀ (f' : AF) (G : AHeap), f'.tmp 4 = f.tmp 4 → f'.tmp 5 = f.tmp 5 → f'.tmp 9 = f.tmp 9 → f'.defers = [] → Ext H5 G → Ints G (f'.tmp 19) (mixL L1 L2 k day) → Q .normal f' G) :
    CodeS Try.prog { fn := 11, sz := 147, round := none, loops := [] } (Code.region 19 #[{ dst := some 118, op := Op.buildSlice 22 0 #[], type := 22, pos := "theorem.go:150", after := #[], guard := none }, { dst := some 119, op := Op.move (Operand.tmp 12), type := 22, pos := "theorem.go:150", after := #[], guard := none }, { dst := some 120, op := Op.move (Operand.tmp 2), type := 3, pos := "theorem.go:150", after := #[], guard := none }, { dst := some 121, op := Op.slice 22 (Operand.tmp 119) none (some (Operand.tmp 120)) none, type := 22, pos := "theorem.go:150", after := #[{ on := 1, ground := Ground.data }, { on := 2, ground := Ground.data }], guard := none }, { dst := some 122, op := Op.call { callee := Callee.builtin Builtin.append, args := #[Operand.tmp 118, Operand.tmp 121], argTypes := #[22, 22] }, type := 22, pos := "theorem.go:150", after := #[{ on := 0, ground := Ground.data }, { on := 3, ground := Ground.data }], guard := none }, { dst := some 123, op := Op.move (Operand.tmp 3), type := 3, pos := "theorem.go:150", after := #[], guard := none }, { dst := some 124, op := Op.buildSlice 22 1 #[(0, Operand.tmp 123)], type := 22, pos := "theorem.go:150", after := #[{ on := 5, ground := Ground.data }], guard := none }, { dst := some 125, op := Op.call { callee := Callee.builtin Builtin.append, args := #[Operand.tmp 122, Operand.tmp 124], argTypes := #[22, 22] }, type := 22, pos := "theorem.go:150", after := #[{ on := 4, ground := Ground.data }, { on := 6, ground := Ground.data }, { on := 4, ground := Ground.chain }], guard := none }, { dst := some 126, op := Op.move (Operand.tmp 14), type := 22, pos := "theorem.go:150", after := #[], guard := none }, { dst := some 127, op := Op.move (Operand.tmp 2), type := 3, pos := "theorem.go:150", after := #[], guard := none }, { dst := some 128, op := Op.binOp BinOp.add 3 (Operand.tmp 127) (Operand.const (Value.int IntKind.i64 1)) 3, type := 3, pos := "theorem.go:150", after := #[{ on := 9, ground := Ground.data }], guard := none }, { dst := some 129, op := Op.slice 22 (Operand.tmp 126) (some (Operand.tmp 128)) none none, type := 22, pos := "theorem.go:150", after := #[{ on := 8, ground := Ground.data }, { on := 10, ground := Ground.data }], guard := none }, { dst := some 130, op := Op.call { callee := Callee.builtin Builtin.append, args := #[Operand.tmp 125, Operand.tmp 129], argTypes := #[22, 22] }, type := 22, pos := "theorem.go:150", after := #[{ on := 7, ground := Ground.data }, { on := 11, ground := Ground.data }, { on := 7, ground := Ground.chain }], guard := none }, { dst := some 19, op := Op.assign (Operand.tmp 130), type := 22, pos := "theorem.go:150", after := #[{ on := 12, ground := Ground.data }, { on := 12, ground := Ground.chain }, { on := 0, ground := Ground.phase }, { on := 1, ground := Ground.phase }, { on := 2, ground := Ground.phase }, { on := 3, ground := Ground.phase }, { on := 4, ground := Ground.phase }, { on := 5, ground := Ground.phase }, { on := 6, ground := Ground.phase }, { on := 7, ground := Ground.phase }, { on := 8, ground := Ground.phase }, { on := 9, ground := Ground.phase }, { on := 10, ground := Ground.phase }, { on := 11, ground := Ground.phase }, { on := 12, ground := Ground.phase }], guard := none }] true) f H5 Q := by
  have HG15 := Lib.hid hg15
  have HG25 := Lib.hid hg25
  have HQ := Lib.hid hQ
  have he15 : elemIsR H5 b1 3 = true := elemIsR_row hg15
  have he25 : elemIsR H5 b2 3 = true := elemIsR_row hg25
  have hwk : IntKind.i64.wrap ((k : Int) + 1) = (k : Int) + 1 := by rw [IntKind.wrap_i64]; omega
  have hkle : k ≤ n := by omega
  have h0n : 0 < n := by omega
  have hk40 : k ≤ 40 := by omega
  have hb15a : b1 ≤ H5.n := by omega
  have hb25a : b2 ≤ H5.n := by omega
  have hb15b : b1 < H5.n + 1 := by omega
  have hb25b : b2 < H5.n + 1 := by omega
  have hb15c : b1 ≤ H5.n + 1 := by omega
  have hb25c : b2 ≤ H5.n + 1 := by omega
  clear hg15 hg25 hQ
  have HB1G : Hid (∀ G : AHeap, Ext H5 G → cellsAt G b1 0 (k * 1) = some ((L1.take k).map (Value.int .i64))) := Lib.hid (fun G hx => by
    rw [cellsAt_row ((hx.get _ hb15).trans HG15.out) (by simp; omega)]; simp)
  have HB2G : Hid (∀ G : AHeap, Ext H5 G → cellsAt G b2 (k + 1) ((n - (k + 1)) * 1) = some ((L2.drop (k + 1)).map (Value.int .i64))) := Lib.hid (fun G hx => by
    rw [cellsAt_row ((hx.get _ hb25).trans HG25.out) (by simp; omega)]
    rw [Nat.mul_one, List.map_drop, List.take_of_length_le (by simp; omega)])
  have HMI : Hid (∀ (G : AHeap) (b : Nat) (v : Value), Own G b v 3 1 ((L1.take k).map (Value.int .i64) ++ [Value.int .i64 day] ++ (L2.drop (k + 1)).map (Value.int .i64)) → Ints G v (mixL L1 L2 k day)) := Lib.hid (fun G b v h => ints_of_own (by rw [mixL, List.map_append, List.map_append]; exact h) (by rw [mixL]; simp; omega))
  have HT1 : Hid (((L1.take k).map (Value.int .i64)).length = k * 1) := Lib.hid (by simp; omega)
  have HT2 : Hid (((L2.drop (k + 1)).map (Value.int .i64)).length = (n - (k + 1)) * 1) := Lib.hid (by simp; omega)
  have HCS : Hid (∀ G : AHeap, Ext H5 G → b1 < G.n ∧ b2 < G.n ∧ elemIsR G b1 3 = true ∧ elemIsR G b2 3 = true) := Lib.hid (fun G hx => ⟨by have := hx.n; omega, by have := hx.n; omega, elemIsR_row ((hx.get _ hb15).trans HG15.out), elemIsR_row ((hx.get _ hb25).trans HG25.out)⟩)
  have HNIL : Hid (k + 1 = n → L2.drop (k + 1) = []) := Lib.hid (fun h => List.drop_eq_nil_of_le (by omega))
  clear hlen1 hlen2
  repeat' (first | (with_reducible first | refine CodeS.seq ?_ | refine CodeS.region_k fun K hK => ?_ | refine opsP_go fun K2 hK2 => ?_ | refine Post.then_normal ?_ | refine Post.then_ret ?_ | refine Post.then_exit ?_ | refine Post.block_normal ?_ | refine Post.block_ret ?_ | refine Post.block_here ?_ | refine Post.scope_normal ?_ | refine Post.scope_ret ?_ | refine Post.scope_exit ?_ | refine Post.round_ret ?_ | refine Post.round_exit ?_ | refine CodeS.block ?_ | refine CodeS.skip ?_ | refine CodeS.ret ?_ | refine CodeS.exit ?_ | refine CodeS.scope ?_ | refine CodeS.label ?_) | ((with_reducible refine opsP_nil (hK _ _ ?_)); clear hK K) | ((with_reducible refine opsP_gd ?hj ?hlt fun K1 K3 d hdst h1 h3 => ?_); (case hj => rfl); (case hlt => exact Nat.le_of_ble_eq_true rfl); cases hdst; go_simp) | ((with_reducible refine CodeS.cond_k fun K1 K3 h1 h3 => ?_); go_simp) | (refine h1 ?_; clear h1 h3 K1 K3) | (refine h3 ?_; clear h1 h3 K1 K3) | ((refine Either.mk (fun hb => h1 ?_) (fun hb => h3 ?_)) <;> (clear h1 h3 K1 K3; (try have hb2 := of_decide hb); (try have hb2 := of_not_decide_lt hb); (try have hb2 := of_not_decide_le hb); (try have hb2 := of_not_decide_ltN hb); (try have hb2 := of_not_decide_leN hb))) | ((refine Either.mk (fun hb => h3 ?_) (fun hb => h1 ?_)) <;> (clear h1 h3 K1 K3; (try have hb2 := of_decide hb); (try have hb2 := of_not_decide_lt hb); (try have hb2 := of_not_decide_le hb); (try have hb2 := of_not_decide_ltN hb); (try have hb2 := of_not_decide_leN hb))) | (refine fun (K2 : _ → AHeap → Prop) hK2 => ?_) | ((with_reducible refine Post.block_off ?hn ?_); (case hn => decide)) | ((with_reducible first | refine Post.body_k ?hd (fun K hK => ?_) | refine Post.body_kn ?hd (fun K hK => ?_)); (case hd => (go_simp; done)); go_simp; refine hK _ _ ?_; clear hK K) | ((with_reducible refine CodeS.tree_lit mixed rfl ?hok 20 fun K0 hK0 => ?_); (case hok => kernel_rfl)) | (with_reducible first | exact loudsP_nil | exact stableP_nil | refine treeP_lit ?_ | refine passP_nil ?_ | refine stableP_keep ?_) | ((with_reducible first | refine passP_skip ?h1 ?_ | refine loudsP_skip ?h1 ?_ | refine stepT_more ?h1 ?_); (case h1 => rfl)) | ((with_reducible refine stepT_done ?h1 ?_); (case h1 => rfl); refine hK0 _ _ ?_; clear hK0 K0) | ((with_reducible refine passP_loud ?h1 ?hg ?hl ?_); (case h1 => rfl); (case hg => rfl); (case hl => rfl)) | ((with_reducible refine passP_q ?h1 ?hl ?hlt fun K2 hK2 => ?_); (case h1 => rfl); (case hl => rfl); (case hlt => exact Nat.le_of_ble_eq_true rfl)) | ((with_reducible refine passP_g ?h1 ?hj ?hl ?hlt fun K1 K3 d hdst h1 h3 => ?_); (case h1 => rfl); (case hj => rfl); (case hl => rfl); (case hlt => exact Nat.le_of_ble_eq_true rfl); cases hdst; go_simp) | ((with_reducible refine passP_lg ?h1 ?hj ?hl ?hlt fun K1 K3 d hdst h1 h3 => ?_); (case h1 => rfl); (case hj => rfl); (case hl => rfl); (case hlt => exact Nat.le_of_ble_eq_true rfl); cases hdst; go_simp) | ((with_reducible refine loudsP_c ?h1 ?hlt (fun K2 hK2 => ?_) ?_); (case h1 => rfl); (case hlt => exact Nat.le_of_ble_eq_true rfl)) | ((with_reducible refine loudsP_cg ?h1 ?hlt ?hj ?hw (fun K2 hK2 => ?_) ?_); (case h1 => rfl); (case hlt => exact Nat.le_of_ble_eq_true rfl); (case hj => rfl); (case hw => (go_simp; done))) | ((with_reducible refine loudsP_v ?h1 ?hv ?hlt (fun K2 hK2 => ?_) ?_); (case h1 => rfl); (case hv => rfl); (case hlt => exact Nat.le_of_ble_eq_true rfl)) | ((with_reducible refine loudsP_u ?h1 ?hv (fun K2 hK2 => ?_) ?_); (case h1 => rfl); (case hv => rfl)) | ((with_reducible refine stableP_pre ?h1 ?_); (case h1 => (first | rfl | (dsimp only; decide +kernel)))) | ((with_reducible refine stableP_re ?h1 ?_); (case h1 => (go_simp; done))) | (go_simp; (try go_bits); (try first | ((refine lit0_v el22 sz3 ze3 rfl (by decide) ?_); go_simp) | ((refine one_v el22 sz3 ze3 rfl (by decide) (by decide) rfl rfl ?_); go_simp) | ((refine appendNil_v el22 sz3 (by rw [HK0.out]; exact srcCells_none) ?_); go_simp) | ((refine append0_v (b := H5.n) el22 sz3 by3 ze3 rfl (by decide) (by rw [AHeap.get_push_old (by rw [AHeap.n_push]; omega)]; exact AHeap.get_push_new) (srcCells_some (b := H5.n + 1) (by decide) (by rw [cellsAt, get_at (by rw [AHeap.n_push])]; rfl)) (by decide) rfl rfl (by show 1 * 8 ≤ 1073741824; omega) fun H7 hn7 hg7 hk7 => ?_); (have HX7 : Hid (Ext H5 H7) := Lib.hid (grown_ext ((Ext.push _).push' _) (by omega) hn7 hk7)); (obtain ⟨p4H7, p5H7, p6H7, p7H7⟩ := HCS.out H7 HX7.out); (have HO7 : Hid (Own H7 H5.n (.slice (some ⟨_, 0, none⟩) 1 1) 3 1 ((L1.take k).map (Value.int .i64) ++ [Value.int .i64 day])) := Lib.hid (by rw [HK0.out]; exact own_new (by simp only [AHeap.n_push]; omega) (by omega) hg7 rfl (by decide))); clear hg7 hk7 hn7; go_simp) | ((refine append0_v (b := H5.n + 1) el22 sz3 by3 ze3 rfl (by decide) (get_at (by rw [AHeap.n_push])) (srcCells_some (b := H5.n) (by decide) (by rw [cellsAt, AHeap.get_push_old (by rw [AHeap.n_push]; omega), AHeap.get_push_new]; rfl)) (by decide) rfl rfl (by show 1 * 8 ≤ 1073741824; omega) fun H7 hn7 hg7 hk7 => ?_); (have HX7 : Hid (Ext H5 H7) := Lib.hid (grown_ext ((Ext.push _).push' _) (by omega) hn7 hk7)); (obtain ⟨p4H7, p5H7, p6H7, p7H7⟩ := HCS.out H7 HX7.out); (have HO7 : Hid (Own H7 H5.n (.slice (some ⟨_, 0, none⟩) 1 1) 3 1 ((L1.take k).map (Value.int .i64) ++ [Value.int .i64 day])) := Lib.hid (by rw [HK0.out]; exact own_new (by simp only [AHeap.n_push]; omega) (by omega) hg7 rfl (by decide))); clear hg7 hk7 hn7; go_simp) | ((refine append_v el22 sz3 by3 ze3 rfl (by decide) HO7.out (srcCells_some (by omega) (HB2G.out _ HX7.out)) (by omega) HT2.out (by rw [List.all_append, List.all_append, oneV_list_int, oneV_list_int]; rfl) (by rw [List.length_append, HT1.out, HT2.out]; show (k * 1 + 1 + (n - (k + 1)) * 1) * 8 ≤ 1073741824; omega) (by first | exact hle7 | exact HX7.out.n) fun v8 H8 ho8 hg8 => ?_); (have HM8 := Lib.hid (HMI.out _ _ _ ho8)); (have HX8 : Hid (Ext H5 H8) := Lib.hid (Grown.ext hg8 HO7.out (by first | exact Nat.le_refl _ | (have := HX6.out.n; (try simp only [AHeap.n_push]); omega)) HX7.out)); (obtain ⟨p4H8, p5H8, p6H8, p7H8⟩ := HCS.out H8 HX8.out); clear ho8 hg8; go_simp)); (first | (refine hK2 _ _ ?_ ?_ <;> clear hK2 K2) | (refine hK2 _ _ ?_; clear hK2 K2))))
  all_goals
    refine HQ.out _ _ (by first | (go_simp; done) | (go_simp; go_num; done) | assumption) (by first | (go_simp; done) | (go_simp; go_num; done) | assumption) (by first | (go_simp; done) | (go_simp; go_num; done) | assumption) (by first | (go_simp; done) | (go_simp; go_num; done) | assumption) HX8.out ?_
    go_simp
    exact HM8.out
end Go.Proofs.Try
