/- Contracts of functions, walked. -/
import Derived.Test.YtgddlpegljkgpaaStTG
import Derived.Test.YtgddlpegljkgpaaStSL
import Derived.Test.YtgddlpegljkgpaaStSA
import Derived.Test.YtgddlpegljkgpaaStSO
set_option linter.all false
namespace Go.Proofs.Try
open Go Go.Am Go.RowKit Go.Co
set_option maxRecDepth 100000

theorem first_e {loops : List (Nat × LInfo)} {H : AHeap} {sv cv : Value} {s : Sheet} {c : Copy} (hs : SheetV H sv s) (hc : CopyV H cv c) : CallS Try.prog loops 46 [sv, cv] H fun r H' => (∃ fv, r = .tuple #[fv, .int .i64 (errExt s c)] ∧ Ints H' fv (firstL s c)) ∧ Ext H H' := by
  have HS := Lib.hid hs
  have HC := Lib.hid hc
  obtain ⟨wv, av, rfl, hw, ha⟩ := hs
  obtain ⟨hwl, wa, wc, rfl⟩ := hw.slice
  obtain ⟨hal, aa, ac, rfl⟩ := ha.slice
  obtain ⟨cv, rfl, hcw⟩ := hc
  obtain ⟨hcl, ca, cc, rfl⟩ := hcw.slice
  clear hw ha hcw
  refine CallS.enter' Try.func46 rfl Try.ntmps46 (by simp) fun f hd hf => ?_
  have f0 := hf 0
  have f1 := hf 1
  simp at f0 f1
  clear hf
  have HX1 : Hid (Ext H ((H.push (.row [Value.slice wa s.words.length wc, Value.slice aa s.alts.length ac] 25)).push (.row [Value.slice ca c.words.length cc, .int .i64 c.beg, .int .i64 c.fin, .int .i64 c.per] 27))) := Lib.hid (((Ext.refl _).push' _).push' _)
  generalize hee : errExt s c = er
  have HE := Lib.hid hee
  clear hee
  repeat' (first | (with_reducible first | refine CodeS.seq ?_ | refine CodeS.region_k fun K hK => ?_ | refine opsP_go fun K2 hK2 => ?_ | refine Post.then_normal ?_ | refine Post.then_ret ?_ | refine Post.then_exit ?_ | refine Post.block_normal ?_ | refine Post.block_ret ?_ | refine Post.block_here ?_ | refine Post.scope_normal ?_ | refine Post.scope_ret ?_ | refine Post.scope_exit ?_ | refine Post.round_ret ?_ | refine Post.round_exit ?_ | refine CodeS.block ?_ | refine CodeS.skip ?_ | refine CodeS.ret ?_ | refine CodeS.exit ?_ | refine CodeS.scope ?_ | refine CodeS.label ?_) | ((with_reducible refine opsP_nil (hK _ _ ?_)); clear hK K) | ((with_reducible refine opsP_gd ?hj ?hlt fun K1 K3 d hdst h1 h3 => ?_); (case hj => rfl); (case hlt => exact Nat.le_of_ble_eq_true rfl); cases hdst; go_simp) | ((with_reducible refine CodeS.cond_k fun K1 K3 h1 h3 => ?_); go_simp) | (refine h1 ?_; clear h1 h3 K1 K3) | (refine h3 ?_; clear h1 h3 K1 K3) | ((refine Either.mk (fun hb => h1 ?_) (fun hb => h3 ?_)) <;> (clear h1 h3 K1 K3; (try have hb2 := of_decide hb); (try have hb2 := of_not_decide_lt hb); (try have hb2 := of_not_decide_le hb); (try have hb2 := of_not_decide_ltN hb); (try have hb2 := of_not_decide_leN hb))) | ((refine Either.mk (fun hb => h3 ?_) (fun hb => h1 ?_)) <;> (clear h1 h3 K1 K3; (try have hb2 := of_decide hb); (try have hb2 := of_not_decide_lt hb); (try have hb2 := of_not_decide_le hb); (try have hb2 := of_not_decide_ltN hb); (try have hb2 := of_not_decide_leN hb))) | (refine fun (K2 : _ → AHeap → Prop) hK2 => ?_) | ((with_reducible refine Post.block_off ?hn ?_); (case hn => decide)) | ((with_reducible first | refine Post.body_k ?hd (fun K hK => ?_) | refine Post.body_kn ?hd (fun K hK => ?_)); (case hd => (go_simp; done)); go_simp; refine hK _ _ ?_; clear hK K) | ((with_reducible refine CodeS.tree_lit mixed rfl ?hok 20 fun K0 hK0 => ?_); (case hok => kernel_rfl)) | (with_reducible first | exact loudsP_nil | exact stableP_nil | refine treeP_lit ?_ | refine passP_nil ?_ | refine stableP_keep ?_) | ((with_reducible first | refine passP_skip ?h1 ?_ | refine loudsP_skip ?h1 ?_ | refine stepT_more ?h1 ?_); (case h1 => rfl)) | ((with_reducible refine stepT_done ?h1 ?_); (case h1 => rfl); refine hK0 _ _ ?_; clear hK0 K0) | ((with_reducible refine passP_loud ?h1 ?hg ?hl ?_); (case h1 => rfl); (case hg => rfl); (case hl => rfl)) | ((with_reducible refine passP_q ?h1 ?hl ?hlt fun K2 hK2 => ?_); (case h1 => rfl); (case hl => rfl); (case hlt => exact Nat.le_of_ble_eq_true rfl)) | ((with_reducible refine passP_g ?h1 ?hj ?hl ?hlt fun K1 K3 d hdst h1 h3 => ?_); (case h1 => rfl); (case hj => rfl); (case hl => rfl); (case hlt => exact Nat.le_of_ble_eq_true rfl); cases hdst; go_simp) | ((with_reducible refine passP_lg ?h1 ?hj ?hl ?hlt fun K1 K3 d hdst h1 h3 => ?_); (case h1 => rfl); (case hj => rfl); (case hl => rfl); (case hlt => exact Nat.le_of_ble_eq_true rfl); cases hdst; go_simp) | ((with_reducible refine loudsP_c ?h1 ?hlt (fun K2 hK2 => ?_) ?_); (case h1 => rfl); (case hlt => exact Nat.le_of_ble_eq_true rfl)) | ((with_reducible refine loudsP_cg ?h1 ?hlt ?hj ?hw (fun K2 hK2 => ?_) ?_); (case h1 => rfl); (case hlt => exact Nat.le_of_ble_eq_true rfl); (case hj => rfl); (case hw => (go_simp; done))) | ((with_reducible refine loudsP_v ?h1 ?hv ?hlt (fun K2 hK2 => ?_) ?_); (case h1 => rfl); (case hv => rfl); (case hlt => exact Nat.le_of_ble_eq_true rfl)) | ((with_reducible refine loudsP_u ?h1 ?hv (fun K2 hK2 => ?_) ?_); (case h1 => rfl); (case hv => rfl)) | ((with_reducible refine stableP_pre ?h1 ?_); (case h1 => (first | rfl | (dsimp only; decide +kernel)))) | ((with_reducible refine stableP_re ?h1 ?_); (case h1 => (go_simp; done))) | (go_simp; (try go_bits); (try first | ((with_reducible show CallS _ _ _ _ _ _); refine CallS.mono (extentOf_e (s := s) (c := c) (HS.out.ext HX1.out) (HC.out.ext HX1.out)) ?_; rintro _ H1 ⟨⟨oa, on, oc, pi, fv, lv, rfl, hf1, hl1⟩, hx⟩; rw [HE.out]; (have HF := Lib.hid hf1); (have HX2 := Lib.hid (HX1.out.trans hx)); (obtain ⟨-, fa, fc, rfl⟩ := hf1.slice); (obtain ⟨-, la, lc, rfl⟩ := hl1.slice); clear hf1 hl1 hx)); (first | (refine hK2 _ _ ?_ ?_ <;> clear hK2 K2) | (refine hK2 _ _ ?_; clear hK2 K2))))
  exact ⟨⟨_, rfl, HF.out.ext (Ext.push _)⟩, HX2.out.push' _⟩

theorem last_e {loops : List (Nat × LInfo)} {H : AHeap} {sv cv : Value} {s : Sheet} {c : Copy} (hs : SheetV H sv s) (hc : CopyV H cv c) : CallS Try.prog loops 47 [sv, cv] H fun r H' => (∃ fv, r = .tuple #[fv, .int .i64 (errExt s c)] ∧ Ints H' fv (lastL s c)) ∧ Ext H H' := by
  have HS := Lib.hid hs
  have HC := Lib.hid hc
  obtain ⟨wv, av, rfl, hw, ha⟩ := hs
  obtain ⟨hwl, wa, wc, rfl⟩ := hw.slice
  obtain ⟨hal, aa, ac, rfl⟩ := ha.slice
  obtain ⟨cv, rfl, hcw⟩ := hc
  obtain ⟨hcl, ca, cc, rfl⟩ := hcw.slice
  clear hw ha hcw
  refine CallS.enter' Try.func47 rfl Try.ntmps47 (by simp) fun f hd hf => ?_
  have f0 := hf 0
  have f1 := hf 1
  simp at f0 f1
  clear hf
  have HX1 : Hid (Ext H ((H.push (.row [Value.slice wa s.words.length wc, Value.slice aa s.alts.length ac] 25)).push (.row [Value.slice ca c.words.length cc, .int .i64 c.beg, .int .i64 c.fin, .int .i64 c.per] 27))) := Lib.hid (((Ext.refl _).push' _).push' _)
  generalize hee : errExt s c = er
  have HE := Lib.hid hee
  clear hee
  repeat' (first | (with_reducible first | refine CodeS.seq ?_ | refine CodeS.region_k fun K hK => ?_ | refine opsP_go fun K2 hK2 => ?_ | refine Post.then_normal ?_ | refine Post.then_ret ?_ | refine Post.then_exit ?_ | refine Post.block_normal ?_ | refine Post.block_ret ?_ | refine Post.block_here ?_ | refine Post.scope_normal ?_ | refine Post.scope_ret ?_ | refine Post.scope_exit ?_ | refine Post.round_ret ?_ | refine Post.round_exit ?_ | refine CodeS.block ?_ | refine CodeS.skip ?_ | refine CodeS.ret ?_ | refine CodeS.exit ?_ | refine CodeS.scope ?_ | refine CodeS.label ?_) | ((with_reducible refine opsP_nil (hK _ _ ?_)); clear hK K) | ((with_reducible refine opsP_gd ?hj ?hlt fun K1 K3 d hdst h1 h3 => ?_); (case hj => rfl); (case hlt => exact Nat.le_of_ble_eq_true rfl); cases hdst; go_simp) | ((with_reducible refine CodeS.cond_k fun K1 K3 h1 h3 => ?_); go_simp) | (refine h1 ?_; clear h1 h3 K1 K3) | (refine h3 ?_; clear h1 h3 K1 K3) | ((refine Either.mk (fun hb => h1 ?_) (fun hb => h3 ?_)) <;> (clear h1 h3 K1 K3; (try have hb2 := of_decide hb); (try have hb2 := of_not_decide_lt hb); (try have hb2 := of_not_decide_le hb); (try have hb2 := of_not_decide_ltN hb); (try have hb2 := of_not_decide_leN hb))) | ((refine Either.mk (fun hb => h3 ?_) (fun hb => h1 ?_)) <;> (clear h1 h3 K1 K3; (try have hb2 := of_decide hb); (try have hb2 := of_not_decide_lt hb); (try have hb2 := of_not_decide_le hb); (try have hb2 := of_not_decide_ltN hb); (try have hb2 := of_not_decide_leN hb))) | (refine fun (K2 : _ → AHeap → Prop) hK2 => ?_) | ((with_reducible refine Post.block_off ?hn ?_); (case hn => decide)) | ((with_reducible first | refine Post.body_k ?hd (fun K hK => ?_) | refine Post.body_kn ?hd (fun K hK => ?_)); (case hd => (go_simp; done)); go_simp; refine hK _ _ ?_; clear hK K) | ((with_reducible refine CodeS.tree_lit mixed rfl ?hok 20 fun K0 hK0 => ?_); (case hok => kernel_rfl)) | (with_reducible first | exact loudsP_nil | exact stableP_nil | refine treeP_lit ?_ | refine passP_nil ?_ | refine stableP_keep ?_) | ((with_reducible first | refine passP_skip ?h1 ?_ | refine loudsP_skip ?h1 ?_ | refine stepT_more ?h1 ?_); (case h1 => rfl)) | ((with_reducible refine stepT_done ?h1 ?_); (case h1 => rfl); refine hK0 _ _ ?_; clear hK0 K0) | ((with_reducible refine passP_loud ?h1 ?hg ?hl ?_); (case h1 => rfl); (case hg => rfl); (case hl => rfl)) | ((with_reducible refine passP_q ?h1 ?hl ?hlt fun K2 hK2 => ?_); (case h1 => rfl); (case hl => rfl); (case hlt => exact Nat.le_of_ble_eq_true rfl)) | ((with_reducible refine passP_g ?h1 ?hj ?hl ?hlt fun K1 K3 d hdst h1 h3 => ?_); (case h1 => rfl); (case hj => rfl); (case hl => rfl); (case hlt => exact Nat.le_of_ble_eq_true rfl); cases hdst; go_simp) | ((with_reducible refine passP_lg ?h1 ?hj ?hl ?hlt fun K1 K3 d hdst h1 h3 => ?_); (case h1 => rfl); (case hj => rfl); (case hl => rfl); (case hlt => exact Nat.le_of_ble_eq_true rfl); cases hdst; go_simp) | ((with_reducible refine loudsP_c ?h1 ?hlt (fun K2 hK2 => ?_) ?_); (case h1 => rfl); (case hlt => exact Nat.le_of_ble_eq_true rfl)) | ((with_reducible refine loudsP_cg ?h1 ?hlt ?hj ?hw (fun K2 hK2 => ?_) ?_); (case h1 => rfl); (case hlt => exact Nat.le_of_ble_eq_true rfl); (case hj => rfl); (case hw => (go_simp; done))) | ((with_reducible refine loudsP_v ?h1 ?hv ?hlt (fun K2 hK2 => ?_) ?_); (case h1 => rfl); (case hv => rfl); (case hlt => exact Nat.le_of_ble_eq_true rfl)) | ((with_reducible refine loudsP_u ?h1 ?hv (fun K2 hK2 => ?_) ?_); (case h1 => rfl); (case hv => rfl)) | ((with_reducible refine stableP_pre ?h1 ?_); (case h1 => (first | rfl | (dsimp only; decide +kernel)))) | ((with_reducible refine stableP_re ?h1 ?_); (case h1 => (go_simp; done))) | (go_simp; (try go_bits); (try first | ((with_reducible show CallS _ _ _ _ _ _); refine CallS.mono (extentOf_e (s := s) (c := c) (HS.out.ext HX1.out) (HC.out.ext HX1.out)) ?_; rintro _ H1 ⟨⟨oa, on, oc, pi, fv, lv, rfl, hf1, hl1⟩, hx⟩; rw [HE.out]; (have HF := Lib.hid hl1); (have HX2 := Lib.hid (HX1.out.trans hx)); (obtain ⟨-, fa, fc, rfl⟩ := hf1.slice); (obtain ⟨-, la, lc, rfl⟩ := hl1.slice); clear hf1 hl1 hx)); (first | (refine hK2 _ _ ?_ ?_ <;> clear hK2 K2) | (refine hK2 _ _ ?_; clear hK2 K2))))
  exact ⟨⟨_, rfl, HF.out.ext (Ext.push _)⟩, HX2.out.push' _⟩
end Go.Proofs.Try
namespace Go.Proofs.Try
open Go Go.Am Go.RowKit Go.Co

/-! The ends of a course: pure. -/
def Course.op (x : Course) (i : Nat) (d : Int) : Bool := ins (x.at_ i) d
theorem Course.op_in {x : Course} (h : x.ord) (i : Nat) (d : Int) (ho : x.op i d = true) : 0 ≤ d ∧ d ≤ 730 := ordS_ins _ (h i) d ho
def Course.fit (x : Course) (p : Nat) (g : List Int) : Prop := g.length = x.open_.length ∧ FitTo x.op p g g.length

theorem Course.early_fit {x : Course} {p : Nat} (h : x.ord) (hp : 1 ≤ p) (hm : x.made p = true) : x.fit p (x.early p 0) := by
  have h1 : (x.early p 0).length = x.open_.length := by simpa [Course.made] using hm
  exact ⟨h1, (early_ok (op := x.op) hp (fun i f => x.nx_ok h i f) x.open_.length (frm := 0)).2.1⟩
theorem Course.fit_in {x : Course} {p : Nat} {g : List Int} (h : x.ord) (hg : x.fit p g) : ∀ i, i < g.length → 0 ≤ g.getD i 0 ∧ g.getD i 0 ≤ 730 := fun i hi => x.op_in h i _ (hg.2 i hi).1
theorem Course.fit_early {x : Course} {p : Nat} {g : List Int} (h : x.ord) (hp : 1 ≤ p) (hg : x.fit p g) : x.made p = true ∧ ∀ i, i < g.length → (x.early p 0).getD i 0 ≤ g.getD i 0 := by
  have h1 := early_ok (op := x.op) hp (fun i f => x.nx_ok h i f) x.open_.length (frm := 0)
  obtain ⟨h2, -, -, h3⟩ := h1
  obtain ⟨h4, h5⟩ := h3 g g.length (by have := hg.1; omega) hg.2 (fun i hi => (x.fit_in h hg i hi).1)
  refine ⟨?_, h5⟩
  have h6 : (x.early p 0).length = x.open_.length := by
    have h7 : g.length ≤ (x.early p 0).length := h4
    have h8 : (x.early p 0).length ≤ x.open_.length := h2
    have := hg.1
    omega
  simp [Course.made, h6]

theorem Course.mir_len (x : Course) : x.mir.open_.length = x.open_.length := by simp [Course.mir]
theorem Course.mir_at {x : Course} {i : Nat} (hi : i < x.open_.length) : x.mir.at_ i = flipS (x.at_ (x.open_.length - 1 - i)) := by
  simp [Course.mir, Course.at_, hi, List.getElem_reverse, show x.open_.length - 1 - i < x.open_.length by omega]
theorem Course.mir_op {x : Course} {i : Nat} (hi : i < x.open_.length) (d : Int) : x.mir.op i d = x.op (x.open_.length - 1 - i) (730 - d) := by
  rw [Course.op, x.mir_at hi, flipS_ins]; rfl
theorem Course.mir_fit {x : Course} {p : Nat} {g : List Int} (h : x.ord) (hp : 1 ≤ p) (hg : x.fit p g) : x.mir.fit p (flipD g) := by
  refine ⟨by rw [flipD_len, x.mir_len]; exact hg.1, ?_⟩
  rw [flipD_len]
  refine fit_flip hp (x.op_in h) (fun i d hi => ?_) hg.2
  rw [x.mir_op (by have := hg.1; omega), ← hg.1]
theorem Course.fit_mir {x : Course} {p : Nat} {g : List Int} (h : x.ord) (hp : 1 ≤ p) (hg : x.mir.fit p g) : x.fit p (flipD g) := by
  have hl : g.length = x.open_.length := by rw [← x.mir_len]; exact hg.1
  refine ⟨by rw [flipD_len]; exact hl, ?_⟩
  rw [flipD_len]
  refine fit_flip hp (x.mir.op_in (Course.mir_ord h)) (fun i d hi => ?_) hg.2
  rw [x.mir_op (by omega), hl, show x.open_.length - 1 - (x.open_.length - 1 - i) = i by omega, show (730 : Int) - (730 - d) = d by omega]
theorem Course.mir_made {x : Course} {p : Nat} (h : x.ord) (hp : 1 ≤ p) : x.mir.made p = x.made p := by
  rw [Bool.eq_iff_iff]
  constructor
  · intro hm
    exact (x.fit_early h hp (x.fit_mir h hp (x.mir.early_fit (Course.mir_ord h) hp hm))).1
  · intro hm
    exact (x.mir.fit_early (Course.mir_ord h) hp (x.mir_fit h hp (x.early_fit h hp hm))).1
theorem Course.late_fit {x : Course} {p : Nat} (h : x.ord) (hp : 1 ≤ p) (hm : x.made p = true) : x.fit p (x.late p) :=
  x.fit_mir h hp (x.mir.early_fit (Course.mir_ord h) hp (by rw [x.mir_made h hp]; exact hm))
theorem flip_le {a b : List Int} (hl : a.length = b.length) (h : ∀ i, i < b.length → a.getD i 0 ≤ (flipD b).getD i 0) : ∀ i, i < b.length → b.getD i 0 ≤ (flipD a).getD i 0 := by
  intro i hi
  have h1 := h (b.length - 1 - i) (by omega)
  rw [flipD_get (by omega)] at h1
  rw [flipD_get (by omega), hl]
  rw [show b.length - 1 - (b.length - 1 - i) = i by omega] at h1
  omega
theorem Course.fit_late {x : Course} {p : Nat} {g : List Int} (h : x.ord) (hp : 1 ≤ p) (hg : x.fit p g) : ∀ i, i < g.length → g.getD i 0 ≤ (x.late p).getD i 0 := by
  have h1 := x.mir.fit_early (Course.mir_ord h) hp (x.mir_fit h hp hg)
  have h2 : (x.mir.early p 0).length = g.length := by
    have := h1.1
    simp only [Course.made, decide_eq_true_eq] at this
    rw [this, x.mir_len, hg.1]
  refine flip_le h2 (fun i hi => h1.2 i (by rw [flipD_len]; exact hi))

/-! Floors and ceilings. -/
theorem clampL_get (xs : List Int) {i : Nat} (hi : i < xs.length) : (clampL xs).getD i 0 = clampI (xs.getD i 0) := by
  simp [clampL, List.getD_eq_getElem?_getD, hi]
def Course.holds (x : Course) (p : Nat) (fl : List Int) : Bool := holdGo x p (clampL fl) fl.length 0
theorem Course.holds_le {x : Course} {p : Nat} {fl g : List Int} (h : x.ord) (hp : 1 ≤ p) (hf : x.holds p fl = true) (hl : fl.length ≤ g.length) (hg : x.fit p g) : ∀ i, i < fl.length → fl.getD i 0 ≤ g.getD i 0 := by
  intro i hi
  have h1 := floors_ok (op := x.op) hp (fun i f => x.nx_ok h i f) (clampL fl) g fl.length (fun j hj => (holdGo_iff _ _).1 hf j (Nat.zero_le _) (by omega)) (fun j hj => hg.2 j (by omega)) i hi
  rw [clampL_get fl hi] at h1
  have := x.fit_in h hg i (by omega)
  simp only [clampI] at h1
  omega
theorem clampL_id {g : List Int} (h : ∀ i, i < g.length → -1 ≤ g.getD i 0 ∧ g.getD i 0 ≤ 731) : clampL g = g := by
  refine List.ext_getElem (by rw [clampL_length]) fun i h1 h2 => ?_
  have := h i h2
  have h3 := clampL_get g h2
  rw [List.getD_eq_getElem?_getD, List.getElem?_eq_getElem h1, List.getD_eq_getElem?_getD, List.getElem?_eq_getElem h2] at h3
  rw [List.getD_eq_getElem?_getD, List.getElem?_eq_getElem h2] at this
  simp only [Option.getD_some] at h3 this
  rw [h3]; simp only [clampI]; omega
theorem Course.early_to {x : Course} {p : Nat} (h : x.ord) (hp : 1 ≤ p) : FitTo x.op p (x.early p 0) (x.early p 0).length ∧ (x.early p 0).length ≤ x.open_.length :=
  ⟨(early_ok (op := x.op) hp (fun i f => x.nx_ok h i f) x.open_.length (frm := 0)).2.1, (early_ok (op := x.op) hp (fun i f => x.nx_ok h i f) x.open_.length (frm := 0)).1⟩
theorem Course.early_in0 {x : Course} {p : Nat} (h : x.ord) (hp : 1 ≤ p) : ∀ i, i < (x.early p 0).length → 0 ≤ (x.early p 0).getD i 0 ∧ (x.early p 0).getD i 0 ≤ 730 := fun i hi => x.op_in h i _ ((x.early_to h hp).1 i hi).1
theorem Course.early_nx {x : Course} {p : Nat} (h : x.ord) (hp : 1 ≤ p) {j : Nat} (hj : j < (x.early p 0).length) : (x.early p 0).getD j 0 ≤ x.nx j (lowL p (x.early p 0) j) := by
  obtain ⟨hft, hl⟩ := x.early_to h hp
  have hin := x.early_in0 (p := p) h hp
  have hE := early_ok (op := x.op) hp (fun i f => x.nx_ok h i f) x.open_.length (frm := 0)
  generalize hd : x.nx j (lowL p (x.early p 0) j) = d
  rcases x.nx_ok h j (lowL p (x.early p 0) j) with ⟨h1, _⟩ | ⟨h1, h2, h3, h4⟩
  · have := (hin j hj).2; omega
  · rw [hd] at h1 h2 h3
    have htl : ((x.early p 0).take j).length = j := by simp; omega
    have e0 : ((x.early p 0).take j ++ [d]).getD j 0 = d := by
      have := @getD_snoc ((x.early p 0).take j) d
      rw [htl] at this; exact this
    have hfit : FitTo x.op p ((x.early p 0).take j ++ [d]) (j + 1) := by
      intro i hi
      have hlow : lowL p ((x.early p 0).take j ++ [d]) i = lowL p (x.early p 0) i := lowL_same hp fun k hk => by
        rw [getD_app (by omega)]
        simp [List.getD_eq_getElem?_getD, show k < j by omega]
      rw [hlow]
      by_cases hij : i = j
      · subst hij
        rw [e0]; exact ⟨h3, h2⟩
      · have e : ((x.early p 0).take j ++ [d]).getD i 0 = (x.early p 0).getD i 0 := by
          rw [getD_app (by omega)]
          simp [List.getD_eq_getElem?_getD, show i < j by omega]
        rw [e]; exact hft i (by omega)
    have := (hE.2.2.2 ((x.early p 0).take j ++ [d]) (j + 1) (by omega) hfit (fun i hi => (x.op_in h i _ (hfit i hi).1).1)).2 j (by omega)
    rw [e0] at this
    exact this
theorem Course.early_holds {x : Course} {p : Nat} (h : x.ord) (hp : 1 ≤ p) : x.holds p (x.early p 0) = true := by
  have hin := x.early_in0 (p := p) h hp
  rw [Course.holds, clampL_id (fun i hi => by have := hin i hi; omega), holdGo_iff]
  exact fun j _ hj => x.early_nx h hp (by omega)
theorem early_stop {nx : Nat → Int → Int} {p : Nat} {frm : Int} : ∀ (k : Nat) (days : List Int), (Co.early nx p frm k days).length < days.length + k → nx (Co.early nx p frm k days).length (max frm (lowL p (Co.early nx p frm k days) (Co.early nx p frm k days).length)) = 731
  | 0, days, h => by simp [Co.early] at h
  | k + 1, days, h => by
    rw [Co.early] at h ⊢
    split
    · assumption
    · rename_i h1
      rw [if_neg h1] at h
      exact early_stop k _ (by simp; omega)
/-- What shows that nothing fits. -/
theorem Course.clash_holds {x : Course} {p : Nat} {fin : Int} (h : x.ord) (hp : 1 ≤ p) (hm : x.made p = false) (hf : 0 ≤ fin ∧ fin ≤ 730) : x.holds p (x.early p 0 ++ [fin + 1]) = true ∧ (x.early p 0 ++ [fin + 1]).length ≤ x.open_.length := by
  obtain ⟨hft, hl⟩ := x.early_to h hp
  have hin := x.early_in0 (p := p) h hp
  have hlt : (x.early p 0).length < x.open_.length := by
    have : (x.early p 0).length ≠ x.open_.length := by simpa [Course.made] using hm
    omega
  refine ⟨?_, by simp; omega⟩
  have hlen : (x.early p 0 ++ [fin + 1]).length = (x.early p 0).length + 1 := by simp
  rw [Course.holds, clampL_id, holdGo_iff]
  · intro j _ hj
    rw [lowL_app hp (by omega)]
    rcases Nat.lt_or_ge j (x.early p 0).length with h1 | h1
    · rw [getD_app h1]; exact x.early_nx h hp h1
    · have : j = (x.early p 0).length := by omega
      subst this
      rw [getD_snoc]
      have hs := early_stop (nx := x.nx) (p := p) (frm := 0) x.open_.length [] (by rw [List.length_nil, Nat.zero_add]; exact hlt)
      have h0 : 0 ≤ lowL p (x.early p 0) (x.early p 0).length := by
        unfold lowL
        split
        · split
          · have := hin ((x.early p 0).length - 1) (by omega); omega
          · have := hin ((x.early p 0).length - p)
            by_cases h9 : (x.early p 0).length = 0
            · omega
            · omega
        · split
          · exact (hin ((x.early p 0).length - 1) (by omega)).1
          · exact Int.le_refl 0
      change x.nx (x.early p 0).length (max 0 (lowL p (x.early p 0) (x.early p 0).length)) = 731 at hs
      rw [show max 0 (lowL p (x.early p 0) (x.early p 0).length) = lowL p (x.early p 0) (x.early p 0).length by omega] at hs
      omega
  · intro i hi
    rcases Nat.lt_or_ge i (x.early p 0).length with h1 | h1
    · rw [getD_app h1]; have := hin i h1; omega
    · have : i = (x.early p 0).length := by omega
      subst this
      rw [getD_snoc]; omega
/-- Floors that are held, the last one behind the end: nothing fits. -/
theorem Course.not_made {x : Course} {p : Nat} {fin : Int} {fl : List Int} (h : x.ord) (hp : 1 ≤ p) (hf : x.holds p fl = true) (hl : fl.length ≤ x.open_.length) (h1 : 1 ≤ fl.length) (hop : ∀ i d, i < x.open_.length → x.op i d = true → d ≤ fin) (hg : fin < fl.getD (fl.length - 1) 0) : x.made p = false := by
  rw [Bool.eq_false_iff]
  intro hm
  have hfit := x.early_fit h hp hm
  have h2 := x.holds_le h hp hf (by rw [hfit.1]; exact hl) hfit (fl.length - 1) (by omega)
  have h3 := hop _ _ (by omega) (hfit.2 (fl.length - 1) (by rw [hfit.1]; omega)).1
  omega
def Course.ceils (x : Course) (p : Nat) (ce : List Int) : Bool := x.mir.holds p (flipD (clampL ce))
theorem Course.ceils_le {x : Course} {p : Nat} {ce g : List Int} (h : x.ord) (hp : 1 ≤ p) (hf : x.ceils p ce = true) (hl : ce.length = g.length) (hg : x.fit p g) : ∀ i, i < g.length → g.getD i 0 ≤ ce.getD i 0 := by
  intro i hi
  have hcl : (flipD (clampL ce)).length = g.length := by rw [flipD_len, clampL_length]; exact hl
  have h1 := x.mir.holds_le (Course.mir_ord h) hp hf (by rw [hcl, flipD_len]; omega) (x.mir_fit h hp hg)
  have h2 := flip_le (a := flipD (clampL ce)) hcl (fun j hj => h1 j (by omega)) i hi
  rw [flipD_flip, clampL_get ce (by omega)] at h2
  have := x.fit_in h hg i hi
  simp only [clampI] at h2
  omega
theorem Course.late_ceils {x : Course} {p : Nat} (h : x.ord) (hp : 1 ≤ p) (hm : x.made p = true) : x.ceils p (x.late p) = true := by
  have hf := x.late_fit h hp hm
  have h1 := clampL_id (fun i hi => by have := x.fit_in h hf i hi; omega)
  rw [Course.ceils, h1, Course.late, flipD_flip]
  exact x.mir.early_holds (Course.mir_ord h) hp
end Go.Proofs.Try
namespace Go.Proofs.Try
open Go Go.Am Go.RowKit Go.Co
set_option maxRecDepth 100000

/-! CheckFloors and CheckCeilings. -/
def errFloors (s : Sheet) (c : Copy) (fl : List Int) : Int := if errCopy s c ≠ 0 then errCopy s c else if win 1 c.words.length fl.length then (if (courseOf s c).holds c.per.toNat fl then 0 else 8) else 1
def errCeils (s : Sheet) (c : Copy) (fl : List Int) : Int := if errCopy s c ≠ 0 then errCopy s c else if fl.length = c.words.length then (if (courseOf s c).ceils c.per.toNat fl then 0 else 8) else 1

theorem checkFloors_s {loops : List (Nat × LInfo)} {H : AHeap} {sv cv dv : Value} {s : Sheet} {c : Copy} {fl : List Int} (hs : SheetV H sv s) (hc : CopyV H cv c) (hd : Ints H dv fl) : CallS Try.prog loops 49 [sv, cv, dv] H fun r H' => r = .int .i64 (errFloors s c fl) ∧ H' = H := by
  refine CallS.forget (R := fun v => v = .int .i64 (errFloors s c fl)) (by rintro v rfl; rfl) ?_
  have HS := Lib.hid hs
  have HC := Lib.hid hc
  have HD := Lib.hid hd
  obtain ⟨wv, av, rfl, hw, ha⟩ := hs
  obtain ⟨hwl, wa, wc, rfl⟩ := hw.slice
  obtain ⟨hal, aa, ac, rfl⟩ := ha.slice
  obtain ⟨cv, rfl, hcw⟩ := hc
  obtain ⟨hcl, ca, cc, rfl⟩ := hcw.slice
  obtain ⟨hdl, da, dc, rfl⟩ := hd.slice
  clear hw ha hcw hd
  generalize hee : errFloors s c fl = er
  have HE : Hid (errFloors s c fl = er) := Lib.hid hee
  clear hee
  refine CallS.enter' Try.func49 rfl Try.ntmps49 (by simp) fun f hd hf => ?_
  have f0 := hf 0
  have f1 := hf 1
  have f2 := hf 2
  simp at f0 f1 f2
  clear hf
  have HX1 : Hid (Ext H ((H.push (.row [Value.slice wa s.words.length wc, Value.slice aa s.alts.length ac] 25)).push (.row [Value.slice ca c.words.length cc, .int .i64 c.beg, .int .i64 c.fin, .int .i64 c.per] 27))) := Lib.hid (((Ext.refl _).push' _).push' _)
  by_cases hok : errCopy s c = 0
  · obtain ⟨he0, hlen, hwo, -, -, -, hp1, -⟩ := errCopy_ok hok
    have hwn : s.words.length ≤ 40 := by have := (win_iff.1 (err_ok he0).2.1).2; omega
    have hor := courseOf_ord hok
    have hper : (courseOf s c).per = c.per.toNat := by simp [courseOf]; omega
    have hpp : 1 ≤ c.per.toNat := by omega
    have hcn : (courseOf s c).open_.length = c.words.length := courseOf_len s c
    have HCE := Lib.hid (fun (loops : List (Nat × LInfo)) (H' : AHeap) (hx : Ext H H') => courseOf_e (loops := loops) (HS.out.ext hx) (HC.out.ext hx) hok)
    have HEE : Hid (errFloors s c fl = if win 1 c.words.length fl.length then (if (courseOf s c).holds c.per.toNat fl then 0 else 8) else 1) := Lib.hid (by rw [errFloors, if_neg (by simp [hok])])
    have HOK := Lib.hid hok
    have hwn2 : c.words.length ≤ 40 := by omega
    generalize courseOf s c = x at hor hper HCE HEE hcn
    generalize c.per.toNat = p at hper hpp HEE
    have HOR := Lib.hid hor
    have HPE := Lib.hid hper
    have HCN := Lib.hid hcn
    clear he0 hlen hwo hwn hor hper hok hcn
    repeat' (first | (with_reducible first | refine CodeS.seq ?_ | refine CodeS.region_k fun K hK => ?_ | refine opsP_go fun K2 hK2 => ?_ | refine Post.then_normal ?_ | refine Post.then_ret ?_ | refine Post.then_exit ?_ | refine Post.block_normal ?_ | refine Post.block_ret ?_ | refine Post.block_here ?_ | refine Post.scope_normal ?_ | refine Post.scope_ret ?_ | refine Post.scope_exit ?_ | refine Post.round_ret ?_ | refine Post.round_exit ?_ | refine CodeS.block ?_ | refine CodeS.skip ?_ | refine CodeS.ret ?_ | refine CodeS.exit ?_ | refine CodeS.scope ?_ | refine CodeS.label ?_) | ((with_reducible refine opsP_nil (hK _ _ ?_)); clear hK K) | ((with_reducible refine opsP_gd ?hj ?hlt fun K1 K3 d hdst h1 h3 => ?_); (case hj => rfl); (case hlt => exact Nat.le_of_ble_eq_true rfl); cases hdst; go_simp) | ((with_reducible refine CodeS.cond_k fun K1 K3 h1 h3 => ?_); go_simp) | (refine h1 ?_; clear h1 h3 K1 K3) | (refine h3 ?_; clear h1 h3 K1 K3) | ((refine Either.mk (fun hb => h1 ?_) (fun hb => h3 ?_)) <;> (clear h1 h3 K1 K3; (try have hb2 := of_decide hb); (try have hb2 := of_not_decide_lt hb); (try have hb2 := of_not_decide_le hb); (try have hb2 := of_not_decide_ltN hb); (try have hb2 := of_not_decide_leN hb))) | ((refine Either.mk (fun hb => h3 ?_) (fun hb => h1 ?_)) <;> (clear h1 h3 K1 K3; (try have hb2 := of_decide hb); (try have hb2 := of_not_decide_lt hb); (try have hb2 := of_not_decide_le hb); (try have hb2 := of_not_decide_ltN hb); (try have hb2 := of_not_decide_leN hb))) | (refine fun (K2 : _ → AHeap → Prop) hK2 => ?_) | ((with_reducible refine Post.block_off ?hn ?_); (case hn => decide)) | ((with_reducible first | refine Post.body_k ?hd (fun K hK => ?_) | refine Post.body_kn ?hd (fun K hK => ?_)); (case hd => (go_simp; done)); go_simp; refine hK _ _ ?_; clear hK K) | ((with_reducible refine CodeS.tree_lit mixed rfl ?hok 20 fun K0 hK0 => ?_); (case hok => kernel_rfl)) | (with_reducible first | exact loudsP_nil | exact stableP_nil | refine treeP_lit ?_ | refine passP_nil ?_ | refine stableP_keep ?_) | ((with_reducible first | refine passP_skip ?h1 ?_ | refine loudsP_skip ?h1 ?_ | refine stepT_more ?h1 ?_); (case h1 => rfl)) | ((with_reducible refine stepT_done ?h1 ?_); (case h1 => rfl); refine hK0 _ _ ?_; clear hK0 K0) | ((with_reducible refine passP_loud ?h1 ?hg ?hl ?_); (case h1 => rfl); (case hg => rfl); (case hl => rfl)) | ((with_reducible refine passP_q ?h1 ?hl ?hlt fun K2 hK2 => ?_); (case h1 => rfl); (case hl => rfl); (case hlt => exact Nat.le_of_ble_eq_true rfl)) | ((with_reducible refine passP_g ?h1 ?hj ?hl ?hlt fun K1 K3 d hdst h1 h3 => ?_); (case h1 => rfl); (case hj => rfl); (case hl => rfl); (case hlt => exact Nat.le_of_ble_eq_true rfl); cases hdst; go_simp) | ((with_reducible refine passP_lg ?h1 ?hj ?hl ?hlt fun K1 K3 d hdst h1 h3 => ?_); (case h1 => rfl); (case hj => rfl); (case hl => rfl); (case hlt => exact Nat.le_of_ble_eq_true rfl); cases hdst; go_simp) | ((with_reducible refine loudsP_c ?h1 ?hlt (fun K2 hK2 => ?_) ?_); (case h1 => rfl); (case hlt => exact Nat.le_of_ble_eq_true rfl)) | ((with_reducible refine loudsP_cg ?h1 ?hlt ?hj ?hw (fun K2 hK2 => ?_) ?_); (case h1 => rfl); (case hlt => exact Nat.le_of_ble_eq_true rfl); (case hj => rfl); (case hw => (go_simp; done))) | ((with_reducible refine loudsP_v ?h1 ?hv ?hlt (fun K2 hK2 => ?_) ?_); (case h1 => rfl); (case hv => rfl); (case hlt => exact Nat.le_of_ble_eq_true rfl)) | ((with_reducible refine loudsP_u ?h1 ?hv (fun K2 hK2 => ?_) ?_); (case h1 => rfl); (case hv => rfl)) | ((with_reducible refine stableP_pre ?h1 ?_); (case h1 => (first | rfl | (dsimp only; decide +kernel)))) | ((with_reducible refine stableP_re ?h1 ?_); (case h1 => (go_simp; done))) | (go_simp; (try go_bits); (try first | ((with_reducible show CallS _ _ _ _ _ _); refine CallS.mono (checkCopy_s (s := s) (c := c) (HS.out.ext HX1.out) (HC.out.ext HX1.out)) ?_; rintro _ _ ⟨rfl, h9⟩; rw [h9, HOK.out]; clear h9) | ((with_reducible show CallS _ _ _ _ _ _); refine CallS.mono within_s ?_; rintro _ _ ⟨rfl, h9⟩; rw [h9]; clear h9) | ((with_reducible show CallS _ _ _ _ _ _); refine CallS.mono (HCE.out _ _ HX1.out) ?_; rintro xv H1 ⟨hcv, hx⟩; (have HCV := Lib.hid hcv); (have HX2 := Lib.hid (HX1.out.trans hx)); (obtain ⟨ov, rfl, hov⟩ := hcv); (obtain ⟨hol, oa, oc, rfl⟩ := hov.slice); clear hov hx) | ((with_reducible show CallS _ _ _ _ _ _); refine CallS.mono (hold_s (x := x) (p := p) (xs := fl) HCV.out (HD.out.ext HX2.out) (by rw [HCN.out]; have := (win_iff.1 (by simpa using ‹(!win 1 c.words.length fl.length) = false›)).2; omega) HPE.out hpp (by have := (win_iff.1 (by simpa using ‹(!win 1 c.words.length fl.length) = false›)).2; omega)) ?_; rintro _ _ ⟨rfl, h9⟩; rw [h9]; clear h9)); (first | (refine hK2 _ _ ?_ ?_ <;> clear hK2 K2) | (refine hK2 _ _ ?_; clear hK2 K2))))
    · refine ⟨?_, HX1.out⟩
      have h1 : win 1 c.words.length fl.length = false := by simpa using hb
      rw [← HE.out, HEE.out, if_neg (by rw [h1]; simp)]
    · refine ⟨?_, HX2.out⟩
      have h1 : win 1 c.words.length fl.length = true := by simpa using ‹(!win 1 c.words.length fl.length) = false›
      have h2 : x.holds p fl = false := by rw [Course.holds]; simpa using hb
      rw [← HE.out, HEE.out, if_pos h1, if_neg (by rw [h2]; simp)]
    · refine ⟨?_, HX2.out⟩
      have h1 : win 1 c.words.length fl.length = true := by simpa using ‹(!win 1 c.words.length fl.length) = false›
      have h2 : x.holds p fl = true := by rw [Course.holds]; simpa using hb
      rw [← HE.out, HEE.out, if_pos h1, if_pos h2]
  · repeat' (first | (with_reducible first | refine CodeS.seq ?_ | refine CodeS.region_k fun K hK => ?_ | refine opsP_go fun K2 hK2 => ?_ | refine Post.then_normal ?_ | refine Post.then_ret ?_ | refine Post.then_exit ?_ | refine Post.block_normal ?_ | refine Post.block_ret ?_ | refine Post.block_here ?_ | refine Post.scope_normal ?_ | refine Post.scope_ret ?_ | refine Post.scope_exit ?_ | refine Post.round_ret ?_ | refine Post.round_exit ?_ | refine CodeS.block ?_ | refine CodeS.skip ?_ | refine CodeS.ret ?_ | refine CodeS.exit ?_ | refine CodeS.scope ?_ | refine CodeS.label ?_) | ((with_reducible refine opsP_nil (hK _ _ ?_)); clear hK K) | ((with_reducible refine opsP_gd ?hj ?hlt fun K1 K3 d hdst h1 h3 => ?_); (case hj => rfl); (case hlt => exact Nat.le_of_ble_eq_true rfl); cases hdst; go_simp) | ((with_reducible refine CodeS.cond_k fun K1 K3 h1 h3 => ?_); go_simp) | (refine h1 ?_; clear h1 h3 K1 K3) | (refine h3 ?_; clear h1 h3 K1 K3) | ((refine Either.mk (fun hb => h1 ?_) (fun hb => h3 ?_)) <;> (clear h1 h3 K1 K3; (try have hb2 := of_decide hb); (try have hb2 := of_not_decide_lt hb); (try have hb2 := of_not_decide_le hb); (try have hb2 := of_not_decide_ltN hb); (try have hb2 := of_not_decide_leN hb))) | ((refine Either.mk (fun hb => h3 ?_) (fun hb => h1 ?_)) <;> (clear h1 h3 K1 K3; (try have hb2 := of_decide hb); (try have hb2 := of_not_decide_lt hb); (try have hb2 := of_not_decide_le hb); (try have hb2 := of_not_decide_ltN hb); (try have hb2 := of_not_decide_leN hb))) | (refine fun (K2 : _ → AHeap → Prop) hK2 => ?_) | ((with_reducible refine Post.block_off ?hn ?_); (case hn => decide)) | ((with_reducible first | refine Post.body_k ?hd (fun K hK => ?_) | refine Post.body_kn ?hd (fun K hK => ?_)); (case hd => (go_simp; done)); go_simp; refine hK _ _ ?_; clear hK K) | ((with_reducible refine CodeS.tree_lit mixed rfl ?hok 20 fun K0 hK0 => ?_); (case hok => kernel_rfl)) | (with_reducible first | exact loudsP_nil | exact stableP_nil | refine treeP_lit ?_ | refine passP_nil ?_ | refine stableP_keep ?_) | ((with_reducible first | refine passP_skip ?h1 ?_ | refine loudsP_skip ?h1 ?_ | refine stepT_more ?h1 ?_); (case h1 => rfl)) | ((with_reducible refine stepT_done ?h1 ?_); (case h1 => rfl); refine hK0 _ _ ?_; clear hK0 K0) | ((with_reducible refine passP_loud ?h1 ?hg ?hl ?_); (case h1 => rfl); (case hg => rfl); (case hl => rfl)) | ((with_reducible refine passP_q ?h1 ?hl ?hlt fun K2 hK2 => ?_); (case h1 => rfl); (case hl => rfl); (case hlt => exact Nat.le_of_ble_eq_true rfl)) | ((with_reducible refine passP_g ?h1 ?hj ?hl ?hlt fun K1 K3 d hdst h1 h3 => ?_); (case h1 => rfl); (case hj => rfl); (case hl => rfl); (case hlt => exact Nat.le_of_ble_eq_true rfl); cases hdst; go_simp) | ((with_reducible refine passP_lg ?h1 ?hj ?hl ?hlt fun K1 K3 d hdst h1 h3 => ?_); (case h1 => rfl); (case hj => rfl); (case hl => rfl); (case hlt => exact Nat.le_of_ble_eq_true rfl); cases hdst; go_simp) | ((with_reducible refine loudsP_c ?h1 ?hlt (fun K2 hK2 => ?_) ?_); (case h1 => rfl); (case hlt => exact Nat.le_of_ble_eq_true rfl)) | ((with_reducible refine loudsP_cg ?h1 ?hlt ?hj ?hw (fun K2 hK2 => ?_) ?_); (case h1 => rfl); (case hlt => exact Nat.le_of_ble_eq_true rfl); (case hj => rfl); (case hw => (go_simp; done))) | ((with_reducible refine loudsP_v ?h1 ?hv ?hlt (fun K2 hK2 => ?_) ?_); (case h1 => rfl); (case hv => rfl); (case hlt => exact Nat.le_of_ble_eq_true rfl)) | ((with_reducible refine loudsP_u ?h1 ?hv (fun K2 hK2 => ?_) ?_); (case h1 => rfl); (case hv => rfl)) | ((with_reducible refine stableP_pre ?h1 ?_); (case h1 => (first | rfl | (dsimp only; decide +kernel)))) | ((with_reducible refine stableP_re ?h1 ?_); (case h1 => (go_simp; done))) | (go_simp; (try go_bits); (try first | ((with_reducible show CallS _ _ _ _ _ _); refine CallS.mono (checkCopy_s (s := s) (c := c) (HS.out.ext HX1.out) (HC.out.ext HX1.out)) ?_; rintro _ _ ⟨rfl, h9⟩; rw [h9]; clear h9)); (first | (refine hK2 _ _ ?_ ?_ <;> clear hK2 K2) | (refine hK2 _ _ ?_; clear hK2 K2))))
    all_goals try (exact absurd (show errCopy s c = 0 by simpa using ‹(errCopy s c != 0) = false›) hok)
    refine ⟨?_, HX1.out⟩
    rw [← HE.out, errFloors, if_pos hok]
theorem checkCeils_s {loops : List (Nat × LInfo)} {H : AHeap} {sv cv dv : Value} {s : Sheet} {c : Copy} {fl : List Int} (hs : SheetV H sv s) (hc : CopyV H cv c) (hd : Ints H dv fl) : CallS Try.prog loops 51 [sv, cv, dv] H fun r H' => r = .int .i64 (errCeils s c fl) ∧ H' = H := by
  refine CallS.forget (R := fun v => v = .int .i64 (errCeils s c fl)) (by rintro v rfl; rfl) ?_
  have HS := Lib.hid hs
  have HC := Lib.hid hc
  have HD := Lib.hid hd
  obtain ⟨wv, av, rfl, hw, ha⟩ := hs
  obtain ⟨hwl, wa, wc, rfl⟩ := hw.slice
  obtain ⟨hal, aa, ac, rfl⟩ := ha.slice
  obtain ⟨cv, rfl, hcw⟩ := hc
  obtain ⟨hcl, ca, cc, rfl⟩ := hcw.slice
  obtain ⟨hdl, da, dc, rfl⟩ := hd.slice
  clear hw ha hcw hd
  generalize hee : errCeils s c fl = er
  have HE : Hid (errCeils s c fl = er) := Lib.hid hee
  clear hee
  refine CallS.enter' Try.func51 rfl Try.ntmps51 (by simp) fun f hd hf => ?_
  have f0 := hf 0
  have f1 := hf 1
  have f2 := hf 2
  simp at f0 f1 f2
  clear hf
  have HX1 : Hid (Ext H ((H.push (.row [Value.slice wa s.words.length wc, Value.slice aa s.alts.length ac] 25)).push (.row [Value.slice ca c.words.length cc, .int .i64 c.beg, .int .i64 c.fin, .int .i64 c.per] 27))) := Lib.hid (((Ext.refl _).push' _).push' _)
  by_cases hok : errCopy s c = 0
  · obtain ⟨he0, hlen, hwo, -, -, -, hp1, -⟩ := errCopy_ok hok
    have hwn : s.words.length ≤ 40 := by have := (win_iff.1 (err_ok he0).2.1).2; omega
    have hor := courseOf_ord hok
    have hper : (courseOf s c).per = c.per.toNat := by simp [courseOf]; omega
    have hpp : 1 ≤ c.per.toNat := by omega
    have hcn : (courseOf s c).open_.length = c.words.length := courseOf_len s c
    have HCE := Lib.hid (fun (loops : List (Nat × LInfo)) (H' : AHeap) (hx : Ext H H') => courseOf_e (loops := loops) (HS.out.ext hx) (HC.out.ext hx) hok)
    have HEE : Hid (errCeils s c fl = if fl.length = c.words.length then (if (courseOf s c).ceils c.per.toNat fl then 0 else 8) else 1) := Lib.hid (by rw [errCeils, if_neg (by simp [hok])])
    have HOK := Lib.hid hok
    have hwn2 : c.words.length ≤ 40 := by omega
    generalize courseOf s c = x at hor hper HCE HEE hcn
    generalize c.per.toNat = p at hper hpp HEE
    have HOR := Lib.hid hor
    have HPE := Lib.hid hper
    have HCN := Lib.hid hcn
    clear he0 hlen hwo hwn hor hper hok hcn
    repeat' (first | (with_reducible first | refine CodeS.seq ?_ | refine CodeS.region_k fun K hK => ?_ | refine opsP_go fun K2 hK2 => ?_ | refine Post.then_normal ?_ | refine Post.then_ret ?_ | refine Post.then_exit ?_ | refine Post.block_normal ?_ | refine Post.block_ret ?_ | refine Post.block_here ?_ | refine Post.scope_normal ?_ | refine Post.scope_ret ?_ | refine Post.scope_exit ?_ | refine Post.round_ret ?_ | refine Post.round_exit ?_ | refine CodeS.block ?_ | refine CodeS.skip ?_ | refine CodeS.ret ?_ | refine CodeS.exit ?_ | refine CodeS.scope ?_ | refine CodeS.label ?_) | ((with_reducible refine opsP_nil (hK _ _ ?_)); clear hK K) | ((with_reducible refine opsP_gd ?hj ?hlt fun K1 K3 d hdst h1 h3 => ?_); (case hj => rfl); (case hlt => exact Nat.le_of_ble_eq_true rfl); cases hdst; go_simp) | ((with_reducible refine CodeS.cond_k fun K1 K3 h1 h3 => ?_); go_simp) | (refine h1 ?_; clear h1 h3 K1 K3) | (refine h3 ?_; clear h1 h3 K1 K3) | ((refine Either.mk (fun hb => h1 ?_) (fun hb => h3 ?_)) <;> (clear h1 h3 K1 K3; (try have hb2 := of_decide hb); (try have hb2 := of_not_decide_lt hb); (try have hb2 := of_not_decide_le hb); (try have hb2 := of_not_decide_ltN hb); (try have hb2 := of_not_decide_leN hb))) | ((refine Either.mk (fun hb => h3 ?_) (fun hb => h1 ?_)) <;> (clear h1 h3 K1 K3; (try have hb2 := of_decide hb); (try have hb2 := of_not_decide_lt hb); (try have hb2 := of_not_decide_le hb); (try have hb2 := of_not_decide_ltN hb); (try have hb2 := of_not_decide_leN hb))) | (refine fun (K2 : _ → AHeap → Prop) hK2 => ?_) | ((with_reducible refine Post.block_off ?hn ?_); (case hn => decide)) | ((with_reducible first | refine Post.body_k ?hd (fun K hK => ?_) | refine Post.body_kn ?hd (fun K hK => ?_)); (case hd => (go_simp; done)); go_simp; refine hK _ _ ?_; clear hK K) | ((with_reducible refine CodeS.tree_lit mixed rfl ?hok 20 fun K0 hK0 => ?_); (case hok => kernel_rfl)) | (with_reducible first | exact loudsP_nil | exact stableP_nil | refine treeP_lit ?_ | refine passP_nil ?_ | refine stableP_keep ?_) | ((with_reducible first | refine passP_skip ?h1 ?_ | refine loudsP_skip ?h1 ?_ | refine stepT_more ?h1 ?_); (case h1 => rfl)) | ((with_reducible refine stepT_done ?h1 ?_); (case h1 => rfl); refine hK0 _ _ ?_; clear hK0 K0) | ((with_reducible refine passP_loud ?h1 ?hg ?hl ?_); (case h1 => rfl); (case hg => rfl); (case hl => rfl)) | ((with_reducible refine passP_q ?h1 ?hl ?hlt fun K2 hK2 => ?_); (case h1 => rfl); (case hl => rfl); (case hlt => exact Nat.le_of_ble_eq_true rfl)) | ((with_reducible refine passP_g ?h1 ?hj ?hl ?hlt fun K1 K3 d hdst h1 h3 => ?_); (case h1 => rfl); (case hj => rfl); (case hl => rfl); (case hlt => exact Nat.le_of_ble_eq_true rfl); cases hdst; go_simp) | ((with_reducible refine passP_lg ?h1 ?hj ?hl ?hlt fun K1 K3 d hdst h1 h3 => ?_); (case h1 => rfl); (case hj => rfl); (case hl => rfl); (case hlt => exact Nat.le_of_ble_eq_true rfl); cases hdst; go_simp) | ((with_reducible refine loudsP_c ?h1 ?hlt (fun K2 hK2 => ?_) ?_); (case h1 => rfl); (case hlt => exact Nat.le_of_ble_eq_true rfl)) | ((with_reducible refine loudsP_cg ?h1 ?hlt ?hj ?hw (fun K2 hK2 => ?_) ?_); (case h1 => rfl); (case hlt => exact Nat.le_of_ble_eq_true rfl); (case hj => rfl); (case hw => (go_simp; done))) | ((with_reducible refine loudsP_v ?h1 ?hv ?hlt (fun K2 hK2 => ?_) ?_); (case h1 => rfl); (case hv => rfl); (case hlt => exact Nat.le_of_ble_eq_true rfl)) | ((with_reducible refine loudsP_u ?h1 ?hv (fun K2 hK2 => ?_) ?_); (case h1 => rfl); (case hv => rfl)) | ((with_reducible refine stableP_pre ?h1 ?_); (case h1 => (first | rfl | (dsimp only; decide +kernel)))) | ((with_reducible refine stableP_re ?h1 ?_); (case h1 => (go_simp; done))) | (go_simp; (try go_bits); (try first | ((with_reducible show CallS _ _ _ _ _ _); refine CallS.mono (checkCopy_s (s := s) (c := c) (HS.out.ext HX1.out) (HC.out.ext HX1.out)) ?_; rintro _ _ ⟨rfl, h9⟩; rw [h9, HOK.out]; clear h9) | ((with_reducible show CallS _ _ _ _ _ _); refine CallS.mono (HCE.out _ _ HX1.out) ?_; rintro xv H1 ⟨hcv, hx⟩; (have HCV := Lib.hid hcv); (have HX2 := Lib.hid (HX1.out.trans hx)); (obtain ⟨ov, rfl, hov⟩ := hcv); (obtain ⟨hol, oa, oc, rfl⟩ := hov.slice); (have hfl : fl.length = c.words.length := by have h8 := ‹(((fl.length : Int)) != c.words.length) = false›; rw [nat_neb] at h8; simpa using h8); (have HFL := Lib.hid hfl); clear hov hx hfl) | ((with_reducible show CallS _ _ _ _ _ _); refine CallS.mono (mirrored_e (x := x) (p := p) HCV.out HPE.out (by rw [HCN.out]; omega) (fun i => by have := ordS_len _ (by omega) (HOR.out i); omega) (fun i y hy => ordS_in _ (Int.le_refl 0) (HOR.out i) y hy)) ?_; rintro mv H2 ⟨hm, hx⟩; (have HM := Lib.hid (show CourseV H2 mv x.mir from hm)); (have HX3 := Lib.hid (HX2.out.trans hx)); clear hm hx) | ((with_reducible show CallS _ _ _ _ _ _); refine CallS.mono (clamped_e (HD.out.ext HX3.out) (by rw [HFL.out]; omega)) ?_; rintro kv H3 ⟨ho, hx⟩; (have HCL := Lib.hid (ints_of_own ho (by rw [clampL_length, HFL.out]; omega))); (have HX4 := Lib.hid (HX3.out.trans hx)); (have HM4 := Lib.hid (HM.out.ext hx)); clear ho hx) | ((with_reducible show CallS _ _ _ _ _ _); refine CallS.mono (mirroredDays_e HCL.out clampL_in (by rw [clampL_length, HFL.out]; omega)) ?_; rintro gv H4 ⟨ho, hx⟩; (have HFD := Lib.hid (ints_of_own ho (by rw [flipD_len, clampL_length, HFL.out]; omega))); (have HX5 := Lib.hid (HX4.out.trans hx)); (have HM5 := Lib.hid (HM4.out.ext hx)); clear ho hx) | ((with_reducible show CallS _ _ _ _ _ _); refine CallS.mono (hold_s (x := x.mir) (p := p) (xs := flipD (clampL fl)) HM5.out HFD.out (by rw [x.mir_len, HCN.out, flipD_len, clampL_length, HFL.out]; exact Nat.le_refl _) HPE.out hpp (by rw [flipD_len, clampL_length, HFL.out]; omega)) ?_; rintro _ _ ⟨rfl, h9⟩; rw [h9]; clear h9)); (first | (refine hK2 _ _ ?_ ?_ <;> clear hK2 K2) | (refine hK2 _ _ ?_; clear hK2 K2))))
    · refine ⟨?_, HX1.out⟩
      have h1 : ¬ fl.length = c.words.length := by rw [nat_neb] at hb; simpa using hb
      rw [← HE.out, HEE.out, if_neg h1]
    · refine ⟨?_, HX5.out⟩
      have h2 : x.ceils p fl = false := by rw [Course.ceils, Course.holds]; simpa using hb
      rw [← HE.out, HEE.out, if_pos HFL.out, if_neg (by rw [h2]; simp)]
    · refine ⟨?_, HX5.out⟩
      have h2 : x.ceils p fl = true := by rw [Course.ceils, Course.holds]; simpa using hb
      rw [← HE.out, HEE.out, if_pos HFL.out, if_pos h2]
  · repeat' (first | (with_reducible first | refine CodeS.seq ?_ | refine CodeS.region_k fun K hK => ?_ | refine opsP_go fun K2 hK2 => ?_ | refine Post.then_normal ?_ | refine Post.then_ret ?_ | refine Post.then_exit ?_ | refine Post.block_normal ?_ | refine Post.block_ret ?_ | refine Post.block_here ?_ | refine Post.scope_normal ?_ | refine Post.scope_ret ?_ | refine Post.scope_exit ?_ | refine Post.round_ret ?_ | refine Post.round_exit ?_ | refine CodeS.block ?_ | refine CodeS.skip ?_ | refine CodeS.ret ?_ | refine CodeS.exit ?_ | refine CodeS.scope ?_ | refine CodeS.label ?_) | ((with_reducible refine opsP_nil (hK _ _ ?_)); clear hK K) | ((with_reducible refine opsP_gd ?hj ?hlt fun K1 K3 d hdst h1 h3 => ?_); (case hj => rfl); (case hlt => exact Nat.le_of_ble_eq_true rfl); cases hdst; go_simp) | ((with_reducible refine CodeS.cond_k fun K1 K3 h1 h3 => ?_); go_simp) | (refine h1 ?_; clear h1 h3 K1 K3) | (refine h3 ?_; clear h1 h3 K1 K3) | ((refine Either.mk (fun hb => h1 ?_) (fun hb => h3 ?_)) <;> (clear h1 h3 K1 K3; (try have hb2 := of_decide hb); (try have hb2 := of_not_decide_lt hb); (try have hb2 := of_not_decide_le hb); (try have hb2 := of_not_decide_ltN hb); (try have hb2 := of_not_decide_leN hb))) | ((refine Either.mk (fun hb => h3 ?_) (fun hb => h1 ?_)) <;> (clear h1 h3 K1 K3; (try have hb2 := of_decide hb); (try have hb2 := of_not_decide_lt hb); (try have hb2 := of_not_decide_le hb); (try have hb2 := of_not_decide_ltN hb); (try have hb2 := of_not_decide_leN hb))) | (refine fun (K2 : _ → AHeap → Prop) hK2 => ?_) | ((with_reducible refine Post.block_off ?hn ?_); (case hn => decide)) | ((with_reducible first | refine Post.body_k ?hd (fun K hK => ?_) | refine Post.body_kn ?hd (fun K hK => ?_)); (case hd => (go_simp; done)); go_simp; refine hK _ _ ?_; clear hK K) | ((with_reducible refine CodeS.tree_lit mixed rfl ?hok 20 fun K0 hK0 => ?_); (case hok => kernel_rfl)) | (with_reducible first | exact loudsP_nil | exact stableP_nil | refine treeP_lit ?_ | refine passP_nil ?_ | refine stableP_keep ?_) | ((with_reducible first | refine passP_skip ?h1 ?_ | refine loudsP_skip ?h1 ?_ | refine stepT_more ?h1 ?_); (case h1 => rfl)) | ((with_reducible refine stepT_done ?h1 ?_); (case h1 => rfl); refine hK0 _ _ ?_; clear hK0 K0) | ((with_reducible refine passP_loud ?h1 ?hg ?hl ?_); (case h1 => rfl); (case hg => rfl); (case hl => rfl)) | ((with_reducible refine passP_q ?h1 ?hl ?hlt fun K2 hK2 => ?_); (case h1 => rfl); (case hl => rfl); (case hlt => exact Nat.le_of_ble_eq_true rfl)) | ((with_reducible refine passP_g ?h1 ?hj ?hl ?hlt fun K1 K3 d hdst h1 h3 => ?_); (case h1 => rfl); (case hj => rfl); (case hl => rfl); (case hlt => exact Nat.le_of_ble_eq_true rfl); cases hdst; go_simp) | ((with_reducible refine passP_lg ?h1 ?hj ?hl ?hlt fun K1 K3 d hdst h1 h3 => ?_); (case h1 => rfl); (case hj => rfl); (case hl => rfl); (case hlt => exact Nat.le_of_ble_eq_true rfl); cases hdst; go_simp) | ((with_reducible refine loudsP_c ?h1 ?hlt (fun K2 hK2 => ?_) ?_); (case h1 => rfl); (case hlt => exact Nat.le_of_ble_eq_true rfl)) | ((with_reducible refine loudsP_cg ?h1 ?hlt ?hj ?hw (fun K2 hK2 => ?_) ?_); (case h1 => rfl); (case hlt => exact Nat.le_of_ble_eq_true rfl); (case hj => rfl); (case hw => (go_simp; done))) | ((with_reducible refine loudsP_v ?h1 ?hv ?hlt (fun K2 hK2 => ?_) ?_); (case h1 => rfl); (case hv => rfl); (case hlt => exact Nat.le_of_ble_eq_true rfl)) | ((with_reducible refine loudsP_u ?h1 ?hv (fun K2 hK2 => ?_) ?_); (case h1 => rfl); (case hv => rfl)) | ((with_reducible refine stableP_pre ?h1 ?_); (case h1 => (first | rfl | (dsimp only; decide +kernel)))) | ((with_reducible refine stableP_re ?h1 ?_); (case h1 => (go_simp; done))) | (go_simp; (try go_bits); (try first | ((with_reducible show CallS _ _ _ _ _ _); refine CallS.mono (checkCopy_s (s := s) (c := c) (HS.out.ext HX1.out) (HC.out.ext HX1.out)) ?_; rintro _ _ ⟨rfl, h9⟩; rw [h9]; clear h9)); (first | (refine hK2 _ _ ?_ ?_ <;> clear hK2 K2) | (refine hK2 _ _ ?_; clear hK2 K2))))
    all_goals try (exact absurd (show errCopy s c = 0 by simpa using ‹(errCopy s c != 0) = false›) hok)
    refine ⟨?_, HX1.out⟩
    rw [← HE.out, errCeils, if_pos hok]
end Go.Proofs.Try
namespace Go.Proofs.Try
open Go Go.Am Go.RowKit Go.Co

/-! A line's days; a narrower copy: pure. -/
theorem Course.early_late {x : Course} {p : Nat} (h : x.ord) (hp : 1 ≤ p) (hm : x.made p = true) : ∀ i, i < x.open_.length → (x.early p 0).getD i 0 ≤ (x.late p).getD i 0 := by
  have hf := x.early_fit h hp hm
  exact fun i hi => x.fit_late h hp hf i (by rw [hf.1]; exact hi)
/-- The earliest days ahead of a line, a day of it, the latest ones behind it. -/
def mixL (a b : List Int) (k : Nat) (d : Int) : List Int := (a.take k ++ [d]) ++ b.drop (k + 1)
theorem mixL_len {a b : List Int} {k : Nat} {d : Int} (hl : a.length = b.length) (hk : k < a.length) : (mixL a b k d).length = a.length := by
  simp [mixL]; omega
theorem mixL_get {a b : List Int} {k : Nat} {d : Int} (hl : a.length = b.length) (hk : k < a.length) (i : Nat) : (mixL a b k d).getD i 0 = if i < k then a.getD i 0 else if i = k then d else b.getD i 0 := by
  have htl : (a.take k ++ [d]).length = k + 1 := by simp; omega
  have htl0 : (a.take k).length = k := by simp; omega
  unfold mixL
  rcases Nat.lt_trichotomy i k with h | h | h
  · rw [if_pos h, getD_app (by omega), getD_app (by omega)]
    simp [List.getD_eq_getElem?_getD, h]
  · rw [if_neg (by omega), if_pos h, getD_app (by omega), h]
    have := @getD_snoc (a.take k) d
    rw [htl0] at this; exact this
  · rw [if_neg (by omega), if_neg (by omega), List.getD_eq_getElem?_getD, List.getElem?_append_right (by omega), htl, List.getElem?_drop, List.getD_eq_getElem?_getD, show k + 1 + (i - (k + 1)) = i by omega]
theorem Course.mix_fit {x : Course} {p k : Nat} {d : Int} {a b : List Int} (hp : 1 ≤ p) (ha : x.fit p a) (hb : x.fit p b) (hk : k < a.length) (hop : x.op k d = true) (h1 : a.getD k 0 ≤ d) (h2 : d ≤ b.getD k 0) (hab : ∀ i, i < a.length → a.getD i 0 ≤ b.getD i 0) : x.fit p (mixL a b k d) := by
  have hl : a.length = b.length := by rw [ha.1, hb.1]
  have hg := mixL_get (d := d) hl hk
  have hll := mixL_len (d := d) hl hk
  refine ⟨by rw [hll]; exact ha.1, fun i hi => ?_⟩
  rw [hll] at hi
  have hle : ∀ j, j < a.length → (mixL a b k d).getD j 0 ≤ b.getD j 0 := by
    intro j hj
    rw [hg j]
    split
    · exact hab j hj
    · split
      · rename_i h3; rw [h3]; exact h2
      · exact Int.le_refl _
  rw [hg i]
  rcases Nat.lt_trichotomy i k with h | h | h
  · rw [if_pos h]
    have e : lowL p (mixL a b k d) i = lowL p a i := lowL_same hp fun j hj => by rw [hg j, if_pos (by omega)]
    rw [e]; exact ha.2 i hi
  · subst h
    rw [if_neg (by omega), if_pos rfl]
    have e : lowL p (mixL a b i d) i = lowL p a i := lowL_same hp fun j hj => by rw [hg j, if_pos (by omega)]
    rw [e]
    have := (ha.2 i hi).2
    exact ⟨hop, by omega⟩
  · rw [if_neg (by omega), if_neg (by omega)]
    have hb2 := hb.2 i (by omega)
    exact ⟨hb2.1, Int.le_trans (lowL_mono hp fun j hj => hle j (by omega)) hb2.2⟩

/-- Days that fit do not fall. -/
theorem Course.fit_mono {x : Course} {p : Nat} {g : List Int} (h : x.ord) (hg : x.fit p g) : ∀ (n i : Nat), i + n < g.length → g.getD i 0 ≤ g.getD (i + n) 0
  | 0, i, _ => Int.le_refl _
  | n + 1, i, hn => by
    have h1 := x.fit_mono h hg n i (by omega)
    have h2 := (lowL_iff (x.fit_in h hg (i + (n + 1)) hn).1).1 (hg.2 (i + (n + 1)) hn).2
    have h3 := h2.1 (by omega)
    rw [show i + (n + 1) - 1 = i + n by omega] at h3
    omega
theorem Course.fit_narrow {x y : Course} {p q : Nat} {g : List Int} (hy : y.ord) (hl : y.open_.length = x.open_.length) (hqp : q ≤ p) (hop : ∀ i d, i < x.open_.length → y.op i d = true → x.op i d = true) (hg : y.fit q g) : x.fit p g := by
  refine ⟨by rw [hg.1, hl], fun i hi => ?_⟩
  obtain ⟨h1, h2⟩ := hg.2 i hi
  have h0 := (y.fit_in hy hg i hi).1
  refine ⟨hop i _ (by rw [← hl, ← hg.1]; exact hi) h1, ?_⟩
  rw [lowL_iff h0] at h2 ⊢
  refine ⟨h2.1, fun hpi => ?_⟩
  have h3 := h2.2 (by omega)
  have h4 := y.fit_mono hy hg (p - q) (i - p) (by omega)
  rw [show i - p + (p - q) = i - q by omega] at h4
  omega
/-- So many lines want so many days. -/
theorem Course.fit_bound {x : Course} {p : Nat} {g : List Int} (h : x.ord) (hg : x.fit p g) : ∀ (k : Nat), k * p < g.length → g.getD 0 0 + k ≤ g.getD (k * p) 0
  | 0, _ => by simp
  | k + 1, hk => by
    have e : (k + 1) * p = k * p + p := Nat.succ_mul k p
    have h1 := x.fit_bound h hg k (by omega)
    have h2 := ((lowL_iff (x.fit_in h hg ((k + 1) * p) hk).1).1 (hg.2 ((k + 1) * p) hk).2).2 (by omega)
    rw [show (k + 1) * p - p = k * p by omega] at h2
    omega

/-! How long a copy took at least. -/
/-- The earliest days from a day on, if some days fit that begin on it. -/
theorem Course.early_from {x : Course} {p : Nat} {g : List Int} {b : Int} (h : x.ord) (hp : 1 ≤ p) (hg : x.fit p g) (hb : b ≤ g.getD 0 0) : (x.early p b).length = x.open_.length ∧ x.fit p (x.early p b) ∧ (∀ i, i < g.length → (x.early p b).getD i 0 ≤ g.getD i 0) ∧ ∀ i, i < g.length → b ≤ (x.early p b).getD i 0 := by
  obtain ⟨h1, h2, h3, h4⟩ := early_ok (op := x.op) hp (fun i f => x.nx_ok h i f) x.open_.length (frm := b)
  obtain ⟨h5, h6⟩ := h4 g g.length (by have := hg.1; omega) hg.2 (fun i hi => by have := x.fit_mono h hg i 0 (by omega); rw [Nat.zero_add] at this; omega)
  have h7 : (x.early p b).length = x.open_.length := by
    have h8 : g.length ≤ (x.early p b).length := h5
    have h9 : (x.early p b).length ≤ x.open_.length := h1
    have := hg.1
    omega
  exact ⟨h7, ⟨h7, h2⟩, h6, fun i hi => h3 i (by have := hg.1; change i < (x.early p b).length; omega)⟩
def Course.poss (x : Course) (p k : Nat) : List (Int × Int) := cutS ((x.early p 0).getD k 0) ((x.late p).getD k 0) (x.at_ k)
theorem Course.poss_iff {x : Course} {p k : Nat} {d : Int} : ins (x.poss p k) d = true ↔ x.op k d = true ∧ (x.early p 0).getD k 0 ≤ d ∧ d ≤ (x.late p).getD k 0 := by
  rw [Course.poss, cutS_ins]; simp [Course.op]
/-- On each possible day of a line some days fit. -/
theorem Course.poss_fit {x : Course} {p k : Nat} {d : Int} (h : x.ord) (hp : 1 ≤ p) (hm : x.made p = true) (hk : k < x.open_.length) (hd : ins (x.poss p k) d = true) : x.fit p (mixL (x.early p 0) (x.late p) k d) := by
  obtain ⟨h1, h2, h3⟩ := x.poss_iff.1 hd
  have hf := x.early_fit h hp hm
  exact x.mix_fit hp hf (x.late_fit h hp hm) (by rw [hf.1]; exact hk) h1 h2 h3 (fun i hi => x.early_late h hp hm i (by rw [← hf.1]; exact hi))
theorem Course.fit_poss {x : Course} {p k : Nat} {g : List Int} (h : x.ord) (hp : 1 ≤ p) (hg : x.fit p g) (hk : k < g.length) : ins (x.poss p k) (g.getD k 0) = true :=
  x.poss_iff.2 ⟨(hg.2 k hk).1, (x.fit_early h hp hg).2 k hk, x.fit_late h hp hg k hk⟩
def Course.took (x : Course) (p : Nat) (b : Int) : Int := (x.early p b).getD (x.open_.length - 1) 0 - b
structure Course.Short (x : Course) (p : Nat) (l : Int) : Prop where
  at_ : ∃ b, ins (x.poss p 0) b = true ∧ l = x.took p b
  le : ∀ b, ins (x.poss p 0) b = true → l ≤ x.took p b
theorem Course.took_fit {x : Course} {p : Nat} {b : Int} (h : x.ord) (hp : 1 ≤ p) (hm : x.made p = true) (hn : 0 < x.open_.length) (hb : ins (x.poss p 0) b = true) : x.fit p (x.early p b) ∧ (x.early p b).getD 0 0 = b ∧ x.took p b = (x.early p b).getD (x.open_.length - 1) 0 - (x.early p b).getD 0 0 := by
  have hg := x.poss_fit h hp hm hn hb
  have hf := x.early_fit h hp hm
  have hlt := x.late_fit h hp hm
  have hll : (x.early p 0).length = (x.late p).length := by rw [hf.1, hlt.1]
  have h0 : (mixL (x.early p 0) (x.late p) 0 b).getD 0 0 = b := by rw [mixL_get hll (by rw [hf.1]; exact hn)]; simp
  obtain ⟨h1, h2, h3, h4⟩ := x.early_from (b := b) h hp hg (by rw [h0]; exact Int.le_refl _)
  have h5 := h3 0 (by rw [hg.1]; exact hn)
  have h6 := h4 0 (by rw [hg.1]; exact hn)
  have h7 : (x.early p b).getD 0 0 = b := by omega
  exact ⟨h2, h7, by rw [Course.took, h7]⟩
theorem Course.took_bound {x : Course} {p : Nat} {b : Int} (h : x.ord) (hp : 1 ≤ p) (hm : x.made p = true) (hn : 0 < x.open_.length) (hb : ins (x.poss p 0) b = true) : (((x.open_.length - 1) / p : Nat) : Int) ≤ x.took p b ∧ x.took p b ≤ 730 := by
  obtain ⟨h1, h2, h3⟩ := x.took_fit h hp hm hn hb
  have hdm : (x.open_.length - 1) / p * p ≤ x.open_.length - 1 := Nat.div_mul_le_self _ _
  have h4 := x.fit_bound h h1 ((x.open_.length - 1) / p) (by rw [h1.1]; omega)
  have h5 := x.fit_mono h h1 (x.open_.length - 1 - (x.open_.length - 1) / p * p) ((x.open_.length - 1) / p * p) (by rw [h1.1]; omega)
  rw [show (x.open_.length - 1) / p * p + (x.open_.length - 1 - (x.open_.length - 1) / p * p) = x.open_.length - 1 by omega] at h5
  have h6 := x.fit_in h h1 0 (by rw [h1.1]; exact hn)
  have h7 := x.fit_in h h1 (x.open_.length - 1) (by rw [h1.1]; omega)
  rw [h3]
  omega
theorem Course.poss_ex {x : Course} {p : Nat} (h : x.ord) (hp : 1 ≤ p) (hm : x.made p = true) (hn : 0 < x.open_.length) : ins (x.poss p 0) ((x.early p 0).getD 0 0) = true := by
  have hf := x.early_fit h hp hm
  exact x.fit_poss h hp hf (by rw [hf.1]; exact hn)
/-- A narrower copy takes no less. -/
theorem Course.short_narrow {x y : Course} {p q : Nat} {l m : Int} (hx : x.ord) (hy : y.ord) (hl : y.open_.length = x.open_.length) (hq : 1 ≤ q) (hqp : q ≤ p) (hop : ∀ i d, i < x.open_.length → y.op i d = true → x.op i d = true) (hm : y.made q = true) (hn : 0 < x.open_.length) (h1 : x.Short p l) (h2 : y.Short q m) : l ≤ m := by
  obtain ⟨b, hb, rfl⟩ := h2.at_
  obtain ⟨hf, h0, ht⟩ := y.took_fit hy hq hm (by omega) hb
  have hfx := Course.fit_narrow hy hl hqp hop hf
  have hp : 1 ≤ p := by omega
  have hbx := x.fit_poss hx hp hfx (k := 0) (by rw [hfx.1]; exact hn)
  rw [h0] at hbx
  have h3 := h1.le b hbx
  obtain ⟨h4, h5, h6, h7⟩ := x.early_from (b := b) hx hp hfx (by rw [h0]; exact Int.le_refl _)
  have h8 := h6 (x.open_.length - 1) (by rw [hfx.1]; omega)
  have h9 : y.took q b = (y.early q b).getD (x.open_.length - 1) 0 - b := by rw [Course.took, hl]
  have h10 : x.took p b = (x.early p b).getD (x.open_.length - 1) 0 - b := rfl
  omega
end Go.Proofs.Try
namespace Go.Proofs.Try
open Go Go.Am Go.RowKit
set_option maxRecDepth 100000

/-! Numbers below others. -/
def belowL (a b : List Int) (n : Nat) : Bool := decide (n ≤ a.length) && decide (n ≤ b.length) && (List.range n).all fun i => decide (a.getD i 0 ≤ b.getD i 0)
theorem belowL_iff {a b : List Int} {n : Nat} : belowL a b n = true ↔ n ≤ a.length ∧ n ≤ b.length ∧ ∀ i, i < n → a.getD i 0 ≤ b.getD i 0 := by
  simp [belowL, and_assoc]

theorem below_s {loops : List (Nat × LInfo)} {H : AHeap} {u v : Value} {xs ys : List Int} {n : Nat} (hu : Ints H u xs) (hv : Ints H v ys) : CallS Try.prog loops 50 [u, v, .int .i64 n] H fun r H' => r = .bool (belowL xs ys n) ∧ H' = H := by
  obtain ⟨hlen, a, c, rfl⟩ := hu.slice
  obtain ⟨hlen2, a2, c2, rfl⟩ := hv.slice
  have HU := Lib.hid hu
  have HV := Lib.hid hv
  clear hu hv
  generalize he : belowL xs ys n = er
  have HE := Lib.hid he
  clear he
  refine CallS.enter' Try.func50 rfl Try.ntmps50 (by simp) fun f hd hf => ?_
  have f0 := hf 0
  have f1 := hf 1
  have f2 := hf 2
  simp at f0 f1 f2
  clear hf
  repeat' (first | (with_reducible first | refine CodeS.seq ?_ | refine CodeS.region_k fun K hK => ?_ | refine opsP_go fun K2 hK2 => ?_ | refine Post.then_normal ?_ | refine Post.then_ret ?_ | refine Post.then_exit ?_ | refine Post.block_normal ?_ | refine Post.block_ret ?_ | refine Post.block_here ?_ | refine Post.scope_normal ?_ | refine Post.scope_ret ?_ | refine Post.scope_exit ?_ | refine Post.round_ret ?_ | refine Post.round_exit ?_ | refine CodeS.block ?_ | refine CodeS.skip ?_ | refine CodeS.ret ?_ | refine CodeS.exit ?_ | refine CodeS.scope ?_ | refine CodeS.label ?_) | ((with_reducible refine opsP_nil (hK _ _ ?_)); clear hK K) | ((with_reducible refine opsP_gd ?hj ?hlt fun K1 K3 d hdst h1 h3 => ?_); (case hj => rfl); (case hlt => exact Nat.le_of_ble_eq_true rfl); cases hdst; go_simp) | ((with_reducible refine CodeS.cond_k fun K1 K3 h1 h3 => ?_); go_simp) | (refine h1 ?_; clear h1 h3 K1 K3) | (refine h3 ?_; clear h1 h3 K1 K3) | ((refine Either.mk (fun hb => h1 ?_) (fun hb => h3 ?_)) <;> (clear h1 h3 K1 K3; (try have hb2 := of_decide hb); (try have hb2 := of_not_decide_lt hb); (try have hb2 := of_not_decide_le hb); (try have hb2 := of_not_decide_ltN hb); (try have hb2 := of_not_decide_leN hb))) | ((refine Either.mk (fun hb => h3 ?_) (fun hb => h1 ?_)) <;> (clear h1 h3 K1 K3; (try have hb2 := of_decide hb); (try have hb2 := of_not_decide_lt hb); (try have hb2 := of_not_decide_le hb); (try have hb2 := of_not_decide_ltN hb); (try have hb2 := of_not_decide_leN hb))) | (refine fun (K2 : _ → AHeap → Prop) hK2 => ?_) | ((with_reducible refine Post.block_off ?hn ?_); (case hn => decide)) | ((with_reducible first | refine Post.body_k ?hd (fun K hK => ?_) | refine Post.body_kn ?hd (fun K hK => ?_)); (case hd => (go_simp; done)); go_simp; refine hK _ _ ?_; clear hK K) | ((with_reducible refine CodeS.tree_lit mixed rfl ?hok 20 fun K0 hK0 => ?_); (case hok => kernel_rfl)) | (with_reducible first | exact loudsP_nil | exact stableP_nil | refine treeP_lit ?_ | refine passP_nil ?_ | refine stableP_keep ?_) | ((with_reducible first | refine passP_skip ?h1 ?_ | refine loudsP_skip ?h1 ?_ | refine stepT_more ?h1 ?_); (case h1 => rfl)) | ((with_reducible refine stepT_done ?h1 ?_); (case h1 => rfl); refine hK0 _ _ ?_; clear hK0 K0) | ((with_reducible refine passP_loud ?h1 ?hg ?hl ?_); (case h1 => rfl); (case hg => rfl); (case hl => rfl)) | ((with_reducible refine passP_q ?h1 ?hl ?hlt fun K2 hK2 => ?_); (case h1 => rfl); (case hl => rfl); (case hlt => exact Nat.le_of_ble_eq_true rfl)) | ((with_reducible refine passP_g ?h1 ?hj ?hl ?hlt fun K1 K3 d hdst h1 h3 => ?_); (case h1 => rfl); (case hj => rfl); (case hl => rfl); (case hlt => exact Nat.le_of_ble_eq_true rfl); cases hdst; go_simp) | ((with_reducible refine passP_lg ?h1 ?hj ?hl ?hlt fun K1 K3 d hdst h1 h3 => ?_); (case h1 => rfl); (case hj => rfl); (case hl => rfl); (case hlt => exact Nat.le_of_ble_eq_true rfl); cases hdst; go_simp) | ((with_reducible refine loudsP_c ?h1 ?hlt (fun K2 hK2 => ?_) ?_); (case h1 => rfl); (case hlt => exact Nat.le_of_ble_eq_true rfl)) | ((with_reducible refine loudsP_cg ?h1 ?hlt ?hj ?hw (fun K2 hK2 => ?_) ?_); (case h1 => rfl); (case hlt => exact Nat.le_of_ble_eq_true rfl); (case hj => rfl); (case hw => (go_simp; done))) | ((with_reducible refine loudsP_v ?h1 ?hv ?hlt (fun K2 hK2 => ?_) ?_); (case h1 => rfl); (case hv => rfl); (case hlt => exact Nat.le_of_ble_eq_true rfl)) | ((with_reducible refine loudsP_u ?h1 ?hv (fun K2 hK2 => ?_) ?_); (case h1 => rfl); (case hv => rfl)) | ((with_reducible refine stableP_pre ?h1 ?_); (case h1 => (first | rfl | (dsimp only; decide +kernel)))) | ((with_reducible refine stableP_re ?h1 ?_); (case h1 => (go_simp; done))) | (go_simp; (try go_bits); (first | (refine hK2 _ _ ?_ ?_ <;> clear hK2 K2) | (refine hK2 _ _ ?_; clear hK2 K2))))
  all_goals first
    | (refine ⟨?_, rfl⟩
       have h0 : ¬ (n ≤ xs.length ∧ n ≤ ys.length) := by omega
       have h1 : belowL xs ys n = false := by rw [Bool.eq_false_iff]; intro h; have := belowL_iff.1 h; exact h0 ⟨this.1, this.2.1⟩
       rw [← HE.out, h1])
    | skip
  have h1 : n ≤ xs.length := by omega
  have h2 : n ≤ ys.length := by omega
  refine CodeS.loop (fun m f H' => ∃ k : Nat, k ≤ n ∧ m = n - k ∧ f.tmp 7 = .int .i64 k ∧ f.tmp 0 = .slice a xs.length c ∧ f.tmp 1 = .slice a2 ys.length c2 ∧ f.tmp 2 = .int .i64 n ∧ f.defers = [] ∧ Hid (∀ i, i < k → xs.getD i 0 ≤ ys.getD i 0) ∧ H' = H) n ?_ ?_
  · exact ⟨0, by simp, by simp, (by first | (go_simp; done) | (go_simp; go_num; done) | assumption), (by first | (go_simp; done) | (go_simp; go_num; done) | assumption), (by first | (go_simp; done) | (go_simp; go_num; done) | assumption), (by first | (go_simp; done) | (go_simp; go_num; done) | assumption), (by first | (go_simp; done) | (go_simp; go_num; done) | assumption), Lib.hid (by intro i hi; omega), rfl⟩
  clear f0 f1 f2 hd f
  rintro m f H' ⟨k, hk, rfl, f7, f0, f1, f2, hd, HG, rfl⟩
  by_cases hlt : k < n
  · have hlx : k < xs.length := by omega
    have hly : k < ys.length := by omega
    obtain ⟨b, o, sp, rfl, hb, hx⟩ := HU.out.at_ hlx
    obtain ⟨b2, o2, sp2, rfl, hb2, hx2⟩ := HV.out.at_ hly
    have HX : Hid (xs.getD k 0 = xs[k]) := Lib.hid (by simp [List.getD_eq_getElem?_getD, hlx])
    have HY : Hid (ys.getD k 0 = ys[k]) := Lib.hid (by simp [List.getD_eq_getElem?_getD, hly])
    generalize xs[k] = x at hx HX
    generalize ys[k] = y at hx2 HY
    repeat' (first | (with_reducible first | refine CodeS.seq ?_ | refine CodeS.region_k fun K hK => ?_ | refine opsP_go fun K2 hK2 => ?_ | refine Post.then_normal ?_ | refine Post.then_ret ?_ | refine Post.then_exit ?_ | refine Post.block_normal ?_ | refine Post.block_ret ?_ | refine Post.block_here ?_ | refine Post.scope_normal ?_ | refine Post.scope_ret ?_ | refine Post.scope_exit ?_ | refine Post.round_ret ?_ | refine Post.round_exit ?_ | refine CodeS.block ?_ | refine CodeS.skip ?_ | refine CodeS.ret ?_ | refine CodeS.exit ?_ | refine CodeS.scope ?_ | refine CodeS.label ?_) | ((with_reducible refine opsP_nil (hK _ _ ?_)); clear hK K) | ((with_reducible refine opsP_gd ?hj ?hlt fun K1 K3 d hdst h1 h3 => ?_); (case hj => rfl); (case hlt => exact Nat.le_of_ble_eq_true rfl); cases hdst; go_simp) | ((with_reducible refine CodeS.cond_k fun K1 K3 h1 h3 => ?_); go_simp) | (refine h1 ?_; clear h1 h3 K1 K3) | (refine h3 ?_; clear h1 h3 K1 K3) | ((refine Either.mk (fun hb => h1 ?_) (fun hb => h3 ?_)) <;> (clear h1 h3 K1 K3; (try have hb2 := of_decide hb); (try have hb2 := of_not_decide_lt hb); (try have hb2 := of_not_decide_le hb); (try have hb2 := of_not_decide_ltN hb); (try have hb2 := of_not_decide_leN hb))) | ((refine Either.mk (fun hb => h3 ?_) (fun hb => h1 ?_)) <;> (clear h1 h3 K1 K3; (try have hb2 := of_decide hb); (try have hb2 := of_not_decide_lt hb); (try have hb2 := of_not_decide_le hb); (try have hb2 := of_not_decide_ltN hb); (try have hb2 := of_not_decide_leN hb))) | (refine fun (K2 : _ → AHeap → Prop) hK2 => ?_) | ((with_reducible refine Post.block_off ?hn ?_); (case hn => decide)) | ((with_reducible first | refine Post.body_k ?hd (fun K hK => ?_) | refine Post.body_kn ?hd (fun K hK => ?_)); (case hd => (go_simp; done)); go_simp; refine hK _ _ ?_; clear hK K) | ((with_reducible refine CodeS.tree_lit mixed rfl ?hok 20 fun K0 hK0 => ?_); (case hok => kernel_rfl)) | (with_reducible first | exact loudsP_nil | exact stableP_nil | refine treeP_lit ?_ | refine passP_nil ?_ | refine stableP_keep ?_) | ((with_reducible first | refine passP_skip ?h1 ?_ | refine loudsP_skip ?h1 ?_ | refine stepT_more ?h1 ?_); (case h1 => rfl)) | ((with_reducible refine stepT_done ?h1 ?_); (case h1 => rfl); refine hK0 _ _ ?_; clear hK0 K0) | ((with_reducible refine passP_loud ?h1 ?hg ?hl ?_); (case h1 => rfl); (case hg => rfl); (case hl => rfl)) | ((with_reducible refine passP_q ?h1 ?hl ?hlt fun K2 hK2 => ?_); (case h1 => rfl); (case hl => rfl); (case hlt => exact Nat.le_of_ble_eq_true rfl)) | ((with_reducible refine passP_g ?h1 ?hj ?hl ?hlt fun K1 K3 d hdst h1 h3 => ?_); (case h1 => rfl); (case hj => rfl); (case hl => rfl); (case hlt => exact Nat.le_of_ble_eq_true rfl); cases hdst; go_simp) | ((with_reducible refine passP_lg ?h1 ?hj ?hl ?hlt fun K1 K3 d hdst h1 h3 => ?_); (case h1 => rfl); (case hj => rfl); (case hl => rfl); (case hlt => exact Nat.le_of_ble_eq_true rfl); cases hdst; go_simp) | ((with_reducible refine loudsP_c ?h1 ?hlt (fun K2 hK2 => ?_) ?_); (case h1 => rfl); (case hlt => exact Nat.le_of_ble_eq_true rfl)) | ((with_reducible refine loudsP_cg ?h1 ?hlt ?hj ?hw (fun K2 hK2 => ?_) ?_); (case h1 => rfl); (case hlt => exact Nat.le_of_ble_eq_true rfl); (case hj => rfl); (case hw => (go_simp; done))) | ((with_reducible refine loudsP_v ?h1 ?hv ?hlt (fun K2 hK2 => ?_) ?_); (case h1 => rfl); (case hv => rfl); (case hlt => exact Nat.le_of_ble_eq_true rfl)) | ((with_reducible refine loudsP_u ?h1 ?hv (fun K2 hK2 => ?_) ?_); (case h1 => rfl); (case hv => rfl)) | ((with_reducible refine stableP_pre ?h1 ?_); (case h1 => (first | rfl | (dsimp only; decide +kernel)))) | ((with_reducible refine stableP_re ?h1 ?_); (case h1 => (go_simp; done))) | (go_simp; (try go_bits); (first | (refine hK2 _ _ ?_ ?_ <;> clear hK2 K2) | (refine hK2 _ _ ?_; clear hK2 K2))))
    · refine ⟨?_, rfl⟩
      have h3 : belowL xs ys n = false := by rw [Bool.eq_false_iff]; intro h; have := (belowL_iff.1 h).2.2 k hlt; rw [HX.out, HY.out] at this; omega
      rw [← HE.out, h3]
    · refine Post.round_normal ⟨n - (k + 1), by omega, k + 1, by omega, rfl, (by first | (go_simp; done) | (go_simp; go_num; done) | assumption), (by first | (go_simp; done) | (go_simp; go_num; done) | assumption), (by first | (go_simp; done) | (go_simp; go_num; done) | assumption), (by first | (go_simp; done) | (go_simp; go_num; done) | assumption), (by first | (go_simp; done) | (go_simp; go_num; done) | assumption), Lib.hid ?_, rfl⟩
      intro i hi
      rcases Nat.lt_or_ge i k with h3 | h3
      · exact HG.out i h3
      · have : i = k := by omega
        rw [this, HX.out, HY.out]; omega
  · repeat' (first | (with_reducible first | refine CodeS.seq ?_ | refine CodeS.region_k fun K hK => ?_ | refine opsP_go fun K2 hK2 => ?_ | refine Post.then_normal ?_ | refine Post.then_ret ?_ | refine Post.then_exit ?_ | refine Post.block_normal ?_ | refine Post.block_ret ?_ | refine Post.block_here ?_ | refine Post.scope_normal ?_ | refine Post.scope_ret ?_ | refine Post.scope_exit ?_ | refine Post.round_ret ?_ | refine Post.round_exit ?_ | refine CodeS.block ?_ | refine CodeS.skip ?_ | refine CodeS.ret ?_ | refine CodeS.exit ?_ | refine CodeS.scope ?_ | refine CodeS.label ?_) | ((with_reducible refine opsP_nil (hK _ _ ?_)); clear hK K) | ((with_reducible refine opsP_gd ?hj ?hlt fun K1 K3 d hdst h1 h3 => ?_); (case hj => rfl); (case hlt => exact Nat.le_of_ble_eq_true rfl); cases hdst; go_simp) | ((with_reducible refine CodeS.cond_k fun K1 K3 h1 h3 => ?_); go_simp) | (refine h1 ?_; clear h1 h3 K1 K3) | (refine h3 ?_; clear h1 h3 K1 K3) | ((refine Either.mk (fun hb => h1 ?_) (fun hb => h3 ?_)) <;> (clear h1 h3 K1 K3; (try have hb2 := of_decide hb); (try have hb2 := of_not_decide_lt hb); (try have hb2 := of_not_decide_le hb); (try have hb2 := of_not_decide_ltN hb); (try have hb2 := of_not_decide_leN hb))) | ((refine Either.mk (fun hb => h3 ?_) (fun hb => h1 ?_)) <;> (clear h1 h3 K1 K3; (try have hb2 := of_decide hb); (try have hb2 := of_not_decide_lt hb); (try have hb2 := of_not_decide_le hb); (try have hb2 := of_not_decide_ltN hb); (try have hb2 := of_not_decide_leN hb))) | (refine fun (K2 : _ → AHeap → Prop) hK2 => ?_) | ((with_reducible refine Post.block_off ?hn ?_); (case hn => decide)) | ((with_reducible first | refine Post.body_k ?hd (fun K hK => ?_) | refine Post.body_kn ?hd (fun K hK => ?_)); (case hd => (go_simp; done)); go_simp; refine hK _ _ ?_; clear hK K) | ((with_reducible refine CodeS.tree_lit mixed rfl ?hok 20 fun K0 hK0 => ?_); (case hok => kernel_rfl)) | (with_reducible first | exact loudsP_nil | exact stableP_nil | refine treeP_lit ?_ | refine passP_nil ?_ | refine stableP_keep ?_) | ((with_reducible first | refine passP_skip ?h1 ?_ | refine loudsP_skip ?h1 ?_ | refine stepT_more ?h1 ?_); (case h1 => rfl)) | ((with_reducible refine stepT_done ?h1 ?_); (case h1 => rfl); refine hK0 _ _ ?_; clear hK0 K0) | ((with_reducible refine passP_loud ?h1 ?hg ?hl ?_); (case h1 => rfl); (case hg => rfl); (case hl => rfl)) | ((with_reducible refine passP_q ?h1 ?hl ?hlt fun K2 hK2 => ?_); (case h1 => rfl); (case hl => rfl); (case hlt => exact Nat.le_of_ble_eq_true rfl)) | ((with_reducible refine passP_g ?h1 ?hj ?hl ?hlt fun K1 K3 d hdst h1 h3 => ?_); (case h1 => rfl); (case hj => rfl); (case hl => rfl); (case hlt => exact Nat.le_of_ble_eq_true rfl); cases hdst; go_simp) | ((with_reducible refine passP_lg ?h1 ?hj ?hl ?hlt fun K1 K3 d hdst h1 h3 => ?_); (case h1 => rfl); (case hj => rfl); (case hl => rfl); (case hlt => exact Nat.le_of_ble_eq_true rfl); cases hdst; go_simp) | ((with_reducible refine loudsP_c ?h1 ?hlt (fun K2 hK2 => ?_) ?_); (case h1 => rfl); (case hlt => exact Nat.le_of_ble_eq_true rfl)) | ((with_reducible refine loudsP_cg ?h1 ?hlt ?hj ?hw (fun K2 hK2 => ?_) ?_); (case h1 => rfl); (case hlt => exact Nat.le_of_ble_eq_true rfl); (case hj => rfl); (case hw => (go_simp; done))) | ((with_reducible refine loudsP_v ?h1 ?hv ?hlt (fun K2 hK2 => ?_) ?_); (case h1 => rfl); (case hv => rfl); (case hlt => exact Nat.le_of_ble_eq_true rfl)) | ((with_reducible refine loudsP_u ?h1 ?hv (fun K2 hK2 => ?_) ?_); (case h1 => rfl); (case hv => rfl)) | ((with_reducible refine stableP_pre ?h1 ?_); (case h1 => (first | rfl | (dsimp only; decide +kernel)))) | ((with_reducible refine stableP_re ?h1 ?_); (case h1 => (go_simp; done))) | (go_simp; (try go_bits); (first | (refine hK2 _ _ ?_ ?_ <;> clear hK2 K2) | (refine hK2 _ _ ?_; clear hK2 K2))))
    refine ⟨?_, rfl⟩
    have h3 : belowL xs ys n = true := belowL_iff.2 ⟨h1, h2, fun i hi => HG.out i (by omega)⟩
    rw [← HE.out, h3]
end Go.Proofs.Try
namespace Go.Proofs.Try
open Go Go.Am Go.RowKit Go.Co
set_option maxRecDepth 100000

/-! Fits. -/
def fitAt (x : Course) (p : Nat) (days : List Int) (i : Nat) : Bool := ins (x.at_ i) (days.getD i 0) && decide (lowL p days i ≤ days.getD i 0)
def fitFrom (x : Course) (p : Nat) (days : List Int) : Nat → Nat → Option Nat
  | 0, _ => none
  | r + 1, i => if fitAt x p days i = true then fitFrom x p days r (i + 1) else some i
theorem fitFrom_none {x : Course} {p : Nat} {days : List Int} : ∀ (r i : Nat), fitFrom x p days r i = none ↔ ∀ j, i ≤ j → j < i + r → fitAt x p days j = true
  | 0, i => by simp [fitFrom]; intro j h1 h2; omega
  | r + 1, i => by
    rw [fitFrom]
    by_cases h : fitAt x p days i = true
    · rw [if_pos h, fitFrom_none r (i + 1)]
      constructor
      · intro h1 j h2 h3
        by_cases hj : j = i
        · rw [hj]; exact h
        · exact h1 j (by omega) (by omega)
      · intro h1 j h2 h3; exact h1 j (by omega) (by omega)
    · rw [if_neg h]
      constructor
      · intro h1; cases h1
      · intro h1; exact absurd (h1 i (Nat.le_refl _) (by omega)) h
def errFits (s : Sheet) (c : Copy) (days : List Int) : Int := if errCopy s c ≠ 0 then errCopy s c else if days.length = c.words.length then 0 else 1
def fitsR (s : Sheet) (c : Copy) (days : List Int) : Option Nat := fitFrom (courseOf s c) c.per.toNat days days.length 0
def fitsV (s : Sheet) (c : Copy) (days : List Int) : Value := if errFits s c days = 0 then (match fitsR s c days with | none => .tuple #[.int .i64 0, .bool true, .int .i64 0] | some i => .tuple #[.int .i64 i, .bool false, .int .i64 0]) else .tuple #[.int .i64 0, .bool false, .int .i64 (errFits s c days)]

set_option maxHeartbeats 4000000 in
theorem fits_s {loops : List (Nat × LInfo)} {H : AHeap} {sv cv dv : Value} {s : Sheet} {c : Copy} {days : List Int} (hs : SheetV H sv s) (hc : CopyV H cv c) (hdv : Ints H dv days) : CallS Try.prog loops 48 [sv, cv, dv] H fun r H' => r = fitsV s c days ∧ H' = H := by
  refine CallS.forget (R := fun v => v = fitsV s c days) (by rintro v rfl; unfold fitsV; split; (split <;> rfl); rfl) ?_
  have HV := Lib.hid hs
  have HC := Lib.hid hc
  have HD := Lib.hid hdv
  obtain ⟨wv, av, rfl, hw, ha⟩ := hs
  obtain ⟨hwl, wa, wc, rfl⟩ := hw.slice
  obtain ⟨hal, aa, ac, rfl⟩ := ha.slice
  obtain ⟨cv, rfl, hcw⟩ := hc
  obtain ⟨hcl, ca, cc, rfl⟩ := hcw.slice
  obtain ⟨hdl, da, dc, rfl⟩ := hdv.slice
  clear hw ha hcw hdv
  generalize hr : fitsV s c days = r
  have HR : Hid (r = fitsV s c days) := Lib.hid hr.symm
  clear hr
  refine CallS.enter' Try.func48 rfl Try.ntmps48 (by simp) fun f hd hf => ?_
  have f0 := hf 0
  have f1 := hf 1
  have f2 := hf 2
  simp at f0 f1 f2
  clear hf
  have HX1 : Hid (Ext H ((H.push (.row [Value.slice wa s.words.length wc, Value.slice aa s.alts.length ac] 25)).push (.row [Value.slice ca c.words.length cc, .int .i64 c.beg, .int .i64 c.fin, .int .i64 c.per] 27))) := Lib.hid (((Ext.refl _).push' _).push' _)
  repeat' (first | (with_reducible first | refine CodeS.seq ?_ | refine CodeS.region_k fun K hK => ?_ | refine opsP_go fun K2 hK2 => ?_ | refine Post.then_normal ?_ | refine Post.then_ret ?_ | refine Post.then_exit ?_ | refine Post.block_normal ?_ | refine Post.block_ret ?_ | refine Post.block_here ?_ | refine Post.scope_normal ?_ | refine Post.scope_ret ?_ | refine Post.scope_exit ?_ | refine Post.round_ret ?_ | refine Post.round_exit ?_ | refine CodeS.block ?_ | refine CodeS.skip ?_ | refine CodeS.ret ?_ | refine CodeS.exit ?_ | refine CodeS.scope ?_ | refine CodeS.label ?_) | ((with_reducible refine opsP_nil (hK _ _ ?_)); clear hK K) | ((with_reducible refine opsP_gd ?hj ?hlt fun K1 K3 d hdst h1 h3 => ?_); (case hj => rfl); (case hlt => exact Nat.le_of_ble_eq_true rfl); cases hdst; go_simp) | ((with_reducible refine CodeS.cond_k fun K1 K3 h1 h3 => ?_); go_simp) | (refine h1 ?_; clear h1 h3 K1 K3) | (refine h3 ?_; clear h1 h3 K1 K3) | ((refine Either.mk (fun hb => h1 ?_) (fun hb => h3 ?_)) <;> (clear h1 h3 K1 K3; (try have hb2 := of_decide hb); (try have hb2 := of_not_decide_lt hb); (try have hb2 := of_not_decide_le hb); (try have hb2 := of_not_decide_ltN hb); (try have hb2 := of_not_decide_leN hb))) | ((refine Either.mk (fun hb => h3 ?_) (fun hb => h1 ?_)) <;> (clear h1 h3 K1 K3; (try have hb2 := of_decide hb); (try have hb2 := of_not_decide_lt hb); (try have hb2 := of_not_decide_le hb); (try have hb2 := of_not_decide_ltN hb); (try have hb2 := of_not_decide_leN hb))) | (refine fun (K2 : _ → AHeap → Prop) hK2 => ?_) | ((with_reducible refine Post.block_off ?hn ?_); (case hn => decide)) | ((with_reducible first | refine Post.body_k ?hd (fun K hK => ?_) | refine Post.body_kn ?hd (fun K hK => ?_)); (case hd => (go_simp; done)); go_simp; refine hK _ _ ?_; clear hK K) | ((with_reducible refine CodeS.tree_lit mixed rfl ?hok 20 fun K0 hK0 => ?_); (case hok => kernel_rfl)) | (with_reducible first | exact loudsP_nil | exact stableP_nil | refine treeP_lit ?_ | refine passP_nil ?_ | refine stableP_keep ?_) | ((with_reducible first | refine passP_skip ?h1 ?_ | refine loudsP_skip ?h1 ?_ | refine stepT_more ?h1 ?_); (case h1 => rfl)) | ((with_reducible refine stepT_done ?h1 ?_); (case h1 => rfl); refine hK0 _ _ ?_; clear hK0 K0) | ((with_reducible refine passP_loud ?h1 ?hg ?hl ?_); (case h1 => rfl); (case hg => rfl); (case hl => rfl)) | ((with_reducible refine passP_q ?h1 ?hl ?hlt fun K2 hK2 => ?_); (case h1 => rfl); (case hl => rfl); (case hlt => exact Nat.le_of_ble_eq_true rfl)) | ((with_reducible refine passP_g ?h1 ?hj ?hl ?hlt fun K1 K3 d hdst h1 h3 => ?_); (case h1 => rfl); (case hj => rfl); (case hl => rfl); (case hlt => exact Nat.le_of_ble_eq_true rfl); cases hdst; go_simp) | ((with_reducible refine passP_lg ?h1 ?hj ?hl ?hlt fun K1 K3 d hdst h1 h3 => ?_); (case h1 => rfl); (case hj => rfl); (case hl => rfl); (case hlt => exact Nat.le_of_ble_eq_true rfl); cases hdst; go_simp) | ((with_reducible refine loudsP_c ?h1 ?hlt (fun K2 hK2 => ?_) ?_); (case h1 => rfl); (case hlt => exact Nat.le_of_ble_eq_true rfl)) | ((with_reducible refine loudsP_cg ?h1 ?hlt ?hj ?hw (fun K2 hK2 => ?_) ?_); (case h1 => rfl); (case hlt => exact Nat.le_of_ble_eq_true rfl); (case hj => rfl); (case hw => (go_simp; done))) | ((with_reducible refine loudsP_v ?h1 ?hv ?hlt (fun K2 hK2 => ?_) ?_); (case h1 => rfl); (case hv => rfl); (case hlt => exact Nat.le_of_ble_eq_true rfl)) | ((with_reducible refine loudsP_u ?h1 ?hv (fun K2 hK2 => ?_) ?_); (case h1 => rfl); (case hv => rfl)) | ((with_reducible refine stableP_pre ?h1 ?_); (case h1 => (first | rfl | (dsimp only; decide +kernel)))) | ((with_reducible refine stableP_re ?h1 ?_); (case h1 => (go_simp; done))) | (go_simp; (try go_bits); (try first | ((with_reducible show CallS _ _ _ _ _ _); refine CallS.mono (checkCopy_s (s := s) (c := c) (HV.out.ext HX1.out) (HC.out.ext HX1.out)) ?_; rintro _ _ ⟨rfl, h9⟩; rw [h9]; clear h9) | ((with_reducible show CallS _ _ _ _ _ _); refine CallS.mono (courseOf_e (s := s) (c := c) (HV.out.ext HX1.out) (HC.out.ext HX1.out) (by simpa using ‹(errCopy s c != 0) = false›)) ?_; rintro xv H2 ⟨hx, hx2⟩; (have HXC := Lib.hid hx); (have HX2 := Lib.hid (HX1.out.trans hx2)); (obtain ⟨ov, rfl, hov⟩ := hx); (obtain ⟨-, oa, oc, rfl⟩ := hov.slice); clear hov hx2)); (first | (refine hK2 _ _ ?_ ?_ <;> clear hK2 K2) | (refine hK2 _ _ ?_; clear hK2 K2))))
  · refine ⟨?_, HX1.out⟩
    have h1 : errCopy s c ≠ 0 := by simpa using hb
    have h2 : errFits s c days = errCopy s c := by rw [errFits, if_pos h1]
    rw [HR.out, fitsV, h2, if_neg h1]
  · refine ⟨?_, HX1.out⟩
    have h1 : errCopy s c = 0 := by simpa using ‹(errCopy s c != 0) = false›
    have h3 : ¬ days.length = c.words.length := by rw [nat_neb] at hb; simpa using hb
    have h2 : errFits s c days = 1 := by rw [errFits, if_neg (by simp [h1]), if_neg h3]
    rw [HR.out, fitsV, h2, if_neg (by decide)]
  have h1 : errCopy s c = 0 := by simpa using ‹(errCopy s c != 0) = false›
  have h3 : days.length = c.words.length := by rw [nat_neb] at hb; simpa using hb
  have h2 : errFits s c days = 0 := by rw [errFits, if_neg (by simp [h1]), if_pos h3]
  have HR2 : Hid (r = (match fitFrom (courseOf s c) c.per.toNat days days.length 0 with | none => .tuple #[.int .i64 0, .bool true, .int .i64 0] | some i => .tuple #[.int .i64 i, .bool false, .int .i64 0])) := Lib.hid (by rw [HR.out, fitsV, if_pos h2]; rfl)
  have hor := courseOf_ord h1
  obtain ⟨-, -, -, -, -, -, hp1, hp2⟩ := errCopy_ok h1
  have hper : (courseOf s c).per = ((c.per.toNat : Nat) : Int) := by show c.per = _; omega
  have hp3 : 1 ≤ c.per.toNat := by omega
  have hxl : (courseOf s c).open_.length = days.length := by rw [courseOf_len, h3]
  have HPER := Lib.hid hper
  have HXL := Lib.hid hxl
  have HOR := Lib.hid hor
  clear hper hxl hor HR h2 hp1 hp2
  clear h1 h3 HV HC
  generalize courseOf s c = x at HXC HR2 HPER HXL HOR
  generalize c.per.toNat = p at HR2 HPER hp3
  generalize hpe : x.per = pe at HXC HPER
  have HPE := Lib.hid hpe
  clear hpe
  refine CodeS.loop (fun m f H' => ∃ k : Nat, k ≤ days.length ∧ m = days.length - k ∧ f.tmp 30 = .int .i64 k ∧ f.tmp 29 = .int .i64 days.length ∧ f.tmp 28 = .slice da days.length dc ∧ f.tmp 2 = .slice da days.length dc ∧ f.tmp 10 = .pointer (some ⟨H2.n, 0, none⟩) ∧ f.defers = [] ∧ Hid (∀ j, j < k → fitAt x p days j = true) ∧ H' = H2.push (.row [Value.slice oa x.open_.length oc, .int .i64 pe] 118)) days.length ?_ ?_
  · exact ⟨0, by simp, by simp, (by first | (go_simp; done) | (go_simp; go_num; done) | assumption), (by first | (go_simp; done) | (go_simp; go_num; done) | assumption), (by first | (go_simp; done) | (go_simp; go_num; done) | assumption), (by first | (go_simp; done) | (go_simp; go_num; done) | assumption), (by first | (go_simp; done) | (go_simp; go_num; done) | assumption), (by first | (go_simp; done) | (go_simp; go_num; done) | assumption), Lib.hid (by intro j hj; omega), rfl⟩
  clear f0 f1 f2 hd f hb
  rintro m f H' ⟨k, hk, rfl, f30, f29, f28, f2, f10, hd, HF, rfl⟩
  by_cases hlt : k < days.length
  · have HLW := Lib.hid (fun (loops : List (Nat × LInfo)) => lowest_s (loops := loops) (k := k) (HXC.out.ext (Ext.push (.row [Value.slice oa x.open_.length oc, .int .i64 pe] 118))) (HD.out.ext ((HX2.out.push' _))) hk (HPE.out.trans HPER.out) hp3 (fun j hj => by
      have h := HF.out j hj
      simp only [fitAt, Bool.and_eq_true] at h
      have := ordS_ins _ (HOR.out j) _ h.1
      omega))
    have HOP := Lib.hid (fun (loops : List (Nat × LInfo)) (d : Int) => isOpen_s (loops := loops) (d := d) (HXC.out.ext (Ext.push (.row [Value.slice oa x.open_.length oc, .int .i64 pe] 118))) (show k < x.open_.length by rw [HXL.out]; exact hlt))
    obtain ⟨b, o, sp, rfl, hb, hx⟩ := (HD.out.ext HX2.out).at_ hlt
    have hgd : days.getD k 0 = days[k] := by simp [List.getD_eq_getElem?_getD, hlt]
    have HFA : Hid (fitAt x p days k = (ins (x.at_ k) days[k] && decide (lowL p days k ≤ days[k]))) := Lib.hid (by rw [fitAt, hgd])
    have HST : Hid (fitAt x p days k = false → fitFrom x p days days.length 0 = some k) := Lib.hid (fun h => by
      have go : ∀ (r i : Nat), i ≤ k → k < i + r → fitFrom x p days r i = some k := by
        intro r
        induction r with
        | zero => intro i h1 h2; omega
        | succ r ih =>
          intro i h1 h2
          rw [fitFrom]
          by_cases hik : i = k
          · subst hik; rw [if_neg (by rw [h]; simp)]
          · rw [if_pos (HF.out i (by omega))]; exact ih (i + 1) (by omega) (by omega)
      exact go days.length 0 (by omega) (by omega))
    clear hgd
    generalize lowL p days k = lw at HLW HFA
    generalize days[k] = d at hx HFA
    have hop := fun (loops : List (Nat × LInfo)) => HOP.out loops d
    generalize ins (x.at_ k) d = io at hop HFA
    have HOP2 := Lib.hid hop
    clear hop
    repeat' (first | (with_reducible first | refine CodeS.seq ?_ | refine CodeS.region_k fun K hK => ?_ | refine opsP_go fun K2 hK2 => ?_ | refine Post.then_normal ?_ | refine Post.then_ret ?_ | refine Post.then_exit ?_ | refine Post.block_normal ?_ | refine Post.block_ret ?_ | refine Post.block_here ?_ | refine Post.scope_normal ?_ | refine Post.scope_ret ?_ | refine Post.scope_exit ?_ | refine Post.round_ret ?_ | refine Post.round_exit ?_ | refine CodeS.block ?_ | refine CodeS.skip ?_ | refine CodeS.ret ?_ | refine CodeS.exit ?_ | refine CodeS.scope ?_ | refine CodeS.label ?_) | ((with_reducible refine opsP_nil (hK _ _ ?_)); clear hK K) | ((with_reducible refine opsP_gd ?hj ?hlt fun K1 K3 d hdst h1 h3 => ?_); (case hj => rfl); (case hlt => exact Nat.le_of_ble_eq_true rfl); cases hdst; go_simp) | ((with_reducible refine CodeS.cond_k fun K1 K3 h1 h3 => ?_); go_simp) | (refine h1 ?_; clear h1 h3 K1 K3) | (refine h3 ?_; clear h1 h3 K1 K3) | ((refine Either.mk (fun hb => h1 ?_) (fun hb => h3 ?_)) <;> (clear h1 h3 K1 K3; (try have hb2 := of_decide hb); (try have hb2 := of_not_decide_lt hb); (try have hb2 := of_not_decide_le hb); (try have hb2 := of_not_decide_ltN hb); (try have hb2 := of_not_decide_leN hb))) | ((refine Either.mk (fun hb => h3 ?_) (fun hb => h1 ?_)) <;> (clear h1 h3 K1 K3; (try have hb2 := of_decide hb); (try have hb2 := of_not_decide_lt hb); (try have hb2 := of_not_decide_le hb); (try have hb2 := of_not_decide_ltN hb); (try have hb2 := of_not_decide_leN hb))) | (refine fun (K2 : _ → AHeap → Prop) hK2 => ?_) | ((with_reducible refine Post.block_off ?hn ?_); (case hn => decide)) | ((with_reducible first | refine Post.body_k ?hd (fun K hK => ?_) | refine Post.body_kn ?hd (fun K hK => ?_)); (case hd => (go_simp; done)); go_simp; refine hK _ _ ?_; clear hK K) | ((with_reducible refine CodeS.tree_lit mixed rfl ?hok 20 fun K0 hK0 => ?_); (case hok => kernel_rfl)) | (with_reducible first | exact loudsP_nil | exact stableP_nil | refine treeP_lit ?_ | refine passP_nil ?_ | refine stableP_keep ?_) | ((with_reducible first | refine passP_skip ?h1 ?_ | refine loudsP_skip ?h1 ?_ | refine stepT_more ?h1 ?_); (case h1 => rfl)) | ((with_reducible refine stepT_done ?h1 ?_); (case h1 => rfl); refine hK0 _ _ ?_; clear hK0 K0) | ((with_reducible refine passP_loud ?h1 ?hg ?hl ?_); (case h1 => rfl); (case hg => rfl); (case hl => rfl)) | ((with_reducible refine passP_q ?h1 ?hl ?hlt fun K2 hK2 => ?_); (case h1 => rfl); (case hl => rfl); (case hlt => exact Nat.le_of_ble_eq_true rfl)) | ((with_reducible refine passP_g ?h1 ?hj ?hl ?hlt fun K1 K3 d hdst h1 h3 => ?_); (case h1 => rfl); (case hj => rfl); (case hl => rfl); (case hlt => exact Nat.le_of_ble_eq_true rfl); cases hdst; go_simp) | ((with_reducible refine passP_lg ?h1 ?hj ?hl ?hlt fun K1 K3 d hdst h1 h3 => ?_); (case h1 => rfl); (case hj => rfl); (case hl => rfl); (case hlt => exact Nat.le_of_ble_eq_true rfl); cases hdst; go_simp) | ((with_reducible refine loudsP_c ?h1 ?hlt (fun K2 hK2 => ?_) ?_); (case h1 => rfl); (case hlt => exact Nat.le_of_ble_eq_true rfl)) | ((with_reducible refine loudsP_cg ?h1 ?hlt ?hj ?hw (fun K2 hK2 => ?_) ?_); (case h1 => rfl); (case hlt => exact Nat.le_of_ble_eq_true rfl); (case hj => rfl); (case hw => (go_simp; done))) | ((with_reducible refine loudsP_v ?h1 ?hv ?hlt (fun K2 hK2 => ?_) ?_); (case h1 => rfl); (case hv => rfl); (case hlt => exact Nat.le_of_ble_eq_true rfl)) | ((with_reducible refine loudsP_u ?h1 ?hv (fun K2 hK2 => ?_) ?_); (case h1 => rfl); (case hv => rfl)) | ((with_reducible refine stableP_pre ?h1 ?_); (case h1 => (first | rfl | (dsimp only; decide +kernel)))) | ((with_reducible refine stableP_re ?h1 ?_); (case h1 => (go_simp; done))) | (go_simp; (try go_bits); (try first | ((with_reducible show CallS _ _ _ _ _ _); refine CallS.mono (HLW.out _) ?_; rintro _ _ ⟨rfl, rfl⟩) | ((with_reducible show CallS _ _ _ _ _ _); refine CallS.mono (HOP2.out _) ?_; rintro _ _ ⟨rfl, rfl⟩)); (first | (refine hK2 _ _ ?_ ?_ <;> clear hK2 K2) | (refine hK2 _ _ ?_; clear hK2 K2))))
    · refine ⟨?_, HX2.out.push' _⟩
      have h9 : io = false := by simpa using hb
      rw [HR2.out, HST.out (by rw [HFA.out, h9]; rfl)]
    · refine ⟨?_, HX2.out.push' _⟩
      have h9 : decide (lw ≤ d) = false := by simp; omega
      rw [HR2.out, HST.out (by rw [HFA.out, h9, Bool.and_false])]
    · refine Post.round_normal ⟨days.length - (k + 1), by omega, k + 1, by omega, rfl, (by first | (go_simp; done) | (go_simp; go_num; done) | assumption), (by first | (go_simp; done) | (go_simp; go_num; done) | assumption), (by first | (go_simp; done) | (go_simp; go_num; done) | assumption), (by first | (go_simp; done) | (go_simp; go_num; done) | assumption), (by first | (go_simp; done) | (go_simp; go_num; done) | assumption), (by first | (go_simp; done) | (go_simp; go_num; done) | assumption), Lib.hid ?_, rfl⟩
      intro j hj
      by_cases hjk : j = k
      · have h9 : decide (lw ≤ d) = true := by simp; omega
        have h8 : io = true := by simpa using ‹(!io) = false›
        rw [hjk, HFA.out, h9, h8]; rfl
      · exact HF.out j (by omega)
  · repeat' (first | (with_reducible first | refine CodeS.seq ?_ | refine CodeS.region_k fun K hK => ?_ | refine opsP_go fun K2 hK2 => ?_ | refine Post.then_normal ?_ | refine Post.then_ret ?_ | refine Post.then_exit ?_ | refine Post.block_normal ?_ | refine Post.block_ret ?_ | refine Post.block_here ?_ | refine Post.scope_normal ?_ | refine Post.scope_ret ?_ | refine Post.scope_exit ?_ | refine Post.round_ret ?_ | refine Post.round_exit ?_ | refine CodeS.block ?_ | refine CodeS.skip ?_ | refine CodeS.ret ?_ | refine CodeS.exit ?_ | refine CodeS.scope ?_ | refine CodeS.label ?_) | ((with_reducible refine opsP_nil (hK _ _ ?_)); clear hK K) | ((with_reducible refine opsP_gd ?hj ?hlt fun K1 K3 d hdst h1 h3 => ?_); (case hj => rfl); (case hlt => exact Nat.le_of_ble_eq_true rfl); cases hdst; go_simp) | ((with_reducible refine CodeS.cond_k fun K1 K3 h1 h3 => ?_); go_simp) | (refine h1 ?_; clear h1 h3 K1 K3) | (refine h3 ?_; clear h1 h3 K1 K3) | ((refine Either.mk (fun hb => h1 ?_) (fun hb => h3 ?_)) <;> (clear h1 h3 K1 K3; (try have hb2 := of_decide hb); (try have hb2 := of_not_decide_lt hb); (try have hb2 := of_not_decide_le hb); (try have hb2 := of_not_decide_ltN hb); (try have hb2 := of_not_decide_leN hb))) | ((refine Either.mk (fun hb => h3 ?_) (fun hb => h1 ?_)) <;> (clear h1 h3 K1 K3; (try have hb2 := of_decide hb); (try have hb2 := of_not_decide_lt hb); (try have hb2 := of_not_decide_le hb); (try have hb2 := of_not_decide_ltN hb); (try have hb2 := of_not_decide_leN hb))) | (refine fun (K2 : _ → AHeap → Prop) hK2 => ?_) | ((with_reducible refine Post.block_off ?hn ?_); (case hn => decide)) | ((with_reducible first | refine Post.body_k ?hd (fun K hK => ?_) | refine Post.body_kn ?hd (fun K hK => ?_)); (case hd => (go_simp; done)); go_simp; refine hK _ _ ?_; clear hK K) | ((with_reducible refine CodeS.tree_lit mixed rfl ?hok 20 fun K0 hK0 => ?_); (case hok => kernel_rfl)) | (with_reducible first | exact loudsP_nil | exact stableP_nil | refine treeP_lit ?_ | refine passP_nil ?_ | refine stableP_keep ?_) | ((with_reducible first | refine passP_skip ?h1 ?_ | refine loudsP_skip ?h1 ?_ | refine stepT_more ?h1 ?_); (case h1 => rfl)) | ((with_reducible refine stepT_done ?h1 ?_); (case h1 => rfl); refine hK0 _ _ ?_; clear hK0 K0) | ((with_reducible refine passP_loud ?h1 ?hg ?hl ?_); (case h1 => rfl); (case hg => rfl); (case hl => rfl)) | ((with_reducible refine passP_q ?h1 ?hl ?hlt fun K2 hK2 => ?_); (case h1 => rfl); (case hl => rfl); (case hlt => exact Nat.le_of_ble_eq_true rfl)) | ((with_reducible refine passP_g ?h1 ?hj ?hl ?hlt fun K1 K3 d hdst h1 h3 => ?_); (case h1 => rfl); (case hj => rfl); (case hl => rfl); (case hlt => exact Nat.le_of_ble_eq_true rfl); cases hdst; go_simp) | ((with_reducible refine passP_lg ?h1 ?hj ?hl ?hlt fun K1 K3 d hdst h1 h3 => ?_); (case h1 => rfl); (case hj => rfl); (case hl => rfl); (case hlt => exact Nat.le_of_ble_eq_true rfl); cases hdst; go_simp) | ((with_reducible refine loudsP_c ?h1 ?hlt (fun K2 hK2 => ?_) ?_); (case h1 => rfl); (case hlt => exact Nat.le_of_ble_eq_true rfl)) | ((with_reducible refine loudsP_cg ?h1 ?hlt ?hj ?hw (fun K2 hK2 => ?_) ?_); (case h1 => rfl); (case hlt => exact Nat.le_of_ble_eq_true rfl); (case hj => rfl); (case hw => (go_simp; done))) | ((with_reducible refine loudsP_v ?h1 ?hv ?hlt (fun K2 hK2 => ?_) ?_); (case h1 => rfl); (case hv => rfl); (case hlt => exact Nat.le_of_ble_eq_true rfl)) | ((with_reducible refine loudsP_u ?h1 ?hv (fun K2 hK2 => ?_) ?_); (case h1 => rfl); (case hv => rfl)) | ((with_reducible refine stableP_pre ?h1 ?_); (case h1 => (first | rfl | (dsimp only; decide +kernel)))) | ((with_reducible refine stableP_re ?h1 ?_); (case h1 => (go_simp; done))) | (go_simp; (try go_bits); (first | (refine hK2 _ _ ?_ ?_ <;> clear hK2 K2) | (refine hK2 _ _ ?_; clear hK2 K2))))
    refine ⟨?_, HX2.out.push' _⟩
    have h9 : fitFrom x p days days.length 0 = none := (fitFrom_none _ _).2 fun j _ hj => HF.out j (by omega)
    rw [HR2.out, h9]

/-! What Fits tells. -/
def FitsOk (s : Sheet) (c : Copy) (days : List Int) : Prop := errFits s c days = 0 ∧ fitsR s c days = none
def opOf (s : Sheet) (c : Copy) (i : Nat) (d : Int) : Bool := ins ((courseOf s c).at_ i) d
theorem opOf_in {s : Sheet} {c : Copy} (h : errCopy s c = 0) (i : Nat) (d : Int) (ho : opOf s c i d = true) : 0 ≤ d ∧ d ≤ 730 := ordS_ins _ (courseOf_ord h i) d ho
theorem errFits_ok {s : Sheet} {c : Copy} {days : List Int} (h : errFits s c days = 0) : errCopy s c = 0 ∧ days.length = c.words.length := by
  unfold errFits at h
  split at h
  · rename_i h1; exact absurd h h1
  · rename_i h1
    split at h
    · rename_i h2; exact ⟨by simpa using h1, h2⟩
    · cases h
theorem fitsR_iff {s : Sheet} {c : Copy} {days : List Int} : fitsR s c days = none ↔ FitTo (opOf s c) c.per.toNat days days.length := by
  unfold fitsR
  rw [fitFrom_none]
  simp only [fitAt, Bool.and_eq_true, decide_eq_true_eq, Nat.zero_add, FitTo, opOf]
  exact ⟨fun h i hi => h i (Nat.zero_le _) hi, fun h i _ hi => h i hi⟩
theorem fitsV_ok {s : Sheet} {c : Copy} {days : List Int} (h : errFits s c days = 0) (hf : FitTo (opOf s c) c.per.toNat days days.length) : fitsV s c days = .tuple #[.int .i64 0, .bool true, .int .i64 0] := by
  rw [fitsV, if_pos h, fitsR_iff.2 hf]
end Go.Proofs.Try
