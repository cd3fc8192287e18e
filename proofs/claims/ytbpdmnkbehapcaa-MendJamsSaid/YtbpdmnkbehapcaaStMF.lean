/- Contracts of functions, walked. -/
import Derived.Test.YtbpdmnkbehapcaaStMC
import Derived.Test.YtbpdmnkbehapcaaAmS
import Derived.Test.YtbpdmnkbehapcaaAwB
set_option linter.all false
namespace Go.Proofs.Try
open Go Go.Am Go.RowKit
set_option maxRecDepth 100000


section
variable {H : AHeap} {β : Type} {kk : K β} {other : Unit → Option β} {dst : Option Tmp} {ty : TypeId} {src : String} {af : Array Edge} {g : Option (Nat × Bool)}
@[go_sem] theorem aBin_bool {a b : Bool} : aBin Try.prog .eql 4 (.bool a) (.bool b) H kk other = other () := by
  have h : nilEq Try.prog 4 (.bool a) (.bool b) = none := by kernel_rfl
  simp only [aBin, aEq, h]
noncomputable def eqBV (o : Oper) (ev : Operand → Value) (v u : Value) (H : AHeap) (kk : K β) : Option β := match v, u with
  | .bool a, .bool b => kk (.bool (a == b)) H
  | _, _ => plainRest Try.prog o ev H kk
@[go_sem] theorem eqBV_bool {o : Oper} {ev : Operand → Value} {a b : Bool} : eqBV o ev (.bool a) (.bool b) H kk = kk (.bool (a == b)) H := rfl
@[go_sem] theorem aPlain_eqB {t' : TypeId} {x y : Operand} {ev : Operand → Value} : aPlain Try.prog ⟨dst, .binOp .eql 4 x y t', ty, src, af, g⟩ ev H kk = eqBV ⟨dst, .binOp .eql 4 x y t', ty, src, af, g⟩ ev (ev x) (ev y) H kk := by
  unfold eqBV
  split
  · rename_i a b hx hy
    rw [plain_of rfl]
    have e1 : ((Op.binOp .eql 4 x y t').operands.toList.all fun x => plainV 6 (ev x)) = true := by
      show ([x, y].all fun x => plainV 6 (ev x)) = true
      simp [hx, hy]
      exact ⟨rfl, rfl⟩
    rw [if_pos e1]
    have e2 : pureOf Try.prog (execOp ev ⟨dst, .binOp .eql 4 x y t', ty, src, af, g⟩) = some (.value (.bool (a == b))) := by
      simp only [execOp, hx, hy]
      kernel_rfl
    rw [e2]
    rfl
  · rfl
end
theorem head_s {loops : List (Nat × LInfo)} {H : AHeap} : CallS Try.prog loops 11 [] H fun r H' => r = .bool true ∧ H' = H := CallS.of_calls rfl rfl sanity_calls

def Tour.few (t : Tour) : Bool := decide (t.closed.length ≤ 70) && (decide (t.flaws.length ≤ 8) || (decide (40 < t.flaws.length) && decide (t.flaws.length ≤ 50)))

theorem few_s {loops : List (Nat × LInfo)} {H : AHeap} {v : Value} {t : Tour} (hv : TourV H v t) : CallS Try.prog loops 12 [v] H fun r H' => r = .bool t.few ∧ H' = H := by
  refine CallS.forget (R := fun r => r = .bool t.few) (by rintro v rfl; rfl) ?_
  obtain ⟨cv, fv, rfl, hc, hf⟩ := hv
  obtain ⟨hcl, ca, cc, rfl⟩ := hc.slice
  obtain ⟨hfl, fa, fc, rfl⟩ := hf.slice
  unfold Tour.few
  clear hc hf
  refine CallS.enter' Try.func12 rfl Try.ntmps12 (by simp) fun f hd hf => ?_
  have f0 := hf 0
  simp at f0
  clear hf
  repeat' (first|(with_reducible first|refine zA ?_|refine zB fun K hK=>?_|refine zC fun K2 hK2=>?_|refine zD ?_|refine zE ?_|refine zF ?_|refine zG ?_|refine zH ?_|refine zI ?_|refine zM ?_|refine zN ?_|refine zO ?_|refine zP ?_|refine zQ ?_|refine zR ?_)|((with_reducible refine zU (hK _ _ ?_));clear hK K)|((with_reducible refine zV ?_ ?_ fun K1 K3 d hdst h1 h3=>?_);rfl;exact yB rfl;cases hdst;go_simp)|((with_reducible refine zW fun K1 K3 h1 h3=>?_);go_simp)|((first|refine h1 ?_|refine h3 ?_);clear h1 h3 K1 K3)|((first|refine zX (fun hb=>h1 ?_) (fun hb=>h3 ?_)|refine zX (fun hb=>h3 ?_) (fun hb=>h1 ?_))<;>(clear h1 h3 K1 K3;(try have hb2:=yC hb);(try have hb2:=yD hb);(try have hb2:=yE hb);(try have hb2:=yF hb);(try have hb2:=yG hb)))|(refine fun (K2:_→AHeap→Prop) hK2=>?_)|((with_reducible refine zY ?_ ?_);decide)|((with_reducible first|refine zZ ?_ (fun K hK=>?_)|refine yA ?_ (fun K hK=>?_));(focus go_simp;done);go_simp;refine hK _ _ ?_;clear hK K)|(go_simp;(try go_bits);refine hK2 _ _ ?_;clear hK2 K2))
  all_goals (refine ⟨?_, (Ext.refl _).push' _⟩; (try (rw [Value.bool.injEq, Bool.eq_iff_iff])); simp_all; try omega)

theorem jamHi_none {t : Tour} {ids : List Int} {lo : Nat} : ∀ (r hi : Nat), t.jamHi ids lo r hi = none → ∀ j, hi ≤ j → j < hi + r → t.isJam ids lo j = false
  | 0, hi, _, j, h1, h2 => by omega
  | r + 1, hi, h, j, h1, h2 => by
    rw [Tour.jamHi] at h
    split at h
    · cases h
    · rename_i hn
      rcases Nat.eq_or_lt_of_le h1 with rfl | h3
      · simpa using hn
      · exact jamHi_none r (hi + 1) h j h3 (by omega)
theorem jamHi_some {t : Tour} {ids : List Int} {lo : Nat} : ∀ (r hi : Nat) (x : Nat × Nat), t.jamHi ids lo r hi = some x → t.isJam ids x.1 x.2 = true
  | 0, hi, x, h => by cases h
  | r + 1, hi, x, h => by
    rw [Tour.jamHi] at h
    split at h
    · rename_i hj
      cases h; exact hj
    · exact jamHi_some r (hi + 1) x h
theorem jamLo_none {t : Tour} {ids : List Int} {n : Nat} : ∀ (r lo : Nat), t.jamLo ids n r lo = none → ∀ k j, lo ≤ k → k < lo + r → k ≤ j → j < n → t.isJam ids k j = false
  | 0, lo, _, k, j, h1, h2, _, _ => by omega
  | r + 1, lo, h, k, j, h1, h2, h3, h4 => by
    rw [Tour.jamLo] at h
    unfold orElseJ at h
    split at h
    · cases h
    · rename_i hn
      rcases Nat.eq_or_lt_of_le h1 with rfl | h5
      · exact jamHi_none _ _ hn j h3 (by omega)
      · exact jamLo_none r (lo + 1) h k j h5 (by omega) h3 h4
theorem jamLo_some {t : Tour} {ids : List Int} {n : Nat} : ∀ (r lo : Nat) (x : Nat × Nat), t.jamLo ids n r lo = some x → t.isJam ids x.1 x.2 = true
  | 0, lo, x, h => by cases h
  | r + 1, lo, x, h => by
    rw [Tour.jamLo] at h
    unfold orElseJ at h
    split at h
    · rename_i y hy
      cases h; exact jamHi_some _ _ _ hy
    · exact jamLo_some r (lo + 1) x h
theorem jam_none {t : Tour} {ids : List Int} (h : t.jam ids = none) (lo hi : Int) : t.isJam ids lo hi = false := by
  by_cases hs : t.isSpan lo hi = true
  · simp only [Tour.isSpan, Tour.isDay, Bool.and_eq_true, win_iff, decide_eq_true_eq] at hs
    obtain ⟨a, rfl⟩ := Int.eq_ofNat_of_zero_le (show 0 ≤ lo by omega)
    obtain ⟨b, rfl⟩ := Int.eq_ofNat_of_zero_le (show 0 ≤ hi by omega)
    exact jamLo_none _ _ h a b (by omega) (by omega) (by omega) (by omega)
  · have : t.isSpan lo hi = false := by simpa using hs
    rw [Tour.isJam, this]; rfl
theorem jam_some {t : Tour} {ids : List Int} {x : Nat × Nat} (h : t.jam ids = some x) : t.isJam ids x.1 x.2 = true := jamLo_some _ _ _ h

theorem errList_sub {t : Tour} {l m : List Int} (he : errList t m = 0) (h : l.Sublist m) : errList t l = 0 := by
  obtain ⟨-, h2⟩ := good_list he
  have h3 : err t = 0 := by
    unfold errList at he
    split at he
    · rename_i h; exact absurd he h
    · rename_i h; simpa using h
  rw [errList, if_neg (by simp [h3]), if_pos (listed_sub h h2)]
theorem can_sub {t : Tour} {l m : List Int} (he : errList t m = 0) (h : l.Sublist m) (hj : t.jam m = none) : t.can l = true := by
  rw [Tour.can, errList_sub he h]
  cases hl : t.jam l with
  | none => rfl
  | some x =>
    have h1 := isJam_sub h (jam_some hl)
    rw [jam_none hj] at h1
    cases h1
theorem conv5 {dst : Option Tmp} {x : Operand} {ty : TypeId} {src : String} {af : Array Edge} {g : Option (Nat × Bool)} {a : Int} (ev : Operand → Value) (hx : ev x = .int .u8 a) : pureOf Try.prog (execOp ev ⟨dst, .convert 5 3 x, ty, src, af, g⟩) = some (.value (.int .i64 (IntKind.i64.wrap a))) := by
  simp only [execOp, hx]
  kernel_rfl
def convV {β : Type} (v : Value) (H : AHeap) (kk : K β) (other : Unit → Option β) : Option β := match v with
  | .int .u8 a => kk (.int .i64 (IntKind.i64.wrap a)) H
  | _ => other ()
@[go_sem] theorem convV_u8 {β : Type} {a : Int} {H : AHeap} {kk : K β} {other : Unit → Option β} : convV (.int .u8 a) H kk other = kk (.int .i64 (IntKind.i64.wrap a)) H := rfl
theorem aPlain_conv5 {β : Type} {dst : Option Tmp} {x : Operand} {ty : TypeId} {src : String} {af : Array Edge} {g : Option (Nat × Bool)} {ev : Operand → Value} {H : AHeap} {kk : K β} : aPlain Try.prog ⟨dst, .convert 5 3 x, ty, src, af, g⟩ ev H kk = convV (ev x) H kk fun _ => aPlain Try.prog ⟨dst, .convert 5 3 x, ty, src, af, g⟩ ev H kk := by
  unfold convV
  split
  · rename_i a hx
    rw [plain_of rfl]
    have e1 : ((Op.convert 5 3 x).operands.toList.all fun x => plainV 6 (ev x)) = true := by
      show ([x].all fun x => plainV 6 (ev x)) = true
      simp [hx]
      rfl
    rw [if_pos e1, conv5 ev hx]
    rfl
  · rfl
@[go_sem] theorem opP_conv5 {cx : Cx} {H : AHeap} {f : AF} {k : AF → AHeap → Prop} {dst : Option Tmp} {x : Operand} {ty : TypeId} {src : String} {af : Array Edge} {g : Option (Nat × Bool)} : opP Try.prog cx ⟨dst, .convert 5 3 x, ty, src, af, g⟩ f H k = Holds (convV (f.eval x) H (fun v H' => some (putP cx.sz f dst v fun f' => k f' H')) fun _ => aPlain Try.prog ⟨dst, .convert 5 3 x, ty, src, af, g⟩ f.eval H fun v H' => some (putP cx.sz f dst v fun f' => k f' H')) :=
  opP_convert.trans (congrArg Holds aPlain_conv5)
def CutOk (H : AHeap) (v : Value) : Prop := ∀ b o sp n c, v = .slice (some ⟨b, o, sp⟩) n c → 0 < n → sp = none ∧ n ≤ c ∧ elemIsR H b 3 = true
theorem elemIsR_get {H H' : AHeap} {b : Nat} {e : TypeId} (h : H'.get b = H.get b) : elemIsR H' b e = elemIsR H b e := by simp only [elemIsR, h]

theorem own_ints {H : AHeap} {base : Nat} {v : Value} {l : List Int} (h : Own H base v 3 1 (l.map (Value.int .i64))) (hl : l.length ≤ 9223372036854775807) : Ints H v l := by
  rcases h with ⟨h1, h2⟩ | ⟨b, n, h1, h2, h3, h4, h5, h6⟩
  · have : l.length = 0 := by have := congrArg List.length h2; simpa using this
    refine ⟨by simp, hl, none, 0, by rw [h1, this], fun _ => rfl, fun h => by omega⟩
  · have hn : n = l.length := by simp at h5; omega
    subst hn
    refine ⟨by simp, hl, _, _, h1, (fun h => by cases h), fun _ => ⟨b, 0, none, rfl, h3, fun j u hu => ?_⟩⟩
    simp only [cellAt, h4, Nat.zero_add]; exact hu
theorem ints_part {H : AHeap} {b o n c : Nat} {sp : Option Nat} {l : List Int} (h : Ints H (.slice (some ⟨b, o, sp⟩) n c) l) (h0 : 0 < l.length) (i m : Nat) (hm : 0 < m) (hi : i + m ≤ l.length) : cellsAt H b (o + i) m = some (((l.drop i).take m).map (Value.int .i64)) := by
  obtain ⟨h1, h2, a', c', h3, h0', h4⟩ := h
  cases h3
  obtain ⟨b', o', sp', he, h6, h7⟩ := h4 h0
  cases he
  have hl : (((l.drop i).take m).map (Value.int .i64)).length = m := by simp; omega
  have := cellsAt_of (H := H) (b := b) (o := o + i) (us := ((l.drop i).take m).map (Value.int .i64)) (by intro h; rw [h] at hl; simp at hl; omega) (fun j u hu => by
    have hj : j < m := by have := (List.getElem?_eq_some_iff.1 hu).1; omega
    rw [Nat.add_assoc]
    refine h7 (i + j) u ?_
    rw [← hu]
    simp [List.getElem?_take, hj])
  rwa [hl] at this

structure LessQ (n : Nat) (G : AHeap) (cn : Bool) (l : List Int) (e : Exit) (f : AF) (H : AHeap) : Prop where
  e : e = .normal
  t5 : f.tmp 5 = .pointer (some ⟨n, 0, none⟩)
  t11 : f.tmp 11 = .bool true
  t12 : f.tmp 12 = .bool cn
  hd : f.defers = []
  lv : ∃ lv, f.tmp 23 = lv ∧ Ints H lv l
  ext : Ext G H

section
variable {P : Program} {H : AHeap} {K : Value → AHeap → Prop} {t e : TypeId} {size : Nat} {q : IntKind} {b o n c : Nat} {l : List Value}
theorem sliceHi_x {k : Nat} {i : Int} (he : elemT P t = some e) (hs : szT P e = some size) (hg : elemIsR H b e = true) (hi : i = k) (hk : k ≤ c) (hc : 0 < c) (h : K (.slice (some ⟨b, o, none⟩) k c) H) : HoldsV (aSlice P t (.slice (some ⟨b, o, none⟩) n c) none (some (.int q i)) H pairK) K := by
  subst hi
  have h1 : hiOf n c (some (.int q (k : Int))) = some k := by show (if k ≤ c then some k else none) = _; rw [if_pos hk]
  simp only [aSlice, he, h1, loOf, hs, Nat.zero_le, if_true, sliceOn, hg, Bool.not_true, Bool.false_eq_true, if_false, hc, Nat.zero_mul, Nat.add_zero, Nat.sub_zero]
  exact h
theorem sliceLo_x {k : Nat} {i : Int} (he : elemT P t = some e) (hs : szT P e = some size) (hg : elemIsR H b e = true) (hi : i = k) (hk : k < n) (hn : n ≤ c) (h : K (.slice (some ⟨b, o + k * size, none⟩) (n - k) (c - k)) H) : HoldsV (aSlice P t (.slice (some ⟨b, o, none⟩) n c) (some (.int q i)) none H pairK) K := by
  subst hi
  have h1 : loOf (some (.int q (k : Int))) = some k := rfl
  simp only [aSlice, he, h1, hiOf, hs, sliceOn, hg, Bool.not_true, Bool.false_eq_true, if_false, show k ≤ n from by omega, show k < c from by omega, if_true]
  exact h
def endV (b o n c : Nat) : Value := if n < c then .slice (some ⟨b, o + n, none⟩) 0 (c - n) else .slice (some ⟨b, o, some 1⟩) 0 0
theorem sliceEnd_y {i : Int} (he : elemT P t = some e) (hs : szT P e = some 1) (hg : elemIsR H b e = true) (hi : i = n) (h0 : 0 < c) (hn : n ≤ c) (h : K (endV b o n c) H) : HoldsV (aSlice P t (.slice (some ⟨b, o, none⟩) n c) (some (.int q i)) none H pairK) K := by
  subst hi
  have h1 : loOf (some (.int q (n : Int))) = some n := rfl
  simp only [aSlice, he, h1, hiOf, hs, sliceOn, hg, Bool.not_true, Bool.false_eq_true, if_false, Nat.le_refl, if_true]
  unfold endV at h
  split
  · rename_i hlt; rw [if_pos hlt] at h; rw [Nat.sub_self, Nat.mul_one]; exact h
  · rename_i hlt; rw [if_neg hlt] at h; rw [if_neg (by omega), Nat.sub_self]; exact h
theorem srcEnd {size : Nat} : srcCells H size (endV b o n c) = some (0, []) := by
  unfold endV
  split <;> exact srcCells_none
end
def allL (fls : List Flaw) (ids on : List Int) : Nat → Bool
  | 0 => true
  | k + 1 => allL fls ids on k && (!decide ((fls.getD k ⟨0, 0, 0, 0⟩).id ∈ ids) || decide (0 ≤ on.getD k 0))
theorem allL_succ {fls : List Flaw} {ids on : List Int} {k : Nat} (h : k < fls.length) (h2 : k < on.length) : allL fls ids on (k + 1) = (allL fls ids on k && (!decide ((fls[k]).id ∈ ids) || decide (0 ≤ on[k]))) := by
  rw [allL, List.getD_eq_getElem?_getD, List.getD_eq_getElem?_getD, List.getElem?_eq_getElem h, List.getElem?_eq_getElem h2]; rfl
theorem allL_all {fls : List Flaw} {ids on : List Int} : ∀ n, allL fls ids on n = true → ∀ i, i < n → (h : i < on.length) → (h2 : i < fls.length) → (fls[i]).id ∈ ids → 0 ≤ on[i]
  | 0, _, i, hi, _, _, _ => by omega
  | n + 1, h, i, hi, h1, h2, hm => by
    rcases Nat.lt_or_ge i n with h3 | h3
    · rw [allL, Bool.and_eq_true] at h
      exact allL_all n h.1 i h3 h1 h2 hm
    · obtain rfl : i = n := by omega
      rw [allL_succ h2 h1] at h
      simp [hm] at h
      exact h.2
theorem fits_all {t : Tour} (hg : Good t) {ids on : List Int} {x : Int} (hl : t.listed ids = true) (hf : t.fits on = (x, true, 0)) {lo hi : Int} (hj : t.isJam ids lo hi = true) : on.length = t.flaws.length ∧ allL t.flaws ids on t.flaws.length = false := by
  rw [Tour.fits] at hf
  split at hf
  · cases hf
  split at hf
  · cases hf
  split at hf
  · cases hf
  rename_i h1 h2 h3
  have hlen : on.length = t.flaws.length := by omega
  refine ⟨hlen, ?_⟩
  rw [Bool.eq_false_iff]
  intro ha
  have hle := followL_le t.flaws on 0 (dayD t.days [t.closed])
  rw [fits_noJam hg hl hlen (by omega) (fun i h h2 hm => allL_all _ ha i h2 h h2 hm)] at hj
  cases hj
end Go.Proofs.Try
namespace Go.Proofs.Try
open Go Go.Am Go.RowKit
set_option maxRecDepth 100000


set_option maxHeartbeats 8000000 in
theorem law4_none {H : AHeap} {v lv ov : Value} {t : Tour} {ids on : List Int} {lo hi a : Int} (hv : TourV H v t) (hl : Ints H lv ids) (hcut : CutOk H lv) (ho : Ints H ov on) (ha : 0 ≤ a ∧ a ≤ 255) (h1 : t.few = true) (h2 : ¬ 60 < ids.length) (h3 : ¬ 60 < on.length) (he : errList t ids = 0) (hjam : t.jam ids = none) :
    CallS Try.prog [] 4 [v, lv, .agg #[.int .i64 lo, .int .i64 hi], ov, .int .u8 a] H fun r _ => r = .bool true := by
  have HV := Lib.hid hv
  have HL := Lib.hid hl
  have HO := Lib.hid ho
  have HCUT := Lib.hid hcut
  obtain ⟨cv, fv, rfl, hc, hf⟩ := hv
  obtain ⟨hcl', ca, cc, rfl⟩ := hc.slice
  obtain ⟨hfl, fa, fc, rfl⟩ := hf.slice
  obtain ⟨hll, la, lc, rfl⟩ := hl.slice
  obtain ⟨hol, oa, oc, rfl⟩ := ho.slice
  have HF := Lib.hid hf
  clear hc hf hl ho hcut
  have HFEW := Lib.hid (fun (loops : List (Nat × LInfo)) (H2 : AHeap) (hx : Ext H H2) => few_s (loops := loops) (HV.out.ext hx))
  rw [h1] at HFEW
  have h2b : ¬ (60 : Int) < (ids.length : Int) := by omega
  have h3b : ¬ (60 : Int) < (on.length : Int) := by omega
  have HCAN := Lib.hid (fun (loops : List (Nat × LInfo)) (H2 : AHeap) (hx : Ext H H2) => can_s (loops := loops) (HV.out.ext hx) (HL.out.ext hx))
  have HJAM := Lib.hid (fun (loops : List (Nat × LInfo)) (H2 : AHeap) (hx : Ext H H2) => jam_s (loops := loops) (HV.out.ext hx) (HL.out.ext hx))
  clear h1 h2 h3
  obtain ⟨hg, hlst⟩ := good_list he
  have HG := Lib.hid hg
  have HLST := Lib.hid hlst
  have HERR := Lib.hid he
  have HCK := Lib.hid (fun (loops : List (Nat × LInfo)) (H2 : AHeap) (x y : Int) (hx : Ext H H2) => checkJam_s (loops := loops) (lo := x) (hi := y) (HV.out.ext hx) (HL.out.ext hx))
  have HFI := Lib.hid (fun (loops : List (Nat × LInfo)) (H2 : AHeap) (hx : Ext H H2) => fits_s (loops := loops) (HV.out.ext hx) (HO.out.ext hx))
  have hcan : t.can ids = (t.jam ids).isNone := by rw [Tour.can, he]; rfl
  have hckj : ∀ x y, t.checkJam ids x y = if t.isJam ids x y = true then 0 else 8 := fun x y => by rw [Tour.checkJam, if_neg (by simp [he])]
  rw [hcan, he] at HCAN
  rw [he, if_pos rfl] at HJAM
  generalize hfits : t.fits on = ft at HFI
  have HFT := Lib.hid hfits
  obtain ⟨x1, x2, x3⟩ := ft
  have hjn : t.jam ids = none → ∀ x y, t.isJam ids x y = false := jam_none
  have hjs : ∀ x, t.jam ids = some x → t.isJam ids x.1 x.2 = true := fun x h => jam_some h
  rw [hjam] at HCAN HJAM hjn hjs
  have HJO := Lib.hid hjam
  clear hcan he hg hlst hfits hjam
  have hck2 : t.checkJam ids lo hi = 8 := by rw [hckj, hjn rfl lo hi]; rfl
  have HCK2 := Lib.hid (fun (loops : List (Nat × LInfo)) (H2 : AHeap) (hx : Ext H H2) => HCK.out loops H2 lo hi hx)
  rw [hck2] at HCK2
  rw [jamR] at HJAM
  rw [Option.isNone_none] at HCAN
  clear HCK hckj hjn hjs hck2
  refine CallS.enter' Try.func4 rfl Try.ntmps4 (by simp) fun f hd hf => ?_
  have f0 := hf 0
  have f1 := hf 1
  have f2 := hf 2
  have f3 := hf 3
  have f4 := hf 4
  simp at f0 f1 f2 f3 f4
  clear hf
  repeat' (first|((with_reducible refine stop_if (n := 13) ?_))|(with_reducible first|refine zA ?_|refine zB fun K hK=>?_|refine zC fun K2 hK2=>?_|refine zD ?_|refine zE ?_|refine zF ?_|refine zG ?_|refine zH ?_|refine zI ?_|refine zM ?_|refine zN ?_|refine zO ?_|refine zP ?_|refine zQ ?_|refine zR ?_)|((with_reducible refine zU (hK _ _ ?_));clear hK K)|((with_reducible refine zV ?_ ?_ fun K1 K3 d hdst h1 h3=>?_);rfl;exact yB rfl;cases hdst;go_simp)|((with_reducible refine zW fun K1 K3 h1 h3=>?_);go_simp)|((first|refine h1 ?_|refine h3 ?_);clear h1 h3 K1 K3)|((first|refine zX (fun hb=>h1 ?_) (fun hb=>h3 ?_)|refine zX (fun hb=>h3 ?_) (fun hb=>h1 ?_))<;>(clear h1 h3 K1 K3;(try have hb2:=yC hb);(try have hb2:=yD hb);(try have hb2:=yE hb);(try have hb2:=yF hb);(try have hb2:=yG hb)))|(refine fun (K2:_→AHeap→Prop) hK2=>?_)|((with_reducible refine zY ?_ ?_);decide)|((with_reducible first|refine zZ ?_ (fun K hK=>?_)|refine yA ?_ (fun K hK=>?_));(focus go_simp;done);go_simp;refine hK _ _ ?_;clear hK K)|(go_simp;(try go_bits);(try first |((with_reducible show CallS _ _ _ _ _ _);first|(refine CallS.mono head_s ?_; rintro _ _ ⟨rfl, h9⟩; rw [h9]; clear h9; go_simp)|(refine CallS.mono (HFEW.out _ _ (((Ext.refl _).push' _).push' _)) ?_; rintro _ _ ⟨rfl, h9⟩; rw [h9]; clear h9; go_simp)|(refine CallS.mono (HCAN.out _ _ (((Ext.refl _).push' _).push' _)) ?_; rintro _ _ ⟨rfl, h9⟩; rw [h9]; clear h9; go_simp)|(refine CallS.mono (HJAM.out _ _ (((Ext.refl _).push' _).push' _)) ?_; rintro _ _ ⟨rfl, h9⟩; rw [h9]; clear h9; go_simp)|(refine CallS.mono (HCK2.out _ _ ((((Ext.refl _).push' _).push' _).push' _)) ?_; rintro _ _ ⟨rfl, h9⟩; rw [h9]; clear h9; go_simp)|(refine CallS.mono (HFI.out _ _ ((((Ext.refl _).push' _).push' _).push' _)) ?_; rintro _ _ ⟨rfl, h9⟩; rw [h9]; clear h9; go_simp)));refine hK2 _ _ ?_;clear hK2 K2))
  have HXG : Hid (Ext H (((H.push (.row [.int .i64 t.days, .slice ca t.closed.length cc, .slice fa t.flaws.length fc] 25)).push (.row [.int .i64 lo, .int .i64 hi] 30)).push (.row [.int .i64 0, .int .i64 0] 30))) := Lib.hid ((((Ext.refl _).push' _).push' _).push' _)
  have hcs : cellsAt (((H.push (.row [.int .i64 t.days, .slice ca t.closed.length cc, .slice fa t.flaws.length fc] 25)).push (.row [.int .i64 lo, .int .i64 hi] 30)).push (.row [.int .i64 0, .int .i64 0] 30)) H.n 0 3 = some [.int .i64 t.days, .slice ca t.closed.length cc, .slice fa t.flaws.length fc] := by go_simp
  have hnG : H.n < (((H.push (.row [.int .i64 t.days, .slice ca t.closed.length cc, .slice fa t.flaws.length fc] 25)).push (.row [.int .i64 lo, .int .i64 hi] 30)).push (.row [.int .i64 0, .int .i64 0] 30)).n := by simp only [AHeap.n_push]; omega
  generalize (((H.push (.row [.int .i64 t.days, .slice ca t.closed.length cc, .slice fa t.flaws.length fc] 25)).push (.row [.int .i64 lo, .int .i64 hi] 30)).push (.row [.int .i64 0, .int .i64 0] 30)) = G at HXG hcs hnG ⊢
  refine ⟨CodeS.cut (fun f3 H3 => f3.tmp 1 = .slice la ids.length lc ∧ f3.tmp 4 = .int .u8 a ∧ f3.tmp 5 = .pointer (some ⟨H.n, 0, none⟩) ∧ f3.tmp 11 = .bool true ∧ f3.tmp 12 = .bool true ∧ f3.defers = [] ∧ H3 = G) ?_ ?_⟩
  · repeat' (first|(with_reducible first|refine zA ?_|refine zB fun K hK=>?_|refine zC fun K2 hK2=>?_|refine zD ?_|refine zE ?_|refine zF ?_|refine zG ?_|refine zH ?_|refine zI ?_|refine zM ?_|refine zN ?_|refine zO ?_|refine zP ?_|refine zQ ?_|refine zR ?_)|((with_reducible refine zU (hK _ _ ?_));clear hK K)|((with_reducible refine zV ?_ ?_ fun K1 K3 d hdst h1 h3=>?_);rfl;exact yB rfl;cases hdst;go_simp)|((with_reducible refine zW fun K1 K3 h1 h3=>?_);go_simp)|((first|refine h1 ?_|refine h3 ?_);clear h1 h3 K1 K3)|((first|refine zX (fun hb=>h1 ?_) (fun hb=>h3 ?_)|refine zX (fun hb=>h3 ?_) (fun hb=>h1 ?_))<;>(clear h1 h3 K1 K3;(try have hb2:=yC hb);(try have hb2:=yD hb);(try have hb2:=yE hb);(try have hb2:=yF hb);(try have hb2:=yG hb)))|(refine fun (K2:_→AHeap→Prop) hK2=>?_)|((with_reducible refine zY ?_ ?_);decide)|((with_reducible first|refine zZ ?_ (fun K hK=>?_)|refine yA ?_ (fun K hK=>?_));(focus go_simp;done);go_simp;refine hK _ _ ?_;clear hK K)|(go_simp;(try go_bits);refine hK2 _ _ ?_;clear hK2 K2))
    all_goals (refine ⟨(by first|go_simp<;>go_num|assumption), (by first|go_simp<;>go_num|assumption), (by first|go_simp<;>go_num|assumption), (by first|go_simp<;>go_num|assumption), (by first|go_simp<;>go_num|assumption), (by first|go_simp<;>go_num|assumption), rfl⟩)
  · clear f0 f1 f2 f3 f4 hd f
    rintro f H' ⟨f1, f4, f5, f11, f12, hd, rfl⟩
    by_cases hl0 : ids.length = 0
    · have hl0b : ((ids.length : Int) == 0) = true := by simp [hl0]
      clear hl0
      repeat' (first|(with_reducible first|refine zA ?_|refine zB fun K hK=>?_|refine zC fun K2 hK2=>?_|refine zD ?_|refine zE ?_|refine zF ?_|refine zG ?_|refine zH ?_|refine zI ?_|refine zM ?_|refine zN ?_|refine zO ?_|refine zP ?_|refine zQ ?_|refine zR ?_)|((with_reducible refine zU (hK _ _ ?_));clear hK K)|((with_reducible refine zV ?_ ?_ fun K1 K3 d hdst h1 h3=>?_);rfl;exact yB rfl;cases hdst;go_simp)|((with_reducible refine zW fun K1 K3 h1 h3=>?_);go_simp)|((first|refine h1 ?_|refine h3 ?_);clear h1 h3 K1 K3)|((first|refine zX (fun hb=>h1 ?_) (fun hb=>h3 ?_)|refine zX (fun hb=>h3 ?_) (fun hb=>h1 ?_))<;>(clear h1 h3 K1 K3;(try have hb2:=yC hb);(try have hb2:=yD hb);(try have hb2:=yE hb);(try have hb2:=yF hb);(try have hb2:=yG hb)))|(refine fun (K2:_→AHeap→Prop) hK2=>?_)|((with_reducible refine zY ?_ ?_);decide)|((with_reducible first|refine zZ ?_ (fun K hK=>?_)|refine yA ?_ (fun K hK=>?_));(focus go_simp;done);go_simp;refine hK _ _ ?_;clear hK K)|(go_simp;(try go_bits);refine hK2 _ _ ?_;clear hK2 K2))
      rfl
    · have hl0' : ¬ (ids.length : Int) = 0 := by omega
      have hl0b : ((ids.length : Int) == 0) = false := by simpa using hl0'
      obtain ⟨ha1, ha2⟩ := ha
      clear hl0b
      have hl0b : ((ids.length : Int) == 0) = false := by simpa using hl0'
      obtain ⟨k, hk⟩ : ∃ k : Nat, a % (ids.length : Int) = k := ⟨(a % (ids.length : Int)).toNat, by have := Int.emod_nonneg a (b := (ids.length : Int)) (by omega); omega⟩
      have hkl : k < ids.length := by have := Int.emod_lt_of_pos a (b := (ids.length : Int)) (by omega); omega
      have HK := Lib.hid hk
      obtain ⟨b, o, sp, rfl, hb, -⟩ := HL.out.at_ hkl
      obtain ⟨rfl, hlc, her⟩ := HCUT.out _ _ _ _ _ rfl (by omega)
      have hbG : b < H'.n := Nat.lt_of_lt_of_le hb HXG.out.n
      have hR0 : elemIsR H' b 3 = true := (elemIsR_get (HXG.out.get b hb)).trans her
      have hR1 : ∀ o, elemIsR (H'.push o) b 3 = true := fun o => (elemIsR_get (AHeap.get_push_old hbG)).trans hR0
      have HC1 : Hid (∀ H3 : AHeap, H3.get b = H'.get b → cellsAt H3 b o (k * 1) = some ((ids.take k).map (.int .i64)) ∨ k = 0) := Lib.hid (fun H3 h => by
        rcases Nat.eq_zero_or_pos k with h0 | h0
        · exact .inr h0
        · have := ints_part (HL.out.ext HXG.out) (by omega) 0 k h0 (by omega)
          rw [cellsAt_get h, Nat.mul_one]; left; simpa using this)
      have HC2 : Hid (∀ H3 : AHeap, H3.get b = H'.get b → 0 < ids.length - (k + 1) → cellsAt H3 b (o + (k + 1)) ((ids.length - (k + 1)) * 1) = some ((ids.drop (k + 1)).map (.int .i64))) := Lib.hid (fun H3 h h0 => by
        have := ints_part (HL.out.ext HXG.out) (by omega) (k + 1) (ids.length - (k + 1)) h0 (by omega)
        rw [List.take_of_length_le (by simp)] at this
        rw [cellsAt_get h, Nat.mul_one]; exact this)
      have HL1 : Hid (((ids.take k).map (Value.int .i64)).length = k * 1) := Lib.hid (by simp; omega)
      have HL2 : Hid (((ids.drop (k + 1)).map (Value.int .i64)).length = (ids.length - (k + 1)) * 1) := Lib.hid (by simp)
      have hkc : k ≤ lc := by omega
      have hc0 : 0 < lc := by omega
      have HSUB : Hid ((ids.take k ++ ids.drop (k + 1)).Sublist ids) := Lib.hid (by
        have h := List.take_append_drop k ids
        rw [List.drop_eq_getElem_cons hkl] at h
        conv => rhs; rw [← h]
        exact (List.sublist_cons_self _ _).append_left _)
      have HLL : Hid ((ids.take k ++ ids.drop (k + 1)).length ≤ 9223372036854775807) := Lib.hid (by simp; omega)
      have h60 : ids.length ≤ 60 := by omega
      have hwr : IntKind.i64.wrap ((k : Int) + 1) = (k : Int) + 1 := by rw [IntKind.wrap_i64]; omega
      clear hk hb her hl0
      repeat' (first|((with_reducible refine stop_region (n := 24) ?_))|(with_reducible first|refine zA ?_|refine zB fun K hK=>?_|refine zC fun K2 hK2=>?_|refine zD ?_|refine zE ?_|refine zF ?_|refine zG ?_|refine zH ?_|refine zI ?_|refine zM ?_|refine zN ?_|refine zO ?_|refine zP ?_|refine zQ ?_|refine zR ?_)|((with_reducible refine zU (hK _ _ ?_));clear hK K)|((with_reducible refine zV ?_ ?_ fun K1 K3 d hdst h1 h3=>?_);rfl;exact yB rfl;cases hdst;go_simp)|((with_reducible refine zW fun K1 K3 h1 h3=>?_);go_simp)|((first|refine h1 ?_|refine h3 ?_);clear h1 h3 K1 K3)|((first|refine zX (fun hb=>h1 ?_) (fun hb=>h3 ?_)|refine zX (fun hb=>h3 ?_) (fun hb=>h1 ?_))<;>(clear h1 h3 K1 K3;(try have hb2:=yC hb);(try have hb2:=yD hb);(try have hb2:=yE hb);(try have hb2:=yF hb);(try have hb2:=yG hb)))|(refine fun (K2:_→AHeap→Prop) hK2=>?_)|((with_reducible refine zY ?_ ?_);decide)|((with_reducible first|refine zZ ?_ (fun K hK=>?_)|refine yA ?_ (fun K hK=>?_));(focus go_simp;done);go_simp;refine hK _ _ ?_;clear hK K)|(go_simp;(try go_bits);(try first  | ((rw [aPlain_rem (a := a) (b := (ids.length : Int)) (by go_simp) (by go_simp) (by omega) (by omega), HK.out]); go_simp));refine hK2 _ _ ?_;clear hK2 K2))
      refine ⟨CodeS.mono (Q := LessQ H.n H' true (ids.take k ++ ids.drop (k + 1))) ?_ ?_⟩
      · have hke9 : ids.length < k + 1 ∨ k + 1 ≤ ids.length := by omega
        rcases Nat.eq_zero_or_pos k with hk0 | hk0
        case' inl =>
          have HK0 := Lib.hid hk0
          have HE0 : Hid (ids.take k = []) := Lib.hid (by rw [hk0]; rfl)
          clear HC1 hk0
          by_cases hk9 : k + 1 = ids.length
          case' pos =>
            have HE1 : Hid (ids.drop (k + 1) = []) := Lib.hid (List.drop_eq_nil_of_le (by omega))
            have HKE : Hid ((k : Int) + 1 = ((ids.length : Nat) : Int)) := Lib.hid (by omega)
            clear hk9 hke9 HC2
            repeat' (first|((with_reducible refine xA ?_ ?_); focus (go_simp; refine sliceHi_x (k := k) el22 sz3 (by first | exact hR0 | exact hR1 _ | exact hR7 | exact hR71 _) rfl hkc hc0 rfl; done)) | ((with_reducible refine xA ?_ ?_); focus (go_simp; refine sliceEnd_y (n := ids.length) el22 sz3 (by first | exact hR0 | exact hR1 _ | exact hR7 | exact hR71 _) HKE.out hc0 hlc rfl; done))|(with_reducible first|refine zA ?_|refine zB fun K hK=>?_|refine zC fun K2 hK2=>?_|refine zD ?_|refine zE ?_|refine zF ?_|refine zG ?_|refine zH ?_|refine zI ?_|refine zM ?_|refine zN ?_|refine zO ?_|refine zP ?_|refine zQ ?_|refine zR ?_)|((with_reducible refine zU (hK _ _ ?_));clear hK K)|((with_reducible refine zV ?_ ?_ fun K1 K3 d hdst h1 h3=>?_);rfl;exact yB rfl;cases hdst;go_simp)|((with_reducible refine zW fun K1 K3 h1 h3=>?_);go_simp)|((first|refine h1 ?_|refine h3 ?_);clear h1 h3 K1 K3)|((first|refine zX (fun hb=>h1 ?_) (fun hb=>h3 ?_)|refine zX (fun hb=>h3 ?_) (fun hb=>h1 ?_))<;>(clear h1 h3 K1 K3;(try have hb2:=yC hb);(try have hb2:=yD hb);(try have hb2:=yE hb);(try have hb2:=yF hb);(try have hb2:=yG hb)))|(refine fun (K2:_→AHeap→Prop) hK2=>?_)|((with_reducible refine zY ?_ ?_);decide)|((with_reducible first|refine zZ ?_ (fun K hK=>?_)|refine yA ?_ (fun K hK=>?_));(focus go_simp;done);go_simp;refine hK _ _ ?_;clear hK K)|((with_reducible refine yH mixed rfl ?_ 20 fun K0 hK0=>?_);kernel_rfl)|(with_reducible first|exact yI|exact yJ|refine yK ?_|refine yL ?_|refine yM ?_)|((with_reducible first|refine yN ?_ ?_|refine yO ?_ ?_|refine yP ?_ ?_);rfl)|((with_reducible refine yQ ?_ ?_);rfl;refine hK0 _ _ ?_;clear hK0 K0)|((with_reducible refine yR ?_ ?_ ?_ ?_);rfl;rfl;rfl)|((with_reducible refine yS ?_ ?_ ?_ fun K2 hK2=>?_);rfl;rfl;exact yB rfl)|((with_reducible refine yT ?_ ?_ ?_ ?_ fun K1 K3 d hdst h1 h3=>?_);rfl;rfl;rfl;exact yB rfl;cases hdst;go_simp)|((with_reducible refine yU ?_ ?_ ?_ ?_ fun K1 K3 d hdst h1 h3=>?_);rfl;rfl;rfl;exact yB rfl;cases hdst;go_simp)|((with_reducible refine yV ?_ ?_ (fun K2 hK2=>?_) ?_);rfl;exact yB rfl)|((with_reducible refine yW ?_ ?_ ?_ ?_ (fun K2 hK2=>?_) ?_);rfl;exact yB rfl;rfl;(focus go_simp;done))|((with_reducible refine yX ?_ ?_ ?_ (fun K2 hK2=>?_) ?_);rfl;rfl;exact yB rfl)|((with_reducible refine yY ?_ ?_ (fun K2 hK2=>?_) ?_);rfl;rfl)|((with_reducible refine yZ ?_ ?_);(first|rfl|(dsimp only;decide +kernel)))|((with_reducible refine xA ?_ ?_);(focus go_simp;done))|(go_simp;(try go_bits);(try first  | ((refine sliceHi_x (k := k) el22 sz3 (by first | exact hR0 | exact hR1 _ | exact hR7 | exact hR71 _) rfl hkc hc0 ?_); go_simp) | ((refine sliceEnd_y (n := ids.length) el22 sz3 (by first | exact hR0 | exact hR1 _ | exact hR7 | exact hR71 _) HKE.out hc0 hlc ?_); go_simp) | ((refine lit0_v el22 sz3 ze3 rfl (by decide) ?_); go_simp) | ((refine appendNil_v el22 sz3 (by rw [HK0.out]; exact srcCells_none) ?_); go_simp) | ((refine appendNil_v el22 sz3 srcEnd ?_); go_simp));(first|(refine hK2 _ _ ?_ ?_<;>clear hK2 K2)|(refine hK2 _ _ ?_;clear hK2 K2))))

            refine ⟨rfl, (by first|go_simp<;>go_num|assumption), (by first|go_simp<;>go_num|assumption), (by first|go_simp<;>go_num|assumption), (by first|go_simp<;>go_num|assumption), ⟨_, (by first|go_simp<;>go_num|assumption), ?_⟩, Ext.push _⟩
            rw [HE0.out, HE1.out]
            exact ⟨rfl, (by simp), _, _, rfl, (fun h => by cases h), fun h => absurd h (Nat.lt_irrefl _)⟩
          case' neg =>
            have hk1 : k + 1 < ids.length := by omega
            have HKI : Hid ((k : Int) + 1 = ((k + 1 : Nat) : Int)) := Lib.hid (by omega)
            have hm2 : 0 < ids.length - (k + 1) := by omega
            have HC2 := Lib.hid (fun H3 h => HC2.out H3 h hm2)
            clear hk9 hke9
            repeat' (first|((with_reducible refine xA ?_ ?_); focus (go_simp; refine sliceHi_x (k := k) el22 sz3 (by first | exact hR0 | exact hR1 _ | exact hR7 | exact hR71 _) rfl hkc hc0 rfl; done)) | ((with_reducible refine xA ?_ ?_); focus (go_simp; refine sliceLo_x (k := k + 1) el22 sz3 (by first | exact hR0 | exact hR1 _ | exact hR7 | exact hR71 _) HKI.out hk1 hlc ?_; rw [Nat.mul_one]; done))|(with_reducible first|refine zA ?_|refine zB fun K hK=>?_|refine zC fun K2 hK2=>?_|refine zD ?_|refine zE ?_|refine zF ?_|refine zG ?_|refine zH ?_|refine zI ?_|refine zM ?_|refine zN ?_|refine zO ?_|refine zP ?_|refine zQ ?_|refine zR ?_)|((with_reducible refine zU (hK _ _ ?_));clear hK K)|((with_reducible refine zV ?_ ?_ fun K1 K3 d hdst h1 h3=>?_);rfl;exact yB rfl;cases hdst;go_simp)|((with_reducible refine zW fun K1 K3 h1 h3=>?_);go_simp)|((first|refine h1 ?_|refine h3 ?_);clear h1 h3 K1 K3)|((first|refine zX (fun hb=>h1 ?_) (fun hb=>h3 ?_)|refine zX (fun hb=>h3 ?_) (fun hb=>h1 ?_))<;>(clear h1 h3 K1 K3;(try have hb2:=yC hb);(try have hb2:=yD hb);(try have hb2:=yE hb);(try have hb2:=yF hb);(try have hb2:=yG hb)))|(refine fun (K2:_→AHeap→Prop) hK2=>?_)|((with_reducible refine zY ?_ ?_);decide)|((with_reducible first|refine zZ ?_ (fun K hK=>?_)|refine yA ?_ (fun K hK=>?_));(focus go_simp;done);go_simp;refine hK _ _ ?_;clear hK K)|((with_reducible refine yH mixed rfl ?_ 20 fun K0 hK0=>?_);kernel_rfl)|(with_reducible first|exact yI|exact yJ|refine yK ?_|refine yL ?_|refine yM ?_)|((with_reducible first|refine yN ?_ ?_|refine yO ?_ ?_|refine yP ?_ ?_);rfl)|((with_reducible refine yQ ?_ ?_);rfl;refine hK0 _ _ ?_;clear hK0 K0)|((with_reducible refine yR ?_ ?_ ?_ ?_);rfl;rfl;rfl)|((with_reducible refine yS ?_ ?_ ?_ fun K2 hK2=>?_);rfl;rfl;exact yB rfl)|((with_reducible refine yT ?_ ?_ ?_ ?_ fun K1 K3 d hdst h1 h3=>?_);rfl;rfl;rfl;exact yB rfl;cases hdst;go_simp)|((with_reducible refine yU ?_ ?_ ?_ ?_ fun K1 K3 d hdst h1 h3=>?_);rfl;rfl;rfl;exact yB rfl;cases hdst;go_simp)|((with_reducible refine yV ?_ ?_ (fun K2 hK2=>?_) ?_);rfl;exact yB rfl)|((with_reducible refine yW ?_ ?_ ?_ ?_ (fun K2 hK2=>?_) ?_);rfl;exact yB rfl;rfl;(focus go_simp;done))|((with_reducible refine yX ?_ ?_ ?_ (fun K2 hK2=>?_) ?_);rfl;rfl;exact yB rfl)|((with_reducible refine yY ?_ ?_ (fun K2 hK2=>?_) ?_);rfl;rfl)|((with_reducible refine yZ ?_ ?_);(first|rfl|(dsimp only;decide +kernel)))|((with_reducible refine xA ?_ ?_);(focus go_simp;done))|(go_simp;(try go_bits);(try first  | ((refine sliceHi_x (k := k) el22 sz3 (by first | exact hR0 | exact hR1 _ | exact hR7 | exact hR71 _) rfl hkc hc0 ?_); go_simp) | ((refine sliceLo_x (k := k + 1) el22 sz3 (by first | exact hR0 | exact hR1 _ | exact hR7 | exact hR71 _) HKI.out hk1 hlc ?_); go_simp) | ((refine lit0_v el22 sz3 ze3 rfl (by decide) ?_); go_simp) | ((refine appendNil_v el22 sz3 (by rw [HK0.out]; exact srcCells_none) ?_); go_simp) | ((refine append0_v (b := H'.n) el22 sz3 by3 ze3 rfl (by decide) AHeap.get_push_new (srcCells_some hm2 (HC2.out _ (AHeap.get_push_old hbG))) hm2 HL2.out oneV_list_int (by rw [HL2.out]; show (ids.length - (k + 1)) * 1 * 8 ≤ 1073741824; omega) fun H7 hn7 hg7 hk7 => ?_); (have HO7 := Lib.hid hg7); (have HN7 := Lib.hid hn7); (have HX7 := Lib.hid (grown_ext (Ext.push _) (Nat.le_refl _) hn7 hk7)); clear hn7 hg7 hk7; go_simp));(first|(refine hK2 _ _ ?_ ?_<;>clear hK2 K2)|(refine hK2 _ _ ?_;clear hK2 K2))))

            refine ⟨rfl, (by first|go_simp<;>go_num|assumption), (by first|go_simp<;>go_num|assumption), (by first|go_simp<;>go_num|assumption), (by first|go_simp<;>go_num|assumption), ⟨_, (by first|go_simp<;>go_num|assumption), ?_⟩, HX7.out⟩
            rw [HE0.out, List.nil_append]
            exact own_ints (own_new (base := 0) (size := 1) (Nat.zero_le _) (by rw [HN7.out, AHeap.n_push]; omega) HO7.out HL2.out hm2) (by simp; omega)
        case' inr =>
          have HKP := Lib.hid hk0
          have HC1 := Lib.hid (fun H3 h => (HC1.out H3 h).resolve_right (by omega))
          clear hk0
          by_cases hk9 : k + 1 = ids.length
          case' pos =>
            have HE1 : Hid (ids.drop (k + 1) = []) := Lib.hid (List.drop_eq_nil_of_le (by omega))
            have HKE : Hid ((k : Int) + 1 = ((ids.length : Nat) : Int)) := Lib.hid (by omega)
            clear hk9 hke9 HC2
            repeat' (first|((with_reducible refine xA ?_ ?_); focus (go_simp; refine sliceHi_x (k := k) el22 sz3 (by first | exact hR0 | exact hR1 _ | exact hR7 | exact hR71 _) rfl hkc hc0 rfl; done)) | ((with_reducible refine xA ?_ ?_); focus (go_simp; refine sliceEnd_y (n := ids.length) el22 sz3 (by first | exact hR0 | exact hR1 _ | exact hR7 | exact hR71 _) HKE.out hc0 hlc rfl; done))|(with_reducible first|refine zA ?_|refine zB fun K hK=>?_|refine zC fun K2 hK2=>?_|refine zD ?_|refine zE ?_|refine zF ?_|refine zG ?_|refine zH ?_|refine zI ?_|refine zM ?_|refine zN ?_|refine zO ?_|refine zP ?_|refine zQ ?_|refine zR ?_)|((with_reducible refine zU (hK _ _ ?_));clear hK K)|((with_reducible refine zV ?_ ?_ fun K1 K3 d hdst h1 h3=>?_);rfl;exact yB rfl;cases hdst;go_simp)|((with_reducible refine zW fun K1 K3 h1 h3=>?_);go_simp)|((first|refine h1 ?_|refine h3 ?_);clear h1 h3 K1 K3)|((first|refine zX (fun hb=>h1 ?_) (fun hb=>h3 ?_)|refine zX (fun hb=>h3 ?_) (fun hb=>h1 ?_))<;>(clear h1 h3 K1 K3;(try have hb2:=yC hb);(try have hb2:=yD hb);(try have hb2:=yE hb);(try have hb2:=yF hb);(try have hb2:=yG hb)))|(refine fun (K2:_→AHeap→Prop) hK2=>?_)|((with_reducible refine zY ?_ ?_);decide)|((with_reducible first|refine zZ ?_ (fun K hK=>?_)|refine yA ?_ (fun K hK=>?_));(focus go_simp;done);go_simp;refine hK _ _ ?_;clear hK K)|((with_reducible refine yH mixed rfl ?_ 20 fun K0 hK0=>?_);kernel_rfl)|(with_reducible first|exact yI|exact yJ|refine yK ?_|refine yL ?_|refine yM ?_)|((with_reducible first|refine yN ?_ ?_|refine yO ?_ ?_|refine yP ?_ ?_);rfl)|((with_reducible refine yQ ?_ ?_);rfl;refine hK0 _ _ ?_;clear hK0 K0)|((with_reducible refine yR ?_ ?_ ?_ ?_);rfl;rfl;rfl)|((with_reducible refine yS ?_ ?_ ?_ fun K2 hK2=>?_);rfl;rfl;exact yB rfl)|((with_reducible refine yT ?_ ?_ ?_ ?_ fun K1 K3 d hdst h1 h3=>?_);rfl;rfl;rfl;exact yB rfl;cases hdst;go_simp)|((with_reducible refine yU ?_ ?_ ?_ ?_ fun K1 K3 d hdst h1 h3=>?_);rfl;rfl;rfl;exact yB rfl;cases hdst;go_simp)|((with_reducible refine yV ?_ ?_ (fun K2 hK2=>?_) ?_);rfl;exact yB rfl)|((with_reducible refine yW ?_ ?_ ?_ ?_ (fun K2 hK2=>?_) ?_);rfl;exact yB rfl;rfl;(focus go_simp;done))|((with_reducible refine yX ?_ ?_ ?_ (fun K2 hK2=>?_) ?_);rfl;rfl;exact yB rfl)|((with_reducible refine yY ?_ ?_ (fun K2 hK2=>?_) ?_);rfl;rfl)|((with_reducible refine yZ ?_ ?_);(first|rfl|(dsimp only;decide +kernel)))|((with_reducible refine xA ?_ ?_);(focus go_simp;done))|(go_simp;(try go_bits);(try first  | ((refine sliceHi_x (k := k) el22 sz3 (by first | exact hR0 | exact hR1 _ | exact hR7 | exact hR71 _) rfl hkc hc0 ?_); go_simp) | ((refine sliceEnd_y (n := ids.length) el22 sz3 (by first | exact hR0 | exact hR1 _ | exact hR7 | exact hR71 _) HKE.out hc0 hlc ?_); go_simp) | ((refine lit0_v el22 sz3 ze3 rfl (by decide) ?_); go_simp) | ((refine append0_v (b := H'.n) el22 sz3 by3 ze3 rfl (by decide) AHeap.get_push_new (srcCells_some HKP.out (HC1.out _ (AHeap.get_push_old hbG))) HKP.out HL1.out oneV_list_int (by rw [HL1.out]; show k * 1 * 8 ≤ 1073741824; omega) fun H7 hn7 hg7 hk7 => ?_); (have HO7 := Lib.hid (own_new (base := H'.n) (size := 1) (by rw [AHeap.n_push]; omega) (by omega) hg7 HL1.out HKP.out)); (have HX7 := Lib.hid (grown_ext (Ext.push _) (Nat.le_refl _) hn7 hk7)); (have hR7 : elemIsR H7 b 3 = true := (elemIsR_get (HX7.out.get b hbG)).trans hR0); (have hG7 : H'.n ≤ H7.n := HX7.out.n); clear hn7 hg7 hk7; go_simp) | ((refine appendNil_v el22 sz3 srcEnd ?_); go_simp));(first|(refine hK2 _ _ ?_ ?_<;>clear hK2 K2)|(refine hK2 _ _ ?_;clear hK2 K2))))

            refine ⟨rfl, (by first|go_simp<;>go_num|assumption), (by first|go_simp<;>go_num|assumption), (by first|go_simp<;>go_num|assumption), (by first|go_simp<;>go_num|assumption), ⟨_, (by first|go_simp<;>go_num|assumption), ?_⟩, HX7.out⟩
            rw [HE1.out, List.append_nil]
            exact own_ints HO7.out (by simp; omega)
          case' neg =>
            have hk1 : k + 1 < ids.length := by omega
            have HKI : Hid ((k : Int) + 1 = ((k + 1 : Nat) : Int)) := Lib.hid (by omega)
            have hm2 : 0 < ids.length - (k + 1) := by omega
            have HC2 := Lib.hid (fun H3 h => HC2.out H3 h hm2)
            clear hk9 hke9
            repeat' (first|((with_reducible refine xA ?_ ?_); focus (go_simp; refine sliceHi_x (k := k) el22 sz3 (by first | exact hR0 | exact hR1 _ | exact hR7 | exact hR71 _) rfl hkc hc0 rfl; done)) | ((with_reducible refine xA ?_ ?_); focus (go_simp; refine sliceLo_x (k := k + 1) el22 sz3 (by first | exact hR0 | exact hR1 _ | exact hR7 | exact hR71 _) HKI.out hk1 hlc ?_; rw [Nat.mul_one]; done))|(with_reducible first|refine zA ?_|refine zB fun K hK=>?_|refine zC fun K2 hK2=>?_|refine zD ?_|refine zE ?_|refine zF ?_|refine zG ?_|refine zH ?_|refine zI ?_|refine zM ?_|refine zN ?_|refine zO ?_|refine zP ?_|refine zQ ?_|refine zR ?_)|((with_reducible refine zU (hK _ _ ?_));clear hK K)|((with_reducible refine zV ?_ ?_ fun K1 K3 d hdst h1 h3=>?_);rfl;exact yB rfl;cases hdst;go_simp)|((with_reducible refine zW fun K1 K3 h1 h3=>?_);go_simp)|((first|refine h1 ?_|refine h3 ?_);clear h1 h3 K1 K3)|((first|refine zX (fun hb=>h1 ?_) (fun hb=>h3 ?_)|refine zX (fun hb=>h3 ?_) (fun hb=>h1 ?_))<;>(clear h1 h3 K1 K3;(try have hb2:=yC hb);(try have hb2:=yD hb);(try have hb2:=yE hb);(try have hb2:=yF hb);(try have hb2:=yG hb)))|(refine fun (K2:_→AHeap→Prop) hK2=>?_)|((with_reducible refine zY ?_ ?_);decide)|((with_reducible first|refine zZ ?_ (fun K hK=>?_)|refine yA ?_ (fun K hK=>?_));(focus go_simp;done);go_simp;refine hK _ _ ?_;clear hK K)|((with_reducible refine yH mixed rfl ?_ 20 fun K0 hK0=>?_);kernel_rfl)|(with_reducible first|exact yI|exact yJ|refine yK ?_|refine yL ?_|refine yM ?_)|((with_reducible first|refine yN ?_ ?_|refine yO ?_ ?_|refine yP ?_ ?_);rfl)|((with_reducible refine yQ ?_ ?_);rfl;refine hK0 _ _ ?_;clear hK0 K0)|((with_reducible refine yR ?_ ?_ ?_ ?_);rfl;rfl;rfl)|((with_reducible refine yS ?_ ?_ ?_ fun K2 hK2=>?_);rfl;rfl;exact yB rfl)|((with_reducible refine yT ?_ ?_ ?_ ?_ fun K1 K3 d hdst h1 h3=>?_);rfl;rfl;rfl;exact yB rfl;cases hdst;go_simp)|((with_reducible refine yU ?_ ?_ ?_ ?_ fun K1 K3 d hdst h1 h3=>?_);rfl;rfl;rfl;exact yB rfl;cases hdst;go_simp)|((with_reducible refine yV ?_ ?_ (fun K2 hK2=>?_) ?_);rfl;exact yB rfl)|((with_reducible refine yW ?_ ?_ ?_ ?_ (fun K2 hK2=>?_) ?_);rfl;exact yB rfl;rfl;(focus go_simp;done))|((with_reducible refine yX ?_ ?_ ?_ (fun K2 hK2=>?_) ?_);rfl;rfl;exact yB rfl)|((with_reducible refine yY ?_ ?_ (fun K2 hK2=>?_) ?_);rfl;rfl)|((with_reducible refine yZ ?_ ?_);(first|rfl|(dsimp only;decide +kernel)))|((with_reducible refine xA ?_ ?_);(focus go_simp;done))|(go_simp;(try go_bits);(try first  | ((refine sliceHi_x (k := k) el22 sz3 (by first | exact hR0 | exact hR1 _ | exact hR7 | exact hR71 _) rfl hkc hc0 ?_); go_simp) | ((refine sliceLo_x (k := k + 1) el22 sz3 (by first | exact hR0 | exact hR1 _ | exact hR7 | exact hR71 _) HKI.out hk1 hlc ?_); go_simp) | ((refine lit0_v el22 sz3 ze3 rfl (by decide) ?_); go_simp) | ((refine append0_v (b := H'.n) el22 sz3 by3 ze3 rfl (by decide) AHeap.get_push_new (srcCells_some HKP.out (HC1.out _ (AHeap.get_push_old hbG))) HKP.out HL1.out oneV_list_int (by rw [HL1.out]; show k * 1 * 8 ≤ 1073741824; omega) fun H7 hn7 hg7 hk7 => ?_); (have HO7 := Lib.hid (own_new (base := H'.n) (size := 1) (by rw [AHeap.n_push]; omega) (by omega) hg7 HL1.out HKP.out)); (have HX7 := Lib.hid (grown_ext (Ext.push _) (Nat.le_refl _) hn7 hk7)); (have hR7 : elemIsR H7 b 3 = true := (elemIsR_get (HX7.out.get b hbG)).trans hR0); (have hG7 : H'.n ≤ H7.n := HX7.out.n); clear hn7 hg7 hk7; go_simp) | ((refine append_v el22 sz3 by3 ze3 rfl (by decide) HO7.out (srcCells_some hm2 (HC2.out _ (HX7.out.get b hbG))) hm2 HL2.out (by rw [List.all_append, oneV_list_int, oneV_list_int]; rfl) (by rw [HL1.out, HL2.out]; show (k * 1 + (ids.length - (k + 1)) * 1) * 8 ≤ 1073741824; omega) hG7 fun v2 H8 ho8 hg8 => ?_); (have HO8 := Lib.hid ho8); (have HG8 := Lib.hid hg8); clear ho8 hg8; go_simp));(first|(refine hK2 _ _ ?_ ?_<;>clear hK2 K2)|(refine hK2 _ _ ?_;clear hK2 K2))))

            refine ⟨rfl, (by first|go_simp<;>go_num|assumption), (by first|go_simp<;>go_num|assumption), (by first|go_simp<;>go_num|assumption), (by first|go_simp<;>go_num|assumption), ⟨_, (by first|go_simp<;>go_num|assumption), ?_⟩, ⟨Nat.le_trans HX7.out.n HG8.out.1, fun i hi => (HG8.out.2 i (Nat.lt_of_lt_of_le hi HX7.out.n) (fun b n hv hn e => by cases hv; (try simp only [AHeap.n_push] at e); omega)).trans (HX7.out.get i hi)⟩⟩
            have h88 := HO8.out
            rw [← List.map_append] at h88
            exact own_ints h88 HLL.out
      · rintro _ f3 H3 ⟨rfl, f5, f11, f12, hd, ⟨lv', f23, hlv⟩, hx3⟩
        have HLV := Lib.hid hlv
        have HX3 := Lib.hid hx3
        clear hlv hx3
        refine Post.then_normal ?_
        have hcs3 : cellsAt H3 H.n 0 3 = some [.int .i64 t.days, .slice ca t.closed.length cc, .slice fa t.flaws.length fc] := (HX3.out.cellsAt hnG).trans hcs
        have hel : errList t (ids.take k ++ ids.drop (k + 1)) = 0 := errList_sub HERR.out HSUB.out
        have hcl : t.can (ids.take k ++ ids.drop (k + 1)) = true := can_sub HERR.out HSUB.out HJO.out
        have HCL := Lib.hid (can_s (loops := []) (HV.out.ext (HXG.out.trans HX3.out)) HLV.out)
        rw [hel, hcl] at HCL
        repeat' (first|(with_reducible first|refine zA ?_|refine zB fun K hK=>?_|refine zC fun K2 hK2=>?_|refine zD ?_|refine zE ?_|refine zF ?_|refine zG ?_|refine zH ?_|refine zI ?_|refine zM ?_|refine zN ?_|refine zO ?_|refine zP ?_|refine zQ ?_|refine zR ?_)|((with_reducible refine zU (hK _ _ ?_));clear hK K)|((with_reducible refine zV ?_ ?_ fun K1 K3 d hdst h1 h3=>?_);rfl;exact yB rfl;cases hdst;go_simp)|((with_reducible refine zW fun K1 K3 h1 h3=>?_);go_simp)|((first|refine h1 ?_|refine h3 ?_);clear h1 h3 K1 K3)|((first|refine zX (fun hb=>h1 ?_) (fun hb=>h3 ?_)|refine zX (fun hb=>h3 ?_) (fun hb=>h1 ?_))<;>(clear h1 h3 K1 K3;(try have hb2:=yC hb);(try have hb2:=yD hb);(try have hb2:=yE hb);(try have hb2:=yF hb);(try have hb2:=yG hb)))|(refine fun (K2:_→AHeap→Prop) hK2=>?_)|((with_reducible refine zY ?_ ?_);decide)|((with_reducible first|refine zZ ?_ (fun K hK=>?_)|refine yA ?_ (fun K hK=>?_));(focus go_simp;done);go_simp;refine hK _ _ ?_;clear hK K)|(go_simp;(try go_bits);(try first | ((with_reducible show CallS _ _ _ _ _ _);refine CallS.mono HCL.out ?_; rintro _ _ ⟨rfl, h9⟩; rw [h9]; clear h9; go_simp));refine hK2 _ _ ?_;clear hK2 K2))
        all_goals rfl
end Go.Proofs.Try
namespace Go.Proofs.Try
open Go Go.Am Go.RowKit
set_option maxRecDepth 100000


set_option maxHeartbeats 8000000 in
theorem law4_some {H : AHeap} {v lv ov : Value} {t : Tour} {ids on : List Int} {lo hi a : Int} (hv : TourV H v t) (hl : Ints H lv ids) (hcut : CutOk H lv) (ho : Ints H ov on) (ha : 0 ≤ a ∧ a ≤ 255) (h1 : t.few = true) (h2 : ¬ 60 < ids.length) (h3 : ¬ 60 < on.length) (he : errList t ids = 0) {xl xh : Nat} (hjam : t.jam ids = some (xl, xh)) :
    CallS Try.prog [] 4 [v, lv, .agg #[.int .i64 lo, .int .i64 hi], ov, .int .u8 a] H fun r _ => r = .bool true := by
  have HV := Lib.hid hv
  have HL := Lib.hid hl
  have HO := Lib.hid ho
  have HCUT := Lib.hid hcut
  obtain ⟨cv, fv, rfl, hc, hf⟩ := hv
  obtain ⟨hcl', ca, cc, rfl⟩ := hc.slice
  obtain ⟨hfl, fa, fc, rfl⟩ := hf.slice
  obtain ⟨hll, la, lc, rfl⟩ := hl.slice
  obtain ⟨hol, oa, oc, rfl⟩ := ho.slice
  have HF := Lib.hid hf
  clear hc hf hl ho hcut
  have HFEW := Lib.hid (fun (loops : List (Nat × LInfo)) (H2 : AHeap) (hx : Ext H H2) => few_s (loops := loops) (HV.out.ext hx))
  rw [h1] at HFEW
  have h2b : ¬ (60 : Int) < (ids.length : Int) := by omega
  have h3b : ¬ (60 : Int) < (on.length : Int) := by omega
  have HCAN := Lib.hid (fun (loops : List (Nat × LInfo)) (H2 : AHeap) (hx : Ext H H2) => can_s (loops := loops) (HV.out.ext hx) (HL.out.ext hx))
  have HJAM := Lib.hid (fun (loops : List (Nat × LInfo)) (H2 : AHeap) (hx : Ext H H2) => jam_s (loops := loops) (HV.out.ext hx) (HL.out.ext hx))
  clear h1 h2 h3
  obtain ⟨hg, hlst⟩ := good_list he
  have HG := Lib.hid hg
  have HLST := Lib.hid hlst
  have HERR := Lib.hid he
  have HCK := Lib.hid (fun (loops : List (Nat × LInfo)) (H2 : AHeap) (x y : Int) (hx : Ext H H2) => checkJam_s (loops := loops) (lo := x) (hi := y) (HV.out.ext hx) (HL.out.ext hx))
  have HFI := Lib.hid (fun (loops : List (Nat × LInfo)) (H2 : AHeap) (hx : Ext H H2) => fits_s (loops := loops) (HV.out.ext hx) (HO.out.ext hx))
  have hcan : t.can ids = (t.jam ids).isNone := by rw [Tour.can, he]; rfl
  have hckj : ∀ x y, t.checkJam ids x y = if t.isJam ids x y = true then 0 else 8 := fun x y => by rw [Tour.checkJam, if_neg (by simp [he])]
  rw [hcan, he] at HCAN
  rw [he, if_pos rfl] at HJAM
  generalize hfits : t.fits on = ft at HFI
  have HFT := Lib.hid hfits
  obtain ⟨x1, x2, x3⟩ := ft
  have hjn : t.jam ids = none → ∀ x y, t.isJam ids x y = false := jam_none
  have hjs : ∀ x, t.jam ids = some x → t.isJam ids x.1 x.2 = true := fun x h => jam_some h
  rw [hjam] at HCAN HJAM hjn hjs
  have HJO := Lib.hid hjam
  clear hcan he hg hlst hfits hjam
  have hckx : t.checkJam ids xl xh = 0 := by rw [hckj, if_pos (hjs _ rfl)]
  have HCKX := Lib.hid (fun (loops : List (Nat × LInfo)) (H2 : AHeap) (hx : Ext H H2) => HCK.out loops H2 xl xh hx)
  rw [hckx] at HCKX
  have HCKS := Lib.hid (fun (loops : List (Nat × LInfo)) (H2 : AHeap) (hx : Ext H H2) => HCK.out loops H2 lo hi hx)
  have hcks : t.checkJam ids lo hi = 0 ∨ t.checkJam ids lo hi = 8 := by rw [hckj]; split <;> simp
  generalize t.checkJam ids lo hi = cj at HCKS hcks
  rw [jamR] at HJAM
  rw [Option.isNone_some] at HCAN
  have HJX : Hid (t.isJam ids xl xh = true) := Lib.hid (hjs _ rfl)
  have HCS := Lib.hid hcks
  clear HCK hckj hjn hjs hckx hcks
  refine CallS.enter' Try.func4 rfl Try.ntmps4 (by simp) fun f hd hf => ?_
  have f0 := hf 0
  have f1 := hf 1
  have f2 := hf 2
  have f3 := hf 3
  have f4 := hf 4
  simp at f0 f1 f2 f3 f4
  clear hf
  repeat' (first|((with_reducible refine stop_if (n := 10) ?_))|(with_reducible first|refine zA ?_|refine zB fun K hK=>?_|refine zC fun K2 hK2=>?_|refine zD ?_|refine zE ?_|refine zF ?_|refine zG ?_|refine zH ?_|refine zI ?_|refine zM ?_|refine zN ?_|refine zO ?_|refine zP ?_|refine zQ ?_|refine zR ?_)|((with_reducible refine zU (hK _ _ ?_));clear hK K)|((with_reducible refine zV ?_ ?_ fun K1 K3 d hdst h1 h3=>?_);rfl;exact yB rfl;cases hdst;go_simp)|((with_reducible refine zW fun K1 K3 h1 h3=>?_);go_simp)|((first|refine h1 ?_|refine h3 ?_);clear h1 h3 K1 K3)|((first|refine zX (fun hb=>h1 ?_) (fun hb=>h3 ?_)|refine zX (fun hb=>h3 ?_) (fun hb=>h1 ?_))<;>(clear h1 h3 K1 K3;(try have hb2:=yC hb);(try have hb2:=yD hb);(try have hb2:=yE hb);(try have hb2:=yF hb);(try have hb2:=yG hb)))|(refine fun (K2:_→AHeap→Prop) hK2=>?_)|((with_reducible refine zY ?_ ?_);decide)|((with_reducible first|refine zZ ?_ (fun K hK=>?_)|refine yA ?_ (fun K hK=>?_));(focus go_simp;done);go_simp;refine hK _ _ ?_;clear hK K)|(go_simp;(try go_bits);(try first |((with_reducible show CallS _ _ _ _ _ _);first|(refine CallS.mono head_s ?_; rintro _ _ ⟨rfl, h9⟩; rw [h9]; clear h9; go_simp)|(refine CallS.mono (HFEW.out _ _ (((Ext.refl _).push' _).push' _)) ?_; rintro _ _ ⟨rfl, h9⟩; rw [h9]; clear h9; go_simp)|(refine CallS.mono (HCAN.out _ _ (((Ext.refl _).push' _).push' _)) ?_; rintro _ _ ⟨rfl, h9⟩; rw [h9]; clear h9; go_simp)|(refine CallS.mono (HJAM.out _ _ (((Ext.refl _).push' _).push' _)) ?_; rintro _ _ ⟨rfl, h9⟩; rw [h9]; clear h9; go_simp)));refine hK2 _ _ ?_;clear hK2 K2))
  refine ⟨CodeS.cut (fun f3 H3 => f3.tmp 1 = .slice la ids.length lc ∧ f3.tmp 3 = .slice oa on.length oc ∧ f3.tmp 4 = .int .u8 a ∧ f3.tmp 5 = .pointer (some ⟨H.n, 0, none⟩) ∧ f3.tmp 11 = .bool true ∧ f3.tmp 12 = .bool false ∧ f3.defers = [] ∧ H3 = (((H.push (.row [.int .i64 t.days, .slice ca t.closed.length cc, .slice fa t.flaws.length fc] 25)).push (.row [.int .i64 lo, .int .i64 hi] 30)).push (.row [.int .i64 xl, .int .i64 xh] 30))) ?_ ?_⟩
  · rcases HCS.out with h10 | h10
    · rw [h10] at HCKS
      clear h10
      repeat' (first|(with_reducible first|refine zA ?_|refine zB fun K hK=>?_|refine zC fun K2 hK2=>?_|refine zD ?_|refine zE ?_|refine zF ?_|refine zG ?_|refine zH ?_|refine zI ?_|refine zM ?_|refine zN ?_|refine zO ?_|refine zP ?_|refine zQ ?_|refine zR ?_)|((with_reducible refine zU (hK _ _ ?_));clear hK K)|((with_reducible refine zV ?_ ?_ fun K1 K3 d hdst h1 h3=>?_);rfl;exact yB rfl;cases hdst;go_simp)|((with_reducible refine zW fun K1 K3 h1 h3=>?_);go_simp)|((first|refine h1 ?_|refine h3 ?_);clear h1 h3 K1 K3)|((first|refine zX (fun hb=>h1 ?_) (fun hb=>h3 ?_)|refine zX (fun hb=>h3 ?_) (fun hb=>h1 ?_))<;>(clear h1 h3 K1 K3;(try have hb2:=yC hb);(try have hb2:=yD hb);(try have hb2:=yE hb);(try have hb2:=yF hb);(try have hb2:=yG hb)))|(refine fun (K2:_→AHeap→Prop) hK2=>?_)|((with_reducible refine zY ?_ ?_);decide)|((with_reducible first|refine zZ ?_ (fun K hK=>?_)|refine yA ?_ (fun K hK=>?_));(focus go_simp;done);go_simp;refine hK _ _ ?_;clear hK K)|(go_simp;(try go_bits);(try first |((with_reducible show CallS _ _ _ _ _ _);first|(refine CallS.mono (HCKX.out _ _ ((((Ext.refl _).push' _).push' _).push' _)) ?_; rintro _ _ ⟨rfl, h9⟩; rw [h9]; clear h9; go_simp)|(refine CallS.mono (HCKS.out _ _ ((((Ext.refl _).push' _).push' _).push' _)) ?_; rintro _ _ ⟨rfl, h9⟩; rw [h9]; clear h9; go_simp)));refine hK2 _ _ ?_;clear hK2 K2))
      all_goals (refine ⟨(by first|go_simp<;>go_num|assumption), (by first|go_simp<;>go_num|assumption), (by first|go_simp<;>go_num|assumption), (by first|go_simp<;>go_num|assumption), (by first|go_simp<;>go_num|assumption), (by first|go_simp<;>go_num|assumption), (by first|go_simp<;>go_num|assumption), rfl⟩)
    · rw [h10] at HCKS
      clear h10
      repeat' (first|(with_reducible first|refine zA ?_|refine zB fun K hK=>?_|refine zC fun K2 hK2=>?_|refine zD ?_|refine zE ?_|refine zF ?_|refine zG ?_|refine zH ?_|refine zI ?_|refine zM ?_|refine zN ?_|refine zO ?_|refine zP ?_|refine zQ ?_|refine zR ?_)|((with_reducible refine zU (hK _ _ ?_));clear hK K)|((with_reducible refine zV ?_ ?_ fun K1 K3 d hdst h1 h3=>?_);rfl;exact yB rfl;cases hdst;go_simp)|((with_reducible refine zW fun K1 K3 h1 h3=>?_);go_simp)|((first|refine h1 ?_|refine h3 ?_);clear h1 h3 K1 K3)|((first|refine zX (fun hb=>h1 ?_) (fun hb=>h3 ?_)|refine zX (fun hb=>h3 ?_) (fun hb=>h1 ?_))<;>(clear h1 h3 K1 K3;(try have hb2:=yC hb);(try have hb2:=yD hb);(try have hb2:=yE hb);(try have hb2:=yF hb);(try have hb2:=yG hb)))|(refine fun (K2:_→AHeap→Prop) hK2=>?_)|((with_reducible refine zY ?_ ?_);decide)|((with_reducible first|refine zZ ?_ (fun K hK=>?_)|refine yA ?_ (fun K hK=>?_));(focus go_simp;done);go_simp;refine hK _ _ ?_;clear hK K)|(go_simp;(try go_bits);(try first |((with_reducible show CallS _ _ _ _ _ _);first|(refine CallS.mono (HCKX.out _ _ ((((Ext.refl _).push' _).push' _).push' _)) ?_; rintro _ _ ⟨rfl, h9⟩; rw [h9]; clear h9; go_simp)|(refine CallS.mono (HCKS.out _ _ ((((Ext.refl _).push' _).push' _).push' _)) ?_; rintro _ _ ⟨rfl, h9⟩; rw [h9]; clear h9; go_simp)));refine hK2 _ _ ?_;clear hK2 K2))
      all_goals (refine ⟨(by first|go_simp<;>go_num|assumption), (by first|go_simp<;>go_num|assumption), (by first|go_simp<;>go_num|assumption), (by first|go_simp<;>go_num|assumption), (by first|go_simp<;>go_num|assumption), (by first|go_simp<;>go_num|assumption), (by first|go_simp<;>go_num|assumption), rfl⟩)
  clear f0 f1 f2 f3 f4 hd f
  rintro f H' ⟨f1, f3, f4, f5, f11, f12, hd, rfl⟩
  have HXG : Hid (Ext H (((H.push (.row [.int .i64 t.days, .slice ca t.closed.length cc, .slice fa t.flaws.length fc] 25)).push (.row [.int .i64 lo, .int .i64 hi] 30)).push (.row [.int .i64 xl, .int .i64 xh] 30))) := Lib.hid ((((Ext.refl _).push' _).push' _).push' _)
  have hcs : cellsAt (((H.push (.row [.int .i64 t.days, .slice ca t.closed.length cc, .slice fa t.flaws.length fc] 25)).push (.row [.int .i64 lo, .int .i64 hi] 30)).push (.row [.int .i64 xl, .int .i64 xh] 30)) H.n 0 3 = some [.int .i64 t.days, .slice ca t.closed.length cc, .slice fa t.flaws.length fc] := by go_simp
  have hcs2 : cellAt (((H.push (.row [.int .i64 t.days, .slice ca t.closed.length cc, .slice fa t.flaws.length fc] 25)).push (.row [.int .i64 lo, .int .i64 hi] 30)).push (.row [.int .i64 xl, .int .i64 xh] 30)) H.n 2 = some (.slice fa t.flaws.length fc) := by go_simp
  have hnG : H.n < (((H.push (.row [.int .i64 t.days, .slice ca t.closed.length cc, .slice fa t.flaws.length fc] 25)).push (.row [.int .i64 lo, .int .i64 hi] 30)).push (.row [.int .i64 xl, .int .i64 xh] 30)).n := by simp only [AHeap.n_push]; omega
  generalize (((H.push (.row [.int .i64 t.days, .slice ca t.closed.length cc, .slice fa t.flaws.length fc] 25)).push (.row [.int .i64 lo, .int .i64 hi] 30)).push (.row [.int .i64 xl, .int .i64 xh] 30)) = G at HXG hcs hcs2 hnG ⊢
  repeat' (first|((with_reducible refine stop_if (n := 13) ?_))|(with_reducible first|refine zA ?_|refine zB fun K hK=>?_|refine zC fun K2 hK2=>?_|refine zD ?_|refine zE ?_|refine zF ?_|refine zG ?_|refine zH ?_|refine zI ?_|refine zM ?_|refine zN ?_|refine zO ?_|refine zP ?_|refine zQ ?_|refine zR ?_)|((with_reducible refine zU (hK _ _ ?_));clear hK K)|((with_reducible refine zV ?_ ?_ fun K1 K3 d hdst h1 h3=>?_);rfl;exact yB rfl;cases hdst;go_simp)|((with_reducible refine zW fun K1 K3 h1 h3=>?_);go_simp)|((first|refine h1 ?_|refine h3 ?_);clear h1 h3 K1 K3)|((first|refine zX (fun hb=>h1 ?_) (fun hb=>h3 ?_)|refine zX (fun hb=>h3 ?_) (fun hb=>h1 ?_))<;>(clear h1 h3 K1 K3;(try have hb2:=yC hb);(try have hb2:=yD hb);(try have hb2:=yE hb);(try have hb2:=yF hb);(try have hb2:=yG hb)))|(refine fun (K2:_→AHeap→Prop) hK2=>?_)|((with_reducible refine zY ?_ ?_);decide)|((with_reducible first|refine zZ ?_ (fun K hK=>?_)|refine yA ?_ (fun K hK=>?_));(focus go_simp;done);go_simp;refine hK _ _ ?_;clear hK K)|(go_simp;(try go_bits);(try first  | ((with_reducible show CallS _ _ _ _ _ _);refine CallS.mono (HFI.out _ _ HXG.out) ?_; rintro _ _ ⟨rfl, h9⟩; rw [h9]; clear h9; go_simp));refine hK2 _ _ ?_;clear hK2 K2))
  refine ⟨CodeS.cut (fun f3 H3 => f3.tmp 1 = .slice la ids.length lc ∧ f3.tmp 4 = .int .u8 a ∧ f3.tmp 5 = .pointer (some ⟨H.n, 0, none⟩) ∧ f3.tmp 11 = .bool true ∧ f3.tmp 12 = .bool false ∧ f3.defers = [] ∧ H3 = G) ?_ ?_⟩
  · have hx3 : x3 = 0 ∨ x3 ≠ 0 := by omega
    rcases hx3 with rfl | hx3
    case' inr =>
      have hx3b : (x3 == 0) = false := by simpa using hx3
      repeat' (first|(with_reducible first|refine zA ?_|refine zB fun K hK=>?_|refine zC fun K2 hK2=>?_|refine zD ?_|refine zE ?_|refine zF ?_|refine zG ?_|refine zH ?_|refine zI ?_|refine zM ?_|refine zN ?_|refine zO ?_|refine zP ?_|refine zQ ?_|refine zR ?_)|((with_reducible refine zU (hK _ _ ?_));clear hK K)|((with_reducible refine zV ?_ ?_ fun K1 K3 d hdst h1 h3=>?_);rfl;exact yB rfl;cases hdst;go_simp)|((with_reducible refine zW fun K1 K3 h1 h3=>?_);go_simp)|((first|refine h1 ?_|refine h3 ?_);clear h1 h3 K1 K3)|((first|refine zX (fun hb=>h1 ?_) (fun hb=>h3 ?_)|refine zX (fun hb=>h3 ?_) (fun hb=>h1 ?_))<;>(clear h1 h3 K1 K3;(try have hb2:=yC hb);(try have hb2:=yD hb);(try have hb2:=yE hb);(try have hb2:=yF hb);(try have hb2:=yG hb)))|(refine fun (K2:_→AHeap→Prop) hK2=>?_)|((with_reducible refine zY ?_ ?_);decide)|((with_reducible first|refine zZ ?_ (fun K hK=>?_)|refine yA ?_ (fun K hK=>?_));(focus go_simp;done);go_simp;refine hK _ _ ?_;clear hK K)|(go_simp;(try go_bits);refine hK2 _ _ ?_;clear hK2 K2))
      all_goals (refine ⟨(by first|go_simp<;>go_num|assumption), (by first|go_simp<;>go_num|assumption), (by first|go_simp<;>go_num|assumption), (by first|go_simp<;>go_num|assumption), (by first|go_simp<;>go_num|assumption), (by first|go_simp<;>go_num|assumption), rfl⟩)
    cases x2
    case' false =>
      repeat' (first|(with_reducible first|refine zA ?_|refine zB fun K hK=>?_|refine zC fun K2 hK2=>?_|refine zD ?_|refine zE ?_|refine zF ?_|refine zG ?_|refine zH ?_|refine zI ?_|refine zM ?_|refine zN ?_|refine zO ?_|refine zP ?_|refine zQ ?_|refine zR ?_)|((with_reducible refine zU (hK _ _ ?_));clear hK K)|((with_reducible refine zV ?_ ?_ fun K1 K3 d hdst h1 h3=>?_);rfl;exact yB rfl;cases hdst;go_simp)|((with_reducible refine zW fun K1 K3 h1 h3=>?_);go_simp)|((first|refine h1 ?_|refine h3 ?_);clear h1 h3 K1 K3)|((first|refine zX (fun hb=>h1 ?_) (fun hb=>h3 ?_)|refine zX (fun hb=>h3 ?_) (fun hb=>h1 ?_))<;>(clear h1 h3 K1 K3;(try have hb2:=yC hb);(try have hb2:=yD hb);(try have hb2:=yE hb);(try have hb2:=yF hb);(try have hb2:=yG hb)))|(refine fun (K2:_→AHeap→Prop) hK2=>?_)|((with_reducible refine zY ?_ ?_);decide)|((with_reducible first|refine zZ ?_ (fun K hK=>?_)|refine yA ?_ (fun K hK=>?_));(focus go_simp;done);go_simp;refine hK _ _ ?_;clear hK K)|(go_simp;(try go_bits);refine hK2 _ _ ?_;clear hK2 K2))
      all_goals (refine ⟨(by first|go_simp<;>go_num|assumption), (by first|go_simp<;>go_num|assumption), (by first|go_simp<;>go_num|assumption), (by first|go_simp<;>go_num|assumption), (by first|go_simp<;>go_num|assumption), (by first|go_simp<;>go_num|assumption), rfl⟩)
    obtain ⟨hlen, hall⟩ := fits_all HG.out HLST.out HFT.out HJX.out
    have HLEN := Lib.hid hlen
    have HALL := Lib.hid hall
    clear hlen hall
    repeat' (first|(with_reducible first|refine zA ?_|refine zB fun K hK=>?_|refine zC fun K2 hK2=>?_|refine zD ?_|refine zE ?_|refine zF ?_|refine zG ?_|refine zH ?_|refine zI ?_|refine zM ?_|refine zN ?_|refine zO ?_|refine zP ?_|refine zQ ?_|refine zR ?_)|((with_reducible refine zU (hK _ _ ?_));clear hK K)|((with_reducible refine zV ?_ ?_ fun K1 K3 d hdst h1 h3=>?_);rfl;exact yB rfl;cases hdst;go_simp)|((with_reducible refine zW fun K1 K3 h1 h3=>?_);go_simp)|((first|refine h1 ?_|refine h3 ?_);clear h1 h3 K1 K3)|((first|refine zX (fun hb=>h1 ?_) (fun hb=>h3 ?_)|refine zX (fun hb=>h3 ?_) (fun hb=>h1 ?_))<;>(clear h1 h3 K1 K3;(try have hb2:=yC hb);(try have hb2:=yD hb);(try have hb2:=yE hb);(try have hb2:=yF hb);(try have hb2:=yG hb)))|(refine fun (K2:_→AHeap→Prop) hK2=>?_)|((with_reducible refine zY ?_ ?_);decide)|((with_reducible first|refine zZ ?_ (fun K hK=>?_)|refine yA ?_ (fun K hK=>?_));(focus go_simp;done);go_simp;refine hK _ _ ?_;clear hK K)|(go_simp;(try go_bits);refine hK2 _ _ ?_;clear hK2 K2))
    refine CodeS.loop (fun m f3 H3 => ∃ k : Nat, k ≤ t.flaws.length ∧ m = t.flaws.length - k ∧ f3.tmp 21 = .int .i64 k ∧ f3.tmp 20 = .bool (allL t.flaws ids on k) ∧ f3.tmp 1 = .slice la ids.length lc ∧ f3.tmp 3 = .slice oa on.length oc ∧ f3.tmp 4 = .int .u8 a ∧ f3.tmp 5 = .pointer (some ⟨H.n, 0, none⟩) ∧ f3.tmp 11 = .bool true ∧ f3.tmp 12 = .bool false ∧ f3.defers = [] ∧ H3 = G) t.flaws.length ?_ ?_
    · exact ⟨0, by simp, by simp, (by first|go_simp<;>go_num|assumption), (by first|go_simp<;>go_num|assumption), (by first|go_simp<;>go_num|assumption), (by first|go_simp<;>go_num|assumption), (by first|go_simp<;>go_num|assumption), (by first|go_simp<;>go_num|assumption), (by first|go_simp<;>go_num|assumption), (by first|go_simp<;>go_num|assumption), (by first|go_simp<;>go_num|assumption), rfl⟩
    clear f1 f3 f4 f5 f11 f12 hd f
    rintro m f H' ⟨k, hk, rfl, f21, f20, f1, f3, f4, f5, f11, f12, hd, rfl⟩
    by_cases hlt : k < t.flaws.length
    · obtain ⟨b, o, sp, rfl, hb, hx, hc⟩ := (HF.out.ext HXG.out).at_ hlt
      have hc0 := hc 0 _ rfl
      simp only [Nat.add_zero] at hc0
      obtain ⟨b', o', sp', rfl, hb', hx'⟩ := (HO.out.ext HXG.out).at_ (k := k) (by rw [HLEN.out]; exact hlt)
      have HS : Hid (allL t.flaws ids on (k + 1) = (allL t.flaws ids on k && (!decide ((t.flaws[k]).id ∈ ids) || decide (0 ≤ on[k]'(by rw [HLEN.out]; exact hlt))))) := Lib.hid (allL_succ hlt _)
      have HAS := Lib.hid (fun loops => has_s (loops := loops) (x := (t.flaws[k]).id) (HL.out.ext HXG.out))
      have hko : k < on.length := by rw [HLEN.out]; exact hlt
      clear hx hc
      generalize on[k] = y at hx' HS
      generalize (t.flaws[k]).id = q at hc0 HS HAS
      generalize hA : allL t.flaws ids on k = A at f20 HS
      clear hA
      cases A
      case' false =>
        repeat' (first|(with_reducible first|refine zA ?_|refine zB fun K hK=>?_|refine zC fun K2 hK2=>?_|refine zD ?_|refine zE ?_|refine zF ?_|refine zG ?_|refine zH ?_|refine zI ?_|refine zM ?_|refine zN ?_|refine zO ?_|refine zP ?_|refine zQ ?_|refine zR ?_)|((with_reducible refine zU (hK _ _ ?_));clear hK K)|((with_reducible refine zV ?_ ?_ fun K1 K3 d hdst h1 h3=>?_);rfl;exact yB rfl;cases hdst;go_simp)|((with_reducible refine zW fun K1 K3 h1 h3=>?_);go_simp)|((first|refine h1 ?_|refine h3 ?_);clear h1 h3 K1 K3)|((first|refine zX (fun hb=>h1 ?_) (fun hb=>h3 ?_)|refine zX (fun hb=>h3 ?_) (fun hb=>h1 ?_))<;>(clear h1 h3 K1 K3;(try have hb2:=yC hb);(try have hb2:=yD hb);(try have hb2:=yE hb);(try have hb2:=yF hb);(try have hb2:=yG hb)))|(refine fun (K2:_→AHeap→Prop) hK2=>?_)|((with_reducible refine zY ?_ ?_);decide)|((with_reducible first|refine zZ ?_ (fun K hK=>?_)|refine yA ?_ (fun K hK=>?_));(focus go_simp;done);go_simp;refine hK _ _ ?_;clear hK K)|(go_simp;(try go_bits);refine hK2 _ _ ?_;clear hK2 K2))
        refine Post.round_normal ⟨t.flaws.length - (k + 1), by omega, k + 1, by omega, rfl, (by first|go_simp<;>go_num|assumption), ?_, (by first|go_simp<;>go_num|assumption), (by first|go_simp<;>go_num|assumption), (by first|go_simp<;>go_num|assumption), (by first|go_simp<;>go_num|assumption), (by first|go_simp<;>go_num|assumption), (by first|go_simp<;>go_num|assumption), (by first|go_simp<;>go_num|assumption), rfl⟩
        go_simp; rw [HS.out]; simp
      by_cases hm : q ∈ ids
      case' neg =>
        rw [decide_eq_false hm] at HAS HS
        clear hm
        repeat' (first|(with_reducible first|refine zA ?_|refine zB fun K hK=>?_|refine zC fun K2 hK2=>?_|refine zD ?_|refine zE ?_|refine zF ?_|refine zG ?_|refine zH ?_|refine zI ?_|refine zM ?_|refine zN ?_|refine zO ?_|refine zP ?_|refine zQ ?_|refine zR ?_)|((with_reducible refine zU (hK _ _ ?_));clear hK K)|((with_reducible refine zV ?_ ?_ fun K1 K3 d hdst h1 h3=>?_);rfl;exact yB rfl;cases hdst;go_simp)|((with_reducible refine zW fun K1 K3 h1 h3=>?_);go_simp)|((first|refine h1 ?_|refine h3 ?_);clear h1 h3 K1 K3)|((first|refine zX (fun hb=>h1 ?_) (fun hb=>h3 ?_)|refine zX (fun hb=>h3 ?_) (fun hb=>h1 ?_))<;>(clear h1 h3 K1 K3;(try have hb2:=yC hb);(try have hb2:=yD hb);(try have hb2:=yE hb);(try have hb2:=yF hb);(try have hb2:=yG hb)))|(refine fun (K2:_→AHeap→Prop) hK2=>?_)|((with_reducible refine zY ?_ ?_);decide)|((with_reducible first|refine zZ ?_ (fun K hK=>?_)|refine yA ?_ (fun K hK=>?_));(focus go_simp;done);go_simp;refine hK _ _ ?_;clear hK K)|(go_simp;(try go_bits);(try first | ((with_reducible show CallS _ _ _ _ _ _);refine CallS.mono (HAS.out _) ?_; rintro _ _ ⟨rfl, h9⟩; rw [h9]; clear h9; go_simp));refine hK2 _ _ ?_;clear hK2 K2))
        refine Post.round_normal ⟨t.flaws.length - (k + 1), by omega, k + 1, by omega, rfl, (by first|go_simp<;>go_num|assumption), ?_, (by first|go_simp<;>go_num|assumption), (by first|go_simp<;>go_num|assumption), (by first|go_simp<;>go_num|assumption), (by first|go_simp<;>go_num|assumption), (by first|go_simp<;>go_num|assumption), (by first|go_simp<;>go_num|assumption), (by first|go_simp<;>go_num|assumption), rfl⟩
        go_simp; rw [HS.out]; simp
      rw [decide_eq_true hm] at HAS HS
      clear hm
      repeat' (first|(with_reducible first|refine zA ?_|refine zB fun K hK=>?_|refine zC fun K2 hK2=>?_|refine zD ?_|refine zE ?_|refine zF ?_|refine zG ?_|refine zH ?_|refine zI ?_|refine zM ?_|refine zN ?_|refine zO ?_|refine zP ?_|refine zQ ?_|refine zR ?_)|((with_reducible refine zU (hK _ _ ?_));clear hK K)|((with_reducible refine zV ?_ ?_ fun K1 K3 d hdst h1 h3=>?_);rfl;exact yB rfl;cases hdst;go_simp)|((with_reducible refine zW fun K1 K3 h1 h3=>?_);go_simp)|((first|refine h1 ?_|refine h3 ?_);clear h1 h3 K1 K3)|((first|refine zX (fun hb=>h1 ?_) (fun hb=>h3 ?_)|refine zX (fun hb=>h3 ?_) (fun hb=>h1 ?_))<;>(clear h1 h3 K1 K3;(try have hb2:=yC hb);(try have hb2:=yD hb);(try have hb2:=yE hb);(try have hb2:=yF hb);(try have hb2:=yG hb)))|(refine fun (K2:_→AHeap→Prop) hK2=>?_)|((with_reducible refine zY ?_ ?_);decide)|((with_reducible first|refine zZ ?_ (fun K hK=>?_)|refine yA ?_ (fun K hK=>?_));(focus go_simp;done);go_simp;refine hK _ _ ?_;clear hK K)|(go_simp;(try go_bits);(try first | ((with_reducible show CallS _ _ _ _ _ _);refine CallS.mono (HAS.out _) ?_; rintro _ _ ⟨rfl, h9⟩; rw [h9]; clear h9; go_simp));refine hK2 _ _ ?_;clear hK2 K2))
      refine Post.round_normal ⟨t.flaws.length - (k + 1), by omega, k + 1, by omega, rfl, (by first|go_simp<;>go_num|assumption), ?_, (by first|go_simp<;>go_num|assumption), (by first|go_simp<;>go_num|assumption), (by first|go_simp<;>go_num|assumption), (by first|go_simp<;>go_num|assumption), (by first|go_simp<;>go_num|assumption), (by first|go_simp<;>go_num|assumption), (by first|go_simp<;>go_num|assumption), rfl⟩
      go_simp; rw [HS.out]; simp
    · have hke : k = t.flaws.length := by omega
      rw [hke, HALL.out] at f20
      repeat' (first|(with_reducible first|refine zA ?_|refine zB fun K hK=>?_|refine zC fun K2 hK2=>?_|refine zD ?_|refine zE ?_|refine zF ?_|refine zG ?_|refine zH ?_|refine zI ?_|refine zM ?_|refine zN ?_|refine zO ?_|refine zP ?_|refine zQ ?_|refine zR ?_)|((with_reducible refine zU (hK _ _ ?_));clear hK K)|((with_reducible refine zV ?_ ?_ fun K1 K3 d hdst h1 h3=>?_);rfl;exact yB rfl;cases hdst;go_simp)|((with_reducible refine zW fun K1 K3 h1 h3=>?_);go_simp)|((first|refine h1 ?_|refine h3 ?_);clear h1 h3 K1 K3)|((first|refine zX (fun hb=>h1 ?_) (fun hb=>h3 ?_)|refine zX (fun hb=>h3 ?_) (fun hb=>h1 ?_))<;>(clear h1 h3 K1 K3;(try have hb2:=yC hb);(try have hb2:=yD hb);(try have hb2:=yE hb);(try have hb2:=yF hb);(try have hb2:=yG hb)))|(refine fun (K2:_→AHeap→Prop) hK2=>?_)|((with_reducible refine zY ?_ ?_);decide)|((with_reducible first|refine zZ ?_ (fun K hK=>?_)|refine yA ?_ (fun K hK=>?_));(focus go_simp;done);go_simp;refine hK _ _ ?_;clear hK K)|(go_simp;(try go_bits);refine hK2 _ _ ?_;clear hK2 K2))
      refine ⟨(by first|go_simp<;>go_num|assumption), (by first|go_simp<;>go_num|assumption), (by first|go_simp<;>go_num|assumption), (by first|go_simp<;>go_num|assumption), (by first|go_simp<;>go_num|assumption), (by first|go_simp<;>go_num|assumption), rfl⟩
  · clear f1 f3 f4 f5 f11 f12 hd f hcs2
    rintro f H' ⟨f1, f4, f5, f11, f12, hd, rfl⟩
    by_cases hl0 : ids.length = 0
    · exfalso
      have h := HJX.out
      obtain rfl : ids = [] := List.length_eq_zero_iff.1 hl0
      simp [Tour.isJam, Tour.inSpan] at h
    · have hl0' : ¬ (ids.length : Int) = 0 := by omega
      have hl0b : ((ids.length : Int) == 0) = false := by simpa using hl0'
      obtain ⟨ha1, ha2⟩ := ha
      clear hl0b
      have hl0b : ((ids.length : Int) == 0) = false := by simpa using hl0'
      obtain ⟨k, hk⟩ : ∃ k : Nat, a % (ids.length : Int) = k := ⟨(a % (ids.length : Int)).toNat, by have := Int.emod_nonneg a (b := (ids.length : Int)) (by omega); omega⟩
      have hkl : k < ids.length := by have := Int.emod_lt_of_pos a (b := (ids.length : Int)) (by omega); omega
      have HK := Lib.hid hk
      obtain ⟨b, o, sp, rfl, hb, -⟩ := HL.out.at_ hkl
      obtain ⟨rfl, hlc, her⟩ := HCUT.out _ _ _ _ _ rfl (by omega)
      have hbG : b < H'.n := Nat.lt_of_lt_of_le hb HXG.out.n
      have hR0 : elemIsR H' b 3 = true := (elemIsR_get (HXG.out.get b hb)).trans her
      have hR1 : ∀ o, elemIsR (H'.push o) b 3 = true := fun o => (elemIsR_get (AHeap.get_push_old hbG)).trans hR0
      have HC1 : Hid (∀ H3 : AHeap, H3.get b = H'.get b → cellsAt H3 b o (k * 1) = some ((ids.take k).map (.int .i64)) ∨ k = 0) := Lib.hid (fun H3 h => by
        rcases Nat.eq_zero_or_pos k with h0 | h0
        · exact .inr h0
        · have := ints_part (HL.out.ext HXG.out) (by omega) 0 k h0 (by omega)
          rw [cellsAt_get h, Nat.mul_one]; left; simpa using this)
      have HC2 : Hid (∀ H3 : AHeap, H3.get b = H'.get b → 0 < ids.length - (k + 1) → cellsAt H3 b (o + (k + 1)) ((ids.length - (k + 1)) * 1) = some ((ids.drop (k + 1)).map (.int .i64))) := Lib.hid (fun H3 h h0 => by
        have := ints_part (HL.out.ext HXG.out) (by omega) (k + 1) (ids.length - (k + 1)) h0 (by omega)
        rw [List.take_of_length_le (by simp)] at this
        rw [cellsAt_get h, Nat.mul_one]; exact this)
      have HL1 : Hid (((ids.take k).map (Value.int .i64)).length = k * 1) := Lib.hid (by simp; omega)
      have HL2 : Hid (((ids.drop (k + 1)).map (Value.int .i64)).length = (ids.length - (k + 1)) * 1) := Lib.hid (by simp)
      have hkc : k ≤ lc := by omega
      have hc0 : 0 < lc := by omega
      have HSUB : Hid ((ids.take k ++ ids.drop (k + 1)).Sublist ids) := Lib.hid (by
        have h := List.take_append_drop k ids
        rw [List.drop_eq_getElem_cons hkl] at h
        conv => rhs; rw [← h]
        exact (List.sublist_cons_self _ _).append_left _)
      have HLL : Hid ((ids.take k ++ ids.drop (k + 1)).length ≤ 9223372036854775807) := Lib.hid (by simp; omega)
      have h60 : ids.length ≤ 60 := by omega
      have hwr : IntKind.i64.wrap ((k : Int) + 1) = (k : Int) + 1 := by rw [IntKind.wrap_i64]; omega
      clear hk hb her hl0
      repeat' (first|((with_reducible refine stop_region (n := 24) ?_))|(with_reducible first|refine zA ?_|refine zB fun K hK=>?_|refine zC fun K2 hK2=>?_|refine zD ?_|refine zE ?_|refine zF ?_|refine zG ?_|refine zH ?_|refine zI ?_|refine zM ?_|refine zN ?_|refine zO ?_|refine zP ?_|refine zQ ?_|refine zR ?_)|((with_reducible refine zU (hK _ _ ?_));clear hK K)|((with_reducible refine zV ?_ ?_ fun K1 K3 d hdst h1 h3=>?_);rfl;exact yB rfl;cases hdst;go_simp)|((with_reducible refine zW fun K1 K3 h1 h3=>?_);go_simp)|((first|refine h1 ?_|refine h3 ?_);clear h1 h3 K1 K3)|((first|refine zX (fun hb=>h1 ?_) (fun hb=>h3 ?_)|refine zX (fun hb=>h3 ?_) (fun hb=>h1 ?_))<;>(clear h1 h3 K1 K3;(try have hb2:=yC hb);(try have hb2:=yD hb);(try have hb2:=yE hb);(try have hb2:=yF hb);(try have hb2:=yG hb)))|(refine fun (K2:_→AHeap→Prop) hK2=>?_)|((with_reducible refine zY ?_ ?_);decide)|((with_reducible first|refine zZ ?_ (fun K hK=>?_)|refine yA ?_ (fun K hK=>?_));(focus go_simp;done);go_simp;refine hK _ _ ?_;clear hK K)|(go_simp;(try go_bits);(try first  | ((rw [aPlain_rem (a := a) (b := (ids.length : Int)) (by go_simp) (by go_simp) (by omega) (by omega), HK.out]); go_simp));refine hK2 _ _ ?_;clear hK2 K2))
      refine ⟨CodeS.mono (Q := LessQ H.n H' false (ids.take k ++ ids.drop (k + 1))) ?_ ?_⟩
      · have hke9 : ids.length < k + 1 ∨ k + 1 ≤ ids.length := by omega
        rcases Nat.eq_zero_or_pos k with hk0 | hk0
        case' inl =>
          have HK0 := Lib.hid hk0
          have HE0 : Hid (ids.take k = []) := Lib.hid (by rw [hk0]; rfl)
          clear HC1 hk0
          by_cases hk9 : k + 1 = ids.length
          case' pos =>
            have HE1 : Hid (ids.drop (k + 1) = []) := Lib.hid (List.drop_eq_nil_of_le (by omega))
            have HKE : Hid ((k : Int) + 1 = ((ids.length : Nat) : Int)) := Lib.hid (by omega)
            clear hk9 hke9 HC2
            repeat' (first|((with_reducible refine xA ?_ ?_); focus (go_simp; refine sliceHi_x (k := k) el22 sz3 (by first | exact hR0 | exact hR1 _ | exact hR7 | exact hR71 _) rfl hkc hc0 rfl; done)) | ((with_reducible refine xA ?_ ?_); focus (go_simp; refine sliceEnd_y (n := ids.length) el22 sz3 (by first | exact hR0 | exact hR1 _ | exact hR7 | exact hR71 _) HKE.out hc0 hlc rfl; done))|(with_reducible first|refine zA ?_|refine zB fun K hK=>?_|refine zC fun K2 hK2=>?_|refine zD ?_|refine zE ?_|refine zF ?_|refine zG ?_|refine zH ?_|refine zI ?_|refine zM ?_|refine zN ?_|refine zO ?_|refine zP ?_|refine zQ ?_|refine zR ?_)|((with_reducible refine zU (hK _ _ ?_));clear hK K)|((with_reducible refine zV ?_ ?_ fun K1 K3 d hdst h1 h3=>?_);rfl;exact yB rfl;cases hdst;go_simp)|((with_reducible refine zW fun K1 K3 h1 h3=>?_);go_simp)|((first|refine h1 ?_|refine h3 ?_);clear h1 h3 K1 K3)|((first|refine zX (fun hb=>h1 ?_) (fun hb=>h3 ?_)|refine zX (fun hb=>h3 ?_) (fun hb=>h1 ?_))<;>(clear h1 h3 K1 K3;(try have hb2:=yC hb);(try have hb2:=yD hb);(try have hb2:=yE hb);(try have hb2:=yF hb);(try have hb2:=yG hb)))|(refine fun (K2:_→AHeap→Prop) hK2=>?_)|((with_reducible refine zY ?_ ?_);decide)|((with_reducible first|refine zZ ?_ (fun K hK=>?_)|refine yA ?_ (fun K hK=>?_));(focus go_simp;done);go_simp;refine hK _ _ ?_;clear hK K)|((with_reducible refine yH mixed rfl ?_ 20 fun K0 hK0=>?_);kernel_rfl)|(with_reducible first|exact yI|exact yJ|refine yK ?_|refine yL ?_|refine yM ?_)|((with_reducible first|refine yN ?_ ?_|refine yO ?_ ?_|refine yP ?_ ?_);rfl)|((with_reducible refine yQ ?_ ?_);rfl;refine hK0 _ _ ?_;clear hK0 K0)|((with_reducible refine yR ?_ ?_ ?_ ?_);rfl;rfl;rfl)|((with_reducible refine yS ?_ ?_ ?_ fun K2 hK2=>?_);rfl;rfl;exact yB rfl)|((with_reducible refine yT ?_ ?_ ?_ ?_ fun K1 K3 d hdst h1 h3=>?_);rfl;rfl;rfl;exact yB rfl;cases hdst;go_simp)|((with_reducible refine yU ?_ ?_ ?_ ?_ fun K1 K3 d hdst h1 h3=>?_);rfl;rfl;rfl;exact yB rfl;cases hdst;go_simp)|((with_reducible refine yV ?_ ?_ (fun K2 hK2=>?_) ?_);rfl;exact yB rfl)|((with_reducible refine yW ?_ ?_ ?_ ?_ (fun K2 hK2=>?_) ?_);rfl;exact yB rfl;rfl;(focus go_simp;done))|((with_reducible refine yX ?_ ?_ ?_ (fun K2 hK2=>?_) ?_);rfl;rfl;exact yB rfl)|((with_reducible refine yY ?_ ?_ (fun K2 hK2=>?_) ?_);rfl;rfl)|((with_reducible refine yZ ?_ ?_);(first|rfl|(dsimp only;decide +kernel)))|((with_reducible refine xA ?_ ?_);(focus go_simp;done))|(go_simp;(try go_bits);(try first  | ((refine sliceHi_x (k := k) el22 sz3 (by first | exact hR0 | exact hR1 _ | exact hR7 | exact hR71 _) rfl hkc hc0 ?_); go_simp) | ((refine sliceEnd_y (n := ids.length) el22 sz3 (by first | exact hR0 | exact hR1 _ | exact hR7 | exact hR71 _) HKE.out hc0 hlc ?_); go_simp) | ((refine lit0_v el22 sz3 ze3 rfl (by decide) ?_); go_simp) | ((refine appendNil_v el22 sz3 (by rw [HK0.out]; exact srcCells_none) ?_); go_simp) | ((refine appendNil_v el22 sz3 srcEnd ?_); go_simp));(first|(refine hK2 _ _ ?_ ?_<;>clear hK2 K2)|(refine hK2 _ _ ?_;clear hK2 K2))))

            refine ⟨rfl, (by first|go_simp<;>go_num|assumption), (by first|go_simp<;>go_num|assumption), (by first|go_simp<;>go_num|assumption), (by first|go_simp<;>go_num|assumption), ⟨_, (by first|go_simp<;>go_num|assumption), ?_⟩, Ext.push _⟩
            rw [HE0.out, HE1.out]
            exact ⟨rfl, (by simp), _, _, rfl, (fun h => by cases h), fun h => absurd h (Nat.lt_irrefl _)⟩
          case' neg =>
            have hk1 : k + 1 < ids.length := by omega
            have HKI : Hid ((k : Int) + 1 = ((k + 1 : Nat) : Int)) := Lib.hid (by omega)
            have hm2 : 0 < ids.length - (k + 1) := by omega
            have HC2 := Lib.hid (fun H3 h => HC2.out H3 h hm2)
            clear hk9 hke9
            repeat' (first|((with_reducible refine xA ?_ ?_); focus (go_simp; refine sliceHi_x (k := k) el22 sz3 (by first | exact hR0 | exact hR1 _ | exact hR7 | exact hR71 _) rfl hkc hc0 rfl; done)) | ((with_reducible refine xA ?_ ?_); focus (go_simp; refine sliceLo_x (k := k + 1) el22 sz3 (by first | exact hR0 | exact hR1 _ | exact hR7 | exact hR71 _) HKI.out hk1 hlc ?_; rw [Nat.mul_one]; done))|(with_reducible first|refine zA ?_|refine zB fun K hK=>?_|refine zC fun K2 hK2=>?_|refine zD ?_|refine zE ?_|refine zF ?_|refine zG ?_|refine zH ?_|refine zI ?_|refine zM ?_|refine zN ?_|refine zO ?_|refine zP ?_|refine zQ ?_|refine zR ?_)|((with_reducible refine zU (hK _ _ ?_));clear hK K)|((with_reducible refine zV ?_ ?_ fun K1 K3 d hdst h1 h3=>?_);rfl;exact yB rfl;cases hdst;go_simp)|((with_reducible refine zW fun K1 K3 h1 h3=>?_);go_simp)|((first|refine h1 ?_|refine h3 ?_);clear h1 h3 K1 K3)|((first|refine zX (fun hb=>h1 ?_) (fun hb=>h3 ?_)|refine zX (fun hb=>h3 ?_) (fun hb=>h1 ?_))<;>(clear h1 h3 K1 K3;(try have hb2:=yC hb);(try have hb2:=yD hb);(try have hb2:=yE hb);(try have hb2:=yF hb);(try have hb2:=yG hb)))|(refine fun (K2:_→AHeap→Prop) hK2=>?_)|((with_reducible refine zY ?_ ?_);decide)|((with_reducible first|refine zZ ?_ (fun K hK=>?_)|refine yA ?_ (fun K hK=>?_));(focus go_simp;done);go_simp;refine hK _ _ ?_;clear hK K)|((with_reducible refine yH mixed rfl ?_ 20 fun K0 hK0=>?_);kernel_rfl)|(with_reducible first|exact yI|exact yJ|refine yK ?_|refine yL ?_|refine yM ?_)|((with_reducible first|refine yN ?_ ?_|refine yO ?_ ?_|refine yP ?_ ?_);rfl)|((with_reducible refine yQ ?_ ?_);rfl;refine hK0 _ _ ?_;clear hK0 K0)|((with_reducible refine yR ?_ ?_ ?_ ?_);rfl;rfl;rfl)|((with_reducible refine yS ?_ ?_ ?_ fun K2 hK2=>?_);rfl;rfl;exact yB rfl)|((with_reducible refine yT ?_ ?_ ?_ ?_ fun K1 K3 d hdst h1 h3=>?_);rfl;rfl;rfl;exact yB rfl;cases hdst;go_simp)|((with_reducible refine yU ?_ ?_ ?_ ?_ fun K1 K3 d hdst h1 h3=>?_);rfl;rfl;rfl;exact yB rfl;cases hdst;go_simp)|((with_reducible refine yV ?_ ?_ (fun K2 hK2=>?_) ?_);rfl;exact yB rfl)|((with_reducible refine yW ?_ ?_ ?_ ?_ (fun K2 hK2=>?_) ?_);rfl;exact yB rfl;rfl;(focus go_simp;done))|((with_reducible refine yX ?_ ?_ ?_ (fun K2 hK2=>?_) ?_);rfl;rfl;exact yB rfl)|((with_reducible refine yY ?_ ?_ (fun K2 hK2=>?_) ?_);rfl;rfl)|((with_reducible refine yZ ?_ ?_);(first|rfl|(dsimp only;decide +kernel)))|((with_reducible refine xA ?_ ?_);(focus go_simp;done))|(go_simp;(try go_bits);(try first  | ((refine sliceHi_x (k := k) el22 sz3 (by first | exact hR0 | exact hR1 _ | exact hR7 | exact hR71 _) rfl hkc hc0 ?_); go_simp) | ((refine sliceLo_x (k := k + 1) el22 sz3 (by first | exact hR0 | exact hR1 _ | exact hR7 | exact hR71 _) HKI.out hk1 hlc ?_); go_simp) | ((refine lit0_v el22 sz3 ze3 rfl (by decide) ?_); go_simp) | ((refine appendNil_v el22 sz3 (by rw [HK0.out]; exact srcCells_none) ?_); go_simp) | ((refine append0_v (b := H'.n) el22 sz3 by3 ze3 rfl (by decide) AHeap.get_push_new (srcCells_some hm2 (HC2.out _ (AHeap.get_push_old hbG))) hm2 HL2.out oneV_list_int (by rw [HL2.out]; show (ids.length - (k + 1)) * 1 * 8 ≤ 1073741824; omega) fun H7 hn7 hg7 hk7 => ?_); (have HO7 := Lib.hid hg7); (have HN7 := Lib.hid hn7); (have HX7 := Lib.hid (grown_ext (Ext.push _) (Nat.le_refl _) hn7 hk7)); clear hn7 hg7 hk7; go_simp));(first|(refine hK2 _ _ ?_ ?_<;>clear hK2 K2)|(refine hK2 _ _ ?_;clear hK2 K2))))

            refine ⟨rfl, (by first|go_simp<;>go_num|assumption), (by first|go_simp<;>go_num|assumption), (by first|go_simp<;>go_num|assumption), (by first|go_simp<;>go_num|assumption), ⟨_, (by first|go_simp<;>go_num|assumption), ?_⟩, HX7.out⟩
            rw [HE0.out, List.nil_append]
            exact own_ints (own_new (base := 0) (size := 1) (Nat.zero_le _) (by rw [HN7.out, AHeap.n_push]; omega) HO7.out HL2.out hm2) (by simp; omega)
        case' inr =>
          have HKP := Lib.hid hk0
          have HC1 := Lib.hid (fun H3 h => (HC1.out H3 h).resolve_right (by omega))
          clear hk0
          by_cases hk9 : k + 1 = ids.length
          case' pos =>
            have HE1 : Hid (ids.drop (k + 1) = []) := Lib.hid (List.drop_eq_nil_of_le (by omega))
            have HKE : Hid ((k : Int) + 1 = ((ids.length : Nat) : Int)) := Lib.hid (by omega)
            clear hk9 hke9 HC2
            repeat' (first|((with_reducible refine xA ?_ ?_); focus (go_simp; refine sliceHi_x (k := k) el22 sz3 (by first | exact hR0 | exact hR1 _ | exact hR7 | exact hR71 _) rfl hkc hc0 rfl; done)) | ((with_reducible refine xA ?_ ?_); focus (go_simp; refine sliceEnd_y (n := ids.length) el22 sz3 (by first | exact hR0 | exact hR1 _ | exact hR7 | exact hR71 _) HKE.out hc0 hlc rfl; done))|(with_reducible first|refine zA ?_|refine zB fun K hK=>?_|refine zC fun K2 hK2=>?_|refine zD ?_|refine zE ?_|refine zF ?_|refine zG ?_|refine zH ?_|refine zI ?_|refine zM ?_|refine zN ?_|refine zO ?_|refine zP ?_|refine zQ ?_|refine zR ?_)|((with_reducible refine zU (hK _ _ ?_));clear hK K)|((with_reducible refine zV ?_ ?_ fun K1 K3 d hdst h1 h3=>?_);rfl;exact yB rfl;cases hdst;go_simp)|((with_reducible refine zW fun K1 K3 h1 h3=>?_);go_simp)|((first|refine h1 ?_|refine h3 ?_);clear h1 h3 K1 K3)|((first|refine zX (fun hb=>h1 ?_) (fun hb=>h3 ?_)|refine zX (fun hb=>h3 ?_) (fun hb=>h1 ?_))<;>(clear h1 h3 K1 K3;(try have hb2:=yC hb);(try have hb2:=yD hb);(try have hb2:=yE hb);(try have hb2:=yF hb);(try have hb2:=yG hb)))|(refine fun (K2:_→AHeap→Prop) hK2=>?_)|((with_reducible refine zY ?_ ?_);decide)|((with_reducible first|refine zZ ?_ (fun K hK=>?_)|refine yA ?_ (fun K hK=>?_));(focus go_simp;done);go_simp;refine hK _ _ ?_;clear hK K)|((with_reducible refine yH mixed rfl ?_ 20 fun K0 hK0=>?_);kernel_rfl)|(with_reducible first|exact yI|exact yJ|refine yK ?_|refine yL ?_|refine yM ?_)|((with_reducible first|refine yN ?_ ?_|refine yO ?_ ?_|refine yP ?_ ?_);rfl)|((with_reducible refine yQ ?_ ?_);rfl;refine hK0 _ _ ?_;clear hK0 K0)|((with_reducible refine yR ?_ ?_ ?_ ?_);rfl;rfl;rfl)|((with_reducible refine yS ?_ ?_ ?_ fun K2 hK2=>?_);rfl;rfl;exact yB rfl)|((with_reducible refine yT ?_ ?_ ?_ ?_ fun K1 K3 d hdst h1 h3=>?_);rfl;rfl;rfl;exact yB rfl;cases hdst;go_simp)|((with_reducible refine yU ?_ ?_ ?_ ?_ fun K1 K3 d hdst h1 h3=>?_);rfl;rfl;rfl;exact yB rfl;cases hdst;go_simp)|((with_reducible refine yV ?_ ?_ (fun K2 hK2=>?_) ?_);rfl;exact yB rfl)|((with_reducible refine yW ?_ ?_ ?_ ?_ (fun K2 hK2=>?_) ?_);rfl;exact yB rfl;rfl;(focus go_simp;done))|((with_reducible refine yX ?_ ?_ ?_ (fun K2 hK2=>?_) ?_);rfl;rfl;exact yB rfl)|((with_reducible refine yY ?_ ?_ (fun K2 hK2=>?_) ?_);rfl;rfl)|((with_reducible refine yZ ?_ ?_);(first|rfl|(dsimp only;decide +kernel)))|((with_reducible refine xA ?_ ?_);(focus go_simp;done))|(go_simp;(try go_bits);(try first  | ((refine sliceHi_x (k := k) el22 sz3 (by first | exact hR0 | exact hR1 _ | exact hR7 | exact hR71 _) rfl hkc hc0 ?_); go_simp) | ((refine sliceEnd_y (n := ids.length) el22 sz3 (by first | exact hR0 | exact hR1 _ | exact hR7 | exact hR71 _) HKE.out hc0 hlc ?_); go_simp) | ((refine lit0_v el22 sz3 ze3 rfl (by decide) ?_); go_simp) | ((refine append0_v (b := H'.n) el22 sz3 by3 ze3 rfl (by decide) AHeap.get_push_new (srcCells_some HKP.out (HC1.out _ (AHeap.get_push_old hbG))) HKP.out HL1.out oneV_list_int (by rw [HL1.out]; show k * 1 * 8 ≤ 1073741824; omega) fun H7 hn7 hg7 hk7 => ?_); (have HO7 := Lib.hid (own_new (base := H'.n) (size := 1) (by rw [AHeap.n_push]; omega) (by omega) hg7 HL1.out HKP.out)); (have HX7 := Lib.hid (grown_ext (Ext.push _) (Nat.le_refl _) hn7 hk7)); (have hR7 : elemIsR H7 b 3 = true := (elemIsR_get (HX7.out.get b hbG)).trans hR0); (have hG7 : H'.n ≤ H7.n := HX7.out.n); clear hn7 hg7 hk7; go_simp) | ((refine appendNil_v el22 sz3 srcEnd ?_); go_simp));(first|(refine hK2 _ _ ?_ ?_<;>clear hK2 K2)|(refine hK2 _ _ ?_;clear hK2 K2))))

            refine ⟨rfl, (by first|go_simp<;>go_num|assumption), (by first|go_simp<;>go_num|assumption), (by first|go_simp<;>go_num|assumption), (by first|go_simp<;>go_num|assumption), ⟨_, (by first|go_simp<;>go_num|assumption), ?_⟩, HX7.out⟩
            rw [HE1.out, List.append_nil]
            exact own_ints HO7.out (by simp; omega)
          case' neg =>
            have hk1 : k + 1 < ids.length := by omega
            have HKI : Hid ((k : Int) + 1 = ((k + 1 : Nat) : Int)) := Lib.hid (by omega)
            have hm2 : 0 < ids.length - (k + 1) := by omega
            have HC2 := Lib.hid (fun H3 h => HC2.out H3 h hm2)
            clear hk9 hke9
            repeat' (first|((with_reducible refine xA ?_ ?_); focus (go_simp; refine sliceHi_x (k := k) el22 sz3 (by first | exact hR0 | exact hR1 _ | exact hR7 | exact hR71 _) rfl hkc hc0 rfl; done)) | ((with_reducible refine xA ?_ ?_); focus (go_simp; refine sliceLo_x (k := k + 1) el22 sz3 (by first | exact hR0 | exact hR1 _ | exact hR7 | exact hR71 _) HKI.out hk1 hlc ?_; rw [Nat.mul_one]; done))|(with_reducible first|refine zA ?_|refine zB fun K hK=>?_|refine zC fun K2 hK2=>?_|refine zD ?_|refine zE ?_|refine zF ?_|refine zG ?_|refine zH ?_|refine zI ?_|refine zM ?_|refine zN ?_|refine zO ?_|refine zP ?_|refine zQ ?_|refine zR ?_)|((with_reducible refine zU (hK _ _ ?_));clear hK K)|((with_reducible refine zV ?_ ?_ fun K1 K3 d hdst h1 h3=>?_);rfl;exact yB rfl;cases hdst;go_simp)|((with_reducible refine zW fun K1 K3 h1 h3=>?_);go_simp)|((first|refine h1 ?_|refine h3 ?_);clear h1 h3 K1 K3)|((first|refine zX (fun hb=>h1 ?_) (fun hb=>h3 ?_)|refine zX (fun hb=>h3 ?_) (fun hb=>h1 ?_))<;>(clear h1 h3 K1 K3;(try have hb2:=yC hb);(try have hb2:=yD hb);(try have hb2:=yE hb);(try have hb2:=yF hb);(try have hb2:=yG hb)))|(refine fun (K2:_→AHeap→Prop) hK2=>?_)|((with_reducible refine zY ?_ ?_);decide)|((with_reducible first|refine zZ ?_ (fun K hK=>?_)|refine yA ?_ (fun K hK=>?_));(focus go_simp;done);go_simp;refine hK _ _ ?_;clear hK K)|((with_reducible refine yH mixed rfl ?_ 20 fun K0 hK0=>?_);kernel_rfl)|(with_reducible first|exact yI|exact yJ|refine yK ?_|refine yL ?_|refine yM ?_)|((with_reducible first|refine yN ?_ ?_|refine yO ?_ ?_|refine yP ?_ ?_);rfl)|((with_reducible refine yQ ?_ ?_);rfl;refine hK0 _ _ ?_;clear hK0 K0)|((with_reducible refine yR ?_ ?_ ?_ ?_);rfl;rfl;rfl)|((with_reducible refine yS ?_ ?_ ?_ fun K2 hK2=>?_);rfl;rfl;exact yB rfl)|((with_reducible refine yT ?_ ?_ ?_ ?_ fun K1 K3 d hdst h1 h3=>?_);rfl;rfl;rfl;exact yB rfl;cases hdst;go_simp)|((with_reducible refine yU ?_ ?_ ?_ ?_ fun K1 K3 d hdst h1 h3=>?_);rfl;rfl;rfl;exact yB rfl;cases hdst;go_simp)|((with_reducible refine yV ?_ ?_ (fun K2 hK2=>?_) ?_);rfl;exact yB rfl)|((with_reducible refine yW ?_ ?_ ?_ ?_ (fun K2 hK2=>?_) ?_);rfl;exact yB rfl;rfl;(focus go_simp;done))|((with_reducible refine yX ?_ ?_ ?_ (fun K2 hK2=>?_) ?_);rfl;rfl;exact yB rfl)|((with_reducible refine yY ?_ ?_ (fun K2 hK2=>?_) ?_);rfl;rfl)|((with_reducible refine yZ ?_ ?_);(first|rfl|(dsimp only;decide +kernel)))|((with_reducible refine xA ?_ ?_);(focus go_simp;done))|(go_simp;(try go_bits);(try first  | ((refine sliceHi_x (k := k) el22 sz3 (by first | exact hR0 | exact hR1 _ | exact hR7 | exact hR71 _) rfl hkc hc0 ?_); go_simp) | ((refine sliceLo_x (k := k + 1) el22 sz3 (by first | exact hR0 | exact hR1 _ | exact hR7 | exact hR71 _) HKI.out hk1 hlc ?_); go_simp) | ((refine lit0_v el22 sz3 ze3 rfl (by decide) ?_); go_simp) | ((refine append0_v (b := H'.n) el22 sz3 by3 ze3 rfl (by decide) AHeap.get_push_new (srcCells_some HKP.out (HC1.out _ (AHeap.get_push_old hbG))) HKP.out HL1.out oneV_list_int (by rw [HL1.out]; show k * 1 * 8 ≤ 1073741824; omega) fun H7 hn7 hg7 hk7 => ?_); (have HO7 := Lib.hid (own_new (base := H'.n) (size := 1) (by rw [AHeap.n_push]; omega) (by omega) hg7 HL1.out HKP.out)); (have HX7 := Lib.hid (grown_ext (Ext.push _) (Nat.le_refl _) hn7 hk7)); (have hR7 : elemIsR H7 b 3 = true := (elemIsR_get (HX7.out.get b hbG)).trans hR0); (have hG7 : H'.n ≤ H7.n := HX7.out.n); clear hn7 hg7 hk7; go_simp) | ((refine append_v el22 sz3 by3 ze3 rfl (by decide) HO7.out (srcCells_some hm2 (HC2.out _ (HX7.out.get b hbG))) hm2 HL2.out (by rw [List.all_append, oneV_list_int, oneV_list_int]; rfl) (by rw [HL1.out, HL2.out]; show (k * 1 + (ids.length - (k + 1)) * 1) * 8 ≤ 1073741824; omega) hG7 fun v2 H8 ho8 hg8 => ?_); (have HO8 := Lib.hid ho8); (have HG8 := Lib.hid hg8); clear ho8 hg8; go_simp));(first|(refine hK2 _ _ ?_ ?_<;>clear hK2 K2)|(refine hK2 _ _ ?_;clear hK2 K2))))

            refine ⟨rfl, (by first|go_simp<;>go_num|assumption), (by first|go_simp<;>go_num|assumption), (by first|go_simp<;>go_num|assumption), (by first|go_simp<;>go_num|assumption), ⟨_, (by first|go_simp<;>go_num|assumption), ?_⟩, ⟨Nat.le_trans HX7.out.n HG8.out.1, fun i hi => (HG8.out.2 i (Nat.lt_of_lt_of_le hi HX7.out.n) (fun b n hv hn e => by cases hv; (try simp only [AHeap.n_push] at e); omega)).trans (HX7.out.get i hi)⟩⟩
            have h88 := HO8.out
            rw [← List.map_append] at h88
            exact own_ints h88 HLL.out
      · rintro _ f3 H3 ⟨rfl, f5, f11, f12, hd, ⟨lv', f23, hlv⟩, hx3⟩
        have HLV := Lib.hid hlv
        have HX3 := Lib.hid hx3
        clear hlv hx3
        refine Post.then_normal ?_
        have hcs3 : cellsAt H3 H.n 0 3 = some [.int .i64 t.days, .slice ca t.closed.length cc, .slice fa t.flaws.length fc] := (HX3.out.cellsAt hnG).trans hcs
        have hel : errList t (ids.take k ++ ids.drop (k + 1)) = 0 := errList_sub HERR.out HSUB.out
        have HCL := Lib.hid (can_s (loops := []) (HV.out.ext (HXG.out.trans HX3.out)) HLV.out)
        rw [hel] at HCL
        generalize t.can (ids.take k ++ ids.drop (k + 1)) = cl at HCL
        repeat' (first|(with_reducible first|refine zA ?_|refine zB fun K hK=>?_|refine zC fun K2 hK2=>?_|refine zD ?_|refine zE ?_|refine zF ?_|refine zG ?_|refine zH ?_|refine zI ?_|refine zM ?_|refine zN ?_|refine zO ?_|refine zP ?_|refine zQ ?_|refine zR ?_)|((with_reducible refine zU (hK _ _ ?_));clear hK K)|((with_reducible refine zV ?_ ?_ fun K1 K3 d hdst h1 h3=>?_);rfl;exact yB rfl;cases hdst;go_simp)|((with_reducible refine zW fun K1 K3 h1 h3=>?_);go_simp)|((first|refine h1 ?_|refine h3 ?_);clear h1 h3 K1 K3)|((first|refine zX (fun hb=>h1 ?_) (fun hb=>h3 ?_)|refine zX (fun hb=>h3 ?_) (fun hb=>h1 ?_))<;>(clear h1 h3 K1 K3;(try have hb2:=yC hb);(try have hb2:=yD hb);(try have hb2:=yE hb);(try have hb2:=yF hb);(try have hb2:=yG hb)))|(refine fun (K2:_→AHeap→Prop) hK2=>?_)|((with_reducible refine zY ?_ ?_);decide)|((with_reducible first|refine zZ ?_ (fun K hK=>?_)|refine yA ?_ (fun K hK=>?_));(focus go_simp;done);go_simp;refine hK _ _ ?_;clear hK K)|(go_simp;(try go_bits);(try first | ((with_reducible show CallS _ _ _ _ _ _);refine CallS.mono HCL.out ?_; rintro _ _ ⟨rfl, h9⟩; rw [h9]; clear h9; go_simp));refine hK2 _ _ ?_;clear hK2 K2))
        all_goals rfl
end Go.Proofs.Try
