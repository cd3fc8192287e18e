/- Contracts of functions, walked. -/
import Derived.Test.YtbpdmnkbehapcaaGreatStN6
import Derived.Test.YtbpdmnkbehapcaaGreatStMC
import Derived.Test.YtbpdmnkbehapcaaGreatAmS
import Derived.Test.YtbpdmnkbehapcaaGreatAwB
import Derived.Test.YtbpdmnkbehapcaaGreatStM6
import Derived.Test.YtbpdmnkbehapcaaGreatStMA
set_option linter.all false
namespace Go.Proofs.Tryz
open Go Go.Am Go.RowKit
set_option maxRecDepth 100000


section
variable {H : AHeap} {β : Type} {kk : K β} {other : Unit → Option β} {dst : Option Tmp} {ty : TypeId} {src : String} {af : Array Edge} {g : Option (Nat × Bool)}
@[go_sem] theorem aBin_bool {a b : Bool} : aBin Tryz.prog .eql 4 (.bool a) (.bool b) H kk other = other () := by
  have h : nilEq Tryz.prog 4 (.bool a) (.bool b) = none := by kernel_rfl
  simp only [aBin, aEq, h]
noncomputable def eqBV (o : Oper) (ev : Operand → Value) (v u : Value) (H : AHeap) (kk : K β) : Option β := match v, u with
  | .bool a, .bool b => kk (.bool (a == b)) H
  | _, _ => plainRest Tryz.prog o ev H kk
@[go_sem] theorem eqBV_bool {o : Oper} {ev : Operand → Value} {a b : Bool} : eqBV o ev (.bool a) (.bool b) H kk = kk (.bool (a == b)) H := rfl
@[go_sem] theorem aPlain_eqB {t' : TypeId} {x y : Operand} {ev : Operand → Value} : aPlain Tryz.prog ⟨dst, .binOp .eql 4 x y t', ty, src, af, g⟩ ev H kk = eqBV ⟨dst, .binOp .eql 4 x y t', ty, src, af, g⟩ ev (ev x) (ev y) H kk := by
  unfold eqBV
  split
  · rename_i a b hx hy
    rw [plain_of rfl]
    have e1 : ((Op.binOp .eql 4 x y t').operands.toList.all fun x => plainV 6 (ev x)) = true := by
      show ([x, y].all fun x => plainV 6 (ev x)) = true
      simp [hx, hy]
      exact ⟨rfl, rfl⟩
    rw [if_pos e1]
    have e2 : pureOf Tryz.prog (execOp ev ⟨dst, .binOp .eql 4 x y t', ty, src, af, g⟩) = some (.value (.bool (a == b))) := by
      simp only [execOp, hx, hy]
      kernel_rfl
    rw [e2]
    rfl
  · rfl
end
theorem head_s {loops : List (Nat × LInfo)} {H : AHeap} : CallS Tryz.prog loops 12 [] H fun r H' => r = .bool true ∧ H' = H := CallS.of_calls rfl rfl sanity_calls

def Tour.few (t : Tour) : Bool := decide (t.closed.length ≤ 70) && (decide (t.flaws.length ≤ 8) || (decide (40 < t.flaws.length) && decide (t.flaws.length ≤ 50)))

theorem few_s {loops : List (Nat × LInfo)} {H : AHeap} {v : Value} {t : Tour} (hv : TourV H v t) : CallS Tryz.prog loops 13 [v] H fun r H' => r = .bool t.few ∧ H' = H := by
  refine CallS.forget (R := fun r => r = .bool t.few) (by rintro v rfl; rfl) ?_
  obtain ⟨cv, fv, rfl, hc, hf⟩ := hv
  obtain ⟨hcl, ca, cc, rfl⟩ := hc.slice
  obtain ⟨hfl, fa, fc, rfl⟩ := hf.slice
  unfold Tour.few
  clear hc hf
  refine CallS.enter' Tryz.func13 rfl Tryz.ntmps13 (by simp) fun f hd hf => ?_
  have f0 := hf 0
  simp at f0
  clear hf
  repeat' (first|(with_reducible first|refine zA ?_|refine zB fun K hK=>?_|refine zC fun K2 hK2=>?_|refine zD ?_|refine zE ?_|refine zF ?_|refine zG ?_|refine zH ?_|refine zI ?_|refine zM ?_|refine zN ?_|refine zO ?_|refine zP ?_|refine zQ ?_|refine zR ?_)|((with_reducible refine zU (hK _ _ ?_));clear hK K)|((with_reducible refine zV ?_ ?_ fun K1 K3 d hdst h1 h3=>?_);rfl;exact yB rfl;cases hdst;go_simp)|((with_reducible refine zW fun K1 K3 h1 h3=>?_);go_simp)|((first|refine h1 ?_|refine h3 ?_);clear h1 h3 K1 K3)|((first|refine zX (fun hb=>h1 ?_) (fun hb=>h3 ?_)|refine zX (fun hb=>h3 ?_) (fun hb=>h1 ?_))<;>(clear h1 h3 K1 K3;(try have hb2:=yC hb);(try have hb2:=yD hb);(try have hb2:=yE hb);(try have hb2:=yF hb);(try have hb2:=yG hb)))|(refine fun (K2:_→AHeap→Prop) hK2=>?_)|((with_reducible refine zY ?_ ?_);decide)|((with_reducible first|refine zZ ?_ (fun K hK=>?_)|refine yA ?_ (fun K hK=>?_));(focus go_simp;done);go_simp;refine hK _ _ ?_;clear hK K)|(go_simp;(try go_bits);refine hK2 _ _ ?_;clear hK2 K2))
  all_goals (refine ⟨?_, (Ext.refl _).push' _⟩; (try (rw [Value.bool.injEq, Bool.eq_iff_iff])); simp_all; try omega)

theorem conv5 {dst : Option Tmp} {x : Operand} {ty : TypeId} {src : String} {af : Array Edge} {g : Option (Nat × Bool)} {a : Int} (ev : Operand → Value) (hx : ev x = .int .u8 a) : pureOf Tryz.prog (execOp ev ⟨dst, .convert 5 3 x, ty, src, af, g⟩) = some (.value (.int .i64 (IntKind.i64.wrap a))) := by
  simp only [execOp, hx]
  kernel_rfl
def convV {β : Type} (v : Value) (H : AHeap) (kk : K β) (other : Unit → Option β) : Option β := match v with
  | .int .u8 a => kk (.int .i64 (IntKind.i64.wrap a)) H
  | _ => other ()
@[go_sem] theorem convV_u8 {β : Type} {a : Int} {H : AHeap} {kk : K β} {other : Unit → Option β} : convV (.int .u8 a) H kk other = kk (.int .i64 (IntKind.i64.wrap a)) H := rfl
theorem aPlain_conv5 {β : Type} {dst : Option Tmp} {x : Operand} {ty : TypeId} {src : String} {af : Array Edge} {g : Option (Nat × Bool)} {ev : Operand → Value} {H : AHeap} {kk : K β} : aPlain Tryz.prog ⟨dst, .convert 5 3 x, ty, src, af, g⟩ ev H kk = convV (ev x) H kk fun _ => aPlain Tryz.prog ⟨dst, .convert 5 3 x, ty, src, af, g⟩ ev H kk := by
  unfold convV
  split
  · rename_i a hx
    rw [plain_of rfl]
    have e1 : ((Op.convert 5 3 x).operands.toList.all fun x => plainV 6 (ev x)) = true := by
      show ([x].all fun x => plainV 6 (ev x)) = true
      simp [hx]
      rfl
    rw [if_pos e1, conv5 ev hx]
    rfl
  · rfl
@[go_sem] theorem opP_conv5 {cx : Cx} {H : AHeap} {f : AF} {k : AF → AHeap → Prop} {dst : Option Tmp} {x : Operand} {ty : TypeId} {src : String} {af : Array Edge} {g : Option (Nat × Bool)} : opP Tryz.prog cx ⟨dst, .convert 5 3 x, ty, src, af, g⟩ f H k = Holds (convV (f.eval x) H (fun v H' => some (putP cx.sz f dst v fun f' => k f' H')) fun _ => aPlain Tryz.prog ⟨dst, .convert 5 3 x, ty, src, af, g⟩ f.eval H fun v H' => some (putP cx.sz f dst v fun f' => k f' H')) :=
  opP_convert.trans (congrArg Holds aPlain_conv5)
def CutOk (H : AHeap) (v : Value) : Prop := ∀ b o sp n c, v = .slice (some ⟨b, o, sp⟩) n c → 0 < n → sp = none ∧ n ≤ c ∧ elemIsR H b 3 = true
theorem elemIsR_get {H H' : AHeap} {b : Nat} {e : TypeId} (h : H'.get b = H.get b) : elemIsR H' b e = elemIsR H b e := by simp only [elemIsR, h]

section
variable {P : Program} {H : AHeap} {K : Value → AHeap → Prop} {t e : TypeId} {size : Nat} {q : IntKind} {b o n c : Nat} {l : List Value}
theorem sliceHi_x {k : Nat} {i : Int} (he : elemT P t = some e) (hs : szT P e = some size) (hg : elemIsR H b e = true) (hi : i = k) (hk : k ≤ c) (hc : 0 < c) (h : K (.slice (some ⟨b, o, none⟩) k c) H) : HoldsV (aSlice P t (.slice (some ⟨b, o, none⟩) n c) none (some (.int q i)) H pairK) K := by
  subst hi
  have h1 : hiOf n c (some (.int q (k : Int))) = some k := by show (if k ≤ c then some k else none) = _; rw [if_pos hk]
  simp only [aSlice, he, h1, loOf, hs, Nat.zero_le, if_true, sliceOn, hg, Bool.not_true, Bool.false_eq_true, if_false, hc, Nat.zero_mul, Nat.add_zero, Nat.sub_zero]
  exact h
end
end Go.Proofs.Tryz
namespace Go.Proofs.Tryz
open Go Go.Am Go.RowKit
set_option maxRecDepth 100000


def Taken (days : Int) (cl l : List Int) (D : Nat → Int) : Prop := ∀ j : Nat, j < 60 → (D j = -1 ↔ (j : Int) < days ∧ (j : Int) ∉ cl ∧ (j : Int) ∉ l)
theorem Taken.none {days : Int} {cl : List Int} : Taken days cl [] (dayD days [cl]) := by
  intro j hj
  rw [dayD_one hj]
  by_cases h : (j : Int) < days ∧ (j : Int) ∉ cl
  · rw [if_pos h]; simpa using h
  · rw [if_neg h]; simp only [List.not_mem_nil, not_false_eq_true, and_true]; constructor
    · intro h9; omega
    · intro h9; exact absurd h9 h
theorem Taken.skip {days : Int} {cl l : List Int} {D : Nat → Int} (h : Taken days cl l D) : Taken days cl (l ++ [-1]) D := by
  intro j hj
  rw [h j hj]
  have : ¬ (j : Int) = -1 := by omega
  simp [this]
theorem Taken.put {days d : Int} {cl l : List Int} {D : Nat → Int} {i : Nat} (h : Taken days cl l D) (hd : 0 ≤ d) : Taken days cl (l ++ [d]) (putD D d.toNat i) := by
  intro j hj
  unfold putD
  by_cases he : j = d.toNat
  · have hjd : (j : Int) = d := by omega
    rw [if_pos he]
    constructor
    · intro h9; omega
    · rintro ⟨-, -, h9⟩; exact absurd (by simp [hjd]) h9
  · have hjd : ¬ (j : Int) = d := by omega
    rw [if_neg he, h j hj]
    simp [hjd]
theorem Taken.ok {days : Int} {cl l : List Int} {D : Nat → Int} {a : Flaw} (h : Taken days cl l D) (hlo : 0 ≤ a.lo) (hhi : a.hi < days) (hd6 : days ≤ 60) (d : Int) : putOk a D d = (win a.lo a.hi d && !decide (d ∈ cl) && !decide (d ∈ l)) := by
  rw [Bool.eq_iff_iff]
  simp only [putOk, Bool.and_eq_true, beq_iff_eq, win_iff, Bool.not_eq_true', decide_eq_false_iff_not]
  constructor
  · rintro ⟨h1, h2⟩
    have h3 := (h d.toNat (by omega)).1 h2
    rw [show ((d.toNat : Nat) : Int) = d by omega] at h3
    exact ⟨⟨h1, h3.2.1⟩, h3.2.2⟩
  · rintro ⟨⟨h1, h2⟩, h3⟩
    refine ⟨h1, (h d.toNat (by omega)).2 ?_⟩
    rw [show ((d.toNat : Nat) : Int) = d by omega]
    exact ⟨by omega, h2, h3⟩
theorem take_get {l : List Int} {k : Nat} (h : k < l.length) : l.take (k + 1) = l.take k ++ [l[k]] := by
  rw [List.take_succ, List.getElem?_eq_getElem h]; rfl
theorem ints_take {H : AHeap} {a : Addr} {n c c' : Nat} {l : List Int} (h : Ints H (.slice (some a) n c) l) {k : Nat} (hk : k ≤ l.length) : Ints H (.slice (some a) k c') (l.take k) := by
  obtain ⟨h1, h2, a', c1, h3, h0', h4⟩ := h
  cases h3
  have hlen : (l.take k).length = k := by simp; omega
  refine ⟨by simp, by omega, _, _, by rw [hlen], (fun h => by cases h), fun h0 => ?_⟩
  obtain ⟨b, o, sp, he, hb, hx⟩ := h4 (by omega)
  cases he
  refine ⟨b, o, sp, rfl, hb, fun j u hu => ?_⟩
  have hj : j < k := by have := (List.getElem?_eq_some_iff.1 hu).1; simp at this; omega
  refine hx j u ?_
  rw [← hu]
  simp [List.getElem?_take, hj]

set_option maxHeartbeats 4000000 in
theorem rfits_s {loops : List (Nat × LInfo)} {H : AHeap} {v lv : Value} {t : Tour} {on : List Int} (hv : TourV H v t) (hl : Ints H lv on) (hcut : CutOk H lv) :
    CallS Tryz.prog loops 17 [v, lv] H fun r H' => r = .tuple #[.int .i64 (t.fits on).1, .bool (t.fits on).2.1, .int .i64 (t.fits on).2.2] ∧ H' = H := by
  refine CallS.forget (R := fun r => r = .tuple #[.int .i64 (t.fits on).1, .bool (t.fits on).2.1, .int .i64 (t.fits on).2.2]) (by rintro v rfl; rfl) ?_
  have HV := Lib.hid hv
  have HL := Lib.hid hl
  have HCE := Lib.hid (fun (loops : List (Nat × LInfo)) (H2 : AHeap) (hx : Ext H H2) => rcheck_s (loops := loops) (HV.out.ext hx))
  generalize hR : t.fits on = R
  have HR := Lib.hid hR
  clear hR
  obtain ⟨cv, fv, rfl, hc, hf⟩ := hv
  obtain ⟨hcl, ca, cc, rfl⟩ := hc.slice
  obtain ⟨hfl, fa, fc, rfl⟩ := hf.slice
  obtain ⟨hll, la, lc, rfl⟩ := hl.slice
  have HC := Lib.hid hc
  have HF := Lib.hid hf
  have HCUT := Lib.hid hcut
  clear hc hf hl hcut
  by_cases he : err t = 0
  case' neg =>
    have HE : Hid (R = (0, false, err t)) := Lib.hid (by rw [← HR.out, Tour.fits, if_pos he])
    generalize err t = er at HCE he HE
    have heb : (er != 0) = true := by simpa using he
    have heb2 : (er == 0) = false := by simpa using he
    clear he
    refine CallS.enter' Tryz.func17 rfl Tryz.ntmps17 (by simp) fun f hd hf => ?_
    have f0 := hf 0
    have f1 := hf 1
    simp at f0 f1
    clear hf
    repeat' (first|(with_reducible first|refine zA ?_|refine zB fun K hK=>?_|refine zC fun K2 hK2=>?_|refine zD ?_|refine zE ?_|refine zF ?_|refine zG ?_|refine zH ?_|refine zI ?_|refine zM ?_|refine zN ?_|refine zO ?_|refine zP ?_|refine zQ ?_|refine zR ?_)|((with_reducible refine zU (hK _ _ ?_));clear hK K)|((with_reducible refine zV ?_ ?_ fun K1 K3 d hdst h1 h3=>?_);rfl;exact yB rfl;cases hdst;go_simp)|((with_reducible refine zW fun K1 K3 h1 h3=>?_);go_simp)|((first|refine h1 ?_|refine h3 ?_);clear h1 h3 K1 K3)|((first|refine zX (fun hb=>h1 ?_) (fun hb=>h3 ?_)|refine zX (fun hb=>h3 ?_) (fun hb=>h1 ?_))<;>(clear h1 h3 K1 K3;(try have hb2:=yC hb);(try have hb2:=yD hb);(try have hb2:=yE hb);(try have hb2:=yF hb);(try have hb2:=yG hb)))|(refine fun (K2:_→AHeap→Prop) hK2=>?_)|((with_reducible refine zY ?_ ?_);decide)|((with_reducible first|refine zZ ?_ (fun K hK=>?_)|refine yA ?_ (fun K hK=>?_));(focus go_simp;done);go_simp;refine hK _ _ ?_;clear hK K)|(go_simp;(try go_bits);(try first | ((with_reducible show CallS _ _ _ _ _ _);refine CallS.mono (HCE.out _ _ ((Ext.refl _).push' _)) ?_; rintro _ _ ⟨rfl, rfl⟩));refine hK2 _ _ ?_;clear hK2 K2))
    exact ⟨by rw [HE.out], (Ext.refl _).push' _⟩
  have hg := good_of he
  rw [he] at HCE
  have HG := Lib.hid hg
  have HERR := Lib.hid he
  clear hg he
  by_cases hlen : on.length = t.flaws.length
  case' neg =>
    have HE : Hid (R = (0, false, 1)) := Lib.hid (by rw [← HR.out, Tour.fits, if_neg (by simp [HERR.out]), if_pos hlen])
    have hlb : ((on.length : Int) != (t.flaws.length : Int)) = true := by simp; omega
    refine CallS.enter' Tryz.func17 rfl Tryz.ntmps17 (by simp) fun f hd hf => ?_
    have f0 := hf 0
    have f1 := hf 1
    simp at f0 f1
    clear hf
    repeat' (first|(with_reducible first|refine zA ?_|refine zB fun K hK=>?_|refine zC fun K2 hK2=>?_|refine zD ?_|refine zE ?_|refine zF ?_|refine zG ?_|refine zH ?_|refine zI ?_|refine zM ?_|refine zN ?_|refine zO ?_|refine zP ?_|refine zQ ?_|refine zR ?_)|((with_reducible refine zU (hK _ _ ?_));clear hK K)|((with_reducible refine zV ?_ ?_ fun K1 K3 d hdst h1 h3=>?_);rfl;exact yB rfl;cases hdst;go_simp)|((with_reducible refine zW fun K1 K3 h1 h3=>?_);go_simp)|((first|refine h1 ?_|refine h3 ?_);clear h1 h3 K1 K3)|((first|refine zX (fun hb=>h1 ?_) (fun hb=>h3 ?_)|refine zX (fun hb=>h3 ?_) (fun hb=>h1 ?_))<;>(clear h1 h3 K1 K3;(try have hb2:=yC hb);(try have hb2:=yD hb);(try have hb2:=yE hb);(try have hb2:=yF hb);(try have hb2:=yG hb)))|(refine fun (K2:_→AHeap→Prop) hK2=>?_)|((with_reducible refine zY ?_ ?_);decide)|((with_reducible first|refine zZ ?_ (fun K hK=>?_)|refine yA ?_ (fun K hK=>?_));(focus go_simp;done);go_simp;refine hK _ _ ?_;clear hK K)|(go_simp;(try go_bits);(try first | ((with_reducible show CallS _ _ _ _ _ _);refine CallS.mono (HCE.out _ _ ((Ext.refl _).push' _)) ?_; rintro _ _ ⟨rfl, rfl⟩));refine hK2 _ _ ?_;clear hK2 K2))
    exact ⟨by rw [HE.out], (Ext.refl _).push' _⟩
  have HLEN := Lib.hid hlen
  have HE : Hid (R = if (followL t.flaws on 0 (dayD t.days [t.closed])).1 < on.length then ((t.flaws.getD (followL t.flaws on 0 (dayD t.days [t.closed])).1 nowhere).id, false, 0) else (0, true, 0)) := Lib.hid (by rw [← HR.out, Tour.fits, if_neg (by simp [HERR.out]), if_neg (by simp [HLEN.out])])
  have hlb : ((on.length : Int) != (t.flaws.length : Int)) = false := by simp; omega
  have HMY := Lib.hid (fun (loops : List (Nat × LInfo)) (H2 : AHeap) (i lo hi me d : Int) (hx : Ext H H2) => may_s (loops := loops) (i := i) (lo := lo) (hi := hi) (me := me) (d := d) (HV.out.ext hx))
  clear hlen HCE
  generalize hN : (followL t.flaws on 0 (dayD t.days [t.closed])).1 = N at HE
  have HN := Lib.hid hN
  clear hN
  have HCE := Lib.hid (fun (loops : List (Nat × LInfo)) (H2 : AHeap) (hx : Ext H H2) => (rcheck_s (loops := loops) (HV.out.ext hx)).mono fun r H3 (h : r = .int .i64 (err t) ∧ H3 = H2) => (⟨by rw [h.1, HERR.out], h.2⟩ : r = .int .i64 0 ∧ H3 = H2))
  refine CallS.enter' Tryz.func17 rfl Tryz.ntmps17 (by simp) fun f hd hf => ?_
  have f0 := hf 0
  have f1 := hf 1
  simp at f0 f1
  clear hf
  repeat' (first|(with_reducible first|refine zA ?_|refine zB fun K hK=>?_|refine zC fun K2 hK2=>?_|refine zD ?_|refine zE ?_|refine zF ?_|refine zG ?_|refine zH ?_|refine zI ?_|refine zM ?_|refine zN ?_|refine zO ?_|refine zP ?_|refine zQ ?_|refine zR ?_)|((with_reducible refine zU (hK _ _ ?_));clear hK K)|((with_reducible refine zV ?_ ?_ fun K1 K3 d hdst h1 h3=>?_);rfl;exact yB rfl;cases hdst;go_simp)|((with_reducible refine zW fun K1 K3 h1 h3=>?_);go_simp)|((first|refine h1 ?_|refine h3 ?_);clear h1 h3 K1 K3)|((first|refine zX (fun hb=>h1 ?_) (fun hb=>h3 ?_)|refine zX (fun hb=>h3 ?_) (fun hb=>h1 ?_))<;>(clear h1 h3 K1 K3;(try have hb2:=yC hb);(try have hb2:=yD hb);(try have hb2:=yE hb);(try have hb2:=yF hb);(try have hb2:=yG hb)))|(refine fun (K2:_→AHeap→Prop) hK2=>?_)|((with_reducible refine zY ?_ ?_);decide)|((with_reducible first|refine zZ ?_ (fun K hK=>?_)|refine yA ?_ (fun K hK=>?_));(focus go_simp;done);go_simp;refine hK _ _ ?_;clear hK K)|(go_simp;(try go_bits);(try first | ((with_reducible show CallS _ _ _ _ _ _);refine CallS.mono (HCE.out _ _ ((Ext.refl _).push' _)) ?_; rintro _ _ ⟨rfl, rfl⟩));refine hK2 _ _ ?_;clear hK2 K2))
  have HXG : Hid (Ext H (H.push (.row [.int .i64 t.days, .slice ca t.closed.length cc, .slice fa t.flaws.length fc] 25))) := Lib.hid ((Ext.refl _).push' _)
  have hc3 : cellsAt (H.push (.row [.int .i64 t.days, .slice ca t.closed.length cc, .slice fa t.flaws.length fc] 25)) H.n 0 3 = some [.int .i64 t.days, .slice ca t.closed.length cc, .slice fa t.flaws.length fc] := by go_simp
  have hc2 : cellAt (H.push (.row [.int .i64 t.days, .slice ca t.closed.length cc, .slice fa t.flaws.length fc] 25)) H.n 2 = some (.slice fa t.flaws.length fc) := by go_simp
  have hn0 : H.n < (H.push (.row [.int .i64 t.days, .slice ca t.closed.length cc, .slice fa t.flaws.length fc] 25)).n := by simp only [AHeap.n_push]; omega
  generalize (H.push (.row [.int .i64 t.days, .slice ca t.closed.length cc, .slice fa t.flaws.length fc] 25)) = G at HXG hc3 hc2 hn0 ⊢
  refine CodeS.loop (fun m f H' => ∃ (k : Nat) (D : Nat → Int), k ≤ on.length ∧ m = on.length - k ∧ f.tmp 8 = .int .i64 k ∧ f.tmp 1 = .slice la on.length lc ∧ f.tmp 2 = .pointer (some ⟨H.n, 0, none⟩) ∧ f.defers = [] ∧ Hid (Taken t.days t.closed (on.take k) D) ∧ Hid ((followL t.flaws (on.drop k) k D).1 = N) ∧ H' = G) on.length ?_ ?_
  · exact ⟨0, dayD t.days [t.closed], by simp, by simp, (by first|go_simp<;>go_num|assumption), (by first|go_simp<;>go_num|assumption), (by first|go_simp<;>go_num|assumption), (by first|go_simp<;>go_num|assumption), Lib.hid (by rw [List.take_zero]; exact Taken.none), Lib.hid (by rw [List.drop_zero]; exact HN.out), rfl⟩
  clear f0 f1 hd f HN
  rintro m f H' ⟨k, D, hk, rfl, f8, f1, f2, hd, HT, HN, e9⟩
  have e9 := e9.symm
  subst e9
  by_cases hlt : k < on.length
  · obtain ⟨b, o, sp, rfl, hb, hx⟩ := (HL.out.ext HXG.out).at_ hlt
    have hlt2 : k < t.flaws.length := by rw [← HLEN.out]; exact hlt
    obtain ⟨fb, fo, fsp, rfl, hfb, hx4, hx5⟩ := (HF.out.ext HXG.out).at_ hlt2
    have hx0 := hx5 0 _ rfl
    simp only [Nat.add_zero] at hx0
    obtain ⟨rfl, hnc, hel⟩ := HCUT.out b o sp on.length lc rfl (by omega)
    have hbH : b < H.n := by
      obtain ⟨b', o', sp', h1, h2, -⟩ := HL.out.at_ hlt
      cases h1; exact h2
    have hel2 : elemIsR G b 3 = true := by rw [elemIsR_get (HXG.out.get b hbH)]; exact hel
    have hc0 : 0 < lc := by omega
    have hkc : k ≤ lc := by omega
    have HHS := Lib.hid (fun (loops : List (Nat × LInfo)) (x : Int) => has_s (loops := loops) (x := x) (ints_take (c' := lc) (HL.out.ext HXG.out) (Nat.le_of_lt hlt)))
    have HD := Lib.hid (List.drop_eq_getElem_cons hlt)
    have HTK := Lib.hid (take_get hlt)
    generalize on[k] = y at hx HD HTK
    have HFG : Hid (t.flaws.getD k nowhere = t.flaws[k]) := Lib.hid (by rw [List.getD_eq_getElem?_getD, List.getElem?_eq_getElem hlt2]; rfl)
    have HSP := Lib.hid (HG.out.right _ (List.getElem_mem hlt2))
    generalize t.flaws[k] = a at hx4 hx0 HFG HSP
    clear hx5 hel hnc hbH
    have hki : (k : Int) < (on.length : Int) := by omega
    by_cases hy : y = -1
    case' pos =>
      have hyb : (y == -1) = true := by simpa using hy
      have HFS : Hid ((followL t.flaws (on.drop (k + 1)) (k + 1) D).1 = N) := Lib.hid (by rw [← HN.out, HD.out, followL, if_pos hy])
      have HT2 : Hid (Taken t.days t.closed (on.take (k + 1)) D) := Lib.hid (by rw [HTK.out, hy]; exact HT.out.skip)
      clear hy HT HN
      repeat' (first|(with_reducible first|refine zA ?_|refine zB fun K hK=>?_|refine zC fun K2 hK2=>?_|refine zD ?_|refine zE ?_|refine zF ?_|refine zG ?_|refine zH ?_|refine zI ?_|refine zM ?_|refine zN ?_|refine zO ?_|refine zP ?_|refine zQ ?_|refine zR ?_)|((with_reducible refine zU (hK _ _ ?_));clear hK K)|((with_reducible refine zV ?_ ?_ fun K1 K3 d hdst h1 h3=>?_);rfl;exact yB rfl;cases hdst;go_simp)|((with_reducible refine zW fun K1 K3 h1 h3=>?_);go_simp)|((first|refine h1 ?_|refine h3 ?_);clear h1 h3 K1 K3)|((first|refine zX (fun hb=>h1 ?_) (fun hb=>h3 ?_)|refine zX (fun hb=>h3 ?_) (fun hb=>h1 ?_))<;>(clear h1 h3 K1 K3;(try have hb2:=yC hb);(try have hb2:=yD hb);(try have hb2:=yE hb);(try have hb2:=yF hb);(try have hb2:=yG hb)))|(refine fun (K2:_→AHeap→Prop) hK2=>?_)|((with_reducible refine zY ?_ ?_);decide)|((with_reducible first|refine zZ ?_ (fun K hK=>?_)|refine yA ?_ (fun K hK=>?_));(focus go_simp;done);go_simp;refine hK _ _ ?_;clear hK K)|(go_simp;(try go_bits);refine hK2 _ _ ?_;clear hK2 K2))
      refine Post.round_normal ⟨on.length - (k + 1), by omega, k + 1, D, by omega, rfl, (by first|go_simp<;>go_num|assumption), (by first|go_simp<;>go_num|assumption), (by first|go_simp<;>go_num|assumption), (by first|go_simp<;>go_num|assumption), HT2, HFS, rfl⟩
    have hyb : (y == -1) = false := by simpa using hy
    have HOK : Hid (putOk a D y = (win a.lo a.hi y && !decide (y ∈ t.closed) && !decide (y ∈ on.take k))) := Lib.hid (by
      have h := HSP.out
      have hd6 := HG.out.days
      simp only [Flaw.right, isSpan_eq, Bool.and_eq_true, decide_eq_true_eq, win_iff] at h hd6
      exact HT.out.ok (by omega) (by omega) (by omega) y)
    have HFS : Hid (N = (if putOk a D y = true then followL t.flaws (on.drop (k + 1)) (k + 1) (putD D y.toNat k) else (k, D)).1) := Lib.hid (by rw [← HN.out, HD.out, followL, if_neg hy, show (⟨0, 0, 0, 0⟩ : Flaw) = nowhere from rfl, HFG.out])
    have HPO : Hid (putOk a D y = true → 0 ≤ y) := Lib.hid (by
      intro h9
      have h := HSP.out
      simp only [Flaw.right, isSpan_eq, Bool.and_eq_true, decide_eq_true_eq, win_iff] at h
      simp only [putOk, Bool.and_eq_true, win_iff] at h9
      omega)
    have HM9 := Lib.hid (fun (loops : List (Nat × LInfo)) => HMY.out loops G a.id a.lo a.hi a.merit y HXG.out)
    have HH9 := Lib.hid (fun (loops : List (Nat × LInfo)) => HHS.out loops y)
    generalize (win a.lo a.hi y && !decide (y ∈ t.closed)) = w1 at HOK HM9
    generalize decide (y ∈ on.take k) = w2 at HOK HH9
    generalize hid : a.id = aid at hx0 hx4 HM9
    have HID := Lib.hid hid
    unfold Flaw.cells at hx4
    rw [hid] at hx4
    generalize a.lo = alo at hx4 HM9
    generalize a.hi = ahi at hx4 HM9
    generalize a.merit = ame at hx4 HM9
    clear hid hy HMY HHS
    cases w1
    case' false =>
      have HNK : Hid (N = k) := Lib.hid (by rw [HFS.out, HOK.out]; rfl)
      repeat' (first|(with_reducible first|refine zA ?_|refine zB fun K hK=>?_|refine zC fun K2 hK2=>?_|refine zD ?_|refine zE ?_|refine zF ?_|refine zG ?_|refine zH ?_|refine zI ?_|refine zM ?_|refine zN ?_|refine zO ?_|refine zP ?_|refine zQ ?_|refine zR ?_)|((with_reducible refine zU (hK _ _ ?_));clear hK K)|((with_reducible refine zV ?_ ?_ fun K1 K3 d hdst h1 h3=>?_);rfl;exact yB rfl;cases hdst;go_simp)|((with_reducible refine zW fun K1 K3 h1 h3=>?_);go_simp)|((first|refine h1 ?_|refine h3 ?_);clear h1 h3 K1 K3)|((first|refine zX (fun hb=>h1 ?_) (fun hb=>h3 ?_)|refine zX (fun hb=>h3 ?_) (fun hb=>h1 ?_))<;>(clear h1 h3 K1 K3;(try have hb2:=yC hb);(try have hb2:=yD hb);(try have hb2:=yE hb);(try have hb2:=yF hb);(try have hb2:=yG hb)))|(refine fun (K2:_→AHeap→Prop) hK2=>?_)|((with_reducible refine zY ?_ ?_);decide)|((with_reducible first|refine zZ ?_ (fun K hK=>?_)|refine yA ?_ (fun K hK=>?_));(focus go_simp;done);go_simp;refine hK _ _ ?_;clear hK K)|((with_reducible refine yH mixed rfl ?_ 20 fun K0 hK0=>?_);kernel_rfl)|(with_reducible first|exact yI|exact yJ|refine yK ?_|refine yL ?_|refine yM ?_)|((with_reducible first|refine yN ?_ ?_|refine yO ?_ ?_|refine yP ?_ ?_);rfl)|((with_reducible refine yQ ?_ ?_);rfl;refine hK0 _ _ ?_;clear hK0 K0)|((with_reducible refine yR ?_ ?_ ?_ ?_);rfl;rfl;rfl)|((with_reducible refine yS ?_ ?_ ?_ fun K2 hK2=>?_);rfl;rfl;exact yB rfl)|((with_reducible refine yT ?_ ?_ ?_ ?_ fun K1 K3 d hdst h1 h3=>?_);rfl;rfl;rfl;exact yB rfl;cases hdst;go_simp)|((with_reducible refine yU ?_ ?_ ?_ ?_ fun K1 K3 d hdst h1 h3=>?_);rfl;rfl;rfl;exact yB rfl;cases hdst;go_simp)|((with_reducible refine yV ?_ ?_ (fun K2 hK2=>?_) ?_);rfl;exact yB rfl)|((with_reducible refine yW ?_ ?_ ?_ ?_ (fun K2 hK2=>?_) ?_);rfl;exact yB rfl;rfl;(focus go_simp;done))|((with_reducible refine yX ?_ ?_ ?_ (fun K2 hK2=>?_) ?_);rfl;rfl;exact yB rfl)|((with_reducible refine yY ?_ ?_ (fun K2 hK2=>?_) ?_);rfl;rfl)|((with_reducible refine yZ ?_ ?_);(first|rfl|(dsimp only;decide +kernel)))|((with_reducible refine xA ?_ ?_);(focus go_simp;done))|(go_simp;(try go_bits);(try first | ((with_reducible show CallS _ _ _ _ _ _);refine CallS.mono (HM9.out _) ?_; rintro _ _ ⟨rfl, rfl⟩));(first|(refine hK2 _ _ ?_ ?_<;>clear hK2 K2)|(refine hK2 _ _ ?_;clear hK2 K2))))
      all_goals (refine ⟨?_, HXG.out⟩; rw [HE.out, HNK.out, if_pos hlt, HFG.out, HID.out])
    cases w2
    case' true =>
      have HNK : Hid (N = k) := Lib.hid (by rw [HFS.out, HOK.out]; rfl)
      repeat' (first|((with_reducible refine xA ?_ ?_); focus (go_simp; refine sliceHi_x (k := k) el22 sz3 hel2 rfl hkc hc0 rfl; done))|(with_reducible first|refine zA ?_|refine zB fun K hK=>?_|refine zC fun K2 hK2=>?_|refine zD ?_|refine zE ?_|refine zF ?_|refine zG ?_|refine zH ?_|refine zI ?_|refine zM ?_|refine zN ?_|refine zO ?_|refine zP ?_|refine zQ ?_|refine zR ?_)|((with_reducible refine zU (hK _ _ ?_));clear hK K)|((with_reducible refine zV ?_ ?_ fun K1 K3 d hdst h1 h3=>?_);rfl;exact yB rfl;cases hdst;go_simp)|((with_reducible refine zW fun K1 K3 h1 h3=>?_);go_simp)|((first|refine h1 ?_|refine h3 ?_);clear h1 h3 K1 K3)|((first|refine zX (fun hb=>h1 ?_) (fun hb=>h3 ?_)|refine zX (fun hb=>h3 ?_) (fun hb=>h1 ?_))<;>(clear h1 h3 K1 K3;(try have hb2:=yC hb);(try have hb2:=yD hb);(try have hb2:=yE hb);(try have hb2:=yF hb);(try have hb2:=yG hb)))|(refine fun (K2:_→AHeap→Prop) hK2=>?_)|((with_reducible refine zY ?_ ?_);decide)|((with_reducible first|refine zZ ?_ (fun K hK=>?_)|refine yA ?_ (fun K hK=>?_));(focus go_simp;done);go_simp;refine hK _ _ ?_;clear hK K)|((with_reducible refine yH mixed rfl ?_ 20 fun K0 hK0=>?_);kernel_rfl)|(with_reducible first|exact yI|exact yJ|refine yK ?_|refine yL ?_|refine yM ?_)|((with_reducible first|refine yN ?_ ?_|refine yO ?_ ?_|refine yP ?_ ?_);rfl)|((with_reducible refine yQ ?_ ?_);rfl;refine hK0 _ _ ?_;clear hK0 K0)|((with_reducible refine yR ?_ ?_ ?_ ?_);rfl;rfl;rfl)|((with_reducible refine yS ?_ ?_ ?_ fun K2 hK2=>?_);rfl;rfl;exact yB rfl)|((with_reducible refine yT ?_ ?_ ?_ ?_ fun K1 K3 d hdst h1 h3=>?_);rfl;rfl;rfl;exact yB rfl;cases hdst;go_simp)|((with_reducible refine yU ?_ ?_ ?_ ?_ fun K1 K3 d hdst h1 h3=>?_);rfl;rfl;rfl;exact yB rfl;cases hdst;go_simp)|((with_reducible refine yV ?_ ?_ (fun K2 hK2=>?_) ?_);rfl;exact yB rfl)|((with_reducible refine yW ?_ ?_ ?_ ?_ (fun K2 hK2=>?_) ?_);rfl;exact yB rfl;rfl;(focus go_simp;done))|((with_reducible refine yX ?_ ?_ ?_ (fun K2 hK2=>?_) ?_);rfl;rfl;exact yB rfl)|((with_reducible refine yY ?_ ?_ (fun K2 hK2=>?_) ?_);rfl;rfl)|((with_reducible refine yZ ?_ ?_);(first|rfl|(dsimp only;decide +kernel)))|((with_reducible refine xA ?_ ?_);(focus go_simp;done))|(go_simp;(try go_bits);(try first |((with_reducible show CallS _ _ _ _ _ _);first|(refine CallS.mono (HM9.out _) ?_; rintro _ _ ⟨rfl, rfl⟩)|(refine CallS.mono (HH9.out _) ?_; rintro _ _ ⟨rfl, rfl⟩))|((refine sliceHi_x (k := k) el22 sz3 hel2 rfl hkc hc0 ?_); go_simp));(first|(refine hK2 _ _ ?_ ?_<;>clear hK2 K2)|(refine hK2 _ _ ?_;clear hK2 K2))))
      all_goals (refine ⟨?_, HXG.out⟩; rw [HE.out, HNK.out, if_pos hlt, HFG.out, HID.out])
    have HOK1 : Hid (putOk a D y = true) := Lib.hid (by rw [HOK.out]; rfl)
    have HFS2 : Hid ((followL t.flaws (on.drop (k + 1)) (k + 1) (putD D y.toNat k)).1 = N) := Lib.hid (by rw [HFS.out, if_pos HOK1.out])
    have HT2 : Hid (Taken t.days t.closed (on.take (k + 1)) (putD D y.toNat k)) := Lib.hid (by rw [HTK.out]; exact HT.out.put (HPO.out HOK1.out))
    repeat' (first|((with_reducible refine xA ?_ ?_); focus (go_simp; refine sliceHi_x (k := k) el22 sz3 hel2 rfl hkc hc0 rfl; done))|(with_reducible first|refine zA ?_|refine zB fun K hK=>?_|refine zC fun K2 hK2=>?_|refine zD ?_|refine zE ?_|refine zF ?_|refine zG ?_|refine zH ?_|refine zI ?_|refine zM ?_|refine zN ?_|refine zO ?_|refine zP ?_|refine zQ ?_|refine zR ?_)|((with_reducible refine zU (hK _ _ ?_));clear hK K)|((with_reducible refine zV ?_ ?_ fun K1 K3 d hdst h1 h3=>?_);rfl;exact yB rfl;cases hdst;go_simp)|((with_reducible refine zW fun K1 K3 h1 h3=>?_);go_simp)|((first|refine h1 ?_|refine h3 ?_);clear h1 h3 K1 K3)|((first|refine zX (fun hb=>h1 ?_) (fun hb=>h3 ?_)|refine zX (fun hb=>h3 ?_) (fun hb=>h1 ?_))<;>(clear h1 h3 K1 K3;(try have hb2:=yC hb);(try have hb2:=yD hb);(try have hb2:=yE hb);(try have hb2:=yF hb);(try have hb2:=yG hb)))|(refine fun (K2:_→AHeap→Prop) hK2=>?_)|((with_reducible refine zY ?_ ?_);decide)|((with_reducible first|refine zZ ?_ (fun K hK=>?_)|refine yA ?_ (fun K hK=>?_));(focus go_simp;done);go_simp;refine hK _ _ ?_;clear hK K)|((with_reducible refine yH mixed rfl ?_ 20 fun K0 hK0=>?_);kernel_rfl)|(with_reducible first|exact yI|exact yJ|refine yK ?_|refine yL ?_|refine yM ?_)|((with_reducible first|refine yN ?_ ?_|refine yO ?_ ?_|refine yP ?_ ?_);rfl)|((with_reducible refine yQ ?_ ?_);rfl;refine hK0 _ _ ?_;clear hK0 K0)|((with_reducible refine yR ?_ ?_ ?_ ?_);rfl;rfl;rfl)|((with_reducible refine yS ?_ ?_ ?_ fun K2 hK2=>?_);rfl;rfl;exact yB rfl)|((with_reducible refine yT ?_ ?_ ?_ ?_ fun K1 K3 d hdst h1 h3=>?_);rfl;rfl;rfl;exact yB rfl;cases hdst;go_simp)|((with_reducible refine yU ?_ ?_ ?_ ?_ fun K1 K3 d hdst h1 h3=>?_);rfl;rfl;rfl;exact yB rfl;cases hdst;go_simp)|((with_reducible refine yV ?_ ?_ (fun K2 hK2=>?_) ?_);rfl;exact yB rfl)|((with_reducible refine yW ?_ ?_ ?_ ?_ (fun K2 hK2=>?_) ?_);rfl;exact yB rfl;rfl;(focus go_simp;done))|((with_reducible refine yX ?_ ?_ ?_ (fun K2 hK2=>?_) ?_);rfl;rfl;exact yB rfl)|((with_reducible refine yY ?_ ?_ (fun K2 hK2=>?_) ?_);rfl;rfl)|((with_reducible refine yZ ?_ ?_);(first|rfl|(dsimp only;decide +kernel)))|((with_reducible refine xA ?_ ?_);(focus go_simp;done))|(go_simp;(try go_bits);(try first |((with_reducible show CallS _ _ _ _ _ _);first|(refine CallS.mono (HM9.out _) ?_; rintro _ _ ⟨rfl, rfl⟩)|(refine CallS.mono (HH9.out _) ?_; rintro _ _ ⟨rfl, rfl⟩))|((refine sliceHi_x (k := k) el22 sz3 hel2 rfl hkc hc0 ?_); go_simp));(first|(refine hK2 _ _ ?_ ?_<;>clear hK2 K2)|(refine hK2 _ _ ?_;clear hK2 K2))))
    all_goals (refine Post.round_normal ⟨on.length - (k + 1), by omega, k + 1, putD D y.toNat k, by omega, rfl, (by first|go_simp<;>go_num|assumption), (by first|go_simp<;>go_num|assumption), (by first|go_simp<;>go_num|assumption), (by first|go_simp<;>go_num|assumption), HT2, HFS2, rfl⟩)
  · have hke : k = on.length := by omega
    have hki : ¬ (k : Int) < (on.length : Int) := by omega
    have HNK : Hid (N = on.length) := Lib.hid (by rw [← HN.out, hke, List.drop_length]; rfl)
    clear HN HT
    repeat' (first|(with_reducible first|refine zA ?_|refine zB fun K hK=>?_|refine zC fun K2 hK2=>?_|refine zD ?_|refine zE ?_|refine zF ?_|refine zG ?_|refine zH ?_|refine zI ?_|refine zM ?_|refine zN ?_|refine zO ?_|refine zP ?_|refine zQ ?_|refine zR ?_)|((with_reducible refine zU (hK _ _ ?_));clear hK K)|((with_reducible refine zV ?_ ?_ fun K1 K3 d hdst h1 h3=>?_);rfl;exact yB rfl;cases hdst;go_simp)|((with_reducible refine zW fun K1 K3 h1 h3=>?_);go_simp)|((first|refine h1 ?_|refine h3 ?_);clear h1 h3 K1 K3)|((first|refine zX (fun hb=>h1 ?_) (fun hb=>h3 ?_)|refine zX (fun hb=>h3 ?_) (fun hb=>h1 ?_))<;>(clear h1 h3 K1 K3;(try have hb2:=yC hb);(try have hb2:=yD hb);(try have hb2:=yE hb);(try have hb2:=yF hb);(try have hb2:=yG hb)))|(refine fun (K2:_→AHeap→Prop) hK2=>?_)|((with_reducible refine zY ?_ ?_);decide)|((with_reducible first|refine zZ ?_ (fun K hK=>?_)|refine yA ?_ (fun K hK=>?_));(focus go_simp;done);go_simp;refine hK _ _ ?_;clear hK K)|(go_simp;(try go_bits);refine hK2 _ _ ?_;clear hK2 K2))
    refine ⟨?_, HXG.out⟩
    rw [HE.out, HNK.out, if_neg (Nat.lt_irrefl _)]
end Go.Proofs.Tryz
namespace Go.Proofs.Tryz
open Go Go.Am Go.RowKit
set_option maxRecDepth 100000


theorem own_block {H : AHeap} {bs : Nat} {v : Value} {e : TypeId} {size : Nat} {cells : List Value} (h : Own H bs v e size cells) {i n : Nat} (hv : v = .slice (some ⟨i, 0, none⟩) n n) (hn : 0 < n) : bs ≤ i ∧ i < H.n ∧ H.get i = .row cells e := by
  rcases h with ⟨h, _⟩ | ⟨b, m, h1, h2, h3, h4, h5⟩
  · rw [hv] at h; cases h
  · rw [hv] at h1; cases h1; exact ⟨h2, h3, h4⟩
theorem own_slice {H : AHeap} {bs : Nat} {v : Value} {e : TypeId} {size : Nat} {cells : List Value} (h : Own H bs v e size cells) : ∃ a n, v = .slice a n n := by
  rcases h with ⟨rfl, _⟩ | ⟨b, m, h1, _⟩
  · exact ⟨none, 0, rfl⟩
  · exact ⟨_, m, h1⟩
theorem own_at {H H' : AHeap} {bs : Nat} {v : Value} {e : TypeId} {size : Nat} {cells : List Value} (h : Own H bs v e size cells) (hn : H.n ≤ H'.n) (hg : ∀ i n, v = .slice (some ⟨i, 0, none⟩) n n → 0 < n → H'.get i = H.get i) : Own H' bs v e size cells := by
  rcases h with h | ⟨b, m, h1, h2, h3, h4, h5, h6⟩
  · exact .inl h
  · exact .inr ⟨b, m, h1, h2, Nat.lt_of_lt_of_le h3 hn, (hg b m h1 h6).trans h4, h5, h6⟩

theorem ints_inj : ∀ (xs ys : List Int), xs.map (Value.int .i64) = ys.map (Value.int .i64) → ys = xs
  | [], [], _ => rfl
  | [], _ :: _, h => by simp at h
  | _ :: _, [], h => by simp at h
  | a :: l, b :: m, h => by
    simp only [List.map_cons, List.cons.injEq, Value.int.injEq, true_and] at h
    rw [h.1, ints_inj l m h.2]
theorem oneV_ints (l : List Int) : (l.map (Value.int .i64)).all oneV = true := by
  rw [List.all_eq_true]
  intro v hv
  obtain ⟨z, _, rfl⟩ := List.mem_map.1 hv
  rfl

def ColS (bs l c : Nat) (L : List Value) (D : Nat → Prop) (H : AHeap) : Prop := ∃ (v : Value) (xs : List Int), L = xs.map (Value.int .i64) ∧ bs ≤ c ∧ c < l ∧ l < H.n ∧ H.get l = .loop .ready none ∧ H.get c = .row [v] 22 ∧ Own H bs v 3 1 (xs.map (Value.int .i64)) ∧ ∀ i, D i ↔ i = l ∨ i = c ∨ ∃ n, v = .slice (some ⟨i, 0, none⟩) n n ∧ 0 < n
theorem ColS.own {bs l c : Nat} {L : List Value} {D : Nat → Prop} {H : AHeap} (h : ColS bs l c L D H) : D l := by
  obtain ⟨v, xs, h1, h2, h3, h4, h5, h6, h7, h8⟩ := h
  exact (h8 l).2 (.inl rfl)
theorem ColS.lt {bs l c : Nat} {L : List Value} {D : Nat → Prop} {H : AHeap} {i : Nat} (h : ColS bs l c L D H) (hi : D i) : i < H.n := by
  obtain ⟨v, xs, h1, h2, h3, h4, h5, h6, h7, h8⟩ := h
  rcases (h8 i).1 hi with rfl | rfl | ⟨n, hv, hn⟩
  · exact h4
  · omega
  · exact (own_block h7 hv hn).2.1
theorem ColS.keep {bs l c : Nat} {L : List Value} {D : Nat → Prop} {H H' : AHeap} (h : ColS bs l c L D H) (hn : H.n ≤ H'.n) (hk : ∀ i, D i → H'.get i = H.get i) : ColS bs l c L D H' := by
  obtain ⟨v, xs, h1, h2, h3, h4, h5, h6, h7, h8⟩ := h
  refine ⟨v, xs, h1, h2, h3, Nat.lt_of_lt_of_le h4 hn, (hk l (((h8 l).2 (.inl rfl)))).trans h5, (hk c (((h8 c).2 (.inr (.inl rfl))))).trans h6, own_at h7 hn fun i n hv hn => hk i ((h8 i).2 (.inr (.inr ⟨n, hv, hn⟩))), h8⟩

theorem appendSeq_e {loops : List (Nat × LInfo)} {H : AHeap} {R : Nat → Prop} {N : Nat} {qv : Value} {xs : List Int} (hq : Gives Tryz.prog H R N qv (fun v => ∃ z : Int, v = .int .i64 z) (xs.map (Value.int .i64))) (hlen : N ≤ 1000) : CallS Tryz.prog loops 139 [.slice none 0 0, qv] H fun v H' => Own H' H.n v 3 1 (xs.map (Value.int .i64)) ∧ Ext H H' := by
  have HQ := Lib.hid hq
  clear hq
  refine CallS.enter' Tryz.func139 rfl Tryz.ntmps139 (by simp) fun f hd hf => ?_
  have f0 := hf 0
  have f1 := hf 1
  simp at f0 f1
  clear hf
  repeat' (first|(with_reducible first|refine zA ?_|refine zB fun K hK=>?_|refine zC fun K2 hK2=>?_|refine zD ?_|refine zE ?_|refine zF ?_|refine zG ?_|refine zH ?_|refine zI ?_|refine zM ?_|refine zN ?_|refine zO ?_|refine zP ?_|refine zQ ?_|refine zR ?_)|((with_reducible refine zU (hK _ _ ?_));clear hK K)|((with_reducible refine zV ?_ ?_ fun K1 K3 d hdst h1 h3=>?_);rfl;exact yB rfl;cases hdst;go_simp)|((with_reducible refine zW fun K1 K3 h1 h3=>?_);go_simp)|((first|refine h1 ?_|refine h3 ?_);clear h1 h3 K1 K3)|((first|refine zX (fun hb=>h1 ?_) (fun hb=>h3 ?_)|refine zX (fun hb=>h3 ?_) (fun hb=>h1 ?_))<;>(clear h1 h3 K1 K3;(try have hb2:=yC hb);(try have hb2:=yD hb);(try have hb2:=yE hb);(try have hb2:=yF hb);(try have hb2:=yG hb)))|(refine fun (K2:_→AHeap→Prop) hK2=>?_)|((with_reducible refine zY ?_ ?_);decide)|((with_reducible first|refine zZ ?_ (fun K hK=>?_)|refine yA ?_ (fun K hK=>?_));(focus go_simp;done);go_simp;refine hK _ _ ?_;clear hK K)|(go_simp;(try go_bits);refine hK2 _ _ ?_;clear hK2 K2))
  refine CodeS.range_gives (ls := []) (H0 := H) (Rd := fun _ => False) (room := 1000) (S := ColS H.n (H.n + 2) H.n) (D := fun i => i = H.n + 2 ∨ i = H.n) rfl (LExt.nil _) HQ.out (by go_simp) (Ext.push _) hlen ?gen ?hS ?hRD ?hnd ?hend
  case hRD =>
    rintro i hi (h | h) <;> (have := HQ.out.lt hi; omega)
  case hS =>
    refine ⟨.slice none 0 0, [], rfl, Nat.le_refl _, by omega, by rw [AHeap.n_push, AHeap.n_push, AHeap.n_push]; omega, ?_, ?_, Own.nil, fun i => by simp⟩
    · rw [show H.n + 2 = ((H.push (AObj.row [.slice none 0 0] 22)).push (AObj.defs false)).n from rfl, AHeap.get_push_new]
    · rw [AHeap.get_push_old (by rw [AHeap.n_push, AHeap.n_push]; omega), AHeap.get_push_old (by rw [AHeap.n_push]; omega), AHeap.get_push_new]
  case hnd => rw [AHeap.n_push]; omega
  case hend =>
    rintro f2 D' H' ht hd2 hS hst hdf
    obtain ⟨v, ys, h1, h2, h3, h4, h5, h6, h7, h8⟩ := hS
    have hys : ys = xs := ints_inj xs ys h1
    subst hys
    have t2 := ht 2
    simp [AF.tmp_upd] at t2
    have hd3 : f2.defers = [{ target := .collected (H.n + 1), args := #[] }] := by rw [hd2]; simp [AF.defers_upd, hd]; rfl
    obtain ⟨H2, hH2⟩ : ∃ H2, H2 = H'.upd ((H.push (AObj.row [Value.slice none 0 0] 22)).n + 1) (AObj.loop LoopState.exhausted none) := ⟨_, rfl⟩
    rw [← hH2]
    have hc2 : cellAt H2 H.n 0 = some v := by
      rw [hH2, cellAt_get (AHeap.get_upd_ne (by rw [AHeap.n_push]; omega))]
      simp [cellAt, h6]
    have hdf2 : H2.get (H.n + 1) = .defs false := by
      rw [hH2, AHeap.get_upd_ne (by rw [AHeap.n_push]; omega)]; exact hdf
    have HO := Lib.hid h7
    have HST := Lib.hid hst
    have HH2 := Lib.hid hH2
    have HX2 : Hid (Ext H H2) := Lib.hid (by
      rw [hH2]
      refine (hst.ext (((Ext.refl _).push' _).push' _ |>.push' _) ?_).upd (by rw [AHeap.n_push]; omega) _
      rintro i (rfl | rfl) <;> omega)
    have hne : ∀ i n, v = .slice (some ⟨i, 0, none⟩) n n → 0 < n → H2.get i = H'.get i := by
      intro i n hv hn
      rw [hH2]
      refine AHeap.get_upd_ne fun e => ?_
      have h9 := (own_block h7 hv hn).2.2
      rw [e, show H'.get ((H.push (AObj.row [Value.slice none 0 0] 22)).n + 1) = _ from h5] at h9
      cases h9
    have HO2 : Hid (Own H2 H.n v 3 1 (ys.map (Value.int .i64))) := Lib.hid (own_at h7 (by rw [hH2, AHeap.n_upd]; exact Nat.le_refl _) hne)
    clear hne h7 hst hH2 ht h8 h5 h6 hd2 hdf h1 h2 h3 h4
    repeat' (first|(with_reducible first|refine zA ?_|refine zB fun K hK=>?_|refine zC fun K2 hK2=>?_|refine zD ?_|refine zE ?_|refine zF ?_|refine zG ?_|refine zH ?_|refine zI ?_|refine zM ?_|refine zN ?_|refine zO ?_|refine zP ?_|refine zQ ?_|refine zR ?_)|((with_reducible refine zU (hK _ _ ?_));clear hK K)|((with_reducible refine zV ?_ ?_ fun K1 K3 d hdst h1 h3=>?_);rfl;exact yB rfl;cases hdst;go_simp)|((with_reducible refine zW fun K1 K3 h1 h3=>?_);go_simp)|((first|refine h1 ?_|refine h3 ?_);clear h1 h3 K1 K3)|((first|refine zX (fun hb=>h1 ?_) (fun hb=>h3 ?_)|refine zX (fun hb=>h3 ?_) (fun hb=>h1 ?_))<;>(clear h1 h3 K1 K3;(try have hb2:=yC hb);(try have hb2:=yD hb);(try have hb2:=yE hb);(try have hb2:=yF hb);(try have hb2:=yG hb)))|(refine fun (K2:_→AHeap→Prop) hK2=>?_)|((with_reducible refine zY ?_ ?_);decide)|((with_reducible first|refine zZ ?_ (fun K hK=>?_)|refine yA ?_ (fun K hK=>?_));(focus go_simp;done);go_simp;refine hK _ _ ?_;clear hK K)|(go_simp;(try go_bits);refine hK2 _ _ ?_;clear hK2 K2))
    refine Post.body_mark (by go_simp) hdf2 fun K hK => ?_
    go_simp
    refine hK _ _ ⟨?_, HX2.out.upd (by omega) _⟩
    refine own_at HO2.out (by rw [AHeap.n_upd]; exact Nat.le_refl _) fun i n hv hn => AHeap.get_upd_ne fun e => ?_
    have h9 := (own_block HO2.out hv hn).2.2
    rw [e, hdf2] at h9
    cases h9
  case gen =>
    refine ⟨ColS.own, ColS.lt, fun _ h => h.elim, ?_, ?_, fun h hn hk => ColS.keep h hn fun i hi => hk i (.inl hi), ?_⟩
    · rintro L D H' ⟨v, xs, h1, h2, h3, h4, h5, h6, h7, h8⟩
      exact h5
    · rintro L D H' l2 x2 ⟨v, xs, h1, h2, h3, h4, h5, h6, h7, h8⟩ hf2
      simp only [findLoop] at hf2
      split at hf2
      · rename_i he; subst he; exact h4
      · cases hf2
    rintro loops L D H' _ hfl hroom ⟨z, rfl⟩ ⟨v, ys, rfl, h2, h3, h4, h5, h6, h7, h8⟩
    have hfl := hfl _ _ findLoop_head
    refine RoundS.enter hfl rfl (by simp) h5 fun f' hd' hf' => ?_
    have g7 := hf' 7
    have g2 := hf' 2
    simp [paramsAt, AF.tmp_mk, AF.tmp_upd] at g7 g2
    dsimp only
    have hlen2 : ys.length < 1000 := by simpa using hroom
    have HO := Lib.hid h7
    have HDI := Lib.hid h8
    have HFL := Lib.hid hfl
    clear h7 h8 hfl hf' hroom
    repeat' (first|(with_reducible first|refine zA ?_|refine zB fun K hK=>?_|refine zC fun K2 hK2=>?_|refine zD ?_|refine zE ?_|refine zF ?_|refine zG ?_|refine zH ?_|refine zI ?_|refine zM ?_|refine zN ?_|refine zO ?_|refine zP ?_|refine zQ ?_|refine zR ?_)|((with_reducible refine zU (hK _ _ ?_));clear hK K)|((with_reducible refine zV ?_ ?_ fun K1 K3 d hdst h1 h3=>?_);rfl;exact yB rfl;cases hdst;go_simp)|((with_reducible refine zW fun K1 K3 h1 h3=>?_);go_simp)|((first|refine h1 ?_|refine h3 ?_);clear h1 h3 K1 K3)|((first|refine zX (fun hb=>h1 ?_) (fun hb=>h3 ?_)|refine zX (fun hb=>h3 ?_) (fun hb=>h1 ?_))<;>(clear h1 h3 K1 K3;(try have hb2:=yC hb);(try have hb2:=yD hb);(try have hb2:=yE hb);(try have hb2:=yF hb);(try have hb2:=yG hb)))|(refine fun (K2:_→AHeap→Prop) hK2=>?_)|((with_reducible refine zY ?_ ?_);decide)|((with_reducible first|refine zZ ?_ (fun K hK=>?_)|refine yA ?_ (fun K hK=>?_));(focus go_simp;done);go_simp;refine hK _ _ ?_;clear hK K)|(go_simp;(try go_bits);refine hK2 _ _ ?_;clear hK2 K2))
    refine ⟨?_, ?_⟩
    · exact h5
    obtain ⟨H3, hH3⟩ : ∃ H3, H3 = H'.upd ((H.push (AObj.row [Value.slice none 0 0] 22)).n + 1) (.loop .busy none) := ⟨_, rfl⟩
    rw [← hH3]
    have hn3 : H3.n = H'.n := by rw [hH3, AHeap.n_upd]
    have hk3 : ∀ i, i < H'.n → i ≠ H.n + 2 → H3.get i = H'.get i := by
      intro i hi hne
      rw [hH3, AHeap.get_upd_ne (by rw [AHeap.n_push]; exact hne)]
    have hl3 : H3.get (H.n + 2) = .loop .busy none := by rw [hH3]; exact AHeap.get_upd_same
    have hc3 : H3.get H.n = .row [v] 22 := by rw [hk3 _ (by omega) (by omega)]; exact h6
    have hcc3 : cellAt H3 H.n 0 = some v := by simp [cellAt, hc3]
    have hne3 : ∀ i n, v = .slice (some ⟨i, 0, none⟩) n n → 0 < n → i ≠ H.n + 2 ∧ i ≠ H.n := by
      intro i n hv hn
      have h9 := (own_block HO.out hv hn).2.2
      constructor
      · rintro rfl; rw [h5] at h9; cases h9
      · rintro rfl; rw [h6] at h9; injection h9 with _ h10; exact absurd h10 (by decide)
    have HO3 : Hid (Own H3 H.n v 3 1 (ys.map (Value.int .i64))) := Lib.hid (own_at HO.out (by omega) fun i n hv hn => hk3 i (own_block HO.out hv hn).2.1 (hne3 i n hv hn).1)
    have HK3 := Lib.hid hk3
    have HNE := Lib.hid hne3
    have HN3 := Lib.hid hn3
    have HL3 := Lib.hid hl3
    have hlt3 : H.n < H3.n := by omega
    have hlt4 : H.n + 2 < H3.n := by omega
    have HC3 := Lib.hid hc3
    clear hk3 hne3 hH3 hl3 hc3 hn3
    have hbig : ((ys.map (Value.int .i64)).length + 1) * max 8 1 ≤ 1073741824 := by rw [List.length_map]; simp; omega
    have HBIG := Lib.hid hbig
    clear hbig
    repeat' (first|(with_reducible first|refine zA ?_|refine zB fun K hK=>?_|refine zC fun K2 hK2=>?_|refine zD ?_|refine zE ?_|refine zF ?_|refine zG ?_|refine zH ?_|refine zI ?_|refine zM ?_|refine zN ?_|refine zO ?_|refine zP ?_|refine zQ ?_|refine zR ?_)|((with_reducible refine zU (hK _ _ ?_));clear hK K)|((with_reducible refine zV ?_ ?_ fun K1 K3 d hdst h1 h3=>?_);rfl;exact yB rfl;cases hdst;go_simp)|((with_reducible refine zW fun K1 K3 h1 h3=>?_);go_simp)|((first|refine h1 ?_|refine h3 ?_);clear h1 h3 K1 K3)|((first|refine zX (fun hb=>h1 ?_) (fun hb=>h3 ?_)|refine zX (fun hb=>h3 ?_) (fun hb=>h1 ?_))<;>(clear h1 h3 K1 K3;(try have hb2:=yC hb);(try have hb2:=yD hb);(try have hb2:=yE hb);(try have hb2:=yF hb);(try have hb2:=yG hb)))|(refine fun (K2:_→AHeap→Prop) hK2=>?_)|((with_reducible refine zY ?_ ?_);decide)|((with_reducible first|refine zZ ?_ (fun K hK=>?_)|refine yA ?_ (fun K hK=>?_));(focus go_simp;done);go_simp;refine hK _ _ ?_;clear hK K)|(go_simp;(try go_bits);(try first | ((refine one_k el22 sz3 ze3 rfl (by decide) (by decide) rfl rfl ?_); go_simp) | ((refine append_k2 el22 sz3 by3 ze3 rfl (by decide) (HO3.out.ext (Ext.push _)) (srcCells_new rfl) (by decide) rfl (by rw [List.all_append, oneV_ints]; rfl) HBIG.out (by rw [AHeap.n_push]; omega) fun v2 H4 ho4 hg4 => ?_); (obtain ⟨a2, n2, rfl⟩ := own_slice ho4); (have HO4 := Lib.hid ho4); (have HG4 := Lib.hid hg4); (have hc4 : H4.get H.n = .row [v] 22 := (hg4.2 H.n (by rw [AHeap.n_push]; omega) (fun b n hv hn => (HNE.out b n hv hn).2.symm)).trans (by rw [AHeap.get_push_old hlt3]; exact HC3.out)); clear ho4 hg4; go_simp));refine hK2 _ _ ?_;clear hK2 K2))
    have hl4 : H4.get (H.n + 2) = .loop .busy none := (HG4.out.2 (H.n + 2) (by rw [AHeap.n_push]; omega) (fun b n hv hn => (HNE.out b n hv hn).1.symm)).trans (by rw [AHeap.get_push_old (by omega)]; exact HL3.out)
    have hn4 : H'.n < H4.n := by have := HG4.out.1; rw [AHeap.n_push, HN3.out] at this; omega
    refine ⟨⟨.busy, none, ?_⟩, rfl, fun i => i = H.n + 2 ∨ i = H.n ∨ ∃ n, Value.slice a2 n2 n2 = .slice (some ⟨i, 0, none⟩) n n ∧ 0 < n, ⟨.slice a2 n2 n2, ys ++ [z], by simp, Nat.le_refl _, by omega, ?_, ?_, ?_, ?_, fun i => Iff.rfl⟩, ?_⟩
    · rw [AHeap.get_upd_ne (by rw [AHeap.n_push]; omega)]; exact hl4
    · rw [AHeap.n_upd, AHeap.n_upd]; omega
    · exact AHeap.get_upd_same
    · rw [AHeap.get_upd_ne (by rw [AHeap.n_push]; omega), AHeap.get_upd_same]
    · rw [List.map_append]
      refine own_at (HO4.out.mono (by rw [AHeap.n_push, HN3.out]; omega)) (by rw [AHeap.n_upd, AHeap.n_upd]; exact Nat.le_refl _) fun i n hv hn => ?_
      have h9 := (own_block HO4.out hv hn).2.2
      rw [AHeap.get_upd_ne (fun e => ?_), AHeap.get_upd_ne (fun e => ?_)]
      · rw [e, hc4] at h9; injection h9 with _ h10; exact absurd h10 (by decide)
      · rw [e, AHeap.n_push, hl4] at h9; cases h9
    · refine ⟨by rw [AHeap.n_upd, AHeap.n_upd]; omega, fun i hi hd => ?_, fun i hd => ?_⟩
      · have h9 := fun h => hd ((HDI.out i).2 h)
        rw [AHeap.get_upd_ne (by rw [AHeap.n_push]; exact fun e => h9 (.inl e)), AHeap.get_upd_ne (fun e => h9 (.inr (.inl e))), HG4.out.2 i (by rw [AHeap.n_push, HN3.out]; omega) (fun b n hv hn e => h9 (.inr (.inr ⟨n, by rw [e]; exact hv, hn⟩))), AHeap.get_push_old (by rw [HN3.out]; omega)]
        exact HK3.out i hi (fun e => h9 (.inl e))
      · rcases hd with h | h | ⟨n, hv, hn⟩
        · exact .inl ((HDI.out i).2 (.inl h))
        · exact .inl ((HDI.out i).2 (.inr (.inl h)))
        · have h9 := (own_block HO4.out hv hn).1
          rw [AHeap.n_push, HN3.out] at h9
          exact .inr (by omega)

theorem ints_of_own {H : AHeap} {base : Nat} {v : Value} {l : List Int} (h : Own H base v 3 1 (l.map (Value.int .i64))) (hl : l.length ≤ 9223372036854775807) : Ints H v l := by
  rcases h with ⟨h1, h2⟩ | ⟨b, n, h1, h2, h3, h4, h5, h6⟩
  · subst h1
    have h3 : l = [] := by simpa using h2
    subst h3
    exact ⟨rfl, hl, none, 0, rfl, fun _ => rfl, fun h => absurd h (Nat.lt_irrefl _)⟩
  · subst h1
    have hn : n = l.length := by simp at h5; omega
    subst hn
    refine ⟨by simp, hl, _, _, rfl, (fun h => by cases h), fun _ => ⟨b, 0, none, rfl, h3, fun j u hu => ?_⟩⟩
    simp only [cellAt, h4, Nat.zero_add]; exact hu

theorem collect_e {loops : List (Nat × LInfo)} {H : AHeap} {R : Nat → Prop} {N : Nat} {qv : Value} {xs : List Int} (hq : Gives Tryz.prog H R N qv (fun v => ∃ z : Int, v = .int .i64 z) (xs.map (Value.int .i64))) (hlen : N ≤ 1000) (hlen2 : xs.length ≤ 1000) : CallS Tryz.prog loops 71 [qv] H fun v H' => Ints H' v xs ∧ Ext H H' := by
  have HQ := Lib.hid hq
  clear hq
  refine CallS.enter' Tryz.func71 rfl Tryz.ntmps71 (by simp) fun f hd hf => ?_
  have f0 := hf 0
  simp at f0
  clear hf
  repeat' (first|(with_reducible first|refine zA ?_|refine zB fun K hK=>?_|refine zC fun K2 hK2=>?_|refine zD ?_|refine zE ?_|refine zF ?_|refine zG ?_|refine zH ?_|refine zI ?_|refine zM ?_|refine zN ?_|refine zO ?_|refine zP ?_|refine zQ ?_|refine zR ?_)|((with_reducible refine zU (hK _ _ ?_));clear hK K)|((with_reducible refine zV ?_ ?_ fun K1 K3 d hdst h1 h3=>?_);rfl;exact yB rfl;cases hdst;go_simp)|((with_reducible refine zW fun K1 K3 h1 h3=>?_);go_simp)|((first|refine h1 ?_|refine h3 ?_);clear h1 h3 K1 K3)|((first|refine zX (fun hb=>h1 ?_) (fun hb=>h3 ?_)|refine zX (fun hb=>h3 ?_) (fun hb=>h1 ?_))<;>(clear h1 h3 K1 K3;(try have hb2:=yC hb);(try have hb2:=yD hb);(try have hb2:=yE hb);(try have hb2:=yF hb);(try have hb2:=yG hb)))|(refine fun (K2:_→AHeap→Prop) hK2=>?_)|((with_reducible refine zY ?_ ?_);decide)|((with_reducible first|refine zZ ?_ (fun K hK=>?_)|refine yA ?_ (fun K hK=>?_));(focus go_simp;done);go_simp;refine hK _ _ ?_;clear hK K)|(go_simp;(try go_bits);(try first | ((with_reducible show CallS _ _ _ _ _ _);refine CallS.mono (appendSeq_e HQ.out hlen) ?_; rintro v H2 ⟨ho, hx⟩; (have HO := Lib.hid ho); (have HX := Lib.hid hx); clear ho hx; go_simp));refine hK2 _ _ ?_;clear hK2 K2))
  exact ⟨ints_of_own HO.out (by omega), HX.out⟩
end Go.Proofs.Tryz
namespace Go.Proofs.Tryz
open Go Go.Am Go.RowKit
set_option maxRecDepth 100000


theorem st34 : structOk Tryz.prog 34 = true := by kernel_rfl
theorem ints_nil {H : AHeap} : Ints H (.slice none 0 0) [] := ⟨rfl, Nat.zero_le _, none, 0, rfl, fun _ => rfl, fun h => absurd h (Nat.lt_irrefl _)⟩
def Tour.openDays (t : Tour) : List Int := if err t = 0 then openL t.closed t.days.toNat 0 else []

set_option maxHeartbeats 2000000 in
theorem open_s {loops : List (Nat × LInfo)} {H : AHeap} {v : Value} {t : Tour} (hv : TourV H v t) :
    CallS Tryz.prog loops 14 [v] H fun r H' => (∃ lv, r = .tuple #[lv, .int .i64 (err t)] ∧ Ints H' lv t.openDays) ∧ Ext H H' := by
  unfold Tour.openDays
  have HV := Lib.hid hv
  have HCE := Lib.hid (fun (loops : List (Nat × LInfo)) (H2 : AHeap) (hx : Ext H H2) => check_s (loops := loops) (HV.out.ext hx))
  obtain ⟨cv, fv, rfl, hc, hf⟩ := hv
  obtain ⟨hcl, ca, cc, rfl⟩ := hc.slice
  obtain ⟨hfl, fa, fc, rfl⟩ := hf.slice
  have HC := Lib.hid hc
  clear hc hf
  by_cases he : err t = 0
  case' neg =>
    rw [if_neg he]
    generalize err t = er at HCE he ⊢
    have heb : (er != 0) = true := by simpa using he
    clear he
    refine CallS.enter' Tryz.func14 rfl Tryz.ntmps14 (by simp) fun f hd hf => ?_
    have f0 := hf 0
    simp at f0
    clear hf
    repeat' (first|(with_reducible first|refine zA ?_|refine zB fun K hK=>?_|refine zC fun K2 hK2=>?_|refine zD ?_|refine zE ?_|refine zF ?_|refine zG ?_|refine zH ?_|refine zI ?_|refine zM ?_|refine zN ?_|refine zO ?_|refine zP ?_|refine zQ ?_|refine zR ?_)|((with_reducible refine zU (hK _ _ ?_));clear hK K)|((with_reducible refine zV ?_ ?_ fun K1 K3 d hdst h1 h3=>?_);rfl;exact yB rfl;cases hdst;go_simp)|((with_reducible refine zW fun K1 K3 h1 h3=>?_);go_simp)|((first|refine h1 ?_|refine h3 ?_);clear h1 h3 K1 K3)|((first|refine zX (fun hb=>h1 ?_) (fun hb=>h3 ?_)|refine zX (fun hb=>h3 ?_) (fun hb=>h1 ?_))<;>(clear h1 h3 K1 K3;(try have hb2:=yC hb);(try have hb2:=yD hb);(try have hb2:=yE hb);(try have hb2:=yF hb);(try have hb2:=yG hb)))|(refine fun (K2:_→AHeap→Prop) hK2=>?_)|((with_reducible refine zY ?_ ?_);decide)|((with_reducible first|refine zZ ?_ (fun K hK=>?_)|refine yA ?_ (fun K hK=>?_));(focus go_simp;done);go_simp;refine hK _ _ ?_;clear hK K)|(go_simp;(try go_bits);(try first | ((with_reducible show CallS _ _ _ _ _ _);refine CallS.mono (HCE.out _ _ ((Ext.refl _).push' _)) ?_; rintro _ _ ⟨rfl, rfl⟩));refine hK2 _ _ ?_;clear hK2 K2))
    exact ⟨⟨_, rfl, ints_nil⟩, (Ext.refl _).push' _⟩
  have hg := good_of he
  rw [if_pos he]
  rw [he] at HCE ⊢
  have HG := Lib.hid hg
  have hdays := hg.days
  rw [win_iff] at hdays
  obtain ⟨k, hk⟩ : ∃ k : Nat, t.days = (k : Int) + 1 := ⟨(t.days - 1).toNat, by omega⟩
  have hk6 : k < 60 := by omega
  have hkn : t.days.toNat = k + 1 := by omega
  rw [hkn]
  have HFW := Lib.hid (Nat.le_trans HG.out.few (show 40 ≤ 1000 by decide))
  have HPL := Lib.hid (fun (loops : List (Nat × LInfo)) (H2 : AHeap) (n : Nat) (hx : Ext H H2) (hc : cellAt H2 n 0 = some (.slice ca t.closed.length cc)) (hn : n < H2.n) => planOf_e (loops := loops) (sh := [t.closed]) (HV.out.ext hx) (intsL_one2 hc hn (HC.out.ext hx)) HG.out.days (show 1 ≤ 2 by omega) HFW.out)
  have HOP : Hid (openFrom (dayD t.days [t.closed]) (k + 1 - 0) 0 0 = (openL t.closed (k + 1) 0).map (Value.int .i64)) := Lib.hid (openFrom_lo (by omega) (by omega))
  have HOL := Lib.hid (openL_len t.closed (k + 1) 0)
  rw [hk] at HPL HOP HCE
  have HCO := Lib.hid (fun (loops : List (Nat × LInfo)) (H2 : AHeap) (p : Nat) (fv : Value) (hp : p < H2.n) (gp : H2.get p = .row (planCells fv (dayD ((k : Int) + 1) [t.closed])) 116) => collect_e (loops := loops) (xs := openL t.closed (k + 1) 0) (by rw [← HOP.out]; exact openV_gives (lo := 0) (hi := k) rfl hp gp (Nat.zero_le _) hk6 (fun i _ _ _ _ => ⟨i, rfl⟩)) (by omega) (by have := HOL.out; omega))
  rw [hk]
  clear hg he hdays hkn hk HV HFW
  refine CallS.enter' Tryz.func14 rfl Tryz.ntmps14 (by simp) fun f hd hf => ?_
  have f0 := hf 0
  simp at f0
  clear hf
  repeat' (first|(with_reducible first|refine zA ?_|refine zB fun K hK=>?_|refine zC fun K2 hK2=>?_|refine zD ?_|refine zE ?_|refine zF ?_|refine zG ?_|refine zH ?_|refine zI ?_|refine zM ?_|refine zN ?_|refine zO ?_|refine zP ?_|refine zQ ?_|refine zR ?_)|((with_reducible refine zU (hK _ _ ?_));clear hK K)|((with_reducible refine zV ?_ ?_ fun K1 K3 d hdst h1 h3=>?_);rfl;exact yB rfl;cases hdst;go_simp)|((with_reducible refine zW fun K1 K3 h1 h3=>?_);go_simp)|((first|refine h1 ?_|refine h3 ?_);clear h1 h3 K1 K3)|((first|refine zX (fun hb=>h1 ?_) (fun hb=>h3 ?_)|refine zX (fun hb=>h3 ?_) (fun hb=>h1 ?_))<;>(clear h1 h3 K1 K3;(try have hb2:=yC hb);(try have hb2:=yD hb);(try have hb2:=yE hb);(try have hb2:=yF hb);(try have hb2:=yG hb)))|(refine fun (K2:_→AHeap→Prop) hK2=>?_)|((with_reducible refine zY ?_ ?_);decide)|((with_reducible first|refine zZ ?_ (fun K hK=>?_)|refine yA ?_ (fun K hK=>?_));(focus go_simp;done);go_simp;refine hK _ _ ?_;clear hK K)|(go_simp;(try go_bits);(try first |((with_reducible show CallS _ _ _ _ _ _);first|(refine CallS.mono (HCE.out _ _ ((Ext.refl _).push' _)) ?_; rintro _ _ ⟨rfl, rfl⟩)|(refine CallS.mono (HPL.out _ _ _ (((Ext.refl _).push' _).push' _) (by go_simp) (by simp only [AHeap.n_push]; omega)) ?_; rintro _ H2 ⟨⟨ga, gc, rfl, hF2, hfr⟩, hx2⟩; (have HX2 := Lib.hid hx2); (have hcq : cellAt H2 H.n 0 = some (.int .i64 ((k : Int) + 1)) := (hx2.cellAt (by simp only [AHeap.n_push]; omega)).trans (by go_simp)); (have hn2 : H.n < H2.n := by have := hx2.n; simp only [AHeap.n_push] at this; omega); clear hF2 hfr hx2)|(refine CallS.mono open_e ?_; rintro _ _ ⟨rfl, rfl⟩)|(refine CallS.mono (HCO.out _ _ _ _ (by rw [AHeap.n_push]; exact Nat.lt_succ_self _) AHeap.get_push_new) ?_; rintro lv H5 ⟨hlv, hx5⟩; (have HLV := Lib.hid hlv); (have HX5 := Lib.hid hx5); clear hlv hx5))|((refine one_k el74 sz22 ze22 rfl (by decide) (by decide) rfl rfl ?_); go_simp)|((rw [aBuild_struct st27 ze27]); go_simp));refine hK2 _ _ ?_;clear hK2 K2))
  exact ⟨⟨lv, rfl, HLV.out⟩, ((((Ext.refl _).push' _).push' _).trans HX2.out).trans ((((Ext.refl _).push' _).push' _).push' _ |>.trans HX5.out)⟩

set_option maxHeartbeats 2000000 in
theorem ropen_s {loops : List (Nat × LInfo)} {H : AHeap} {v : Value} {t : Tour} (hv : TourV H v t) :
    CallS Tryz.prog loops 15 [v] H fun r H' => (∃ lv, r = .agg #[lv, .int .i64 (err t)] ∧ Ints H' lv t.openDays) ∧ Ext H H' := by
  unfold Tour.openDays
  have HV := Lib.hid hv
  have HCE := Lib.hid (fun (loops : List (Nat × LInfo)) (H2 : AHeap) (hx : Ext H H2) => rcheck_s (loops := loops) (HV.out.ext hx))
  obtain ⟨cv, fv, rfl, hc, hf⟩ := hv
  obtain ⟨hcl, ca, cc, rfl⟩ := hc.slice
  obtain ⟨hfl, fa, fc, rfl⟩ := hf.slice
  have HAS := Lib.hid (fun (loops : List (Nat × LInfo)) (H2 : AHeap) (x : Int) (hx : Ext H H2) => has_s (loops := loops) (x := x) (hc.ext hx))
  clear hc hf
  by_cases he : err t = 0
  case' neg =>
    rw [if_neg he]
    generalize err t = er at HCE he ⊢
    have heb : (er != 0) = true := by simpa using he
    clear he
    refine CallS.enter' Tryz.func15 rfl Tryz.ntmps15 (by simp) fun f hd hf => ?_
    have f0 := hf 0
    simp at f0
    clear hf
    repeat' (first|(with_reducible first|refine zA ?_|refine zB fun K hK=>?_|refine zC fun K2 hK2=>?_|refine zD ?_|refine zE ?_|refine zF ?_|refine zG ?_|refine zH ?_|refine zI ?_|refine zM ?_|refine zN ?_|refine zO ?_|refine zP ?_|refine zQ ?_|refine zR ?_)|((with_reducible refine zU (hK _ _ ?_));clear hK K)|((with_reducible refine zV ?_ ?_ fun K1 K3 d hdst h1 h3=>?_);rfl;exact yB rfl;cases hdst;go_simp)|((with_reducible refine zW fun K1 K3 h1 h3=>?_);go_simp)|((first|refine h1 ?_|refine h3 ?_);clear h1 h3 K1 K3)|((first|refine zX (fun hb=>h1 ?_) (fun hb=>h3 ?_)|refine zX (fun hb=>h3 ?_) (fun hb=>h1 ?_))<;>(clear h1 h3 K1 K3;(try have hb2:=yC hb);(try have hb2:=yD hb);(try have hb2:=yE hb);(try have hb2:=yF hb);(try have hb2:=yG hb)))|(refine fun (K2:_→AHeap→Prop) hK2=>?_)|((with_reducible refine zY ?_ ?_);decide)|((with_reducible first|refine zZ ?_ (fun K hK=>?_)|refine yA ?_ (fun K hK=>?_));(focus go_simp;done);go_simp;refine hK _ _ ?_;clear hK K)|(go_simp;(try go_bits);(try first | ((with_reducible show CallS _ _ _ _ _ _);refine CallS.mono (HCE.out _ _ (((Ext.refl _).push' _).push' _)) ?_; rintro _ _ ⟨rfl, rfl⟩) | ((rw [aBuild_struct st34 ze34]); go_simp));refine hK2 _ _ ?_;clear hK2 K2))
    exact ⟨⟨_, rfl, ints_nil⟩, ((Ext.refl _).push' _).push' _⟩
  have hg := good_of he
  rw [if_pos he]
  rw [he] at HCE ⊢
  have hdays := hg.days
  rw [win_iff] at hdays
  obtain ⟨n, hn⟩ := Int.eq_ofNat_of_zero_le (show 0 ≤ t.days by omega)
  have hn6 : n ≤ 60 := by omega
  have hnn : t.days.toNat = n := by omega
  rw [hnn, hn]
  rw [hn] at HCE
  clear hg he hdays hnn hn HV
  generalize hT : openL t.closed n 0 = T
  have HT := Lib.hid hT
  clear hT
  refine CallS.enter' Tryz.func15 rfl Tryz.ntmps15 (by simp) fun f hd hf => ?_
  have f0 := hf 0
  simp at f0
  clear hf
  repeat' (first|(with_reducible first|refine zA ?_|refine zB fun K hK=>?_|refine zC fun K2 hK2=>?_|refine zD ?_|refine zE ?_|refine zF ?_|refine zG ?_|refine zH ?_|refine zI ?_|refine zM ?_|refine zN ?_|refine zO ?_|refine zP ?_|refine zQ ?_|refine zR ?_)|((with_reducible refine zU (hK _ _ ?_));clear hK K)|((with_reducible refine zV ?_ ?_ fun K1 K3 d hdst h1 h3=>?_);rfl;exact yB rfl;cases hdst;go_simp)|((with_reducible refine zW fun K1 K3 h1 h3=>?_);go_simp)|((first|refine h1 ?_|refine h3 ?_);clear h1 h3 K1 K3)|((first|refine zX (fun hb=>h1 ?_) (fun hb=>h3 ?_)|refine zX (fun hb=>h3 ?_) (fun hb=>h1 ?_))<;>(clear h1 h3 K1 K3;(try have hb2:=yC hb);(try have hb2:=yD hb);(try have hb2:=yE hb);(try have hb2:=yF hb);(try have hb2:=yG hb)))|(refine fun (K2:_→AHeap→Prop) hK2=>?_)|((with_reducible refine zY ?_ ?_);decide)|((with_reducible first|refine zZ ?_ (fun K hK=>?_)|refine yA ?_ (fun K hK=>?_));(focus go_simp;done);go_simp;refine hK _ _ ?_;clear hK K)|(go_simp;(try go_bits);(try first | ((with_reducible show CallS _ _ _ _ _ _);refine CallS.mono (HCE.out _ _ (((Ext.refl _).push' _).push' _)) ?_; rintro _ _ ⟨rfl, rfl⟩));refine hK2 _ _ ?_;clear hK2 K2))
  obtain ⟨G, hG⟩ : ∃ G, G = (H.push (.row [.int .i64 n, .slice ca t.closed.length cc, .slice fa t.flaws.length fc] 25)).push (.row [.slice none 0 0, .int .i64 0] 34) := ⟨_, rfl⟩
  have hGn : G.n = H.n + 2 := by rw [hG]; simp only [AHeap.n_push]
  have hg0 : G.get H.n = .row [.int .i64 n, .slice ca t.closed.length cc, .slice fa t.flaws.length fc] 25 := by
    rw [hG, AHeap.get_push_old (by simp only [AHeap.n_push]; omega), AHeap.get_push_new]
  have hg1 : G.get (H.n + 1) = .row [.slice none 0 0, .int .i64 0] 34 := by
    rw [hG, show H.n + 1 = (H.push (.row [.int .i64 n, .slice ca t.closed.length cc, .slice fa t.flaws.length fc] 25)).n from rfl, AHeap.get_push_new]
  have HXG : Hid (Ext H G) := Lib.hid (by rw [hG]; exact ((Ext.refl _).push' _).push' _)
  have HG0 := Lib.hid hg0
  have HG1 := Lib.hid hg1
  have HGN := Lib.hid hGn
  rw [← hG]
  clear hg0 hg1 hG hGn
  refine CodeS.loop (fun m f H' => ∃ (d : Nat) (v : Value) (ys : List Int), d ≤ n ∧ m = n - d ∧ f.tmp 5 = .int .i64 d ∧ f.tmp 4 = v ∧ f.tmp 1 = .pointer (some ⟨H.n, 0, none⟩) ∧ f.tmp 2 = .pointer (some ⟨H.n + 1, 0, none⟩) ∧ f.defers = [] ∧ Hid (Ext G H') ∧ Hid (Own H' (H.n + 2) v 3 1 (ys.map (Value.int .i64))) ∧ ys.length ≤ d ∧ Hid (ys ++ openL t.closed (n - d) d = T)) n ?_ ?_
  · exact ⟨0, .slice none 0 0, [], by omega, by omega, (by first|go_simp<;>go_num|assumption), (by first|go_simp<;>go_num|assumption), (by first|go_simp<;>go_num|assumption), (by first|go_simp<;>go_num|assumption), (by first|go_simp<;>go_num|assumption), Lib.hid (Ext.refl _), Lib.hid Own.nil, by simp, Lib.hid (by rw [← HT.out]; rfl)⟩
  clear f0 hd f HT
  rintro m f H' ⟨d, v, ys, hdn, rfl, f5, f4, f1, f2, hd, HX, HO, hyl, HT⟩
  have hcg : H'.get H.n = .row [.int .i64 n, .slice ca t.closed.length cc, .slice fa t.flaws.length fc] 25 := (HX.out.get _ (by have := HGN.out; omega)).trans HG0.out
  have hch : H'.get (H.n + 1) = .row [.slice none 0 0, .int .i64 0] 34 := (HX.out.get _ (by have := HGN.out; omega)).trans HG1.out
  have hc0 : cellAt H' H.n 0 = some (.int .i64 n) := by simp [cellAt, hcg]
  have hc1 : cellAt H' H.n 1 = some (.slice ca t.closed.length cc) := by simp [cellAt, hcg]
  have hn0 : H.n + 1 < H'.n := by have := HX.out.n; have := HGN.out; omega
  clear hcg
  by_cases hlt : d < n
  · have hlti : (d : Int) < (n : Int) := by omega
    have HO9 : Hid (openL t.closed (n - d) d = if (d : Int) ∈ t.closed then openL t.closed (n - (d + 1)) (d + 1) else (d : Int) :: openL t.closed (n - (d + 1)) (d + 1)) := Lib.hid (by rw [show n - d = (n - (d + 1)) + 1 by omega, openL])
    have HM := Lib.hid (fun (loops : List (Nat × LInfo)) => HAS.out loops H' d (HXG.out.trans HX.out))
    clear HAS
    by_cases hm : (d : Int) ∈ t.closed
    case' pos =>
      rw [decide_eq_true hm] at HM
      rw [if_pos hm] at HO9
      clear hm hch
      repeat' (first|(with_reducible first|refine zA ?_|refine zB fun K hK=>?_|refine zC fun K2 hK2=>?_|refine zD ?_|refine zE ?_|refine zF ?_|refine zG ?_|refine zH ?_|refine zI ?_|refine zM ?_|refine zN ?_|refine zO ?_|refine zP ?_|refine zQ ?_|refine zR ?_)|((with_reducible refine zU (hK _ _ ?_));clear hK K)|((with_reducible refine zV ?_ ?_ fun K1 K3 d hdst h1 h3=>?_);rfl;exact yB rfl;cases hdst;go_simp)|((with_reducible refine zW fun K1 K3 h1 h3=>?_);go_simp)|((first|refine h1 ?_|refine h3 ?_);clear h1 h3 K1 K3)|((first|refine zX (fun hb=>h1 ?_) (fun hb=>h3 ?_)|refine zX (fun hb=>h3 ?_) (fun hb=>h1 ?_))<;>(clear h1 h3 K1 K3;(try have hb2:=yC hb);(try have hb2:=yD hb);(try have hb2:=yE hb);(try have hb2:=yF hb);(try have hb2:=yG hb)))|(refine fun (K2:_→AHeap→Prop) hK2=>?_)|((with_reducible refine zY ?_ ?_);decide)|((with_reducible first|refine zZ ?_ (fun K hK=>?_)|refine yA ?_ (fun K hK=>?_));(focus go_simp;done);go_simp;refine hK _ _ ?_;clear hK K)|(go_simp;(try go_bits);(try first | ((with_reducible show CallS _ _ _ _ _ _);refine CallS.mono (HM.out _) ?_; rintro _ _ ⟨rfl, rfl⟩));refine hK2 _ _ ?_;clear hK2 K2))
      refine Post.round_normal ⟨n - (d + 1), by omega, d + 1, v, ys, by omega, rfl, (by first|go_simp<;>go_num|assumption), (by first|go_simp<;>go_num|assumption), (by first|go_simp<;>go_num|assumption), (by first|go_simp<;>go_num|assumption), (by first|go_simp<;>go_num|assumption), HX, HO, by omega, Lib.hid ?_⟩
      rw [← HT.out, HO9.out]
    rw [decide_eq_false hm] at HM
    rw [if_neg hm] at HO9
    have HB : Hid (H.n + 2 ≤ H'.n) := Lib.hid hn0
    have hbig : ((ys.map (Value.int .i64)).length + 1) * max 8 1 ≤ 1073741824 := by rw [List.length_map]; simp; omega
    have HBIG := Lib.hid hbig
    clear hm hch hbig
    repeat' (first|(with_reducible first|refine zA ?_|refine zB fun K hK=>?_|refine zC fun K2 hK2=>?_|refine zD ?_|refine zE ?_|refine zF ?_|refine zG ?_|refine zH ?_|refine zI ?_|refine zM ?_|refine zN ?_|refine zO ?_|refine zP ?_|refine zQ ?_|refine zR ?_)|((with_reducible refine zU (hK _ _ ?_));clear hK K)|((with_reducible refine zV ?_ ?_ fun K1 K3 d hdst h1 h3=>?_);rfl;exact yB rfl;cases hdst;go_simp)|((with_reducible refine zW fun K1 K3 h1 h3=>?_);go_simp)|((first|refine h1 ?_|refine h3 ?_);clear h1 h3 K1 K3)|((first|refine zX (fun hb=>h1 ?_) (fun hb=>h3 ?_)|refine zX (fun hb=>h3 ?_) (fun hb=>h1 ?_))<;>(clear h1 h3 K1 K3;(try have hb2:=yC hb);(try have hb2:=yD hb);(try have hb2:=yE hb);(try have hb2:=yF hb);(try have hb2:=yG hb)))|(refine fun (K2:_→AHeap→Prop) hK2=>?_)|((with_reducible refine zY ?_ ?_);decide)|((with_reducible first|refine zZ ?_ (fun K hK=>?_)|refine yA ?_ (fun K hK=>?_));(focus go_simp;done);go_simp;refine hK _ _ ?_;clear hK K)|(go_simp;(try go_bits);(try first | ((with_reducible show CallS _ _ _ _ _ _);refine CallS.mono (HM.out _) ?_; rintro _ _ ⟨rfl, rfl⟩) | ((refine one_k el22 sz3 ze3 rfl (by decide) (by decide) rfl rfl ?_); go_simp) | ((refine append_k el22 sz3 by3 ze3 rfl (by decide) (HO.out.ext (Ext.push _)) (srcCells_new rfl) (by decide) rfl (by rw [List.all_append, oneV_ints]; rfl) HBIG.out (by rw [AHeap.n_push]; have := HB.out; omega) fun v2 H4 ho4 hg4 => ?_); (have HO4 := Lib.hid ho4); (have HG4 := Lib.hid hg4); clear ho4 hg4; go_simp));refine hK2 _ _ ?_;clear hK2 K2))
    refine Post.round_normal ⟨n - (d + 1), by omega, d + 1, v2, ys ++ [(d : Int)], by omega, rfl, (by first|go_simp<;>go_num|assumption), (by first|go_simp<;>go_num|assumption), (by first|go_simp<;>go_num|assumption), (by first|go_simp<;>go_num|assumption), (by first|go_simp<;>go_num|assumption), Lib.hid ?_, Lib.hid ?_, by simp; omega, Lib.hid ?_⟩
    · exact HG4.out.ext (HO.out.ext (Ext.push _)) (by have := HGN.out; omega) (HX.out.push' _)
    · rw [List.map_append]; exact HO4.out
    · rw [← HT.out, HO9.out, List.append_assoc]; rfl
  · have hlti : ¬ (d : Int) < (n : Int) := by omega
    have hys : ys = T := by rw [← HT.out, show n - d = 0 by omega]; simp [openL]
    subst hys
    obtain ⟨va, vn, rfl⟩ := own_slice HO.out
    clear HT
    repeat' (first|(with_reducible first|refine zA ?_|refine zB fun K hK=>?_|refine zC fun K2 hK2=>?_|refine zD ?_|refine zE ?_|refine zF ?_|refine zG ?_|refine zH ?_|refine zI ?_|refine zM ?_|refine zN ?_|refine zO ?_|refine zP ?_|refine zQ ?_|refine zR ?_)|((with_reducible refine zU (hK _ _ ?_));clear hK K)|((with_reducible refine zV ?_ ?_ fun K1 K3 d hdst h1 h3=>?_);rfl;exact yB rfl;cases hdst;go_simp)|((with_reducible refine zW fun K1 K3 h1 h3=>?_);go_simp)|((first|refine h1 ?_|refine h3 ?_);clear h1 h3 K1 K3)|((first|refine zX (fun hb=>h1 ?_) (fun hb=>h3 ?_)|refine zX (fun hb=>h3 ?_) (fun hb=>h1 ?_))<;>(clear h1 h3 K1 K3;(try have hb2:=yC hb);(try have hb2:=yD hb);(try have hb2:=yE hb);(try have hb2:=yF hb);(try have hb2:=yG hb)))|(refine fun (K2:_→AHeap→Prop) hK2=>?_)|((with_reducible refine zY ?_ ?_);decide)|((with_reducible first|refine zZ ?_ (fun K hK=>?_)|refine yA ?_ (fun K hK=>?_));(focus go_simp;done);go_simp;refine hK _ _ ?_;clear hK K)|(go_simp;(try go_bits);(try first | ((rw [aBuild_struct st34 ze34]); go_simp));refine hK2 _ _ ?_;clear hK2 K2))
    refine ⟨⟨_, rfl, ints_of_own (own_at HO.out (by rw [AHeap.n_upd]; exact Nat.le_refl _) fun i k hv hk => ?_) (by omega)⟩, (HXG.out.trans HX.out).upd (by omega) _⟩
    rw [AHeap.get_upd_ne]
    have := (own_block HO.out hv hk).1
    omega
end Go.Proofs.Tryz
