/- Contracts of functions, walked. -/
import Derived.Test.YtgddlpegljkgpaaStTB
import Derived.Test.YtgddlpegljkgpaaStSA
import Derived.Test.YtgddlpegljkgpaaStSN
import Derived.Test.YtgddlpegljkgpaaStTD
import Derived.Test.YtgddlpegljkgpaaStUF0
import Derived.Test.YtgddlpegljkgpaaAwB
set_option linter.all false
namespace Go.Proofs.Try
open Go Go.Am Go.RowKit Go.Co

theorem Course.early_late {x : Course} {p : Nat} (h : x.ord) (hp : 1 ≤ p) (hm : x.made p = true) : ∀ i, i < x.open_.length → (x.early p 0).getD i 0 ≤ (x.late p).getD i 0 := by
  have hf := x.early_fit h hp hm
  exact fun i hi => x.fit_late h hp hf i (by rw [hf.1]; exact hi)
def mixL (a b : List Int) (k : Nat) (d : Int) : List Int := (a.take k ++ [d]) ++ b.drop (k + 1)
theorem mixL_len {a b : List Int} {k : Nat} {d : Int} (hl : a.length = b.length) (hk : k < a.length) : (mixL a b k d).length = a.length := by
  simp [mixL]; omega
theorem mixL_get {a b : List Int} {k : Nat} {d : Int} (hl : a.length = b.length) (hk : k < a.length) (i : Nat) : (mixL a b k d).getD i 0 = if i < k then a.getD i 0 else if i = k then d else b.getD i 0 := by
  have htl : (a.take k ++ [d]).length = k + 1 := by simp; omega
  have htl0 : (a.take k).length = k := by simp; omega
  unfold mixL
  rcases Nat.lt_trichotomy i k with h | h | h
  · rw [if_pos h, getD_app (by omega), getD_app (by omega)]
    simp [List.getD_eq_getElem?_getD, h]
  · rw [if_neg (by omega), if_pos h, getD_app (by omega), h]
    have := @getD_snoc (a.take k) d
    rw [htl0] at this; exact this
  · rw [if_neg (by omega), if_neg (by omega), List.getD_eq_getElem?_getD, List.getElem?_append_right (by omega), htl, List.getElem?_drop, List.getD_eq_getElem?_getD, show k + 1 + (i - (k + 1)) = i by omega]
theorem Course.mix_fit {x : Course} {p k : Nat} {d : Int} {a b : List Int} (hp : 1 ≤ p) (ha : x.fit p a) (hb : x.fit p b) (hk : k < a.length) (hop : x.op k d = true) (h1 : a.getD k 0 ≤ d) (h2 : d ≤ b.getD k 0) (hab : ∀ i, i < a.length → a.getD i 0 ≤ b.getD i 0) : x.fit p (mixL a b k d) := by
  have hl : a.length = b.length := by rw [ha.1, hb.1]
  have hg := mixL_get (d := d) hl hk
  have hll := mixL_len (d := d) hl hk
  refine ⟨by rw [hll]; exact ha.1, fun i hi => ?_⟩
  rw [hll] at hi
  have hle : ∀ j, j < a.length → (mixL a b k d).getD j 0 ≤ b.getD j 0 := by
    intro j hj
    rw [hg j]
    split
    · exact hab j hj
    · split
      · rename_i h3; rw [h3]; exact h2
      · exact Int.le_refl _
  rw [hg i]
  rcases Nat.lt_trichotomy i k with h | h | h
  · rw [if_pos h]
    have e : lowL p (mixL a b k d) i = lowL p a i := lowL_same hp fun j hj => by rw [hg j, if_pos (by omega)]
    rw [e]; exact ha.2 i hi
  · subst h
    rw [if_neg (by omega), if_pos rfl]
    have e : lowL p (mixL a b i d) i = lowL p a i := lowL_same hp fun j hj => by rw [hg j, if_pos (by omega)]
    rw [e]
    have := (ha.2 i hi).2
    exact ⟨hop, by omega⟩
  · rw [if_neg (by omega), if_neg (by omega)]
    have hb2 := hb.2 i (by omega)
    exact ⟨hb2.1, Int.le_trans (lowL_mono hp fun j hj => hle j (by omega)) hb2.2⟩

theorem Course.fit_mono {x : Course} {p : Nat} {g : List Int} (h : x.ord) (hg : x.fit p g) : ∀ (n i : Nat), i + n < g.length → g.getD i 0 ≤ g.getD (i + n) 0
  | 0, i, _ => Int.le_refl _
  | n + 1, i, hn => by
    have h1 := x.fit_mono h hg n i (by omega)
    have h2 := (lowL_iff (x.fit_in h hg (i + (n + 1)) hn).1).1 (hg.2 (i + (n + 1)) hn).2
    have h3 := h2.1 (by omega)
    rw [show i + (n + 1) - 1 = i + n by omega] at h3
    omega
theorem Course.fit_bound {x : Course} {p : Nat} {g : List Int} (h : x.ord) (hg : x.fit p g) : ∀ (k : Nat), k * p < g.length → g.getD 0 0 + k ≤ g.getD (k * p) 0
  | 0, _ => by simp
  | k + 1, hk => by
    have e : (k + 1) * p = k * p + p := Nat.succ_mul k p
    have h1 := x.fit_bound h hg k (by omega)
    have h2 := ((lowL_iff (x.fit_in h hg ((k + 1) * p) hk).1).1 (hg.2 ((k + 1) * p) hk).2).2 (by omega)
    rw [show (k + 1) * p - p = k * p by omega] at h2
    omega

theorem Course.early_from {x : Course} {p : Nat} {g : List Int} {b : Int} (h : x.ord) (hp : 1 ≤ p) (hg : x.fit p g) (hb : b ≤ g.getD 0 0) : (x.early p b).length = x.open_.length ∧ x.fit p (x.early p b) ∧ (∀ i, i < g.length → (x.early p b).getD i 0 ≤ g.getD i 0) ∧ ∀ i, i < g.length → b ≤ (x.early p b).getD i 0 := by
  obtain ⟨h1, h2, h3, h4⟩ := early_ok (op := x.op) hp (fun i f => x.nx_ok h i f) x.open_.length (frm := b)
  obtain ⟨h5, h6⟩ := h4 g g.length (by have := hg.1; omega) hg.2 (fun i hi => by have := x.fit_mono h hg i 0 (by omega); rw [Nat.zero_add] at this; omega)
  have h7 : (x.early p b).length = x.open_.length := by
    have h8 : g.length ≤ (x.early p b).length := h5
    have h9 : (x.early p b).length ≤ x.open_.length := h1
    have := hg.1
    omega
  exact ⟨h7, ⟨h7, h2⟩, h6, fun i hi => h3 i (by have := hg.1; change i < (x.early p b).length; omega)⟩
def Course.poss (x : Course) (p k : Nat) : List (Int × Int) := cutS ((x.early p 0).getD k 0) ((x.late p).getD k 0) (x.at_ k)
theorem Course.poss_iff {x : Course} {p k : Nat} {d : Int} : ins (x.poss p k) d = true ↔ x.op k d = true ∧ (x.early p 0).getD k 0 ≤ d ∧ d ≤ (x.late p).getD k 0 := by
  rw [Course.poss, cutS_ins]; simp [Course.op]
theorem Course.poss_fit {x : Course} {p k : Nat} {d : Int} (h : x.ord) (hp : 1 ≤ p) (hm : x.made p = true) (hk : k < x.open_.length) (hd : ins (x.poss p k) d = true) : x.fit p (mixL (x.early p 0) (x.late p) k d) := by
  obtain ⟨h1, h2, h3⟩ := x.poss_iff.1 hd
  have hf := x.early_fit h hp hm
  exact x.mix_fit hp hf (x.late_fit h hp hm) (by rw [hf.1]; exact hk) h1 h2 h3 (fun i hi => x.early_late h hp hm i (by rw [← hf.1]; exact hi))
theorem Course.fit_poss {x : Course} {p k : Nat} {g : List Int} (h : x.ord) (hp : 1 ≤ p) (hg : x.fit p g) (hk : k < g.length) : ins (x.poss p k) (g.getD k 0) = true :=
  x.poss_iff.2 ⟨(hg.2 k hk).1, (x.fit_early h hp hg).2 k hk, x.fit_late h hp hg k hk⟩
def Course.took (x : Course) (p : Nat) (b : Int) : Int := (x.early p b).getD (x.open_.length - 1) 0 - b
structure Course.Short (x : Course) (p : Nat) (l : Int) : Prop where
  at_ : ∃ b, ins (x.poss p 0) b = true ∧ l = x.took p b
  le : ∀ b, ins (x.poss p 0) b = true → l ≤ x.took p b
theorem Course.took_fit {x : Course} {p : Nat} {b : Int} (h : x.ord) (hp : 1 ≤ p) (hm : x.made p = true) (hn : 0 < x.open_.length) (hb : ins (x.poss p 0) b = true) : x.fit p (x.early p b) ∧ (x.early p b).getD 0 0 = b ∧ x.took p b = (x.early p b).getD (x.open_.length - 1) 0 - (x.early p b).getD 0 0 := by
  have hg := x.poss_fit h hp hm hn hb
  have hf := x.early_fit h hp hm
  have hlt := x.late_fit h hp hm
  have hll : (x.early p 0).length = (x.late p).length := by rw [hf.1, hlt.1]
  have h0 : (mixL (x.early p 0) (x.late p) 0 b).getD 0 0 = b := by rw [mixL_get hll (by rw [hf.1]; exact hn)]; simp
  obtain ⟨h1, h2, h3, h4⟩ := x.early_from (b := b) h hp hg (by rw [h0]; exact Int.le_refl _)
  have h5 := h3 0 (by rw [hg.1]; exact hn)
  have h6 := h4 0 (by rw [hg.1]; exact hn)
  have h7 : (x.early p b).getD 0 0 = b := by omega
  exact ⟨h2, h7, by rw [Course.took, h7]⟩
theorem Course.took_bound {x : Course} {p : Nat} {b : Int} (h : x.ord) (hp : 1 ≤ p) (hm : x.made p = true) (hn : 0 < x.open_.length) (hb : ins (x.poss p 0) b = true) : (((x.open_.length - 1) / p : Nat) : Int) ≤ x.took p b ∧ x.took p b ≤ 730 := by
  obtain ⟨h1, h2, h3⟩ := x.took_fit h hp hm hn hb
  have hdm : (x.open_.length - 1) / p * p ≤ x.open_.length - 1 := Nat.div_mul_le_self _ _
  have h4 := x.fit_bound h h1 ((x.open_.length - 1) / p) (by rw [h1.1]; omega)
  have h5 := x.fit_mono h h1 (x.open_.length - 1 - (x.open_.length - 1) / p * p) ((x.open_.length - 1) / p * p) (by rw [h1.1]; omega)
  rw [show (x.open_.length - 1) / p * p + (x.open_.length - 1 - (x.open_.length - 1) / p * p) = x.open_.length - 1 by omega] at h5
  have h6 := x.fit_in h h1 0 (by rw [h1.1]; exact hn)
  have h7 := x.fit_in h h1 (x.open_.length - 1) (by rw [h1.1]; omega)
  rw [h3]
  omega
theorem Course.poss_ex {x : Course} {p : Nat} (h : x.ord) (hp : 1 ≤ p) (hm : x.made p = true) (hn : 0 < x.open_.length) : ins (x.poss p 0) ((x.early p 0).getD 0 0) = true := by
  have hf := x.early_fit h hp hm
  exact x.fit_poss h hp hf (by rw [hf.1]; exact hn)
end Go.Proofs.Try
namespace Go.Proofs.Try
open Go Go.Am Go.RowKit
set_option maxRecDepth 100000

def belowL (a b : List Int) (n : Nat) : Bool := decide (n ≤ a.length) && decide (n ≤ b.length) && (List.range n).all fun i => decide (a.getD i 0 ≤ b.getD i 0)
theorem belowL_iff {a b : List Int} {n : Nat} : belowL a b n = true ↔ n ≤ a.length ∧ n ≤ b.length ∧ ∀ i, i < n → a.getD i 0 ≤ b.getD i 0 := by
  simp [belowL, and_assoc]

theorem below_s {loops : List (Nat × LInfo)} {H : AHeap} {u v : Value} {xs ys : List Int} {n : Nat} (hu : Ints H u xs) (hv : Ints H v ys) : CallS Try.prog loops 50 [u, v, .int .i64 n] H fun r H' => r = .bool (belowL xs ys n) ∧ H' = H := by
  obtain ⟨hlen, a, c, rfl⟩ := hu.slice
  obtain ⟨hlen2, a2, c2, rfl⟩ := hv.slice
  have HU := Lib.hid hu
  have HV := Lib.hid hv
  clear hu hv
  generalize he : belowL xs ys n = er
  have HE := Lib.hid he
  clear he
  refine CallS.enter' Try.func50 rfl Try.ntmps50 (by simp) fun f hd hf => ?_
  have f0 := hf 0
  have f1 := hf 1
  have f2 := hf 2
  simp at f0 f1 f2
  clear hf
  repeat' (first|(with_reducible first|refine zA ?_|refine zB fun K hK=>?_|refine zC fun K2 hK2=>?_|refine zD ?_|refine zE ?_|refine zF ?_|refine zG ?_|refine zH ?_|refine zI ?_|refine zM ?_|refine zN ?_|refine zO ?_|refine zP ?_|refine zQ ?_|refine zR ?_)|((with_reducible refine zU (hK _ _ ?_));clear hK K)|((with_reducible refine zV ?_ ?_ fun K1 K3 d hdst h1 h3=>?_);rfl;exact yB rfl;cases hdst;go_simp)|((with_reducible refine zW fun K1 K3 h1 h3=>?_);go_simp)|((first|refine h1 ?_|refine h3 ?_);clear h1 h3 K1 K3)|((first|refine zX (fun hb=>h1 ?_) (fun hb=>h3 ?_)|refine zX (fun hb=>h3 ?_) (fun hb=>h1 ?_))<;>(clear h1 h3 K1 K3;(try have hb2:=yC hb);(try have hb2:=yD hb);(try have hb2:=yE hb);(try have hb2:=yF hb);(try have hb2:=yG hb)))|(refine fun (K2:_→AHeap→Prop) hK2=>?_)|((with_reducible refine zY ?_ ?_);decide)|((with_reducible first|refine zZ ?_ (fun K hK=>?_)|refine yA ?_ (fun K hK=>?_));(focus go_simp;done);go_simp;refine hK _ _ ?_;clear hK K)|(go_simp;(try go_bits);refine hK2 _ _ ?_;clear hK2 K2))
  all_goals first
    | (refine ⟨?_, rfl⟩
       have h0 : ¬ (n ≤ xs.length ∧ n ≤ ys.length) := by omega
       have h1 : belowL xs ys n = false := by rw [Bool.eq_false_iff]; intro h; have := belowL_iff.1 h; exact h0 ⟨this.1, this.2.1⟩
       rw [← HE.out, h1])
    | skip
  have h1 : n ≤ xs.length := by omega
  have h2 : n ≤ ys.length := by omega
  refine CodeS.loop (fun m f H' => ∃ k : Nat, k ≤ n ∧ m = n - k ∧ f.tmp 7 = .int .i64 k ∧ f.tmp 0 = .slice a xs.length c ∧ f.tmp 1 = .slice a2 ys.length c2 ∧ f.tmp 2 = .int .i64 n ∧ f.defers = [] ∧ Hid (∀ i, i < k → xs.getD i 0 ≤ ys.getD i 0) ∧ H' = H) n ?_ ?_
  · exact ⟨0, by simp, by simp, (by first|go_simp<;>go_num|assumption), (by first|go_simp<;>go_num|assumption), (by first|go_simp<;>go_num|assumption), (by first|go_simp<;>go_num|assumption), (by first|go_simp<;>go_num|assumption), Lib.hid (by intro i hi; omega), rfl⟩
  clear f0 f1 f2 hd f
  rintro m f H' ⟨k, hk, rfl, f7, f0, f1, f2, hd, HG, rfl⟩
  by_cases hlt : k < n
  · have hlx : k < xs.length := by omega
    have hly : k < ys.length := by omega
    obtain ⟨b, o, sp, rfl, hb, hx⟩ := HU.out.at_ hlx
    obtain ⟨b2, o2, sp2, rfl, hb2, hx2⟩ := HV.out.at_ hly
    have HX : Hid (xs.getD k 0 = xs[k]) := Lib.hid (by simp [List.getD_eq_getElem?_getD, hlx])
    have HY : Hid (ys.getD k 0 = ys[k]) := Lib.hid (by simp [List.getD_eq_getElem?_getD, hly])
    generalize xs[k] = x at hx HX
    generalize ys[k] = y at hx2 HY
    repeat' (first|(with_reducible first|refine zA ?_|refine zB fun K hK=>?_|refine zC fun K2 hK2=>?_|refine zD ?_|refine zE ?_|refine zF ?_|refine zG ?_|refine zH ?_|refine zI ?_|refine zM ?_|refine zN ?_|refine zO ?_|refine zP ?_|refine zQ ?_|refine zR ?_)|((with_reducible refine zU (hK _ _ ?_));clear hK K)|((with_reducible refine zV ?_ ?_ fun K1 K3 d hdst h1 h3=>?_);rfl;exact yB rfl;cases hdst;go_simp)|((with_reducible refine zW fun K1 K3 h1 h3=>?_);go_simp)|((first|refine h1 ?_|refine h3 ?_);clear h1 h3 K1 K3)|((first|refine zX (fun hb=>h1 ?_) (fun hb=>h3 ?_)|refine zX (fun hb=>h3 ?_) (fun hb=>h1 ?_))<;>(clear h1 h3 K1 K3;(try have hb2:=yC hb);(try have hb2:=yD hb);(try have hb2:=yE hb);(try have hb2:=yF hb);(try have hb2:=yG hb)))|(refine fun (K2:_→AHeap→Prop) hK2=>?_)|((with_reducible refine zY ?_ ?_);decide)|((with_reducible first|refine zZ ?_ (fun K hK=>?_)|refine yA ?_ (fun K hK=>?_));(focus go_simp;done);go_simp;refine hK _ _ ?_;clear hK K)|((with_reducible refine yH mixed rfl ?_ 20 fun K0 hK0=>?_);kernel_rfl)|(with_reducible first|exact yI|exact yJ|refine yK ?_|refine yL ?_|refine yM ?_)|((with_reducible first|refine yN ?_ ?_|refine yO ?_ ?_|refine yP ?_ ?_);rfl)|((with_reducible refine yQ ?_ ?_);rfl;refine hK0 _ _ ?_;clear hK0 K0)|((with_reducible refine yR ?_ ?_ ?_ ?_);rfl;rfl;rfl)|((with_reducible refine yS ?_ ?_ ?_ fun K2 hK2=>?_);rfl;rfl;exact yB rfl)|((with_reducible refine yT ?_ ?_ ?_ ?_ fun K1 K3 d hdst h1 h3=>?_);rfl;rfl;rfl;exact yB rfl;cases hdst;go_simp)|((with_reducible refine yU ?_ ?_ ?_ ?_ fun K1 K3 d hdst h1 h3=>?_);rfl;rfl;rfl;exact yB rfl;cases hdst;go_simp)|((with_reducible refine yV ?_ ?_ (fun K2 hK2=>?_) ?_);rfl;exact yB rfl)|((with_reducible refine yW ?_ ?_ ?_ ?_ (fun K2 hK2=>?_) ?_);rfl;exact yB rfl;rfl;(focus go_simp;done))|((with_reducible refine yX ?_ ?_ ?_ (fun K2 hK2=>?_) ?_);rfl;rfl;exact yB rfl)|((with_reducible refine yY ?_ ?_ (fun K2 hK2=>?_) ?_);rfl;rfl)|((with_reducible refine yZ ?_ ?_);(first|rfl|(dsimp only;decide +kernel)))|((with_reducible refine xA ?_ ?_);(focus go_simp;done))|(go_simp;(try go_bits);(first|(refine hK2 _ _ ?_ ?_<;>clear hK2 K2)|(refine hK2 _ _ ?_;clear hK2 K2))))
    · refine ⟨?_, rfl⟩
      have h3 : belowL xs ys n = false := by rw [Bool.eq_false_iff]; intro h; have := (belowL_iff.1 h).2.2 k hlt; rw [HX.out, HY.out] at this; omega
      rw [← HE.out, h3]
    · refine Post.round_normal ⟨n - (k + 1), by omega, k + 1, by omega, rfl, (by first|go_simp<;>go_num|assumption), (by first|go_simp<;>go_num|assumption), (by first|go_simp<;>go_num|assumption), (by first|go_simp<;>go_num|assumption), (by first|go_simp<;>go_num|assumption), Lib.hid ?_, rfl⟩
      intro i hi
      rcases Nat.lt_or_ge i k with h3 | h3
      · exact HG.out i h3
      · have : i = k := by omega
        rw [this, HX.out, HY.out]; omega
  · repeat' (first|(with_reducible first|refine zA ?_|refine zB fun K hK=>?_|refine zC fun K2 hK2=>?_|refine zD ?_|refine zE ?_|refine zF ?_|refine zG ?_|refine zH ?_|refine zI ?_|refine zM ?_|refine zN ?_|refine zO ?_|refine zP ?_|refine zQ ?_|refine zR ?_)|((with_reducible refine zU (hK _ _ ?_));clear hK K)|((with_reducible refine zV ?_ ?_ fun K1 K3 d hdst h1 h3=>?_);rfl;exact yB rfl;cases hdst;go_simp)|((with_reducible refine zW fun K1 K3 h1 h3=>?_);go_simp)|((first|refine h1 ?_|refine h3 ?_);clear h1 h3 K1 K3)|((first|refine zX (fun hb=>h1 ?_) (fun hb=>h3 ?_)|refine zX (fun hb=>h3 ?_) (fun hb=>h1 ?_))<;>(clear h1 h3 K1 K3;(try have hb2:=yC hb);(try have hb2:=yD hb);(try have hb2:=yE hb);(try have hb2:=yF hb);(try have hb2:=yG hb)))|(refine fun (K2:_→AHeap→Prop) hK2=>?_)|((with_reducible refine zY ?_ ?_);decide)|((with_reducible first|refine zZ ?_ (fun K hK=>?_)|refine yA ?_ (fun K hK=>?_));(focus go_simp;done);go_simp;refine hK _ _ ?_;clear hK K)|(go_simp;(try go_bits);refine hK2 _ _ ?_;clear hK2 K2))
    refine ⟨?_, rfl⟩
    have h3 : belowL xs ys n = true := belowL_iff.2 ⟨h1, h2, fun i hi => HG.out i (by omega)⟩
    rw [← HE.out, h3]
end Go.Proofs.Try
namespace Go.Proofs.Try
open Go Go.Am Go.RowKit Go.Co
set_option maxRecDepth 100000

def fitAt (x : Course) (p : Nat) (days : List Int) (i : Nat) : Bool := ins (x.at_ i) (days.getD i 0) && decide (lowL p days i ≤ days.getD i 0)
def fitFrom (x : Course) (p : Nat) (days : List Int) : Nat → Nat → Option Nat
  | 0, _ => none
  | r + 1, i => if fitAt x p days i = true then fitFrom x p days r (i + 1) else some i
theorem fitFrom_none {x : Course} {p : Nat} {days : List Int} : ∀ (r i : Nat), fitFrom x p days r i = none ↔ ∀ j, i ≤ j → j < i + r → fitAt x p days j = true
  | 0, i => by simp [fitFrom]; intro j h1 h2; omega
  | r + 1, i => by
    rw [fitFrom]
    by_cases h : fitAt x p days i = true
    · rw [if_pos h, fitFrom_none r (i + 1)]
      constructor
      · intro h1 j h2 h3
        by_cases hj : j = i
        · rw [hj]; exact h
        · exact h1 j (by omega) (by omega)
      · intro h1 j h2 h3; exact h1 j (by omega) (by omega)
    · rw [if_neg h]
      constructor
      · intro h1; cases h1
      · intro h1; exact absurd (h1 i (Nat.le_refl _) (by omega)) h
def errFits (s : Sheet) (c : Copy) (days : List Int) : Int := if errCopy s c ≠ 0 then errCopy s c else if days.length = c.words.length then 0 else 1
def fitsR (s : Sheet) (c : Copy) (days : List Int) : Option Nat := fitFrom (courseOf s c) c.per.toNat days days.length 0
def fitsV (s : Sheet) (c : Copy) (days : List Int) : Value := if errFits s c days = 0 then (match fitsR s c days with | none => .tuple #[.int .i64 0, .bool true, .int .i64 0] | some i => .tuple #[.int .i64 i, .bool false, .int .i64 0]) else .tuple #[.int .i64 0, .bool false, .int .i64 (errFits s c days)]

set_option maxHeartbeats 4000000 in
theorem fits_s {loops : List (Nat × LInfo)} {H : AHeap} {sv cv dv : Value} {s : Sheet} {c : Copy} {days : List Int} (hs : SheetV H sv s) (hc : CopyV H cv c) (hdv : Ints H dv days) : CallS Try.prog loops 48 [sv, cv, dv] H fun r H' => r = fitsV s c days ∧ H' = H := by
  refine CallS.forget (R := fun v => v = fitsV s c days) (by rintro v rfl; unfold fitsV; split; (split <;> rfl); rfl) ?_
  have HV := Lib.hid hs
  have HC := Lib.hid hc
  have HD := Lib.hid hdv
  obtain ⟨wv, av, rfl, hw, ha⟩ := hs
  obtain ⟨hwl, wa, wc, rfl⟩ := hw.slice
  obtain ⟨hal, aa, ac, rfl⟩ := ha.slice
  obtain ⟨cv, rfl, hcw⟩ := hc
  obtain ⟨hcl, ca, cc, rfl⟩ := hcw.slice
  obtain ⟨hdl, da, dc, rfl⟩ := hdv.slice
  clear hw ha hcw hdv
  generalize hr : fitsV s c days = r
  have HR : Hid (r = fitsV s c days) := Lib.hid hr.symm
  clear hr
  refine CallS.enter' Try.func48 rfl Try.ntmps48 (by simp) fun f hd hf => ?_
  have f0 := hf 0
  have f1 := hf 1
  have f2 := hf 2
  simp at f0 f1 f2
  clear hf
  have HX1 : Hid (Ext H ((H.push (.row [Value.slice wa s.words.length wc, Value.slice aa s.alts.length ac] 25)).push (.row [Value.slice ca c.words.length cc, .int .i64 c.beg, .int .i64 c.fin, .int .i64 c.per] 27))) := Lib.hid (((Ext.refl _).push' _).push' _)
  repeat' (first|(with_reducible first|refine zA ?_|refine zB fun K hK=>?_|refine zC fun K2 hK2=>?_|refine zD ?_|refine zE ?_|refine zF ?_|refine zG ?_|refine zH ?_|refine zI ?_|refine zM ?_|refine zN ?_|refine zO ?_|refine zP ?_|refine zQ ?_|refine zR ?_)|((with_reducible refine zU (hK _ _ ?_));clear hK K)|((with_reducible refine zV ?_ ?_ fun K1 K3 d hdst h1 h3=>?_);rfl;exact yB rfl;cases hdst;go_simp)|((with_reducible refine zW fun K1 K3 h1 h3=>?_);go_simp)|((first|refine h1 ?_|refine h3 ?_);clear h1 h3 K1 K3)|((first|refine zX (fun hb=>h1 ?_) (fun hb=>h3 ?_)|refine zX (fun hb=>h3 ?_) (fun hb=>h1 ?_))<;>(clear h1 h3 K1 K3;(try have hb2:=yC hb);(try have hb2:=yD hb);(try have hb2:=yE hb);(try have hb2:=yF hb);(try have hb2:=yG hb)))|(refine fun (K2:_→AHeap→Prop) hK2=>?_)|((with_reducible refine zY ?_ ?_);decide)|((with_reducible first|refine zZ ?_ (fun K hK=>?_)|refine yA ?_ (fun K hK=>?_));(focus go_simp;done);go_simp;refine hK _ _ ?_;clear hK K)|(go_simp;(try go_bits);(try first |((with_reducible show CallS _ _ _ _ _ _);first|(refine CallS.mono (checkCopy_s (s := s) (c := c) (HV.out.ext HX1.out) (HC.out.ext HX1.out)) ?_; rintro _ _ ⟨rfl, h9⟩; rw [h9]; clear h9)|(refine CallS.mono (courseOf_e (s := s) (c := c) (HV.out.ext HX1.out) (HC.out.ext HX1.out) (by simpa using ‹(errCopy s c != 0) = false›)) ?_; rintro xv H2 ⟨hx, hx2⟩; (have HXC := Lib.hid hx); (have HX2 := Lib.hid (HX1.out.trans hx2)); (obtain ⟨ov, rfl, hov⟩ := hx); (obtain ⟨-, oa, oc, rfl⟩ := hov.slice); clear hov hx2)));refine hK2 _ _ ?_;clear hK2 K2))
  · refine ⟨?_, HX1.out⟩
    have h1 : errCopy s c ≠ 0 := by simpa using hb
    have h2 : errFits s c days = errCopy s c := by rw [errFits, if_pos h1]
    rw [HR.out, fitsV, h2, if_neg h1]
  · refine ⟨?_, HX1.out⟩
    have h1 : errCopy s c = 0 := by simpa using ‹(errCopy s c != 0) = false›
    have h3 : ¬ days.length = c.words.length := by rw [nat_neb] at hb; simpa using hb
    have h2 : errFits s c days = 1 := by rw [errFits, if_neg (by simp [h1]), if_neg h3]
    rw [HR.out, fitsV, h2, if_neg (by decide)]
  have h1 : errCopy s c = 0 := by simpa using ‹(errCopy s c != 0) = false›
  have h3 : days.length = c.words.length := by rw [nat_neb] at hb; simpa using hb
  have h2 : errFits s c days = 0 := by rw [errFits, if_neg (by simp [h1]), if_pos h3]
  have HR2 : Hid (r = (match fitFrom (courseOf s c) c.per.toNat days days.length 0 with | none => .tuple #[.int .i64 0, .bool true, .int .i64 0] | some i => .tuple #[.int .i64 i, .bool false, .int .i64 0])) := Lib.hid (by rw [HR.out, fitsV, if_pos h2]; rfl)
  have hor := courseOf_ord h1
  obtain ⟨-, -, -, -, -, -, hp1, hp2⟩ := errCopy_ok h1
  have hper : (courseOf s c).per = ((c.per.toNat : Nat) : Int) := by show c.per = _; omega
  have hp3 : 1 ≤ c.per.toNat := by omega
  have hxl : (courseOf s c).open_.length = days.length := by rw [courseOf_len, h3]
  have HPER := Lib.hid hper
  have HXL := Lib.hid hxl
  have HOR := Lib.hid hor
  clear hper hxl hor HR h2 hp1 hp2
  clear h1 h3 HV HC
  generalize courseOf s c = x at HXC HR2 HPER HXL HOR
  generalize c.per.toNat = p at HR2 HPER hp3
  generalize hpe : x.per = pe at HXC HPER
  have HPE := Lib.hid hpe
  clear hpe
  refine CodeS.loop (fun m f H' => ∃ k : Nat, k ≤ days.length ∧ m = days.length - k ∧ f.tmp 30 = .int .i64 k ∧ f.tmp 29 = .int .i64 days.length ∧ f.tmp 28 = .slice da days.length dc ∧ f.tmp 2 = .slice da days.length dc ∧ f.tmp 10 = .pointer (some ⟨H2.n, 0, none⟩) ∧ f.defers = [] ∧ Hid (∀ j, j < k → fitAt x p days j = true) ∧ H' = H2.push (.row [Value.slice oa x.open_.length oc, .int .i64 pe] 118)) days.length ?_ ?_
  · exact ⟨0, by simp, by simp, (by first|go_simp<;>go_num|assumption), (by first|go_simp<;>go_num|assumption), (by first|go_simp<;>go_num|assumption), (by first|go_simp<;>go_num|assumption), (by first|go_simp<;>go_num|assumption), (by first|go_simp<;>go_num|assumption), Lib.hid (by intro j hj; omega), rfl⟩
  clear f0 f1 f2 hd f hb
  rintro m f H' ⟨k, hk, rfl, f30, f29, f28, f2, f10, hd, HF, rfl⟩
  by_cases hlt : k < days.length
  · have HLW := Lib.hid (fun (loops : List (Nat × LInfo)) => lowest_s (loops := loops) (k := k) (HXC.out.ext (Ext.push (.row [Value.slice oa x.open_.length oc, .int .i64 pe] 118))) (HD.out.ext ((HX2.out.push' _))) hk (HPE.out.trans HPER.out) hp3 (fun j hj => by
      have h := HF.out j hj
      simp only [fitAt, Bool.and_eq_true] at h
      have := ordS_ins _ (HOR.out j) _ h.1
      omega))
    have HOP := Lib.hid (fun (loops : List (Nat × LInfo)) (d : Int) => isOpen_s (loops := loops) (d := d) (HXC.out.ext (Ext.push (.row [Value.slice oa x.open_.length oc, .int .i64 pe] 118))) (show k < x.open_.length by rw [HXL.out]; exact hlt))
    obtain ⟨b, o, sp, rfl, hb, hx⟩ := (HD.out.ext HX2.out).at_ hlt
    have hgd : days.getD k 0 = days[k] := by simp [List.getD_eq_getElem?_getD, hlt]
    have HFA : Hid (fitAt x p days k = (ins (x.at_ k) days[k] && decide (lowL p days k ≤ days[k]))) := Lib.hid (by rw [fitAt, hgd])
    have HST : Hid (fitAt x p days k = false → fitFrom x p days days.length 0 = some k) := Lib.hid (fun h => by
      have go : ∀ (r i : Nat), i ≤ k → k < i + r → fitFrom x p days r i = some k := by
        intro r
        induction r with
        | zero => intro i h1 h2; omega
        | succ r ih =>
          intro i h1 h2
          rw [fitFrom]
          by_cases hik : i = k
          · subst hik; rw [if_neg (by rw [h]; simp)]
          · rw [if_pos (HF.out i (by omega))]; exact ih (i + 1) (by omega) (by omega)
      exact go days.length 0 (by omega) (by omega))
    clear hgd
    generalize lowL p days k = lw at HLW HFA
    generalize days[k] = d at hx HFA
    have hop := fun (loops : List (Nat × LInfo)) => HOP.out loops d
    generalize ins (x.at_ k) d = io at hop HFA
    have HOP2 := Lib.hid hop
    clear hop
    repeat' (first|(with_reducible first|refine zA ?_|refine zB fun K hK=>?_|refine zC fun K2 hK2=>?_|refine zD ?_|refine zE ?_|refine zF ?_|refine zG ?_|refine zH ?_|refine zI ?_|refine zM ?_|refine zN ?_|refine zO ?_|refine zP ?_|refine zQ ?_|refine zR ?_)|((with_reducible refine zU (hK _ _ ?_));clear hK K)|((with_reducible refine zV ?_ ?_ fun K1 K3 d hdst h1 h3=>?_);rfl;exact yB rfl;cases hdst;go_simp)|((with_reducible refine zW fun K1 K3 h1 h3=>?_);go_simp)|((first|refine h1 ?_|refine h3 ?_);clear h1 h3 K1 K3)|((first|refine zX (fun hb=>h1 ?_) (fun hb=>h3 ?_)|refine zX (fun hb=>h3 ?_) (fun hb=>h1 ?_))<;>(clear h1 h3 K1 K3;(try have hb2:=yC hb);(try have hb2:=yD hb);(try have hb2:=yE hb);(try have hb2:=yF hb);(try have hb2:=yG hb)))|(refine fun (K2:_→AHeap→Prop) hK2=>?_)|((with_reducible refine zY ?_ ?_);decide)|((with_reducible first|refine zZ ?_ (fun K hK=>?_)|refine yA ?_ (fun K hK=>?_));(focus go_simp;done);go_simp;refine hK _ _ ?_;clear hK K)|(go_simp;(try go_bits);(try first |((with_reducible show CallS _ _ _ _ _ _);first|(refine CallS.mono (HLW.out _) ?_; rintro _ _ ⟨rfl, rfl⟩)|(refine CallS.mono (HOP2.out _) ?_; rintro _ _ ⟨rfl, rfl⟩)));refine hK2 _ _ ?_;clear hK2 K2))
    · refine ⟨?_, HX2.out.push' _⟩
      have h9 : io = false := by simpa using hb
      rw [HR2.out, HST.out (by rw [HFA.out, h9]; rfl)]
    · refine ⟨?_, HX2.out.push' _⟩
      have h9 : decide (lw ≤ d) = false := by simp; omega
      rw [HR2.out, HST.out (by rw [HFA.out, h9, Bool.and_false])]
    · refine Post.round_normal ⟨days.length - (k + 1), by omega, k + 1, by omega, rfl, (by first|go_simp<;>go_num|assumption), (by first|go_simp<;>go_num|assumption), (by first|go_simp<;>go_num|assumption), (by first|go_simp<;>go_num|assumption), (by first|go_simp<;>go_num|assumption), (by first|go_simp<;>go_num|assumption), Lib.hid ?_, rfl⟩
      intro j hj
      by_cases hjk : j = k
      · have h9 : decide (lw ≤ d) = true := by simp; omega
        have h8 : io = true := by simpa using ‹(!io) = false›
        rw [hjk, HFA.out, h9, h8]; rfl
      · exact HF.out j (by omega)
  · repeat' (first|(with_reducible first|refine zA ?_|refine zB fun K hK=>?_|refine zC fun K2 hK2=>?_|refine zD ?_|refine zE ?_|refine zF ?_|refine zG ?_|refine zH ?_|refine zI ?_|refine zM ?_|refine zN ?_|refine zO ?_|refine zP ?_|refine zQ ?_|refine zR ?_)|((with_reducible refine zU (hK _ _ ?_));clear hK K)|((with_reducible refine zV ?_ ?_ fun K1 K3 d hdst h1 h3=>?_);rfl;exact yB rfl;cases hdst;go_simp)|((with_reducible refine zW fun K1 K3 h1 h3=>?_);go_simp)|((first|refine h1 ?_|refine h3 ?_);clear h1 h3 K1 K3)|((first|refine zX (fun hb=>h1 ?_) (fun hb=>h3 ?_)|refine zX (fun hb=>h3 ?_) (fun hb=>h1 ?_))<;>(clear h1 h3 K1 K3;(try have hb2:=yC hb);(try have hb2:=yD hb);(try have hb2:=yE hb);(try have hb2:=yF hb);(try have hb2:=yG hb)))|(refine fun (K2:_→AHeap→Prop) hK2=>?_)|((with_reducible refine zY ?_ ?_);decide)|((with_reducible first|refine zZ ?_ (fun K hK=>?_)|refine yA ?_ (fun K hK=>?_));(focus go_simp;done);go_simp;refine hK _ _ ?_;clear hK K)|(go_simp;(try go_bits);refine hK2 _ _ ?_;clear hK2 K2))
    refine ⟨?_, HX2.out.push' _⟩
    have h9 : fitFrom x p days days.length 0 = none := (fitFrom_none _ _).2 fun j _ hj => HF.out j (by omega)
    rw [HR2.out, h9]

def FitsOk (s : Sheet) (c : Copy) (days : List Int) : Prop := errFits s c days = 0 ∧ fitsR s c days = none
def opOf (s : Sheet) (c : Copy) (i : Nat) (d : Int) : Bool := ins ((courseOf s c).at_ i) d
theorem errFits_ok {s : Sheet} {c : Copy} {days : List Int} (h : errFits s c days = 0) : errCopy s c = 0 ∧ days.length = c.words.length := by
  unfold errFits at h
  split at h
  · rename_i h1; exact absurd h h1
  · rename_i h1
    split at h
    · rename_i h2; exact ⟨by simpa using h1, h2⟩
    · cases h
theorem fitsR_iff {s : Sheet} {c : Copy} {days : List Int} : fitsR s c days = none ↔ FitTo (opOf s c) c.per.toNat days days.length := by
  unfold fitsR
  rw [fitFrom_none]
  simp only [fitAt, Bool.and_eq_true, decide_eq_true_eq, Nat.zero_add, FitTo, opOf]
  exact ⟨fun h i hi => h i (Nat.zero_le _) hi, fun h i _ hi => h i hi⟩
theorem fitsV_ok {s : Sheet} {c : Copy} {days : List Int} (h : errFits s c days = 0) (hf : FitTo (opOf s c) c.per.toNat days days.length) : fitsV s c days = .tuple #[.int .i64 0, .bool true, .int .i64 0] := by
  rw [fitsV, if_pos h, fitsR_iff.2 hf]
end Go.Proofs.Try
namespace Go.Proofs.Try
open Go Go.Am Go.RowKit Go.Co
set_option maxRecDepth 100000

structure Known (s : Sheet) (c : Copy) (x : Course) (p n : Nat) : Prop where
  ord : x.ord
  p1 : 1 ≤ p
  len : x.open_.length = n
  n1 : 1 ≤ n
  n40 : n ≤ 40
  ext : errExt s c = if x.made p then 0 else 9
  fin : ∀ i d, i < n → x.op i d = true → c.beg ≤ d ∧ d ≤ c.fin
  fin0 : 0 ≤ c.fin ∧ c.fin ≤ 730
theorem known {s : Sheet} {c : Copy} (h : errCopy s c = 0) : Known s c (courseOf s c) c.per.toNat c.words.length := by
  obtain ⟨he0, hlen, hwo, hb0, hb1, hb2, hp1, -⟩ := errCopy_ok h
  have hwl := win_iff.1 (err_ok he0).2.1
  refine ⟨courseOf_ord h, by omega, courseOf_len s c, by omega, by omega, by rw [errExt, if_neg (by simp [h])], fun i d hi ho => ?_, by omega⟩
  have h1 := courseOf_ins h hi (d := d)
  rw [Course.op, h1] at ho
  simp only [Bool.and_eq_true, decide_eq_true_eq] at ho
  omega
theorem fitsOk_fit {s : Sheet} {c : Copy} {days : List Int} : FitsOk s c days ↔ errCopy s c = 0 ∧ (courseOf s c).fit c.per.toNat days := by
  constructor
  · rintro ⟨h1, h2⟩
    obtain ⟨h3, h4⟩ := errFits_ok h1
    exact ⟨h3, by rw [courseOf_len]; exact h4, fitsR_iff.1 h2⟩
  · rintro ⟨h1, h2, h3⟩
    rw [courseOf_len] at h2
    exact ⟨by rw [errFits, if_neg (by simp [h1]), if_pos h2], fitsR_iff.2 h3⟩
theorem fitsOk_V {s : Sheet} {c : Copy} {days : List Int} (h : FitsOk s c days) : fitsV s c days = .tuple #[.int .i64 0, .bool true, .int .i64 0] := fitsV_ok h.1 (fitsR_iff.1 h.2)
theorem errExt_ok {s : Sheet} {c : Copy} (h : errExt s c = 0) : errCopy s c = 0 ∧ (courseOf s c).made c.per.toNat = true := by
  unfold errExt at h
  split at h
  · rename_i h1; exact absurd h h1
  · rename_i h1
    split at h
    · rename_i h2; exact ⟨by simpa using h1, h2⟩
    · cases h
theorem fit_ext {s : Sheet} {c : Copy} {days : List Int} (h : FitsOk s c days) : errExt s c = 0 := by
  obtain ⟨h1, h2⟩ := fitsOk_fit.1 h
  have k := known h1
  rw [k.ext, ((courseOf s c).fit_early k.ord k.p1 h2).1]; rfl
theorem first_fits {s : Sheet} {c : Copy} (h : errExt s c = 0) : FitsOk s c (firstL s c) := by
  obtain ⟨h1, h2⟩ := errExt_ok h
  have k := known h1
  rw [firstL, if_pos h]
  exact fitsOk_fit.2 ⟨h1, (courseOf s c).early_fit k.ord k.p1 h2⟩
theorem last_fits {s : Sheet} {c : Copy} (h : errExt s c = 0) : FitsOk s c (lastL s c) := by
  obtain ⟨h1, h2⟩ := errExt_ok h
  have k := known h1
  rw [lastL, if_pos h]
  exact fitsOk_fit.2 ⟨h1, (courseOf s c).late_fit k.ord k.p1 h2⟩
theorem first_below {s : Sheet} {c : Copy} {days : List Int} (h : FitsOk s c days) : belowL (firstL s c) days days.length = true := by
  obtain ⟨h1, h2⟩ := fitsOk_fit.1 h
  have he := fit_ext h
  have k := known h1
  have h3 := (fitsOk_fit.1 (first_fits he)).2.1
  rw [firstL, if_pos he] at h3 ⊢
  exact belowL_iff.2 ⟨by have := h2.1; omega, Nat.le_refl _, ((courseOf s c).fit_early k.ord k.p1 h2).2⟩
theorem last_below {s : Sheet} {c : Copy} {days : List Int} (h : FitsOk s c days) : belowL days (lastL s c) days.length = true := by
  obtain ⟨h1, h2⟩ := fitsOk_fit.1 h
  have he := fit_ext h
  have k := known h1
  have h3 := (fitsOk_fit.1 (last_fits he)).2.1
  rw [lastL, if_pos he] at h3 ⊢
  exact belowL_iff.2 ⟨Nat.le_refl _, by have := h2.1; omega, (courseOf s c).fit_late k.ord k.p1 h2⟩
end Go.Proofs.Try
namespace Go.Proofs.Try
open Go Go.Am Go.RowKit Go.Co

theorem ends_ok {s : Sheet} {c : Copy} (h : errExt s c = 0) : (∀ i j, i ≤ j → j < s.words.length → (firstL s c).getD i 0 ≤ (firstL s c).getD j 0) ∧ (∀ i j, i ≤ j → j < s.words.length → (lastL s c).getD i 0 ≤ (lastL s c).getD j 0) ∧ ∀ i, i < s.words.length → (firstL s c).getD i 0 ≤ (lastL s c).getD i 0 := by
  obtain ⟨h0, hm, e1, e2, g1, g2, -, -⟩ := ends_n h
  have k := known h0
  have hf := (courseOf s c).early_fit k.ord k.p1 hm
  have hl := (courseOf s c).late_fit k.ord k.p1 hm
  rw [e1] at g1
  rw [e2] at g2
  rw [e1, e2]
  refine ⟨fun i j hij hj => ?_, fun i j hij hj => ?_, fun i hi => ?_⟩
  · have := (courseOf s c).fit_mono k.ord hf (j - i) i (by omega)
    rwa [show i + (j - i) = j by omega] at this
  · have := (courseOf s c).fit_mono k.ord hl (j - i) i (by omega)
    rwa [show i + (j - i) = j by omega] at this
  · exact (courseOf s c).early_late k.ord k.p1 hm i (by rw [← hf.1, g1]; exact hi)
theorem fits_ends {s : Sheet} {c : Copy} {days : List Int} (h : FitsOk s c days) : errExt s c = 0 ∧ days.length = s.words.length ∧ ∀ i, i < s.words.length → (firstL s c).getD i 0 ≤ days.getD i 0 ∧ days.getD i 0 ≤ (lastL s c).getD i 0 := by
  have he := fit_ext h
  obtain ⟨h1, h2⟩ := fitsOk_fit.1 h
  have hl : days.length = s.words.length := by rw [h2.1, courseOf_len, (errCopy_ok h1).2.1]
  have b1 := (belowL_iff.1 (first_below h)).2.2
  have b2 := (belowL_iff.1 (last_below h)).2.2
  exact ⟨he, hl, fun i hi => ⟨b1 i (by omega), b2 i (by omega)⟩⟩
end Go.Proofs.Try
namespace Go.Proofs.Try
open Go Go.Am Go.RowKit Go.Co

theorem idsL_mem {s : Sheet} {acc : Alt → Bool} {i : Int} : i ∈ idsL s acc ↔ ∃ a, a ∈ s.alts ∧ acc a = true ∧ a.id = i := by
  rw [idsL, sortL_mem, List.mem_map]
  constructor
  · rintro ⟨a, h1, h2⟩
    rw [List.mem_filter] at h1
    exact ⟨a, h1.1, h1.2, h2⟩
  · rintro ⟨a, h1, h2, h3⟩
    exact ⟨a, List.mem_filter.2 ⟨h1, h2⟩, h3⟩
theorem alts_id {s : Sheet} (h : err s = 0) {a b : Alt} (ha : a ∈ s.alts) (hb : b ∈ s.alts) (hi : a.id = b.id) : a = b := by
  have hn := (err_alts h).2
  have key : ∀ (l : List Alt), (l.map Alt.id).Nodup → a ∈ l → b ∈ l → a = b := by
    intro l
    induction l with
    | nil => intro _ h; cases h
    | cons x t ih =>
      intro hd h1 h2
      rw [List.map_cons, List.nodup_cons] at hd
      rcases List.mem_cons.1 h1 with rfl | h1'
      · rcases List.mem_cons.1 h2 with rfl | h2'
        · rfl
        · exact absurd (List.mem_map.2 ⟨b, h2', hi.symm⟩) hd.1
      · rcases List.mem_cons.1 h2 with rfl | h2'
        · exact absurd (List.mem_map.2 ⟨a, h1', hi⟩) hd.1
        · exact ih hd.2 h1' h2'
  exact key _ hn ha hb
theorem idsL_of {s : Sheet} (h : err s = 0) {acc : Alt → Bool} {a : Alt} (ha : a ∈ s.alts) : a.id ∈ idsL s acc ↔ acc a = true := by
  rw [idsL_mem]
  constructor
  · rintro ⟨b, h1, h2, h3⟩
    rw [alts_id h ha h1 h3.symm]; exact h2
  · exact fun h1 => ⟨a, ha, h1, rfl⟩
end Go.Proofs.Try
namespace Go.Proofs.Try
open Go Go.Am Go.RowKit Go.Co
set_option maxRecDepth 100000

theorem possible_e {loops : List (Nat × LInfo)} {H : AHeap} {oa fa la : Option Addr} {oc fc lc : Nat} {pi : Int} {x : Course} {fs ls : List Int} {k : Nat} (hv : Rows H (.slice oa x.open_.length oc) x.open_) (hf : Ints H (.slice fa fs.length fc) fs) (hl : Ints H (.slice la ls.length lc) ls) (hk : k < x.open_.length) (hkf : k < fs.length) (hkl : k < ls.length) (hlen : (x.at_ k).length ≤ 1000) : CallS Try.prog loops 98 [.agg #[.slice oa x.open_.length oc, .int .i64 pi, .slice fa fs.length fc, .slice la ls.length lc], .int .i64 k] H fun r H' => Own H' H.n r 87 2 (spanCells (cutS (fs.getD k 0) (ls.getD k 0) (x.at_ k))) ∧ Ext H H' := by
  obtain ⟨b, o, sp, u, rfl, hb, hc, hu⟩ := hv.at_ hk
  have HU := Lib.hid hu
  have hat : x.at_ k = x.open_[k] := by simp [Course.at_, hk]
  rw [hat] at hlen ⊢
  obtain ⟨b1, o1, sp1, rfl, hb1, hc1⟩ := hf.at_ hkf
  obtain ⟨b2, o2, sp2, rfl, hb2, hc2⟩ := hl.at_ hkl
  have e1 : fs.getD k 0 = fs[k] := by simp [List.getD_eq_getElem?_getD, hkf]
  have e2 : ls.getD k 0 = ls[k] := by simp [List.getD_eq_getElem?_getD, hkl]
  rw [e1, e2]
  have HB := Lib.hid (fun (loops : List (Nat × LInfo)) (H' : AHeap) (hx : Ext H H') => cut_e (loops := loops) (lo := fs[k]) (hi := ls[k]) (HU.out.ext hx) hlen)
  obtain ⟨hll, ua, uc, rfl⟩ := hu.slice
  generalize fs[k] = lo at hc1 HB
  generalize ls[k] = hi at hc2 HB
  generalize x.open_[k] = l at HB HU hll hc
  clear hu e1 e2 hat hf hl hv
  refine CallS.enter' Try.func98 rfl Try.ntmps98 (by simp) fun f hd hf => ?_
  have f0 := hf 0
  have f1 := hf 1
  simp at f0 f1
  clear hf
  repeat' (first|(with_reducible first|refine zA ?_|refine zB fun K hK=>?_|refine zC fun K2 hK2=>?_|refine zD ?_|refine zE ?_|refine zF ?_|refine zG ?_|refine zH ?_|refine zI ?_|refine zM ?_|refine zN ?_|refine zO ?_|refine zP ?_|refine zQ ?_|refine zR ?_)|((with_reducible refine zU (hK _ _ ?_));clear hK K)|((with_reducible refine zV ?_ ?_ fun K1 K3 d hdst h1 h3=>?_);rfl;exact yB rfl;cases hdst;go_simp)|((with_reducible refine zW fun K1 K3 h1 h3=>?_);go_simp)|((first|refine h1 ?_|refine h3 ?_);clear h1 h3 K1 K3)|((first|refine zX (fun hb=>h1 ?_) (fun hb=>h3 ?_)|refine zX (fun hb=>h3 ?_) (fun hb=>h1 ?_))<;>(clear h1 h3 K1 K3;(try have hb2:=yC hb);(try have hb2:=yD hb);(try have hb2:=yE hb);(try have hb2:=yF hb);(try have hb2:=yG hb)))|(refine fun (K2:_→AHeap→Prop) hK2=>?_)|((with_reducible refine zY ?_ ?_);decide)|((with_reducible first|refine zZ ?_ (fun K hK=>?_)|refine yA ?_ (fun K hK=>?_));(focus go_simp;done);go_simp;refine hK _ _ ?_;clear hK K)|((with_reducible refine yH mixed rfl ?_ 20 fun K0 hK0=>?_);kernel_rfl)|(with_reducible first|exact yI|exact yJ|refine yK ?_|refine yL ?_|refine yM ?_)|((with_reducible first|refine yN ?_ ?_|refine yO ?_ ?_|refine yP ?_ ?_);rfl)|((with_reducible refine yQ ?_ ?_);rfl;refine hK0 _ _ ?_;clear hK0 K0)|((with_reducible refine yR ?_ ?_ ?_ ?_);rfl;rfl;rfl)|((with_reducible refine yS ?_ ?_ ?_ fun K2 hK2=>?_);rfl;rfl;exact yB rfl)|((with_reducible refine yT ?_ ?_ ?_ ?_ fun K1 K3 d hdst h1 h3=>?_);rfl;rfl;rfl;exact yB rfl;cases hdst;go_simp)|((with_reducible refine yU ?_ ?_ ?_ ?_ fun K1 K3 d hdst h1 h3=>?_);rfl;rfl;rfl;exact yB rfl;cases hdst;go_simp)|((with_reducible refine yV ?_ ?_ (fun K2 hK2=>?_) ?_);rfl;exact yB rfl)|((with_reducible refine yW ?_ ?_ ?_ ?_ (fun K2 hK2=>?_) ?_);rfl;exact yB rfl;rfl;(focus go_simp;done))|((with_reducible refine yX ?_ ?_ ?_ (fun K2 hK2=>?_) ?_);rfl;rfl;exact yB rfl)|((with_reducible refine yY ?_ ?_ (fun K2 hK2=>?_) ?_);rfl;rfl)|((with_reducible refine yZ ?_ ?_);(first|rfl|(dsimp only;decide +kernel)))|((with_reducible refine xA ?_ ?_);(focus go_simp;done))|(go_simp;(try go_bits);(try first | ((with_reducible show CallS _ _ _ _ _ _);refine CallS.mono (HB.out _ _ (Ext.push _)) ?_; rintro r H2 ⟨ho, hx⟩; (have HO := Lib.hid ho); (have HX := Lib.hid hx); clear ho hx));(first|(refine hK2 _ _ ?_ ?_<;>clear hK2 K2)|(refine hK2 _ _ ?_;clear hK2 K2))))
  exact ⟨HO.out.mono (by rw [AHeap.n_push]; omega), (Ext.push _).trans HX.out⟩
end Go.Proofs.Try
namespace Go.Proofs.Try
open Go Go.Am Go.RowKit Go.Co
set_option maxRecDepth 100000

structure LeastG (x : Course) (p : Nat) (PL : List (Int × Int)) (k : Nat) (l : Int) : Prop where
  seen : ∀ (j : Nat) (hj : j < PL.length), j < k → ∀ b, (PL[j]).1 ≤ b → b ≤ (PL[j]).2 → l ≤ x.took p b
  got : l = 731 ∨ ∃ b, ins PL b = true ∧ l = x.took p b

theorem LeastG.all {x : Course} {p : Nat} {PL : List (Int × Int)} {l : Int} (h : LeastG x p PL PL.length l) : ∀ b, ins PL b = true → l ≤ x.took p b := by
  intro b hb
  rw [ins, List.any_eq_true] at hb
  obtain ⟨y, hy, h2⟩ := hb
  obtain ⟨j, hj, rfl⟩ := List.mem_iff_getElem.1 hy
  simp only [Bool.and_eq_true, decide_eq_true_eq] at h2
  exact h.seen j hj hj b h2.1 h2.2
theorem LeastG.min {x : Course} {p k : Nat} {PL : List (Int × Int)} {l d tk : Int} (h : LeastG x p PL k l) (hd : ins PL d = true) (ht : x.took p d = tk) (h730 : tk ≤ 730) : LeastG x p PL k (min l tk) ∧ (min l tk ≠ 731) := by
  refine ⟨⟨fun j hj h1 b h2 h3 => by have := h.seen j hj h1 b h2 h3; omega, ?_⟩, by omega⟩
  rcases Int.le_total l tk with h1 | h1
  · rw [Int.min_eq_left h1]; exact h.got
  · rw [Int.min_eq_right h1]; exact .inr ⟨d, hd, ht.symm⟩

theorem shortest_s {loops : List (Nat × LInfo)} {H : AHeap} {oa fa la : Option Addr} {oc fc lc : Nat} {x : Course} {p : Nat} (hcv : CourseV H (.agg #[.slice oa x.open_.length oc, .int .i64 x.per]) x) (ho : x.ord) (hp : x.per = p) (hp1 : 1 ≤ p) (hn : x.open_.length ≤ 1000) (hn0 : 0 < x.open_.length) (hm : x.made p = true) (hf : Ints H (.slice fa (x.early p 0).length fc) (x.early p 0)) (hl : Ints H (.slice la (x.late p).length lc) (x.late p)) : CallS Try.prog loops 99 [.agg #[.slice oa x.open_.length oc, .int .i64 x.per, .slice fa (x.early p 0).length fc, .slice la (x.late p).length lc]] H fun r H' => (∃ l, r = .int .i64 l ∧ x.Short p l) ∧ H' = H := by
  refine CallS.forget (R := fun v => ∃ l, v = .int .i64 l ∧ x.Short p l) (by rintro v ⟨l, rfl, -⟩; rfl) ?_
  have HCV := Lib.hid hcv
  have HRO : Hid (Rows H (.slice oa x.open_.length oc) x.open_) := Lib.hid (by obtain ⟨w, h1, h2⟩ := hcv; cases h1; exact h2)
  have HF := Lib.hid hf
  have HL := Lib.hid hl
  have hfl := (x.early_fit ho hp1 hm).1
  have hll := (x.late_fit ho hp1 hm).1
  have HFL := Lib.hid hfl
  have HLL := Lib.hid hll
  have HPO := Lib.hid (fun (loops : List (Nat × LInfo)) (H' : AHeap) (hx : Ext H H') => possible_e (loops := loops) (pi := (p : Int)) (k := 0) (HRO.out.ext hx) (HF.out.ext hx) (HL.out.ext hx) hn0 (by omega) (by omega) (by have := ordS_len _ (by omega) (ho 0); omega))
  have HEA := Lib.hid (fun (loops : List (Nat × LInfo)) (H' : AHeap) (d : Int) (hx : Ext H H') => earliest_e (loops := loops) (frm := d) (HCV.out.ext hx) ho hp hp1 hn)
  have HTB : Hid (∀ b, ins (x.poss p 0) b = true → (((x.open_.length - 1) / p : Nat) : Int) ≤ x.took p b ∧ x.took p b ≤ 730 ∧ 0 ≤ b ∧ b ≤ 730 ∧ (x.early p b).length = x.open_.length ∧ x.took p b = (x.early p b).getD (x.open_.length - 1) 0 - b ∧ 0 ≤ (x.early p b).getD (x.open_.length - 1) 0 ∧ (x.early p b).getD (x.open_.length - 1) 0 ≤ 730) := Lib.hid (fun b hb => by
    obtain ⟨h1, h2⟩ := x.took_bound ho hp1 hm hn0 hb
    obtain ⟨h3, h4, h5⟩ := x.took_fit ho hp1 hm hn0 hb
    have h6 := x.op_in ho 0 b (x.poss_iff.1 hb).1
    have h7 := x.fit_in ho h3 (x.open_.length - 1) (by rw [h3.1]; omega)
    exact ⟨h1, h2, h6.1, h6.2, h3.1, rfl, h7.1, h7.2⟩)
  have HPX := Lib.hid (x.poss_ex ho hp1 hm hn0)
  have HPL : Hid (x.poss p 0 = cutS ((x.early p 0).getD 0 0) ((x.late p).getD 0 0) (x.at_ 0)) := Lib.hid rfl
  have HPN : Hid ((x.poss p 0).length ≤ 1000) := Lib.hid (by have h1 := cutS_le ((x.early p 0).getD 0 0) ((x.late p).getD 0 0) (x.at_ 0); have h2 := ordS_len _ (by omega) (ho 0); rw [HPL.out]; omega)
  rw [← HPL.out] at HPO
  rw [hp] at HCV HEA
  rw [hp]
  refine CallS.enter' Try.func99 rfl Try.ntmps99 (by simp) fun f hd hf => ?_
  have f0 := hf 0
  simp at f0
  rw [hfl] at f0 HPO
  rw [hll] at f0 HPO
  clear hf hfl hll ho hp hm hl hcv HRO HF HL HFL HLL
  generalize hsh : x.poss p 0 = PL at HPO HTB HPX HPN
  have HSH := Lib.hid hsh
  clear hsh HPL
  have h1n : (0 : Int) ≤ (x.open_.length : Int) - 1 := by omega
  have hpz : (p : Int) ≠ 0 := by omega
  have hpz2 : p ≠ 0 := by omega
  have h1i : (x.open_.length : Int) - 1 < (x.open_.length : Int) := by omega
  have h2i : (1 : Int) ≤ (x.open_.length : Int) := by omega
  have h5i : (0 : Int) < (x.open_.length : Int) := by omega
  repeat' (first|(with_reducible first|refine zA ?_|refine zB fun K hK=>?_|refine zC fun K2 hK2=>?_|refine zD ?_|refine zE ?_|refine zF ?_|refine zG ?_|refine zH ?_|refine zI ?_|refine zJ ?_|refine zK ?_|refine zL ?_|refine zM ?_|refine zN ?_|refine zO ?_|refine zP ?_|refine zQ ?_|refine zR ?_|refine zS ?_|refine zT ?_)|((with_reducible refine zU (hK _ _ ?_));clear hK K)|((with_reducible refine zV ?_ ?_ fun K1 K3 d hdst h1 h3=>?_);rfl;exact yB rfl;cases hdst;go_simp)|((with_reducible refine zW fun K1 K3 h1 h3=>?_);go_simp)|((first|refine h1 ?_|refine h3 ?_);clear h1 h3 K1 K3)|((first|refine zX (fun hb=>h1 ?_) (fun hb=>h3 ?_)|refine zX (fun hb=>h3 ?_) (fun hb=>h1 ?_))<;>(clear h1 h3 K1 K3;(try have hb2:=yC hb);(try have hb2:=yD hb);(try have hb2:=yE hb);(try have hb2:=yF hb);(try have hb2:=yG hb)))|(refine fun (K2:_→AHeap→Prop) hK2=>?_)|((with_reducible refine zY ?_ ?_);decide)|((with_reducible first|refine zZ ?_ (fun K hK=>?_)|refine yA ?_ (fun K hK=>?_));(focus go_simp;done);go_simp;refine hK _ _ ?_;clear hK K)|((with_reducible refine yH mixed rfl ?_ 20 fun K0 hK0=>?_);kernel_rfl)|(with_reducible first|exact yI|exact yJ|refine yK ?_|refine yL ?_|refine yM ?_)|((with_reducible first|refine yN ?_ ?_|refine yO ?_ ?_|refine yP ?_ ?_);rfl)|((with_reducible refine yQ ?_ ?_);rfl;refine hK0 _ _ ?_;clear hK0 K0)|((with_reducible refine yR ?_ ?_ ?_ ?_);rfl;rfl;rfl)|((with_reducible refine yS ?_ ?_ ?_ fun K2 hK2=>?_);rfl;rfl;exact yB rfl)|((with_reducible refine yT ?_ ?_ ?_ ?_ fun K1 K3 d hdst h1 h3=>?_);rfl;rfl;rfl;exact yB rfl;cases hdst;go_simp)|((with_reducible refine yU ?_ ?_ ?_ ?_ fun K1 K3 d hdst h1 h3=>?_);rfl;rfl;rfl;exact yB rfl;cases hdst;go_simp)|((with_reducible refine yV ?_ ?_ (fun K2 hK2=>?_) ?_);rfl;exact yB rfl)|((with_reducible refine yW ?_ ?_ ?_ ?_ (fun K2 hK2=>?_) ?_);rfl;exact yB rfl;rfl;(focus go_simp;done))|((with_reducible refine yX ?_ ?_ ?_ (fun K2 hK2=>?_) ?_);rfl;rfl;exact yB rfl)|((with_reducible refine yY ?_ ?_ (fun K2 hK2=>?_) ?_);rfl;rfl)|((with_reducible refine yZ ?_ ?_);(first|rfl|(dsimp only;decide +kernel)))|((with_reducible refine xA ?_ ?_);(focus go_simp;done))|(go_simp;(try go_bits);(try first | ((with_reducible show CallS _ _ _ _ _ _);refine CallS.mono (HPO.out _ _ (Ext.push _)) ?_; rintro pv H1 ⟨ho1, hx⟩; (have HPV := Lib.hid (spans_of_own ho1 (by have := HPN.out; omega))); (have HX1 := Lib.hid hx); (obtain ⟨-, pa, pc, rfl⟩ := HPV.out.slice); clear ho1 hx) | ((rw [aPlain_quo (a := (x.open_.length : Int) - 1) (b := (p : Int)) (by go_simp) (by go_simp) ⟨by omega, by omega⟩ (by omega)]); go_simp));(first|(refine hK2 _ _ ?_ ?_<;>clear hK2 K2)|(refine hK2 _ _ ?_;clear hK2 K2))))
  have hpn := HPN.out
  have HBQ : Hid ((((x.open_.length - 1) / p : Nat) : Int) = ((x.open_.length : Int) - 1) / p) := Lib.hid (by rw [Int.natCast_ediv, Int.natCast_sub (by omega)]; rfl)
  generalize ((x.open_.length : Int) - 1) / p = bd at HBQ
  have HXT : Hid (Ext H H1) := Lib.hid ((Ext.push _).trans HX1.out)
  have HC0 : Hid (∀ G : AHeap, Ext H1 G → cellsAt G H.n 0 2 = some [Value.slice oa x.open_.length oc, .int .i64 p] ∧ H.n < G.n) := Lib.hid (fun G hx => ⟨by rw [hx.cellsAt (by have := HX1.out.n; rw [AHeap.n_push] at this; omega), HX1.out.cellsAt (by rw [AHeap.n_push]; omega)]; simp [cellsAt, get_at (H := H) rfl], by have := HX1.out.n; have := hx.n; simp only [AHeap.n_push] at *; omega⟩)
  refine CodeS.loop (fun m f H' => ∃ (k : Nat) (l : Int), k ≤ PL.length ∧ m = PL.length - k ∧ f.tmp 22 = .int .i64 k ∧ f.tmp 21 = .int .i64 PL.length ∧ f.tmp 20 = .slice pa PL.length pc ∧ f.tmp 1 = .pointer (some ⟨H.n, 0, none⟩) ∧ f.tmp 3 = .int .i64 ((x.open_.length : Int) - 1) ∧ f.tmp 4 = .int .i64 bd ∧ f.tmp 5 = .int .i64 l ∧ f.defers = [] ∧ Hid (Ext H1 H') ∧ Hid (LeastG x p PL k l)) PL.length ?_ ?_
  · exact ⟨0, 731, by simp, by simp, (by first|go_simp<;>go_num|assumption), (by first|go_simp<;>go_num|assumption), (by first|go_simp<;>go_num|assumption), (by first|go_simp<;>go_num|assumption), (by first|go_simp<;>go_num|assumption), (by first|go_simp<;>go_num|assumption), (by first|go_simp<;>go_num|assumption), (by first|go_simp<;>go_num|assumption), Lib.hid (Ext.refl _), Lib.hid ⟨fun j hj h => by omega, .inl rfl⟩⟩
  clear f0 hd f HX1
  rintro m f H' ⟨k, l, hk, rfl, f22, f21, f20, f1, f3, f4, f5, hd, HX, HG⟩
  obtain ⟨hc0, hnn⟩ := HC0.out _ HX.out
  by_cases hlt : k < PL.length
  · obtain ⟨b0, o0, sp0, rfl, hb0, hcc⟩ := HPV.out.cells_at hlt
    have hcc2 : cellsAt H' b0 (o0 + k * 2) 2 = some [.int .i64 (PL[k]).1, .int .i64 (PL[k]).2] := by rw [HX.out.cellsAt hb0]; exact hcc
    have hb02 : b0 < H'.n := Nat.lt_of_lt_of_le hb0 HX.out.n
    have HIN : Hid (∀ d, (PL[k]).1 ≤ d → d ≤ (PL[k]).2 → ins PL d = true) := Lib.hid (fun d h1 h2 => by
      rw [ins, List.any_eq_true]
      exact ⟨PL[k], List.getElem_mem hlt, by simp [h1, h2]⟩)
    have HNX : Hid (∀ l', LeastG x p PL k l' → (∀ b, (PL[k]).1 ≤ b → b ≤ (PL[k]).2 → l' ≤ x.took p b) → LeastG x p PL (k + 1) l') := Lib.hid (fun l' h1 h2 => ⟨fun j hj h3 b h4 h5 => by
      rcases Nat.lt_or_ge j k with h6 | h6
      · exact h1.seen j hj h6 b h4 h5
      · have : j = k := by omega
        subst this; exact h2 b h4 h5, h1.got⟩)
    generalize PL[k] = y at hcc2 HIN HNX
    obtain ⟨lo, hi⟩ := y
    simp only at hcc2 HIN HNX
    clear hcc
    repeat' (first|(with_reducible first|refine zA ?_|refine zB fun K hK=>?_|refine zC fun K2 hK2=>?_|refine zD ?_|refine zE ?_|refine zF ?_|refine zG ?_|refine zH ?_|refine zI ?_|refine zJ ?_|refine zK ?_|refine zL ?_|refine zM ?_|refine zN ?_|refine zO ?_|refine zP ?_|refine zQ ?_|refine zR ?_|refine zS ?_|refine zT ?_)|((with_reducible refine zU (hK _ _ ?_));clear hK K)|((with_reducible refine zV ?_ ?_ fun K1 K3 d hdst h1 h3=>?_);rfl;exact yB rfl;cases hdst;go_simp)|((with_reducible refine zW fun K1 K3 h1 h3=>?_);go_simp)|((first|refine h1 ?_|refine h3 ?_);clear h1 h3 K1 K3)|((first|refine zX (fun hb=>h1 ?_) (fun hb=>h3 ?_)|refine zX (fun hb=>h3 ?_) (fun hb=>h1 ?_))<;>(clear h1 h3 K1 K3;(try have hb2:=yC hb);(try have hb2:=yD hb);(try have hb2:=yE hb);(try have hb2:=yF hb);(try have hb2:=yG hb)))|(refine fun (K2:_→AHeap→Prop) hK2=>?_)|((with_reducible refine zY ?_ ?_);decide)|((with_reducible first|refine zZ ?_ (fun K hK=>?_)|refine yA ?_ (fun K hK=>?_));(focus go_simp;done);go_simp;refine hK _ _ ?_;clear hK K)|((with_reducible refine yH mixed rfl ?_ 20 fun K0 hK0=>?_);kernel_rfl)|(with_reducible first|exact yI|exact yJ|refine yK ?_|refine yL ?_|refine yM ?_)|((with_reducible first|refine yN ?_ ?_|refine yO ?_ ?_|refine yP ?_ ?_);rfl)|((with_reducible refine yQ ?_ ?_);rfl;refine hK0 _ _ ?_;clear hK0 K0)|((with_reducible refine yR ?_ ?_ ?_ ?_);rfl;rfl;rfl)|((with_reducible refine yS ?_ ?_ ?_ fun K2 hK2=>?_);rfl;rfl;exact yB rfl)|((with_reducible refine yT ?_ ?_ ?_ ?_ fun K1 K3 d hdst h1 h3=>?_);rfl;rfl;rfl;exact yB rfl;cases hdst;go_simp)|((with_reducible refine yU ?_ ?_ ?_ ?_ fun K1 K3 d hdst h1 h3=>?_);rfl;rfl;rfl;exact yB rfl;cases hdst;go_simp)|((with_reducible refine yV ?_ ?_ (fun K2 hK2=>?_) ?_);rfl;exact yB rfl)|((with_reducible refine yW ?_ ?_ ?_ ?_ (fun K2 hK2=>?_) ?_);rfl;exact yB rfl;rfl;(focus go_simp;done))|((with_reducible refine yX ?_ ?_ ?_ (fun K2 hK2=>?_) ?_);rfl;rfl;exact yB rfl)|((with_reducible refine yY ?_ ?_ (fun K2 hK2=>?_) ?_);rfl;rfl)|((with_reducible refine yZ ?_ ?_);(first|rfl|(dsimp only;decide +kernel)))|((with_reducible refine xA ?_ ?_);(focus go_simp;done))|(go_simp;(try go_bits);(first|(refine hK2 _ _ ?_ ?_<;>clear hK2 K2)|(refine hK2 _ _ ?_;clear hK2 K2))))
    have HXP : Hid (Ext H1 (H'.push (.row [.int .i64 lo, .int .i64 hi] 87))) := Lib.hid (HX.out.push' _)
    refine CodeS.loop (fun m f G => ∃ (d l' : Int), lo ≤ d ∧ (lo ≤ hi → d ≤ hi + 1) ∧ m = (hi + 1 - d).toNat ∧ f.tmp 8 = .int .i64 d ∧ f.tmp 7 = .pointer (some ⟨H'.n, 0, none⟩) ∧ f.tmp 22 = .int .i64 k ∧ f.tmp 21 = .int .i64 PL.length ∧ f.tmp 20 = .slice (some ⟨b0, o0, sp0⟩) PL.length pc ∧ f.tmp 1 = .pointer (some ⟨H.n, 0, none⟩) ∧ f.tmp 3 = .int .i64 ((x.open_.length : Int) - 1) ∧ f.tmp 4 = .int .i64 bd ∧ f.tmp 5 = .int .i64 l' ∧ f.defers = [] ∧ Hid (Ext (H'.push (.row [.int .i64 lo, .int .i64 hi] 87)) G) ∧ Hid (LeastG x p PL k l') ∧ Hid (∀ b, lo ≤ b → b < d → l' ≤ x.took p b)) ((hi + 1 - lo).toNat) ?_ ?_
    · exact ⟨lo, l, Int.le_refl _, fun h => by omega, rfl, (by first|go_simp<;>go_num|assumption), (by first|go_simp<;>go_num|assumption), (by first|go_simp<;>go_num|assumption), (by first|go_simp<;>go_num|assumption), (by first|go_simp<;>go_num|assumption), (by first|go_simp<;>go_num|assumption), (by first|go_simp<;>go_num|assumption), (by first|go_simp<;>go_num|assumption), (by first|go_simp<;>go_num|assumption), (by first|go_simp<;>go_num|assumption), Lib.hid (Ext.refl _), HG, Lib.hid (fun b h1 h2 => by omega)⟩
    clear f22 f21 f20 f1 f3 f4 f5 hd f hc0 hcc2 hb02 HG
    rintro m f G ⟨d, l', hd1, hd2, rfl, f8, f7, f22, f21, f20, f1, f3, f4, f5, hd, HXG, HG, HS⟩
    obtain ⟨hc0, hnn2⟩ := HC0.out _ (HXP.out.trans HXG.out)
    have hcl : cellAt G H'.n 0 = some (.int .i64 lo) := by rw [HXG.out.cellAt (by rw [AHeap.n_push]; omega), cellAt_new]; rfl
    have hch : cellAt G H'.n 1 = some (.int .i64 hi) := by rw [HXG.out.cellAt (by rw [AHeap.n_push]; omega), cellAt_new]; rfl
    have hng : H'.n < G.n := by have := HXG.out.n; rw [AHeap.n_push] at this; omega
    by_cases hdh : d ≤ hi
    · obtain ⟨t1, t2, t3, t4, t5, t6, t7, t8⟩ := HTB.out d (HIN.out d hd1 hdh)
      have HEN := Lib.hid t5
      have HTK := Lib.hid t6
      have HT1 := Lib.hid t1
      have hE := HEA.out
      have HEE := Lib.hid (fun (loops : List (Nat × LInfo)) (H' : AHeap) (hx : Ext H H') => hE loops H' d hx)
      clear hE t5 t6 t1
      generalize x.early p d = E at HEE HEN HTK t7 t8
      generalize hev : E.getD (x.open_.length - 1) 0 = ev at HTK t7 t8
      have HEV := Lib.hid hev
      generalize htk : x.took p d = tk at HTK HT1 t2
      have HTD := Lib.hid htk
      clear hev htk
      repeat' (first|(with_reducible first|refine zA ?_|refine zB fun K hK=>?_|refine zC fun K2 hK2=>?_|refine zD ?_|refine zE ?_|refine zF ?_|refine zG ?_|refine zH ?_|refine zI ?_|refine zJ ?_|refine zK ?_|refine zL ?_|refine zM ?_|refine zN ?_|refine zO ?_|refine zP ?_|refine zQ ?_|refine zR ?_|refine zS ?_|refine zT ?_)|((with_reducible refine zU (hK _ _ ?_));clear hK K)|((with_reducible refine zV ?_ ?_ fun K1 K3 d hdst h1 h3=>?_);rfl;exact yB rfl;cases hdst;go_simp)|((with_reducible refine zW fun K1 K3 h1 h3=>?_);go_simp)|((first|refine h1 ?_|refine h3 ?_);clear h1 h3 K1 K3)|((first|refine zX (fun hb=>h1 ?_) (fun hb=>h3 ?_)|refine zX (fun hb=>h3 ?_) (fun hb=>h1 ?_))<;>(clear h1 h3 K1 K3;(try have hb2:=yC hb);(try have hb2:=yD hb);(try have hb2:=yE hb);(try have hb2:=yF hb);(try have hb2:=yG hb)))|(refine fun (K2:_→AHeap→Prop) hK2=>?_)|((with_reducible refine zY ?_ ?_);decide)|((with_reducible first|refine zZ ?_ (fun K hK=>?_)|refine yA ?_ (fun K hK=>?_));(focus go_simp;done);go_simp;refine hK _ _ ?_;clear hK K)|((with_reducible refine yH mixed rfl ?_ 20 fun K0 hK0=>?_);kernel_rfl)|(with_reducible first|exact yI|exact yJ|refine yK ?_|refine yL ?_|refine yM ?_)|((with_reducible first|refine yN ?_ ?_|refine yO ?_ ?_|refine yP ?_ ?_);rfl)|((with_reducible refine yQ ?_ ?_);rfl;refine hK0 _ _ ?_;clear hK0 K0)|((with_reducible refine yR ?_ ?_ ?_ ?_);rfl;rfl;rfl)|((with_reducible refine yS ?_ ?_ ?_ fun K2 hK2=>?_);rfl;rfl;exact yB rfl)|((with_reducible refine yT ?_ ?_ ?_ ?_ fun K1 K3 d hdst h1 h3=>?_);rfl;rfl;rfl;exact yB rfl;cases hdst;go_simp)|((with_reducible refine yU ?_ ?_ ?_ ?_ fun K1 K3 d hdst h1 h3=>?_);rfl;rfl;rfl;exact yB rfl;cases hdst;go_simp)|((with_reducible refine yV ?_ ?_ (fun K2 hK2=>?_) ?_);rfl;exact yB rfl)|((with_reducible refine yW ?_ ?_ ?_ ?_ (fun K2 hK2=>?_) ?_);rfl;exact yB rfl;rfl;(focus go_simp;done))|((with_reducible refine yX ?_ ?_ ?_ (fun K2 hK2=>?_) ?_);rfl;rfl;exact yB rfl)|((with_reducible refine yY ?_ ?_ (fun K2 hK2=>?_) ?_);rfl;rfl)|((with_reducible refine yZ ?_ ?_);(first|rfl|(dsimp only;decide +kernel)))|((with_reducible refine xA ?_ ?_);(focus go_simp;done))|(go_simp;(try go_bits);(try first | ((with_reducible show CallS _ _ _ _ _ _);refine CallS.mono (HEE.out _ _ (HXT.out.trans (HXP.out.trans HXG.out))) ?_; rintro ev0 H3 ⟨ho3, hx⟩; (have HI3 := Lib.hid (ints_of_own ho3 (by rw [HEN.out]; omega))); (have HX3 := Lib.hid (HXG.out.trans hx)); (obtain ⟨-, ea, ec, rfl⟩ := HI3.out.slice); (obtain ⟨be, oe, se, rfl, hbe, hce⟩ := HI3.out.at_ (k := x.open_.length - 1) (by rw [HEN.out]; omega)); (have hce2 : cellAt H3 be (oe + (x.open_.length - 1)) = some (.int .i64 ev) := by rw [hce, ← HEV.out]; simp [List.getD_eq_getElem?_getD, show x.open_.length - 1 < E.length by rw [HEN.out]; omega]); rw [HEN.out]; (have h3i : ((x.open_.length : Int) - 1).toNat = x.open_.length - 1 := by omega); clear ho3 hx hce));(first|(refine hK2 _ _ ?_ ?_<;>clear hK2 K2)|(refine hK2 _ _ ?_;clear hK2 K2))))
      · obtain ⟨g1, g2⟩ := HG.out.min (HIN.out d hd1 hdh) HTD.out t2
        have hbk : min l' tk = bd := by have h8 := ‹(min l' (ev - d) == bd) = true›; rw [HTK.out]; simpa using h8
        refine ⟨⟨_, rfl, ?_, ?_⟩, (HXT.out.trans HXP.out).trans HX3.out⟩
        · rw [HSH.out, ← hbk]
          rcases g1.got with h1 | h1
          · exact absurd h1 g2
          · exact h1
        · rw [HSH.out, ← HBQ.out]
          exact fun b hb => (HTB.out b hb).1
      · obtain ⟨g1, g2⟩ := HG.out.min (HIN.out d hd1 hdh) HTD.out t2
        refine Post.round_normal ⟨(hi + 1 - (d + 1)).toNat, by omega, d + 1, min l' (ev - d), by omega, by omega, rfl, (by first|go_simp<;>go_num|assumption), (by first|go_simp<;>go_num|assumption), (by first|go_simp<;>go_num|assumption), (by first|go_simp<;>go_num|assumption), (by first|go_simp<;>go_num|assumption), (by first|go_simp<;>go_num|assumption), (by first|go_simp<;>go_num|assumption), (by first|go_simp<;>go_num|assumption), (by first|go_simp<;>go_num|assumption), (by first|go_simp<;>go_num|assumption), Lib.hid HX3.out, Lib.hid (by rw [← HTK.out]; exact g1), Lib.hid fun b h1 h2 => ?_⟩
        have h9 := HTK.out
        by_cases hbd : b = d
        · rw [hbd, HTD.out]; omega
        · have := HS.out b h1 (by omega); omega
    · repeat' (first|(with_reducible first|refine zA ?_|refine zB fun K hK=>?_|refine zC fun K2 hK2=>?_|refine zD ?_|refine zE ?_|refine zF ?_|refine zG ?_|refine zH ?_|refine zI ?_|refine zJ ?_|refine zK ?_|refine zL ?_|refine zM ?_|refine zN ?_|refine zO ?_|refine zP ?_|refine zQ ?_|refine zR ?_|refine zS ?_|refine zT ?_)|((with_reducible refine zU (hK _ _ ?_));clear hK K)|((with_reducible refine zV ?_ ?_ fun K1 K3 d hdst h1 h3=>?_);rfl;exact yB rfl;cases hdst;go_simp)|((with_reducible refine zW fun K1 K3 h1 h3=>?_);go_simp)|((first|refine h1 ?_|refine h3 ?_);clear h1 h3 K1 K3)|((first|refine zX (fun hb=>h1 ?_) (fun hb=>h3 ?_)|refine zX (fun hb=>h3 ?_) (fun hb=>h1 ?_))<;>(clear h1 h3 K1 K3;(try have hb2:=yC hb);(try have hb2:=yD hb);(try have hb2:=yE hb);(try have hb2:=yF hb);(try have hb2:=yG hb)))|(refine fun (K2:_→AHeap→Prop) hK2=>?_)|((with_reducible refine zY ?_ ?_);decide)|((with_reducible first|refine zZ ?_ (fun K hK=>?_)|refine yA ?_ (fun K hK=>?_));(focus go_simp;done);go_simp;refine hK _ _ ?_;clear hK K)|((with_reducible refine yH mixed rfl ?_ 20 fun K0 hK0=>?_);kernel_rfl)|(with_reducible first|exact yI|exact yJ|refine yK ?_|refine yL ?_|refine yM ?_)|((with_reducible first|refine yN ?_ ?_|refine yO ?_ ?_|refine yP ?_ ?_);rfl)|((with_reducible refine yQ ?_ ?_);rfl;refine hK0 _ _ ?_;clear hK0 K0)|((with_reducible refine yR ?_ ?_ ?_ ?_);rfl;rfl;rfl)|((with_reducible refine yS ?_ ?_ ?_ fun K2 hK2=>?_);rfl;rfl;exact yB rfl)|((with_reducible refine yT ?_ ?_ ?_ ?_ fun K1 K3 d hdst h1 h3=>?_);rfl;rfl;rfl;exact yB rfl;cases hdst;go_simp)|((with_reducible refine yU ?_ ?_ ?_ ?_ fun K1 K3 d hdst h1 h3=>?_);rfl;rfl;rfl;exact yB rfl;cases hdst;go_simp)|((with_reducible refine yV ?_ ?_ (fun K2 hK2=>?_) ?_);rfl;exact yB rfl)|((with_reducible refine yW ?_ ?_ ?_ ?_ (fun K2 hK2=>?_) ?_);rfl;exact yB rfl;rfl;(focus go_simp;done))|((with_reducible refine yX ?_ ?_ ?_ (fun K2 hK2=>?_) ?_);rfl;rfl;exact yB rfl)|((with_reducible refine yY ?_ ?_ (fun K2 hK2=>?_) ?_);rfl;rfl)|((with_reducible refine yZ ?_ ?_);(first|rfl|(dsimp only;decide +kernel)))|((with_reducible refine xA ?_ ?_);(focus go_simp;done))|(go_simp;(try go_bits);(first|(refine hK2 _ _ ?_ ?_<;>clear hK2 K2)|(refine hK2 _ _ ?_;clear hK2 K2))))
      refine Post.round_normal ⟨PL.length - (k + 1), by omega, k + 1, l', by omega, rfl, (by first|go_simp<;>go_num|assumption), (by first|go_simp<;>go_num|assumption), (by first|go_simp<;>go_num|assumption), (by first|go_simp<;>go_num|assumption), (by first|go_simp<;>go_num|assumption), (by first|go_simp<;>go_num|assumption), (by first|go_simp<;>go_num|assumption), (by first|go_simp<;>go_num|assumption), Lib.hid ((HX.out.push' _).trans HXG.out), Lib.hid (HNX.out l' HG.out fun b h1 h2 => HS.out b h1 (by omega))⟩
  · repeat' (first|(with_reducible first|refine zA ?_|refine zB fun K hK=>?_|refine zC fun K2 hK2=>?_|refine zD ?_|refine zE ?_|refine zF ?_|refine zG ?_|refine zH ?_|refine zI ?_|refine zJ ?_|refine zK ?_|refine zL ?_|refine zM ?_|refine zN ?_|refine zO ?_|refine zP ?_|refine zQ ?_|refine zR ?_|refine zS ?_|refine zT ?_)|((with_reducible refine zU (hK _ _ ?_));clear hK K)|((with_reducible refine zV ?_ ?_ fun K1 K3 d hdst h1 h3=>?_);rfl;exact yB rfl;cases hdst;go_simp)|((with_reducible refine zW fun K1 K3 h1 h3=>?_);go_simp)|((first|refine h1 ?_|refine h3 ?_);clear h1 h3 K1 K3)|((first|refine zX (fun hb=>h1 ?_) (fun hb=>h3 ?_)|refine zX (fun hb=>h3 ?_) (fun hb=>h1 ?_))<;>(clear h1 h3 K1 K3;(try have hb2:=yC hb);(try have hb2:=yD hb);(try have hb2:=yE hb);(try have hb2:=yF hb);(try have hb2:=yG hb)))|(refine fun (K2:_→AHeap→Prop) hK2=>?_)|((with_reducible refine zY ?_ ?_);decide)|((with_reducible first|refine zZ ?_ (fun K hK=>?_)|refine yA ?_ (fun K hK=>?_));(focus go_simp;done);go_simp;refine hK _ _ ?_;clear hK K)|((with_reducible refine yH mixed rfl ?_ 20 fun K0 hK0=>?_);kernel_rfl)|(with_reducible first|exact yI|exact yJ|refine yK ?_|refine yL ?_|refine yM ?_)|((with_reducible first|refine yN ?_ ?_|refine yO ?_ ?_|refine yP ?_ ?_);rfl)|((with_reducible refine yQ ?_ ?_);rfl;refine hK0 _ _ ?_;clear hK0 K0)|((with_reducible refine yR ?_ ?_ ?_ ?_);rfl;rfl;rfl)|((with_reducible refine yS ?_ ?_ ?_ fun K2 hK2=>?_);rfl;rfl;exact yB rfl)|((with_reducible refine yT ?_ ?_ ?_ ?_ fun K1 K3 d hdst h1 h3=>?_);rfl;rfl;rfl;exact yB rfl;cases hdst;go_simp)|((with_reducible refine yU ?_ ?_ ?_ ?_ fun K1 K3 d hdst h1 h3=>?_);rfl;rfl;rfl;exact yB rfl;cases hdst;go_simp)|((with_reducible refine yV ?_ ?_ (fun K2 hK2=>?_) ?_);rfl;exact yB rfl)|((with_reducible refine yW ?_ ?_ ?_ ?_ (fun K2 hK2=>?_) ?_);rfl;exact yB rfl;rfl;(focus go_simp;done))|((with_reducible refine yX ?_ ?_ ?_ (fun K2 hK2=>?_) ?_);rfl;rfl;exact yB rfl)|((with_reducible refine yY ?_ ?_ (fun K2 hK2=>?_) ?_);rfl;rfl)|((with_reducible refine yZ ?_ ?_);(first|rfl|(dsimp only;decide +kernel)))|((with_reducible refine xA ?_ ?_);(focus go_simp;done))|(go_simp;(try go_bits);(first|(refine hK2 _ _ ?_ ?_<;>clear hK2 K2)|(refine hK2 _ _ ?_;clear hK2 K2))))
    have hke : k = PL.length := by omega
    subst hke
    refine ⟨⟨_, rfl, ?_, ?_⟩, HXT.out.trans HX.out⟩
    · rw [HSH.out]
      rcases HG.out.got with h1 | h1
      · have h2 := HG.out.all _ HPX.out
        have h3 := (HTB.out _ HPX.out).2.1
        omega
      · exact h1
    · rw [HSH.out]; exact HG.out.all
end Go.Proofs.Try
namespace Go.Proofs.Try
open Go Go.Am Go.RowKit Go.Co
set_option maxRecDepth 100000

def LongOk (s : Sheet) (c : Copy) (lo hi : Int) : Prop := if c.words.length = 1 then lo = 0 ∧ hi = 0 else (courseOf s c).Short c.per.toNat lo ∧ hi = (lastL s c).getD (c.words.length - 1) 0 - (firstL s c).getD 0 0

theorem long_s {loops : List (Nat × LInfo)} {H : AHeap} {sv cv : Value} {s : Sheet} {c : Copy} (hs : SheetV H sv s) (hc : CopyV H cv c) : CallS Try.prog loops 55 [sv, cv] H fun r H' => (∃ lo hi, r = .tuple #[.agg #[.int .i64 lo, .int .i64 hi], .int .i64 (errExt s c)] ∧ (errExt s c = 0 → LongOk s c lo hi)) ∧ H' = H := by
  refine CallS.forget (R := fun v => ∃ lo hi, v = .tuple #[.agg #[.int .i64 lo, .int .i64 hi], .int .i64 (errExt s c)] ∧ (errExt s c = 0 → LongOk s c lo hi)) (by rintro v ⟨lo, hi, rfl, -⟩; rfl) ?_
  have HS := Lib.hid hs
  have HC := Lib.hid hc
  obtain ⟨wv, av, rfl, hw, ha⟩ := hs
  obtain ⟨hwl, wa, wc, rfl⟩ := hw.slice
  obtain ⟨hal, aa, ac, rfl⟩ := ha.slice
  obtain ⟨cv, rfl, hcw⟩ := hc
  obtain ⟨hcl, ca, cc, rfl⟩ := hcw.slice
  clear hw ha hcw
  have HEX := Lib.hid (fun (loops : List (Nat × LInfo)) (H' : AHeap) (hx : Ext H H') => extentOf_e (loops := loops) (HS.out.ext hx) (HC.out.ext hx))
  refine CallS.enter' Try.func55 rfl Try.ntmps55 (by simp) fun f hd hf => ?_
  have f0 := hf 0
  have f1 := hf 1
  simp at f0 f1
  clear hf
  have HX1 : Hid (Ext H (((H.push (.row [Value.slice wa s.words.length wc, Value.slice aa s.alts.length ac] 25)).push (.row [Value.slice ca c.words.length cc, .int .i64 c.beg, .int .i64 c.fin, .int .i64 c.per] 27)).push (.row [.int .i64 0, .int .i64 0] 87))) := Lib.hid (((Ext.refl _).push' _).push' _ |>.push' _)
  by_cases hex : errExt s c = 0
  · obtain ⟨h0, hm⟩ := errExt_ok hex
    have k := known h0
    obtain ⟨-, -, -, -, -, -, hper1, -⟩ := errCopy_ok h0
    have hper : (courseOf s c).per = c.per.toNat := by simp [courseOf]; omega
    have hfe : firstL s c = (courseOf s c).early c.per.toNat 0 := by rw [firstL, if_pos hex]
    have hle : lastL s c = (courseOf s c).late c.per.toNat := by rw [lastL, if_pos hex]
    have HLO : Hid (∀ lo hi, LongOk s c lo hi = if c.words.length = 1 then lo = 0 ∧ hi = 0 else (courseOf s c).Short c.per.toNat lo ∧ hi = (lastL s c).getD (c.words.length - 1) 0 - (firstL s c).getD 0 0) := Lib.hid fun _ _ => rfl
    rw [hfe, hle] at HEX HLO
    rw [hex] at HEX ⊢
    have hn1 := k.n1
    have hn40 := k.n40
    have hfl := ((courseOf s c).early_fit k.ord k.p1 hm).1
    have hll := ((courseOf s c).late_fit k.ord k.p1 hm).1
    have hfi := (courseOf s c).fit_in k.ord ((courseOf s c).early_fit k.ord k.p1 hm) 0 (by rw [hfl, k.len]; omega)
    have hli := (courseOf s c).fit_in k.ord ((courseOf s c).late_fit k.ord k.p1 hm) (c.words.length - 1) (by rw [hll, k.len]; omega)
    have hlen := k.len
    have HSH := Lib.hid (fun (loops : List (Nat × LInfo)) (H : AHeap) (oa fa la : Option Addr) (oc fc lc : Nat) => shortest_s (loops := loops) (H := H) (oa := oa) (fa := fa) (la := la) (oc := oc) (fc := fc) (lc := lc) (x := courseOf s c) (p := c.per.toNat))
    have HOR := Lib.hid k.ord
    have hp1 := k.p1
    clear k hfe hle h0 hper1
    generalize hLK : LongOk s c = LK at HLO ⊢
    clear hLK
    generalize courseOf s c = x at HEX HLO HOR hfl hll hm hfi hli hlen HSH hper
    generalize c.per.toNat = p at HEX HLO hfl hll hm hfi hli HSH hper hp1
    have HPE := Lib.hid hper
    have HM := Lib.hid hm
    have HFL := Lib.hid hfl
    have HLL := Lib.hid hll
    have HLEN := Lib.hid hlen
    have h0i : (0 : Int) ≤ (c.words.length : Int) - 1 := by omega
    have h1i : (c.words.length : Int) - 1 < ((x.late p).length : Int) := by omega
    have h2i : (1 : Int) ≤ (c.words.length : Int) := by omega
    have h3i : ((c.words.length : Int) - 1).toNat = c.words.length - 1 := by omega
    have h4i : 0 < (x.early p 0).length := by omega
    have h5i : (0 : Int) < ((x.early p 0).length : Int) := by omega
    obtain ⟨g1, g2⟩ := hfi
    obtain ⟨g3, g4⟩ := hli
    generalize hy1 : (x.early p 0).getD 0 0 = y1 at g1 g2 HLO
    generalize hy2 : (x.late p).getD (c.words.length - 1) 0 = y2 at g3 g4 HLO
    have hwr : IntKind.i64.wrap (y2 - y1) = y2 - y1 := by rw [IntKind.wrap_i64]; omega
    have HY1 := Lib.hid hy1
    have HY2 := Lib.hid hy2
    clear hper hm hfl hll hlen hy1 hy2
    repeat' (first|(with_reducible first|refine zA ?_|refine zB fun K hK=>?_|refine zC fun K2 hK2=>?_|refine zD ?_|refine zE ?_|refine zF ?_|refine zG ?_|refine zH ?_|refine zI ?_|refine zM ?_|refine zN ?_|refine zO ?_|refine zP ?_|refine zQ ?_|refine zR ?_)|((with_reducible refine zU (hK _ _ ?_));clear hK K)|((with_reducible refine zV ?_ ?_ fun K1 K3 d hdst h1 h3=>?_);rfl;exact yB rfl;cases hdst;go_simp)|((with_reducible refine zW fun K1 K3 h1 h3=>?_);go_simp)|((first|refine h1 ?_|refine h3 ?_);clear h1 h3 K1 K3)|((first|refine zX (fun hb=>h1 ?_) (fun hb=>h3 ?_)|refine zX (fun hb=>h3 ?_) (fun hb=>h1 ?_))<;>(clear h1 h3 K1 K3;(try have hb2:=yC hb);(try have hb2:=yD hb);(try have hb2:=yE hb);(try have hb2:=yF hb);(try have hb2:=yG hb)))|(refine fun (K2:_→AHeap→Prop) hK2=>?_)|((with_reducible refine zY ?_ ?_);decide)|((with_reducible first|refine zZ ?_ (fun K hK=>?_)|refine yA ?_ (fun K hK=>?_));(focus go_simp;done);go_simp;refine hK _ _ ?_;clear hK K)|((with_reducible refine yH mixed rfl ?_ 20 fun K0 hK0=>?_);kernel_rfl)|(with_reducible first|exact yI|exact yJ|refine yK ?_|refine yL ?_|refine yM ?_)|((with_reducible first|refine yN ?_ ?_|refine yO ?_ ?_|refine yP ?_ ?_);rfl)|((with_reducible refine yQ ?_ ?_);rfl;refine hK0 _ _ ?_;clear hK0 K0)|((with_reducible refine yR ?_ ?_ ?_ ?_);rfl;rfl;rfl)|((with_reducible refine yS ?_ ?_ ?_ fun K2 hK2=>?_);rfl;rfl;exact yB rfl)|((with_reducible refine yT ?_ ?_ ?_ ?_ fun K1 K3 d hdst h1 h3=>?_);rfl;rfl;rfl;exact yB rfl;cases hdst;go_simp)|((with_reducible refine yU ?_ ?_ ?_ ?_ fun K1 K3 d hdst h1 h3=>?_);rfl;rfl;rfl;exact yB rfl;cases hdst;go_simp)|((with_reducible refine yV ?_ ?_ (fun K2 hK2=>?_) ?_);rfl;exact yB rfl)|((with_reducible refine yW ?_ ?_ ?_ ?_ (fun K2 hK2=>?_) ?_);rfl;exact yB rfl;rfl;(focus go_simp;done))|((with_reducible refine yX ?_ ?_ ?_ (fun K2 hK2=>?_) ?_);rfl;rfl;exact yB rfl)|((with_reducible refine yY ?_ ?_ (fun K2 hK2=>?_) ?_);rfl;rfl)|((with_reducible refine yZ ?_ ?_);(first|rfl|(dsimp only;decide +kernel)))|((with_reducible refine xA ?_ ?_);(focus go_simp;done))|(go_simp;(try go_bits);(try first |((with_reducible show CallS _ _ _ _ _ _);first|(refine CallS.mono (HEX.out _ _ HX1.out) ?_; rintro _ H1 ⟨⟨oa, on, oc, pi, fv, lv, rfl, hf1, hl1, hcv⟩, hx⟩; (have HF := Lib.hid hf1); (have HL := Lib.hid hl1); (have hcv2 := hcv rfl); (have HX2 := Lib.hid (HX1.out.trans hx)); (obtain ⟨ov, he9, hrows⟩ := hcv2); (obtain ⟨hol, oa', oc', rfl⟩ := hrows.slice); (cases he9); (have HCV := Lib.hid (hcv rfl)); (obtain ⟨-, fa, fc, rfl⟩ := hf1.slice); (obtain ⟨-, la, lc, rfl⟩ := hl1.slice); (obtain ⟨ba, oa9, sa, rfl, hba, hca⟩ := HF.out.at_ h4i); (obtain ⟨bl, ol, sl, rfl, hbl, hcl9⟩ := HL.out.at_ (k := c.words.length - 1) (by omega)); (have hya : cellAt H1 ba oa9 = some (.int .i64 y1) := by have h8 := HY1.out; rw [List.getD_eq_getElem?_getD, List.getElem?_eq_getElem h4i] at h8; rw [← h8]; simpa using hca); (have hyl : cellAt H1 bl (ol + (c.words.length - 1)) = some (.int .i64 y2) := by have h8 := HY2.out; rw [List.getD_eq_getElem?_getD, List.getElem?_eq_getElem (by omega)] at h8; rw [← h8]; exact hcl9); (have hcc1 : cellAt H1 (H.n + 1) 0 = some (Value.slice ca c.words.length cc) := by rw [hx.cellAt (by simp only [AHeap.n_push]; omega), cellAt_old (by simp only [AHeap.n_push]; omega), ← AHeap.n_push H, cellAt_new]; rfl); (have hgr : H1.get (H.n + 1 + 1) = .row [.int .i64 0, .int .i64 0] 87 := (hx.get _ (by simp only [AHeap.n_push]; omega)).trans (get_at (by simp only [AHeap.n_push]))); (have hn1' : H.n + 3 ≤ H1.n := by have := hx.n; simp only [AHeap.n_push] at this; omega); (have hlt4 : H.n + 1 + 1 < H1.n := by omega); (have hgp : ∀ o : AObj, (H1.push o).get (H.n + 1 + 1) = .row [.int .i64 0, .int .i64 0] 87 := fun o => (AHeap.get_push_old hlt4).trans hgr); (have hltp : H.n + 1 + 1 < H1.n + 1 := by omega); (have hlt3 : H.n + 1 < H1.n := by omega); clear hx hcv hrows hf1 hl1 hca hcl9)|(refine CallS.mono (HSH.out _ _ _ _ _ _ _ _ (HCV.out.ext (Ext.push _)) HOR.out HPE.out hp1 (by rw [HLEN.out]; omega) (by rw [HLEN.out]; omega) HM.out (HF.out.ext (Ext.push _)) (HL.out.ext (Ext.push _))) ?_; rintro _ _ ⟨⟨l9, rfl, hsh⟩, h9⟩; rw [h9]; clear h9)));(first|(refine hK2 _ _ ?_ ?_<;>clear hK2 K2)|(refine hK2 _ _ ?_;clear hK2 K2))))
    · refine ⟨⟨_, _, rfl, fun _ => ?_⟩, (HX2.out.upd (by omega) _).push' _⟩
      have h8 : (c.words.length : Int) - 1 = 0 := by simpa using ‹((c.words.length : Int) - 1 == 0) = true›
      rw [HLO.out, if_pos (by omega)]; exact ⟨rfl, rfl⟩
    · refine ⟨⟨_, _, rfl, fun _ => ?_⟩, (HX2.out.upd (by omega) _).push' _⟩
      have h8 : ¬ (c.words.length : Int) - 1 = 0 := by simpa using ‹((c.words.length : Int) - 1 == 0) = false›
      rw [HLO.out, if_neg (by omega)]; exact ⟨hsh, rfl⟩
  · have hexb : (errExt s c != 0) = true := by simpa using hex
    repeat' (first|(with_reducible first|refine zA ?_|refine zB fun K hK=>?_|refine zC fun K2 hK2=>?_|refine zD ?_|refine zE ?_|refine zF ?_|refine zG ?_|refine zH ?_|refine zI ?_|refine zM ?_|refine zN ?_|refine zO ?_|refine zP ?_|refine zQ ?_|refine zR ?_)|((with_reducible refine zU (hK _ _ ?_));clear hK K)|((with_reducible refine zV ?_ ?_ fun K1 K3 d hdst h1 h3=>?_);rfl;exact yB rfl;cases hdst;go_simp)|((with_reducible refine zW fun K1 K3 h1 h3=>?_);go_simp)|((first|refine h1 ?_|refine h3 ?_);clear h1 h3 K1 K3)|((first|refine zX (fun hb=>h1 ?_) (fun hb=>h3 ?_)|refine zX (fun hb=>h3 ?_) (fun hb=>h1 ?_))<;>(clear h1 h3 K1 K3;(try have hb2:=yC hb);(try have hb2:=yD hb);(try have hb2:=yE hb);(try have hb2:=yF hb);(try have hb2:=yG hb)))|(refine fun (K2:_→AHeap→Prop) hK2=>?_)|((with_reducible refine zY ?_ ?_);decide)|((with_reducible first|refine zZ ?_ (fun K hK=>?_)|refine yA ?_ (fun K hK=>?_));(focus go_simp;done);go_simp;refine hK _ _ ?_;clear hK K)|((with_reducible refine yH mixed rfl ?_ 20 fun K0 hK0=>?_);kernel_rfl)|(with_reducible first|exact yI|exact yJ|refine yK ?_|refine yL ?_|refine yM ?_)|((with_reducible first|refine yN ?_ ?_|refine yO ?_ ?_|refine yP ?_ ?_);rfl)|((with_reducible refine yQ ?_ ?_);rfl;refine hK0 _ _ ?_;clear hK0 K0)|((with_reducible refine yR ?_ ?_ ?_ ?_);rfl;rfl;rfl)|((with_reducible refine yS ?_ ?_ ?_ fun K2 hK2=>?_);rfl;rfl;exact yB rfl)|((with_reducible refine yT ?_ ?_ ?_ ?_ fun K1 K3 d hdst h1 h3=>?_);rfl;rfl;rfl;exact yB rfl;cases hdst;go_simp)|((with_reducible refine yU ?_ ?_ ?_ ?_ fun K1 K3 d hdst h1 h3=>?_);rfl;rfl;rfl;exact yB rfl;cases hdst;go_simp)|((with_reducible refine yV ?_ ?_ (fun K2 hK2=>?_) ?_);rfl;exact yB rfl)|((with_reducible refine yW ?_ ?_ ?_ ?_ (fun K2 hK2=>?_) ?_);rfl;exact yB rfl;rfl;(focus go_simp;done))|((with_reducible refine yX ?_ ?_ ?_ (fun K2 hK2=>?_) ?_);rfl;rfl;exact yB rfl)|((with_reducible refine yY ?_ ?_ (fun K2 hK2=>?_) ?_);rfl;rfl)|((with_reducible refine yZ ?_ ?_);(first|rfl|(dsimp only;decide +kernel)))|((with_reducible refine xA ?_ ?_);(focus go_simp;done))|(go_simp;(try go_bits);(try first | ((with_reducible show CallS _ _ _ _ _ _);refine CallS.mono (HEX.out _ _ HX1.out) ?_; rintro _ H1 ⟨⟨oa, on, oc, pi, fv, lv, rfl, hf1, hl1, -⟩, hx⟩; (have HX2 := Lib.hid (HX1.out.trans hx)); (obtain ⟨-, fa, fc, rfl⟩ := hf1.slice); (obtain ⟨-, la, lc, rfl⟩ := hl1.slice); (have hgr : H1.get (H.n + 1 + 1) = .row [.int .i64 0, .int .i64 0] 87 := (hx.get _ (by simp only [AHeap.n_push]; omega)).trans (get_at (by simp only [AHeap.n_push]))); (have hn1' : H.n + 3 ≤ H1.n := by have := hx.n; simp only [AHeap.n_push] at this; omega); (have hlt4 : H.n + 1 + 1 < H1.n := by omega); (have hgp : ∀ o : AObj, (H1.push o).get (H.n + 1 + 1) = .row [.int .i64 0, .int .i64 0] 87 := fun o => (AHeap.get_push_old hlt4).trans hgr); (have hltp : H.n + 1 + 1 < H1.n + 1 := by omega); clear hf1 hl1 hx));(first|(refine hK2 _ _ ?_ ?_<;>clear hK2 K2)|(refine hK2 _ _ ?_;clear hK2 K2))))
    refine ⟨⟨_, _, rfl, fun h => absurd h hex⟩, ?_⟩
    exact (HX2.out.upd (by omega) _).push' _
end Go.Proofs.Try
namespace Go.Proofs.Try
open Go Go.Am Go.RowKit Go.Co
set_option maxRecDepth 100000

def errPoss (s : Sheet) (c : Copy) (n : Int) : Int := if errCopy s c ≠ 0 then errCopy s c else if errLine s n ≠ 0 then errLine s n else errExt s c
def possL (s : Sheet) (c : Copy) (n : Int) : List (Int × Int) := if errPoss s c n = 0 then (courseOf s c).poss c.per.toNat n.toNat else []
theorem spans_nil (G : AHeap) : Spans G (.slice none 0 0) [] := ⟨rfl, by simp, none, 0, rfl, fun h => by cases h⟩

theorem possible_f {loops : List (Nat × LInfo)} {H : AHeap} {sv cv : Value} {s : Sheet} {c : Copy} {n : Int} (hs : SheetV H sv s) (hc : CopyV H cv c) : CallS Try.prog loops 54 [sv, cv, .int .i64 n] H fun r H' => (∃ pv, r = .tuple #[pv, .int .i64 (errPoss s c n)] ∧ Spans H' pv (possL s c n)) ∧ Ext H H' := by
  have HS := Lib.hid hs
  have HC := Lib.hid hc
  obtain ⟨wv, av, rfl, hw, ha⟩ := hs
  obtain ⟨hwl, wa, wc, rfl⟩ := hw.slice
  obtain ⟨hal, aa, ac, rfl⟩ := ha.slice
  obtain ⟨cv, rfl, hcw⟩ := hc
  obtain ⟨hcl, ca, cc, rfl⟩ := hcw.slice
  clear hw ha hcw
  have HCC := Lib.hid (fun (loops : List (Nat × LInfo)) (H' : AHeap) (hx : Ext H H') => checkCopy_s (loops := loops) (HS.out.ext hx) (HC.out.ext hx))
  have HCL := Lib.hid (fun (loops : List (Nat × LInfo)) (H' : AHeap) (hx : Ext H H') => checkLine_s (loops := loops) (n := n) (HS.out.ext hx))
  have HEX := Lib.hid (fun (loops : List (Nat × LInfo)) (H' : AHeap) (hx : Ext H H') => extentOf_e (loops := loops) (HS.out.ext hx) (HC.out.ext hx))
  have hcase : ((errCopy s c != 0) = true ∧ errPoss s c n = errCopy s c ∧ possL s c n = []) ∨ (errCopy s c = 0 ∧ (errLine s n != 0) = true ∧ errPoss s c n = errLine s n ∧ possL s c n = []) ∨ (errCopy s c = 0 ∧ errLine s n = 0 ∧ (errExt s c != 0) = true ∧ errPoss s c n = errExt s c ∧ possL s c n = []) ∨ (errCopy s c = 0 ∧ errLine s n = 0 ∧ errExt s c = 0 ∧ errPoss s c n = 0 ∧ ∃ k : Nat, n = k ∧ k < (courseOf s c).open_.length ∧ possL s c n = cutS ((firstL s c).getD k 0) ((lastL s c).getD k 0) ((courseOf s c).at_ k) ∧ k < (firstL s c).length ∧ k < (lastL s c).length ∧ ((courseOf s c).at_ k).length ≤ 1000) := by
    by_cases h1 : errCopy s c = 0
    · by_cases h2 : errLine s n = 0
      · by_cases h3 : errExt s c = 0
        · have h4 : errPoss s c n = 0 := by rw [errPoss, if_neg (by simp [h1]), if_neg (by simp [h2]), h3]
          refine .inr (.inr (.inr ⟨h1, h2, h3, h4, n.toNat, ?_⟩))
          obtain ⟨-, hl0, hl1⟩ := errLine_ok h2
          have k := known h1
          have hm := (errExt_ok h3).2
          have hw := (errCopy_ok h1).2.1
          have hkl : n.toNat < (courseOf s c).open_.length := by rw [k.len]; omega
          have hf : firstL s c = (courseOf s c).early c.per.toNat 0 := by rw [firstL, if_pos h3]
          have hl : lastL s c = (courseOf s c).late c.per.toNat := by rw [lastL, if_pos h3]
          refine ⟨by omega, hkl, ?_, ?_, ?_, ?_⟩
          · rw [possL, if_pos h4, hf, hl]; rfl
          · rw [hf, ((courseOf s c).early_fit k.ord k.p1 hm).1]; exact hkl
          · rw [hl, ((courseOf s c).late_fit k.ord k.p1 hm).1]; exact hkl
          · have := ordS_len _ (by omega) (k.ord n.toNat); omega
        · have h4 : errPoss s c n = errExt s c := by rw [errPoss, if_neg (by simp [h1]), if_neg (by simp [h2])]
          exact .inr (.inr (.inl ⟨h1, h2, by simpa using h3, h4, by rw [possL, h4, if_neg h3]⟩))
      · have h4 : errPoss s c n = errLine s n := by rw [errPoss, if_neg (by simp [h1]), if_pos h2]
        exact .inr (.inl ⟨h1, by simpa using h2, h4, by rw [possL, h4, if_neg h2]⟩)
    · have h4 : errPoss s c n = errCopy s c := by rw [errPoss, if_pos h1]
      exact .inl ⟨by simpa using h1, h4, by rw [possL, h4, if_neg h1]⟩
  generalize errPoss s c n = ep at hcase ⊢
  generalize possL s c n = PL at hcase ⊢
  generalize errCopy s c = ec at hcase HCC
  generalize errLine s n = el at hcase HCL
  generalize errExt s c = ex at hcase HEX
  generalize firstL s c = L1 at hcase HEX
  generalize lastL s c = L2 at hcase HEX
  generalize courseOf s c = x at hcase HEX
  refine CallS.enter' Try.func54 rfl Try.ntmps54 (by simp) fun f hd hf => ?_
  have f0 := hf 0
  have f1 := hf 1
  have f2 := hf 2
  simp at f0 f1 f2
  clear hf
  have HX1 : Hid (Ext H ((H.push (.row [Value.slice wa s.words.length wc, Value.slice aa s.alts.length ac] 25)).push (.row [Value.slice ca c.words.length cc, .int .i64 c.beg, .int .i64 c.fin, .int .i64 c.per] 27))) := Lib.hid (((Ext.refl _).push' _).push' _)
  rcases hcase with ⟨hec, rfl, rfl⟩ | ⟨rfl, hel, rfl, rfl⟩ | ⟨rfl, rfl, hex, rfl, rfl⟩ | ⟨rfl, rfl, rfl, rfl, k, rfl, hk, hPL, hk1, hk2, hle⟩
  · repeat' (first|(with_reducible first|refine zA ?_|refine zB fun K hK=>?_|refine zC fun K2 hK2=>?_|refine zD ?_|refine zE ?_|refine zF ?_|refine zG ?_|refine zH ?_|refine zI ?_|refine zM ?_|refine zN ?_|refine zO ?_|refine zP ?_|refine zQ ?_|refine zR ?_)|((with_reducible refine zU (hK _ _ ?_));clear hK K)|((with_reducible refine zV ?_ ?_ fun K1 K3 d hdst h1 h3=>?_);rfl;exact yB rfl;cases hdst;go_simp)|((with_reducible refine zW fun K1 K3 h1 h3=>?_);go_simp)|((first|refine h1 ?_|refine h3 ?_);clear h1 h3 K1 K3)|((first|refine zX (fun hb=>h1 ?_) (fun hb=>h3 ?_)|refine zX (fun hb=>h3 ?_) (fun hb=>h1 ?_))<;>(clear h1 h3 K1 K3;(try have hb2:=yC hb);(try have hb2:=yD hb);(try have hb2:=yE hb);(try have hb2:=yF hb);(try have hb2:=yG hb)))|(refine fun (K2:_→AHeap→Prop) hK2=>?_)|((with_reducible refine zY ?_ ?_);decide)|((with_reducible first|refine zZ ?_ (fun K hK=>?_)|refine yA ?_ (fun K hK=>?_));(focus go_simp;done);go_simp;refine hK _ _ ?_;clear hK K)|(go_simp;(try go_bits);(try first | ((with_reducible show CallS _ _ _ _ _ _);refine CallS.mono (HCC.out _ _ HX1.out) ?_; rintro _ _ ⟨rfl, h9⟩; rw [h9]; clear h9));refine hK2 _ _ ?_;clear hK2 K2))
    exact ⟨⟨_, rfl, spans_nil _⟩, HX1.out⟩
  · repeat' (first|(with_reducible first|refine zA ?_|refine zB fun K hK=>?_|refine zC fun K2 hK2=>?_|refine zD ?_|refine zE ?_|refine zF ?_|refine zG ?_|refine zH ?_|refine zI ?_|refine zM ?_|refine zN ?_|refine zO ?_|refine zP ?_|refine zQ ?_|refine zR ?_)|((with_reducible refine zU (hK _ _ ?_));clear hK K)|((with_reducible refine zV ?_ ?_ fun K1 K3 d hdst h1 h3=>?_);rfl;exact yB rfl;cases hdst;go_simp)|((with_reducible refine zW fun K1 K3 h1 h3=>?_);go_simp)|((first|refine h1 ?_|refine h3 ?_);clear h1 h3 K1 K3)|((first|refine zX (fun hb=>h1 ?_) (fun hb=>h3 ?_)|refine zX (fun hb=>h3 ?_) (fun hb=>h1 ?_))<;>(clear h1 h3 K1 K3;(try have hb2:=yC hb);(try have hb2:=yD hb);(try have hb2:=yE hb);(try have hb2:=yF hb);(try have hb2:=yG hb)))|(refine fun (K2:_→AHeap→Prop) hK2=>?_)|((with_reducible refine zY ?_ ?_);decide)|((with_reducible first|refine zZ ?_ (fun K hK=>?_)|refine yA ?_ (fun K hK=>?_));(focus go_simp;done);go_simp;refine hK _ _ ?_;clear hK K)|(go_simp;(try go_bits);(try first |((with_reducible show CallS _ _ _ _ _ _);first|(refine CallS.mono (HCC.out _ _ HX1.out) ?_; rintro _ _ ⟨rfl, h9⟩; rw [h9]; clear h9)|(refine CallS.mono (HCL.out _ _ HX1.out) ?_; rintro _ _ ⟨rfl, h9⟩; rw [h9]; clear h9)));refine hK2 _ _ ?_;clear hK2 K2))
    exact ⟨⟨_, rfl, spans_nil _⟩, HX1.out⟩
  · repeat' (first|(with_reducible first|refine zA ?_|refine zB fun K hK=>?_|refine zC fun K2 hK2=>?_|refine zD ?_|refine zE ?_|refine zF ?_|refine zG ?_|refine zH ?_|refine zI ?_|refine zM ?_|refine zN ?_|refine zO ?_|refine zP ?_|refine zQ ?_|refine zR ?_)|((with_reducible refine zU (hK _ _ ?_));clear hK K)|((with_reducible refine zV ?_ ?_ fun K1 K3 d hdst h1 h3=>?_);rfl;exact yB rfl;cases hdst;go_simp)|((with_reducible refine zW fun K1 K3 h1 h3=>?_);go_simp)|((first|refine h1 ?_|refine h3 ?_);clear h1 h3 K1 K3)|((first|refine zX (fun hb=>h1 ?_) (fun hb=>h3 ?_)|refine zX (fun hb=>h3 ?_) (fun hb=>h1 ?_))<;>(clear h1 h3 K1 K3;(try have hb2:=yC hb);(try have hb2:=yD hb);(try have hb2:=yE hb);(try have hb2:=yF hb);(try have hb2:=yG hb)))|(refine fun (K2:_→AHeap→Prop) hK2=>?_)|((with_reducible refine zY ?_ ?_);decide)|((with_reducible first|refine zZ ?_ (fun K hK=>?_)|refine yA ?_ (fun K hK=>?_));(focus go_simp;done);go_simp;refine hK _ _ ?_;clear hK K)|(go_simp;(try go_bits);(try first |((with_reducible show CallS _ _ _ _ _ _);first|(refine CallS.mono (HCC.out _ _ HX1.out) ?_; rintro _ _ ⟨rfl, h9⟩; rw [h9]; clear h9)|(refine CallS.mono (HCL.out _ _ HX1.out) ?_; rintro _ _ ⟨rfl, h9⟩; rw [h9]; clear h9)|(refine CallS.mono (HEX.out _ _ HX1.out) ?_; rintro _ H1 ⟨⟨oa, on, oc, pi, fv, lv, rfl, hf1, hl1, -⟩, hx⟩; (have HX2 := Lib.hid (HX1.out.trans hx)); (obtain ⟨-, fa, fc, rfl⟩ := hf1.slice); (obtain ⟨-, la, lc, rfl⟩ := hl1.slice); clear hf1 hl1 hx)));refine hK2 _ _ ?_;clear hK2 K2))
    exact ⟨⟨_, rfl, spans_nil _⟩, HX2.out.push' _⟩
  · repeat' (first|(with_reducible first|refine zA ?_|refine zB fun K hK=>?_|refine zC fun K2 hK2=>?_|refine zD ?_|refine zE ?_|refine zF ?_|refine zG ?_|refine zH ?_|refine zI ?_|refine zM ?_|refine zN ?_|refine zO ?_|refine zP ?_|refine zQ ?_|refine zR ?_)|((with_reducible refine zU (hK _ _ ?_));clear hK K)|((with_reducible refine zV ?_ ?_ fun K1 K3 d hdst h1 h3=>?_);rfl;exact yB rfl;cases hdst;go_simp)|((with_reducible refine zW fun K1 K3 h1 h3=>?_);go_simp)|((first|refine h1 ?_|refine h3 ?_);clear h1 h3 K1 K3)|((first|refine zX (fun hb=>h1 ?_) (fun hb=>h3 ?_)|refine zX (fun hb=>h3 ?_) (fun hb=>h1 ?_))<;>(clear h1 h3 K1 K3;(try have hb2:=yC hb);(try have hb2:=yD hb);(try have hb2:=yE hb);(try have hb2:=yF hb);(try have hb2:=yG hb)))|(refine fun (K2:_→AHeap→Prop) hK2=>?_)|((with_reducible refine zY ?_ ?_);decide)|((with_reducible first|refine zZ ?_ (fun K hK=>?_)|refine yA ?_ (fun K hK=>?_));(focus go_simp;done);go_simp;refine hK _ _ ?_;clear hK K)|(go_simp;(try go_bits);(try first |((with_reducible show CallS _ _ _ _ _ _);first|(refine CallS.mono (HCC.out _ _ HX1.out) ?_; rintro _ _ ⟨rfl, h9⟩; rw [h9]; clear h9)|(refine CallS.mono (HCL.out _ _ HX1.out) ?_; rintro _ _ ⟨rfl, h9⟩; rw [h9]; clear h9)|(refine CallS.mono (HEX.out _ _ HX1.out) ?_; rintro _ H1 ⟨⟨oa, on, oc, pi, fv, lv, rfl, hf1, hl1, hcv⟩, hx⟩; (have HF := Lib.hid hf1); (have HL := Lib.hid hl1); (have HCV := Lib.hid (hcv rfl)); (have HX2 := Lib.hid (HX1.out.trans hx)); (obtain ⟨ov, he9, hrows⟩ := hcv rfl); (obtain ⟨hol, oa', oc', rfl⟩ := hrows.slice); (cases he9); (have HR := Lib.hid hrows); (obtain ⟨-, fa, fc, rfl⟩ := hf1.slice); (obtain ⟨-, la, lc, rfl⟩ := hl1.slice); clear hf1 hl1 hx hcv hrows)|(refine CallS.mono (possible_e (x := x) (k := k) (HR.out.ext (Ext.push _)) (HF.out.ext (Ext.push _)) (HL.out.ext (Ext.push _)) hk hk1 hk2 hle) ?_; rintro pv H4 ⟨ho, hx⟩; (have HO := Lib.hid ho); (have HX4 := Lib.hid hx); clear ho hx)));refine hK2 _ _ ?_;clear hK2 K2))
    refine ⟨⟨_, rfl, ?_⟩, (HX2.out.push' _).trans HX4.out⟩
    rw [hPL]
    exact spans_of_own HO.out (by have := cutS_le (L1.getD k 0) (L2.getD k 0) (x.at_ k); omega)
end Go.Proofs.Try
