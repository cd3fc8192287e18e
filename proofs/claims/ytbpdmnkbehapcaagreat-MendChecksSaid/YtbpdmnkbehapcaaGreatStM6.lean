/- Contracts of functions, walked. -/
import Derived.Test.YtbpdmnkbehapcaaGreatStN1
import Derived.Test.YtbpdmnkbehapcaaGreatAwB
set_option linter.all false
namespace Go.Proofs.Tryz
open Go Go.Am Go.RowKit
set_option maxRecDepth 100000


theorem incr_ltN : ∀ (l : List Int), incr l = true → l.Pairwise (· < ·)
  | [], _ => .nil
  | [_], _ => List.pairwise_singleton ..
  | a :: b :: l, h => by
    simp only [incr, Bool.and_eq_true, decide_eq_true_eq] at h
    have h1 := incr_ltN (b :: l) h.2
    refine List.pairwise_cons.2 ⟨fun x hx => ?_, h1⟩
    rcases List.mem_cons.1 hx with rfl | hx
    · exact h.1
    · exact Int.lt_trans h.1 ((List.pairwise_cons.1 h1).1 x hx)
def clk (d : Int) (l : List Int) : Nat → Bool
  | 0 => true
  | k + 1 => clk d l k && (win 0 (d - 1) (l.getD k 0) && (decide (k = 0) || decide (l.getD (k - 1) 0 < l.getD k 0)))
theorem clk_iff {d : Int} {l : List Int} : ∀ n, clk d l n = true ↔ ∀ i, i < n → (0 ≤ l.getD i 0 ∧ l.getD i 0 ≤ d - 1) ∧ (i = 0 ∨ l.getD (i - 1) 0 < l.getD i 0)
  | 0 => by simp [clk]
  | n + 1 => by
    rw [clk, Bool.and_eq_true, clk_iff n]
    simp only [win, Bool.and_eq_true, Bool.or_eq_true, decide_eq_true_eq]
    constructor
    · rintro ⟨h1, h2⟩ i hi
      rcases Nat.lt_or_ge i n with h | h
      · exact h1 i h
      · obtain rfl : i = n := by omega
        exact h2
    · intro h
      exact ⟨fun i hi => h i (by omega), h n (by omega)⟩
theorem getD_at {l : List Int} {i : Nat} (h : i < l.length) : l.getD i 0 = l[i] := by rw [List.getD_eq_getElem?_getD, List.getElem?_eq_getElem h]; rfl
theorem clk_areDays (t : Tour) (l : List Int) : clk t.days l l.length = t.areDays l := by
  rw [Bool.eq_iff_iff, clk_iff]
  simp only [Tour.areDays, Tour.isDay, win, Bool.and_eq_true, Bool.or_eq_true, decide_eq_true_eq]
  constructor
  · intro h
    have hs : ∀ m k, k + m = l.length → incr (l.drop k) = true := by
      intro m
      induction m with
      | zero => intro k hk; rw [List.drop_eq_nil_of_le (by omega)]; rfl
      | succ m ih =>
        intro k hk
        by_cases h1 : k + 1 < l.length
        · rw [incr_drop l k h1, ih (k + 1) (by omega)]
          have := (h (k + 1) h1).2
          rw [getD_at h1, Nat.add_sub_cancel, getD_at (by omega)] at this
          simpa using this
        · rw [List.drop_eq_getElem_cons (by omega), List.drop_eq_nil_of_le (by omega)]; rfl
    refine ⟨by simpa using hs l.length 0 (by omega), ?_⟩
    by_cases h0 : l.length = 0
    · exact .inl h0
    · exact .inr ⟨(h 0 (by omega)).1, (h (l.length - 1) (by omega)).1⟩
  · rintro ⟨h1, h2⟩ i hi
    have hp := incr_ltN _ h1
    rw [List.pairwise_iff_getElem] at hp
    have h3 := h2.resolve_left (by omega)
    rw [getD_at (show 0 < l.length by omega), getD_at (show l.length - 1 < l.length by omega)] at h3
    rw [getD_at hi]
    have ha : l[0]'(by omega) ≤ l[i] := by
      rcases Nat.eq_zero_or_pos i with h0 | h0
      · subst h0; exact Int.le_refl _
      · exact Int.le_of_lt (hp 0 i (by omega) hi h0)
    have hb : l[i] ≤ l[l.length - 1]'(by omega) := by
      by_cases h0 : i = l.length - 1
      · subst h0; exact Int.le_refl _
      · exact Int.le_of_lt (hp i (l.length - 1) hi (by omega) (by omega))
    refine ⟨⟨by omega, by omega⟩, ?_⟩
    by_cases h0 : i = 0
    · exact .inl h0
    · refine .inr ?_
      rw [getD_at (show i - 1 < l.length by omega)]
      exact hp (i - 1) i (by omega) hi (by omega)
theorem clk_mono {d : Int} {l : List Int} {k n : Nat} (h : k ≤ n) (hk : clk d l k = false) : clk d l n = false := by
  rw [Bool.eq_false_iff] at hk ⊢
  intro hn
  exact hk ((clk_iff k).2 fun i hi => (clk_iff n).1 hn i (by omega))

theorem fIdx_lt {l : List Flaw} {k : Nat} (h : k < l.length) : decide (fIdx (l[k]).id l 0 < (k : Int)) = decide ((l[k]).id ∈ (l.take k).map (·.id)) := by
  rw [fIdx_eq, if_pos (List.mem_map.2 ⟨l[k], List.getElem_mem h, rfl⟩), Nat.zero_add, decide_eq_decide]
  constructor
  · intro h1
    have h2 : atOf l (l[k]).id < k := by omega
    have h3 : atOf l (l[k]).id < l.length := by omega
    have h4 := List.findIdx_getElem (xs := l) (p := fun (a : Flaw) => a.id == (l[k]).id) (w := h3)
    exact List.mem_map.2 ⟨l[atOf l (l[k]).id], List.mem_take_iff_getElem.2 ⟨_, by omega, rfl⟩, by simp only [beq_iff_eq] at h4; exact h4⟩
  · intro h1
    obtain ⟨a, ha, hi⟩ := List.mem_map.1 h1
    obtain ⟨j, hj, rfl⟩ := List.mem_take_iff_getElem.1 ha
    have : atOf l (l[k]).id ≤ j := by
      rcases Nat.lt_or_ge j (atOf l (l[k]).id) with h9 | h9
      · have := List.not_of_lt_findIdx (p := fun (a : Flaw) => a.id == (l[k]).id) (xs := l) h9
        simp [hi] at this
      · exact h9
    omega

set_option maxHeartbeats 4000000 in
theorem rcheck_s {loops : List (Nat × LInfo)} {H : AHeap} {v : Value} {t : Tour} (hv : TourV H v t) : CallS Tryz.prog loops 24 [v] H fun r H' => r = .int .i64 (err t) ∧ H' = H := by
  refine CallS.forget (R := fun r => r = .int .i64 (err t)) (by rintro v rfl; rfl) ?_
  have HV := Lib.hid hv
  obtain ⟨cv, fv, rfl, hc, hf⟩ := hv
  obtain ⟨hcl, ca, cc, rfl⟩ := hc.slice
  obtain ⟨hfl, fa, fc, rfl⟩ := hf.slice
  have HC := Lib.hid hc
  have HF := Lib.hid hf
  clear hc hf
  generalize he : err t = er
  have HE := Lib.hid he
  clear he
  by_cases hw1 : win 1 60 t.days = true
  case' neg =>
    have hw0 : win 1 60 t.days = false := by simpa using hw1
    refine CallS.enter' Tryz.func24 rfl Tryz.ntmps24 (by simp) fun f hd hf => ?_
    have f0 := hf 0
    simp at f0
    clear hf
    have HW0 := Lib.hid hw0
    clear hw1 hw0
    repeat' (first|(with_reducible first|refine zA ?_|refine zB fun K hK=>?_|refine zC fun K2 hK2=>?_|refine zD ?_|refine zE ?_|refine zF ?_|refine zG ?_|refine zH ?_|refine zI ?_|refine zM ?_|refine zN ?_|refine zO ?_|refine zP ?_|refine zQ ?_|refine zR ?_)|((with_reducible refine zU (hK _ _ ?_));clear hK K)|((with_reducible refine zV ?_ ?_ fun K1 K3 d hdst h1 h3=>?_);rfl;exact yB rfl;cases hdst;go_simp)|((with_reducible refine zW fun K1 K3 h1 h3=>?_);go_simp)|((first|refine h1 ?_|refine h3 ?_);clear h1 h3 K1 K3)|((first|refine zX (fun hb=>h1 ?_) (fun hb=>h3 ?_)|refine zX (fun hb=>h3 ?_) (fun hb=>h1 ?_))<;>(clear h1 h3 K1 K3;(try have hb2:=yC hb);(try have hb2:=yD hb);(try have hb2:=yE hb);(try have hb2:=yF hb);(try have hb2:=yG hb)))|(refine fun (K2:_→AHeap→Prop) hK2=>?_)|((with_reducible refine zY ?_ ?_);decide)|((with_reducible first|refine zZ ?_ (fun K hK=>?_)|refine yA ?_ (fun K hK=>?_));(focus go_simp;done);go_simp;refine hK _ _ ?_;clear hK K)|(go_simp;(try go_bits);(try first | ((with_reducible show CallS _ _ _ _ _ _);refine CallS.mono in_s ?_; rw [HW0.out]; rintro _ _ ⟨rfl, rfl⟩));refine hK2 _ _ ?_;clear hK2 K2))
    refine ⟨?_, (Ext.refl _).push' _⟩
    rw [← HE.out]; simp [err, HW0.out]
  have HW1 := Lib.hid hw1
  have hwd : 0 ≤ t.days ∧ t.days ≤ 60 := by rw [win_iff] at hw1; omega
  clear hw1
  refine CallS.enter' Tryz.func24 rfl Tryz.ntmps24 (by simp) fun f hd hf => ?_
  have f0 := hf 0
  simp at f0
  clear hf
  repeat' (first|(with_reducible first|refine zA ?_|refine zB fun K hK=>?_|refine zC fun K2 hK2=>?_|refine zD ?_|refine zE ?_|refine zF ?_|refine zG ?_|refine zH ?_|refine zI ?_|refine zM ?_|refine zN ?_|refine zO ?_|refine zP ?_|refine zQ ?_|refine zR ?_)|((with_reducible refine zU (hK _ _ ?_));clear hK K)|((with_reducible refine zV ?_ ?_ fun K1 K3 d hdst h1 h3=>?_);rfl;exact yB rfl;cases hdst;go_simp)|((with_reducible refine zW fun K1 K3 h1 h3=>?_);go_simp)|((first|refine h1 ?_|refine h3 ?_);clear h1 h3 K1 K3)|((first|refine zX (fun hb=>h1 ?_) (fun hb=>h3 ?_)|refine zX (fun hb=>h3 ?_) (fun hb=>h1 ?_))<;>(clear h1 h3 K1 K3;(try have hb2:=yC hb);(try have hb2:=yD hb);(try have hb2:=yE hb);(try have hb2:=yF hb);(try have hb2:=yG hb)))|(refine fun (K2:_→AHeap→Prop) hK2=>?_)|((with_reducible refine zY ?_ ?_);decide)|((with_reducible first|refine zZ ?_ (fun K hK=>?_)|refine yA ?_ (fun K hK=>?_));(focus go_simp;done);go_simp;refine hK _ _ ?_;clear hK K)|(go_simp;(try go_bits);(try first | ((with_reducible show CallS _ _ _ _ _ _);refine CallS.mono in_s ?_; rw [HW1.out]; rintro _ _ ⟨rfl, rfl⟩));refine hK2 _ _ ?_;clear hK2 K2))
  have HXG : Hid (Ext H (H.push (.row [.int .i64 t.days, .slice ca t.closed.length cc, .slice fa t.flaws.length fc] 25))) := Lib.hid ((Ext.refl _).push' _)
  have hG0 : (H.push (.row [.int .i64 t.days, .slice ca t.closed.length cc, .slice fa t.flaws.length fc] 25)).get H.n = .row [.int .i64 t.days, .slice ca t.closed.length cc, .slice fa t.flaws.length fc] 25 := AHeap.get_push_new
  have hnG : H.n < (H.push (.row [.int .i64 t.days, .slice ca t.closed.length cc, .slice fa t.flaws.length fc] 25)).n := by rw [AHeap.n_push]; omega
  generalize H.push (.row [.int .i64 t.days, .slice ca t.closed.length cc, .slice fa t.flaws.length fc] 25) = G at HXG hG0 hnG ⊢
  have hc0 : cellAt G H.n 0 = some (.int .i64 t.days) := by simp [cellAt, hG0]
  have hc1 : cellAt G H.n 1 = some (.slice ca t.closed.length cc) := by simp [cellAt, hG0]
  have hc2 : cellAt G H.n 2 = some (.slice fa t.flaws.length fc) := by simp [cellAt, hG0]
  have HGT := Lib.hid hG0
  have HNG := Lib.hid hnG
  clear hG0
  refine CodeS.loop (fun m f H' => ∃ k : Nat, k ≤ t.closed.length ∧ m = t.closed.length - k ∧ f.tmp 3 = .int .i64 k ∧ f.tmp 1 = .pointer (some ⟨H.n, 0, none⟩) ∧ f.defers = [] ∧ Hid (clk t.days t.closed k = true) ∧ H' = G) t.closed.length ?_ ?_
  · exact ⟨0, by simp, by simp, (by first|go_simp<;>go_num|assumption), (by first|go_simp<;>go_num|assumption), (by first|go_simp<;>go_num|assumption), Lib.hid rfl, rfl⟩
  clear f0 hd f
  rintro m f H' ⟨k, hk, rfl, f3, f1, hd, HK, e9⟩
  have e9 := e9.symm
  subst e9
  by_cases hlt : k < t.closed.length
  · obtain ⟨b, o, sp, rfl, hb, hx⟩ := (HC.out.ext HXG.out).at_ hlt
    have HY := Lib.hid (getD_at hlt)
    generalize t.closed[k] = y at hx HY
    have HIN := Lib.hid (fun (loops : List (Nat × LInfo)) (H2 : AHeap) => in_s (loops := loops) (H := H2) (n := y) (lo := 0) (hi := t.days - 1))
    have HS : Hid (clk t.days t.closed (k + 1) = (win 0 (t.days - 1) y && (decide (k = 0) || decide (t.closed.getD (k - 1) 0 < y)))) := Lib.hid (by rw [clk, HK.out, HY.out]; rfl)
    generalize win 0 (t.days - 1) y = w at HIN HS
    have hsub : IntKind.i64.wrap (t.days - 1) = t.days - 1 := by rw [IntKind.wrap_i64]; omega
    rcases Nat.eq_zero_or_pos k with hk0 | hk0
    case' inl =>
      subst hk0
      simp only [Nat.add_zero] at hx
      cases w
      case' false =>
        repeat' (first|(with_reducible first|refine zA ?_|refine zB fun K hK=>?_|refine zC fun K2 hK2=>?_|refine zD ?_|refine zE ?_|refine zF ?_|refine zG ?_|refine zH ?_|refine zI ?_|refine zM ?_|refine zN ?_|refine zO ?_|refine zP ?_|refine zQ ?_|refine zR ?_)|((with_reducible refine zU (hK _ _ ?_));clear hK K)|((with_reducible refine zV ?_ ?_ fun K1 K3 d hdst h1 h3=>?_);rfl;exact yB rfl;cases hdst;go_simp)|((with_reducible refine zW fun K1 K3 h1 h3=>?_);go_simp)|((first|refine h1 ?_|refine h3 ?_);clear h1 h3 K1 K3)|((first|refine zX (fun hb=>h1 ?_) (fun hb=>h3 ?_)|refine zX (fun hb=>h3 ?_) (fun hb=>h1 ?_))<;>(clear h1 h3 K1 K3;(try have hb2:=yC hb);(try have hb2:=yD hb);(try have hb2:=yE hb);(try have hb2:=yF hb);(try have hb2:=yG hb)))|(refine fun (K2:_→AHeap→Prop) hK2=>?_)|((with_reducible refine zY ?_ ?_);decide)|((with_reducible first|refine zZ ?_ (fun K hK=>?_)|refine yA ?_ (fun K hK=>?_));(focus go_simp;done);go_simp;refine hK _ _ ?_;clear hK K)|((with_reducible refine yH mixed rfl ?_ 20 fun K0 hK0=>?_);kernel_rfl)|(with_reducible first|exact yI|exact yJ|refine yK ?_|refine yL ?_|refine yM ?_)|((with_reducible first|refine yN ?_ ?_|refine yO ?_ ?_|refine yP ?_ ?_);rfl)|((with_reducible refine yQ ?_ ?_);rfl;refine hK0 _ _ ?_;clear hK0 K0)|((with_reducible refine yR ?_ ?_ ?_ ?_);rfl;rfl;rfl)|((with_reducible refine yS ?_ ?_ ?_ fun K2 hK2=>?_);rfl;rfl;exact yB rfl)|((with_reducible refine yT ?_ ?_ ?_ ?_ fun K1 K3 d hdst h1 h3=>?_);rfl;rfl;rfl;exact yB rfl;cases hdst;go_simp)|((with_reducible refine yU ?_ ?_ ?_ ?_ fun K1 K3 d hdst h1 h3=>?_);rfl;rfl;rfl;exact yB rfl;cases hdst;go_simp)|((with_reducible refine yV ?_ ?_ (fun K2 hK2=>?_) ?_);rfl;exact yB rfl)|((with_reducible refine yW ?_ ?_ ?_ ?_ (fun K2 hK2=>?_) ?_);rfl;exact yB rfl;rfl;(focus go_simp;done))|((with_reducible refine yX ?_ ?_ ?_ (fun K2 hK2=>?_) ?_);rfl;rfl;exact yB rfl)|((with_reducible refine yY ?_ ?_ (fun K2 hK2=>?_) ?_);rfl;rfl)|((with_reducible refine yZ ?_ ?_);(first|rfl|(dsimp only;decide +kernel)))|((with_reducible refine xA ?_ ?_);(focus go_simp;done))|(go_simp;(try go_bits);(try first | ((with_reducible show CallS _ _ _ _ _ _);refine CallS.mono (HIN.out _ _) ?_; rintro _ _ ⟨rfl, rfl⟩));(first|(refine hK2 _ _ ?_ ?_<;>clear hK2 K2)|(refine hK2 _ _ ?_;clear hK2 K2))))
        all_goals (refine ⟨?_, HXG.out⟩; have hcf := clk_mono (show 0 + 1 ≤ t.closed.length by omega) (HS.out.trans rfl); rw [clk_areDays] at hcf; rw [← HE.out]; simp [err, hcf])
      repeat' (first|(with_reducible first|refine zA ?_|refine zB fun K hK=>?_|refine zC fun K2 hK2=>?_|refine zD ?_|refine zE ?_|refine zF ?_|refine zG ?_|refine zH ?_|refine zI ?_|refine zM ?_|refine zN ?_|refine zO ?_|refine zP ?_|refine zQ ?_|refine zR ?_)|((with_reducible refine zU (hK _ _ ?_));clear hK K)|((with_reducible refine zV ?_ ?_ fun K1 K3 d hdst h1 h3=>?_);rfl;exact yB rfl;cases hdst;go_simp)|((with_reducible refine zW fun K1 K3 h1 h3=>?_);go_simp)|((first|refine h1 ?_|refine h3 ?_);clear h1 h3 K1 K3)|((first|refine zX (fun hb=>h1 ?_) (fun hb=>h3 ?_)|refine zX (fun hb=>h3 ?_) (fun hb=>h1 ?_))<;>(clear h1 h3 K1 K3;(try have hb2:=yC hb);(try have hb2:=yD hb);(try have hb2:=yE hb);(try have hb2:=yF hb);(try have hb2:=yG hb)))|(refine fun (K2:_→AHeap→Prop) hK2=>?_)|((with_reducible refine zY ?_ ?_);decide)|((with_reducible first|refine zZ ?_ (fun K hK=>?_)|refine yA ?_ (fun K hK=>?_));(focus go_simp;done);go_simp;refine hK _ _ ?_;clear hK K)|((with_reducible refine yH mixed rfl ?_ 20 fun K0 hK0=>?_);kernel_rfl)|(with_reducible first|exact yI|exact yJ|refine yK ?_|refine yL ?_|refine yM ?_)|((with_reducible first|refine yN ?_ ?_|refine yO ?_ ?_|refine yP ?_ ?_);rfl)|((with_reducible refine yQ ?_ ?_);rfl;refine hK0 _ _ ?_;clear hK0 K0)|((with_reducible refine yR ?_ ?_ ?_ ?_);rfl;rfl;rfl)|((with_reducible refine yS ?_ ?_ ?_ fun K2 hK2=>?_);rfl;rfl;exact yB rfl)|((with_reducible refine yT ?_ ?_ ?_ ?_ fun K1 K3 d hdst h1 h3=>?_);rfl;rfl;rfl;exact yB rfl;cases hdst;go_simp)|((with_reducible refine yU ?_ ?_ ?_ ?_ fun K1 K3 d hdst h1 h3=>?_);rfl;rfl;rfl;exact yB rfl;cases hdst;go_simp)|((with_reducible refine yV ?_ ?_ (fun K2 hK2=>?_) ?_);rfl;exact yB rfl)|((with_reducible refine yW ?_ ?_ ?_ ?_ (fun K2 hK2=>?_) ?_);rfl;exact yB rfl;rfl;(focus go_simp;done))|((with_reducible refine yX ?_ ?_ ?_ (fun K2 hK2=>?_) ?_);rfl;rfl;exact yB rfl)|((with_reducible refine yY ?_ ?_ (fun K2 hK2=>?_) ?_);rfl;rfl)|((with_reducible refine yZ ?_ ?_);(first|rfl|(dsimp only;decide +kernel)))|((with_reducible refine xA ?_ ?_);(focus go_simp;done))|(go_simp;(try go_bits);(try first | ((with_reducible show CallS _ _ _ _ _ _);refine CallS.mono (HIN.out _ _) ?_; rintro _ _ ⟨rfl, rfl⟩));(first|(refine hK2 _ _ ?_ ?_<;>clear hK2 K2)|(refine hK2 _ _ ?_;clear hK2 K2))))
      all_goals (refine Post.round_normal ⟨t.closed.length - (0 + 1), by omega, 0 + 1, by omega, rfl, (by first|go_simp<;>go_num|assumption), (by first|go_simp<;>go_num|assumption), (by first|go_simp<;>go_num|assumption), Lib.hid (by rw [HS.out]; rfl), rfl⟩)
    case' inr =>
      obtain ⟨b2, o2, sp2, he2, -, hxp⟩ := (HC.out.ext HXG.out).at_ (k := k - 1) (by omega)
      cases he2
      have HP := Lib.hid (getD_at (show k - 1 < t.closed.length by omega))
      generalize t.closed[k - 1] = p at hxp HP
      have h0i : (0 : Int) ≤ (k : Int) - 1 := by omega
      have h1i : (k : Int) - 1 < (t.closed.length : Int) := by omega
      have h2i : (1 : Int) ≤ (k : Int) := by omega
      have h3i : 1 ≤ k := by omega
      have HK0 : Hid (decide (k = 0) = false) := Lib.hid (by simp; omega)
      cases w
      case' false =>
        repeat' (first|(with_reducible first|refine zA ?_|refine zB fun K hK=>?_|refine zC fun K2 hK2=>?_|refine zD ?_|refine zE ?_|refine zF ?_|refine zG ?_|refine zH ?_|refine zI ?_|refine zM ?_|refine zN ?_|refine zO ?_|refine zP ?_|refine zQ ?_|refine zR ?_)|((with_reducible refine zU (hK _ _ ?_));clear hK K)|((with_reducible refine zV ?_ ?_ fun K1 K3 d hdst h1 h3=>?_);rfl;exact yB rfl;cases hdst;go_simp)|((with_reducible refine zW fun K1 K3 h1 h3=>?_);go_simp)|((first|refine h1 ?_|refine h3 ?_);clear h1 h3 K1 K3)|((first|refine zX (fun hb=>h1 ?_) (fun hb=>h3 ?_)|refine zX (fun hb=>h3 ?_) (fun hb=>h1 ?_))<;>(clear h1 h3 K1 K3;(try have hb2:=yC hb);(try have hb2:=yD hb);(try have hb2:=yE hb);(try have hb2:=yF hb);(try have hb2:=yG hb)))|(refine fun (K2:_→AHeap→Prop) hK2=>?_)|((with_reducible refine zY ?_ ?_);decide)|((with_reducible first|refine zZ ?_ (fun K hK=>?_)|refine yA ?_ (fun K hK=>?_));(focus go_simp;done);go_simp;refine hK _ _ ?_;clear hK K)|((with_reducible refine yH mixed rfl ?_ 20 fun K0 hK0=>?_);kernel_rfl)|(with_reducible first|exact yI|exact yJ|refine yK ?_|refine yL ?_|refine yM ?_)|((with_reducible first|refine yN ?_ ?_|refine yO ?_ ?_|refine yP ?_ ?_);rfl)|((with_reducible refine yQ ?_ ?_);rfl;refine hK0 _ _ ?_;clear hK0 K0)|((with_reducible refine yR ?_ ?_ ?_ ?_);rfl;rfl;rfl)|((with_reducible refine yS ?_ ?_ ?_ fun K2 hK2=>?_);rfl;rfl;exact yB rfl)|((with_reducible refine yT ?_ ?_ ?_ ?_ fun K1 K3 d hdst h1 h3=>?_);rfl;rfl;rfl;exact yB rfl;cases hdst;go_simp)|((with_reducible refine yU ?_ ?_ ?_ ?_ fun K1 K3 d hdst h1 h3=>?_);rfl;rfl;rfl;exact yB rfl;cases hdst;go_simp)|((with_reducible refine yV ?_ ?_ (fun K2 hK2=>?_) ?_);rfl;exact yB rfl)|((with_reducible refine yW ?_ ?_ ?_ ?_ (fun K2 hK2=>?_) ?_);rfl;exact yB rfl;rfl;(focus go_simp;done))|((with_reducible refine yX ?_ ?_ ?_ (fun K2 hK2=>?_) ?_);rfl;rfl;exact yB rfl)|((with_reducible refine yY ?_ ?_ (fun K2 hK2=>?_) ?_);rfl;rfl)|((with_reducible refine yZ ?_ ?_);(first|rfl|(dsimp only;decide +kernel)))|((with_reducible refine xA ?_ ?_);(focus go_simp;done))|(go_simp;(try go_bits);(try first | ((with_reducible show CallS _ _ _ _ _ _);refine CallS.mono (HIN.out _ _) ?_; rintro _ _ ⟨rfl, rfl⟩));(first|(refine hK2 _ _ ?_ ?_<;>clear hK2 K2)|(refine hK2 _ _ ?_;clear hK2 K2))))
        all_goals (refine ⟨?_, HXG.out⟩; have hcf := clk_mono (show k + 1 ≤ t.closed.length by omega) (HS.out.trans rfl); rw [clk_areDays] at hcf; rw [← HE.out]; simp [err, hcf])
      repeat' (first|(with_reducible first|refine zA ?_|refine zB fun K hK=>?_|refine zC fun K2 hK2=>?_|refine zD ?_|refine zE ?_|refine zF ?_|refine zG ?_|refine zH ?_|refine zI ?_|refine zM ?_|refine zN ?_|refine zO ?_|refine zP ?_|refine zQ ?_|refine zR ?_)|((with_reducible refine zU (hK _ _ ?_));clear hK K)|((with_reducible refine zV ?_ ?_ fun K1 K3 d hdst h1 h3=>?_);rfl;exact yB rfl;cases hdst;go_simp)|((with_reducible refine zW fun K1 K3 h1 h3=>?_);go_simp)|((first|refine h1 ?_|refine h3 ?_);clear h1 h3 K1 K3)|((first|refine zX (fun hb=>h1 ?_) (fun hb=>h3 ?_)|refine zX (fun hb=>h3 ?_) (fun hb=>h1 ?_))<;>(clear h1 h3 K1 K3;(try have hb2:=yC hb);(try have hb2:=yD hb);(try have hb2:=yE hb);(try have hb2:=yF hb);(try have hb2:=yG hb)))|(refine fun (K2:_→AHeap→Prop) hK2=>?_)|((with_reducible refine zY ?_ ?_);decide)|((with_reducible first|refine zZ ?_ (fun K hK=>?_)|refine yA ?_ (fun K hK=>?_));(focus go_simp;done);go_simp;refine hK _ _ ?_;clear hK K)|((with_reducible refine yH mixed rfl ?_ 20 fun K0 hK0=>?_);kernel_rfl)|(with_reducible first|exact yI|exact yJ|refine yK ?_|refine yL ?_|refine yM ?_)|((with_reducible first|refine yN ?_ ?_|refine yO ?_ ?_|refine yP ?_ ?_);rfl)|((with_reducible refine yQ ?_ ?_);rfl;refine hK0 _ _ ?_;clear hK0 K0)|((with_reducible refine yR ?_ ?_ ?_ ?_);rfl;rfl;rfl)|((with_reducible refine yS ?_ ?_ ?_ fun K2 hK2=>?_);rfl;rfl;exact yB rfl)|((with_reducible refine yT ?_ ?_ ?_ ?_ fun K1 K3 d hdst h1 h3=>?_);rfl;rfl;rfl;exact yB rfl;cases hdst;go_simp)|((with_reducible refine yU ?_ ?_ ?_ ?_ fun K1 K3 d hdst h1 h3=>?_);rfl;rfl;rfl;exact yB rfl;cases hdst;go_simp)|((with_reducible refine yV ?_ ?_ (fun K2 hK2=>?_) ?_);rfl;exact yB rfl)|((with_reducible refine yW ?_ ?_ ?_ ?_ (fun K2 hK2=>?_) ?_);rfl;exact yB rfl;rfl;(focus go_simp;done))|((with_reducible refine yX ?_ ?_ ?_ (fun K2 hK2=>?_) ?_);rfl;rfl;exact yB rfl)|((with_reducible refine yY ?_ ?_ (fun K2 hK2=>?_) ?_);rfl;rfl)|((with_reducible refine yZ ?_ ?_);(first|rfl|(dsimp only;decide +kernel)))|((with_reducible refine xA ?_ ?_);(focus go_simp;done))|(go_simp;(try go_bits);(try first | ((with_reducible show CallS _ _ _ _ _ _);refine CallS.mono (HIN.out _ _) ?_; rintro _ _ ⟨rfl, rfl⟩));(first|(refine hK2 _ _ ?_ ?_<;>clear hK2 K2)|(refine hK2 _ _ ?_;clear hK2 K2))))
      all_goals first
        | (refine ⟨?_, HXG.out⟩
           have hcf := clk_mono (show k + 1 ≤ t.closed.length by omega) (show clk t.days t.closed (k + 1) = false by rw [HS.out, HK0.out, HP.out]; simpa using hb2)
           rw [clk_areDays] at hcf
           rw [← HE.out]; simp [err, hcf]; done)
        | (refine Post.round_normal ⟨t.closed.length - (k + 1), by omega, k + 1, by omega, rfl, (by first|go_simp<;>go_num|assumption), (by first|go_simp<;>go_num|assumption), (by first|go_simp<;>go_num|assumption), Lib.hid ?_, rfl⟩
           rw [HS.out, HK0.out, HP.out]; simpa using hb2)
  · have hke : k = t.closed.length := by omega
    have hda : t.areDays t.closed = true := by rw [← clk_areDays, ← hke]; exact HK.out
    have HDA := Lib.hid hda
    clear hda HK
    repeat' (first|(with_reducible first|refine zA ?_|refine zB fun K hK=>?_|refine zC fun K2 hK2=>?_|refine zD ?_|refine zE ?_|refine zF ?_|refine zG ?_|refine zH ?_|refine zI ?_|refine zM ?_|refine zN ?_|refine zO ?_|refine zP ?_|refine zQ ?_|refine zR ?_)|((with_reducible refine zU (hK _ _ ?_));clear hK K)|((with_reducible refine zV ?_ ?_ fun K1 K3 d hdst h1 h3=>?_);rfl;exact yB rfl;cases hdst;go_simp)|((with_reducible refine zW fun K1 K3 h1 h3=>?_);go_simp)|((first|refine h1 ?_|refine h3 ?_);clear h1 h3 K1 K3)|((first|refine zX (fun hb=>h1 ?_) (fun hb=>h3 ?_)|refine zX (fun hb=>h3 ?_) (fun hb=>h1 ?_))<;>(clear h1 h3 K1 K3;(try have hb2:=yC hb);(try have hb2:=yD hb);(try have hb2:=yE hb);(try have hb2:=yF hb);(try have hb2:=yG hb)))|(refine fun (K2:_→AHeap→Prop) hK2=>?_)|((with_reducible refine zY ?_ ?_);decide)|((with_reducible first|refine zZ ?_ (fun K hK=>?_)|refine yA ?_ (fun K hK=>?_));(focus go_simp;done);go_simp;refine hK _ _ ?_;clear hK K)|(go_simp;(try go_bits);refine hK2 _ _ ?_;clear hK2 K2))
    · refine ⟨?_, HXG.out⟩
      rw [← HE.out]; simp [err, HW1.out, HDA.out]; omega
    have HE2 : Hid (errGo t [] t.flaws = er) := Lib.hid (by rw [← HE.out]; simp [err, HW1.out, HDA.out]; omega)
    clear HE
    refine CodeS.loop (fun m f H' => ∃ k : Nat, k ≤ t.flaws.length ∧ m = t.flaws.length - k ∧ f.tmp 4 = .int .i64 k ∧ f.tmp 1 = .pointer (some ⟨H.n, 0, none⟩) ∧ f.defers = [] ∧ Hid (errGo t ((t.flaws.take k).map (·.id)) (t.flaws.drop k) = er) ∧ Ext G H') t.flaws.length ?_ ?_
    · exact ⟨0, by simp, by simp, (by first|go_simp<;>go_num|assumption), (by first|go_simp<;>go_num|assumption), (by first|go_simp<;>go_num|assumption), Lib.hid (by simpa using HE2.out), Ext.refl _⟩
    clear f3 f1 hd f HE2 hc0 hc1 hc2 hlt hk hke
    rintro m f H' ⟨k, hk, rfl, f4, f1, hd, HG, hx⟩
    have hg : H'.get H.n = .row [.int .i64 t.days, .slice ca t.closed.length cc, .slice fa t.flaws.length fc] 25 := (hx.get _ HNG.out).trans HGT.out
    have hc2 : cellAt H' H.n 2 = some (Value.slice fa t.flaws.length fc) := by simp [cellAt, hg]
    have hc3 : cellsAt H' H.n 0 3 = some [.int .i64 t.days, Value.slice ca t.closed.length cc, Value.slice fa t.flaws.length fc] := by simp [cellsAt, hg]
    have hn0 : H.n < H'.n := Nat.lt_of_lt_of_le HNG.out hx.n
    have HX := Lib.hid hx
    clear hx hg
    by_cases hlt : k < t.flaws.length
    · obtain ⟨b, o, sp, rfl, hb, hx4, -⟩ := (HF.out.ext (HXG.out.trans HX.out)).at_ hlt
      have HD := Lib.hid (List.drop_eq_getElem_cons hlt)
      have HT := Lib.hid (List.take_succ_eq_append_getElem hlt)
      have HFX := Lib.hid (decide_eq_decide.1 (fIdx_lt hlt))
      generalize t.flaws[k] = a at hx4 HD HT HFX
      obtain ⟨i, lo, hi, me⟩ := a
      simp only [Flaw.cells] at hx4
      have HFX2 : Hid (fIdx i t.flaws 0 < (k : Int) ↔ i ∈ (t.flaws.take k).map (·.id)) := HFX
      have HFW := Lib.hid (fun (loops : List (Nat × LInfo)) (H2 : AHeap) (hx : Ext H H2) => flaw_s (loops := loops) (x := i) (HV.out.ext hx))
      have HSP := Lib.hid (fun (loops : List (Nat × LInfo)) (H2 : AHeap) (hx : Ext H H2) => span_s (loops := loops) (lo := lo) (hi := hi) (HV.out.ext hx))
      clear HFX
      generalize fIdx i t.flaws 0 = q at HFX2 HFW
      repeat' (first|(with_reducible first|refine zA ?_|refine zB fun K hK=>?_|refine zC fun K2 hK2=>?_|refine zD ?_|refine zE ?_|refine zF ?_|refine zG ?_|refine zH ?_|refine zI ?_|refine zM ?_|refine zN ?_|refine zO ?_|refine zP ?_|refine zQ ?_|refine zR ?_)|((with_reducible refine zU (hK _ _ ?_));clear hK K)|((with_reducible refine zV ?_ ?_ fun K1 K3 d hdst h1 h3=>?_);rfl;exact yB rfl;cases hdst;go_simp)|((with_reducible refine zW fun K1 K3 h1 h3=>?_);go_simp)|((first|refine h1 ?_|refine h3 ?_);clear h1 h3 K1 K3)|((first|refine zX (fun hb=>h1 ?_) (fun hb=>h3 ?_)|refine zX (fun hb=>h3 ?_) (fun hb=>h1 ?_))<;>(clear h1 h3 K1 K3;(try have hb2:=yC hb);(try have hb2:=yD hb);(try have hb2:=yE hb);(try have hb2:=yF hb);(try have hb2:=yG hb)))|(refine fun (K2:_→AHeap→Prop) hK2=>?_)|((with_reducible refine zY ?_ ?_);decide)|((with_reducible first|refine zZ ?_ (fun K hK=>?_)|refine yA ?_ (fun K hK=>?_));(focus go_simp;done);go_simp;refine hK _ _ ?_;clear hK K)|(go_simp;(try go_bits);(try first |((with_reducible show CallS _ _ _ _ _ _);first|(refine CallS.mono in_s ?_; rintro _ _ ⟨rfl, rfl⟩)|(refine CallS.mono (HSP.out _ _ (HXG.out.trans (HX.out.push' _))) ?_; rintro _ _ ⟨rfl, rfl⟩)|(refine CallS.mono (HFW.out _ _ (HXG.out.trans (HX.out.push' _))) ?_; rintro _ _ ⟨rfl, rfl⟩)));refine hK2 _ _ ?_;clear hK2 K2))
      all_goals (try (
        refine ⟨?_, HXG.out.trans (HX.out.push' _)⟩
        have hr : Flaw.right t ⟨i, lo, hi, me⟩ = false := by simp_all [Flaw.right]
        rw [← HG.out, HD.out]; simp [errGo, hr]; done))
      · refine ⟨?_, HXG.out.trans (HX.out.push' _)⟩
        have hr : Flaw.right t ⟨i, lo, hi, me⟩ = true := by simp_all [Flaw.right]
        rw [← HG.out, HD.out, errGo, if_neg (by simp [hr]), if_pos (HFX2.out.1 (of_decide_eq_true hb))]
      · have hr : Flaw.right t ⟨i, lo, hi, me⟩ = true := by simp_all [Flaw.right]
        have hin : i ∉ (t.flaws.take k).map (·.id) := fun h => of_decide_eq_false hb (HFX2.out.2 h)
        refine Post.round_normal ⟨t.flaws.length - (k + 1), by omega, k + 1, by omega, rfl, (by first|go_simp<;>go_num|assumption), (by first|go_simp<;>go_num|assumption), (by first|go_simp<;>go_num|assumption), Lib.hid ?_, HX.out.push' _⟩
        rw [← HG.out, HD.out, HT.out, errGo, if_neg (by simp [hr]), if_neg hin]; simp
    · repeat' (first|(with_reducible first|refine zA ?_|refine zB fun K hK=>?_|refine zC fun K2 hK2=>?_|refine zD ?_|refine zE ?_|refine zF ?_|refine zG ?_|refine zH ?_|refine zI ?_|refine zM ?_|refine zN ?_|refine zO ?_|refine zP ?_|refine zQ ?_|refine zR ?_)|((with_reducible refine zU (hK _ _ ?_));clear hK K)|((with_reducible refine zV ?_ ?_ fun K1 K3 d hdst h1 h3=>?_);rfl;exact yB rfl;cases hdst;go_simp)|((with_reducible refine zW fun K1 K3 h1 h3=>?_);go_simp)|((first|refine h1 ?_|refine h3 ?_);clear h1 h3 K1 K3)|((first|refine zX (fun hb=>h1 ?_) (fun hb=>h3 ?_)|refine zX (fun hb=>h3 ?_) (fun hb=>h1 ?_))<;>(clear h1 h3 K1 K3;(try have hb2:=yC hb);(try have hb2:=yD hb);(try have hb2:=yE hb);(try have hb2:=yF hb);(try have hb2:=yG hb)))|(refine fun (K2:_→AHeap→Prop) hK2=>?_)|((with_reducible refine zY ?_ ?_);decide)|((with_reducible first|refine zZ ?_ (fun K hK=>?_)|refine yA ?_ (fun K hK=>?_));(focus go_simp;done);go_simp;refine hK _ _ ?_;clear hK K)|(go_simp;(try go_bits);refine hK2 _ _ ?_;clear hK2 K2))
      refine ⟨?_, HXG.out.trans HX.out⟩
      rw [← HG.out, List.drop_eq_nil_of_le (by omega)]; rfl
end Go.Proofs.Tryz
namespace Go.Proofs.Tryz
open Go Go.Am Go.RowKit
set_option maxRecDepth 100000


theorem notIn_s {loops : List (Nat × LInfo)} {H : AHeap} {p r : Nat} {l : List Flaw} {x : Int} (hp : cellAt H p 0 = some (.map (some r))) (hr : r < H.n) (hm : MapIs H r (idxL l 0)) : CallS Tryz.prog loops 176 [.int .i64 x, .pointer (some ⟨p, 0, none⟩)] H fun v H' => v = .bool (!decide (x ∈ l.map (·.id))) ∧ H' = H := by
  have HM := Lib.hid hm
  have HL := Lib.hid (look_idx l 0 x).1
  clear hm
  refine CallS.enter' Tryz.func176 rfl Tryz.ntmps176 (by simp) fun f hd hf => ?_
  have f0 := hf 0
  have f1 := hf 1
  simp at f0 f1
  clear hf
  generalize decide (x ∈ l.map (·.id)) = dd at HL ⊢
  repeat' (first|(with_reducible first|refine zA ?_|refine zB fun K hK=>?_|refine zC fun K2 hK2=>?_|refine zD ?_|refine zE ?_|refine zF ?_|refine zG ?_|refine zH ?_|refine zI ?_|refine zM ?_|refine zN ?_|refine zO ?_|refine zP ?_|refine zQ ?_|refine zR ?_)|((with_reducible refine zU (hK _ _ ?_));clear hK K)|((with_reducible refine zV ?_ ?_ fun K1 K3 d hdst h1 h3=>?_);rfl;exact yB rfl;cases hdst;go_simp)|((with_reducible refine zW fun K1 K3 h1 h3=>?_);go_simp)|((first|refine h1 ?_|refine h3 ?_);clear h1 h3 K1 K3)|((first|refine zX (fun hb=>h1 ?_) (fun hb=>h3 ?_)|refine zX (fun hb=>h3 ?_) (fun hb=>h1 ?_))<;>(clear h1 h3 K1 K3;(try have hb2:=yC hb);(try have hb2:=yD hb);(try have hb2:=yE hb);(try have hb2:=yF hb);(try have hb2:=yG hb)))|(refine fun (K2:_→AHeap→Prop) hK2=>?_)|((with_reducible refine zY ?_ ?_);decide)|((with_reducible first|refine zZ ?_ (fun K hK=>?_)|refine yA ?_ (fun K hK=>?_));(focus go_simp;done);go_simp;refine hK _ _ ?_;clear hK K)|(go_simp;(try go_bits);(try first | ((refine look_k ma158 un3 ze3 HM.out ?_); rw [HL.out]; go_simp));refine hK2 _ _ ?_;clear hK2 K2))
  exact ⟨rfl, rfl⟩

def idxIf (g : Int → Bool) : List Int → Nat → Int
  | [], _ => -1
  | y :: t, k => if g y = true then k else idxIf g t (k + 1)
theorem idxIf_pos (g : Int → Bool) : ∀ (l : List Int) (k : Nat), decide (0 ≤ idxIf g l k) = l.any g
  | [], k => by simp [idxIf]
  | y :: t, k => by
    rw [idxIf]
    by_cases h : g y = true
    · rw [if_pos h]; simp [h]
    · rw [if_neg h, idxIf_pos g t (k + 1)]; simp [h]

theorem indexFunc_s {loops : List (Nat × LInfo)} {H : AHeap} {v : Value} {xs : List Int} {g : Int → Bool} {p : Nat} (hv : Ints H v xs) (hg : ∀ x, CallS Tryz.prog loops 176 [.int .i64 x, .pointer (some ⟨p, 0, none⟩)] H fun v H' => v = .bool (g x) ∧ H' = H) :
    CallS Tryz.prog loops 207 [v, .func (.func 176) #[] #[.pointer (some ⟨p, 0, none⟩)]] H fun r H' => r = .int .i64 (idxIf g xs 0) ∧ H' = H := by
  obtain ⟨hlen, a, c, rfl⟩ := hv.slice
  have HV := Lib.hid hv
  have HGG := Lib.hid hg
  clear hv hg
  refine CallS.enter' Tryz.func207 rfl Tryz.ntmps207 (by simp) fun f hd hf => ?_
  have f0 := hf 0
  have f1 := hf 1
  simp at f0 f1
  clear hf
  repeat' (first|(with_reducible first|refine zA ?_|refine zB fun K hK=>?_|refine zC fun K2 hK2=>?_|refine zD ?_|refine zE ?_|refine zF ?_|refine zG ?_|refine zH ?_|refine zI ?_|refine zM ?_|refine zN ?_|refine zO ?_|refine zP ?_|refine zQ ?_|refine zR ?_)|((with_reducible refine zU (hK _ _ ?_));clear hK K)|((with_reducible refine zV ?_ ?_ fun K1 K3 d hdst h1 h3=>?_);rfl;exact yB rfl;cases hdst;go_simp)|((with_reducible refine zW fun K1 K3 h1 h3=>?_);go_simp)|((first|refine h1 ?_|refine h3 ?_);clear h1 h3 K1 K3)|((first|refine zX (fun hb=>h1 ?_) (fun hb=>h3 ?_)|refine zX (fun hb=>h3 ?_) (fun hb=>h1 ?_))<;>(clear h1 h3 K1 K3;(try have hb2:=yC hb);(try have hb2:=yD hb);(try have hb2:=yE hb);(try have hb2:=yF hb);(try have hb2:=yG hb)))|(refine fun (K2:_→AHeap→Prop) hK2=>?_)|((with_reducible refine zY ?_ ?_);decide)|((with_reducible first|refine zZ ?_ (fun K hK=>?_)|refine yA ?_ (fun K hK=>?_));(focus go_simp;done);go_simp;refine hK _ _ ?_;clear hK K)|(go_simp;(try go_bits);refine hK2 _ _ ?_;clear hK2 K2))
  refine CodeS.loop (fun m f H' => ∃ k : Nat, k ≤ xs.length ∧ m = xs.length - k ∧ f.tmp 8 = .int .i64 k ∧ f.tmp 0 = .slice a xs.length c ∧ f.tmp 7 = .int .i64 xs.length ∧ f.tmp 1 = .func (.func 176) #[] #[.pointer (some ⟨p, 0, none⟩)] ∧ f.defers = [] ∧ Hid (idxIf g (xs.drop k) k = idxIf g xs 0) ∧ H' = H) xs.length ?_ ?_
  · exact ⟨0, by simp, by simp, (by first|go_simp<;>go_num|assumption), (by first|go_simp<;>go_num|assumption), (by first|go_simp<;>go_num|assumption), (by first|go_simp<;>go_num|assumption), (by first|go_simp<;>go_num|assumption), Lib.hid (by simp), rfl⟩
  clear f0 f1 hd f
  rintro m f H' ⟨k, hk, rfl, f8, f0, f7, f1, hd, HG, rfl⟩
  by_cases hlt : k < xs.length
  · obtain ⟨b, o, sp, rfl, hb, hx⟩ := HV.out.at_ hlt
    have HD := Lib.hid (List.drop_eq_getElem_cons hlt)
    generalize xs[k] = y at hx HD
    repeat' (first|(with_reducible first|refine zA ?_|refine zB fun K hK=>?_|refine zC fun K2 hK2=>?_|refine zD ?_|refine zE ?_|refine zF ?_|refine zG ?_|refine zH ?_|refine zI ?_|refine zM ?_|refine zN ?_|refine zO ?_|refine zP ?_|refine zQ ?_|refine zR ?_)|((with_reducible refine zU (hK _ _ ?_));clear hK K)|((with_reducible refine zV ?_ ?_ fun K1 K3 d hdst h1 h3=>?_);rfl;exact yB rfl;cases hdst;go_simp)|((with_reducible refine zW fun K1 K3 h1 h3=>?_);go_simp)|((first|refine h1 ?_|refine h3 ?_);clear h1 h3 K1 K3)|((first|refine zX (fun hb=>h1 ?_) (fun hb=>h3 ?_)|refine zX (fun hb=>h3 ?_) (fun hb=>h1 ?_))<;>(clear h1 h3 K1 K3;(try have hb2:=yC hb);(try have hb2:=yD hb);(try have hb2:=yE hb);(try have hb2:=yF hb);(try have hb2:=yG hb)))|(refine fun (K2:_→AHeap→Prop) hK2=>?_)|((with_reducible refine zY ?_ ?_);decide)|((with_reducible first|refine zZ ?_ (fun K hK=>?_)|refine yA ?_ (fun K hK=>?_));(focus go_simp;done);go_simp;refine hK _ _ ?_;clear hK K)|(go_simp;(try go_bits);(try first | ((with_reducible show CallS _ _ _ _ _ _);refine CallS.mono (HGG.out y) ?_; rintro _ _ ⟨rfl, rfl⟩));refine hK2 _ _ ?_;clear hK2 K2))
    · refine ⟨?_, rfl⟩
      have hw : g y = true := by simpa using hb
      rw [← HG.out, HD.out]; simp [idxIf, hw]
    · have hw : ¬ g y = true := by simpa using hb
      refine Post.round_normal ⟨xs.length - (k + 1), by omega, k + 1, by omega, rfl, (by first|go_simp<;>go_num|assumption), (by first|go_simp<;>go_num|assumption), (by first|go_simp<;>go_num|assumption), (by first|go_simp<;>go_num|assumption), (by first|go_simp<;>go_num|assumption), Lib.hid ?_, rfl⟩
      rw [← HG.out, HD.out]; simp [idxIf, hw]
  · repeat' (first|(with_reducible first|refine zA ?_|refine zB fun K hK=>?_|refine zC fun K2 hK2=>?_|refine zD ?_|refine zE ?_|refine zF ?_|refine zG ?_|refine zH ?_|refine zI ?_|refine zM ?_|refine zN ?_|refine zO ?_|refine zP ?_|refine zQ ?_|refine zR ?_)|((with_reducible refine zU (hK _ _ ?_));clear hK K)|((with_reducible refine zV ?_ ?_ fun K1 K3 d hdst h1 h3=>?_);rfl;exact yB rfl;cases hdst;go_simp)|((with_reducible refine zW fun K1 K3 h1 h3=>?_);go_simp)|((first|refine h1 ?_|refine h3 ?_);clear h1 h3 K1 K3)|((first|refine zX (fun hb=>h1 ?_) (fun hb=>h3 ?_)|refine zX (fun hb=>h3 ?_) (fun hb=>h1 ?_))<;>(clear h1 h3 K1 K3;(try have hb2:=yC hb);(try have hb2:=yD hb);(try have hb2:=yE hb);(try have hb2:=yF hb);(try have hb2:=yG hb)))|(refine fun (K2:_→AHeap→Prop) hK2=>?_)|((with_reducible refine zY ?_ ?_);decide)|((with_reducible first|refine zZ ?_ (fun K hK=>?_)|refine yA ?_ (fun K hK=>?_));(focus go_simp;done);go_simp;refine hK _ _ ?_;clear hK K)|(go_simp;(try go_bits);refine hK2 _ _ ?_;clear hK2 K2))
    refine ⟨?_, rfl⟩
    rw [← HG.out, List.drop_eq_nil_of_le (by omega)]; rfl

theorem containsFunc_s {loops : List (Nat × LInfo)} {H : AHeap} {v : Value} {xs : List Int} {g : Int → Bool} {p : Nat} (hv : Ints H v xs) (hg : ∀ (loops : List (Nat × LInfo)) x, CallS Tryz.prog loops 176 [.int .i64 x, .pointer (some ⟨p, 0, none⟩)] H fun v H' => v = .bool (g x) ∧ H' = H) :
    CallS Tryz.prog loops 175 [v, .func (.func 176) #[] #[.pointer (some ⟨p, 0, none⟩)]] H fun r H' => r = .bool (xs.any g) ∧ H' = H := by
  have HV := Lib.hid hv
  have HGG := Lib.hid hg
  rw [← idxIf_pos g xs 0]
  generalize hi : idxIf g xs 0 = i
  have HI := Lib.hid hi
  clear hv hg hi
  refine CallS.enter' Tryz.func175 rfl Tryz.ntmps175 (by simp) fun f hd hf => ?_
  have f0 := hf 0
  have f1 := hf 1
  simp at f0 f1
  clear hf
  repeat' (first|(with_reducible first|refine zA ?_|refine zB fun K hK=>?_|refine zC fun K2 hK2=>?_|refine zD ?_|refine zE ?_|refine zF ?_|refine zG ?_|refine zH ?_|refine zI ?_|refine zM ?_|refine zN ?_|refine zO ?_|refine zP ?_|refine zQ ?_|refine zR ?_)|((with_reducible refine zU (hK _ _ ?_));clear hK K)|((with_reducible refine zV ?_ ?_ fun K1 K3 d hdst h1 h3=>?_);rfl;exact yB rfl;cases hdst;go_simp)|((with_reducible refine zW fun K1 K3 h1 h3=>?_);go_simp)|((first|refine h1 ?_|refine h3 ?_);clear h1 h3 K1 K3)|((first|refine zX (fun hb=>h1 ?_) (fun hb=>h3 ?_)|refine zX (fun hb=>h3 ?_) (fun hb=>h1 ?_))<;>(clear h1 h3 K1 K3;(try have hb2:=yC hb);(try have hb2:=yD hb);(try have hb2:=yE hb);(try have hb2:=yF hb);(try have hb2:=yG hb)))|(refine fun (K2:_→AHeap→Prop) hK2=>?_)|((with_reducible refine zY ?_ ?_);decide)|((with_reducible first|refine zZ ?_ (fun K hK=>?_)|refine yA ?_ (fun K hK=>?_));(focus go_simp;done);go_simp;refine hK _ _ ?_;clear hK K)|(go_simp;(try go_bits);(try first | ((with_reducible show CallS _ _ _ _ _ _);refine CallS.mono (indexFunc_s HV.out (HGG.out _)) ?_; rw [HI.out]; rintro _ _ ⟨rfl, rfl⟩));refine hK2 _ _ ?_;clear hK2 K2))
  exact ⟨rfl, rfl⟩

def Tour.listed (t : Tour) (ids : List Int) : Bool := incr ids && ids.all (fun x => decide (x ∈ t.flaws.map (·.id)))

theorem areFlaws_s {loops : List (Nat × LInfo)} {H : AHeap} {v lv : Value} {t : Tour} {ids : List Int} (hv : TourV H v t) (hl : Ints H lv ids) (hnd : (t.flaws.map (·.id)).Nodup) : CallS Tryz.prog loops 142 [v, lv] H fun r H' => r = .bool (t.listed ids) ∧ H' = H := by
  refine CallS.forget (R := fun r => r = .bool (t.listed ids)) (by rintro v rfl; rfl) ?_
  have HV := Lib.hid hv
  have HL := Lib.hid hl
  have HND := Lib.hid hnd
  obtain ⟨cv, fv, rfl, hc, hf⟩ := hv
  obtain ⟨hcl, ca, cc, rfl⟩ := hc.slice
  obtain ⟨hfl, fa, fc, rfl⟩ := hf.slice
  obtain ⟨hll, la, lc, rfl⟩ := hl.slice
  have hany : (ids.all fun x => decide (x ∈ t.flaws.map (·.id))) = !ids.any fun x => !decide (x ∈ t.flaws.map (·.id)) := by rw [List.all_eq_not_any_not]
  unfold Tour.listed
  rw [hany]
  have hinc := fun (loops : List (Nat × LInfo)) (H2 : AHeap) (hx : Ext H H2) => incr_s (loops := loops) (HL.out.ext hx)
  generalize incr ids = ic at hinc ⊢
  have HI := Lib.hid hinc
  clear hc hf hl hinc hany hnd
  refine CallS.enter' Tryz.func142 rfl Tryz.ntmps142 (by simp) fun f hd hf => ?_
  have f0 := hf 0
  have f1 := hf 1
  simp at f0 f1
  clear hf
  repeat' (first|(with_reducible first|refine zA ?_|refine zB fun K hK=>?_|refine zC fun K2 hK2=>?_|refine zD ?_|refine zE ?_|refine zF ?_|refine zG ?_|refine zH ?_|refine zI ?_|refine zM ?_|refine zN ?_|refine zO ?_|refine zP ?_|refine zQ ?_|refine zR ?_)|((with_reducible refine zU (hK _ _ ?_));clear hK K)|((with_reducible refine zV ?_ ?_ fun K1 K3 d hdst h1 h3=>?_);rfl;exact yB rfl;cases hdst;go_simp)|((with_reducible refine zW fun K1 K3 h1 h3=>?_);go_simp)|((first|refine h1 ?_|refine h3 ?_);clear h1 h3 K1 K3)|((first|refine zX (fun hb=>h1 ?_) (fun hb=>h3 ?_)|refine zX (fun hb=>h3 ?_) (fun hb=>h1 ?_))<;>(clear h1 h3 K1 K3;(try have hb2:=yC hb);(try have hb2:=yD hb);(try have hb2:=yE hb);(try have hb2:=yF hb);(try have hb2:=yG hb)))|(refine fun (K2:_→AHeap→Prop) hK2=>?_)|((with_reducible refine zY ?_ ?_);decide)|((with_reducible first|refine zZ ?_ (fun K hK=>?_)|refine yA ?_ (fun K hK=>?_));(focus go_simp;done);go_simp;refine hK _ _ ?_;clear hK K)|(go_simp;(try go_bits);(try first |((with_reducible show CallS _ _ _ _ _ _);first|(refine CallS.mono (indices_e (HV.out.ext ((Ext.refl _).push' _)) HND.out) ?_; rintro _ H2 ⟨rfl, hx2, hn2, hm2⟩; rw [AHeap.n_push] at hn2 hm2)|(refine CallS.mono (HI.out _ _ ((((Ext.refl _).push' _).trans hx2).push' _)) ?_; rintro _ _ ⟨rfl, rfl⟩)|(refine CallS.mono (containsFunc_s (HL.out.ext ((((Ext.refl _).push' _).trans hx2).push' _)) (fun _ _ => notIn_s (by rw [cellAt_new]; rfl) (by rw [AHeap.n_push]; omega) (hm2.ext hn2 (Ext.push _)))) ?_; rintro _ _ ⟨rfl, rfl⟩)));refine hK2 _ _ ?_;clear hK2 K2))
  all_goals (refine ⟨?_, (((Ext.refl _).push' _).trans hx2).push' _⟩; simp_all)

def errList (t : Tour) (ids : List Int) : Int := if err t ≠ 0 then err t else if t.listed ids then 0 else 1

theorem checkList_s {loops : List (Nat × LInfo)} {H : AHeap} {v lv : Value} {t : Tour} {ids : List Int} (hv : TourV H v t) (hl : Ints H lv ids) : CallS Tryz.prog loops 78 [v, lv] H fun r H' => r = .int .i64 (errList t ids) ∧ H' = H := by
  refine CallS.forget (R := fun r => r = .int .i64 (errList t ids)) (by rintro v rfl; rfl) ?_
  have HV := Lib.hid hv
  have HL := Lib.hid hl
  have hcl := fun (loops : List (Nat × LInfo)) (H2 : AHeap) (h : err t = 0) (hx : Ext H H2) => areFlaws_s (loops := loops) (HV.out.ext hx) (HL.out.ext hx) (good_of h).nodup
  have hce := fun (loops : List (Nat × LInfo)) (H2 : AHeap) (hx : Ext H H2) => check_s (loops := loops) (HV.out.ext hx)
  obtain ⟨cv, fv, rfl, hc, hf⟩ := hv
  obtain ⟨hcl', ca, cc, rfl⟩ := hc.slice
  obtain ⟨hfl, fa, fc, rfl⟩ := hf.slice
  obtain ⟨hll, la, lc, rfl⟩ := hl.slice
  unfold errList
  generalize t.listed ids = li at hcl ⊢
  generalize err t = er at hcl hce ⊢
  have HA := Lib.hid hcl
  have HC := Lib.hid hce
  clear hc hf hl hcl hce
  refine CallS.enter' Tryz.func78 rfl Tryz.ntmps78 (by simp) fun f hd hf => ?_
  have f0 := hf 0
  have f1 := hf 1
  simp at f0 f1
  clear hf
  repeat' (first|(with_reducible first|refine zA ?_|refine zB fun K hK=>?_|refine zC fun K2 hK2=>?_|refine zD ?_|refine zE ?_|refine zF ?_|refine zG ?_|refine zH ?_|refine zI ?_|refine zM ?_|refine zN ?_|refine zO ?_|refine zP ?_|refine zQ ?_|refine zR ?_)|((with_reducible refine zU (hK _ _ ?_));clear hK K)|((with_reducible refine zV ?_ ?_ fun K1 K3 d hdst h1 h3=>?_);rfl;exact yB rfl;cases hdst;go_simp)|((with_reducible refine zW fun K1 K3 h1 h3=>?_);go_simp)|((first|refine h1 ?_|refine h3 ?_);clear h1 h3 K1 K3)|((first|refine zX (fun hb=>h1 ?_) (fun hb=>h3 ?_)|refine zX (fun hb=>h3 ?_) (fun hb=>h1 ?_))<;>(clear h1 h3 K1 K3;(try have hb2:=yC hb);(try have hb2:=yD hb);(try have hb2:=yE hb);(try have hb2:=yF hb);(try have hb2:=yG hb)))|(refine fun (K2:_→AHeap→Prop) hK2=>?_)|((with_reducible refine zY ?_ ?_);decide)|((with_reducible first|refine zZ ?_ (fun K hK=>?_)|refine yA ?_ (fun K hK=>?_));(focus go_simp;done);go_simp;refine hK _ _ ?_;clear hK K)|(go_simp;(try go_bits);(try first |((with_reducible show CallS _ _ _ _ _ _);first|(refine CallS.mono (HC.out _ _ ((Ext.refl _).push' _)) ?_; rintro _ _ ⟨rfl, rfl⟩)|(refine CallS.mono (HA.out _ _ (by simpa using ‹(er != 0) = false›) ((Ext.refl _).push' _)) ?_; rintro _ _ ⟨rfl, rfl⟩)));refine hK2 _ _ ?_;clear hK2 K2))
  all_goals (refine ⟨?_, (Ext.refl _).push' _⟩; simp_all)
end Go.Proofs.Tryz
namespace Go.Proofs.Tryz
open Go Go.Am Go.RowKit
set_option maxRecDepth 100000


def planCells (fv : Value) (D : Nat → Int) : List Value := fv :: (List.range 120).map fun i => Value.int .i64 (D i)
def putD (D : Nat → Int) (k : Nat) (v : Int) : Nat → Int := fun i => if i = k then v else D i
variable {fv gv : Value} {D E : Nat → Int}
@[go_sem] theorem planCells_length : (planCells fv D).length = 121 := by simp [planCells]
@[go_sem] theorem planCells_take : (planCells fv D).take 121 = planCells fv D := List.take_of_length_le (by rw [planCells_length]; exact Nat.le_refl _)
theorem range_one : ∀ (l : List Nat) (D : Nat → Int), (l.map fun i => Value.int .i64 (D i)).all oneV = true
  | [], _ => rfl
  | x :: l, D => by simp only [List.map_cons, List.all_cons, range_one l D]; rfl
@[go_sem] theorem planCells_one {a : Option Addr} {n c : Nat} : (planCells (.slice a n c) D).all oneV = true := by
  rw [planCells, List.all_cons, range_one]; rfl
@[go_sem] theorem planCells_get {k : Nat} (h : k < 120) : (planCells fv D)[1 + k]? = some (.int .i64 (D k)) := by
  rw [Nat.add_comm]
  simp [planCells, h]
@[go_sem] theorem planCells_get0 : (planCells fv D)[0]? = some fv := rfl
@[go_sem] theorem setL_plan {k : Nat} {v : Int} (h : k < 120) : setL (planCells fv D) (1 + k) [Value.int .i64 v] = some (planCells fv (putD D k v)) := by
  rw [Nat.add_comm, planCells, setL_succ_cons, setL_one (by simpa using h)]
  simp only [Option.map_some, planCells, Option.some.injEq, List.cons.injEq, true_and]
  apply List.ext_getElem?
  intro i
  rw [List.getElem?_set]
  by_cases hi : k = i
  · subst hi; simp [h, putD]
  · rw [if_neg hi]
    by_cases h2 : i < 120
    · simp [h2, putD, show ¬ i = k from fun e => hi e.symm]
    · simp [h2]
@[go_sem] theorem setL_plan0 {x : Value} : setL (planCells fv D) 0 [x] = some (planCells x D) := rfl
theorem setL_same {l xs : List Value} (h : xs.length = l.length) : setL l 0 xs = some xs := by
  rw [setL_eq _ _ _ (by omega)]
  simp [List.drop_eq_nil_of_le (show l.length ≤ xs.length by omega)]
@[go_sem] theorem setL_planAll : setL (planCells fv D) 0 (planCells gv E) = some (planCells gv E) := setL_same (by simp [planCells])
@[go_sem] theorem setL_put_plan : setL.put (planCells fv D) (planCells gv E) = some (planCells gv E) := by
  rw [← setL_at0]; exact setL_planAll
theorem planCells_congr (h : ∀ i, i < 120 → D i = E i) : planCells fv D = planCells fv E := by
  simp only [planCells, List.cons.injEq, true_and]
  apply List.map_congr_left
  intro i hi
  rw [h i (by simpa using hi)]
@[go_sem] theorem ze116 : zeroT Tryz.prog 116 = some (.agg (planCells (.slice none 0 0) fun _ => 0).toArray) := by kernel_rfl
theorem st116 : structOk Tryz.prog 116 = true := by kernel_rfl

section
variable {H : AHeap} {β : Type} {kk : K β} {other : Unit → Option β} {dst : Option Tmp} {ty : TypeId} {src : String} {af : Array Edge} {g : Option (Nat × Bool)}
@[go_sem] theorem aBin_nil23 : aBin Tryz.prog .eql 23 (.slice none 0 0) (.slice none 0 0) H kk other = other () := by
  have h : nilEq Tryz.prog 23 (.slice none 0 0) (.slice none 0 0) = none := by kernel_rfl
  simp only [aBin, aEq, h]
@[go_sem] theorem aBin_some23 {a : Addr} {n c : Nat} : aBin Tryz.prog .eql 23 (.slice (some a) n c) (.slice none 0 0) H kk other = kk (.bool false) H := by
  have h : nilEq Tryz.prog 23 (.slice (some a) n c) (.slice none 0 0) = some false := by kernel_rfl
  simp only [aBin, aEq, h]
  rfl
theorem aPlain_nil23 {t' : TypeId} {x y : Operand} {ev : Operand → Value} (hx : ev x = .slice none 0 0) (hy : ev y = .slice none 0 0) : aPlain Tryz.prog ⟨dst, .binOp .eql 23 x y t', ty, src, af, g⟩ ev H kk = kk (.bool true) H := by
  rw [plain_of rfl]
  have e1 : ((Op.binOp .eql 23 x y t').operands.toList.all fun x => plainV 6 (ev x)) = true := by
    show ([x, y].all fun x => plainV 6 (ev x)) = true
    simp [hx, hy]
    rfl
  rw [if_pos e1]
  have e2 : pureOf Tryz.prog (execOp ev ⟨dst, .binOp .eql 23 x y t', ty, src, af, g⟩) = some (.value (.bool true)) := by
    simp only [execOp, hx, hy]
    kernel_rfl
  rw [e2]
  rfl
end

theorem flaws_nil (H : AHeap) {a : Option Addr} {c : Nat} (h : a = none → c = 0) : Flaws H (.slice a 0 c) [] := ⟨rfl, Nat.zero_le _, a, c, rfl, h, fun h => absurd h (Nat.lt_irrefl 0)⟩
theorem Flaws.keep {H H' : AHeap} {a : Option Addr} {n c : Nat} {l : List Flaw} (h : Flaws H (.slice a n c) l) (hn : H.n ≤ H'.n) (hk : ∀ x, a = some x → x.block < H.n → H'.get x.block = H.get x.block) : Flaws H' (.slice a n c) l := by
  obtain ⟨h1, h2, a', c', h3, h0, h4⟩ := h
  cases h3
  refine ⟨h1, h2, _, _, rfl, h0, fun hp => ?_⟩
  obtain ⟨b, o, sp, rfl, h6, h7⟩ := h4 hp
  exact ⟨b, o, sp, rfl, Nat.lt_of_lt_of_le h6 hn, fun j u hu => by rw [cellAt_get (hk _ rfl h6)]; exact h7 j u hu⟩
theorem flawCells_one : ∀ l : List Flaw, (flawCells l).all oneV = true
  | [] => rfl
  | a :: t => by
    have h := flawCells_one t
    rw [flawCells] at h ⊢
    rw [List.flatMap_cons, List.all_append, h]; rfl

set_option maxHeartbeats 2000000 in
theorem clone_e {loops : List (Nat × LInfo)} {H : AHeap} {v : Value} {l : List Flaw} (hv : Flaws H v l) (h2 : l.length ≤ 1000) : CallS Tryz.prog loops 137 [v] H fun r H' => (Flaws H' r l ∧ ∃ a c, r = .slice a l.length c ∧ ∀ x, a = some x → H.n ≤ x.block ∧ x.block < H'.n) ∧ Ext H H' := by
  have HXI := Lib.hid hv
  obtain ⟨hl1, -, a, c, rfl, hnil, hsome⟩ := hv
  by_cases ha : a = none
  case' pos =>
    subst ha
    obtain rfl := hnil rfl
    have hl0 : l.length = 0 := by
      rcases Nat.eq_zero_or_pos l.length with h | h
      · exact h
      · obtain ⟨b, o, sp, h5, -⟩ := hsome h; cases h5
    obtain rfl : l = [] := List.length_eq_zero_iff.1 hl0
    clear hsome hl1 hl0 h2 hnil
    refine CallS.enter' Tryz.func137 rfl Tryz.ntmps137 (by simp) fun f hd hf => ?_
    have f0 := hf 0
    simp at f0
    clear hf
    repeat' (first|(with_reducible first|refine zA ?_|refine zB fun K hK=>?_|refine zC fun K2 hK2=>?_|refine zD ?_|refine zE ?_|refine zF ?_|refine zG ?_|refine zH ?_|refine zI ?_|refine zM ?_|refine zN ?_|refine zO ?_|refine zP ?_|refine zQ ?_|refine zR ?_)|((with_reducible refine zU (hK _ _ ?_));clear hK K)|((with_reducible refine zV ?_ ?_ fun K1 K3 d hdst h1 h3=>?_);rfl;exact yB rfl;cases hdst;go_simp)|((with_reducible refine zW fun K1 K3 h1 h3=>?_);go_simp)|((first|refine h1 ?_|refine h3 ?_);clear h1 h3 K1 K3)|((first|refine zX (fun hb=>h1 ?_) (fun hb=>h3 ?_)|refine zX (fun hb=>h3 ?_) (fun hb=>h1 ?_))<;>(clear h1 h3 K1 K3;(try have hb2:=yC hb);(try have hb2:=yD hb);(try have hb2:=yE hb);(try have hb2:=yF hb);(try have hb2:=yG hb)))|(refine fun (K2:_→AHeap→Prop) hK2=>?_)|((with_reducible refine zY ?_ ?_);decide)|((with_reducible first|refine zZ ?_ (fun K hK=>?_)|refine yA ?_ (fun K hK=>?_));(focus go_simp;done);go_simp;refine hK _ _ ?_;clear hK K)|(go_simp;(try go_bits);(try first | ((rw [aPlain_nil23 (by go_simp) (by go_simp)]); go_simp));refine hK2 _ _ ?_;clear hK2 K2))
    exact ⟨⟨flaws_nil _ (fun _ => rfl), _, _, rfl, fun x h => by cases h⟩, Ext.refl _⟩
  case' neg =>
    obtain ⟨ad, rfl⟩ := Option.ne_none_iff_exists'.1 ha
    rcases Nat.eq_zero_or_pos l.length with h1 | h1
    case' inl =>
      obtain rfl : l = [] := List.length_eq_zero_iff.1 h1
      clear hsome hl1 h1 h2 hnil ha
      refine CallS.enter' Tryz.func137 rfl Tryz.ntmps137 (by simp) fun f hd hf => ?_
      have f0 := hf 0
      simp at f0
      clear hf
      repeat' (first|(with_reducible first|refine zA ?_|refine zB fun K hK=>?_|refine zC fun K2 hK2=>?_|refine zD ?_|refine zE ?_|refine zF ?_|refine zG ?_|refine zH ?_|refine zI ?_|refine zM ?_|refine zN ?_|refine zO ?_|refine zP ?_|refine zQ ?_|refine zR ?_)|((with_reducible refine zU (hK _ _ ?_));clear hK K)|((with_reducible refine zV ?_ ?_ fun K1 K3 d hdst h1 h3=>?_);rfl;exact yB rfl;cases hdst;go_simp)|((with_reducible refine zW fun K1 K3 h1 h3=>?_);go_simp)|((first|refine h1 ?_|refine h3 ?_);clear h1 h3 K1 K3)|((first|refine zX (fun hb=>h1 ?_) (fun hb=>h3 ?_)|refine zX (fun hb=>h3 ?_) (fun hb=>h1 ?_))<;>(clear h1 h3 K1 K3;(try have hb2:=yC hb);(try have hb2:=yD hb);(try have hb2:=yE hb);(try have hb2:=yF hb);(try have hb2:=yG hb)))|(refine fun (K2:_→AHeap→Prop) hK2=>?_)|((with_reducible refine zY ?_ ?_);decide)|((with_reducible first|refine zZ ?_ (fun K hK=>?_)|refine yA ?_ (fun K hK=>?_));(focus go_simp;done);go_simp;refine hK _ _ ?_;clear hK K)|(go_simp;(try go_bits);(try first | ((refine lit0_k el23 sz69 ze69 rfl (by decide) ?_); go_simp) | ((refine appendNil_k el23 sz69 srcCells_none ?_); go_simp));refine hK2 _ _ ?_;clear hK2 K2))
      exact ⟨⟨flaws_nil _ (fun h => by cases h), _, _, rfl, fun x h => by cases h; exact ⟨Nat.le_refl _, by rw [AHeap.n_push]; exact Nat.lt_succ_self _⟩⟩, Ext.push _⟩
    case' inr =>
      obtain ⟨b, o, sp, he, hb, hcell⟩ := hsome h1
      cases he
      have hcells : cellsAt H b o (l.length * 4) = some (flawCells l) := by
        have := cellsAt_of (H := H) (b := b) (o := o) (us := flawCells l) (by intro h; rw [h] at hl1; simp at hl1; omega) hcell
        rwa [flawCells_length] at this
      have HCS := Lib.hid hcells
      clear hcell hsome hcells hl1 hnil ha
      refine CallS.enter' Tryz.func137 rfl Tryz.ntmps137 (by simp) fun f hd hf => ?_
      have f0 := hf 0
      simp at f0
      clear hf
      repeat' (first|(with_reducible first|refine zA ?_|refine zB fun K hK=>?_|refine zC fun K2 hK2=>?_|refine zD ?_|refine zE ?_|refine zF ?_|refine zG ?_|refine zH ?_|refine zI ?_|refine zM ?_|refine zN ?_|refine zO ?_|refine zP ?_|refine zQ ?_|refine zR ?_)|((with_reducible refine zU (hK _ _ ?_));clear hK K)|((with_reducible refine zV ?_ ?_ fun K1 K3 d hdst h1 h3=>?_);rfl;exact yB rfl;cases hdst;go_simp)|((with_reducible refine zW fun K1 K3 h1 h3=>?_);go_simp)|((first|refine h1 ?_|refine h3 ?_);clear h1 h3 K1 K3)|((first|refine zX (fun hb=>h1 ?_) (fun hb=>h3 ?_)|refine zX (fun hb=>h3 ?_) (fun hb=>h1 ?_))<;>(clear h1 h3 K1 K3;(try have hb2:=yC hb);(try have hb2:=yD hb);(try have hb2:=yE hb);(try have hb2:=yF hb);(try have hb2:=yG hb)))|(refine fun (K2:_→AHeap→Prop) hK2=>?_)|((with_reducible refine zY ?_ ?_);decide)|((with_reducible first|refine zZ ?_ (fun K hK=>?_)|refine yA ?_ (fun K hK=>?_));(focus go_simp;done);go_simp;refine hK _ _ ?_;clear hK K)|(go_simp;(try go_bits);(try first | ((refine lit0_k el23 sz69 ze69 rfl (by decide) ?_); go_simp) | ((refine append0_g (b := H.n) el23 sz69 by69 ze69 rfl (by decide) (AHeap.get_push_new) (by rw [AHeap.n_push]; omega) (srcCells_some h1 (((Ext.push _).cellsAt hb).trans HCS.out)) h1 (flawCells_length _) (flawCells_one _) (by rw [flawCells_length]; show l.length * 4 * 32 ≤ 1073741824; omega) fun H7 hn7 hg7 hk7 => ?_); (have HO7 := Lib.hid hg7); (have HN7 := Lib.hid hn7); (have HX7 := Lib.hid (grown_ext (Ext.push _) (Nat.le_refl _) hn7 hk7)); clear hn7 hg7 hk7; go_simp));refine hK2 _ _ ?_;clear hK2 K2))
      refine ⟨⟨⟨flawCells_length _, by omega, _, _, rfl, (fun h => by cases h), fun _ => ⟨_, 0, none, rfl, ?_, fun j u hu => ?_⟩⟩, _, _, rfl, fun x h => by cases h; rw [HN7.out]; simp only [AHeap.n_push]; omega⟩, HX7.out⟩
      · rw [HN7.out]; simp only [AHeap.n_push]; omega
      · have := HO7.out
        rw [AHeap.n_push] at this
        simp only [cellAt, this, Nat.zero_add]; exact hu
end Go.Proofs.Tryz
namespace Go.Proofs.Tryz
open Go Go.Am Go.RowKit
set_option maxRecDepth 100000


@[go_sem] theorem aIndexAddr_82 {H : AHeap} {β : Type} {kk : K β} {q : IntKind} {i : Int} {b o : Nat} (h0 : 0 ≤ i) (h1 : i < 120) : aIndexAddr Tryz.prog 114 (.pointer (some ⟨b, o, none⟩)) (.int q i) H kk = kk (.pointer (some ⟨b, o + i.toNat, none⟩)) H := by
  obtain ⟨j, rfl⟩ := Int.eq_ofNat_of_zero_le h0
  show aIndexAddr Tryz.prog 114 (.pointer (some ⟨b, o, none⟩)) (.int q (Int.ofNat j)) H kk = _
  simp only [aIndexAddr, ar114, sz3]
  rw [if_pos (by omega), if_neg (by simp)]
  simp
def IntsL (H : AHeap) (v : Value) (sh : List (List Int)) : Prop := ∃ vs : List Value, vs.length = sh.length ∧ Cells H v 1 sh.length vs ∧ ∀ i (h : i < sh.length) (u : Value), vs[i]? = some u → Ints H u sh[i]
theorem IntsL.slice {H : AHeap} {v : Value} {sh : List (List Int)} (h : IntsL H v sh) : sh.length ≤ 9223372036854775807 ∧ ∃ a c, v = .slice a sh.length c := by
  obtain ⟨vs, h0, ⟨h1, h2, a, c, h3, h4⟩, h5⟩ := h
  exact ⟨h2, a, c, h3⟩
theorem IntsL.at_ {H : AHeap} {a : Option Addr} {n c : Nat} {sh : List (List Int)} (h : IntsL H (.slice a n c) sh) {k : Nat} (hk : k < sh.length) : ∃ b o sp u, a = some ⟨b, o, sp⟩ ∧ b < H.n ∧ cellAt H b (o + k) = some u ∧ Ints H u sh[k] := by
  obtain ⟨vs, h0, ⟨h1, h2, a', c', h3, h6, h4⟩, h5⟩ := h
  cases h3
  obtain ⟨b, o, sp, h7, h8, h9⟩ := h4 (by omega)
  have hv : vs[k]? = some (vs[k]'(by omega)) := List.getElem?_eq_getElem (by omega)
  exact ⟨b, o, sp, _, h7, h8, h9 k _ hv, h5 k hk _ hv⟩
theorem IntsL.ext {H H' : AHeap} {v : Value} {sh : List (List Int)} (h : IntsL H v sh) (hx : Ext H H') : IntsL H' v sh := by
  obtain ⟨vs, h0, h1, h2⟩ := h
  exact ⟨vs, h0, h1.ext hx, fun i hi u hu => (h2 i hi u hu).ext hx⟩

def dayD (days : Int) (sh : List (List Int)) (i : Nat) : Int := if i / 60 < sh.length ∧ ((i % 60 : Nat) : Int) < days ∧ ((i % 60 : Nat) : Int) ∉ sh.getD (i / 60) [] then -1 else -2
theorem dayD_take (days : Int) (sh : List (List Int)) (k i : Nat) : dayD days (sh.take k) i = if i / 60 < k then dayD days sh i else -2 := by
  unfold dayD
  by_cases h : i / 60 < k
  · rw [if_pos h]
    have e : (sh.take k).getD (i / 60) [] = sh.getD (i / 60) [] := by
      rw [List.getD_eq_getElem?_getD, List.getD_eq_getElem?_getD, List.getElem?_take, if_pos h]
    rw [e, List.length_take]
    by_cases h2 : i / 60 < sh.length
    · simp [h2, show i / 60 < min k sh.length by omega]
    · simp [h2, show ¬ i / 60 < min k sh.length by omega]
  · rw [if_neg h, if_neg]
    intro h2
    rw [List.length_take] at h2
    omega

set_option maxHeartbeats 4000000 in
theorem planOf_e {loops : List (Nat × LInfo)} {H : AHeap} {v sv : Value} {t : Tour} {sh : List (List Int)} (hv : TourV H v t) (hs : IntsL H sv sh) (hd1 : win 1 60 t.days = true) (hsh : sh.length ≤ 2) (hfl : t.flaws.length ≤ 1000) :
    CallS Tryz.prog loops 70 [v, sv] H fun r H' => (∃ a c, r = .agg (planCells (.slice a t.flaws.length c) (dayD t.days sh)).toArray ∧ Flaws H' (.slice a t.flaws.length c) t.flaws ∧ ∀ x, a = some x → H.n ≤ x.block ∧ x.block < H'.n) ∧ Ext H H' := by
  obtain ⟨cv, fv, rfl, hc, hf⟩ := hv
  obtain ⟨hcl, ca, cc, rfl⟩ := hc.slice
  obtain ⟨hfl', fa, fc, rfl⟩ := hf.slice
  obtain ⟨hsl, sa, sc, rfl⟩ := hs.slice
  rw [win_iff] at hd1
  obtain ⟨hd1, hd2⟩ := hd1
  have HC := Lib.hid hc
  have HF := Lib.hid hf
  have HS := Lib.hid hs
  generalize hdays : t.days = days at hd1 hd2 ⊢
  have HCL := Lib.hid (fun (loops : List (Nat × LInfo)) (H' : AHeap) (hx : Ext H H') => clone_e (loops := loops) (HF.out.ext hx) hfl)
  generalize t.flaws.length = fl at HF HCL hfl ⊢
  generalize t.flaws = fls at HF HCL ⊢
  clear hc hf hs hdays hfl'
  refine CallS.enter' Tryz.func70 rfl Tryz.ntmps70 (by simp) fun f hd hf => ?_
  have f0 := hf 0
  have f1 := hf 1
  simp at f0 f1
  clear hf
  repeat' (first|(with_reducible first|refine zA ?_|refine zB fun K hK=>?_|refine zC fun K2 hK2=>?_|refine zD ?_|refine zE ?_|refine zF ?_|refine zG ?_|refine zH ?_|refine zI ?_|refine zM ?_|refine zN ?_|refine zO ?_|refine zP ?_|refine zQ ?_|refine zR ?_)|((with_reducible refine zU (hK _ _ ?_));clear hK K)|((with_reducible refine zV ?_ ?_ fun K1 K3 d hdst h1 h3=>?_);rfl;exact yB rfl;cases hdst;go_simp)|((with_reducible refine zW fun K1 K3 h1 h3=>?_);go_simp)|((first|refine h1 ?_|refine h3 ?_);clear h1 h3 K1 K3)|((first|refine zX (fun hb=>h1 ?_) (fun hb=>h3 ?_)|refine zX (fun hb=>h3 ?_) (fun hb=>h1 ?_))<;>(clear h1 h3 K1 K3;(try have hb2:=yC hb);(try have hb2:=yD hb);(try have hb2:=yE hb);(try have hb2:=yF hb);(try have hb2:=yG hb)))|(refine fun (K2:_→AHeap→Prop) hK2=>?_)|((with_reducible refine zY ?_ ?_);decide)|((with_reducible first|refine zZ ?_ (fun K hK=>?_)|refine yA ?_ (fun K hK=>?_));(focus go_simp;done);go_simp;refine hK _ _ ?_;clear hK K)|(go_simp;(try go_bits);(try first | ((with_reducible show CallS _ _ _ _ _ _);refine CallS.mono (HCL.out _ _ (((Ext.refl _).push' _).push' _)) ?_; rintro _ H2 ⟨⟨hF2, ga, gc, rfl, hfr⟩, hx2⟩; (have HFR := Lib.hid hfr); clear hfr; (have HF2 := Lib.hid hF2); (have HX2 := Lib.hid hx2); clear hF2 hx2) | ((rw [aBuild_struct st116 ze116]); go_simp));refine hK2 _ _ ?_;clear hK2 K2))
  refine CodeS.loop (fun m f H' => ∃ (k : Nat) (D : Nat → Int), k ≤ 120 ∧ m = 120 - k ∧ f.tmp 14 = .int .i64 k ∧ f.tmp 1 = .slice sa sh.length sc ∧ f.tmp 2 = .pointer (some ⟨H.n, 0, none⟩) ∧ f.tmp 4 = .pointer (some ⟨H.n + 1, 0, none⟩) ∧ f.tmp 5 = .pointer (some ⟨H2.n, 0, none⟩) ∧ f.defers = [] ∧ Hid (∀ i, i < k → D i = -2) ∧ H' = H2.push (.row (planCells (.slice ga fl gc) D) 116)) 120 ?_ ?_
  · exact ⟨0, fun _ => 0, by simp, by simp, (by first|go_simp<;>go_num|assumption), (by first|go_simp<;>go_num|assumption), (by first|go_simp<;>go_num|assumption), (by first|go_simp<;>go_num|assumption), (by first|go_simp<;>go_num|assumption), (by first|go_simp<;>go_num|assumption), Lib.hid (fun i hi => absurd hi (Nat.not_lt_zero i)), rfl⟩
  clear f0 f1 hd f
  rintro m f H' ⟨k, D, hk, rfl, f14, f1, f2, f4, f5, hd, HD, rfl⟩
  by_cases hlt : k < 120
  · have hlt' : (k : Int) < 120 := by omega
    repeat' (first|(with_reducible first|refine zA ?_|refine zB fun K hK=>?_|refine zC fun K2 hK2=>?_|refine zD ?_|refine zE ?_|refine zF ?_|refine zG ?_|refine zH ?_|refine zI ?_|refine zM ?_|refine zN ?_|refine zO ?_|refine zP ?_|refine zQ ?_|refine zR ?_)|((with_reducible refine zU (hK _ _ ?_));clear hK K)|((with_reducible refine zV ?_ ?_ fun K1 K3 d hdst h1 h3=>?_);rfl;exact yB rfl;cases hdst;go_simp)|((with_reducible refine zW fun K1 K3 h1 h3=>?_);go_simp)|((first|refine h1 ?_|refine h3 ?_);clear h1 h3 K1 K3)|((first|refine zX (fun hb=>h1 ?_) (fun hb=>h3 ?_)|refine zX (fun hb=>h3 ?_) (fun hb=>h1 ?_))<;>(clear h1 h3 K1 K3;(try have hb2:=yC hb);(try have hb2:=yD hb);(try have hb2:=yE hb);(try have hb2:=yF hb);(try have hb2:=yG hb)))|(refine fun (K2:_→AHeap→Prop) hK2=>?_)|((with_reducible refine zY ?_ ?_);decide)|((with_reducible first|refine zZ ?_ (fun K hK=>?_)|refine yA ?_ (fun K hK=>?_));(focus go_simp;done);go_simp;refine hK _ _ ?_;clear hK K)|(go_simp;(try go_bits);refine hK2 _ _ ?_;clear hK2 K2))
    refine Post.round_normal ⟨120 - (k + 1), by omega, k + 1, putD D k (-2), by omega, rfl, (by first|go_simp<;>go_num|assumption), (by first|go_simp<;>go_num|assumption), (by first|go_simp<;>go_num|assumption), (by first|go_simp<;>go_num|assumption), (by first|go_simp<;>go_num|assumption), (by first|go_simp<;>go_num|assumption), Lib.hid (fun i hi => ?_), rfl⟩
    unfold putD
    split
    · rfl
    · exact HD.out i (by omega)
  have hlt' : ¬ (k : Int) < 120 := by omega
  have hD0 : ∀ i, i < 120 → D i = dayD days (sh.take 0) i := fun i hi => by
    rw [dayD_take, if_neg (Nat.not_lt_zero _)]
    exact HD.out i (by omega)
  have HD0 := Lib.hid hD0
  have hT : cellAt H2 H.n 0 = some (.int .i64 days) := by
    rw [cellAt_get (HX2.out.get _ (by simp only [AHeap.n_push]; omega)), cellAt_get (AHeap.get_push_old (by simp only [AHeap.n_push]; omega)), cellAt_new]; rfl
  have hnn : H.n + 1 < H2.n := by have := HX2.out.n; simp only [AHeap.n_push] at this; omega
  have hR : H2.get (H.n + 1) = .row (planCells (.slice none 0 0) fun _ => 0) 116 := by
    rw [HX2.out.get _ (by simp only [AHeap.n_push]; omega), show H.n + 1 = (H.push (.row [.int .i64 days, .slice ca t.closed.length cc, .slice fa fl fc] 25)).n from rfl, AHeap.get_push_new]
  have HR := Lib.hid hR
  have hn0 : H.n < H2.n := by omega
  have HX := Lib.hid ((((Ext.refl H).push' _).push' _).trans HX2.out)
  clear hD0 HD hR HX2 hk hlt
  repeat' (first|(with_reducible first|refine zA ?_|refine zB fun K hK=>?_|refine zC fun K2 hK2=>?_|refine zD ?_|refine zE ?_|refine zF ?_|refine zG ?_|refine zH ?_|refine zI ?_|refine zM ?_|refine zN ?_|refine zO ?_|refine zP ?_|refine zQ ?_|refine zR ?_)|((with_reducible refine zU (hK _ _ ?_));clear hK K)|((with_reducible refine zV ?_ ?_ fun K1 K3 d hdst h1 h3=>?_);rfl;exact yB rfl;cases hdst;go_simp)|((with_reducible refine zW fun K1 K3 h1 h3=>?_);go_simp)|((first|refine h1 ?_|refine h3 ?_);clear h1 h3 K1 K3)|((first|refine zX (fun hb=>h1 ?_) (fun hb=>h3 ?_)|refine zX (fun hb=>h3 ?_) (fun hb=>h1 ?_))<;>(clear h1 h3 K1 K3;(try have hb2:=yC hb);(try have hb2:=yD hb);(try have hb2:=yE hb);(try have hb2:=yF hb);(try have hb2:=yG hb)))|(refine fun (K2:_→AHeap→Prop) hK2=>?_)|((with_reducible refine zY ?_ ?_);decide)|((with_reducible first|refine zZ ?_ (fun K hK=>?_)|refine yA ?_ (fun K hK=>?_));(focus go_simp;done);go_simp;refine hK _ _ ?_;clear hK K)|(go_simp;(try go_bits);refine hK2 _ _ ?_;clear hK2 K2))
  refine CodeS.loop (fun m f H' => ∃ (k : Nat) (D : Nat → Int), k ≤ sh.length ∧ m = sh.length - k ∧ f.tmp 23 = .int .i64 k ∧ f.tmp 22 = .int .i64 sh.length ∧ f.tmp 21 = .slice sa sh.length sc ∧ f.tmp 2 = .pointer (some ⟨H.n, 0, none⟩) ∧ f.tmp 4 = .pointer (some ⟨H.n + 1, 0, none⟩) ∧ f.tmp 5 = .pointer (some ⟨H2.n, 0, none⟩) ∧ f.defers = [] ∧ Hid (∀ i, i < 120 → D i = dayD days (sh.take k) i) ∧ H' = H2.push (.row (planCells (.slice ga fl gc) D) 116)) sh.length ?_ ?_
  · exact ⟨0, D, by simp, by simp, (by first|go_simp<;>go_num|assumption), (by first|go_simp<;>go_num|assumption), (by first|go_simp<;>go_num|assumption), (by first|go_simp<;>go_num|assumption), (by first|go_simp<;>go_num|assumption), (by first|go_simp<;>go_num|assumption), (by first|go_simp<;>go_num|assumption), HD0, rfl⟩
  clear f14 f1 f2 f4 f5 hd f HD0 D hlt' k
  rintro m f H' ⟨k, D, hk, rfl, f23, f22, f21, f2, f4, f5, hd, HD, rfl⟩
  by_cases hlt : k < sh.length
  · obtain ⟨b, o, sp, u, rfl, hb, hxu, hiu⟩ := (HS.out.ext HX.out).at_ hlt
    obtain ⟨hll, la, lc, rfl⟩ := hiu.slice
    have HU := Lib.hid hiu
    have HTK : Hid (∀ i, dayD days (sh.take (k + 1)) i = if i / 60 = k then (if ((i % 60 : Nat) : Int) < days ∧ ((i % 60 : Nat) : Int) ∉ sh[k] then -1 else -2) else dayD days (sh.take k) i) := Lib.hid (fun i => by
      rw [dayD_take, dayD_take]
      by_cases h : i / 60 = k
      · rw [if_pos h, if_pos (by omega), dayD, h]
        simp [hlt]
      · rw [if_neg h]
        by_cases h2 : i / 60 < k
        · rw [if_pos h2, if_pos (by omega)]
        · rw [if_neg h2, if_neg (by omega)])
    generalize sh[k] = l at hxu hll HU HTK
    clear hiu
    repeat' (first|(with_reducible first|refine zA ?_|refine zB fun K hK=>?_|refine zC fun K2 hK2=>?_|refine zD ?_|refine zE ?_|refine zF ?_|refine zG ?_|refine zH ?_|refine zI ?_|refine zM ?_|refine zN ?_|refine zO ?_|refine zP ?_|refine zQ ?_|refine zR ?_)|((with_reducible refine zU (hK _ _ ?_));clear hK K)|((with_reducible refine zV ?_ ?_ fun K1 K3 d hdst h1 h3=>?_);rfl;exact yB rfl;cases hdst;go_simp)|((with_reducible refine zW fun K1 K3 h1 h3=>?_);go_simp)|((first|refine h1 ?_|refine h3 ?_);clear h1 h3 K1 K3)|((first|refine zX (fun hb=>h1 ?_) (fun hb=>h3 ?_)|refine zX (fun hb=>h3 ?_) (fun hb=>h1 ?_))<;>(clear h1 h3 K1 K3;(try have hb2:=yC hb);(try have hb2:=yD hb);(try have hb2:=yE hb);(try have hb2:=yF hb);(try have hb2:=yG hb)))|(refine fun (K2:_→AHeap→Prop) hK2=>?_)|((with_reducible refine zY ?_ ?_);decide)|((with_reducible first|refine zZ ?_ (fun K hK=>?_)|refine yA ?_ (fun K hK=>?_));(focus go_simp;done);go_simp;refine hK _ _ ?_;clear hK K)|(go_simp;(try go_bits);refine hK2 _ _ ?_;clear hK2 K2))
    refine CodeS.loop (fun m f H' => ∃ (d : Nat) (E : Nat → Int), (d : Int) ≤ days ∧ m = days.toNat - d ∧ f.tmp 30 = .int .i64 d ∧ f.tmp 29 = .int .i64 days ∧ f.tmp 8 = .slice la l.length lc ∧ f.tmp 7 = .int .i64 k ∧ f.tmp 23 = .int .i64 k ∧ f.tmp 22 = .int .i64 sh.length ∧ f.tmp 21 = .slice (some ⟨b, o, sp⟩) sh.length sc ∧ f.tmp 2 = .pointer (some ⟨H.n, 0, none⟩) ∧ f.tmp 4 = .pointer (some ⟨H.n + 1, 0, none⟩) ∧ f.tmp 5 = .pointer (some ⟨H2.n, 0, none⟩) ∧ f.defers = [] ∧ Hid (∀ i, i < 120 → E i = if i / 60 = k ∧ d ≤ i % 60 then -2 else dayD days (sh.take (k + 1)) i) ∧ H' = H2.push (.row (planCells (.slice ga fl gc) E) 116)) days.toNat ?_ ?_
    · refine ⟨0, D, by omega, by simp, (by first|go_simp<;>go_num|assumption), (by first|go_simp<;>go_num|assumption), (by first|go_simp<;>go_num|assumption), (by first|go_simp<;>go_num|assumption), (by first|go_simp<;>go_num|assumption), (by first|go_simp<;>go_num|assumption), (by first|go_simp<;>go_num|assumption), (by first|go_simp<;>go_num|assumption), (by first|go_simp<;>go_num|assumption), (by first|go_simp<;>go_num|assumption), (by first|go_simp<;>go_num|assumption), Lib.hid (fun i hi => ?_), rfl⟩
      rw [HD.out i hi, HTK.out]
      by_cases h : i / 60 = k
      · rw [if_pos ⟨h, Nat.zero_le _⟩, dayD_take, if_neg (by omega)]
      · rw [if_neg (fun h2 => h h2.1), if_neg h]
    clear f23 f22 f21 f2 f4 f5 hd f HD D
    rintro m f H' ⟨d, E, hdd, rfl, f30, f29, f8, f7, f23, f22, f21, f2, f4, f5, hd, HE, rfl⟩
    by_cases hlt2 : (d : Int) < days
    · have hk1 : k < 2 := by omega
      have hd9 : d < 60 := by omega
      have e60 : ((k : Int) * 60 + (d : Int)).toNat = k * 60 + d := by omega
      have h0 : (0 : Int) ≤ (k : Int) * 60 + (d : Int) := by omega
      have h9 : (k : Int) * 60 + (d : Int) < 120 := by omega
      have h8 : k * 60 + d < 120 := by omega
      clear hlt hk hdd
      repeat' (first|(with_reducible first|refine zA ?_|refine zB fun K hK=>?_|refine zC fun K2 hK2=>?_|refine zD ?_|refine zE ?_|refine zF ?_|refine zG ?_|refine zH ?_|refine zI ?_|refine zM ?_|refine zN ?_|refine zO ?_|refine zP ?_|refine zQ ?_|refine zR ?_)|((with_reducible refine zU (hK _ _ ?_));clear hK K)|((with_reducible refine zV ?_ ?_ fun K1 K3 d hdst h1 h3=>?_);rfl;exact yB rfl;cases hdst;go_simp)|((with_reducible refine zW fun K1 K3 h1 h3=>?_);go_simp)|((first|refine h1 ?_|refine h3 ?_);clear h1 h3 K1 K3)|((first|refine zX (fun hb=>h1 ?_) (fun hb=>h3 ?_)|refine zX (fun hb=>h3 ?_) (fun hb=>h1 ?_))<;>(clear h1 h3 K1 K3;(try have hb2:=yC hb);(try have hb2:=yD hb);(try have hb2:=yE hb);(try have hb2:=yF hb);(try have hb2:=yG hb)))|(refine fun (K2:_→AHeap→Prop) hK2=>?_)|((with_reducible refine zY ?_ ?_);decide)|((with_reducible first|refine zZ ?_ (fun K hK=>?_)|refine yA ?_ (fun K hK=>?_));(focus go_simp;done);go_simp;refine hK _ _ ?_;clear hK K)|(go_simp;(try go_bits);(try first | ((with_reducible show CallS _ _ _ _ _ _);refine CallS.mono (contains_s (HU.out.ext (Ext.push _))) ?_; rintro _ _ ⟨rfl, rfl⟩));refine hK2 _ _ ?_;clear hK2 K2))
      · have hnl : (d : Int) ∉ l := by simpa using hb
        refine Post.round_normal ⟨days.toNat - (d + 1), by omega, d + 1, putD E (k * 60 + d) (-1), by omega, rfl, (by first|go_simp<;>go_num|assumption), (by first|go_simp<;>go_num|assumption), (by first|go_simp<;>go_num|assumption), (by first|go_simp<;>go_num|assumption), (by first|go_simp<;>go_num|assumption), (by first|go_simp<;>go_num|assumption), (by first|go_simp<;>go_num|assumption), (by first|go_simp<;>go_num|assumption), (by first|go_simp<;>go_num|assumption), (by first|go_simp<;>go_num|assumption), (by first|go_simp<;>go_num|assumption), Lib.hid (fun i hi => ?_), rfl⟩
        unfold putD
        rw [HTK.out]
        by_cases h : i = k * 60 + d
        · subst h
          have e1 : (k * 60 + d) / 60 = k := by omega
          have e2 : (k * 60 + d) % 60 = d := by omega
          rw [if_pos rfl, e1, e2, if_neg (by omega), if_pos rfl, if_pos ⟨hlt2, hnl⟩]
        · rw [if_neg h, HE.out i hi, HTK.out]
          by_cases h2 : i / 60 = k ∧ d ≤ i % 60
          · rw [if_pos h2, if_pos ⟨h2.1, by omega⟩]
          · rw [if_neg h2, if_neg (c := i / 60 = k ∧ d + 1 ≤ i % 60) (fun h3 => h2 ⟨h3.1, by omega⟩)]
      · have hnl : (d : Int) ∈ l := by simpa using hb
        refine Post.round_normal ⟨days.toNat - (d + 1), by omega, d + 1, E, by omega, rfl, (by first|go_simp<;>go_num|assumption), (by first|go_simp<;>go_num|assumption), (by first|go_simp<;>go_num|assumption), (by first|go_simp<;>go_num|assumption), (by first|go_simp<;>go_num|assumption), (by first|go_simp<;>go_num|assumption), (by first|go_simp<;>go_num|assumption), (by first|go_simp<;>go_num|assumption), (by first|go_simp<;>go_num|assumption), (by first|go_simp<;>go_num|assumption), (by first|go_simp<;>go_num|assumption), Lib.hid (fun i hi => ?_), rfl⟩
        rw [HE.out i hi, HTK.out]
        by_cases h2 : i / 60 = k ∧ d ≤ i % 60
        · rw [if_pos h2]
          by_cases h3 : i / 60 = k ∧ d + 1 ≤ i % 60
          · rw [if_pos h3]
          · have e2 : i % 60 = d := by omega
            rw [if_neg h3, if_pos h2.1, e2, if_neg (fun h4 => h4.2 hnl)]
        · rw [if_neg h2, if_neg (c := i / 60 = k ∧ d + 1 ≤ i % 60) (fun h3 => h2 ⟨h3.1, by omega⟩)]
    · repeat' (first|(with_reducible first|refine zA ?_|refine zB fun K hK=>?_|refine zC fun K2 hK2=>?_|refine zD ?_|refine zE ?_|refine zF ?_|refine zG ?_|refine zH ?_|refine zI ?_|refine zM ?_|refine zN ?_|refine zO ?_|refine zP ?_|refine zQ ?_|refine zR ?_)|((with_reducible refine zU (hK _ _ ?_));clear hK K)|((with_reducible refine zV ?_ ?_ fun K1 K3 d hdst h1 h3=>?_);rfl;exact yB rfl;cases hdst;go_simp)|((with_reducible refine zW fun K1 K3 h1 h3=>?_);go_simp)|((first|refine h1 ?_|refine h3 ?_);clear h1 h3 K1 K3)|((first|refine zX (fun hb=>h1 ?_) (fun hb=>h3 ?_)|refine zX (fun hb=>h3 ?_) (fun hb=>h1 ?_))<;>(clear h1 h3 K1 K3;(try have hb2:=yC hb);(try have hb2:=yD hb);(try have hb2:=yE hb);(try have hb2:=yF hb);(try have hb2:=yG hb)))|(refine fun (K2:_→AHeap→Prop) hK2=>?_)|((with_reducible refine zY ?_ ?_);decide)|((with_reducible first|refine zZ ?_ (fun K hK=>?_)|refine yA ?_ (fun K hK=>?_));(focus go_simp;done);go_simp;refine hK _ _ ?_;clear hK K)|(go_simp;(try go_bits);refine hK2 _ _ ?_;clear hK2 K2))
      refine Post.round_normal ⟨sh.length - (k + 1), by omega, k + 1, E, by omega, rfl, (by first|go_simp<;>go_num|assumption), (by first|go_simp<;>go_num|assumption), (by first|go_simp<;>go_num|assumption), (by first|go_simp<;>go_num|assumption), (by first|go_simp<;>go_num|assumption), (by first|go_simp<;>go_num|assumption), (by first|go_simp<;>go_num|assumption), Lib.hid (fun i hi => ?_), rfl⟩
      rw [HE.out i hi]
      by_cases h2 : i / 60 = k ∧ d ≤ i % 60
      · rw [if_pos h2, HTK.out, if_pos h2.1, if_neg (fun h4 => by omega)]
      · rw [if_neg h2]
  · have hkk : k = sh.length := by omega
    have HD2 : Hid (planCells (.slice ga fl gc) D = planCells (.slice ga fl gc) (dayD days sh)) := Lib.hid (planCells_congr fun i hi => by rw [HD.out i hi, hkk, List.take_length])
    have hd2 := HD2.out
    clear HD hkk
    rw [hd2]
    clear HD2 hd2 D
    have hr : (H2.push (.row (planCells (.slice ga fl gc) (dayD days sh)) 116)).get (H.n + 1) = .row (planCells (.slice none 0 0) fun _ => 0) 116 := (AHeap.get_push_old hnn).trans HR.out
    repeat' (first|(with_reducible first|refine zA ?_|refine zB fun K hK=>?_|refine zC fun K2 hK2=>?_|refine zD ?_|refine zE ?_|refine zF ?_|refine zG ?_|refine zH ?_|refine zI ?_|refine zM ?_|refine zN ?_|refine zO ?_|refine zP ?_|refine zQ ?_|refine zR ?_)|((with_reducible refine zU (hK _ _ ?_));clear hK K)|((with_reducible refine zV ?_ ?_ fun K1 K3 d hdst h1 h3=>?_);rfl;exact yB rfl;cases hdst;go_simp)|((with_reducible refine zW fun K1 K3 h1 h3=>?_);go_simp)|((first|refine h1 ?_|refine h3 ?_);clear h1 h3 K1 K3)|((first|refine zX (fun hb=>h1 ?_) (fun hb=>h3 ?_)|refine zX (fun hb=>h3 ?_) (fun hb=>h1 ?_))<;>(clear h1 h3 K1 K3;(try have hb2:=yC hb);(try have hb2:=yD hb);(try have hb2:=yE hb);(try have hb2:=yF hb);(try have hb2:=yG hb)))|(refine fun (K2:_→AHeap→Prop) hK2=>?_)|((with_reducible refine zY ?_ ?_);decide)|((with_reducible first|refine zZ ?_ (fun K hK=>?_)|refine yA ?_ (fun K hK=>?_));(focus go_simp;done);go_simp;refine hK _ _ ?_;clear hK K)|(go_simp;(try go_bits);refine hK2 _ _ ?_;clear hK2 K2))
    refine ⟨⟨ga, gc, rfl, ?_, fun x hx => ?_⟩, (HX.out.upd (by omega) _).push' _⟩
    · exact (HF2.out.keep (by rw [AHeap.n_upd]; exact Nat.le_refl _) (fun x hx hlt => AHeap.get_upd_ne (by have := (HFR.out x hx).1; simp only [AHeap.n_push] at this; omega))).ext (Ext.push _)
    · have := HFR.out x hx
      simp only [AHeap.n_push, AHeap.n_upd] at this ⊢
      omega
end Go.Proofs.Tryz
