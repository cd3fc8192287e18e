/- Contracts of functions, walked. -/
import Derived.Test.YtbpdmnkbehapcaaGreatStMA
set_option linter.all false
namespace Go.Proofs.Tryz
open Go Go.Am Go.RowKit
set_option maxRecDepth 100000


def lsk (S l : List Int) : Nat → Bool
  | 0 => true
  | k + 1 => lsk S l k && (decide (l.getD k 0 ∈ S) && (decide (k = 0) || decide (l.getD (k - 1) 0 < l.getD k 0)))
theorem lsk_iff {S l : List Int} : ∀ n, lsk S l n = true ↔ ∀ i, i < n → l.getD i 0 ∈ S ∧ (i = 0 ∨ l.getD (i - 1) 0 < l.getD i 0)
  | 0 => by simp [lsk]
  | n + 1 => by
    rw [lsk, Bool.and_eq_true, lsk_iff n]
    simp only [Bool.and_eq_true, Bool.or_eq_true, decide_eq_true_eq]
    constructor
    · rintro ⟨h1, h2⟩ i hi
      rcases Nat.lt_or_ge i n with h | h
      · exact h1 i h
      · obtain rfl : i = n := by omega
        exact h2
    · intro h
      exact ⟨fun i hi => h i (by omega), h n (by omega)⟩
theorem lsk_listed (t : Tour) (l : List Int) : lsk (t.flaws.map (·.id)) l l.length = t.listed l := by
  rw [Bool.eq_iff_iff, lsk_iff]
  simp only [Tour.listed, Bool.and_eq_true, List.all_eq_true, decide_eq_true_eq]
  constructor
  · intro h
    have hs : ∀ m k, k + m = l.length → incr (l.drop k) = true := by
      intro m
      induction m with
      | zero => intro k hk; rw [List.drop_eq_nil_of_le (by omega)]; rfl
      | succ m ih =>
        intro k hk
        by_cases h1 : k + 1 < l.length
        · rw [incr_drop l k h1, ih (k + 1) (by omega)]
          have := (h (k + 1) h1).2
          rw [getD_at h1, Nat.add_sub_cancel, getD_at (by omega)] at this
          simpa using this
        · rw [List.drop_eq_getElem_cons (by omega), List.drop_eq_nil_of_le (by omega)]; rfl
    refine ⟨by simpa using hs l.length 0 (by omega), fun x hx => ?_⟩
    obtain ⟨i, hi, rfl⟩ := List.mem_iff_getElem.1 hx
    have := (h i hi).1
    rwa [getD_at hi] at this
  · rintro ⟨h1, h2⟩ i hi
    have hp := incr_lt _ h1
    rw [List.pairwise_iff_getElem] at hp
    rw [getD_at hi]
    refine ⟨h2 _ (List.getElem_mem hi), ?_⟩
    by_cases h0 : i = 0
    · exact .inl h0
    · refine .inr ?_
      rw [getD_at (show i - 1 < l.length by omega)]
      exact hp (i - 1) i (by omega) hi (by omega)
theorem lsk_mono {S l : List Int} {k n : Nat} (h : k ≤ n) (hk : lsk S l k = false) : lsk S l n = false := by
  rw [Bool.eq_false_iff] at hk ⊢
  intro hn
  exact hk ((lsk_iff k).2 fun i hi => (lsk_iff n).1 hn i (by omega))
theorem fIdx_neg (x : Int) (l : List Flaw) : (fIdx x l 0 < 0 ↔ x ∉ l.map (·.id)) := by
  rw [fIdx_eq]
  by_cases h : x ∈ l.map (·.id)
  · rw [if_pos h]; simp only [h, not_true, iff_false]; omega
  · rw [if_neg h]; simp [h]

set_option maxHeartbeats 4000000 in
theorem rlisted_s {loops : List (Nat × LInfo)} {H : AHeap} {v lv : Value} {t : Tour} {ids : List Int} (hv : TourV H v t) (hl : Ints H lv ids) : CallS Tryz.prog loops 76 [v, lv] H fun r H' => r = .int .i64 (errList t ids) ∧ H' = H := by
  refine CallS.forget (R := fun r => r = .int .i64 (errList t ids)) (by rintro v rfl; rfl) ?_
  have HV := Lib.hid hv
  have HCE := Lib.hid (fun (loops : List (Nat × LInfo)) (H2 : AHeap) (hx : Ext H H2) => rcheck_s (loops := loops) (HV.out.ext hx))
  obtain ⟨cv, fv, rfl, hc, hf⟩ := hv
  obtain ⟨hcl, ca, cc, rfl⟩ := hc.slice
  obtain ⟨hfl, fa, fc, rfl⟩ := hf.slice
  obtain ⟨hll, la, lc, rfl⟩ := hl.slice
  have HL := Lib.hid hl
  clear hc hf hl
  by_cases he : err t = 0
  case' neg =>
    have HE : Hid (errList t ids = err t) := Lib.hid (by rw [errList, if_pos he])
    rw [HE.out]
    generalize err t = er at HCE he
    have heb : (er == 0) = false := by simpa using he
    clear he HE
    refine CallS.enter' Tryz.func76 rfl Tryz.ntmps76 (by simp) fun f hd hf => ?_
    have f0 := hf 0
    have f1 := hf 1
    simp at f0 f1
    clear hf
    repeat' (first|(with_reducible first|refine zA ?_|refine zB fun K hK=>?_|refine zC fun K2 hK2=>?_|refine zD ?_|refine zE ?_|refine zF ?_|refine zG ?_|refine zH ?_|refine zI ?_|refine zM ?_|refine zN ?_|refine zO ?_|refine zP ?_|refine zQ ?_|refine zR ?_)|((with_reducible refine zU (hK _ _ ?_));clear hK K)|((with_reducible refine zV ?_ ?_ fun K1 K3 d hdst h1 h3=>?_);rfl;exact yB rfl;cases hdst;go_simp)|((with_reducible refine zW fun K1 K3 h1 h3=>?_);go_simp)|((first|refine h1 ?_|refine h3 ?_);clear h1 h3 K1 K3)|((first|refine zX (fun hb=>h1 ?_) (fun hb=>h3 ?_)|refine zX (fun hb=>h3 ?_) (fun hb=>h1 ?_))<;>(clear h1 h3 K1 K3;(try have hb2:=yC hb);(try have hb2:=yD hb);(try have hb2:=yE hb);(try have hb2:=yF hb);(try have hb2:=yG hb)))|(refine fun (K2:_→AHeap→Prop) hK2=>?_)|((with_reducible refine zY ?_ ?_);decide)|((with_reducible first|refine zZ ?_ (fun K hK=>?_)|refine yA ?_ (fun K hK=>?_));(focus go_simp;done);go_simp;refine hK _ _ ?_;clear hK K)|(go_simp;(try go_bits);(try first | ((with_reducible show CallS _ _ _ _ _ _);refine CallS.mono (HCE.out _ _ ((Ext.refl _).push' _)) ?_; rintro _ _ ⟨rfl, rfl⟩));refine hK2 _ _ ?_;clear hK2 K2))
    refine CodeS.loop (fun m f H' => f.tmp 6 = .int .i64 0 ∧ f.tmp 5 = .int .i64 er ∧ f.tmp 1 = .slice la ids.length lc ∧ f.defers = [] ∧ Ext H H') 0 ?_ ?_
    · exact ⟨(by first|go_simp<;>go_num|assumption), (by first|go_simp<;>go_num|assumption), (by first|go_simp<;>go_num|assumption), (by first|go_simp<;>go_num|assumption), (Ext.refl _).push' _⟩
    clear f0 f1 hd f
    rintro m f H' ⟨f6, f5, f1, hd, hx⟩
    by_cases hlt : (0 : Int) < (ids.length : Int)
    · repeat' (first|(with_reducible first|refine zA ?_|refine zB fun K hK=>?_|refine zC fun K2 hK2=>?_|refine zD ?_|refine zE ?_|refine zF ?_|refine zG ?_|refine zH ?_|refine zI ?_|refine zM ?_|refine zN ?_|refine zO ?_|refine zP ?_|refine zQ ?_|refine zR ?_)|((with_reducible refine zU (hK _ _ ?_));clear hK K)|((with_reducible refine zV ?_ ?_ fun K1 K3 d hdst h1 h3=>?_);rfl;exact yB rfl;cases hdst;go_simp)|((with_reducible refine zW fun K1 K3 h1 h3=>?_);go_simp)|((first|refine h1 ?_|refine h3 ?_);clear h1 h3 K1 K3)|((first|refine zX (fun hb=>h1 ?_) (fun hb=>h3 ?_)|refine zX (fun hb=>h3 ?_) (fun hb=>h1 ?_))<;>(clear h1 h3 K1 K3;(try have hb2:=yC hb);(try have hb2:=yD hb);(try have hb2:=yE hb);(try have hb2:=yF hb);(try have hb2:=yG hb)))|(refine fun (K2:_→AHeap→Prop) hK2=>?_)|((with_reducible refine zY ?_ ?_);decide)|((with_reducible first|refine zZ ?_ (fun K hK=>?_)|refine yA ?_ (fun K hK=>?_));(focus go_simp;done);go_simp;refine hK _ _ ?_;clear hK K)|(go_simp;(try go_bits);refine hK2 _ _ ?_;clear hK2 K2))
      all_goals exact ⟨rfl, hx⟩
    · repeat' (first|(with_reducible first|refine zA ?_|refine zB fun K hK=>?_|refine zC fun K2 hK2=>?_|refine zD ?_|refine zE ?_|refine zF ?_|refine zG ?_|refine zH ?_|refine zI ?_|refine zM ?_|refine zN ?_|refine zO ?_|refine zP ?_|refine zQ ?_|refine zR ?_)|((with_reducible refine zU (hK _ _ ?_));clear hK K)|((with_reducible refine zV ?_ ?_ fun K1 K3 d hdst h1 h3=>?_);rfl;exact yB rfl;cases hdst;go_simp)|((with_reducible refine zW fun K1 K3 h1 h3=>?_);go_simp)|((first|refine h1 ?_|refine h3 ?_);clear h1 h3 K1 K3)|((first|refine zX (fun hb=>h1 ?_) (fun hb=>h3 ?_)|refine zX (fun hb=>h3 ?_) (fun hb=>h1 ?_))<;>(clear h1 h3 K1 K3;(try have hb2:=yC hb);(try have hb2:=yD hb);(try have hb2:=yE hb);(try have hb2:=yF hb);(try have hb2:=yG hb)))|(refine fun (K2:_→AHeap→Prop) hK2=>?_)|((with_reducible refine zY ?_ ?_);decide)|((with_reducible first|refine zZ ?_ (fun K hK=>?_)|refine yA ?_ (fun K hK=>?_));(focus go_simp;done);go_simp;refine hK _ _ ?_;clear hK K)|(go_simp;(try go_bits);refine hK2 _ _ ?_;clear hK2 K2))
      all_goals exact ⟨rfl, hx⟩
  rw [he] at HCE
  have HE : Hid (errList t ids = if t.listed ids = true then 0 else 1) := Lib.hid (by rw [errList, if_neg (by simp [he])])
  rw [HE.out, ← lsk_listed]
  clear he HE
  refine CallS.enter' Tryz.func76 rfl Tryz.ntmps76 (by simp) fun f hd hf => ?_
  have f0 := hf 0
  have f1 := hf 1
  simp at f0 f1
  clear hf
  repeat' (first|(with_reducible first|refine zA ?_|refine zB fun K hK=>?_|refine zC fun K2 hK2=>?_|refine zD ?_|refine zE ?_|refine zF ?_|refine zG ?_|refine zH ?_|refine zI ?_|refine zM ?_|refine zN ?_|refine zO ?_|refine zP ?_|refine zQ ?_|refine zR ?_)|((with_reducible refine zU (hK _ _ ?_));clear hK K)|((with_reducible refine zV ?_ ?_ fun K1 K3 d hdst h1 h3=>?_);rfl;exact yB rfl;cases hdst;go_simp)|((with_reducible refine zW fun K1 K3 h1 h3=>?_);go_simp)|((first|refine h1 ?_|refine h3 ?_);clear h1 h3 K1 K3)|((first|refine zX (fun hb=>h1 ?_) (fun hb=>h3 ?_)|refine zX (fun hb=>h3 ?_) (fun hb=>h1 ?_))<;>(clear h1 h3 K1 K3;(try have hb2:=yC hb);(try have hb2:=yD hb);(try have hb2:=yE hb);(try have hb2:=yF hb);(try have hb2:=yG hb)))|(refine fun (K2:_→AHeap→Prop) hK2=>?_)|((with_reducible refine zY ?_ ?_);decide)|((with_reducible first|refine zZ ?_ (fun K hK=>?_)|refine yA ?_ (fun K hK=>?_));(focus go_simp;done);go_simp;refine hK _ _ ?_;clear hK K)|(go_simp;(try go_bits);(try first | ((with_reducible show CallS _ _ _ _ _ _);refine CallS.mono (HCE.out _ _ ((Ext.refl _).push' _)) ?_; rintro _ _ ⟨rfl, rfl⟩));refine hK2 _ _ ?_;clear hK2 K2))
  have HXG : Hid (Ext H (H.push (.row [.int .i64 t.days, .slice ca t.closed.length cc, .slice fa t.flaws.length fc] 25))) := Lib.hid ((Ext.refl _).push' _)
  have hc3 : cellsAt (H.push (.row [.int .i64 t.days, .slice ca t.closed.length cc, .slice fa t.flaws.length fc] 25)) H.n 0 3 = some [.int .i64 t.days, .slice ca t.closed.length cc, .slice fa t.flaws.length fc] := by go_simp
  have hn0 : H.n < (H.push (.row [.int .i64 t.days, .slice ca t.closed.length cc, .slice fa t.flaws.length fc] 25)).n := by simp only [AHeap.n_push]; omega
  generalize (H.push (.row [.int .i64 t.days, .slice ca t.closed.length cc, .slice fa t.flaws.length fc] 25)) = G at HXG hc3 hn0 ⊢
  refine CodeS.loop (fun m f H' => ∃ (k : Nat) (ok : Bool), k ≤ ids.length ∧ m = ids.length - k ∧ f.tmp 6 = .int .i64 k ∧ f.tmp 5 = .int .i64 (bif ok then 0 else 1) ∧ f.tmp 1 = .slice la ids.length lc ∧ f.tmp 2 = .pointer (some ⟨H.n, 0, none⟩) ∧ f.defers = [] ∧ Hid (lsk (t.flaws.map (·.id)) ids k = ok) ∧ H' = G) ids.length ?_ ?_
  · exact ⟨0, true, by simp, by simp, (by first|go_simp<;>go_num|assumption), (by first|go_simp<;>go_num|assumption), (by first|go_simp<;>go_num|assumption), (by first|go_simp<;>go_num|assumption), (by first|go_simp<;>go_num|assumption), Lib.hid rfl, rfl⟩
  clear f0 f1 hd f
  rintro m f H' ⟨k, ok, hk, rfl, f6, f5, f1, f2, hd, HK, e9⟩
  have e9 := e9.symm
  subst e9
  cases ok
  case' false =>
    simp only [cond_false] at f5
    have HR : Hid (lsk (t.flaws.map (·.id)) ids ids.length = false) := Lib.hid (lsk_mono hk HK.out)
    rw [HR.out]
    by_cases hlt : (k : Int) < (ids.length : Int)
    · repeat' (first|(with_reducible first|refine zA ?_|refine zB fun K hK=>?_|refine zC fun K2 hK2=>?_|refine zD ?_|refine zE ?_|refine zF ?_|refine zG ?_|refine zH ?_|refine zI ?_|refine zM ?_|refine zN ?_|refine zO ?_|refine zP ?_|refine zQ ?_|refine zR ?_)|((with_reducible refine zU (hK _ _ ?_));clear hK K)|((with_reducible refine zV ?_ ?_ fun K1 K3 d hdst h1 h3=>?_);rfl;exact yB rfl;cases hdst;go_simp)|((with_reducible refine zW fun K1 K3 h1 h3=>?_);go_simp)|((first|refine h1 ?_|refine h3 ?_);clear h1 h3 K1 K3)|((first|refine zX (fun hb=>h1 ?_) (fun hb=>h3 ?_)|refine zX (fun hb=>h3 ?_) (fun hb=>h1 ?_))<;>(clear h1 h3 K1 K3;(try have hb2:=yC hb);(try have hb2:=yD hb);(try have hb2:=yE hb);(try have hb2:=yF hb);(try have hb2:=yG hb)))|(refine fun (K2:_→AHeap→Prop) hK2=>?_)|((with_reducible refine zY ?_ ?_);decide)|((with_reducible first|refine zZ ?_ (fun K hK=>?_)|refine yA ?_ (fun K hK=>?_));(focus go_simp;done);go_simp;refine hK _ _ ?_;clear hK K)|(go_simp;(try go_bits);refine hK2 _ _ ?_;clear hK2 K2))
      exact ⟨rfl, HXG.out⟩
    · repeat' (first|(with_reducible first|refine zA ?_|refine zB fun K hK=>?_|refine zC fun K2 hK2=>?_|refine zD ?_|refine zE ?_|refine zF ?_|refine zG ?_|refine zH ?_|refine zI ?_|refine zM ?_|refine zN ?_|refine zO ?_|refine zP ?_|refine zQ ?_|refine zR ?_)|((with_reducible refine zU (hK _ _ ?_));clear hK K)|((with_reducible refine zV ?_ ?_ fun K1 K3 d hdst h1 h3=>?_);rfl;exact yB rfl;cases hdst;go_simp)|((with_reducible refine zW fun K1 K3 h1 h3=>?_);go_simp)|((first|refine h1 ?_|refine h3 ?_);clear h1 h3 K1 K3)|((first|refine zX (fun hb=>h1 ?_) (fun hb=>h3 ?_)|refine zX (fun hb=>h3 ?_) (fun hb=>h1 ?_))<;>(clear h1 h3 K1 K3;(try have hb2:=yC hb);(try have hb2:=yD hb);(try have hb2:=yE hb);(try have hb2:=yF hb);(try have hb2:=yG hb)))|(refine fun (K2:_→AHeap→Prop) hK2=>?_)|((with_reducible refine zY ?_ ?_);decide)|((with_reducible first|refine zZ ?_ (fun K hK=>?_)|refine yA ?_ (fun K hK=>?_));(focus go_simp;done);go_simp;refine hK _ _ ?_;clear hK K)|(go_simp;(try go_bits);refine hK2 _ _ ?_;clear hK2 K2))
      exact ⟨rfl, HXG.out⟩
  simp only [cond_true] at f5
  by_cases hlt : k < ids.length
  · obtain ⟨b, o, sp, rfl, hb, hx⟩ := (HL.out.ext HXG.out).at_ hlt
    have HY := Lib.hid (getD_at hlt)
    generalize ids[k] = y at hx HY
    have HFW := Lib.hid (fun (loops : List (Nat × LInfo)) => flaw_s (loops := loops) (x := y) (HV.out.ext HXG.out))
    have HQ := Lib.hid (fIdx_neg y t.flaws)
    generalize fIdx y t.flaws 0 = q at HFW HQ
    have HS : Hid (lsk (t.flaws.map (·.id)) ids (k + 1) = (decide (y ∈ t.flaws.map (·.id)) && (decide (k = 0) || decide (ids.getD (k - 1) 0 < y)))) := Lib.hid (by rw [lsk, HK.out, HY.out]; rfl)
    have hkl : (k : Int) < (ids.length : Int) := by omega
    by_cases hm : y ∈ t.flaws.map (·.id)
    case' neg =>
      have hq := HQ.out.2 hm
      rw [decide_eq_false hm] at HS
      clear hm
      repeat' (first|(with_reducible first|refine zA ?_|refine zB fun K hK=>?_|refine zC fun K2 hK2=>?_|refine zD ?_|refine zE ?_|refine zF ?_|refine zG ?_|refine zH ?_|refine zI ?_|refine zM ?_|refine zN ?_|refine zO ?_|refine zP ?_|refine zQ ?_|refine zR ?_)|((with_reducible refine zU (hK _ _ ?_));clear hK K)|((with_reducible refine zV ?_ ?_ fun K1 K3 d hdst h1 h3=>?_);rfl;exact yB rfl;cases hdst;go_simp)|((with_reducible refine zW fun K1 K3 h1 h3=>?_);go_simp)|((first|refine h1 ?_|refine h3 ?_);clear h1 h3 K1 K3)|((first|refine zX (fun hb=>h1 ?_) (fun hb=>h3 ?_)|refine zX (fun hb=>h3 ?_) (fun hb=>h1 ?_))<;>(clear h1 h3 K1 K3;(try have hb2:=yC hb);(try have hb2:=yD hb);(try have hb2:=yE hb);(try have hb2:=yF hb);(try have hb2:=yG hb)))|(refine fun (K2:_→AHeap→Prop) hK2=>?_)|((with_reducible refine zY ?_ ?_);decide)|((with_reducible first|refine zZ ?_ (fun K hK=>?_)|refine yA ?_ (fun K hK=>?_));(focus go_simp;done);go_simp;refine hK _ _ ?_;clear hK K)|((with_reducible refine yH mixed rfl ?_ 20 fun K0 hK0=>?_);kernel_rfl)|(with_reducible first|exact yI|exact yJ|refine yK ?_|refine yL ?_|refine yM ?_)|((with_reducible first|refine yN ?_ ?_|refine yO ?_ ?_|refine yP ?_ ?_);rfl)|((with_reducible refine yQ ?_ ?_);rfl;refine hK0 _ _ ?_;clear hK0 K0)|((with_reducible refine yR ?_ ?_ ?_ ?_);rfl;rfl;rfl)|((with_reducible refine yS ?_ ?_ ?_ fun K2 hK2=>?_);rfl;rfl;exact yB rfl)|((with_reducible refine yT ?_ ?_ ?_ ?_ fun K1 K3 d hdst h1 h3=>?_);rfl;rfl;rfl;exact yB rfl;cases hdst;go_simp)|((with_reducible refine yU ?_ ?_ ?_ ?_ fun K1 K3 d hdst h1 h3=>?_);rfl;rfl;rfl;exact yB rfl;cases hdst;go_simp)|((with_reducible refine yV ?_ ?_ (fun K2 hK2=>?_) ?_);rfl;exact yB rfl)|((with_reducible refine yW ?_ ?_ ?_ ?_ (fun K2 hK2=>?_) ?_);rfl;exact yB rfl;rfl;(focus go_simp;done))|((with_reducible refine yX ?_ ?_ ?_ (fun K2 hK2=>?_) ?_);rfl;rfl;exact yB rfl)|((with_reducible refine yY ?_ ?_ (fun K2 hK2=>?_) ?_);rfl;rfl)|((with_reducible refine yZ ?_ ?_);(first|rfl|(dsimp only;decide +kernel)))|((with_reducible refine xA ?_ ?_);(focus go_simp;done))|(go_simp;(try go_bits);(try first | ((with_reducible show CallS _ _ _ _ _ _);refine CallS.mono (HFW.out _) ?_; rintro _ _ ⟨rfl, rfl⟩));(first|(refine hK2 _ _ ?_ ?_<;>clear hK2 K2)|(refine hK2 _ _ ?_;clear hK2 K2))))
      all_goals (refine Post.round_normal ⟨ids.length - (k + 1), by omega, k + 1, false, by omega, rfl, (by first|go_simp<;>go_num|assumption), (by first|go_simp<;>go_num|assumption), (by first|go_simp<;>go_num|assumption), (by first|go_simp<;>go_num|assumption), (by first|go_simp<;>go_num|assumption), Lib.hid (by rw [HS.out]; rfl), rfl⟩)
    have hq : ¬ q < 0 := fun h => HQ.out.1 h hm
    rw [decide_eq_true hm] at HS
    clear hm
    rcases Nat.eq_zero_or_pos k with hk0 | hk0
    case' inl =>
      subst hk0
      simp only [Nat.add_zero] at hx
      repeat' (first|(with_reducible first|refine zA ?_|refine zB fun K hK=>?_|refine zC fun K2 hK2=>?_|refine zD ?_|refine zE ?_|refine zF ?_|refine zG ?_|refine zH ?_|refine zI ?_|refine zM ?_|refine zN ?_|refine zO ?_|refine zP ?_|refine zQ ?_|refine zR ?_)|((with_reducible refine zU (hK _ _ ?_));clear hK K)|((with_reducible refine zV ?_ ?_ fun K1 K3 d hdst h1 h3=>?_);rfl;exact yB rfl;cases hdst;go_simp)|((with_reducible refine zW fun K1 K3 h1 h3=>?_);go_simp)|((first|refine h1 ?_|refine h3 ?_);clear h1 h3 K1 K3)|((first|refine zX (fun hb=>h1 ?_) (fun hb=>h3 ?_)|refine zX (fun hb=>h3 ?_) (fun hb=>h1 ?_))<;>(clear h1 h3 K1 K3;(try have hb2:=yC hb);(try have hb2:=yD hb);(try have hb2:=yE hb);(try have hb2:=yF hb);(try have hb2:=yG hb)))|(refine fun (K2:_→AHeap→Prop) hK2=>?_)|((with_reducible refine zY ?_ ?_);decide)|((with_reducible first|refine zZ ?_ (fun K hK=>?_)|refine yA ?_ (fun K hK=>?_));(focus go_simp;done);go_simp;refine hK _ _ ?_;clear hK K)|((with_reducible refine yH mixed rfl ?_ 20 fun K0 hK0=>?_);kernel_rfl)|(with_reducible first|exact yI|exact yJ|refine yK ?_|refine yL ?_|refine yM ?_)|((with_reducible first|refine yN ?_ ?_|refine yO ?_ ?_|refine yP ?_ ?_);rfl)|((with_reducible refine yQ ?_ ?_);rfl;refine hK0 _ _ ?_;clear hK0 K0)|((with_reducible refine yR ?_ ?_ ?_ ?_);rfl;rfl;rfl)|((with_reducible refine yS ?_ ?_ ?_ fun K2 hK2=>?_);rfl;rfl;exact yB rfl)|((with_reducible refine yT ?_ ?_ ?_ ?_ fun K1 K3 d hdst h1 h3=>?_);rfl;rfl;rfl;exact yB rfl;cases hdst;go_simp)|((with_reducible refine yU ?_ ?_ ?_ ?_ fun K1 K3 d hdst h1 h3=>?_);rfl;rfl;rfl;exact yB rfl;cases hdst;go_simp)|((with_reducible refine yV ?_ ?_ (fun K2 hK2=>?_) ?_);rfl;exact yB rfl)|((with_reducible refine yW ?_ ?_ ?_ ?_ (fun K2 hK2=>?_) ?_);rfl;exact yB rfl;rfl;(focus go_simp;done))|((with_reducible refine yX ?_ ?_ ?_ (fun K2 hK2=>?_) ?_);rfl;rfl;exact yB rfl)|((with_reducible refine yY ?_ ?_ (fun K2 hK2=>?_) ?_);rfl;rfl)|((with_reducible refine yZ ?_ ?_);(first|rfl|(dsimp only;decide +kernel)))|((with_reducible refine xA ?_ ?_);(focus go_simp;done))|(go_simp;(try go_bits);(try first | ((with_reducible show CallS _ _ _ _ _ _);refine CallS.mono (HFW.out _) ?_; rintro _ _ ⟨rfl, rfl⟩));(first|(refine hK2 _ _ ?_ ?_<;>clear hK2 K2)|(refine hK2 _ _ ?_;clear hK2 K2))))
      all_goals (refine Post.round_normal ⟨ids.length - (0 + 1), by omega, 0 + 1, true, by omega, rfl, (by first|go_simp<;>go_num|assumption), (by first|go_simp<;>go_num|assumption), (by first|go_simp<;>go_num|assumption), (by first|go_simp<;>go_num|assumption), (by first|go_simp<;>go_num|assumption), Lib.hid (by rw [HS.out]; rfl), rfl⟩)
    case' inr =>
      obtain ⟨b2, o2, sp2, he2, -, hxp⟩ := (HL.out.ext HXG.out).at_ (k := k - 1) (by omega)
      cases he2
      have HP := Lib.hid (getD_at (show k - 1 < ids.length by omega))
      generalize ids[k - 1] = p at hxp HP
      have h0i : (0 : Int) ≤ (k : Int) - 1 := by omega
      have h1i : (k : Int) - 1 < (ids.length : Int) := by omega
      have h2i : (1 : Int) ≤ (k : Int) := by omega
      have h3i : 1 ≤ k := by omega
      have HK0 : Hid (decide (k = 0) = false) := Lib.hid (by simp; omega)
      by_cases hyp : y ≤ p
      case' pos =>
        have HYP := Lib.hid hyp
        repeat' (first|(with_reducible first|refine zA ?_|refine zB fun K hK=>?_|refine zC fun K2 hK2=>?_|refine zD ?_|refine zE ?_|refine zF ?_|refine zG ?_|refine zH ?_|refine zI ?_|refine zM ?_|refine zN ?_|refine zO ?_|refine zP ?_|refine zQ ?_|refine zR ?_)|((with_reducible refine zU (hK _ _ ?_));clear hK K)|((with_reducible refine zV ?_ ?_ fun K1 K3 d hdst h1 h3=>?_);rfl;exact yB rfl;cases hdst;go_simp)|((with_reducible refine zW fun K1 K3 h1 h3=>?_);go_simp)|((first|refine h1 ?_|refine h3 ?_);clear h1 h3 K1 K3)|((first|refine zX (fun hb=>h1 ?_) (fun hb=>h3 ?_)|refine zX (fun hb=>h3 ?_) (fun hb=>h1 ?_))<;>(clear h1 h3 K1 K3;(try have hb2:=yC hb);(try have hb2:=yD hb);(try have hb2:=yE hb);(try have hb2:=yF hb);(try have hb2:=yG hb)))|(refine fun (K2:_→AHeap→Prop) hK2=>?_)|((with_reducible refine zY ?_ ?_);decide)|((with_reducible first|refine zZ ?_ (fun K hK=>?_)|refine yA ?_ (fun K hK=>?_));(focus go_simp;done);go_simp;refine hK _ _ ?_;clear hK K)|((with_reducible refine yH mixed rfl ?_ 20 fun K0 hK0=>?_);kernel_rfl)|(with_reducible first|exact yI|exact yJ|refine yK ?_|refine yL ?_|refine yM ?_)|((with_reducible first|refine yN ?_ ?_|refine yO ?_ ?_|refine yP ?_ ?_);rfl)|((with_reducible refine yQ ?_ ?_);rfl;refine hK0 _ _ ?_;clear hK0 K0)|((with_reducible refine yR ?_ ?_ ?_ ?_);rfl;rfl;rfl)|((with_reducible refine yS ?_ ?_ ?_ fun K2 hK2=>?_);rfl;rfl;exact yB rfl)|((with_reducible refine yT ?_ ?_ ?_ ?_ fun K1 K3 d hdst h1 h3=>?_);rfl;rfl;rfl;exact yB rfl;cases hdst;go_simp)|((with_reducible refine yU ?_ ?_ ?_ ?_ fun K1 K3 d hdst h1 h3=>?_);rfl;rfl;rfl;exact yB rfl;cases hdst;go_simp)|((with_reducible refine yV ?_ ?_ (fun K2 hK2=>?_) ?_);rfl;exact yB rfl)|((with_reducible refine yW ?_ ?_ ?_ ?_ (fun K2 hK2=>?_) ?_);rfl;exact yB rfl;rfl;(focus go_simp;done))|((with_reducible refine yX ?_ ?_ ?_ (fun K2 hK2=>?_) ?_);rfl;rfl;exact yB rfl)|((with_reducible refine yY ?_ ?_ (fun K2 hK2=>?_) ?_);rfl;rfl)|((with_reducible refine yZ ?_ ?_);(first|rfl|(dsimp only;decide +kernel)))|((with_reducible refine xA ?_ ?_);(focus go_simp;done))|(go_simp;(try go_bits);(try first | ((with_reducible show CallS _ _ _ _ _ _);refine CallS.mono (HFW.out _) ?_; rintro _ _ ⟨rfl, rfl⟩));(first|(refine hK2 _ _ ?_ ?_<;>clear hK2 K2)|(refine hK2 _ _ ?_;clear hK2 K2))))
        all_goals (refine Post.round_normal ⟨ids.length - (k + 1), by omega, k + 1, false, by omega, rfl, (by first|go_simp<;>go_num|assumption), (by first|go_simp<;>go_num|assumption), (by first|go_simp<;>go_num|assumption), (by first|go_simp<;>go_num|assumption), (by first|go_simp<;>go_num|assumption), Lib.hid (by rw [HS.out, HK0.out, HP.out]; simpa using HYP.out), rfl⟩)
      have HYP := Lib.hid hyp
      repeat' (first|(with_reducible first|refine zA ?_|refine zB fun K hK=>?_|refine zC fun K2 hK2=>?_|refine zD ?_|refine zE ?_|refine zF ?_|refine zG ?_|refine zH ?_|refine zI ?_|refine zM ?_|refine zN ?_|refine zO ?_|refine zP ?_|refine zQ ?_|refine zR ?_)|((with_reducible refine zU (hK _ _ ?_));clear hK K)|((with_reducible refine zV ?_ ?_ fun K1 K3 d hdst h1 h3=>?_);rfl;exact yB rfl;cases hdst;go_simp)|((with_reducible refine zW fun K1 K3 h1 h3=>?_);go_simp)|((first|refine h1 ?_|refine h3 ?_);clear h1 h3 K1 K3)|((first|refine zX (fun hb=>h1 ?_) (fun hb=>h3 ?_)|refine zX (fun hb=>h3 ?_) (fun hb=>h1 ?_))<;>(clear h1 h3 K1 K3;(try have hb2:=yC hb);(try have hb2:=yD hb);(try have hb2:=yE hb);(try have hb2:=yF hb);(try have hb2:=yG hb)))|(refine fun (K2:_→AHeap→Prop) hK2=>?_)|((with_reducible refine zY ?_ ?_);decide)|((with_reducible first|refine zZ ?_ (fun K hK=>?_)|refine yA ?_ (fun K hK=>?_));(focus go_simp;done);go_simp;refine hK _ _ ?_;clear hK K)|((with_reducible refine yH mixed rfl ?_ 20 fun K0 hK0=>?_);kernel_rfl)|(with_reducible first|exact yI|exact yJ|refine yK ?_|refine yL ?_|refine yM ?_)|((with_reducible first|refine yN ?_ ?_|refine yO ?_ ?_|refine yP ?_ ?_);rfl)|((with_reducible refine yQ ?_ ?_);rfl;refine hK0 _ _ ?_;clear hK0 K0)|((with_reducible refine yR ?_ ?_ ?_ ?_);rfl;rfl;rfl)|((with_reducible refine yS ?_ ?_ ?_ fun K2 hK2=>?_);rfl;rfl;exact yB rfl)|((with_reducible refine yT ?_ ?_ ?_ ?_ fun K1 K3 d hdst h1 h3=>?_);rfl;rfl;rfl;exact yB rfl;cases hdst;go_simp)|((with_reducible refine yU ?_ ?_ ?_ ?_ fun K1 K3 d hdst h1 h3=>?_);rfl;rfl;rfl;exact yB rfl;cases hdst;go_simp)|((with_reducible refine yV ?_ ?_ (fun K2 hK2=>?_) ?_);rfl;exact yB rfl)|((with_reducible refine yW ?_ ?_ ?_ ?_ (fun K2 hK2=>?_) ?_);rfl;exact yB rfl;rfl;(focus go_simp;done))|((with_reducible refine yX ?_ ?_ ?_ (fun K2 hK2=>?_) ?_);rfl;rfl;exact yB rfl)|((with_reducible refine yY ?_ ?_ (fun K2 hK2=>?_) ?_);rfl;rfl)|((with_reducible refine yZ ?_ ?_);(first|rfl|(dsimp only;decide +kernel)))|((with_reducible refine xA ?_ ?_);(focus go_simp;done))|(go_simp;(try go_bits);(try first | ((with_reducible show CallS _ _ _ _ _ _);refine CallS.mono (HFW.out _) ?_; rintro _ _ ⟨rfl, rfl⟩));(first|(refine hK2 _ _ ?_ ?_<;>clear hK2 K2)|(refine hK2 _ _ ?_;clear hK2 K2))))
      all_goals (refine Post.round_normal ⟨ids.length - (k + 1), by omega, k + 1, true, by omega, rfl, (by first|go_simp<;>go_num|assumption), (by first|go_simp<;>go_num|assumption), (by first|go_simp<;>go_num|assumption), (by first|go_simp<;>go_num|assumption), (by first|go_simp<;>go_num|assumption), Lib.hid (by rw [HS.out, HK0.out, HP.out]; simpa using HYP.out), rfl⟩)
  · have hke : k = ids.length := by omega
    have HR : Hid (lsk (t.flaws.map (·.id)) ids ids.length = true) := Lib.hid (by rw [← hke]; exact HK.out)
    rw [HR.out]
    clear HK
    have hlt2 : ¬ (k : Int) < (ids.length : Int) := by omega
    repeat' (first|(with_reducible first|refine zA ?_|refine zB fun K hK=>?_|refine zC fun K2 hK2=>?_|refine zD ?_|refine zE ?_|refine zF ?_|refine zG ?_|refine zH ?_|refine zI ?_|refine zM ?_|refine zN ?_|refine zO ?_|refine zP ?_|refine zQ ?_|refine zR ?_)|((with_reducible refine zU (hK _ _ ?_));clear hK K)|((with_reducible refine zV ?_ ?_ fun K1 K3 d hdst h1 h3=>?_);rfl;exact yB rfl;cases hdst;go_simp)|((with_reducible refine zW fun K1 K3 h1 h3=>?_);go_simp)|((first|refine h1 ?_|refine h3 ?_);clear h1 h3 K1 K3)|((first|refine zX (fun hb=>h1 ?_) (fun hb=>h3 ?_)|refine zX (fun hb=>h3 ?_) (fun hb=>h1 ?_))<;>(clear h1 h3 K1 K3;(try have hb2:=yC hb);(try have hb2:=yD hb);(try have hb2:=yE hb);(try have hb2:=yF hb);(try have hb2:=yG hb)))|(refine fun (K2:_→AHeap→Prop) hK2=>?_)|((with_reducible refine zY ?_ ?_);decide)|((with_reducible first|refine zZ ?_ (fun K hK=>?_)|refine yA ?_ (fun K hK=>?_));(focus go_simp;done);go_simp;refine hK _ _ ?_;clear hK K)|(go_simp;(try go_bits);refine hK2 _ _ ?_;clear hK2 K2))
    exact ⟨rfl, HXG.out⟩
end Go.Proofs.Tryz
namespace Go.Proofs.Tryz
open Go Go.Am Go.RowKit
set_option maxRecDepth 100000

theorem intsL_one {H : AHeap} {n : Nat} {cv : Value} {l : List Int} (h : cellAt H n 0 = some cv) (hn : n < H.n) (hi : Ints H cv l) : IntsL H (.slice (some ⟨n, 0, none⟩) 1 1) [l] :=
  ⟨[cv], rfl, ⟨rfl, (show 1 ≤ 9223372036854775807 by omega), _, _, rfl, (fun h => by cases h), fun _ => ⟨n, 0, none, rfl, hn, fun j u hu => by
    match j, hu with
    | 0, hu => cases hu; exact h⟩⟩, fun i hlt u hu => by
    match i, hlt, hu with
    | 0, _, hu => cases hu; exact hi⟩

@[go_sem] theorem get_at9 {H : AHeap} {o : AObj} {i : Nat} (h : i = H.n) : (H.push o).get i = o := by rw [h, AHeap.get_push_new]
@[go_sem] theorem get_lt9 {H : AHeap} {o : AObj} {i : Nat} (h : i < H.n) : (H.push o).get i = H.get i := AHeap.get_push_old h
@[go_sem] theorem get_up9 {H : AHeap} {o : AObj} {i j : Nat} (h : i < j) : (H.upd j o).get i = H.get i := AHeap.get_upd_ne (by omega)
@[go_sem] theorem get_up9b {H : AHeap} {o : AObj} {i j : Nat} (h : j < i) : (H.upd j o).get i = H.get i := AHeap.get_upd_ne (by omega)
theorem jam_fin {H F : AHeap} {a b c p : Nat} {t : Tour} {ids : List Int} (hx : Ext H F) (h : Ext H F → JamAt F a b c p t ids) : ∃ a' b' c' p', Value.func (.func 143) #[] #[.pointer (some ⟨a, 0, none⟩), .pointer (some ⟨b, 0, none⟩), .pointer (some ⟨c, 0, none⟩), .pointer (some ⟨p, 0, none⟩)] = jamV a' b' c' p' ∧ JamAt F a' b' c' p' t ids ∧ Ext H F := ⟨a, b, c, p, rfl, h hx, hx⟩
set_option maxHeartbeats 8000000 in
theorem jamsOf_e {loops : List (Nat × LInfo)} {H : AHeap} {v lv : Value} {t : Tour} {ids : List Int} (hv : TourV H v t) (hl : Ints H lv ids) (hg : Good t) :
    CallS Tryz.prog loops 79 [v, lv] H fun r H' => ∃ a b c p, r = jamV a b c p ∧ JamAt H' a b c p t ids ∧ Ext H H' := by
  have HV := Lib.hid hv
  have HL := Lib.hid hl
  have HG := Lib.hid hg
  obtain ⟨cv, fv, rfl, hc, hf⟩ := hv
  obtain ⟨hcl, ca, cc, rfl⟩ := hc.slice
  obtain ⟨hfl, fa, fc, rfl⟩ := hf.slice
  obtain ⟨hll, la, lc, rfl⟩ := hl.slice
  have HC := Lib.hid hc
  have HF := Lib.hid hf
  have HFW := Lib.hid (Nat.le_trans hg.few (show 40 ≤ 1000 by decide))
  clear hc hf hl hg
  refine CallS.enter' Tryz.func79 rfl Tryz.ntmps79 (by simp) fun f hd hf => ?_
  have f0 := hf 0
  have f1 := hf 1
  simp at f0 f1
  clear hf
  repeat' (first|(with_reducible first|refine zA ?_|refine zB fun K hK=>?_|refine zC fun K2 hK2=>?_|refine zD ?_|refine zE ?_|refine zF ?_|refine zG ?_|refine zH ?_|refine zI ?_|refine zM ?_|refine zN ?_|refine zO ?_|refine zP ?_|refine zQ ?_|refine zR ?_)|((with_reducible refine zU (hK _ _ ?_));clear hK K)|((with_reducible refine zV ?_ ?_ fun K1 K3 d hdst h1 h3=>?_);rfl;exact yB rfl;cases hdst;go_simp)|((with_reducible refine zW fun K1 K3 h1 h3=>?_);go_simp)|((first|refine h1 ?_|refine h3 ?_);clear h1 h3 K1 K3)|((first|refine zX (fun hb=>h1 ?_) (fun hb=>h3 ?_)|refine zX (fun hb=>h3 ?_) (fun hb=>h1 ?_))<;>(clear h1 h3 K1 K3;(try have hb2:=yC hb);(try have hb2:=yD hb);(try have hb2:=yE hb);(try have hb2:=yF hb);(try have hb2:=yG hb)))|(refine fun (K2:_→AHeap→Prop) hK2=>?_)|((with_reducible refine zY ?_ ?_);decide)|((with_reducible first|refine zZ ?_ (fun K hK=>?_)|refine yA ?_ (fun K hK=>?_));(focus go_simp;done);go_simp;refine hK _ _ ?_;clear hK K)|((with_reducible refine yH mixed rfl ?_ 20 fun K0 hK0=>?_);kernel_rfl)|(with_reducible first|exact yI|exact yJ|refine yK ?_|refine yL ?_|refine yM ?_)|((with_reducible first|refine yN ?_ ?_|refine yO ?_ ?_|refine yP ?_ ?_);rfl)|((with_reducible refine yQ ?_ ?_);rfl;refine hK0 _ _ ?_;clear hK0 K0)|((with_reducible refine yR ?_ ?_ ?_ ?_);rfl;rfl;rfl)|((with_reducible refine yS ?_ ?_ ?_ fun K2 hK2=>?_);rfl;rfl;exact yB rfl)|((with_reducible refine yT ?_ ?_ ?_ ?_ fun K1 K3 d hdst h1 h3=>?_);rfl;rfl;rfl;exact yB rfl;cases hdst;go_simp)|((with_reducible refine yU ?_ ?_ ?_ ?_ fun K1 K3 d hdst h1 h3=>?_);rfl;rfl;rfl;exact yB rfl;cases hdst;go_simp)|((with_reducible refine yV ?_ ?_ (fun K2 hK2=>?_) ?_);rfl;exact yB rfl)|((with_reducible refine yW ?_ ?_ ?_ ?_ (fun K2 hK2=>?_) ?_);rfl;exact yB rfl;rfl;(focus go_simp;done))|((with_reducible refine yX ?_ ?_ ?_ (fun K2 hK2=>?_) ?_);rfl;rfl;exact yB rfl)|((with_reducible refine yY ?_ ?_ (fun K2 hK2=>?_) ?_);rfl;rfl)|((with_reducible refine yZ ?_ ?_);(first|rfl|(dsimp only;decide +kernel)))|((with_reducible refine xA ?_ ?_);(focus go_simp;done))|(go_simp;(try go_bits);(try first |((with_reducible show CallS _ _ _ _ _ _);first|(refine CallS.mono (planOf_e (sh := [t.closed]) (HV.out.ext (by repeat' (first|exact Ext.refl _|refine Ext.push' ?_ _))) (intsL_one (cv := .slice ca t.closed.length cc) (by go_simp) (by simp only [AHeap.n_push]; omega) (HC.out.ext (by repeat' (first|exact Ext.refl _|refine Ext.push' ?_ _)))) HG.out.days (show 1 ≤ 2 by omega) HFW.out) ?_; rintro _ H2 ⟨⟨ga, gc, rfl, hF2, -⟩, hx2⟩; (have HX2 : Hid (Ext H H2) := Lib.hid (Ext.trans (by repeat' (first|exact Ext.refl _|refine Ext.push' ?_ _)) hx2)); (have h0 : H.n < H2.n := Nat.lt_of_lt_of_le (by simp only [AHeap.n_push]; omega) hx2.n); (have h1 : H.n + 1 < H2.n := Nat.lt_of_lt_of_le (by simp only [AHeap.n_push]; omega) hx2.n); (have hA : H.n + 1 + 1 < H2.n := Nat.lt_of_lt_of_le (by simp only [AHeap.n_push]; omega) hx2.n); (have hB := fun h => Nat.lt_of_lt_of_le (n := H.n + 1 + 1 + 1) h hx2.n); (have hC := fun h => Nat.lt_of_lt_of_le (n := H.n + 1 + 1 + 1 + 1) h hx2.n); (have mA : H.n + 1 + 1 ≠ H2.n := Nat.ne_of_lt hA); (have oA : H2.n ≠ H.n + 1 + 1 := Nat.ne_of_gt hA); (have oB := fun h => Nat.ne_of_gt (Nat.lt_of_lt_of_le (n := H.n + 1 + 1 + 1) h hx2.n)); (have oC := fun h => Nat.ne_of_gt (Nat.lt_of_lt_of_le (n := H.n + 1 + 1 + 1 + 1) h hx2.n)); (have mB := fun h => Nat.ne_of_lt (Nat.lt_of_lt_of_le (n := H.n + 1 + 1 + 1) h hx2.n)); (have mC := fun h => Nat.ne_of_lt (Nat.lt_of_lt_of_le (n := H.n + 1 + 1 + 1 + 1) h hx2.n)); (have hk2 := hx2.get); (have hk2c := fun b o n hb => Ext.cellsAt hx2 (b := b) (o := o) (n := n) hb); (have hk2a := fun b o hb => Ext.cellAt hx2 (b := b) (o := o) hb); simp only [AHeap.n_push] at hk2 hk2c hk2a hB hC mB mC oB oC; (try simp only [Am.lt_one_self, Nat.lt_irrefl, forall_const, false_implies, true_implies] at hB); (try simp only [Am.lt_one_self, Nat.lt_irrefl, forall_const, false_implies, true_implies] at hC); (try simp only [Am.lt_one_self, Nat.lt_irrefl, forall_const, false_implies, true_implies] at mB); (try simp only [Am.lt_one_self, Nat.lt_irrefl, forall_const, false_implies, true_implies] at mC); (try simp only [Am.lt_one_self, Nat.lt_irrefl, forall_const, false_implies, true_implies] at oB); (try simp only [Am.lt_one_self, Nat.lt_irrefl, forall_const, false_implies, true_implies] at oC); clear hx2 hF2)|(refine CallS.mono (indices_e (HV.out.ext (by repeat' (first|exact HX2.out|refine Ext.push' ?_ _))) HG.out.nodup) ?_; rintro _ H3 ⟨rfl, hx3, hn3, hm3⟩; (have HX3 : Hid (Ext H H3) := Lib.hid (Ext.trans (by repeat' (first|exact HX2.out|refine Ext.push' ?_ _)) hx3)); (have HM3 := Lib.hid hm3); (have g0 : H.n < H3.n := Nat.lt_of_lt_of_le (by (try simp only [AHeap.n_push]); omega) hx3.n); (have g1 : H.n + 1 < H3.n := Nat.lt_of_lt_of_le (by (try simp only [AHeap.n_push]); omega) hx3.n); (have gA : H.n + 1 + 1 < H3.n := Nat.lt_of_lt_of_le (by (try simp only [AHeap.n_push]); omega) hx3.n); (have gB := fun h => Nat.lt_of_lt_of_le (n := H.n + 1 + 1 + 1) h hx3.n); (have gC := fun h => Nat.lt_of_lt_of_le (n := H.n + 1 + 1 + 1 + 1) h hx3.n); (have gD := fun h => Nat.lt_of_lt_of_le (n := H2.n) h hx3.n); (have gE := fun h => Nat.lt_of_lt_of_le (n := H2.n + 1) h hx3.n); (have nA : H.n + 1 + 1 ≠ H3.n := Nat.ne_of_lt gA); (have nB := fun h => Nat.ne_of_lt (Nat.lt_of_lt_of_le (n := H.n + 1 + 1 + 1) h hx3.n)); (have nC := fun h => Nat.ne_of_lt (Nat.lt_of_lt_of_le (n := H.n + 1 + 1 + 1 + 1) h hx3.n)); (have nD := fun h => Nat.ne_of_lt (Nat.lt_of_lt_of_le (n := H2.n) h hx3.n)); (have nE := fun h => Nat.ne_of_lt (Nat.lt_of_lt_of_le (n := H2.n + 1) h hx3.n)); (have hk3 := hx3.get); (have hk3c := fun b o n hb => Ext.cellsAt hx3 (b := b) (o := o) (n := n) hb); (have hk3a := fun b o hb => Ext.cellAt hx3 (b := b) (o := o) hb); (try simp only [AHeap.n_push] at hk3 hk3c hk3a gB gC gD gE nB nC nD nE hn3); (try simp only [Am.lt_one_self, Nat.lt_irrefl, forall_const, false_implies, true_implies] at gB); (try simp only [Am.lt_one_self, Nat.lt_irrefl, forall_const, false_implies, true_implies] at gC); (try simp only [Am.lt_one_self, Nat.lt_irrefl, forall_const, false_implies, true_implies] at gD); (try simp only [Am.lt_one_self, Nat.lt_irrefl, forall_const, false_implies, true_implies] at gE); (try simp only [Am.lt_one_self, Nat.lt_irrefl, forall_const, false_implies, true_implies] at nB); (try simp only [Am.lt_one_self, Nat.lt_irrefl, forall_const, false_implies, true_implies] at nC); (try simp only [Am.lt_one_self, Nat.lt_irrefl, forall_const, false_implies, true_implies] at nD); (try simp only [Am.lt_one_self, Nat.lt_irrefl, forall_const, false_implies, true_implies] at nE); clear hx3 hm3))|((refine one_v el74 sz22 ze22 rfl (by decide) (by decide) rfl rfl ?_); go_simp));(first|(refine hK2 _ _ ?_ ?_<;>clear hK2 K2)|(refine hK2 _ _ ?_;clear hK2 K2))))
  all_goals (
    refine jam_fin ?_ fun hxf => ?_
    · repeat' (first | exact HX3.out | refine Ext.push' ?_ _ | (refine Ext.upd ?_ ?_ _; rotate_left; (focus omega)))
    · refine ⟨(by (try simp only [AHeap.n_push, AHeap.n_upd]); omega), (by (try simp only [AHeap.n_push, AHeap.n_upd]); omega), (by (try simp only [AHeap.n_push, AHeap.n_upd]); omega), (by (try simp only [AHeap.n_push, AHeap.n_upd]); omega), ⟨_, _, ?_, HC.out.ext hxf, HF.out.ext hxf⟩, ⟨_, ?_, HL.out.ext hxf⟩, ?_, ?_⟩
      · repeat' (first | exact AHeap.get_upd_same | exact AHeap.get_push_new | (with_reducible rfl) | exact (rfl : H3.get _ = H3.get _) | (refine (AHeap.get_upd_ne ?_).trans ?_; (focus omega)) | (refine (AHeap.get_push_old ?_).trans ?_; (focus ((try simp only [AHeap.n_push, AHeap.n_upd]); omega))) | (refine (hk3 _ ?_).trans ?_; (focus omega)) | (refine (hk2 _ ?_).trans ?_; (focus omega)))
      · repeat' (first | exact AHeap.get_upd_same | exact AHeap.get_push_new | (with_reducible rfl) | exact (rfl : H3.get _ = H3.get _) | (refine (AHeap.get_upd_ne ?_).trans ?_; (focus omega)) | (refine (AHeap.get_push_old ?_).trans ?_; (focus ((try simp only [AHeap.n_push, AHeap.n_upd]); omega))) | (refine (hk3 _ ?_).trans ?_; (focus omega)) | (refine (hk2 _ ?_).trans ?_; (focus omega)))
      · apply Exists.intro
        refine ⟨?_, ?_, ?_⟩
        · repeat' (first | exact AHeap.get_upd_same | exact AHeap.get_push_new | (with_reducible rfl) | exact (rfl : H3.get _ = H3.get _) | (refine (AHeap.get_upd_ne ?_).trans ?_; (focus omega)) | (refine (AHeap.get_push_old ?_).trans ?_; (focus ((try simp only [AHeap.n_push, AHeap.n_upd]); omega))) | (refine (hk3 _ ?_).trans ?_; (focus omega)) | (refine (hk2 _ ?_).trans ?_; (focus omega)))
        · ((try simp only [AHeap.n_push, AHeap.n_upd]); omega)
        · obtain ⟨es, ck, e1, e2⟩ := HM3.out
          refine ⟨es, ck, Eq.trans ?_ e1, e2⟩
          repeat' (first | exact AHeap.get_upd_same | exact AHeap.get_push_new | (with_reducible rfl) | exact (rfl : H3.get _ = H3.get _) | (refine (AHeap.get_upd_ne ?_).trans ?_; (focus omega)) | (refine (AHeap.get_push_old ?_).trans ?_; (focus ((try simp only [AHeap.n_push, AHeap.n_upd]); omega))) | (refine (hk3 _ ?_).trans ?_; (focus omega)) | (refine (hk2 _ ?_).trans ?_; (focus omega)))
      · apply Exists.intro
        repeat' (first | exact AHeap.get_upd_same | exact AHeap.get_push_new | (with_reducible rfl) | exact (rfl : H3.get _ = H3.get _) | (refine (AHeap.get_upd_ne ?_).trans ?_; (focus omega)) | (refine (AHeap.get_push_old ?_).trans ?_; (focus ((try simp only [AHeap.n_push, AHeap.n_upd]); omega))) | (refine (hk3 _ ?_).trans ?_; (focus omega)) | (refine (hk2 _ ?_).trans ?_; (focus omega))))
end Go.Proofs.Tryz
namespace Go.Proofs.Tryz
open Go Go.Am Go.RowKit
set_option maxRecDepth 100000

@[go_sem] theorem jamV_eq {a b c p : Nat} : jamV a b c p = .func (.func 143) #[] #[.pointer (some ⟨a, 0, none⟩), .pointer (some ⟨b, 0, none⟩), .pointer (some ⟨c, 0, none⟩), .pointer (some ⟨p, 0, none⟩)] := rfl
theorem st27 : structOk Tryz.prog 27 = true := by kernel_rfl
def orElseJ (a : Option (Nat × Nat)) (b : Option (Nat × Nat)) : Option (Nat × Nat) := match a with
  | some x => some x
  | none => b

def Tour.jamHi (t : Tour) (ids : List Int) (lo : Nat) : Nat → Nat → Option (Nat × Nat)
  | 0, _ => none
  | r + 1, hi => if t.isJam ids lo hi = true then some (lo, hi) else t.jamHi ids lo r (hi + 1)
def Tour.jamLo (t : Tour) (ids : List Int) (n : Nat) : Nat → Nat → Option (Nat × Nat)
  | 0, _ => none
  | r + 1, lo => orElseJ (t.jamHi ids lo (n - lo) lo) (t.jamLo ids n r (lo + 1))
def Tour.jam (t : Tour) (ids : List Int) : Option (Nat × Nat) := t.jamLo ids t.days.toNat t.days.toNat 0
def jamR (e : Int) (o : Option (Nat × Nat)) : Value := match o with
  | some (lo, hi) => .tuple #[.agg #[.int .i64 lo, .int .i64 hi], .bool true, .int .i64 e]
  | none => .tuple #[.agg #[.int .i64 0, .int .i64 0], .bool false, .int .i64 e]

set_option maxHeartbeats 4000000 in
theorem jam_s {loops : List (Nat × LInfo)} {H : AHeap} {v lv : Value} {t : Tour} {ids : List Int} (hv : TourV H v t) (hl : Ints H lv ids) :
    CallS Tryz.prog loops 20 [v, lv] H fun r H' => r = jamR (errList t ids) (if errList t ids = 0 then t.jam ids else none) ∧ H' = H := by
  refine CallS.forget (R := fun r => r = jamR (errList t ids) (if errList t ids = 0 then t.jam ids else none)) (by rintro v rfl; cases (if errList t ids = 0 then t.jam ids else none) <;> rfl) ?_
  have HV := Lib.hid hv
  have HL := Lib.hid hl
  have HCL := Lib.hid (fun (loops : List (Nat × LInfo)) (H2 : AHeap) (hx : Ext H H2) => checkList_s (loops := loops) (HV.out.ext hx) (HL.out.ext hx))
  by_cases he : errList t ids = 0
  case' neg =>
    rw [if_neg he]
    generalize errList t ids = er at HCL he ⊢
    have heb : (er != 0) = true := by simpa using he
    obtain ⟨cv, fv, rfl, hc, hf⟩ := hv
    obtain ⟨hcl', ca, cc, rfl⟩ := hc.slice
    obtain ⟨hfl, fa, fc, rfl⟩ := hf.slice
    obtain ⟨hll, la, lc, rfl⟩ := hl.slice
    clear hc hf hl he
    refine CallS.enter' Tryz.func20 rfl Tryz.ntmps20 (by simp) fun f hd hf => ?_
    have f0 := hf 0
    have f1 := hf 1
    simp at f0 f1
    clear hf
    repeat' (first|(with_reducible first|refine zA ?_|refine zB fun K hK=>?_|refine zC fun K2 hK2=>?_|refine zD ?_|refine zE ?_|refine zF ?_|refine zG ?_|refine zH ?_|refine zI ?_|refine zM ?_|refine zN ?_|refine zO ?_|refine zP ?_|refine zQ ?_|refine zR ?_)|((with_reducible refine zU (hK _ _ ?_));clear hK K)|((with_reducible refine zV ?_ ?_ fun K1 K3 d hdst h1 h3=>?_);rfl;exact yB rfl;cases hdst;go_simp)|((with_reducible refine zW fun K1 K3 h1 h3=>?_);go_simp)|((first|refine h1 ?_|refine h3 ?_);clear h1 h3 K1 K3)|((first|refine zX (fun hb=>h1 ?_) (fun hb=>h3 ?_)|refine zX (fun hb=>h3 ?_) (fun hb=>h1 ?_))<;>(clear h1 h3 K1 K3;(try have hb2:=yC hb);(try have hb2:=yD hb);(try have hb2:=yE hb);(try have hb2:=yF hb);(try have hb2:=yG hb)))|(refine fun (K2:_→AHeap→Prop) hK2=>?_)|((with_reducible refine zY ?_ ?_);decide)|((with_reducible first|refine zZ ?_ (fun K hK=>?_)|refine yA ?_ (fun K hK=>?_));(focus go_simp;done);go_simp;refine hK _ _ ?_;clear hK K)|(go_simp;(try go_bits);(try first | ((with_reducible show CallS _ _ _ _ _ _);refine CallS.mono (HCL.out _ _ (((Ext.refl _).push' _).push' _)) ?_; rintro _ _ ⟨rfl, rfl⟩));refine hK2 _ _ ?_;clear hK2 K2))
    exact ⟨rfl, ((Ext.refl _).push' _).push' _⟩
  case' pos =>
    have hg : Good t ∧ t.listed ids = true := by
      unfold errList at he
      split at he
      · rename_i h; exact absurd he h
      · rename_i h
        split at he
        · rename_i h2; exact ⟨good_of (by simpa using h), h2⟩
        · cases he
    rw [if_pos he, he]
    rw [he] at HCL
    have HG := Lib.hid hg
    have HJO := Lib.hid (fun (loops : List (Nat × LInfo)) (H2 : AHeap) (hx : Ext H H2) => jamsOf_e (loops := loops) (HV.out.ext hx) (HL.out.ext hx) hg.1)
    have hdays := hg.1.days
    rw [win_iff] at hdays
    obtain ⟨n, hn⟩ := Int.eq_ofNat_of_zero_le (show 0 ≤ t.days by omega)
    have hn1 : 1 ≤ n := by omega
    have hn2 : n ≤ 60 := by omega
    have HRES : Hid (t.jam ids = t.jamLo ids n n 0) := Lib.hid (by rw [Tour.jam, hn]; rfl)
    obtain ⟨cv, fv, rfl, hc, hf⟩ := hv
    obtain ⟨hcl', ca, cc, rfl⟩ := hc.slice
    obtain ⟨hfl, fa, fc, rfl⟩ := hf.slice
    obtain ⟨hll, la, lc, rfl⟩ := hl.slice
    rw [hn] at HV HCL HJO ⊢
    clear hc hf hl he hg hdays hn
    refine CallS.enter' Tryz.func20 rfl Tryz.ntmps20 (by simp) fun f hd hf => ?_
    have f0 := hf 0
    have f1 := hf 1
    simp at f0 f1
    clear hf
    repeat' (first|(with_reducible first|refine zA ?_|refine zB fun K hK=>?_|refine zC fun K2 hK2=>?_|refine zD ?_|refine zE ?_|refine zF ?_|refine zG ?_|refine zH ?_|refine zI ?_|refine zM ?_|refine zN ?_|refine zO ?_|refine zP ?_|refine zQ ?_|refine zR ?_)|((with_reducible refine zU (hK _ _ ?_));clear hK K)|((with_reducible refine zV ?_ ?_ fun K1 K3 d hdst h1 h3=>?_);rfl;exact yB rfl;cases hdst;go_simp)|((with_reducible refine zW fun K1 K3 h1 h3=>?_);go_simp)|((first|refine h1 ?_|refine h3 ?_);clear h1 h3 K1 K3)|((first|refine zX (fun hb=>h1 ?_) (fun hb=>h3 ?_)|refine zX (fun hb=>h3 ?_) (fun hb=>h1 ?_))<;>(clear h1 h3 K1 K3;(try have hb2:=yC hb);(try have hb2:=yD hb);(try have hb2:=yE hb);(try have hb2:=yF hb);(try have hb2:=yG hb)))|(refine fun (K2:_→AHeap→Prop) hK2=>?_)|((with_reducible refine zY ?_ ?_);decide)|((with_reducible first|refine zZ ?_ (fun K hK=>?_)|refine yA ?_ (fun K hK=>?_));(focus go_simp;done);go_simp;refine hK _ _ ?_;clear hK K)|(go_simp;(try go_bits);(try first |((with_reducible show CallS _ _ _ _ _ _);first|(refine CallS.mono (HCL.out _ _ (((Ext.refl _).push' _).push' _)) ?_; rintro _ _ ⟨rfl, rfl⟩)|(refine CallS.mono (HJO.out _ _ (((Ext.refl _).push' _).push' _)) ?_; rintro _ H2 ⟨a, b, c, p, rfl, hj, hx2⟩; (have HJ := Lib.hid hj); (have HX2 := Lib.hid hx2); clear hj hx2)));refine hK2 _ _ ?_;clear hK2 K2))
    have hlt2 : H.n + 1 < H2.n := by have := HX2.out.n; simp only [AHeap.n_push] at this; omega
    have hcd : cellAt H2 H.n 0 = some (.int .i64 n) := by
      rw [cellAt_get (HX2.out.get _ (by simp only [AHeap.n_push]; omega)), cellAt_get (AHeap.get_push_old (by simp only [AHeap.n_push]; omega)), cellAt_new]; rfl
    have hgr : H2.get (H.n + 1) = .row [.int .i64 0, .int .i64 0] 27 := by
      rw [HX2.out.get _ (by simp only [AHeap.n_push]; omega), show H.n + 1 = (H.push (.row [.int .i64 n, .slice ca t.closed.length cc, .slice fa t.flaws.length fc] 25)).n from rfl, AHeap.get_push_new]
    have HXH : Hid (Ext H H2) := Lib.hid ((((Ext.refl _).push' _).push' _).trans HX2.out)
    have HGR := Lib.hid hgr
    have HCD := Lib.hid hcd
    clear hgr HX2
    repeat' (first|(with_reducible first|refine zA ?_|refine zB fun K hK=>?_|refine zC fun K2 hK2=>?_|refine zD ?_|refine zE ?_|refine zF ?_|refine zG ?_|refine zH ?_|refine zI ?_|refine zM ?_|refine zN ?_|refine zO ?_|refine zP ?_|refine zQ ?_|refine zR ?_)|((with_reducible refine zU (hK _ _ ?_));clear hK K)|((with_reducible refine zV ?_ ?_ fun K1 K3 d hdst h1 h3=>?_);rfl;exact yB rfl;cases hdst;go_simp)|((with_reducible refine zW fun K1 K3 h1 h3=>?_);go_simp)|((first|refine h1 ?_|refine h3 ?_);clear h1 h3 K1 K3)|((first|refine zX (fun hb=>h1 ?_) (fun hb=>h3 ?_)|refine zX (fun hb=>h3 ?_) (fun hb=>h1 ?_))<;>(clear h1 h3 K1 K3;(try have hb2:=yC hb);(try have hb2:=yD hb);(try have hb2:=yE hb);(try have hb2:=yF hb);(try have hb2:=yG hb)))|(refine fun (K2:_→AHeap→Prop) hK2=>?_)|((with_reducible refine zY ?_ ?_);decide)|((with_reducible first|refine zZ ?_ (fun K hK=>?_)|refine yA ?_ (fun K hK=>?_));(focus go_simp;done);go_simp;refine hK _ _ ?_;clear hK K)|(go_simp;(try go_bits);refine hK2 _ _ ?_;clear hK2 K2))
    refine CodeS.loop (fun m f H' => ∃ (k : Nat), k ≤ n ∧ m = n - k ∧ f.tmp 24 = .int .i64 k ∧ f.tmp 23 = .int .i64 n ∧ f.tmp 8 = jamV a b c p ∧ f.tmp 2 = .pointer (some ⟨H.n, 0, none⟩) ∧ f.tmp 4 = .pointer (some ⟨H.n + 1, 0, none⟩) ∧ f.defers = [] ∧ Hid (Ext H2 H') ∧ Hid (t.jamLo ids n (n - k) k = t.jam ids)) n ?_ ?_
    · exact ⟨0, by omega, by omega, (by first|go_simp<;>go_num|assumption), (by first|go_simp<;>go_num|assumption), (by first|go_simp<;>go_num|assumption), (by first|go_simp<;>go_num|assumption), (by first|go_simp<;>go_num|assumption), (by first|go_simp<;>go_num|assumption), Lib.hid (Ext.refl _), Lib.hid (by rw [HRES.out]; rfl)⟩
    clear f0 f1 hd f hcd
    rintro m f H' ⟨k, hk, rfl, f24, f23, f8, f2, f4, hd, HX, HJL⟩
    by_cases hlt : k < n
    · have HST : Hid (t.jamLo ids n (n - k) k = orElseJ (t.jamHi ids k (n - k) k) (t.jamLo ids n (n - (k + 1)) (k + 1))) := Lib.hid (by
        rw [show n - k = (n - (k + 1)) + 1 by omega, Tour.jamLo, show n - (k + 1) + 1 = n - k by omega])
      repeat' (first|(with_reducible first|refine zA ?_|refine zB fun K hK=>?_|refine zC fun K2 hK2=>?_|refine zD ?_|refine zE ?_|refine zF ?_|refine zG ?_|refine zH ?_|refine zI ?_|refine zM ?_|refine zN ?_|refine zO ?_|refine zP ?_|refine zQ ?_|refine zR ?_)|((with_reducible refine zU (hK _ _ ?_));clear hK K)|((with_reducible refine zV ?_ ?_ fun K1 K3 d hdst h1 h3=>?_);rfl;exact yB rfl;cases hdst;go_simp)|((with_reducible refine zW fun K1 K3 h1 h3=>?_);go_simp)|((first|refine h1 ?_|refine h3 ?_);clear h1 h3 K1 K3)|((first|refine zX (fun hb=>h1 ?_) (fun hb=>h3 ?_)|refine zX (fun hb=>h3 ?_) (fun hb=>h1 ?_))<;>(clear h1 h3 K1 K3;(try have hb2:=yC hb);(try have hb2:=yD hb);(try have hb2:=yE hb);(try have hb2:=yF hb);(try have hb2:=yG hb)))|(refine fun (K2:_→AHeap→Prop) hK2=>?_)|((with_reducible refine zY ?_ ?_);decide)|((with_reducible first|refine zZ ?_ (fun K hK=>?_)|refine yA ?_ (fun K hK=>?_));(focus go_simp;done);go_simp;refine hK _ _ ?_;clear hK K)|(go_simp;(try go_bits);refine hK2 _ _ ?_;clear hK2 K2))
      refine CodeS.loop (fun m f H' => ∃ (j : Nat), k ≤ j ∧ j ≤ n ∧ m = n - j ∧ f.tmp 10 = .int .i64 j ∧ f.tmp 9 = .int .i64 k ∧ f.tmp 24 = .int .i64 k ∧ f.tmp 23 = .int .i64 n ∧ f.tmp 8 = jamV a b c p ∧ f.tmp 2 = .pointer (some ⟨H.n, 0, none⟩) ∧ f.tmp 4 = .pointer (some ⟨H.n + 1, 0, none⟩) ∧ f.defers = [] ∧ Hid (Ext H2 H') ∧ Hid (orElseJ (t.jamHi ids k (n - j) j) (t.jamLo ids n (n - (k + 1)) (k + 1)) = t.jam ids)) (n - k) ?_ ?_
      · exact ⟨k, Nat.le_refl _, by omega, rfl, (by first|go_simp<;>go_num|assumption), (by first|go_simp<;>go_num|assumption), (by first|go_simp<;>go_num|assumption), (by first|go_simp<;>go_num|assumption), (by first|go_simp<;>go_num|assumption), (by first|go_simp<;>go_num|assumption), (by first|go_simp<;>go_num|assumption), (by first|go_simp<;>go_num|assumption), HX, Lib.hid (by rw [← HST.out, HJL.out])⟩
      clear f24 f23 f8 f2 f4 hd f HX HJL HST H'
      rintro m f H' ⟨j, hkj, hj, rfl, f10, f9, f24, f23, f8, f2, f4, hd, HX, HJL⟩
      have hcd : cellAt H' H.n 0 = some (.int .i64 n) := (HX.out.cellAt (by omega)).trans HCD.out
      have hnn : H.n + 1 < H'.n := by have := HX.out.n; omega
      have hn0 : H.n < H'.n := by omega
      by_cases hjn : j < n
      · have HST : Hid (t.jamHi ids k (n - j) j = if t.isJam ids k j = true then some (k, j) else t.jamHi ids k (n - (j + 1)) (j + 1)) := Lib.hid (by
          rw [show n - j = (n - (j + 1)) + 1 by omega, Tour.jamHi])
        have HIJ := Lib.hid (fun (loops : List (Nat × LInfo)) (H3 : AHeap) (hx : Ext H' H3) => isJam_s (loops := loops) (lo := (k : Int)) (hi := (j : Int)) (HJ.out.ext (HX.out.trans hx)) HG.out.1 HG.out.2)
        have hg1 : ∀ o, (H'.push o).get (H.n + 1) = .row [.int .i64 0, .int .i64 0] 27 := fun o => (AHeap.get_push_old hnn).trans ((HX.out.get _ hlt2).trans HGR.out)
        generalize t.isJam ids k j = ij at HIJ HST
        repeat' (first|(with_reducible first|refine zA ?_|refine zB fun K hK=>?_|refine zC fun K2 hK2=>?_|refine zD ?_|refine zE ?_|refine zF ?_|refine zG ?_|refine zH ?_|refine zI ?_|refine zM ?_|refine zN ?_|refine zO ?_|refine zP ?_|refine zQ ?_|refine zR ?_)|((with_reducible refine zU (hK _ _ ?_));clear hK K)|((with_reducible refine zV ?_ ?_ fun K1 K3 d hdst h1 h3=>?_);rfl;exact yB rfl;cases hdst;go_simp)|((with_reducible refine zW fun K1 K3 h1 h3=>?_);go_simp)|((first|refine h1 ?_|refine h3 ?_);clear h1 h3 K1 K3)|((first|refine zX (fun hb=>h1 ?_) (fun hb=>h3 ?_)|refine zX (fun hb=>h3 ?_) (fun hb=>h1 ?_))<;>(clear h1 h3 K1 K3;(try have hb2:=yC hb);(try have hb2:=yD hb);(try have hb2:=yE hb);(try have hb2:=yF hb);(try have hb2:=yG hb)))|(refine fun (K2:_→AHeap→Prop) hK2=>?_)|((with_reducible refine zY ?_ ?_);decide)|((with_reducible first|refine zZ ?_ (fun K hK=>?_)|refine yA ?_ (fun K hK=>?_));(focus go_simp;done);go_simp;refine hK _ _ ?_;clear hK K)|(go_simp;(try go_bits);(try first | ((rw [aBuild_struct st27 ze27]); go_simp) | ((with_reducible show CallS _ _ _ _ _ _);refine CallS.mono (HIJ.out _ _ (Ext.push _)) ?_; rintro _ _ ⟨rfl, rfl⟩));refine hK2 _ _ ?_;clear hK2 K2))
        · have hij : ij = true := hb
          have h := HJL.out
          rw [HST.out, if_pos hij] at h
          refine ⟨?_, ((HXH.out.trans HX.out).upd (by omega) _).push' _⟩
          rw [← h]; rfl
        · have hij : ¬ ij = true := by rw [hb]; exact Bool.false_ne_true
          refine Post.round_normal ⟨n - (j + 1), by omega, j + 1, by omega, by omega, rfl, (by first|go_simp<;>go_num|assumption), (by first|go_simp<;>go_num|assumption), (by first|go_simp<;>go_num|assumption), (by first|go_simp<;>go_num|assumption), (by first|go_simp<;>go_num|assumption), (by first|go_simp<;>go_num|assumption), (by first|go_simp<;>go_num|assumption), (by first|go_simp<;>go_num|assumption), Lib.hid (HX.out.push' _), Lib.hid ?_⟩
          rw [← HJL.out, HST.out, if_neg hij]
      · have hnn' : ¬ (j : Int) < (n : Int) := by omega
        repeat' (first|(with_reducible first|refine zA ?_|refine zB fun K hK=>?_|refine zC fun K2 hK2=>?_|refine zD ?_|refine zE ?_|refine zF ?_|refine zG ?_|refine zH ?_|refine zI ?_|refine zM ?_|refine zN ?_|refine zO ?_|refine zP ?_|refine zQ ?_|refine zR ?_)|((with_reducible refine zU (hK _ _ ?_));clear hK K)|((with_reducible refine zV ?_ ?_ fun K1 K3 d hdst h1 h3=>?_);rfl;exact yB rfl;cases hdst;go_simp)|((with_reducible refine zW fun K1 K3 h1 h3=>?_);go_simp)|((first|refine h1 ?_|refine h3 ?_);clear h1 h3 K1 K3)|((first|refine zX (fun hb=>h1 ?_) (fun hb=>h3 ?_)|refine zX (fun hb=>h3 ?_) (fun hb=>h1 ?_))<;>(clear h1 h3 K1 K3;(try have hb2:=yC hb);(try have hb2:=yD hb);(try have hb2:=yE hb);(try have hb2:=yF hb);(try have hb2:=yG hb)))|(refine fun (K2:_→AHeap→Prop) hK2=>?_)|((with_reducible refine zY ?_ ?_);decide)|((with_reducible first|refine zZ ?_ (fun K hK=>?_)|refine yA ?_ (fun K hK=>?_));(focus go_simp;done);go_simp;refine hK _ _ ?_;clear hK K)|(go_simp;(try go_bits);refine hK2 _ _ ?_;clear hK2 K2))
        refine Post.round_normal ⟨n - (k + 1), by omega, k + 1, by omega, rfl, (by first|go_simp<;>go_num|assumption), (by first|go_simp<;>go_num|assumption), (by first|go_simp<;>go_num|assumption), (by first|go_simp<;>go_num|assumption), (by first|go_simp<;>go_num|assumption), (by first|go_simp<;>go_num|assumption), HX, Lib.hid ?_⟩
        have h := HJL.out
        rw [show n - j = 0 by omega] at h
        exact h
    · have hcc : ¬ (k : Int) < (n : Int) := by omega
      have hnn : H.n + 1 < H'.n := by have := HX.out.n; omega
      have hg1 : H'.get (H.n + 1) = .row [.int .i64 0, .int .i64 0] 27 := (HX.out.get _ hlt2).trans HGR.out
      have hres : t.jam ids = none := by
        have h := HJL.out
        rw [show n - k = 0 by omega] at h
        exact h.symm
      rw [hres]
      clear hres
      repeat' (first|(with_reducible first|refine zA ?_|refine zB fun K hK=>?_|refine zC fun K2 hK2=>?_|refine zD ?_|refine zE ?_|refine zF ?_|refine zG ?_|refine zH ?_|refine zI ?_|refine zM ?_|refine zN ?_|refine zO ?_|refine zP ?_|refine zQ ?_|refine zR ?_)|((with_reducible refine zU (hK _ _ ?_));clear hK K)|((with_reducible refine zV ?_ ?_ fun K1 K3 d hdst h1 h3=>?_);rfl;exact yB rfl;cases hdst;go_simp)|((with_reducible refine zW fun K1 K3 h1 h3=>?_);go_simp)|((first|refine h1 ?_|refine h3 ?_);clear h1 h3 K1 K3)|((first|refine zX (fun hb=>h1 ?_) (fun hb=>h3 ?_)|refine zX (fun hb=>h3 ?_) (fun hb=>h1 ?_))<;>(clear h1 h3 K1 K3;(try have hb2:=yC hb);(try have hb2:=yD hb);(try have hb2:=yE hb);(try have hb2:=yF hb);(try have hb2:=yG hb)))|(refine fun (K2:_→AHeap→Prop) hK2=>?_)|((with_reducible refine zY ?_ ?_);decide)|((with_reducible first|refine zZ ?_ (fun K hK=>?_)|refine yA ?_ (fun K hK=>?_));(focus go_simp;done);go_simp;refine hK _ _ ?_;clear hK K)|(go_simp;(try go_bits);refine hK2 _ _ ?_;clear hK2 K2))
      exact ⟨rfl, (HXH.out.trans HX.out).upd (by omega) _⟩
end Go.Proofs.Tryz
namespace Go.Proofs.Tryz
open Go Go.Am Go.RowKit
set_option maxRecDepth 100000

theorem good_list {t : Tour} {ids : List Int} (he : errList t ids = 0) : Good t ∧ t.listed ids = true := by
  unfold errList at he
  split at he
  · rename_i h; exact absurd he h
  · rename_i h
    split at he
    · rename_i h2; exact ⟨good_of (by simpa using h), h2⟩
    · cases he

def Tour.can (t : Tour) (ids : List Int) : Bool := decide (errList t ids = 0) && (t.jam ids).isNone

theorem can_s {loops : List (Nat × LInfo)} {H : AHeap} {v lv : Value} {t : Tour} {ids : List Int} (hv : TourV H v t) (hl : Ints H lv ids) :
    CallS Tryz.prog loops 18 [v, lv] H fun r H' => r = .tuple #[.bool (t.can ids), .int .i64 (errList t ids)] ∧ H' = H := by
  refine CallS.forget (R := fun r => r = .tuple #[.bool (t.can ids), .int .i64 (errList t ids)]) (by rintro v rfl; rfl) ?_
  have HV := Lib.hid hv
  have HL := Lib.hid hl
  have hj := fun (loops : List (Nat × LInfo)) (H2 : AHeap) (hx : Ext H H2) => jam_s (loops := loops) (HV.out.ext hx) (HL.out.ext hx)
  unfold Tour.can
  obtain ⟨cv, fv, rfl, hc, hf⟩ := hv
  obtain ⟨hcl', ca, cc, rfl⟩ := hc.slice
  obtain ⟨hfl, fa, fc, rfl⟩ := hf.slice
  obtain ⟨hll, la, lc, rfl⟩ := hl.slice
  clear hc hf hl
  generalize errList t ids = er at hj ⊢
  generalize t.jam ids = o at hj ⊢
  by_cases he : er = 0
  case' neg =>
    rw [if_neg he, jamR] at hj
    rw [decide_eq_false he]
    have heb : (er == 0) = false := by simpa using he
    have HJ := Lib.hid hj
    clear hj he
    refine CallS.enter' Tryz.func18 rfl Tryz.ntmps18 (by simp) fun f hd hf => ?_
    have f0 := hf 0
    have f1 := hf 1
    simp at f0 f1
    clear hf
    repeat' (first|(with_reducible first|refine zA ?_|refine zB fun K hK=>?_|refine zC fun K2 hK2=>?_|refine zD ?_|refine zE ?_|refine zF ?_|refine zG ?_|refine zH ?_|refine zI ?_|refine zM ?_|refine zN ?_|refine zO ?_|refine zP ?_|refine zQ ?_|refine zR ?_)|((with_reducible refine zU (hK _ _ ?_));clear hK K)|((with_reducible refine zV ?_ ?_ fun K1 K3 d hdst h1 h3=>?_);rfl;exact yB rfl;cases hdst;go_simp)|((with_reducible refine zW fun K1 K3 h1 h3=>?_);go_simp)|((first|refine h1 ?_|refine h3 ?_);clear h1 h3 K1 K3)|((first|refine zX (fun hb=>h1 ?_) (fun hb=>h3 ?_)|refine zX (fun hb=>h3 ?_) (fun hb=>h1 ?_))<;>(clear h1 h3 K1 K3;(try have hb2:=yC hb);(try have hb2:=yD hb);(try have hb2:=yE hb);(try have hb2:=yF hb);(try have hb2:=yG hb)))|(refine fun (K2:_→AHeap→Prop) hK2=>?_)|((with_reducible refine zY ?_ ?_);decide)|((with_reducible first|refine zZ ?_ (fun K hK=>?_)|refine yA ?_ (fun K hK=>?_));(focus go_simp;done);go_simp;refine hK _ _ ?_;clear hK K)|(go_simp;(try go_bits);(try first | ((with_reducible show CallS _ _ _ _ _ _);refine CallS.mono (HJ.out _ _ ((Ext.refl _).push' _)) ?_; rintro _ _ ⟨rfl, rfl⟩));refine hK2 _ _ ?_;clear hK2 K2))
    exact ⟨rfl, ((Ext.refl _).push' _).push' _⟩
  case' pos =>
    subst he
    rw [if_pos rfl] at hj
    cases o with
    | none =>
      rw [jamR] at hj
      have HJ := Lib.hid hj
      clear hj
      refine CallS.enter' Tryz.func18 rfl Tryz.ntmps18 (by simp) fun f hd hf => ?_
      have f0 := hf 0
      have f1 := hf 1
      simp at f0 f1
      clear hf
      repeat' (first|(with_reducible first|refine zA ?_|refine zB fun K hK=>?_|refine zC fun K2 hK2=>?_|refine zD ?_|refine zE ?_|refine zF ?_|refine zG ?_|refine zH ?_|refine zI ?_|refine zM ?_|refine zN ?_|refine zO ?_|refine zP ?_|refine zQ ?_|refine zR ?_)|((with_reducible refine zU (hK _ _ ?_));clear hK K)|((with_reducible refine zV ?_ ?_ fun K1 K3 d hdst h1 h3=>?_);rfl;exact yB rfl;cases hdst;go_simp)|((with_reducible refine zW fun K1 K3 h1 h3=>?_);go_simp)|((first|refine h1 ?_|refine h3 ?_);clear h1 h3 K1 K3)|((first|refine zX (fun hb=>h1 ?_) (fun hb=>h3 ?_)|refine zX (fun hb=>h3 ?_) (fun hb=>h1 ?_))<;>(clear h1 h3 K1 K3;(try have hb2:=yC hb);(try have hb2:=yD hb);(try have hb2:=yE hb);(try have hb2:=yF hb);(try have hb2:=yG hb)))|(refine fun (K2:_→AHeap→Prop) hK2=>?_)|((with_reducible refine zY ?_ ?_);decide)|((with_reducible first|refine zZ ?_ (fun K hK=>?_)|refine yA ?_ (fun K hK=>?_));(focus go_simp;done);go_simp;refine hK _ _ ?_;clear hK K)|(go_simp;(try go_bits);(try first | ((with_reducible show CallS _ _ _ _ _ _);refine CallS.mono (HJ.out _ _ ((Ext.refl _).push' _)) ?_; rintro _ _ ⟨rfl, rfl⟩));refine hK2 _ _ ?_;clear hK2 K2))
      exact ⟨rfl, ((Ext.refl _).push' _).push' _⟩
    | some x =>
      obtain ⟨lo, hi⟩ := x
      rw [jamR] at hj
      have HJ := Lib.hid hj
      clear hj
      refine CallS.enter' Tryz.func18 rfl Tryz.ntmps18 (by simp) fun f hd hf => ?_
      have f0 := hf 0
      have f1 := hf 1
      simp at f0 f1
      clear hf
      repeat' (first|(with_reducible first|refine zA ?_|refine zB fun K hK=>?_|refine zC fun K2 hK2=>?_|refine zD ?_|refine zE ?_|refine zF ?_|refine zG ?_|refine zH ?_|refine zI ?_|refine zM ?_|refine zN ?_|refine zO ?_|refine zP ?_|refine zQ ?_|refine zR ?_)|((with_reducible refine zU (hK _ _ ?_));clear hK K)|((with_reducible refine zV ?_ ?_ fun K1 K3 d hdst h1 h3=>?_);rfl;exact yB rfl;cases hdst;go_simp)|((with_reducible refine zW fun K1 K3 h1 h3=>?_);go_simp)|((first|refine h1 ?_|refine h3 ?_);clear h1 h3 K1 K3)|((first|refine zX (fun hb=>h1 ?_) (fun hb=>h3 ?_)|refine zX (fun hb=>h3 ?_) (fun hb=>h1 ?_))<;>(clear h1 h3 K1 K3;(try have hb2:=yC hb);(try have hb2:=yD hb);(try have hb2:=yE hb);(try have hb2:=yF hb);(try have hb2:=yG hb)))|(refine fun (K2:_→AHeap→Prop) hK2=>?_)|((with_reducible refine zY ?_ ?_);decide)|((with_reducible first|refine zZ ?_ (fun K hK=>?_)|refine yA ?_ (fun K hK=>?_));(focus go_simp;done);go_simp;refine hK _ _ ?_;clear hK K)|(go_simp;(try go_bits);(try first | ((with_reducible show CallS _ _ _ _ _ _);refine CallS.mono (HJ.out _ _ ((Ext.refl _).push' _)) ?_; rintro _ _ ⟨rfl, rfl⟩));refine hK2 _ _ ?_;clear hK2 K2))
      exact ⟨rfl, ((Ext.refl _).push' _).push' _⟩

def Tour.checkJam (t : Tour) (ids : List Int) (lo hi : Int) : Int := if errList t ids ≠ 0 then errList t ids else if t.isJam ids lo hi = true then 0 else 8

theorem checkJam_s {loops : List (Nat × LInfo)} {H : AHeap} {v lv : Value} {t : Tour} {ids : List Int} {lo hi : Int} (hv : TourV H v t) (hl : Ints H lv ids) :
    CallS Tryz.prog loops 25 [v, lv, .agg #[.int .i64 lo, .int .i64 hi]] H fun r H' => r = .int .i64 (t.checkJam ids lo hi) ∧ H' = H := by
  refine CallS.forget (R := fun r => r = .int .i64 (t.checkJam ids lo hi)) (by rintro v rfl; rfl) ?_
  have HV := Lib.hid hv
  have HL := Lib.hid hl
  have HCL := Lib.hid (fun (loops : List (Nat × LInfo)) (H2 : AHeap) (hx : Ext H H2) => checkList_s (loops := loops) (HV.out.ext hx) (HL.out.ext hx))
  unfold Tour.checkJam
  by_cases he : errList t ids = 0
  case' neg =>
    rw [if_pos he]
    generalize errList t ids = er at HCL he ⊢
    have heb : (er != 0) = true := by simpa using he
    obtain ⟨cv, fv, rfl, hc, hf⟩ := hv
    obtain ⟨hcl', ca, cc, rfl⟩ := hc.slice
    obtain ⟨hfl, fa, fc, rfl⟩ := hf.slice
    obtain ⟨hll, la, lc, rfl⟩ := hl.slice
    clear hc hf hl he
    refine CallS.enter' Tryz.func25 rfl Tryz.ntmps25 (by simp) fun f hd hf => ?_
    have f0 := hf 0
    have f1 := hf 1
    have f2 := hf 2
    simp at f0 f1 f2
    clear hf
    repeat' (first|(with_reducible first|refine zA ?_|refine zB fun K hK=>?_|refine zC fun K2 hK2=>?_|refine zD ?_|refine zE ?_|refine zF ?_|refine zG ?_|refine zH ?_|refine zI ?_|refine zM ?_|refine zN ?_|refine zO ?_|refine zP ?_|refine zQ ?_|refine zR ?_)|((with_reducible refine zU (hK _ _ ?_));clear hK K)|((with_reducible refine zV ?_ ?_ fun K1 K3 d hdst h1 h3=>?_);rfl;exact yB rfl;cases hdst;go_simp)|((with_reducible refine zW fun K1 K3 h1 h3=>?_);go_simp)|((first|refine h1 ?_|refine h3 ?_);clear h1 h3 K1 K3)|((first|refine zX (fun hb=>h1 ?_) (fun hb=>h3 ?_)|refine zX (fun hb=>h3 ?_) (fun hb=>h1 ?_))<;>(clear h1 h3 K1 K3;(try have hb2:=yC hb);(try have hb2:=yD hb);(try have hb2:=yE hb);(try have hb2:=yF hb);(try have hb2:=yG hb)))|(refine fun (K2:_→AHeap→Prop) hK2=>?_)|((with_reducible refine zY ?_ ?_);decide)|((with_reducible first|refine zZ ?_ (fun K hK=>?_)|refine yA ?_ (fun K hK=>?_));(focus go_simp;done);go_simp;refine hK _ _ ?_;clear hK K)|(go_simp;(try go_bits);(try first | ((with_reducible show CallS _ _ _ _ _ _);refine CallS.mono (HCL.out _ _ (((Ext.refl _).push' _).push' _)) ?_; rintro _ _ ⟨rfl, rfl⟩));refine hK2 _ _ ?_;clear hK2 K2))
    exact ⟨rfl, ((Ext.refl _).push' _).push' _⟩
  case' pos =>
    have hg := good_list he
    rw [if_neg (by simp [he])]
    rw [he] at HCL
    have HJO := Lib.hid (fun (loops : List (Nat × LInfo)) (H2 : AHeap) (hx : Ext H H2) => jamsOf_e (loops := loops) (HV.out.ext hx) (HL.out.ext hx) hg.1)
    have HIJ := Lib.hid (fun (loops : List (Nat × LInfo)) (H3 : AHeap) (a b c p : Nat) (hj : JamAt H3 a b c p t ids) => isJam_s (loops := loops) (lo := lo) (hi := hi) hj hg.1 hg.2)
    generalize t.isJam ids lo hi = ij at HIJ ⊢
    obtain ⟨cv, fv, rfl, hc, hf⟩ := hv
    obtain ⟨hcl', ca, cc, rfl⟩ := hc.slice
    obtain ⟨hfl, fa, fc, rfl⟩ := hf.slice
    obtain ⟨hll, la, lc, rfl⟩ := hl.slice
    clear hc hf hl he hg
    refine CallS.enter' Tryz.func25 rfl Tryz.ntmps25 (by simp) fun f hd hf => ?_
    have f0 := hf 0
    have f1 := hf 1
    have f2 := hf 2
    simp at f0 f1 f2
    clear hf
    repeat' (first|(with_reducible first|refine zA ?_|refine zB fun K hK=>?_|refine zC fun K2 hK2=>?_|refine zD ?_|refine zE ?_|refine zF ?_|refine zG ?_|refine zH ?_|refine zI ?_|refine zM ?_|refine zN ?_|refine zO ?_|refine zP ?_|refine zQ ?_|refine zR ?_)|((with_reducible refine zU (hK _ _ ?_));clear hK K)|((with_reducible refine zV ?_ ?_ fun K1 K3 d hdst h1 h3=>?_);rfl;exact yB rfl;cases hdst;go_simp)|((with_reducible refine zW fun K1 K3 h1 h3=>?_);go_simp)|((first|refine h1 ?_|refine h3 ?_);clear h1 h3 K1 K3)|((first|refine zX (fun hb=>h1 ?_) (fun hb=>h3 ?_)|refine zX (fun hb=>h3 ?_) (fun hb=>h1 ?_))<;>(clear h1 h3 K1 K3;(try have hb2:=yC hb);(try have hb2:=yD hb);(try have hb2:=yE hb);(try have hb2:=yF hb);(try have hb2:=yG hb)))|(refine fun (K2:_→AHeap→Prop) hK2=>?_)|((with_reducible refine zY ?_ ?_);decide)|((with_reducible first|refine zZ ?_ (fun K hK=>?_)|refine yA ?_ (fun K hK=>?_));(focus go_simp;done);go_simp;refine hK _ _ ?_;clear hK K)|(go_simp;(try go_bits);(try first |((with_reducible show CallS _ _ _ _ _ _);first|(refine CallS.mono (HCL.out _ _ (((Ext.refl _).push' _).push' _)) ?_; rintro _ _ ⟨rfl, rfl⟩)|(refine CallS.mono (HJO.out _ _ (((Ext.refl _).push' _).push' _)) ?_; rintro _ H2 ⟨a, b, c, p, rfl, hj, hx2⟩; (have HJ := Lib.hid hj); (have HX2 : Hid (Ext H H2) := Lib.hid ((((Ext.refl _).push' _).push' _).trans hx2)); (have hcs : cellsAt H2 (H.n + 1) 0 2 = some [.int .i64 lo, .int .i64 hi] := (hx2.cellsAt (by simp only [AHeap.n_push]; omega)).trans (by go_simp)); clear hj hx2)|(refine CallS.mono (HIJ.out _ _ _ _ _ _ HJ.out) ?_; rintro _ _ ⟨rfl, rfl⟩)));refine hK2 _ _ ?_;clear hK2 K2))
    all_goals (refine ⟨?_, HX2.out⟩; simp_all)
end Go.Proofs.Tryz
namespace Go.Proofs.Tryz
open Go Go.Am Go.RowKit
set_option maxRecDepth 100000


set_option maxHeartbeats 4000000 in
theorem rjam_s {loops : List (Nat × LInfo)} {H : AHeap} {v lv : Value} {t : Tour} {ids : List Int} {lo hi : Int} (hv : TourV H v t) (hl : Ints H lv ids) (hd6 : t.days ≤ 60) (hli : t.listed ids = true) (h : t.isSpan lo hi = true) : CallS Tryz.prog loops 86 [v, lv, .agg #[.int .i64 lo, .int .i64 hi]] H fun r H' => r = .bool (t.isJam ids lo hi) ∧ H' = H := by
  refine CallS.forget (R := fun r => r = .bool (t.isJam ids lo hi)) (by rintro v rfl; rfl) ?_
  have HV := Lib.hid hv
  have HRM := Lib.hid (fun (loops : List (Nat × LInfo)) (H2 : AHeap) (hx : Ext H H2) => rroom_s (loops := loops) (HV.out.ext hx) hd6 h)
  have HFW := Lib.hid (fun (loops : List (Nat × LInfo)) (H2 : AHeap) (x : Int) (hx : Ext H H2) => flaw_s (loops := loops) (x := x) (HV.out.ext hx))
  have HLI := Lib.hid hli
  rw [Tour.isJam, h, Bool.true_and]
  obtain ⟨cv, fv, rfl, hc, hf⟩ := hv
  obtain ⟨hcl, ca, cc, rfl⟩ := hc.slice
  obtain ⟨hfl, fa, fc, rfl⟩ := hf.slice
  obtain ⟨hll, la, lc, rfl⟩ := hl.slice
  have HL := Lib.hid hl
  have HF := Lib.hid hf
  generalize t.room lo hi = rm at HRM ⊢
  generalize hT : t.inSpan lo hi ids = T
  have HT := Lib.hid hT
  clear hc hf hl hli h hT hd6
  refine CallS.enter' Tryz.func86 rfl Tryz.ntmps86 (by simp) fun f hd hf => ?_
  have f0 := hf 0
  have f1 := hf 1
  have f2 := hf 2
  simp at f0 f1 f2
  clear hf
  repeat' (first|(with_reducible first|refine zA ?_|refine zB fun K hK=>?_|refine zC fun K2 hK2=>?_|refine zD ?_|refine zE ?_|refine zF ?_|refine zG ?_|refine zH ?_|refine zI ?_|refine zM ?_|refine zN ?_|refine zO ?_|refine zP ?_|refine zQ ?_|refine zR ?_)|((with_reducible refine zU (hK _ _ ?_));clear hK K)|((with_reducible refine zV ?_ ?_ fun K1 K3 d hdst h1 h3=>?_);rfl;exact yB rfl;cases hdst;go_simp)|((with_reducible refine zW fun K1 K3 h1 h3=>?_);go_simp)|((first|refine h1 ?_|refine h3 ?_);clear h1 h3 K1 K3)|((first|refine zX (fun hb=>h1 ?_) (fun hb=>h3 ?_)|refine zX (fun hb=>h3 ?_) (fun hb=>h1 ?_))<;>(clear h1 h3 K1 K3;(try have hb2:=yC hb);(try have hb2:=yD hb);(try have hb2:=yE hb);(try have hb2:=yF hb);(try have hb2:=yG hb)))|(refine fun (K2:_→AHeap→Prop) hK2=>?_)|((with_reducible refine zY ?_ ?_);decide)|((with_reducible first|refine zZ ?_ (fun K hK=>?_)|refine yA ?_ (fun K hK=>?_));(focus go_simp;done);go_simp;refine hK _ _ ?_;clear hK K)|(go_simp;(try go_bits);refine hK2 _ _ ?_;clear hK2 K2))
  have HXG : Hid (Ext H ((H.push (.row [.int .i64 t.days, .slice ca t.closed.length cc, .slice fa t.flaws.length fc] 25)).push (.row [.int .i64 lo, .int .i64 hi] 27))) := Lib.hid (((Ext.refl _).push' _).push' _)
  have hc3 : cellsAt ((H.push (.row [.int .i64 t.days, .slice ca t.closed.length cc, .slice fa t.flaws.length fc] 25)).push (.row [.int .i64 lo, .int .i64 hi] 27)) H.n 0 3 = some [.int .i64 t.days, .slice ca t.closed.length cc, .slice fa t.flaws.length fc] := by go_simp
  have hc2 : cellAt ((H.push (.row [.int .i64 t.days, .slice ca t.closed.length cc, .slice fa t.flaws.length fc] 25)).push (.row [.int .i64 lo, .int .i64 hi] 27)) H.n 2 = some (.slice fa t.flaws.length fc) := by go_simp
  have hc4 : cellsAt ((H.push (.row [.int .i64 t.days, .slice ca t.closed.length cc, .slice fa t.flaws.length fc] 25)).push (.row [.int .i64 lo, .int .i64 hi] 27)) (H.n + 1) 0 2 = some [.int .i64 lo, .int .i64 hi] := by go_simp
  have hn0 : H.n < ((H.push (.row [.int .i64 t.days, .slice ca t.closed.length cc, .slice fa t.flaws.length fc] 25)).push (.row [.int .i64 lo, .int .i64 hi] 27)).n := by simp only [AHeap.n_push]; omega
  generalize ((H.push (.row [.int .i64 t.days, .slice ca t.closed.length cc, .slice fa t.flaws.length fc] 25)).push (.row [.int .i64 lo, .int .i64 hi] 27)) = G at HXG hc3 hc2 hc4 hn0 ⊢
  refine CodeS.loop (fun m f H' => ∃ k c : Nat, k ≤ ids.length ∧ c ≤ k ∧ m = ids.length - k ∧ f.tmp 8 = .int .i64 k ∧ f.tmp 7 = .int .i64 c ∧ f.tmp 1 = .slice la ids.length lc ∧ f.tmp 3 = .pointer (some ⟨H.n, 0, none⟩) ∧ f.tmp 5 = .pointer (some ⟨H.n + 1, 0, none⟩) ∧ f.defers = [] ∧ Hid (c + t.inSpan lo hi (ids.drop k) = T) ∧ H' = G) ids.length ?_ ?_
  · exact ⟨0, 0, by simp, by simp, by simp, (by first|go_simp<;>go_num|assumption), (by first|go_simp<;>go_num|assumption), (by first|go_simp<;>go_num|assumption), (by first|go_simp<;>go_num|assumption), (by first|go_simp<;>go_num|assumption), (by first|go_simp<;>go_num|assumption), Lib.hid (by rw [← HT.out]; simp), rfl⟩
  clear f0 f1 f2 hd f HT
  rintro m f H' ⟨k, c, hk, hck, rfl, f8, f7, f1, f3, f5, hd, HT, e9⟩
  have e9 := e9.symm
  subst e9
  by_cases hlt : k < ids.length
  · obtain ⟨b, o, sp, rfl, hb, hx⟩ := (HL.out.ext HXG.out).at_ hlt
    have HD := Lib.hid (List.drop_eq_getElem_cons hlt)
    have HM := Lib.hid (listed_mem HLI.out (List.getElem_mem hlt))
    generalize ids[k] = y at hx HD HM
    obtain ⟨q, hq, hql, hfo⟩ : ∃ q : Nat, fIdx y t.flaws 0 = q ∧ ∃ h : q < t.flaws.length, t.flawOf y = t.flaws[q] := by
      have h3 : atOf t.flaws y < t.flaws.length := List.findIdx_lt_length_of_exists (by obtain ⟨a, ha, hi⟩ := List.mem_map.1 HM.out; exact ⟨a, ha, by simpa using hi⟩)
      refine ⟨atOf t.flaws y, by rw [fIdx_eq, if_pos HM.out, Nat.zero_add], h3, ?_⟩
      rw [Tour.flawOf, List.getD_eq_getElem?_getD, List.getElem?_eq_getElem h3]; rfl
    have HFY := Lib.hid (fun (loops : List (Nat × LInfo)) => HFW.out loops G y HXG.out)
    rw [hq] at HFY
    clear hq HM
    obtain ⟨fb, fo, fsp, rfl, hfb, hx4, hx5⟩ := (HF.out.ext HXG.out).at_ hql
    have hds := Flaws.days_ hx5
    have HFO := Lib.hid hfo
    clear hx4 hx5 hfo
    generalize t.flaws[q] = a at hds HFO
    have HI : Hid (t.inSpan lo hi (ids.drop k) = (if lies a.lo a.hi lo hi = true then 1 else 0) + t.inSpan lo hi (ids.drop (k + 1))) := Lib.hid (by rw [HD.out, Tour.inSpan, HFO.out])
    have HLE := Lib.hid (fun (loops : List (Nat × LInfo)) (H2 : AHeap) => rwithin_s (loops := loops) (H := H2) (a := a.lo) (b := a.hi) (c := lo) (d := hi))
    generalize lies a.lo a.hi lo hi = w at HI HLE
    generalize a.lo = al at hds HLE
    generalize a.hi = ah at hds HLE
    have hcl2 : c < ids.length := by omega
    cases w
    case' false =>
      repeat' (first|(with_reducible first|refine zA ?_|refine zB fun K hK=>?_|refine zC fun K2 hK2=>?_|refine zD ?_|refine zE ?_|refine zF ?_|refine zG ?_|refine zH ?_|refine zI ?_|refine zM ?_|refine zN ?_|refine zO ?_|refine zP ?_|refine zQ ?_|refine zR ?_)|((with_reducible refine zU (hK _ _ ?_));clear hK K)|((with_reducible refine zV ?_ ?_ fun K1 K3 d hdst h1 h3=>?_);rfl;exact yB rfl;cases hdst;go_simp)|((with_reducible refine zW fun K1 K3 h1 h3=>?_);go_simp)|((first|refine h1 ?_|refine h3 ?_);clear h1 h3 K1 K3)|((first|refine zX (fun hb=>h1 ?_) (fun hb=>h3 ?_)|refine zX (fun hb=>h3 ?_) (fun hb=>h1 ?_))<;>(clear h1 h3 K1 K3;(try have hb2:=yC hb);(try have hb2:=yD hb);(try have hb2:=yE hb);(try have hb2:=yF hb);(try have hb2:=yG hb)))|(refine fun (K2:_→AHeap→Prop) hK2=>?_)|((with_reducible refine zY ?_ ?_);decide)|((with_reducible first|refine zZ ?_ (fun K hK=>?_)|refine yA ?_ (fun K hK=>?_));(focus go_simp;done);go_simp;refine hK _ _ ?_;clear hK K)|((with_reducible refine yH mixed rfl ?_ 20 fun K0 hK0=>?_);kernel_rfl)|(with_reducible first|exact yI|exact yJ|refine yK ?_|refine yL ?_|refine yM ?_)|((with_reducible first|refine yN ?_ ?_|refine yO ?_ ?_|refine yP ?_ ?_);rfl)|((with_reducible refine yQ ?_ ?_);rfl;refine hK0 _ _ ?_;clear hK0 K0)|((with_reducible refine yR ?_ ?_ ?_ ?_);rfl;rfl;rfl)|((with_reducible refine yS ?_ ?_ ?_ fun K2 hK2=>?_);rfl;rfl;exact yB rfl)|((with_reducible refine yT ?_ ?_ ?_ ?_ fun K1 K3 d hdst h1 h3=>?_);rfl;rfl;rfl;exact yB rfl;cases hdst;go_simp)|((with_reducible refine yU ?_ ?_ ?_ ?_ fun K1 K3 d hdst h1 h3=>?_);rfl;rfl;rfl;exact yB rfl;cases hdst;go_simp)|((with_reducible refine yV ?_ ?_ (fun K2 hK2=>?_) ?_);rfl;exact yB rfl)|((with_reducible refine yW ?_ ?_ ?_ ?_ (fun K2 hK2=>?_) ?_);rfl;exact yB rfl;rfl;(focus go_simp;done))|((with_reducible refine yX ?_ ?_ ?_ (fun K2 hK2=>?_) ?_);rfl;rfl;exact yB rfl)|((with_reducible refine yY ?_ ?_ (fun K2 hK2=>?_) ?_);rfl;rfl)|((with_reducible refine yZ ?_ ?_);(first|rfl|(dsimp only;decide +kernel)))|((with_reducible refine xA ?_ ?_);(focus go_simp;done))|(go_simp;(try go_bits);(try first |((with_reducible show CallS _ _ _ _ _ _);first|(refine CallS.mono (HFY.out _) ?_; rintro _ _ ⟨rfl, rfl⟩)|(refine CallS.mono (HLE.out _ _) ?_; rintro _ _ ⟨rfl, rfl⟩)));(first|(refine hK2 _ _ ?_ ?_<;>clear hK2 K2)|(refine hK2 _ _ ?_;clear hK2 K2))))
      all_goals (refine Post.round_normal ⟨ids.length - (k + 1), by omega, k + 1, c, by omega, by omega, rfl, (by first|go_simp<;>go_num|assumption), (by first|go_simp<;>go_num|assumption), (by first|go_simp<;>go_num|assumption), (by first|go_simp<;>go_num|assumption), (by first|go_simp<;>go_num|assumption), (by first|go_simp<;>go_num|assumption), Lib.hid ?_, rfl⟩; rw [← HT.out, HI.out]; simp)
    repeat' (first|(with_reducible first|refine zA ?_|refine zB fun K hK=>?_|refine zC fun K2 hK2=>?_|refine zD ?_|refine zE ?_|refine zF ?_|refine zG ?_|refine zH ?_|refine zI ?_|refine zM ?_|refine zN ?_|refine zO ?_|refine zP ?_|refine zQ ?_|refine zR ?_)|((with_reducible refine zU (hK _ _ ?_));clear hK K)|((with_reducible refine zV ?_ ?_ fun K1 K3 d hdst h1 h3=>?_);rfl;exact yB rfl;cases hdst;go_simp)|((with_reducible refine zW fun K1 K3 h1 h3=>?_);go_simp)|((first|refine h1 ?_|refine h3 ?_);clear h1 h3 K1 K3)|((first|refine zX (fun hb=>h1 ?_) (fun hb=>h3 ?_)|refine zX (fun hb=>h3 ?_) (fun hb=>h1 ?_))<;>(clear h1 h3 K1 K3;(try have hb2:=yC hb);(try have hb2:=yD hb);(try have hb2:=yE hb);(try have hb2:=yF hb);(try have hb2:=yG hb)))|(refine fun (K2:_→AHeap→Prop) hK2=>?_)|((with_reducible refine zY ?_ ?_);decide)|((with_reducible first|refine zZ ?_ (fun K hK=>?_)|refine yA ?_ (fun K hK=>?_));(focus go_simp;done);go_simp;refine hK _ _ ?_;clear hK K)|((with_reducible refine yH mixed rfl ?_ 20 fun K0 hK0=>?_);kernel_rfl)|(with_reducible first|exact yI|exact yJ|refine yK ?_|refine yL ?_|refine yM ?_)|((with_reducible first|refine yN ?_ ?_|refine yO ?_ ?_|refine yP ?_ ?_);rfl)|((with_reducible refine yQ ?_ ?_);rfl;refine hK0 _ _ ?_;clear hK0 K0)|((with_reducible refine yR ?_ ?_ ?_ ?_);rfl;rfl;rfl)|((with_reducible refine yS ?_ ?_ ?_ fun K2 hK2=>?_);rfl;rfl;exact yB rfl)|((with_reducible refine yT ?_ ?_ ?_ ?_ fun K1 K3 d hdst h1 h3=>?_);rfl;rfl;rfl;exact yB rfl;cases hdst;go_simp)|((with_reducible refine yU ?_ ?_ ?_ ?_ fun K1 K3 d hdst h1 h3=>?_);rfl;rfl;rfl;exact yB rfl;cases hdst;go_simp)|((with_reducible refine yV ?_ ?_ (fun K2 hK2=>?_) ?_);rfl;exact yB rfl)|((with_reducible refine yW ?_ ?_ ?_ ?_ (fun K2 hK2=>?_) ?_);rfl;exact yB rfl;rfl;(focus go_simp;done))|((with_reducible refine yX ?_ ?_ ?_ (fun K2 hK2=>?_) ?_);rfl;rfl;exact yB rfl)|((with_reducible refine yY ?_ ?_ (fun K2 hK2=>?_) ?_);rfl;rfl)|((with_reducible refine yZ ?_ ?_);(first|rfl|(dsimp only;decide +kernel)))|((with_reducible refine xA ?_ ?_);(focus go_simp;done))|(go_simp;(try go_bits);(try first |((with_reducible show CallS _ _ _ _ _ _);first|(refine CallS.mono (HFY.out _) ?_; rintro _ _ ⟨rfl, rfl⟩)|(refine CallS.mono (HLE.out _ _) ?_; rintro _ _ ⟨rfl, rfl⟩)));(first|(refine hK2 _ _ ?_ ?_<;>clear hK2 K2)|(refine hK2 _ _ ?_;clear hK2 K2))))
    all_goals (refine Post.round_normal ⟨ids.length - (k + 1), by omega, k + 1, c + 1, by omega, by omega, rfl, (by first|go_simp<;>go_num|assumption), (by first|go_simp<;>go_num|assumption), (by first|go_simp<;>go_num|assumption), (by first|go_simp<;>go_num|assumption), (by first|go_simp<;>go_num|assumption), (by first|go_simp<;>go_num|assumption), Lib.hid ?_, rfl⟩; rw [← HT.out, HI.out, if_pos rfl]; omega)
  · have hT : c = T := by rw [← HT.out, List.drop_eq_nil_of_le (by omega)]; rfl
    clear HT
    repeat' (first|(with_reducible first|refine zA ?_|refine zB fun K hK=>?_|refine zC fun K2 hK2=>?_|refine zD ?_|refine zE ?_|refine zF ?_|refine zG ?_|refine zH ?_|refine zI ?_|refine zM ?_|refine zN ?_|refine zO ?_|refine zP ?_|refine zQ ?_|refine zR ?_)|((with_reducible refine zU (hK _ _ ?_));clear hK K)|((with_reducible refine zV ?_ ?_ fun K1 K3 d hdst h1 h3=>?_);rfl;exact yB rfl;cases hdst;go_simp)|((with_reducible refine zW fun K1 K3 h1 h3=>?_);go_simp)|((first|refine h1 ?_|refine h3 ?_);clear h1 h3 K1 K3)|((first|refine zX (fun hb=>h1 ?_) (fun hb=>h3 ?_)|refine zX (fun hb=>h3 ?_) (fun hb=>h1 ?_))<;>(clear h1 h3 K1 K3;(try have hb2:=yC hb);(try have hb2:=yD hb);(try have hb2:=yE hb);(try have hb2:=yF hb);(try have hb2:=yG hb)))|(refine fun (K2:_→AHeap→Prop) hK2=>?_)|((with_reducible refine zY ?_ ?_);decide)|((with_reducible first|refine zZ ?_ (fun K hK=>?_)|refine yA ?_ (fun K hK=>?_));(focus go_simp;done);go_simp;refine hK _ _ ?_;clear hK K)|(go_simp;(try go_bits);(try first | ((with_reducible show CallS _ _ _ _ _ _);refine CallS.mono (HRM.out _ _ HXG.out) ?_; rintro _ _ ⟨rfl, rfl⟩));refine hK2 _ _ ?_;clear hK2 K2))
    refine ⟨?_, HXG.out⟩
    rw [← hT, Value.bool.injEq, Bool.eq_iff_iff]

def firstR (o : Option (Nat × Nat)) : Value := match o with
  | some (lo, hi) => .tuple #[.agg #[.int .i64 lo, .int .i64 hi], .bool true]
  | none => .tuple #[.agg #[.int .i64 0, .int .i64 0], .bool false]

set_option maxHeartbeats 4000000 in
theorem rfirst_s {loops : List (Nat × LInfo)} {H : AHeap} {v lv : Value} {t : Tour} {ids : List Int} (hv : TourV H v t) (hl : Ints H lv ids) (hg : Good t) (hli : t.listed ids = true) :
    CallS Tryz.prog loops 77 [v, lv] H fun r H' => r = firstR (t.jam ids) ∧ H' = H := by
  refine CallS.forget (R := fun r => r = firstR (t.jam ids)) (by rintro v rfl; cases (t.jam ids) <;> rfl) ?_
  have HV := Lib.hid hv
  have HL := Lib.hid hl
  have hdays := hg.days
  rw [win_iff] at hdays
  have HJO := Lib.hid (fun (loops : List (Nat × LInfo)) (H2 : AHeap) (lo hi : Int) (hx : Ext H H2) (h : t.isSpan lo hi = true) => rjam_s (loops := loops) (HV.out.ext hx) (HL.out.ext hx) hdays.2 hli h)
  obtain ⟨n, hn⟩ := Int.eq_ofNat_of_zero_le (show 0 ≤ t.days by omega)
  have hn1 : 1 ≤ n := by omega
  have hn2 : n ≤ 60 := by omega
  have HRES : Hid (t.jam ids = t.jamLo ids n n 0) := Lib.hid (by rw [Tour.jam, hn]; rfl)
  have HSPN : Hid (∀ k j : Nat, k ≤ j → j < n → t.isSpan k j = true) := Lib.hid (fun k j h1 h2 => by
    rw [isSpan_eq, hn]; simp only [Bool.and_eq_true, decide_eq_true_eq]; omega)
  obtain ⟨cv, fv, rfl, hc, hf⟩ := hv
  obtain ⟨hcl', ca, cc, rfl⟩ := hc.slice
  obtain ⟨hfl, fa, fc, rfl⟩ := hf.slice
  obtain ⟨hll, la, lc, rfl⟩ := hl.slice
  rw [hn] at HV HJO ⊢
  clear hc hf hl hg hli hdays hn
  refine CallS.enter' Tryz.func77 rfl Tryz.ntmps77 (by simp) fun f hd hf => ?_
  have f0 := hf 0
  have f1 := hf 1
  simp at f0 f1
  clear hf
  repeat' (first|(with_reducible first|refine zA ?_|refine zB fun K hK=>?_|refine zC fun K2 hK2=>?_|refine zD ?_|refine zE ?_|refine zF ?_|refine zG ?_|refine zH ?_|refine zI ?_|refine zM ?_|refine zN ?_|refine zO ?_|refine zP ?_|refine zQ ?_|refine zR ?_)|((with_reducible refine zU (hK _ _ ?_));clear hK K)|((with_reducible refine zV ?_ ?_ fun K1 K3 d hdst h1 h3=>?_);rfl;exact yB rfl;cases hdst;go_simp)|((with_reducible refine zW fun K1 K3 h1 h3=>?_);go_simp)|((first|refine h1 ?_|refine h3 ?_);clear h1 h3 K1 K3)|((first|refine zX (fun hb=>h1 ?_) (fun hb=>h3 ?_)|refine zX (fun hb=>h3 ?_) (fun hb=>h1 ?_))<;>(clear h1 h3 K1 K3;(try have hb2:=yC hb);(try have hb2:=yD hb);(try have hb2:=yE hb);(try have hb2:=yF hb);(try have hb2:=yG hb)))|(refine fun (K2:_→AHeap→Prop) hK2=>?_)|((with_reducible refine zY ?_ ?_);decide)|((with_reducible first|refine zZ ?_ (fun K hK=>?_)|refine yA ?_ (fun K hK=>?_));(focus go_simp;done);go_simp;refine hK _ _ ?_;clear hK K)|(go_simp;(try go_bits);refine hK2 _ _ ?_;clear hK2 K2))
  obtain ⟨H2, hH2⟩ : ∃ H2, H2 = (H.push (.row [.int .i64 n, .slice ca t.closed.length cc, .slice fa t.flaws.length fc] 25)).push (.row [.int .i64 0, .int .i64 0] 27) := ⟨_, rfl⟩
  have hlt2 : H.n + 1 < H2.n := by rw [hH2]; simp only [AHeap.n_push]; omega
  have hcd : H2.get H.n = .row [.int .i64 n, .slice ca t.closed.length cc, .slice fa t.flaws.length fc] 25 := by
    rw [hH2, AHeap.get_push_old (by simp only [AHeap.n_push]; omega), AHeap.get_push_new]
  have hgr : H2.get (H.n + 1) = .row [.int .i64 0, .int .i64 0] 27 := by
    rw [hH2, show H.n + 1 = (H.push (.row [.int .i64 n, .slice ca t.closed.length cc, .slice fa t.flaws.length fc] 25)).n from rfl, AHeap.get_push_new]
  have HXH : Hid (Ext H H2) := Lib.hid (by rw [hH2]; exact ((Ext.refl _).push' _).push' _)
  have HGR := Lib.hid hgr
  have HCD := Lib.hid hcd
  rw [← hH2]
  clear hgr hcd hH2
  refine CodeS.loop (fun m f H' => ∃ (k : Nat), k ≤ n ∧ m = n - k ∧ f.tmp 6 = .int .i64 k ∧ f.tmp 1 = .slice la ids.length lc ∧ f.tmp 2 = .pointer (some ⟨H.n, 0, none⟩) ∧ f.tmp 4 = .pointer (some ⟨H.n + 1, 0, none⟩) ∧ f.defers = [] ∧ Hid (Ext H2 H') ∧ Hid (t.jamLo ids n (n - k) k = t.jam ids)) n ?_ ?_
  · exact ⟨0, by omega, by omega, (by first|go_simp<;>go_num|assumption), (by first|go_simp<;>go_num|assumption), (by first|go_simp<;>go_num|assumption), (by first|go_simp<;>go_num|assumption), (by first|go_simp<;>go_num|assumption), Lib.hid (Ext.refl _), Lib.hid (by rw [HRES.out]; rfl)⟩
  clear f0 f1 hd f
  rintro m f H' ⟨k, hk, rfl, f6, f1, f2, f4, hd, HX, HJL⟩
  have hcg : H'.get H.n = .row [.int .i64 n, .slice ca t.closed.length cc, .slice fa t.flaws.length fc] 25 := (HX.out.get _ (by omega)).trans HCD.out
  have hc0 : cellAt H' H.n 0 = some (.int .i64 n) := by simp [cellAt, hcg]
  by_cases hlt : k < n
  · have HST : Hid (t.jamLo ids n (n - k) k = orElseJ (t.jamHi ids k (n - k) k) (t.jamLo ids n (n - (k + 1)) (k + 1))) := Lib.hid (by
      rw [show n - k = (n - (k + 1)) + 1 by omega, Tour.jamLo, show n - (k + 1) + 1 = n - k by omega])
    have hlti : (k : Int) < (n : Int) := by omega
    clear hcg
    repeat' (first|(with_reducible first|refine zA ?_|refine zB fun K hK=>?_|refine zC fun K2 hK2=>?_|refine zD ?_|refine zE ?_|refine zF ?_|refine zG ?_|refine zH ?_|refine zI ?_|refine zM ?_|refine zN ?_|refine zO ?_|refine zP ?_|refine zQ ?_|refine zR ?_)|((with_reducible refine zU (hK _ _ ?_));clear hK K)|((with_reducible refine zV ?_ ?_ fun K1 K3 d hdst h1 h3=>?_);rfl;exact yB rfl;cases hdst;go_simp)|((with_reducible refine zW fun K1 K3 h1 h3=>?_);go_simp)|((first|refine h1 ?_|refine h3 ?_);clear h1 h3 K1 K3)|((first|refine zX (fun hb=>h1 ?_) (fun hb=>h3 ?_)|refine zX (fun hb=>h3 ?_) (fun hb=>h1 ?_))<;>(clear h1 h3 K1 K3;(try have hb2:=yC hb);(try have hb2:=yD hb);(try have hb2:=yE hb);(try have hb2:=yF hb);(try have hb2:=yG hb)))|(refine fun (K2:_→AHeap→Prop) hK2=>?_)|((with_reducible refine zY ?_ ?_);decide)|((with_reducible first|refine zZ ?_ (fun K hK=>?_)|refine yA ?_ (fun K hK=>?_));(focus go_simp;done);go_simp;refine hK _ _ ?_;clear hK K)|(go_simp;(try go_bits);refine hK2 _ _ ?_;clear hK2 K2))
    refine CodeS.loop (fun m f H' => ∃ (j : Nat), k ≤ j ∧ j ≤ n ∧ m = n - j ∧ f.tmp 7 = .int .i64 j ∧ f.tmp 6 = .int .i64 k ∧ f.tmp 1 = .slice la ids.length lc ∧ f.tmp 2 = .pointer (some ⟨H.n, 0, none⟩) ∧ f.tmp 4 = .pointer (some ⟨H.n + 1, 0, none⟩) ∧ f.defers = [] ∧ Hid (Ext H2 H') ∧ Hid (orElseJ (t.jamHi ids k (n - j) j) (t.jamLo ids n (n - (k + 1)) (k + 1)) = t.jam ids)) (n - k) ?_ ?_
    · exact ⟨k, Nat.le_refl _, by omega, rfl, (by first|go_simp<;>go_num|assumption), (by first|go_simp<;>go_num|assumption), (by first|go_simp<;>go_num|assumption), (by first|go_simp<;>go_num|assumption), (by first|go_simp<;>go_num|assumption), (by first|go_simp<;>go_num|assumption), HX, Lib.hid (by rw [← HST.out, HJL.out])⟩
    clear f6 f1 f2 f4 hd f HX HJL HST hc0 H'
    rintro m f H' ⟨j, hkj, hj, rfl, f7, f6, f1, f2, f4, hd, HX, HJL⟩
    have hcg : H'.get H.n = .row [.int .i64 n, .slice ca t.closed.length cc, .slice fa t.flaws.length fc] 25 := (HX.out.get _ (by omega)).trans HCD.out
    have hc0 : cellAt H' H.n 0 = some (.int .i64 n) := by simp [cellAt, hcg]
    have hc3 : cellsAt H' H.n 0 3 = some [.int .i64 n, .slice ca t.closed.length cc, .slice fa t.flaws.length fc] := by simp [cellsAt, hcg]
    have hnn : H.n + 1 < H'.n := by have := HX.out.n; omega
    have hn0 : H.n < H'.n := by omega
    clear hcg
    by_cases hjn : j < n
    · have HST : Hid (t.jamHi ids k (n - j) j = if t.isJam ids k j = true then some (k, j) else t.jamHi ids k (n - (j + 1)) (j + 1)) := Lib.hid (by
        rw [show n - j = (n - (j + 1)) + 1 by omega, Tour.jamHi])
      have HIJ := Lib.hid (fun (loops : List (Nat × LInfo)) (H3 : AHeap) (hx : Ext H' H3) => HJO.out loops H3 k j (HXH.out.trans (HX.out.trans hx)) (HSPN.out k j hkj hjn))
      have hg1 : ∀ o, (H'.push o).get (H.n + 1) = .row [.int .i64 0, .int .i64 0] 27 := fun o => (AHeap.get_push_old hnn).trans ((HX.out.get _ hlt2).trans HGR.out)
      have hjni : (j : Int) < (n : Int) := by omega
      generalize t.isJam ids k j = ij at HIJ HST
      repeat' (first|(with_reducible first|refine zA ?_|refine zB fun K hK=>?_|refine zC fun K2 hK2=>?_|refine zD ?_|refine zE ?_|refine zF ?_|refine zG ?_|refine zH ?_|refine zI ?_|refine zM ?_|refine zN ?_|refine zO ?_|refine zP ?_|refine zQ ?_|refine zR ?_)|((with_reducible refine zU (hK _ _ ?_));clear hK K)|((with_reducible refine zV ?_ ?_ fun K1 K3 d hdst h1 h3=>?_);rfl;exact yB rfl;cases hdst;go_simp)|((with_reducible refine zW fun K1 K3 h1 h3=>?_);go_simp)|((first|refine h1 ?_|refine h3 ?_);clear h1 h3 K1 K3)|((first|refine zX (fun hb=>h1 ?_) (fun hb=>h3 ?_)|refine zX (fun hb=>h3 ?_) (fun hb=>h1 ?_))<;>(clear h1 h3 K1 K3;(try have hb2:=yC hb);(try have hb2:=yD hb);(try have hb2:=yE hb);(try have hb2:=yF hb);(try have hb2:=yG hb)))|(refine fun (K2:_→AHeap→Prop) hK2=>?_)|((with_reducible refine zY ?_ ?_);decide)|((with_reducible first|refine zZ ?_ (fun K hK=>?_)|refine yA ?_ (fun K hK=>?_));(focus go_simp;done);go_simp;refine hK _ _ ?_;clear hK K)|(go_simp;(try go_bits);(try first | ((rw [aBuild_struct st27 ze27]); go_simp) | ((with_reducible show CallS _ _ _ _ _ _);refine CallS.mono (HIJ.out _ _ (Ext.push _)) ?_; rintro _ _ ⟨rfl, rfl⟩));refine hK2 _ _ ?_;clear hK2 K2))
      · have hij : ij = true := hb
        have h := HJL.out
        rw [HST.out, if_pos hij] at h
        refine ⟨?_, ((HXH.out.trans HX.out).upd (by omega) _).push' _⟩
        rw [← h]; rfl
      · have hij : ¬ ij = true := by rw [hb]; exact Bool.false_ne_true
        refine Post.round_normal ⟨n - (j + 1), by omega, j + 1, by omega, by omega, rfl, (by first|go_simp<;>go_num|assumption), (by first|go_simp<;>go_num|assumption), (by first|go_simp<;>go_num|assumption), (by first|go_simp<;>go_num|assumption), (by first|go_simp<;>go_num|assumption), (by first|go_simp<;>go_num|assumption), Lib.hid (HX.out.push' _), Lib.hid ?_⟩
        rw [← HJL.out, HST.out, if_neg hij]
    · have hnn' : ¬ (j : Int) < (n : Int) := by omega
      repeat' (first|(with_reducible first|refine zA ?_|refine zB fun K hK=>?_|refine zC fun K2 hK2=>?_|refine zD ?_|refine zE ?_|refine zF ?_|refine zG ?_|refine zH ?_|refine zI ?_|refine zM ?_|refine zN ?_|refine zO ?_|refine zP ?_|refine zQ ?_|refine zR ?_)|((with_reducible refine zU (hK _ _ ?_));clear hK K)|((with_reducible refine zV ?_ ?_ fun K1 K3 d hdst h1 h3=>?_);rfl;exact yB rfl;cases hdst;go_simp)|((with_reducible refine zW fun K1 K3 h1 h3=>?_);go_simp)|((first|refine h1 ?_|refine h3 ?_);clear h1 h3 K1 K3)|((first|refine zX (fun hb=>h1 ?_) (fun hb=>h3 ?_)|refine zX (fun hb=>h3 ?_) (fun hb=>h1 ?_))<;>(clear h1 h3 K1 K3;(try have hb2:=yC hb);(try have hb2:=yD hb);(try have hb2:=yE hb);(try have hb2:=yF hb);(try have hb2:=yG hb)))|(refine fun (K2:_→AHeap→Prop) hK2=>?_)|((with_reducible refine zY ?_ ?_);decide)|((with_reducible first|refine zZ ?_ (fun K hK=>?_)|refine yA ?_ (fun K hK=>?_));(focus go_simp;done);go_simp;refine hK _ _ ?_;clear hK K)|(go_simp;(try go_bits);refine hK2 _ _ ?_;clear hK2 K2))
      refine Post.round_normal ⟨n - (k + 1), by omega, k + 1, by omega, rfl, (by first|go_simp<;>go_num|assumption), (by first|go_simp<;>go_num|assumption), (by first|go_simp<;>go_num|assumption), (by first|go_simp<;>go_num|assumption), (by first|go_simp<;>go_num|assumption), HX, Lib.hid ?_⟩
      have h := HJL.out
      rw [show n - j = 0 by omega] at h
      exact h
  · have hcc : ¬ (k : Int) < (n : Int) := by omega
    have hnn : H.n + 1 < H'.n := by have := HX.out.n; omega
    have hg1 : H'.get (H.n + 1) = .row [.int .i64 0, .int .i64 0] 27 := (HX.out.get _ hlt2).trans HGR.out
    have hres : t.jam ids = none := by
      have h := HJL.out
      rw [show n - k = 0 by omega] at h
      exact h.symm
    rw [hres]
    clear hres hcg
    repeat' (first|(with_reducible first|refine zA ?_|refine zB fun K hK=>?_|refine zC fun K2 hK2=>?_|refine zD ?_|refine zE ?_|refine zF ?_|refine zG ?_|refine zH ?_|refine zI ?_|refine zM ?_|refine zN ?_|refine zO ?_|refine zP ?_|refine zQ ?_|refine zR ?_)|((with_reducible refine zU (hK _ _ ?_));clear hK K)|((with_reducible refine zV ?_ ?_ fun K1 K3 d hdst h1 h3=>?_);rfl;exact yB rfl;cases hdst;go_simp)|((with_reducible refine zW fun K1 K3 h1 h3=>?_);go_simp)|((first|refine h1 ?_|refine h3 ?_);clear h1 h3 K1 K3)|((first|refine zX (fun hb=>h1 ?_) (fun hb=>h3 ?_)|refine zX (fun hb=>h3 ?_) (fun hb=>h1 ?_))<;>(clear h1 h3 K1 K3;(try have hb2:=yC hb);(try have hb2:=yD hb);(try have hb2:=yE hb);(try have hb2:=yF hb);(try have hb2:=yG hb)))|(refine fun (K2:_→AHeap→Prop) hK2=>?_)|((with_reducible refine zY ?_ ?_);decide)|((with_reducible first|refine zZ ?_ (fun K hK=>?_)|refine yA ?_ (fun K hK=>?_));(focus go_simp;done);go_simp;refine hK _ _ ?_;clear hK K)|(go_simp;(try go_bits);refine hK2 _ _ ?_;clear hK2 K2))
    exact ⟨rfl, (HXH.out.trans HX.out).upd (by omega) _⟩
end Go.Proofs.Tryz
