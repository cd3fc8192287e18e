/- Contracts of functions, walked. -/
import Derived.Test.YtgddlpegljkgpaaStUJ
import Derived.Test.YtgddlpegljkgpaaStTA
import Derived.Test.YtgddlpegljkgpaaStSA
import Derived.Test.YtgddlpegljkgpaaStSN
import Derived.Test.YtgddlpegljkgpaaStTD
import Derived.Test.YtgddlpegljkgpaaStS3
set_option linter.all false
namespace Go.Proofs.Try
open Go Go.Am Go.RowKit Go.Co
set_option maxRecDepth 100000

/-! Before. -/
def befV (s : Sheet) (c d : Copy) : Value := if errExts s c d = 0 then .tuple #[.bool (decide ((lastL s c).getD (s.words.length - 1) 0 < (firstL s d).getD 0 0)), .bool (decide ((firstL s c).getD (s.words.length - 1) 0 < (lastL s d).getD 0 0)), .int .i64 0] else .tuple #[.bool false, .bool false, .int .i64 (errExts s c d)]
theorem befV_plain (s : Sheet) (c d : Copy) : plainV 6 (befV s c d) = true := by
  unfold befV; split <;> rfl

set_option maxHeartbeats 2000000 in
theorem before_s {loops : List (Nat × LInfo)} {H : AHeap} {sv cv dv : Value} {s : Sheet} {c d : Copy} (hs : SheetV H sv s) (hc : CopyV H cv c) (hdv : CopyV H dv d) : CallS Try.prog loops 42 [sv, cv, dv] H fun r H' => r = befV s c d ∧ H' = H := by
  refine CallS.forget (R := fun v => v = befV s c d) (by rintro v rfl; exact befV_plain s c d) ?_
  have HS := Lib.hid hs
  have HC := Lib.hid hc
  have HD := Lib.hid hdv
  obtain ⟨wv, av, rfl, hw, ha⟩ := hs
  obtain ⟨hwl, wa, wc, rfl⟩ := hw.slice
  obtain ⟨hal, aa, ac, rfl⟩ := ha.slice
  obtain ⟨cv, rfl, hcw⟩ := hc
  obtain ⟨hcl, ca, cc, rfl⟩ := hcw.slice
  obtain ⟨dv, rfl, hdw⟩ := hdv
  obtain ⟨hdl, da, dc, rfl⟩ := hdw.slice
  clear hw ha hcw hdw
  have HE := Lib.hid (fun (loops : List (Nat × LInfo)) (H' : AHeap) (hx : Ext H H') => extentsOf_x (loops := loops) (HS.out.ext hx) (HC.out.ext hx) (HD.out.ext hx))
  have HOK : Hid (errExts s c d = 0 → (firstL s c).length = s.words.length ∧ (lastL s c).length = s.words.length ∧ (firstL s d).length = s.words.length ∧ (lastL s d).length = s.words.length ∧ 1 ≤ s.words.length ∧ s.words.length ≤ 40) := Lib.hid (fun h => by
    obtain ⟨h1, h2⟩ := errExts_ok h
    obtain ⟨-, -, -, -, g1, g2, g3, g4⟩ := ends_n h1
    obtain ⟨-, -, -, -, g5, g6, -, -⟩ := ends_n h2
    exact ⟨g1, g2, g5, g6, g3, g4⟩)
  have HBV : Hid (befV s c d = if errExts s c d = 0 then .tuple #[.bool (decide ((lastL s c).getD (s.words.length - 1) 0 < (firstL s d).getD 0 0)), .bool (decide ((firstL s c).getD (s.words.length - 1) 0 < (lastL s d).getD 0 0)), .int .i64 0] else .tuple #[.bool false, .bool false, .int .i64 (errExts s c d)]) := Lib.hid rfl
  generalize befV s c d = bv at HBV
  generalize errExts s c d = er at HE HOK HBV
  generalize firstL s c = F1 at HE HOK HBV
  generalize lastL s c = L1 at HE HOK HBV
  generalize firstL s d = F2 at HE HOK HBV
  generalize lastL s d = L2 at HE HOK HBV
  refine CallS.enter' Try.func42 rfl Try.ntmps42 (by simp) fun f hd hf => ?_
  have f0 := hf 0
  have f1 := hf 1
  have f2 := hf 2
  simp at f0 f1 f2
  clear hf
  have HX1 : Hid (Ext H (((H.push (.row [Value.slice wa s.words.length wc, Value.slice aa s.alts.length ac] 25)).push (.row [Value.slice ca c.words.length cc, .int .i64 c.beg, .int .i64 c.fin, .int .i64 c.per] 27)).push (.row [Value.slice da d.words.length dc, .int .i64 d.beg, .int .i64 d.fin, .int .i64 d.per] 27))) := Lib.hid ((((Ext.refl _).push' _).push' _).push' _)
  by_cases her : er = 0
  · obtain ⟨hl1, hl2, hl3, hl4, hn1, hn2⟩ := HOK.out her
    rw [if_pos her] at HBV
    have hw1 : (0 : Int) ≤ (s.words.length : Int) - 1 := by omega
    have hw2 : (s.words.length : Int) - 1 < (s.words.length : Nat) := by omega
    have hw3 : ((s.words.length : Int) - 1).toNat = s.words.length - 1 := by omega
    have hw4 : (1 : Int) ≤ (s.words.length : Nat) := by omega
    have hw5 : (0 : Int) < (s.words.length : Nat) := by omega
    have hw6 : 0 < s.words.length := by omega
    generalize hy1 : F1.getD (s.words.length - 1) 0 = y1 at HBV
    generalize hy2 : L1.getD (s.words.length - 1) 0 = y2 at HBV
    generalize hy3 : F2.getD 0 0 = y3 at HBV
    generalize hy4 : L2.getD 0 0 = y4 at HBV
    have HY1 := Lib.hid hy1
    have HY2 := Lib.hid hy2
    have HY3 := Lib.hid hy3
    have HY4 := Lib.hid hy4
    clear hy1 hy2 hy3 hy4
    subst her
    repeat' (first|(with_reducible first|refine zA ?_|refine zB fun K hK=>?_|refine zC fun K2 hK2=>?_|refine zD ?_|refine zE ?_|refine zF ?_|refine zG ?_|refine zH ?_|refine zI ?_|refine zJ ?_|refine zK ?_|refine zL ?_|refine zM ?_|refine zN ?_|refine zO ?_|refine zP ?_|refine zQ ?_|refine zR ?_|refine zS ?_|refine zT ?_)|((with_reducible refine zU (hK _ _ ?_));clear hK K)|((with_reducible refine zV ?_ ?_ fun K1 K3 d hdst h1 h3=>?_);rfl;exact yB rfl;cases hdst;go_simp)|((with_reducible refine zW fun K1 K3 h1 h3=>?_);go_simp)|((first|refine h1 ?_|refine h3 ?_);clear h1 h3 K1 K3)|((first|refine zX (fun hb=>h1 ?_) (fun hb=>h3 ?_)|refine zX (fun hb=>h3 ?_) (fun hb=>h1 ?_))<;>(clear h1 h3 K1 K3;(try have hb2:=yC hb);(try have hb2:=yD hb);(try have hb2:=yE hb);(try have hb2:=yF hb);(try have hb2:=yG hb)))|(refine fun (K2:_→AHeap→Prop) hK2=>?_)|((with_reducible refine zY ?_ ?_);decide)|((with_reducible first|refine zZ ?_ (fun K hK=>?_)|refine yA ?_ (fun K hK=>?_));(focus go_simp;done);go_simp;refine hK _ _ ?_;clear hK K)|(go_simp;(try go_bits);(try first | ((with_reducible show CallS _ _ _ _ _ _);refine CallS.mono (HE.out _ _ HX1.out) ?_; rintro _ H1 ⟨⟨oa, on, oc, pi, fa, fn, la, ln, oa', on', oc', pi', fa', fn', la', ln', rfl, hres⟩, hx⟩; (obtain ⟨h1, h2, h3, h4⟩ := hres rfl); (obtain ⟨b1, hv1, -, hb1, hg1⟩ := own_posn h1 hl1 hw6); (obtain ⟨b2, hv2, -, hb2, hg2⟩ := own_posn h2 hl2 hw6); (obtain ⟨b3, hv3, -, hb3, hg3⟩ := own_posn h3 hl3 hw6); (obtain ⟨b4, hv4, -, hb4, hg4⟩ := own_posn h4 hl4 hw6); cases hv1; cases hv2; cases hv3; cases hv4; (have HX2 := Lib.hid (HX1.out.trans hx)); (have hk1 : cellAt H1 b1 (s.words.length - 1) = some (.int .i64 y1) := by rw [← HY1.out]; exact rowCell hg1 (by omega)); (have hk2 : cellAt H1 b2 (s.words.length - 1) = some (.int .i64 y2) := by rw [← HY2.out]; exact rowCell hg2 (by omega)); (have hk3 : cellAt H1 b3 0 = some (.int .i64 y3) := by rw [← HY3.out]; exact rowCell hg3 (by omega)); (have hk4 : cellAt H1 b4 0 = some (.int .i64 y4) := by rw [← HY4.out]; exact rowCell hg4 (by omega)); (have hc0 : cellAt H1 H.n 0 = some (Value.slice wa s.words.length wc) := by rw [hx.cellAt (by simp only [AHeap.n_push]; omega), cellAt_push, if_neg (by simp only [AHeap.n_push]; omega), cellAt_push, if_neg (by simp only [AHeap.n_push]; omega), cellAt_push, if_pos rfl]; rfl); (have hn0 : H.n < H1.n := by have := hx.n; simp only [AHeap.n_push] at this; omega); clear hx hres h1 h2 h3 h4 hg1 hg2 hg3 hg4));refine hK2 _ _ ?_;clear hK2 K2))
    repeat' (first|(with_reducible first|refine zA ?_|refine zB fun K hK=>?_|refine zC fun K2 hK2=>?_|refine zD ?_|refine zE ?_|refine zF ?_|refine zG ?_|refine zH ?_|refine zI ?_|refine zJ ?_|refine zK ?_|refine zL ?_|refine zM ?_|refine zN ?_|refine zO ?_|refine zP ?_|refine zQ ?_|refine zR ?_|refine zS ?_|refine zT ?_)|((with_reducible refine zU (hK _ _ ?_));clear hK K)|((with_reducible refine zV ?_ ?_ fun K1 K3 d hdst h1 h3=>?_);rfl;exact yB rfl;cases hdst;go_simp)|((with_reducible refine zW fun K1 K3 h1 h3=>?_);go_simp)|((first|refine h1 ?_|refine h3 ?_);clear h1 h3 K1 K3)|((first|refine zX (fun hb=>h1 ?_) (fun hb=>h3 ?_)|refine zX (fun hb=>h3 ?_) (fun hb=>h1 ?_))<;>(clear h1 h3 K1 K3;(try have hb2:=yC hb);(try have hb2:=yD hb);(try have hb2:=yE hb);(try have hb2:=yF hb);(try have hb2:=yG hb)))|(refine fun (K2:_→AHeap→Prop) hK2=>?_)|((with_reducible refine zY ?_ ?_);decide)|((with_reducible first|refine zZ ?_ (fun K hK=>?_)|refine yA ?_ (fun K hK=>?_));(focus go_simp;done);go_simp;refine hK _ _ ?_;clear hK K)|((with_reducible refine yH mixed rfl ?_ 20 fun K0 hK0=>?_);kernel_rfl)|(with_reducible first|exact yI|exact yJ|refine yK ?_|refine yL ?_|refine yM ?_)|((with_reducible first|refine yN ?_ ?_|refine yO ?_ ?_|refine yP ?_ ?_);rfl)|((with_reducible refine yQ ?_ ?_);rfl;refine hK0 _ _ ?_;clear hK0 K0)|((with_reducible refine yR ?_ ?_ ?_ ?_);rfl;rfl;rfl)|((with_reducible refine yS ?_ ?_ ?_ fun K2 hK2=>?_);rfl;rfl;exact yB rfl)|((with_reducible refine yT ?_ ?_ ?_ ?_ fun K1 K3 d hdst h1 h3=>?_);rfl;rfl;rfl;exact yB rfl;cases hdst;go_simp)|((with_reducible refine yU ?_ ?_ ?_ ?_ fun K1 K3 d hdst h1 h3=>?_);rfl;rfl;rfl;exact yB rfl;cases hdst;go_simp)|((with_reducible refine yV ?_ ?_ (fun K2 hK2=>?_) ?_);rfl;exact yB rfl)|((with_reducible refine yW ?_ ?_ ?_ ?_ (fun K2 hK2=>?_) ?_);rfl;exact yB rfl;rfl;(focus go_simp;done))|((with_reducible refine yX ?_ ?_ ?_ (fun K2 hK2=>?_) ?_);rfl;rfl;exact yB rfl)|((with_reducible refine yY ?_ ?_ (fun K2 hK2=>?_) ?_);rfl;rfl)|((with_reducible refine yZ ?_ ?_);(first|rfl|(dsimp only;decide +kernel)))|((with_reducible refine xA ?_ ?_);(focus go_simp;done))|(go_simp;(try go_bits);(first|(refine hK2 _ _ ?_ ?_<;>clear hK2 K2)|(refine hK2 _ _ ?_;clear hK2 K2))))
    exact ⟨HBV.out.symm, (HX2.out.push' _).push' _⟩
  · rw [if_neg her] at HBV
    repeat' (first|(with_reducible first|refine zA ?_|refine zB fun K hK=>?_|refine zC fun K2 hK2=>?_|refine zD ?_|refine zE ?_|refine zF ?_|refine zG ?_|refine zH ?_|refine zI ?_|refine zJ ?_|refine zK ?_|refine zL ?_|refine zM ?_|refine zN ?_|refine zO ?_|refine zP ?_|refine zQ ?_|refine zR ?_|refine zS ?_|refine zT ?_)|((with_reducible refine zU (hK _ _ ?_));clear hK K)|((with_reducible refine zV ?_ ?_ fun K1 K3 d hdst h1 h3=>?_);rfl;exact yB rfl;cases hdst;go_simp)|((with_reducible refine zW fun K1 K3 h1 h3=>?_);go_simp)|((first|refine h1 ?_|refine h3 ?_);clear h1 h3 K1 K3)|((first|refine zX (fun hb=>h1 ?_) (fun hb=>h3 ?_)|refine zX (fun hb=>h3 ?_) (fun hb=>h1 ?_))<;>(clear h1 h3 K1 K3;(try have hb2:=yC hb);(try have hb2:=yD hb);(try have hb2:=yE hb);(try have hb2:=yF hb);(try have hb2:=yG hb)))|(refine fun (K2:_→AHeap→Prop) hK2=>?_)|((with_reducible refine zY ?_ ?_);decide)|((with_reducible first|refine zZ ?_ (fun K hK=>?_)|refine yA ?_ (fun K hK=>?_));(focus go_simp;done);go_simp;refine hK _ _ ?_;clear hK K)|(go_simp;(try go_bits);(try first | ((with_reducible show CallS _ _ _ _ _ _);refine CallS.mono (HE.out _ _ HX1.out) ?_; rintro _ H1 ⟨⟨oa, on, oc, pi, fa, fn, la, ln, oa', on', oc', pi', fa', fn', la', ln', rfl, hres⟩, hx⟩; (have HX2 := Lib.hid (HX1.out.trans hx)); clear hx hres));refine hK2 _ _ ?_;clear hK2 K2))
    all_goals try (exact absurd (show er = 0 by simpa using hb) her)
    exact ⟨HBV.out.symm, (HX2.out.push' _).push' _⟩
end Go.Proofs.Try
namespace Go.Proofs.Try
open Go Go.Am Go.RowKit Go.Co

/-! A line's days; a narrower copy: pure. -/
theorem Course.early_late {x : Course} {p : Nat} (h : x.ord) (hp : 1 ≤ p) (hm : x.made p = true) : ∀ i, i < x.open_.length → (x.early p 0).getD i 0 ≤ (x.late p).getD i 0 := by
  have hf := x.early_fit h hp hm
  exact fun i hi => x.fit_late h hp hf i (by rw [hf.1]; exact hi)
/-- The earliest days ahead of a line, a day of it, the latest ones behind it. -/
def mixL (a b : List Int) (k : Nat) (d : Int) : List Int := (a.take k ++ [d]) ++ b.drop (k + 1)
theorem mixL_len {a b : List Int} {k : Nat} {d : Int} (hl : a.length = b.length) (hk : k < a.length) : (mixL a b k d).length = a.length := by
  simp [mixL]; omega
theorem mixL_get {a b : List Int} {k : Nat} {d : Int} (hl : a.length = b.length) (hk : k < a.length) (i : Nat) : (mixL a b k d).getD i 0 = if i < k then a.getD i 0 else if i = k then d else b.getD i 0 := by
  have htl : (a.take k ++ [d]).length = k + 1 := by simp; omega
  have htl0 : (a.take k).length = k := by simp; omega
  unfold mixL
  rcases Nat.lt_trichotomy i k with h | h | h
  · rw [if_pos h, getD_app (by omega), getD_app (by omega)]
    simp [List.getD_eq_getElem?_getD, h]
  · rw [if_neg (by omega), if_pos h, getD_app (by omega), h]
    have := @getD_snoc (a.take k) d
    rw [htl0] at this; exact this
  · rw [if_neg (by omega), if_neg (by omega), List.getD_eq_getElem?_getD, List.getElem?_append_right (by omega), htl, List.getElem?_drop, List.getD_eq_getElem?_getD, show k + 1 + (i - (k + 1)) = i by omega]
theorem Course.mix_fit {x : Course} {p k : Nat} {d : Int} {a b : List Int} (hp : 1 ≤ p) (ha : x.fit p a) (hb : x.fit p b) (hk : k < a.length) (hop : x.op k d = true) (h1 : a.getD k 0 ≤ d) (h2 : d ≤ b.getD k 0) (hab : ∀ i, i < a.length → a.getD i 0 ≤ b.getD i 0) : x.fit p (mixL a b k d) := by
  have hl : a.length = b.length := by rw [ha.1, hb.1]
  have hg := mixL_get (d := d) hl hk
  have hll := mixL_len (d := d) hl hk
  refine ⟨by rw [hll]; exact ha.1, fun i hi => ?_⟩
  rw [hll] at hi
  have hle : ∀ j, j < a.length → (mixL a b k d).getD j 0 ≤ b.getD j 0 := by
    intro j hj
    rw [hg j]
    split
    · exact hab j hj
    · split
      · rename_i h3; rw [h3]; exact h2
      · exact Int.le_refl _
  rw [hg i]
  rcases Nat.lt_trichotomy i k with h | h | h
  · rw [if_pos h]
    have e : lowL p (mixL a b k d) i = lowL p a i := lowL_same hp fun j hj => by rw [hg j, if_pos (by omega)]
    rw [e]; exact ha.2 i hi
  · subst h
    rw [if_neg (by omega), if_pos rfl]
    have e : lowL p (mixL a b i d) i = lowL p a i := lowL_same hp fun j hj => by rw [hg j, if_pos (by omega)]
    rw [e]
    have := (ha.2 i hi).2
    exact ⟨hop, by omega⟩
  · rw [if_neg (by omega), if_neg (by omega)]
    have hb2 := hb.2 i (by omega)
    exact ⟨hb2.1, Int.le_trans (lowL_mono hp fun j hj => hle j (by omega)) hb2.2⟩

/-- Days that fit do not fall. -/
theorem Course.fit_mono {x : Course} {p : Nat} {g : List Int} (h : x.ord) (hg : x.fit p g) : ∀ (n i : Nat), i + n < g.length → g.getD i 0 ≤ g.getD (i + n) 0
  | 0, i, _ => Int.le_refl _
  | n + 1, i, hn => by
    have h1 := x.fit_mono h hg n i (by omega)
    have h2 := (lowL_iff (x.fit_in h hg (i + (n + 1)) hn).1).1 (hg.2 (i + (n + 1)) hn).2
    have h3 := h2.1 (by omega)
    rw [show i + (n + 1) - 1 = i + n by omega] at h3
    omega
theorem Course.fit_narrow {x y : Course} {p q : Nat} {g : List Int} (hy : y.ord) (hl : y.open_.length = x.open_.length) (hqp : q ≤ p) (hop : ∀ i d, i < x.open_.length → y.op i d = true → x.op i d = true) (hg : y.fit q g) : x.fit p g := by
  refine ⟨by rw [hg.1, hl], fun i hi => ?_⟩
  obtain ⟨h1, h2⟩ := hg.2 i hi
  have h0 := (y.fit_in hy hg i hi).1
  refine ⟨hop i _ (by rw [← hl, ← hg.1]; exact hi) h1, ?_⟩
  rw [lowL_iff h0] at h2 ⊢
  refine ⟨h2.1, fun hpi => ?_⟩
  have h3 := h2.2 (by omega)
  have h4 := y.fit_mono hy hg (p - q) (i - p) (by omega)
  rw [show i - p + (p - q) = i - q by omega] at h4
  omega
/-- So many lines want so many days. -/
theorem Course.fit_bound {x : Course} {p : Nat} {g : List Int} (h : x.ord) (hg : x.fit p g) : ∀ (k : Nat), k * p < g.length → g.getD 0 0 + k ≤ g.getD (k * p) 0
  | 0, _ => by simp
  | k + 1, hk => by
    have e : (k + 1) * p = k * p + p := Nat.succ_mul k p
    have h1 := x.fit_bound h hg k (by omega)
    have h2 := ((lowL_iff (x.fit_in h hg ((k + 1) * p) hk).1).1 (hg.2 ((k + 1) * p) hk).2).2 (by omega)
    rw [show (k + 1) * p - p = k * p by omega] at h2
    omega

/-! How long a copy took at least. -/
/-- The earliest days from a day on, if some days fit that begin on it. -/
theorem Course.early_from {x : Course} {p : Nat} {g : List Int} {b : Int} (h : x.ord) (hp : 1 ≤ p) (hg : x.fit p g) (hb : b ≤ g.getD 0 0) : (x.early p b).length = x.open_.length ∧ x.fit p (x.early p b) ∧ (∀ i, i < g.length → (x.early p b).getD i 0 ≤ g.getD i 0) ∧ ∀ i, i < g.length → b ≤ (x.early p b).getD i 0 := by
  obtain ⟨h1, h2, h3, h4⟩ := early_ok (op := x.op) hp (fun i f => x.nx_ok h i f) x.open_.length (frm := b)
  obtain ⟨h5, h6⟩ := h4 g g.length (by have := hg.1; omega) hg.2 (fun i hi => by have := x.fit_mono h hg i 0 (by omega); rw [Nat.zero_add] at this; omega)
  have h7 : (x.early p b).length = x.open_.length := by
    have h8 : g.length ≤ (x.early p b).length := h5
    have h9 : (x.early p b).length ≤ x.open_.length := h1
    have := hg.1
    omega
  exact ⟨h7, ⟨h7, h2⟩, h6, fun i hi => h3 i (by have := hg.1; change i < (x.early p b).length; omega)⟩
def Course.poss (x : Course) (p k : Nat) : List (Int × Int) := cutS ((x.early p 0).getD k 0) ((x.late p).getD k 0) (x.at_ k)
theorem Course.poss_iff {x : Course} {p k : Nat} {d : Int} : ins (x.poss p k) d = true ↔ x.op k d = true ∧ (x.early p 0).getD k 0 ≤ d ∧ d ≤ (x.late p).getD k 0 := by
  rw [Course.poss, cutS_ins]; simp [Course.op]
/-- On each possible day of a line some days fit. -/
theorem Course.poss_fit {x : Course} {p k : Nat} {d : Int} (h : x.ord) (hp : 1 ≤ p) (hm : x.made p = true) (hk : k < x.open_.length) (hd : ins (x.poss p k) d = true) : x.fit p (mixL (x.early p 0) (x.late p) k d) := by
  obtain ⟨h1, h2, h3⟩ := x.poss_iff.1 hd
  have hf := x.early_fit h hp hm
  exact x.mix_fit hp hf (x.late_fit h hp hm) (by rw [hf.1]; exact hk) h1 h2 h3 (fun i hi => x.early_late h hp hm i (by rw [← hf.1]; exact hi))
theorem Course.fit_poss {x : Course} {p k : Nat} {g : List Int} (h : x.ord) (hp : 1 ≤ p) (hg : x.fit p g) (hk : k < g.length) : ins (x.poss p k) (g.getD k 0) = true :=
  x.poss_iff.2 ⟨(hg.2 k hk).1, (x.fit_early h hp hg).2 k hk, x.fit_late h hp hg k hk⟩
def Course.took (x : Course) (p : Nat) (b : Int) : Int := (x.early p b).getD (x.open_.length - 1) 0 - b
structure Course.Short (x : Course) (p : Nat) (l : Int) : Prop where
  at_ : ∃ b, ins (x.poss p 0) b = true ∧ l = x.took p b
  le : ∀ b, ins (x.poss p 0) b = true → l ≤ x.took p b
theorem Course.took_fit {x : Course} {p : Nat} {b : Int} (h : x.ord) (hp : 1 ≤ p) (hm : x.made p = true) (hn : 0 < x.open_.length) (hb : ins (x.poss p 0) b = true) : x.fit p (x.early p b) ∧ (x.early p b).getD 0 0 = b ∧ x.took p b = (x.early p b).getD (x.open_.length - 1) 0 - (x.early p b).getD 0 0 := by
  have hg := x.poss_fit h hp hm hn hb
  have hf := x.early_fit h hp hm
  have hlt := x.late_fit h hp hm
  have hll : (x.early p 0).length = (x.late p).length := by rw [hf.1, hlt.1]
  have h0 : (mixL (x.early p 0) (x.late p) 0 b).getD 0 0 = b := by rw [mixL_get hll (by rw [hf.1]; exact hn)]; simp
  obtain ⟨h1, h2, h3, h4⟩ := x.early_from (b := b) h hp hg (by rw [h0]; exact Int.le_refl _)
  have h5 := h3 0 (by rw [hg.1]; exact hn)
  have h6 := h4 0 (by rw [hg.1]; exact hn)
  have h7 : (x.early p b).getD 0 0 = b := by omega
  exact ⟨h2, h7, by rw [Course.took, h7]⟩
theorem Course.took_bound {x : Course} {p : Nat} {b : Int} (h : x.ord) (hp : 1 ≤ p) (hm : x.made p = true) (hn : 0 < x.open_.length) (hb : ins (x.poss p 0) b = true) : (((x.open_.length - 1) / p : Nat) : Int) ≤ x.took p b ∧ x.took p b ≤ 730 := by
  obtain ⟨h1, h2, h3⟩ := x.took_fit h hp hm hn hb
  have hdm : (x.open_.length - 1) / p * p ≤ x.open_.length - 1 := Nat.div_mul_le_self _ _
  have h4 := x.fit_bound h h1 ((x.open_.length - 1) / p) (by rw [h1.1]; omega)
  have h5 := x.fit_mono h h1 (x.open_.length - 1 - (x.open_.length - 1) / p * p) ((x.open_.length - 1) / p * p) (by rw [h1.1]; omega)
  rw [show (x.open_.length - 1) / p * p + (x.open_.length - 1 - (x.open_.length - 1) / p * p) = x.open_.length - 1 by omega] at h5
  have h6 := x.fit_in h h1 0 (by rw [h1.1]; exact hn)
  have h7 := x.fit_in h h1 (x.open_.length - 1) (by rw [h1.1]; omega)
  rw [h3]
  omega
theorem Course.poss_ex {x : Course} {p : Nat} (h : x.ord) (hp : 1 ≤ p) (hm : x.made p = true) (hn : 0 < x.open_.length) : ins (x.poss p 0) ((x.early p 0).getD 0 0) = true := by
  have hf := x.early_fit h hp hm
  exact x.fit_poss h hp hf (by rw [hf.1]; exact hn)
/-- A narrower copy takes no less. -/
theorem Course.short_narrow {x y : Course} {p q : Nat} {l m : Int} (hx : x.ord) (hy : y.ord) (hl : y.open_.length = x.open_.length) (hq : 1 ≤ q) (hqp : q ≤ p) (hop : ∀ i d, i < x.open_.length → y.op i d = true → x.op i d = true) (hm : y.made q = true) (hn : 0 < x.open_.length) (h1 : x.Short p l) (h2 : y.Short q m) : l ≤ m := by
  obtain ⟨b, hb, rfl⟩ := h2.at_
  obtain ⟨hf, h0, ht⟩ := y.took_fit hy hq hm (by omega) hb
  have hfx := Course.fit_narrow hy hl hqp hop hf
  have hp : 1 ≤ p := by omega
  have hbx := x.fit_poss hx hp hfx (k := 0) (by rw [hfx.1]; exact hn)
  rw [h0] at hbx
  have h3 := h1.le b hbx
  obtain ⟨h4, h5, h6, h7⟩ := x.early_from (b := b) hx hp hfx (by rw [h0]; exact Int.le_refl _)
  have h8 := h6 (x.open_.length - 1) (by rw [hfx.1]; omega)
  have h9 : y.took q b = (y.early q b).getD (x.open_.length - 1) 0 - b := by rw [Course.took, hl]
  have h10 : x.took p b = (x.early p b).getD (x.open_.length - 1) 0 - b := rfl
  omega
end Go.Proofs.Try
namespace Go.Proofs.Try
open Go Go.Am Go.RowKit
set_option maxRecDepth 100000

/-! Numbers below others. -/
def belowL (a b : List Int) (n : Nat) : Bool := decide (n ≤ a.length) && decide (n ≤ b.length) && (List.range n).all fun i => decide (a.getD i 0 ≤ b.getD i 0)
theorem belowL_iff {a b : List Int} {n : Nat} : belowL a b n = true ↔ n ≤ a.length ∧ n ≤ b.length ∧ ∀ i, i < n → a.getD i 0 ≤ b.getD i 0 := by
  simp [belowL, and_assoc]

theorem below_s {loops : List (Nat × LInfo)} {H : AHeap} {u v : Value} {xs ys : List Int} {n : Nat} (hu : Ints H u xs) (hv : Ints H v ys) : CallS Try.prog loops 50 [u, v, .int .i64 n] H fun r H' => r = .bool (belowL xs ys n) ∧ H' = H := by
  obtain ⟨hlen, a, c, rfl⟩ := hu.slice
  obtain ⟨hlen2, a2, c2, rfl⟩ := hv.slice
  have HU := Lib.hid hu
  have HV := Lib.hid hv
  clear hu hv
  generalize he : belowL xs ys n = er
  have HE := Lib.hid he
  clear he
  refine CallS.enter' Try.func50 rfl Try.ntmps50 (by simp) fun f hd hf => ?_
  have f0 := hf 0
  have f1 := hf 1
  have f2 := hf 2
  simp at f0 f1 f2
  clear hf
  repeat' (first|(with_reducible first|refine zA ?_|refine zB fun K hK=>?_|refine zC fun K2 hK2=>?_|refine zD ?_|refine zE ?_|refine zF ?_|refine zG ?_|refine zH ?_|refine zI ?_|refine zJ ?_|refine zK ?_|refine zL ?_|refine zM ?_|refine zN ?_|refine zO ?_|refine zP ?_|refine zQ ?_|refine zR ?_|refine zS ?_|refine zT ?_)|((with_reducible refine zU (hK _ _ ?_));clear hK K)|((with_reducible refine zV ?_ ?_ fun K1 K3 d hdst h1 h3=>?_);rfl;exact yB rfl;cases hdst;go_simp)|((with_reducible refine zW fun K1 K3 h1 h3=>?_);go_simp)|((first|refine h1 ?_|refine h3 ?_);clear h1 h3 K1 K3)|((first|refine zX (fun hb=>h1 ?_) (fun hb=>h3 ?_)|refine zX (fun hb=>h3 ?_) (fun hb=>h1 ?_))<;>(clear h1 h3 K1 K3;(try have hb2:=yC hb);(try have hb2:=yD hb);(try have hb2:=yE hb);(try have hb2:=yF hb);(try have hb2:=yG hb)))|(refine fun (K2:_→AHeap→Prop) hK2=>?_)|((with_reducible refine zY ?_ ?_);decide)|((with_reducible first|refine zZ ?_ (fun K hK=>?_)|refine yA ?_ (fun K hK=>?_));(focus go_simp;done);go_simp;refine hK _ _ ?_;clear hK K)|((with_reducible refine yH mixed rfl ?_ 20 fun K0 hK0=>?_);kernel_rfl)|(with_reducible first|exact yI|exact yJ|refine yK ?_|refine yL ?_|refine yM ?_)|((with_reducible first|refine yN ?_ ?_|refine yO ?_ ?_|refine yP ?_ ?_);rfl)|((with_reducible refine yQ ?_ ?_);rfl;refine hK0 _ _ ?_;clear hK0 K0)|((with_reducible refine yR ?_ ?_ ?_ ?_);rfl;rfl;rfl)|((with_reducible refine yS ?_ ?_ ?_ fun K2 hK2=>?_);rfl;rfl;exact yB rfl)|((with_reducible refine yT ?_ ?_ ?_ ?_ fun K1 K3 d hdst h1 h3=>?_);rfl;rfl;rfl;exact yB rfl;cases hdst;go_simp)|((with_reducible refine yU ?_ ?_ ?_ ?_ fun K1 K3 d hdst h1 h3=>?_);rfl;rfl;rfl;exact yB rfl;cases hdst;go_simp)|((with_reducible refine yV ?_ ?_ (fun K2 hK2=>?_) ?_);rfl;exact yB rfl)|((with_reducible refine yW ?_ ?_ ?_ ?_ (fun K2 hK2=>?_) ?_);rfl;exact yB rfl;rfl;(focus go_simp;done))|((with_reducible refine yX ?_ ?_ ?_ (fun K2 hK2=>?_) ?_);rfl;rfl;exact yB rfl)|((with_reducible refine yY ?_ ?_ (fun K2 hK2=>?_) ?_);rfl;rfl)|((with_reducible refine yZ ?_ ?_);(first|rfl|(dsimp only;decide +kernel)))|((with_reducible refine xA ?_ ?_);(focus go_simp;done))|(go_simp;(try go_bits);(first|(refine hK2 _ _ ?_ ?_<;>clear hK2 K2)|(refine hK2 _ _ ?_;clear hK2 K2))))
  all_goals first
    | (refine ⟨?_, rfl⟩
       have h0 : ¬ (n ≤ xs.length ∧ n ≤ ys.length) := by omega
       have h1 : belowL xs ys n = false := by rw [Bool.eq_false_iff]; intro h; have := belowL_iff.1 h; exact h0 ⟨this.1, this.2.1⟩
       rw [← HE.out, h1])
    | skip
  have h1 : n ≤ xs.length := by omega
  have h2 : n ≤ ys.length := by omega
  refine CodeS.loop (fun m f H' => ∃ k : Nat, k ≤ n ∧ m = n - k ∧ f.tmp 7 = .int .i64 k ∧ f.tmp 0 = .slice a xs.length c ∧ f.tmp 1 = .slice a2 ys.length c2 ∧ f.tmp 2 = .int .i64 n ∧ f.defers = [] ∧ Hid (∀ i, i < k → xs.getD i 0 ≤ ys.getD i 0) ∧ H' = H) n ?_ ?_
  · exact ⟨0, by simp, by simp, (by first|(go_simp;done)|(go_simp;go_num;done)|assumption), (by first|(go_simp;done)|(go_simp;go_num;done)|assumption), (by first|(go_simp;done)|(go_simp;go_num;done)|assumption), (by first|(go_simp;done)|(go_simp;go_num;done)|assumption), (by first|(go_simp;done)|(go_simp;go_num;done)|assumption), Lib.hid (by intro i hi; omega), rfl⟩
  clear f0 f1 f2 hd f
  rintro m f H' ⟨k, hk, rfl, f7, f0, f1, f2, hd, HG, rfl⟩
  by_cases hlt : k < n
  · have hlx : k < xs.length := by omega
    have hly : k < ys.length := by omega
    obtain ⟨b, o, sp, rfl, hb, hx⟩ := HU.out.at_ hlx
    obtain ⟨b2, o2, sp2, rfl, hb2, hx2⟩ := HV.out.at_ hly
    have HX : Hid (xs.getD k 0 = xs[k]) := Lib.hid (by simp [List.getD_eq_getElem?_getD, hlx])
    have HY : Hid (ys.getD k 0 = ys[k]) := Lib.hid (by simp [List.getD_eq_getElem?_getD, hly])
    generalize xs[k] = x at hx HX
    generalize ys[k] = y at hx2 HY
    repeat' (first|(with_reducible first|refine zA ?_|refine zB fun K hK=>?_|refine zC fun K2 hK2=>?_|refine zD ?_|refine zE ?_|refine zF ?_|refine zG ?_|refine zH ?_|refine zI ?_|refine zJ ?_|refine zK ?_|refine zL ?_|refine zM ?_|refine zN ?_|refine zO ?_|refine zP ?_|refine zQ ?_|refine zR ?_|refine zS ?_|refine zT ?_)|((with_reducible refine zU (hK _ _ ?_));clear hK K)|((with_reducible refine zV ?_ ?_ fun K1 K3 d hdst h1 h3=>?_);rfl;exact yB rfl;cases hdst;go_simp)|((with_reducible refine zW fun K1 K3 h1 h3=>?_);go_simp)|((first|refine h1 ?_|refine h3 ?_);clear h1 h3 K1 K3)|((first|refine zX (fun hb=>h1 ?_) (fun hb=>h3 ?_)|refine zX (fun hb=>h3 ?_) (fun hb=>h1 ?_))<;>(clear h1 h3 K1 K3;(try have hb2:=yC hb);(try have hb2:=yD hb);(try have hb2:=yE hb);(try have hb2:=yF hb);(try have hb2:=yG hb)))|(refine fun (K2:_→AHeap→Prop) hK2=>?_)|((with_reducible refine zY ?_ ?_);decide)|((with_reducible first|refine zZ ?_ (fun K hK=>?_)|refine yA ?_ (fun K hK=>?_));(focus go_simp;done);go_simp;refine hK _ _ ?_;clear hK K)|((with_reducible refine yH mixed rfl ?_ 20 fun K0 hK0=>?_);kernel_rfl)|(with_reducible first|exact yI|exact yJ|refine yK ?_|refine yL ?_|refine yM ?_)|((with_reducible first|refine yN ?_ ?_|refine yO ?_ ?_|refine yP ?_ ?_);rfl)|((with_reducible refine yQ ?_ ?_);rfl;refine hK0 _ _ ?_;clear hK0 K0)|((with_reducible refine yR ?_ ?_ ?_ ?_);rfl;rfl;rfl)|((with_reducible refine yS ?_ ?_ ?_ fun K2 hK2=>?_);rfl;rfl;exact yB rfl)|((with_reducible refine yT ?_ ?_ ?_ ?_ fun K1 K3 d hdst h1 h3=>?_);rfl;rfl;rfl;exact yB rfl;cases hdst;go_simp)|((with_reducible refine yU ?_ ?_ ?_ ?_ fun K1 K3 d hdst h1 h3=>?_);rfl;rfl;rfl;exact yB rfl;cases hdst;go_simp)|((with_reducible refine yV ?_ ?_ (fun K2 hK2=>?_) ?_);rfl;exact yB rfl)|((with_reducible refine yW ?_ ?_ ?_ ?_ (fun K2 hK2=>?_) ?_);rfl;exact yB rfl;rfl;(focus go_simp;done))|((with_reducible refine yX ?_ ?_ ?_ (fun K2 hK2=>?_) ?_);rfl;rfl;exact yB rfl)|((with_reducible refine yY ?_ ?_ (fun K2 hK2=>?_) ?_);rfl;rfl)|((with_reducible refine yZ ?_ ?_);(first|rfl|(dsimp only;decide +kernel)))|((with_reducible refine xA ?_ ?_);(focus go_simp;done))|(go_simp;(try go_bits);(first|(refine hK2 _ _ ?_ ?_<;>clear hK2 K2)|(refine hK2 _ _ ?_;clear hK2 K2))))
    · refine ⟨?_, rfl⟩
      have h3 : belowL xs ys n = false := by rw [Bool.eq_false_iff]; intro h; have := (belowL_iff.1 h).2.2 k hlt; rw [HX.out, HY.out] at this; omega
      rw [← HE.out, h3]
    · refine Post.round_normal ⟨n - (k + 1), by omega, k + 1, by omega, rfl, (by first|(go_simp;done)|(go_simp;go_num;done)|assumption), (by first|(go_simp;done)|(go_simp;go_num;done)|assumption), (by first|(go_simp;done)|(go_simp;go_num;done)|assumption), (by first|(go_simp;done)|(go_simp;go_num;done)|assumption), (by first|(go_simp;done)|(go_simp;go_num;done)|assumption), Lib.hid ?_, rfl⟩
      intro i hi
      rcases Nat.lt_or_ge i k with h3 | h3
      · exact HG.out i h3
      · have : i = k := by omega
        rw [this, HX.out, HY.out]; omega
  · repeat' (first|(with_reducible first|refine zA ?_|refine zB fun K hK=>?_|refine zC fun K2 hK2=>?_|refine zD ?_|refine zE ?_|refine zF ?_|refine zG ?_|refine zH ?_|refine zI ?_|refine zJ ?_|refine zK ?_|refine zL ?_|refine zM ?_|refine zN ?_|refine zO ?_|refine zP ?_|refine zQ ?_|refine zR ?_|refine zS ?_|refine zT ?_)|((with_reducible refine zU (hK _ _ ?_));clear hK K)|((with_reducible refine zV ?_ ?_ fun K1 K3 d hdst h1 h3=>?_);rfl;exact yB rfl;cases hdst;go_simp)|((with_reducible refine zW fun K1 K3 h1 h3=>?_);go_simp)|((first|refine h1 ?_|refine h3 ?_);clear h1 h3 K1 K3)|((first|refine zX (fun hb=>h1 ?_) (fun hb=>h3 ?_)|refine zX (fun hb=>h3 ?_) (fun hb=>h1 ?_))<;>(clear h1 h3 K1 K3;(try have hb2:=yC hb);(try have hb2:=yD hb);(try have hb2:=yE hb);(try have hb2:=yF hb);(try have hb2:=yG hb)))|(refine fun (K2:_→AHeap→Prop) hK2=>?_)|((with_reducible refine zY ?_ ?_);decide)|((with_reducible first|refine zZ ?_ (fun K hK=>?_)|refine yA ?_ (fun K hK=>?_));(focus go_simp;done);go_simp;refine hK _ _ ?_;clear hK K)|((with_reducible refine yH mixed rfl ?_ 20 fun K0 hK0=>?_);kernel_rfl)|(with_reducible first|exact yI|exact yJ|refine yK ?_|refine yL ?_|refine yM ?_)|((with_reducible first|refine yN ?_ ?_|refine yO ?_ ?_|refine yP ?_ ?_);rfl)|((with_reducible refine yQ ?_ ?_);rfl;refine hK0 _ _ ?_;clear hK0 K0)|((with_reducible refine yR ?_ ?_ ?_ ?_);rfl;rfl;rfl)|((with_reducible refine yS ?_ ?_ ?_ fun K2 hK2=>?_);rfl;rfl;exact yB rfl)|((with_reducible refine yT ?_ ?_ ?_ ?_ fun K1 K3 d hdst h1 h3=>?_);rfl;rfl;rfl;exact yB rfl;cases hdst;go_simp)|((with_reducible refine yU ?_ ?_ ?_ ?_ fun K1 K3 d hdst h1 h3=>?_);rfl;rfl;rfl;exact yB rfl;cases hdst;go_simp)|((with_reducible refine yV ?_ ?_ (fun K2 hK2=>?_) ?_);rfl;exact yB rfl)|((with_reducible refine yW ?_ ?_ ?_ ?_ (fun K2 hK2=>?_) ?_);rfl;exact yB rfl;rfl;(focus go_simp;done))|((with_reducible refine yX ?_ ?_ ?_ (fun K2 hK2=>?_) ?_);rfl;rfl;exact yB rfl)|((with_reducible refine yY ?_ ?_ (fun K2 hK2=>?_) ?_);rfl;rfl)|((with_reducible refine yZ ?_ ?_);(first|rfl|(dsimp only;decide +kernel)))|((with_reducible refine xA ?_ ?_);(focus go_simp;done))|(go_simp;(try go_bits);(first|(refine hK2 _ _ ?_ ?_<;>clear hK2 K2)|(refine hK2 _ _ ?_;clear hK2 K2))))
    refine ⟨?_, rfl⟩
    have h3 : belowL xs ys n = true := belowL_iff.2 ⟨h1, h2, fun i hi => HG.out i (by omega)⟩
    rw [← HE.out, h3]
end Go.Proofs.Try
namespace Go.Proofs.Try
open Go Go.Am Go.RowKit Go.Co
set_option maxRecDepth 100000

/-! Fits. -/
def fitAt (x : Course) (p : Nat) (days : List Int) (i : Nat) : Bool := ins (x.at_ i) (days.getD i 0) && decide (lowL p days i ≤ days.getD i 0)
def fitFrom (x : Course) (p : Nat) (days : List Int) : Nat → Nat → Option Nat
  | 0, _ => none
  | r + 1, i => if fitAt x p days i = true then fitFrom x p days r (i + 1) else some i
theorem fitFrom_none {x : Course} {p : Nat} {days : List Int} : ∀ (r i : Nat), fitFrom x p days r i = none ↔ ∀ j, i ≤ j → j < i + r → fitAt x p days j = true
  | 0, i => by simp [fitFrom]; intro j h1 h2; omega
  | r + 1, i => by
    rw [fitFrom]
    by_cases h : fitAt x p days i = true
    · rw [if_pos h, fitFrom_none r (i + 1)]
      constructor
      · intro h1 j h2 h3
        by_cases hj : j = i
        · rw [hj]; exact h
        · exact h1 j (by omega) (by omega)
      · intro h1 j h2 h3; exact h1 j (by omega) (by omega)
    · rw [if_neg h]
      constructor
      · intro h1; cases h1
      · intro h1; exact absurd (h1 i (Nat.le_refl _) (by omega)) h
def errFits (s : Sheet) (c : Copy) (days : List Int) : Int := if errCopy s c ≠ 0 then errCopy s c else if days.length = c.words.length then 0 else 1
def fitsR (s : Sheet) (c : Copy) (days : List Int) : Option Nat := fitFrom (courseOf s c) c.per.toNat days days.length 0
def fitsV (s : Sheet) (c : Copy) (days : List Int) : Value := if errFits s c days = 0 then (match fitsR s c days with | none => .tuple #[.int .i64 0, .bool true, .int .i64 0] | some i => .tuple #[.int .i64 i, .bool false, .int .i64 0]) else .tuple #[.int .i64 0, .bool false, .int .i64 (errFits s c days)]

set_option maxHeartbeats 4000000 in
theorem fits_s {loops : List (Nat × LInfo)} {H : AHeap} {sv cv dv : Value} {s : Sheet} {c : Copy} {days : List Int} (hs : SheetV H sv s) (hc : CopyV H cv c) (hdv : Ints H dv days) : CallS Try.prog loops 48 [sv, cv, dv] H fun r H' => r = fitsV s c days ∧ H' = H := by
  refine CallS.forget (R := fun v => v = fitsV s c days) (by rintro v rfl; unfold fitsV; split; (split <;> rfl); rfl) ?_
  have HV := Lib.hid hs
  have HC := Lib.hid hc
  have HD := Lib.hid hdv
  obtain ⟨wv, av, rfl, hw, ha⟩ := hs
  obtain ⟨hwl, wa, wc, rfl⟩ := hw.slice
  obtain ⟨hal, aa, ac, rfl⟩ := ha.slice
  obtain ⟨cv, rfl, hcw⟩ := hc
  obtain ⟨hcl, ca, cc, rfl⟩ := hcw.slice
  obtain ⟨hdl, da, dc, rfl⟩ := hdv.slice
  clear hw ha hcw hdv
  generalize hr : fitsV s c days = r
  have HR : Hid (r = fitsV s c days) := Lib.hid hr.symm
  clear hr
  refine CallS.enter' Try.func48 rfl Try.ntmps48 (by simp) fun f hd hf => ?_
  have f0 := hf 0
  have f1 := hf 1
  have f2 := hf 2
  simp at f0 f1 f2
  clear hf
  have HX1 : Hid (Ext H ((H.push (.row [Value.slice wa s.words.length wc, Value.slice aa s.alts.length ac] 25)).push (.row [Value.slice ca c.words.length cc, .int .i64 c.beg, .int .i64 c.fin, .int .i64 c.per] 27))) := Lib.hid (((Ext.refl _).push' _).push' _)
  repeat' (first|(with_reducible first|refine zA ?_|refine zB fun K hK=>?_|refine zC fun K2 hK2=>?_|refine zD ?_|refine zE ?_|refine zF ?_|refine zG ?_|refine zH ?_|refine zI ?_|refine zJ ?_|refine zK ?_|refine zL ?_|refine zM ?_|refine zN ?_|refine zO ?_|refine zP ?_|refine zQ ?_|refine zR ?_|refine zS ?_|refine zT ?_)|((with_reducible refine zU (hK _ _ ?_));clear hK K)|((with_reducible refine zV ?_ ?_ fun K1 K3 d hdst h1 h3=>?_);rfl;exact yB rfl;cases hdst;go_simp)|((with_reducible refine zW fun K1 K3 h1 h3=>?_);go_simp)|((first|refine h1 ?_|refine h3 ?_);clear h1 h3 K1 K3)|((first|refine zX (fun hb=>h1 ?_) (fun hb=>h3 ?_)|refine zX (fun hb=>h3 ?_) (fun hb=>h1 ?_))<;>(clear h1 h3 K1 K3;(try have hb2:=yC hb);(try have hb2:=yD hb);(try have hb2:=yE hb);(try have hb2:=yF hb);(try have hb2:=yG hb)))|(refine fun (K2:_→AHeap→Prop) hK2=>?_)|((with_reducible refine zY ?_ ?_);decide)|((with_reducible first|refine zZ ?_ (fun K hK=>?_)|refine yA ?_ (fun K hK=>?_));(focus go_simp;done);go_simp;refine hK _ _ ?_;clear hK K)|(go_simp;(try go_bits);(try first | ((with_reducible show CallS _ _ _ _ _ _);refine CallS.mono (checkCopy_s (s := s) (c := c) (HV.out.ext HX1.out) (HC.out.ext HX1.out)) ?_; rintro _ _ ⟨rfl, h9⟩; rw [h9]; clear h9) | ((with_reducible show CallS _ _ _ _ _ _);refine CallS.mono (courseOf_e (s := s) (c := c) (HV.out.ext HX1.out) (HC.out.ext HX1.out) (by simpa using ‹(errCopy s c != 0) = false›)) ?_; rintro xv H2 ⟨hx, hx2⟩; (have HXC := Lib.hid hx); (have HX2 := Lib.hid (HX1.out.trans hx2)); (obtain ⟨ov, rfl, hov⟩ := hx); (obtain ⟨-, oa, oc, rfl⟩ := hov.slice); clear hov hx2));refine hK2 _ _ ?_;clear hK2 K2))
  · refine ⟨?_, HX1.out⟩
    have h1 : errCopy s c ≠ 0 := by simpa using hb
    have h2 : errFits s c days = errCopy s c := by rw [errFits, if_pos h1]
    rw [HR.out, fitsV, h2, if_neg h1]
  · refine ⟨?_, HX1.out⟩
    have h1 : errCopy s c = 0 := by simpa using ‹(errCopy s c != 0) = false›
    have h3 : ¬ days.length = c.words.length := by rw [nat_neb] at hb; simpa using hb
    have h2 : errFits s c days = 1 := by rw [errFits, if_neg (by simp [h1]), if_neg h3]
    rw [HR.out, fitsV, h2, if_neg (by decide)]
  have h1 : errCopy s c = 0 := by simpa using ‹(errCopy s c != 0) = false›
  have h3 : days.length = c.words.length := by rw [nat_neb] at hb; simpa using hb
  have h2 : errFits s c days = 0 := by rw [errFits, if_neg (by simp [h1]), if_pos h3]
  have HR2 : Hid (r = (match fitFrom (courseOf s c) c.per.toNat days days.length 0 with | none => .tuple #[.int .i64 0, .bool true, .int .i64 0] | some i => .tuple #[.int .i64 i, .bool false, .int .i64 0])) := Lib.hid (by rw [HR.out, fitsV, if_pos h2]; rfl)
  have hor := courseOf_ord h1
  obtain ⟨-, -, -, -, -, -, hp1, hp2⟩ := errCopy_ok h1
  have hper : (courseOf s c).per = ((c.per.toNat : Nat) : Int) := by show c.per = _; omega
  have hp3 : 1 ≤ c.per.toNat := by omega
  have hxl : (courseOf s c).open_.length = days.length := by rw [courseOf_len, h3]
  have HPER := Lib.hid hper
  have HXL := Lib.hid hxl
  have HOR := Lib.hid hor
  clear hper hxl hor HR h2 hp1 hp2
  clear h1 h3 HV HC
  generalize courseOf s c = x at HXC HR2 HPER HXL HOR
  generalize c.per.toNat = p at HR2 HPER hp3
  generalize hpe : x.per = pe at HXC HPER
  have HPE := Lib.hid hpe
  clear hpe
  refine CodeS.loop (fun m f H' => ∃ k : Nat, k ≤ days.length ∧ m = days.length - k ∧ f.tmp 30 = .int .i64 k ∧ f.tmp 29 = .int .i64 days.length ∧ f.tmp 28 = .slice da days.length dc ∧ f.tmp 2 = .slice da days.length dc ∧ f.tmp 10 = .pointer (some ⟨H2.n, 0, none⟩) ∧ f.defers = [] ∧ Hid (∀ j, j < k → fitAt x p days j = true) ∧ H' = H2.push (.row [Value.slice oa x.open_.length oc, .int .i64 pe] 118)) days.length ?_ ?_
  · exact ⟨0, by simp, by simp, (by first|(go_simp;done)|(go_simp;go_num;done)|assumption), (by first|(go_simp;done)|(go_simp;go_num;done)|assumption), (by first|(go_simp;done)|(go_simp;go_num;done)|assumption), (by first|(go_simp;done)|(go_simp;go_num;done)|assumption), (by first|(go_simp;done)|(go_simp;go_num;done)|assumption), (by first|(go_simp;done)|(go_simp;go_num;done)|assumption), Lib.hid (by intro j hj; omega), rfl⟩
  clear f0 f1 f2 hd f hb
  rintro m f H' ⟨k, hk, rfl, f30, f29, f28, f2, f10, hd, HF, rfl⟩
  by_cases hlt : k < days.length
  · have HLW := Lib.hid (fun (loops : List (Nat × LInfo)) => lowest_s (loops := loops) (k := k) (HXC.out.ext (Ext.push (.row [Value.slice oa x.open_.length oc, .int .i64 pe] 118))) (HD.out.ext ((HX2.out.push' _))) hk (HPE.out.trans HPER.out) hp3 (fun j hj => by
      have h := HF.out j hj
      simp only [fitAt, Bool.and_eq_true] at h
      have := ordS_ins _ (HOR.out j) _ h.1
      omega))
    have HOP := Lib.hid (fun (loops : List (Nat × LInfo)) (d : Int) => isOpen_s (loops := loops) (d := d) (HXC.out.ext (Ext.push (.row [Value.slice oa x.open_.length oc, .int .i64 pe] 118))) (show k < x.open_.length by rw [HXL.out]; exact hlt))
    obtain ⟨b, o, sp, rfl, hb, hx⟩ := (HD.out.ext HX2.out).at_ hlt
    have hgd : days.getD k 0 = days[k] := by simp [List.getD_eq_getElem?_getD, hlt]
    have HFA : Hid (fitAt x p days k = (ins (x.at_ k) days[k] && decide (lowL p days k ≤ days[k]))) := Lib.hid (by rw [fitAt, hgd])
    have HST : Hid (fitAt x p days k = false → fitFrom x p days days.length 0 = some k) := Lib.hid (fun h => by
      have go : ∀ (r i : Nat), i ≤ k → k < i + r → fitFrom x p days r i = some k := by
        intro r
        induction r with
        | zero => intro i h1 h2; omega
        | succ r ih =>
          intro i h1 h2
          rw [fitFrom]
          by_cases hik : i = k
          · subst hik; rw [if_neg (by rw [h]; simp)]
          · rw [if_pos (HF.out i (by omega))]; exact ih (i + 1) (by omega) (by omega)
      exact go days.length 0 (by omega) (by omega))
    clear hgd
    generalize lowL p days k = lw at HLW HFA
    generalize days[k] = d at hx HFA
    have hop := fun (loops : List (Nat × LInfo)) => HOP.out loops d
    generalize ins (x.at_ k) d = io at hop HFA
    have HOP2 := Lib.hid hop
    clear hop
    repeat' (first|(with_reducible first|refine zA ?_|refine zB fun K hK=>?_|refine zC fun K2 hK2=>?_|refine zD ?_|refine zE ?_|refine zF ?_|refine zG ?_|refine zH ?_|refine zI ?_|refine zJ ?_|refine zK ?_|refine zL ?_|refine zM ?_|refine zN ?_|refine zO ?_|refine zP ?_|refine zQ ?_|refine zR ?_|refine zS ?_|refine zT ?_)|((with_reducible refine zU (hK _ _ ?_));clear hK K)|((with_reducible refine zV ?_ ?_ fun K1 K3 d hdst h1 h3=>?_);rfl;exact yB rfl;cases hdst;go_simp)|((with_reducible refine zW fun K1 K3 h1 h3=>?_);go_simp)|((first|refine h1 ?_|refine h3 ?_);clear h1 h3 K1 K3)|((first|refine zX (fun hb=>h1 ?_) (fun hb=>h3 ?_)|refine zX (fun hb=>h3 ?_) (fun hb=>h1 ?_))<;>(clear h1 h3 K1 K3;(try have hb2:=yC hb);(try have hb2:=yD hb);(try have hb2:=yE hb);(try have hb2:=yF hb);(try have hb2:=yG hb)))|(refine fun (K2:_→AHeap→Prop) hK2=>?_)|((with_reducible refine zY ?_ ?_);decide)|((with_reducible first|refine zZ ?_ (fun K hK=>?_)|refine yA ?_ (fun K hK=>?_));(focus go_simp;done);go_simp;refine hK _ _ ?_;clear hK K)|(go_simp;(try go_bits);(try first | ((with_reducible show CallS _ _ _ _ _ _);refine CallS.mono (HLW.out _) ?_; rintro _ _ ⟨rfl, rfl⟩) | ((with_reducible show CallS _ _ _ _ _ _);refine CallS.mono (HOP2.out _) ?_; rintro _ _ ⟨rfl, rfl⟩));refine hK2 _ _ ?_;clear hK2 K2))
    · refine ⟨?_, HX2.out.push' _⟩
      have h9 : io = false := by simpa using hb
      rw [HR2.out, HST.out (by rw [HFA.out, h9]; rfl)]
    · refine ⟨?_, HX2.out.push' _⟩
      have h9 : decide (lw ≤ d) = false := by simp; omega
      rw [HR2.out, HST.out (by rw [HFA.out, h9, Bool.and_false])]
    · refine Post.round_normal ⟨days.length - (k + 1), by omega, k + 1, by omega, rfl, (by first|(go_simp;done)|(go_simp;go_num;done)|assumption), (by first|(go_simp;done)|(go_simp;go_num;done)|assumption), (by first|(go_simp;done)|(go_simp;go_num;done)|assumption), (by first|(go_simp;done)|(go_simp;go_num;done)|assumption), (by first|(go_simp;done)|(go_simp;go_num;done)|assumption), (by first|(go_simp;done)|(go_simp;go_num;done)|assumption), Lib.hid ?_, rfl⟩
      intro j hj
      by_cases hjk : j = k
      · have h9 : decide (lw ≤ d) = true := by simp; omega
        have h8 : io = true := by simpa using ‹(!io) = false›
        rw [hjk, HFA.out, h9, h8]; rfl
      · exact HF.out j (by omega)
  · repeat' (first|(with_reducible first|refine zA ?_|refine zB fun K hK=>?_|refine zC fun K2 hK2=>?_|refine zD ?_|refine zE ?_|refine zF ?_|refine zG ?_|refine zH ?_|refine zI ?_|refine zJ ?_|refine zK ?_|refine zL ?_|refine zM ?_|refine zN ?_|refine zO ?_|refine zP ?_|refine zQ ?_|refine zR ?_|refine zS ?_|refine zT ?_)|((with_reducible refine zU (hK _ _ ?_));clear hK K)|((with_reducible refine zV ?_ ?_ fun K1 K3 d hdst h1 h3=>?_);rfl;exact yB rfl;cases hdst;go_simp)|((with_reducible refine zW fun K1 K3 h1 h3=>?_);go_simp)|((first|refine h1 ?_|refine h3 ?_);clear h1 h3 K1 K3)|((first|refine zX (fun hb=>h1 ?_) (fun hb=>h3 ?_)|refine zX (fun hb=>h3 ?_) (fun hb=>h1 ?_))<;>(clear h1 h3 K1 K3;(try have hb2:=yC hb);(try have hb2:=yD hb);(try have hb2:=yE hb);(try have hb2:=yF hb);(try have hb2:=yG hb)))|(refine fun (K2:_→AHeap→Prop) hK2=>?_)|((with_reducible refine zY ?_ ?_);decide)|((with_reducible first|refine zZ ?_ (fun K hK=>?_)|refine yA ?_ (fun K hK=>?_));(focus go_simp;done);go_simp;refine hK _ _ ?_;clear hK K)|(go_simp;(try go_bits);refine hK2 _ _ ?_;clear hK2 K2))
    refine ⟨?_, HX2.out.push' _⟩
    have h9 : fitFrom x p days days.length 0 = none := (fitFrom_none _ _).2 fun j _ hj => HF.out j (by omega)
    rw [HR2.out, h9]

/-! What Fits tells. -/
def FitsOk (s : Sheet) (c : Copy) (days : List Int) : Prop := errFits s c days = 0 ∧ fitsR s c days = none
def opOf (s : Sheet) (c : Copy) (i : Nat) (d : Int) : Bool := ins ((courseOf s c).at_ i) d
theorem opOf_in {s : Sheet} {c : Copy} (h : errCopy s c = 0) (i : Nat) (d : Int) (ho : opOf s c i d = true) : 0 ≤ d ∧ d ≤ 730 := ordS_ins _ (courseOf_ord h i) d ho
theorem errFits_ok {s : Sheet} {c : Copy} {days : List Int} (h : errFits s c days = 0) : errCopy s c = 0 ∧ days.length = c.words.length := by
  unfold errFits at h
  split at h
  · rename_i h1; exact absurd h h1
  · rename_i h1
    split at h
    · rename_i h2; exact ⟨by simpa using h1, h2⟩
    · cases h
theorem fitsR_iff {s : Sheet} {c : Copy} {days : List Int} : fitsR s c days = none ↔ FitTo (opOf s c) c.per.toNat days days.length := by
  unfold fitsR
  rw [fitFrom_none]
  simp only [fitAt, Bool.and_eq_true, decide_eq_true_eq, Nat.zero_add, FitTo, opOf]
  exact ⟨fun h i hi => h i (Nat.zero_le _) hi, fun h i _ hi => h i hi⟩
theorem fitsV_ok {s : Sheet} {c : Copy} {days : List Int} (h : errFits s c days = 0) (hf : FitTo (opOf s c) c.per.toNat days days.length) : fitsV s c days = .tuple #[.int .i64 0, .bool true, .int .i64 0] := by
  rw [fitsV, if_pos h, fitsR_iff.2 hf]
end Go.Proofs.Try
namespace Go.Proofs.Try
open Go Go.Am Go.RowKit Go.Co
set_option maxRecDepth 100000

/-! What days that fit tell of the ends. -/
theorem fitsV_form' (s : Sheet) (c : Copy) (days : List Int) : ∃ n b, fitsV s c days = .tuple #[.int .i64 n, .bool b, .int .i64 (errFits s c days)] ∧ (errFits s c days = 0 → b = true → FitsOk s c days) := by
  unfold fitsV FitsOk
  by_cases h : errFits s c days = 0
  · rw [if_pos h, h]
    cases hf : fitsR s c days with
    | none => exact ⟨0, true, rfl, fun _ _ => ⟨rfl, rfl⟩⟩
    | some i => exact ⟨i, false, rfl, fun _ h => by cases h⟩
  · rw [if_neg h]
    exact ⟨0, false, rfl, fun h1 => absurd h1 h⟩
/-- What is known of a copy that is right. -/
structure Known (s : Sheet) (c : Copy) (x : Course) (p n : Nat) : Prop where
  ord : x.ord
  p1 : 1 ≤ p
  len : x.open_.length = n
  n1 : 1 ≤ n
  n40 : n ≤ 40
  ext : errExt s c = if x.made p then 0 else 9
  fin : ∀ i d, i < n → x.op i d = true → c.beg ≤ d ∧ d ≤ c.fin
  fin0 : 0 ≤ c.fin ∧ c.fin ≤ 730
theorem known {s : Sheet} {c : Copy} (h : errCopy s c = 0) : Known s c (courseOf s c) c.per.toNat c.words.length := by
  obtain ⟨he0, hlen, hwo, hb0, hb1, hb2, hp1, -⟩ := errCopy_ok h
  have hwl := win_iff.1 (err_ok he0).2.1
  refine ⟨courseOf_ord h, by omega, courseOf_len s c, by omega, by omega, by rw [errExt, if_neg (by simp [h])], fun i d hi ho => ?_, by omega⟩
  have h1 := courseOf_ins h hi (d := d)
  rw [Course.op, h1] at ho
  simp only [Bool.and_eq_true, decide_eq_true_eq] at ho
  omega
theorem fitsOk_fit {s : Sheet} {c : Copy} {days : List Int} : FitsOk s c days ↔ errCopy s c = 0 ∧ (courseOf s c).fit c.per.toNat days := by
  constructor
  · rintro ⟨h1, h2⟩
    obtain ⟨h3, h4⟩ := errFits_ok h1
    exact ⟨h3, by rw [courseOf_len]; exact h4, fitsR_iff.1 h2⟩
  · rintro ⟨h1, h2, h3⟩
    rw [courseOf_len] at h2
    exact ⟨by rw [errFits, if_neg (by simp [h1]), if_pos h2], fitsR_iff.2 h3⟩
theorem fitsOk_V {s : Sheet} {c : Copy} {days : List Int} (h : FitsOk s c days) : fitsV s c days = .tuple #[.int .i64 0, .bool true, .int .i64 0] := fitsV_ok h.1 (fitsR_iff.1 h.2)
theorem errExt_ok {s : Sheet} {c : Copy} (h : errExt s c = 0) : errCopy s c = 0 ∧ (courseOf s c).made c.per.toNat = true := by
  unfold errExt at h
  split at h
  · rename_i h1; exact absurd h h1
  · rename_i h1
    split at h
    · rename_i h2; exact ⟨by simpa using h1, h2⟩
    · cases h
theorem fit_ext {s : Sheet} {c : Copy} {days : List Int} (h : FitsOk s c days) : errExt s c = 0 := by
  obtain ⟨h1, h2⟩ := fitsOk_fit.1 h
  have k := known h1
  rw [k.ext, ((courseOf s c).fit_early k.ord k.p1 h2).1]; rfl
theorem first_fits {s : Sheet} {c : Copy} (h : errExt s c = 0) : FitsOk s c (firstL s c) := by
  obtain ⟨h1, h2⟩ := errExt_ok h
  have k := known h1
  rw [firstL, if_pos h]
  exact fitsOk_fit.2 ⟨h1, (courseOf s c).early_fit k.ord k.p1 h2⟩
theorem last_fits {s : Sheet} {c : Copy} (h : errExt s c = 0) : FitsOk s c (lastL s c) := by
  obtain ⟨h1, h2⟩ := errExt_ok h
  have k := known h1
  rw [lastL, if_pos h]
  exact fitsOk_fit.2 ⟨h1, (courseOf s c).late_fit k.ord k.p1 h2⟩
theorem first_below {s : Sheet} {c : Copy} {days : List Int} (h : FitsOk s c days) : belowL (firstL s c) days days.length = true := by
  obtain ⟨h1, h2⟩ := fitsOk_fit.1 h
  have he := fit_ext h
  have k := known h1
  have h3 := (fitsOk_fit.1 (first_fits he)).2.1
  rw [firstL, if_pos he] at h3 ⊢
  exact belowL_iff.2 ⟨by have := h2.1; omega, Nat.le_refl _, ((courseOf s c).fit_early k.ord k.p1 h2).2⟩
theorem last_below {s : Sheet} {c : Copy} {days : List Int} (h : FitsOk s c days) : belowL days (lastL s c) days.length = true := by
  obtain ⟨h1, h2⟩ := fitsOk_fit.1 h
  have he := fit_ext h
  have k := known h1
  have h3 := (fitsOk_fit.1 (last_fits he)).2.1
  rw [lastL, if_pos he] at h3 ⊢
  exact belowL_iff.2 ⟨Nat.le_refl _, by have := h2.1; omega, (courseOf s c).fit_late k.ord k.p1 h2⟩
end Go.Proofs.Try
namespace Go.Proofs.Try
open Go Go.Am Go.RowKit Go.Co

/-! What the ends of copies tell: pure. -/
theorem ends_ok {s : Sheet} {c : Copy} (h : errExt s c = 0) : (∀ i j, i ≤ j → j < s.words.length → (firstL s c).getD i 0 ≤ (firstL s c).getD j 0) ∧ (∀ i j, i ≤ j → j < s.words.length → (lastL s c).getD i 0 ≤ (lastL s c).getD j 0) ∧ ∀ i, i < s.words.length → (firstL s c).getD i 0 ≤ (lastL s c).getD i 0 := by
  obtain ⟨h0, hm, e1, e2, g1, g2, -, -⟩ := ends_n h
  have k := known h0
  have hf := (courseOf s c).early_fit k.ord k.p1 hm
  have hl := (courseOf s c).late_fit k.ord k.p1 hm
  rw [e1] at g1
  rw [e2] at g2
  rw [e1, e2]
  refine ⟨fun i j hij hj => ?_, fun i j hij hj => ?_, fun i hi => ?_⟩
  · have := (courseOf s c).fit_mono k.ord hf (j - i) i (by omega)
    rwa [show i + (j - i) = j by omega] at this
  · have := (courseOf s c).fit_mono k.ord hl (j - i) i (by omega)
    rwa [show i + (j - i) = j by omega] at this
  · exact (courseOf s c).early_late k.ord k.p1 hm i (by rw [← hf.1, g1]; exact hi)
theorem fits_ends {s : Sheet} {c : Copy} {days : List Int} (h : FitsOk s c days) : errExt s c = 0 ∧ days.length = s.words.length ∧ ∀ i, i < s.words.length → (firstL s c).getD i 0 ≤ days.getD i 0 ∧ days.getD i 0 ≤ (lastL s c).getD i 0 := by
  have he := fit_ext h
  obtain ⟨h1, h2⟩ := fitsOk_fit.1 h
  have hl : days.length = s.words.length := by rw [h2.1, courseOf_len, (errCopy_ok h1).2.1]
  have b1 := (belowL_iff.1 (first_below h)).2.2
  have b2 := (belowL_iff.1 (last_below h)).2.2
  exact ⟨he, hl, fun i hi => ⟨b1 i (by omega), b2 i (by omega)⟩⟩
theorem errExts_iff {s : Sheet} {c d : Copy} : errExts s c d = 0 ↔ errExt s c = 0 ∧ errExt s d = 0 := by
  refine ⟨errExts_ok, fun ⟨h1, h2⟩ => ?_⟩
  rw [errExts, if_neg (by simp [(ends_n h1).1]), if_neg (by simp [(ends_n h2).1]), if_neg (by simp [h1]), h2]
theorem sortL_nil {l : List Int} (h : l = []) : sortL l = [] := by rw [h]; rfl

structure OrdersOk (s : Sheet) (c d : Copy) (xs ys : List Int) (p q p2 : Bool) : Prop where
  may : p = true → q = true
  back : p = true → p2 = false
  none : p = true → bSure s d c = []
  fit1 : FitsOk s c xs → FitsOk s d ys → p = true → xs.getD (xs.length - 1) 0 < ys.getD 0 0
  fit2 : FitsOk s c xs → FitsOk s d ys → xs.getD (xs.length - 1) 0 < ys.getD 0 0 → q = true
theorem orders_ok (s : Sheet) (c d : Copy) (xs ys : List Int) : ∃ p q e p2 q2 e2, befV s c d = .tuple #[.bool p, .bool q, .int .i64 e] ∧ befV s d c = .tuple #[.bool p2, .bool q2, .int .i64 e2] ∧ errExts s d c = e2 ∧ ((e = 0 ∧ e2 = 0 ∧ OrdersOk s c d xs ys p q p2) ∨ (e ≠ 0 ∧ e2 ≠ 0 ∧ p = false ∧ q = false)) := by
  by_cases h : errExts s c d = 0
  · have h' : errExts s d c = 0 := by rw [errExts_iff] at h ⊢; exact ⟨h.2, h.1⟩
    obtain ⟨h1, h2⟩ := errExts_iff.1 h
    obtain ⟨f1, l1, fl1⟩ := ends_ok h1
    obtain ⟨f2, l2, fl2⟩ := ends_ok h2
    obtain ⟨g1, -, -, -, -, -, n1, -⟩ := ends_n h1
    refine ⟨_, _, _, _, _, _, by rw [befV, if_pos h], by rw [befV, if_pos h'], h', .inl ⟨rfl, rfl, ?_⟩⟩
    have a1 := f1 0 (s.words.length - 1) (by omega) (by omega)
    have a2 := l1 0 (s.words.length - 1) (by omega) (by omega)
    have a3 := f2 0 (s.words.length - 1) (by omega) (by omega)
    have a4 := l2 0 (s.words.length - 1) (by omega) (by omega)
    have a5 := fl1 0 (by omega)
    have a6 := fl2 0 (by omega)
    have a7 := fl1 (s.words.length - 1) (by omega)
    have a8 := fl2 (s.words.length - 1) (by omega)
    refine ⟨fun hp => ?_, fun hp => ?_, fun hp => ?_, fun hx hy hp => ?_, fun hx hy hp => ?_⟩
    · simp only [decide_eq_true_eq] at hp ⊢; omega
    · simp only [decide_eq_true_eq, decide_eq_false_iff_not] at hp ⊢; omega
    · simp only [decide_eq_true_eq] at hp
      rw [bSure, if_pos h', idsL]
      refine sortL_nil ?_
      rw [List.map_eq_nil_iff, List.filter_eq_nil_iff]
      intro a ha hab
      obtain ⟨e1, e2, e3, -, -⟩ := (err_alts (errCopy_ok g1).1).1 a ha
      have b1 := l2 0 a.to.toNat (by omega) (by omega)
      have b2 := f1 a.to.toNat (s.words.length - 1) (by omega) (by omega)
      simp only [bef, Bool.and_eq_true, Bool.not_eq_true', decide_eq_false_iff_not, decide_eq_true_eq] at hab
      omega
    · simp only [decide_eq_true_eq] at hp
      obtain ⟨-, k1, k2⟩ := fits_ends hx
      obtain ⟨-, k3, k4⟩ := fits_ends hy
      have b1 := k2 (s.words.length - 1) (by omega)
      have b2 := k4 0 (by omega)
      rw [k1]; omega
    · obtain ⟨-, k1, k2⟩ := fits_ends hx
      obtain ⟨-, k3, k4⟩ := fits_ends hy
      have b1 := k2 (s.words.length - 1) (by omega)
      have b2 := k4 0 (by omega)
      rw [k1] at hp
      simp only [decide_eq_true_eq]; omega
  · have h' : ¬ errExts s d c = 0 := by rw [errExts_iff] at h ⊢; exact fun h9 => h ⟨h9.2, h9.1⟩
    exact ⟨_, _, _, _, _, _, by rw [befV, if_neg h], by rw [befV, if_neg h'], rfl, .inr ⟨h, h', rfl, rfl⟩⟩
end Go.Proofs.Try
namespace Go.Proofs.Try
open Go Go.Am Go.RowKit Go.Co

/-! What lies surely between two copies: pure. -/
theorem idsL_mem {s : Sheet} {acc : Alt → Bool} {i : Int} : i ∈ idsL s acc ↔ ∃ a, a ∈ s.alts ∧ acc a = true ∧ a.id = i := by
  rw [idsL, sortL_mem, List.mem_map]
  constructor
  · rintro ⟨a, h1, h2⟩
    rw [List.mem_filter] at h1
    exact ⟨a, h1.1, h1.2, h2⟩
  · rintro ⟨a, h1, h2, h3⟩
    exact ⟨a, List.mem_filter.2 ⟨h1, h2⟩, h3⟩
theorem alts_id {s : Sheet} (h : err s = 0) {a b : Alt} (ha : a ∈ s.alts) (hb : b ∈ s.alts) (hi : a.id = b.id) : a = b := by
  have hn := (err_alts h).2
  have key : ∀ (l : List Alt), (l.map Alt.id).Nodup → a ∈ l → b ∈ l → a = b := by
    intro l
    induction l with
    | nil => intro _ h; cases h
    | cons x t ih =>
      intro hd h1 h2
      rw [List.map_cons, List.nodup_cons] at hd
      rcases List.mem_cons.1 h1 with rfl | h1'
      · rcases List.mem_cons.1 h2 with rfl | h2'
        · rfl
        · exact absurd (List.mem_map.2 ⟨b, h2', hi.symm⟩) hd.1
      · rcases List.mem_cons.1 h2 with rfl | h2'
        · exact absurd (List.mem_map.2 ⟨a, h1', hi⟩) hd.1
        · exact ih hd.2 h1' h2'
  exact key _ hn ha hb
/-- A change is in a list of changes just if it is one of them. -/
theorem idsL_of {s : Sheet} (h : err s = 0) {acc : Alt → Bool} {a : Alt} (ha : a ∈ s.alts) : a.id ∈ idsL s acc ↔ acc a = true := by
  rw [idsL_mem]
  constructor
  · rintro ⟨b, h1, h2, h3⟩
    rw [alts_id h ha h1 h3.symm]; exact h2
  · exact fun h1 => ⟨a, ha, h1, rfl⟩
structure FollowOk (s : Sheet) (c d : Copy) (a : Alt) (k : Nat) : Prop where
  to : a.to = k
  lt : k < s.words.length
  days : (lastL s c).getD k 0 < (firstL s d).getD k 0
  may : a.id ∈ bMay s c d
  before : a.id ∈ sureL s d
  own : ¬ a.id ∈ sureL s c
  back : ∀ b, b ∈ s.alts → b.to = a.to → ¬ b.id ∈ bSure s d c
theorem follow_ok {s : Sheet} {c d : Copy} (h : errExts s c d = 0) {a : Alt} (ha : a ∈ s.alts) (hs : a.id ∈ bSure s c d) : ∃ k, FollowOk s c d a k := by
  have h' : errExts s d c = 0 := by rw [errExts_iff] at h ⊢; exact ⟨h.2, h.1⟩
  obtain ⟨h1, h2⟩ := errExts_iff.1 h
  obtain ⟨-, -, fl1⟩ := ends_ok h1
  obtain ⟨-, -, fl2⟩ := ends_ok h2
  obtain ⟨g1, -⟩ := ends_n h1
  have he := (errCopy_ok g1).1
  obtain ⟨t1, t2, t3, -, -⟩ := (err_alts he).1 a ha
  rw [bSure, if_pos h, idsL_of he ha] at hs
  simp only [bef, Bool.and_eq_true, Bool.not_eq_true', decide_eq_false_iff_not, decide_eq_true_eq] at hs
  have b1 := fl1 a.to.toNat (by omega)
  have b2 := fl2 a.to.toNat (by omega)
  refine ⟨a.to.toNat, by omega, by omega, by omega, ?_, ?_, ?_, fun b hb hbt hbs => ?_⟩
  · rw [bMay, if_pos h, idsL_of he ha]
    simp only [bef, Bool.and_eq_true, Bool.not_eq_true', decide_eq_false_iff_not, decide_eq_true_eq]; omega
  · rw [sureL, if_pos h2, idsL_of he ha]
    simp only [bef, decide_eq_true_eq]; omega
  · rw [sureL, if_pos h1, idsL_of he ha]
    simp only [bef, decide_eq_true_eq]; omega
  · rw [bSure, if_pos h', idsL_of he hb] at hbs
    simp only [bef, Bool.and_eq_true, Bool.not_eq_true', decide_eq_false_iff_not, decide_eq_true_eq, hbt] at hbs
    omega
end Go.Proofs.Try
namespace Go.Proofs.Try
open Go Go.Am Go.RowKit
set_option maxRecDepth 100000

/-! Truth values compared. -/
section
variable {H : AHeap} {ev : Operand → Value} {dst : Option Tmp} {ty t' : TypeId} {src : String} {af : Array Edge} {g : Option (Nat × Bool)} {x y : Operand}
theorem eqlF4 (x y : Operand) (a b : Bool) : pureOf Try.prog (do eqGuard .eql 4 x y (.bool a) (.bool b); binOp .eql 4 (.bool a) (.bool b)) = some (.bool (a == b)) := by
  rw [pureOf_bind, show pureOf Try.prog (eqGuard .eql 4 x y (.bool a) (.bool b)) = some () by kernel_rfl]
  dsimp only [Option.bind]
  rw [show binOp .eql 4 (.bool a) (.bool b) = (do pure (.bool (← Op.equal 4 (.bool a) (.bool b)))) from rfl]
  rw [pureOf_bind, show Op.equal 4 (.bool a) (.bool b) = Op.equalIn (9999 + 1) 4 (.bool a) (.bool b) from rfl, pEq4]
  rfl
theorem eqlB_k {kp : Value → AHeap → Option Prop} {a b : Bool} (hx : ev x = .bool a) (hy : ev y = .bool b) (h : Holds (kp (.bool (a == b)) H)) : Holds (aPlain Try.prog ⟨dst, .binOp .eql 4 x y t', ty, src, af, g⟩ ev H kp) := by
  have hr : pureOf Try.prog (execOp ev ⟨dst, .binOp .eql 4 x y t', ty, src, af, g⟩) = some (.value (.bool (a == b))) := by
    have h0 : execOp ev ⟨dst, .binOp .eql 4 x y t', ty, src, af, g⟩ = (do pure (.value (← (do eqGuard .eql 4 x y (ev x) (ev y); binOp .eql 4 (ev x) (ev y))))) := rfl
    rw [h0, hx, hy, pureOf_bind, eqlF4]; rfl
  rw [plain_of rfl, hr]
  have ho : (Op.binOp .eql 4 x y t').operands.toList.all (fun x => plainV 6 (ev x)) = true := by
    show (#[x, y].toList.all fun x => plainV 6 (ev x)) = _
    simp [hx, hy]; exact ⟨rfl, rfl⟩
  rw [if_pos ho]; exact h
@[go_sem] theorem aBin_boolE {β : Type} {kk : K β} {other : Unit → Option β} {t : TypeId} {a b : Bool} : aBin Try.prog .eql t (.bool a) (.bool b) H kk other = other () := by
  have h : nilEq Try.prog t (.bool a) (.bool b) = none := by
    unfold nilEq
    split <;> simp_all
  simp only [aBin, aEq, h]
end
end Go.Proofs.Try
namespace Go.Proofs.Try
open Go Go.Am Go.RowKit Go.Co
set_option maxRecDepth 100000

/-! The law StateFollows. -/
theorem few_alts {s : Sheet} (hf : fewB s = true) (h : err s = 0) : s.alts.length ≤ 12 := by
  have := (err_ok h).2.2.2
  simp only [fewB, Bool.and_eq_true, Bool.or_eq_true, decide_eq_true_eq] at hf
  omega
theorem fewX {s : Sheet} {c d : Copy} (hf : fewB s = true) (h : errExts s c d = 0) : s.alts.length ≤ 12 := few_alts hf (errCopy_ok (ends_n (errExts_ok h).1).1).1
theorem fewY {s : Sheet} {c : Copy} (hf : fewB s = true) (h : errExt s c = 0) : s.alts.length ≤ 12 := few_alts hf (errCopy_ok (ends_n h).1).1

set_option maxHeartbeats 8000000 in
theorem law16 {H : AHeap} {sv cv dv : Value} {s : Sheet} {c d : Copy} (hv : SheetV H sv s) (hc : CopyV H cv c) (hdv : CopyV H dv d) : CallS Try.prog [] 16 [sv, cv, dv] H fun r _ => r = .bool true := by
  have HV := Lib.hid hv
  have HC := Lib.hid hc
  have HD := Lib.hid hdv
  obtain ⟨wv, av, rfl, hw, ha⟩ := hv
  obtain ⟨hwl, wa, wc, rfl⟩ := hw.slice
  obtain ⟨hal, aa, ac, rfl⟩ := ha.slice
  have HA := Lib.hid ha
  obtain ⟨cv, rfl, hcw⟩ := hc
  obtain ⟨hcl, ca, cc, rfl⟩ := hcw.slice
  obtain ⟨dv, rfl, hdw⟩ := hdv
  obtain ⟨hdl, da, dc, rfl⟩ := hdw.slice
  clear hw ha hcw hdw
  have HB1 := Lib.hid (fun (loops : List (Nat × LInfo)) (H' : AHeap) (hx : Ext H H') (hf : fewB s = true) => between_e (loops := loops) (HV.out.ext hx) (HC.out.ext hx) (HD.out.ext hx) (fun h => fewX hf h))
  have HB2 := Lib.hid (fun (loops : List (Nat × LInfo)) (H' : AHeap) (hx : Ext H H') (hf : fewB s = true) => between_e (loops := loops) (HV.out.ext hx) (HD.out.ext hx) (HC.out.ext hx) (fun h => fewX hf h))
  have HL1 := Lib.hid (fun (loops : List (Nat × LInfo)) (H' : AHeap) (hx : Ext H H') => last_e (loops := loops) (HV.out.ext hx) (HC.out.ext hx))
  have HF2 := Lib.hid (fun (loops : List (Nat × LInfo)) (H' : AHeap) (hx : Ext H H') => first_e (loops := loops) (HV.out.ext hx) (HD.out.ext hx))
  have HS2 := Lib.hid (fun (loops : List (Nat × LInfo)) (H' : AHeap) (hx : Ext H H') (hf : fewB s = true) => seen_e (loops := loops) (HV.out.ext hx) (HD.out.ext hx) (fun h => fewY hf h))
  have HS1 := Lib.hid (fun (loops : List (Nat × LInfo)) (H' : AHeap) (hx : Ext H H') (hf : fewB s = true) => seen_e (loops := loops) (HV.out.ext hx) (HC.out.ext hx) (fun h => fewY hf h))
  have HIFF : Hid (errExts s c d = 0 ↔ errExts s d c = 0) := Lib.hid (by rw [errExts_iff, errExts_iff]; exact And.comm)
  have HEE : Hid (errExts s c d = 0 → errExt s c = 0 ∧ errExt s d = 0) := Lib.hid errExts_ok
  have HLEN : Hid (errExts s c d = 0 → (lastL s c).length = s.words.length ∧ (firstL s d).length = s.words.length) := Lib.hid (fun h => ⟨(ends_n (errExts_ok h).1).2.2.2.2.2.1, (ends_n (errExts_ok h).2).2.2.2.2.1⟩)
  have HFO : Hid (errExts s c d = 0 → ∀ a, a ∈ s.alts → a.id ∈ bSure s c d → ∃ k, FollowOk s c d a k) := Lib.hid (fun h a ha hs => follow_ok h ha hs)
  generalize hfw : fewB s = fw at HB1 HB2 HS1 HS2
  have HFW := Lib.hid hfw
  generalize errExts s c d = e at HB1 HIFF HEE HLEN HFO
  generalize errExts s d c = e2 at HB2 HIFF
  generalize errExt s c = k1 at HL1 HS1 HEE
  generalize errExt s d = k2 at HF2 HS2 HEE
  clear hfw
  have HX1 : Hid (Ext H (((H.push (.row [Value.slice wa s.words.length wc, Value.slice aa s.alts.length ac] 25)).push (.row [Value.slice ca c.words.length cc, .int .i64 c.beg, .int .i64 c.fin, .int .i64 c.per] 27)).push (.row [Value.slice da d.words.length dc, .int .i64 d.beg, .int .i64 d.fin, .int .i64 d.per] 27))) := Lib.hid ((((Ext.refl _).push' _).push' _).push' _)
  have HCELLS : Hid (∀ H' : AHeap, Ext (((H.push (.row [Value.slice wa s.words.length wc, Value.slice aa s.alts.length ac] 25)).push (.row [Value.slice ca c.words.length cc, .int .i64 c.beg, .int .i64 c.fin, .int .i64 c.per] 27)).push (.row [Value.slice da d.words.length dc, .int .i64 d.beg, .int .i64 d.fin, .int .i64 d.per] 27)) H' → cellsAt H' H.n 0 2 = some [Value.slice wa s.words.length wc, Value.slice aa s.alts.length ac] ∧ cellsAt H' (H.n + 1) 0 4 = some [Value.slice ca c.words.length cc, .int .i64 c.beg, .int .i64 c.fin, .int .i64 c.per] ∧ cellsAt H' (H.n + 1 + 1) 0 4 = some [Value.slice da d.words.length dc, .int .i64 d.beg, .int .i64 d.fin, .int .i64 d.per] ∧ H.n + 1 + 1 < H'.n ∧ cellAt H' H.n 1 = some (Value.slice aa s.alts.length ac)) := Lib.hid (fun H' hx => by
    refine ⟨?_, ?_, ?_, ?_, ?_⟩
    · rw [hx.cellsAt (by simp only [AHeap.n_push]; omega), cellsAt_push, if_neg (by simp only [AHeap.n_push]; omega), cellsAt_push, if_neg (by simp only [AHeap.n_push]; omega), cellsAt_push, if_pos rfl]; rfl
    · rw [hx.cellsAt (by simp only [AHeap.n_push]; omega), cellsAt_push, if_neg (by simp only [AHeap.n_push]; omega), cellsAt_push, if_pos (by simp only [AHeap.n_push])]; rfl
    · rw [hx.cellsAt (by simp only [AHeap.n_push]; omega), cellsAt_push, if_pos (by simp only [AHeap.n_push])]; rfl
    · have := hx.n; simp only [AHeap.n_push] at this; omega
    · rw [hx.cellAt (by simp only [AHeap.n_push]; omega), cellAt_push, if_neg (by simp only [AHeap.n_push]; omega), cellAt_push, if_neg (by simp only [AHeap.n_push]; omega), cellAt_push, if_pos rfl]; rfl)
  refine CallS.enter' Try.func16 rfl Try.ntmps16 (by simp) fun f hd hf => ?_
  have f0 := hf 0
  have f1 := hf 1
  have f2 := hf 2
  simp at f0 f1 f2
  clear hf
  by_cases he : e = 0
  · have he2 : e2 = 0 := HIFF.out.1 he
    obtain ⟨hk1, hk2⟩ := HEE.out he
    obtain ⟨hln1, hln2⟩ := HLEN.out he
    have HFO2 := Lib.hid (HFO.out he)
    have HN1 := Lib.hid hln1
    have HN2 := Lib.hid hln2
    subst hk1 hk2 he he2
    clear hln1 hln2 HFO HLEN HEE HIFF
    generalize hq1 : lastL s c = L1 at HL1 HN1
    generalize hq2 : firstL s d = F2 at HF2 HN2
    have HQ1 := Lib.hid hq1
    have HQ2 := Lib.hid hq2
    clear hq1 hq2
    repeat' (first|(with_reducible first|refine zA ?_|refine zB fun K hK=>?_|refine zC fun K2 hK2=>?_|refine zD ?_|refine zE ?_|refine zF ?_|refine zG ?_|refine zH ?_|refine zI ?_|refine zJ ?_|refine zK ?_|refine zL ?_|refine zM ?_|refine zN ?_|refine zO ?_|refine zP ?_|refine zQ ?_|refine zR ?_|refine zS ?_|refine zT ?_)|((with_reducible refine zU (hK _ _ ?_));clear hK K)|((with_reducible refine zV ?_ ?_ fun K1 K3 d hdst h1 h3=>?_);rfl;exact yB rfl;cases hdst;go_simp)|((with_reducible refine zW fun K1 K3 h1 h3=>?_);go_simp)|((first|refine h1 ?_|refine h3 ?_);clear h1 h3 K1 K3)|((first|refine zX (fun hb=>h1 ?_) (fun hb=>h3 ?_)|refine zX (fun hb=>h3 ?_) (fun hb=>h1 ?_))<;>(clear h1 h3 K1 K3;(try have hb2:=yC hb);(try have hb2:=yD hb);(try have hb2:=yE hb);(try have hb2:=yF hb);(try have hb2:=yG hb)))|(refine fun (K2:_→AHeap→Prop) hK2=>?_)|((with_reducible refine zY ?_ ?_);decide)|((with_reducible first|refine zZ ?_ (fun K hK=>?_)|refine yA ?_ (fun K hK=>?_));(focus go_simp;done);go_simp;refine hK _ _ ?_;clear hK K)|(go_simp;(try go_bits);(try first | ((with_reducible show CallS _ _ _ _ _ _);refine CallS.mono head_s ?_; rintro _ _ ⟨rfl, h9⟩; rw [h9]; clear h9; go_simp) | ((with_reducible show CallS _ _ _ _ _ _);refine CallS.mono (few_s (s := s) (HV.out.ext HX1.out)) ?_; rintro _ _ ⟨rfl, h9⟩; rw [h9, HFW.out]; clear h9; go_simp) | ((with_reducible show CallS _ _ _ _ _ _);refine CallS.mono (brief_s (c := c) (HC.out.ext HX1.out)) ?_; rintro _ _ ⟨rfl, h9⟩; rw [h9]; clear h9; go_simp) | ((with_reducible show CallS _ _ _ _ _ _);refine CallS.mono (brief_s (c := d) (HD.out.ext HX1.out)) ?_; rintro _ _ ⟨rfl, h9⟩; rw [h9]; clear h9; go_simp) | ((with_reducible show CallS _ _ _ _ _ _);refine CallS.mono (HB1.out _ _ HX1.out (by simpa using ‹(!fw) = false›)) ?_; rintro _ H2 ⟨⟨bv, mv, rfl, hi1, hi2⟩, hx⟩; (have HI1 := Lib.hid hi1); (have HI2 := Lib.hid hi2); (have HZ2 := Lib.hid hx); (obtain ⟨ck0, ck1, ck2, ck3, -⟩ := HCELLS.out _ hx); clear hi1 hi2 hx) | ((with_reducible show CallS _ _ _ _ _ _);refine CallS.mono (HB2.out _ _ (HX1.out.trans HZ2.out) (by simpa using ‹(!fw) = false›)) ?_; rintro _ H3 ⟨⟨kv, nv, rfl, hi1, -⟩, hx⟩; (have HJ1 := Lib.hid hi1); (have HY3 := Lib.hid hx); (have HZ3 := Lib.hid (HZ2.out.trans hx)); (obtain ⟨dk0, dk1, dk2, dk3, -⟩ := HCELLS.out _ HZ3.out); clear hi1 hx) | ((with_reducible show CallS _ _ _ _ _ _);refine CallS.mono (HL1.out _ _ (HX1.out.trans HZ3.out)) ?_; rintro _ H4 ⟨⟨lv, rfl, hi1⟩, hx⟩; (have HLV := Lib.hid hi1); (have HY4 := Lib.hid (HY3.out.trans hx)); (have HW4 := Lib.hid hx); (have HZ4 := Lib.hid (HZ3.out.trans hx)); (obtain ⟨ek0, ek1, ek2, ek3, -⟩ := HCELLS.out _ HZ4.out); clear hi1 hx) | ((with_reducible show CallS _ _ _ _ _ _);refine CallS.mono (HF2.out _ _ (HX1.out.trans HZ4.out)) ?_; rintro _ H5 ⟨⟨fv, rfl, hi1⟩, hx⟩; (have HFV := Lib.hid hi1); (have HLV5 := Lib.hid (HLV.out.ext hx)); (have HY5 := Lib.hid (HY4.out.trans hx)); (have HW5 := Lib.hid (HW4.out.trans hx)); (have HZ5 := Lib.hid (HZ4.out.trans hx)); (obtain ⟨gk0, gk1, gk2, gk3, -⟩ := HCELLS.out _ HZ5.out); clear hi1 hx) | ((with_reducible show CallS _ _ _ _ _ _);refine CallS.mono (HS2.out _ _ (HX1.out.trans HZ5.out) (by simpa using ‹(!fw) = false›)) ?_; rintro _ H6 ⟨⟨pv, qv, rfl, hi1, -⟩, hx⟩; (have HPV := Lib.hid hi1); (have HFV6 := Lib.hid (HFV.out.ext hx)); (have HLV6 := Lib.hid (HLV5.out.ext hx)); (have HY6 := Lib.hid (HY5.out.trans hx)); (have HW6 := Lib.hid (HW5.out.trans hx)); (have HZ6 := Lib.hid (HZ5.out.trans hx)); (obtain ⟨ik0, ik1, ik2, ik3, -⟩ := HCELLS.out _ HZ6.out); clear hi1 hx) | ((with_reducible show CallS _ _ _ _ _ _);refine CallS.mono (HS1.out _ _ (HX1.out.trans HZ6.out) (by simpa using ‹(!fw) = false›)) ?_; rintro _ H7 ⟨⟨ov, rv, rfl, hi1, -⟩, hx⟩; (have HOV := Lib.hid hi1); (have HPV7 := Lib.hid (HPV.out.ext hx)); (have HFV7 := Lib.hid (HFV6.out.ext hx)); (have HLV7 := Lib.hid (HLV6.out.ext hx)); (have HI17 := Lib.hid ((HI1.out.ext HY6.out).ext hx)); (have HI27 := Lib.hid ((HI2.out.ext HY6.out).ext hx)); (have HJ17 := Lib.hid ((HJ1.out.ext HW6.out).ext hx)); (have HZ7 := Lib.hid (HZ6.out.trans hx)); (obtain ⟨jk0, jk1, jk2, jk3, jk4⟩ := HCELLS.out _ HZ7.out); clear hi1 hx));refine hK2 _ _ ?_;clear hK2 K2))
    all_goals try rfl
    obtain ⟨-, ba, bc, rfl⟩ := HI17.out.slice
    obtain ⟨-, ma, mc, rfl⟩ := HI27.out.slice
    obtain ⟨-, ka, kc, rfl⟩ := HJ17.out.slice
    obtain ⟨-, la, lc, rfl⟩ := HLV7.out.slice
    obtain ⟨-, fa, fc, rfl⟩ := HFV7.out.slice
    obtain ⟨-, pa, pc, rfl⟩ := HPV7.out.slice
    obtain ⟨-, oa, oc, rfl⟩ := HOV.out.slice
    refine CodeS.loop (fun m f H' => ∃ k : Nat, k ≤ s.alts.length ∧ m = s.alts.length - k ∧ f.tmp 24 = .int .i64 k ∧ f.tmp 3 = .pointer (some ⟨H.n, 0, none⟩) ∧ f.tmp 7 = .bool true ∧ f.tmp 8 = .slice ba (bSure s c d).length bc ∧ f.tmp 9 = .slice ma (bMay s c d).length mc ∧ f.tmp 11 = .slice ka (bSure s d c).length kc ∧ f.tmp 14 = .slice la L1.length lc ∧ f.tmp 16 = .slice fa F2.length fc ∧ f.tmp 18 = .slice pa (sureL s d).length pc ∧ f.tmp 21 = .slice oa (sureL s c).length oc ∧ f.defers = [] ∧ Hid (Ext H7 H')) s.alts.length ?_ ?_
    · exact ⟨0, by simp, by simp, (by first|(go_simp;done)|(go_simp;go_num;done)|assumption), (by first|(go_simp;done)|(go_simp;go_num;done)|assumption), (by first|(go_simp;done)|(go_simp;go_num;done)|assumption), (by first|(go_simp;done)|(go_simp;go_num;done)|assumption), (by first|(go_simp;done)|(go_simp;go_num;done)|assumption), (by first|(go_simp;done)|(go_simp;go_num;done)|assumption), (by first|(go_simp;done)|(go_simp;go_num;done)|assumption), (by first|(go_simp;done)|(go_simp;go_num;done)|assumption), (by first|(go_simp;done)|(go_simp;go_num;done)|assumption), (by first|(go_simp;done)|(go_simp;go_num;done)|assumption), (by first|(go_simp;done)|(go_simp;go_num;done)|assumption), Lib.hid (Ext.refl _)⟩
    clear f0 f1 f2 hd f
    rintro m f H' ⟨k, hk, rfl, f24, f3, f7, f8, f9, f11, f14, f16, f18, f21, hd, HX⟩
    have hX := HX.out
    have hn0 : H.n < H7.n := by omega
    have hn1 : H.n < H'.n := by have := hX.n; omega
    have hc1 : cellAt H' H.n 1 = some (Value.slice aa s.alts.length ac) := (hX.cellAt hn0).trans jk4
    have HAA := Lib.hid (HA.out.ext (HX1.out.trans (HZ7.out.trans hX)))
    clear hX ck0 ck1 ck2 ck3 dk0 dk1 dk2 dk3 ek0 ek1 ek2 ek3 gk0 gk1 gk2 gk3 ik0 ik1 ik2 ik3 jk0 jk1 jk2 jk3 jk4
    by_cases hlt : k < s.alts.length
    · obtain ⟨b, o, sp, haa, hb, hx6, -⟩ := HAA.out.at_ hlt
      have hm : s.alts[k] ∈ s.alts := List.getElem_mem hlt
      have HMA := Lib.hid hm
      have hfo := HFO2.out _ hm
      have HFK := Lib.hid hfo
      clear hfo
      generalize s.alts[k] = a at hx6 HFK HMA hm
      clear hm
      obtain ⟨i1, i2, i3, i4, i5, i6⟩ := a
      have hx6' : cellsAt H' b (o + k * 6) 6 = some [.int .i64 i1, .int .i64 i2, .int .i64 i3, .int .i64 i4, .int .i64 i5, .int .i64 i6] := hx6
      clear hx6
      subst haa
      have hbn : b < H'.n := hb
      by_cases hin : i1 ∈ bSure s c d
      · obtain ⟨t, hto, htl, htd, htm, htb, htw, htk⟩ := HFK.out hin
        have hto' : i5 = (t : Int) := hto
        subst hto'
        rw [HQ1.out, HQ2.out] at htd
        have HTK := Lib.hid htk
        have hl1 : t < L1.length := by rw [HN1.out]; exact htl
        have hl2 : t < F2.length := by rw [HN2.out]; exact htl
        obtain ⟨lb, lo, ls, rfl, hlb, hlx⟩ := (HLV7.out.ext HX.out).at_ hl1
        obtain ⟨fb, fo, fs, rfl, hfb, hfx⟩ := (HFV7.out.ext HX.out).at_ hl2
        have hy1 : L1.getD t 0 = L1[t] := by simp [List.getD_eq_getElem?_getD, hl1]
        have hy2 : F2.getD t 0 = F2[t] := by simp [List.getD_eq_getElem?_getD, hl2]
        rw [hy1, hy2] at htd
        generalize L1[t] = y1 at htd hlx
        generalize F2[t] = y2 at htd hfx
        have hz0 : ¬ ((t : Int) < 0) := by omega
        have hz0' : (0 : Int) ≤ (t : Int) := by omega
        have hz1 : (t : Int) < (L1.length : Nat) := by omega
        have hz2 : (t : Int) < (F2.length : Nat) := by omega
        have hz3 : ¬ ((F2.length : Nat) ≤ (t : Int)) := by omega
        have hz4 : ¬ ((L1.length : Nat) ≤ (t : Int)) := by omega
        have hz5 : ¬ (y2 ≤ y1) := by omega
        have HHS := Lib.hid (fun (loops : List (Nat × LInfo)) (H2 : AHeap) (hx : Ext H' H2) => has_s (loops := loops) (w := i1) (HI17.out.ext (HX.out.trans hx)))
        have HHM := Lib.hid (fun (loops : List (Nat × LInfo)) (H2 : AHeap) (hx : Ext H' H2) => has_s (loops := loops) (w := i1) (HI27.out.ext (HX.out.trans hx)))
        have HHP := Lib.hid (fun (loops : List (Nat × LInfo)) (H2 : AHeap) (hx : Ext H' H2) => has_s (loops := loops) (w := i1) (HPV7.out.ext (HX.out.trans hx)))
        have HHO := Lib.hid (fun (loops : List (Nat × LInfo)) (H2 : AHeap) (hx : Ext H' H2) => has_s (loops := loops) (w := i1) (HOV.out.ext (HX.out.trans hx)))
        rw [decide_eq_true hin] at HHS
        rw [decide_eq_true htm] at HHM
        rw [decide_eq_true htb] at HHP
        rw [decide_eq_false htw] at HHO
        clear hto htl htm htb htw htk hy1 hy2 hin
        repeat' (first|(with_reducible first|refine zA ?_|refine zB fun K hK=>?_|refine zC fun K2 hK2=>?_|refine zD ?_|refine zE ?_|refine zF ?_|refine zG ?_|refine zH ?_|refine zI ?_|refine zJ ?_|refine zK ?_|refine zL ?_|refine zM ?_|refine zN ?_|refine zO ?_|refine zP ?_|refine zQ ?_|refine zR ?_|refine zS ?_|refine zT ?_)|((with_reducible refine zU (hK _ _ ?_));clear hK K)|((with_reducible refine zV ?_ ?_ fun K1 K3 d hdst h1 h3=>?_);rfl;exact yB rfl;cases hdst;go_simp)|((with_reducible refine zW fun K1 K3 h1 h3=>?_);go_simp)|((first|refine h1 ?_|refine h3 ?_);clear h1 h3 K1 K3)|((first|refine zX (fun hb=>h1 ?_) (fun hb=>h3 ?_)|refine zX (fun hb=>h3 ?_) (fun hb=>h1 ?_))<;>(clear h1 h3 K1 K3;(try have hb2:=yC hb);(try have hb2:=yD hb);(try have hb2:=yE hb);(try have hb2:=yF hb);(try have hb2:=yG hb)))|(refine fun (K2:_→AHeap→Prop) hK2=>?_)|((with_reducible refine zY ?_ ?_);decide)|((with_reducible first|refine zZ ?_ (fun K hK=>?_)|refine yA ?_ (fun K hK=>?_));(focus go_simp;done);go_simp;refine hK _ _ ?_;clear hK K)|((with_reducible refine yH mixed rfl ?_ 20 fun K0 hK0=>?_);kernel_rfl)|(with_reducible first|exact yI|exact yJ|refine yK ?_|refine yL ?_|refine yM ?_)|((with_reducible first|refine yN ?_ ?_|refine yO ?_ ?_|refine yP ?_ ?_);rfl)|((with_reducible refine yQ ?_ ?_);rfl;refine hK0 _ _ ?_;clear hK0 K0)|((with_reducible refine yR ?_ ?_ ?_ ?_);rfl;rfl;rfl)|((with_reducible refine yS ?_ ?_ ?_ fun K2 hK2=>?_);rfl;rfl;exact yB rfl)|((with_reducible refine yT ?_ ?_ ?_ ?_ fun K1 K3 d hdst h1 h3=>?_);rfl;rfl;rfl;exact yB rfl;cases hdst;go_simp)|((with_reducible refine yU ?_ ?_ ?_ ?_ fun K1 K3 d hdst h1 h3=>?_);rfl;rfl;rfl;exact yB rfl;cases hdst;go_simp)|((with_reducible refine yV ?_ ?_ (fun K2 hK2=>?_) ?_);rfl;exact yB rfl)|((with_reducible refine yW ?_ ?_ ?_ ?_ (fun K2 hK2=>?_) ?_);rfl;exact yB rfl;rfl;(focus go_simp;done))|((with_reducible refine yX ?_ ?_ ?_ (fun K2 hK2=>?_) ?_);rfl;rfl;exact yB rfl)|((with_reducible refine yY ?_ ?_ (fun K2 hK2=>?_) ?_);rfl;rfl)|((with_reducible refine yZ ?_ ?_);(first|rfl|(dsimp only;decide +kernel)))|((with_reducible refine xA ?_ ?_);(focus go_simp;done))|(go_simp;(try go_bits);(try first | ((with_reducible show CallS _ _ _ _ _ _);refine CallS.mono (HHS.out _ _ (Ext.push _)) ?_; rintro _ _ ⟨rfl, h9⟩; rw [h9]; clear h9; go_simp) | ((with_reducible show CallS _ _ _ _ _ _);refine CallS.mono (HHM.out _ _ (Ext.push _)) ?_; rintro _ _ ⟨rfl, h9⟩; rw [h9]; clear h9; go_simp) | ((with_reducible show CallS _ _ _ _ _ _);refine CallS.mono (HHP.out _ _ (Ext.push _)) ?_; rintro _ _ ⟨rfl, h9⟩; rw [h9]; clear h9; go_simp) | ((with_reducible show CallS _ _ _ _ _ _);refine CallS.mono (HHO.out _ _ (Ext.push _)) ?_; rintro _ _ ⟨rfl, h9⟩; rw [h9]; clear h9; go_simp));(first|(refine hK2 _ _ ?_ ?_<;>clear hK2 K2)|(refine hK2 _ _ ?_;clear hK2 K2))))
        obtain ⟨H8, hH8⟩ : ∃ H8, H8 = H'.push (.row [.int .i64 i1, .int .i64 i2, .int .i64 i3, .int .i64 i4, .int .i64 t, .int .i64 i6] 61) := ⟨_, rfl⟩
        rw [← hH8]
        have HX8 : Hid (Ext H' H8) := Lib.hid (by rw [hH8]; exact Ext.push _)
        have hx4 : cellAt H8 H'.n 4 = some (.int .i64 t) := by rw [hH8, cellAt_new]; rfl
        have hn8 : H'.n < H8.n := by rw [hH8, AHeap.n_push]; omega
        have hc18 : cellAt H8 H.n 1 = some (Value.slice (some ⟨b, o, sp⟩) s.alts.length ac) := (HX8.out.cellAt hn1).trans hc1
        have hn18 : H.n < H8.n := by omega
        refine CodeS.loop (fun m f H9 => ∃ j : Nat, j ≤ s.alts.length ∧ m = s.alts.length - j ∧ f.tmp 26 = .int .i64 j ∧ f.tmp 25 = .pointer (some ⟨H'.n, 0, none⟩) ∧ f.tmp 24 = .int .i64 k ∧ f.tmp 3 = .pointer (some ⟨H.n, 0, none⟩) ∧ f.tmp 7 = .bool true ∧ f.tmp 8 = .slice ba (bSure s c d).length bc ∧ f.tmp 9 = .slice ma (bMay s c d).length mc ∧ f.tmp 11 = .slice ka (bSure s d c).length kc ∧ f.tmp 14 = .slice (some ⟨lb, lo, ls⟩) L1.length lc ∧ f.tmp 16 = .slice (some ⟨fb, fo, fs⟩) F2.length fc ∧ f.tmp 18 = .slice pa (sureL s d).length pc ∧ f.tmp 21 = .slice oa (sureL s c).length oc ∧ f.defers = [] ∧ H9 = H8) s.alts.length ?_ ?_
        · exact ⟨0, by simp, by simp, (by first|(go_simp;done)|(go_simp;go_num;done)|assumption), (by first|(go_simp;done)|(go_simp;go_num;done)|assumption), (by first|(go_simp;done)|(go_simp;go_num;done)|assumption), (by first|(go_simp;done)|(go_simp;go_num;done)|assumption), (by first|(go_simp;done)|(go_simp;go_num;done)|assumption), (by first|(go_simp;done)|(go_simp;go_num;done)|assumption), (by first|(go_simp;done)|(go_simp;go_num;done)|assumption), (by first|(go_simp;done)|(go_simp;go_num;done)|assumption), (by first|(go_simp;done)|(go_simp;go_num;done)|assumption), (by first|(go_simp;done)|(go_simp;go_num;done)|assumption), (by first|(go_simp;done)|(go_simp;go_num;done)|assumption), (by first|(go_simp;done)|(go_simp;go_num;done)|assumption), (by first|(go_simp;done)|(go_simp;go_num;done)|assumption), rfl⟩
        clear f24 f3 f7 f8 f9 f11 f14 f16 f18 f21 hd f hx6' hc1 hz0 hz1 hz2 hz3 hz4 hz5 hlx hfx hH8
        rintro m f H9 ⟨j, hj, rfl, f26, f25, f24, f3, f7, f8, f9, f11, f14, f16, f18, f21, hd, rfl⟩
        by_cases hjlt : j < s.alts.length
        · obtain ⟨b', o', sp', heq, hb', -, hx7⟩ := (HAA.out.ext HX8.out).at_ hjlt
          have hmj : s.alts[j] ∈ s.alts := List.getElem_mem hjlt
          have htkj := HTK.out _ hmj
          generalize s.alts[j] = a at hx7 htkj
          obtain ⟨j1, j2, j3, j4, j5, j6⟩ := a
          have hy0 : cellAt H9 b' (o' + j * 6) = some (.int .i64 j1) := hx7 0 (.int .i64 j1) rfl
          have hy4 := hx7 4 (.int .i64 j5) rfl
          cases heq
          have htk2 : j5 = (t : Int) → ¬ j1 ∈ bSure s d c := htkj
          have HH := Lib.hid (fun (loops : List (Nat × LInfo)) => has_s (loops := loops) (w := j1) (HJ17.out.ext (HX.out.trans HX8.out)))
          clear hx7 hmj htkj
          by_cases htt : j5 = (t : Int)
          · rw [decide_eq_false (htk2 htt)] at HH
            subst htt
            clear htk2
            repeat' (first|(with_reducible first|refine zA ?_|refine zB fun K hK=>?_|refine zC fun K2 hK2=>?_|refine zD ?_|refine zE ?_|refine zF ?_|refine zG ?_|refine zH ?_|refine zI ?_|refine zJ ?_|refine zK ?_|refine zL ?_|refine zM ?_|refine zN ?_|refine zO ?_|refine zP ?_|refine zQ ?_|refine zR ?_|refine zS ?_|refine zT ?_)|((with_reducible refine zU (hK _ _ ?_));clear hK K)|((with_reducible refine zV ?_ ?_ fun K1 K3 d hdst h1 h3=>?_);rfl;exact yB rfl;cases hdst;go_simp)|((with_reducible refine zW fun K1 K3 h1 h3=>?_);go_simp)|((first|refine h1 ?_|refine h3 ?_);clear h1 h3 K1 K3)|((first|refine zX (fun hb=>h1 ?_) (fun hb=>h3 ?_)|refine zX (fun hb=>h3 ?_) (fun hb=>h1 ?_))<;>(clear h1 h3 K1 K3;(try have hb2:=yC hb);(try have hb2:=yD hb);(try have hb2:=yE hb);(try have hb2:=yF hb);(try have hb2:=yG hb)))|(refine fun (K2:_→AHeap→Prop) hK2=>?_)|((with_reducible refine zY ?_ ?_);decide)|((with_reducible first|refine zZ ?_ (fun K hK=>?_)|refine yA ?_ (fun K hK=>?_));(focus go_simp;done);go_simp;refine hK _ _ ?_;clear hK K)|((with_reducible refine yH mixed rfl ?_ 20 fun K0 hK0=>?_);kernel_rfl)|(with_reducible first|exact yI|exact yJ|refine yK ?_|refine yL ?_|refine yM ?_)|((with_reducible first|refine yN ?_ ?_|refine yO ?_ ?_|refine yP ?_ ?_);rfl)|((with_reducible refine yQ ?_ ?_);rfl;refine hK0 _ _ ?_;clear hK0 K0)|((with_reducible refine yR ?_ ?_ ?_ ?_);rfl;rfl;rfl)|((with_reducible refine yS ?_ ?_ ?_ fun K2 hK2=>?_);rfl;rfl;exact yB rfl)|((with_reducible refine yT ?_ ?_ ?_ ?_ fun K1 K3 d hdst h1 h3=>?_);rfl;rfl;rfl;exact yB rfl;cases hdst;go_simp)|((with_reducible refine yU ?_ ?_ ?_ ?_ fun K1 K3 d hdst h1 h3=>?_);rfl;rfl;rfl;exact yB rfl;cases hdst;go_simp)|((with_reducible refine yV ?_ ?_ (fun K2 hK2=>?_) ?_);rfl;exact yB rfl)|((with_reducible refine yW ?_ ?_ ?_ ?_ (fun K2 hK2=>?_) ?_);rfl;exact yB rfl;rfl;(focus go_simp;done))|((with_reducible refine yX ?_ ?_ ?_ (fun K2 hK2=>?_) ?_);rfl;rfl;exact yB rfl)|((with_reducible refine yY ?_ ?_ (fun K2 hK2=>?_) ?_);rfl;rfl)|((with_reducible refine yZ ?_ ?_);(first|rfl|(dsimp only;decide +kernel)))|((with_reducible refine xA ?_ ?_);(focus go_simp;done))|(go_simp;(try go_bits);(try first | ((with_reducible show CallS _ _ _ _ _ _);refine CallS.mono (HH.out _) ?_; rintro _ _ ⟨rfl, h9⟩; rw [h9]; clear h9; go_simp));(first|(refine hK2 _ _ ?_ ?_<;>clear hK2 K2)|(refine hK2 _ _ ?_;clear hK2 K2))))
            exact Post.round_normal ⟨s.alts.length - (j + 1), by omega, j + 1, by omega, rfl, (by first|(go_simp;done)|(go_simp;go_num;done)|assumption), (by first|(go_simp;done)|(go_simp;go_num;done)|assumption), (by first|(go_simp;done)|(go_simp;go_num;done)|assumption), (by first|(go_simp;done)|(go_simp;go_num;done)|assumption), (by first|(go_simp;done)|(go_simp;go_num;done)|assumption), (by first|(go_simp;done)|(go_simp;go_num;done)|assumption), (by first|(go_simp;done)|(go_simp;go_num;done)|assumption), (by first|(go_simp;done)|(go_simp;go_num;done)|assumption), (by first|(go_simp;done)|(go_simp;go_num;done)|assumption), (by first|(go_simp;done)|(go_simp;go_num;done)|assumption), (by first|(go_simp;done)|(go_simp;go_num;done)|assumption), (by first|(go_simp;done)|(go_simp;go_num;done)|assumption), (by first|(go_simp;done)|(go_simp;go_num;done)|assumption), rfl⟩
          · have hne : (j5 == (t : Int)) = false := by simpa using htt
            clear htk2 htt
            repeat' (first|(with_reducible first|refine zA ?_|refine zB fun K hK=>?_|refine zC fun K2 hK2=>?_|refine zD ?_|refine zE ?_|refine zF ?_|refine zG ?_|refine zH ?_|refine zI ?_|refine zJ ?_|refine zK ?_|refine zL ?_|refine zM ?_|refine zN ?_|refine zO ?_|refine zP ?_|refine zQ ?_|refine zR ?_|refine zS ?_|refine zT ?_)|((with_reducible refine zU (hK _ _ ?_));clear hK K)|((with_reducible refine zV ?_ ?_ fun K1 K3 d hdst h1 h3=>?_);rfl;exact yB rfl;cases hdst;go_simp)|((with_reducible refine zW fun K1 K3 h1 h3=>?_);go_simp)|((first|refine h1 ?_|refine h3 ?_);clear h1 h3 K1 K3)|((first|refine zX (fun hb=>h1 ?_) (fun hb=>h3 ?_)|refine zX (fun hb=>h3 ?_) (fun hb=>h1 ?_))<;>(clear h1 h3 K1 K3;(try have hb2:=yC hb);(try have hb2:=yD hb);(try have hb2:=yE hb);(try have hb2:=yF hb);(try have hb2:=yG hb)))|(refine fun (K2:_→AHeap→Prop) hK2=>?_)|((with_reducible refine zY ?_ ?_);decide)|((with_reducible first|refine zZ ?_ (fun K hK=>?_)|refine yA ?_ (fun K hK=>?_));(focus go_simp;done);go_simp;refine hK _ _ ?_;clear hK K)|((with_reducible refine yH mixed rfl ?_ 20 fun K0 hK0=>?_);kernel_rfl)|(with_reducible first|exact yI|exact yJ|refine yK ?_|refine yL ?_|refine yM ?_)|((with_reducible first|refine yN ?_ ?_|refine yO ?_ ?_|refine yP ?_ ?_);rfl)|((with_reducible refine yQ ?_ ?_);rfl;refine hK0 _ _ ?_;clear hK0 K0)|((with_reducible refine yR ?_ ?_ ?_ ?_);rfl;rfl;rfl)|((with_reducible refine yS ?_ ?_ ?_ fun K2 hK2=>?_);rfl;rfl;exact yB rfl)|((with_reducible refine yT ?_ ?_ ?_ ?_ fun K1 K3 d hdst h1 h3=>?_);rfl;rfl;rfl;exact yB rfl;cases hdst;go_simp)|((with_reducible refine yU ?_ ?_ ?_ ?_ fun K1 K3 d hdst h1 h3=>?_);rfl;rfl;rfl;exact yB rfl;cases hdst;go_simp)|((with_reducible refine yV ?_ ?_ (fun K2 hK2=>?_) ?_);rfl;exact yB rfl)|((with_reducible refine yW ?_ ?_ ?_ ?_ (fun K2 hK2=>?_) ?_);rfl;exact yB rfl;rfl;(focus go_simp;done))|((with_reducible refine yX ?_ ?_ ?_ (fun K2 hK2=>?_) ?_);rfl;rfl;exact yB rfl)|((with_reducible refine yY ?_ ?_ (fun K2 hK2=>?_) ?_);rfl;rfl)|((with_reducible refine yZ ?_ ?_);(first|rfl|(dsimp only;decide +kernel)))|((with_reducible refine xA ?_ ?_);(focus go_simp;done))|(go_simp;(try go_bits);(first|(refine hK2 _ _ ?_ ?_<;>clear hK2 K2)|(refine hK2 _ _ ?_;clear hK2 K2))))
            exact Post.round_normal ⟨s.alts.length - (j + 1), by omega, j + 1, by omega, rfl, (by first|(go_simp;done)|(go_simp;go_num;done)|assumption), (by first|(go_simp;done)|(go_simp;go_num;done)|assumption), (by first|(go_simp;done)|(go_simp;go_num;done)|assumption), (by first|(go_simp;done)|(go_simp;go_num;done)|assumption), (by first|(go_simp;done)|(go_simp;go_num;done)|assumption), (by first|(go_simp;done)|(go_simp;go_num;done)|assumption), (by first|(go_simp;done)|(go_simp;go_num;done)|assumption), (by first|(go_simp;done)|(go_simp;go_num;done)|assumption), (by first|(go_simp;done)|(go_simp;go_num;done)|assumption), (by first|(go_simp;done)|(go_simp;go_num;done)|assumption), (by first|(go_simp;done)|(go_simp;go_num;done)|assumption), (by first|(go_simp;done)|(go_simp;go_num;done)|assumption), (by first|(go_simp;done)|(go_simp;go_num;done)|assumption), rfl⟩
        · repeat' (first|(with_reducible first|refine zA ?_|refine zB fun K hK=>?_|refine zC fun K2 hK2=>?_|refine zD ?_|refine zE ?_|refine zF ?_|refine zG ?_|refine zH ?_|refine zI ?_|refine zJ ?_|refine zK ?_|refine zL ?_|refine zM ?_|refine zN ?_|refine zO ?_|refine zP ?_|refine zQ ?_|refine zR ?_|refine zS ?_|refine zT ?_)|((with_reducible refine zU (hK _ _ ?_));clear hK K)|((with_reducible refine zV ?_ ?_ fun K1 K3 d hdst h1 h3=>?_);rfl;exact yB rfl;cases hdst;go_simp)|((with_reducible refine zW fun K1 K3 h1 h3=>?_);go_simp)|((first|refine h1 ?_|refine h3 ?_);clear h1 h3 K1 K3)|((first|refine zX (fun hb=>h1 ?_) (fun hb=>h3 ?_)|refine zX (fun hb=>h3 ?_) (fun hb=>h1 ?_))<;>(clear h1 h3 K1 K3;(try have hb2:=yC hb);(try have hb2:=yD hb);(try have hb2:=yE hb);(try have hb2:=yF hb);(try have hb2:=yG hb)))|(refine fun (K2:_→AHeap→Prop) hK2=>?_)|((with_reducible refine zY ?_ ?_);decide)|((with_reducible first|refine zZ ?_ (fun K hK=>?_)|refine yA ?_ (fun K hK=>?_));(focus go_simp;done);go_simp;refine hK _ _ ?_;clear hK K)|(go_simp;(try go_bits);refine hK2 _ _ ?_;clear hK2 K2))
          exact Post.round_normal ⟨s.alts.length - (k + 1), by omega, k + 1, by omega, rfl, (by first|(go_simp;done)|(go_simp;go_num;done)|assumption), (by first|(go_simp;done)|(go_simp;go_num;done)|assumption), (by first|(go_simp;done)|(go_simp;go_num;done)|assumption), (by first|(go_simp;done)|(go_simp;go_num;done)|assumption), (by first|(go_simp;done)|(go_simp;go_num;done)|assumption), (by first|(go_simp;done)|(go_simp;go_num;done)|assumption), (by first|(go_simp;done)|(go_simp;go_num;done)|assumption), (by first|(go_simp;done)|(go_simp;go_num;done)|assumption), (by first|(go_simp;done)|(go_simp;go_num;done)|assumption), (by first|(go_simp;done)|(go_simp;go_num;done)|assumption), (by first|(go_simp;done)|(go_simp;go_num;done)|assumption), Lib.hid (HX.out.trans HX8.out)⟩
      · have HHS := Lib.hid (fun (loops : List (Nat × LInfo)) (H2 : AHeap) (hx : Ext H' H2) => has_s (loops := loops) (w := i1) (HI17.out.ext (HX.out.trans hx)))
        rw [decide_eq_false hin] at HHS
        repeat' (first|(with_reducible first|refine zA ?_|refine zB fun K hK=>?_|refine zC fun K2 hK2=>?_|refine zD ?_|refine zE ?_|refine zF ?_|refine zG ?_|refine zH ?_|refine zI ?_|refine zJ ?_|refine zK ?_|refine zL ?_|refine zM ?_|refine zN ?_|refine zO ?_|refine zP ?_|refine zQ ?_|refine zR ?_|refine zS ?_|refine zT ?_)|((with_reducible refine zU (hK _ _ ?_));clear hK K)|((with_reducible refine zV ?_ ?_ fun K1 K3 d hdst h1 h3=>?_);rfl;exact yB rfl;cases hdst;go_simp)|((with_reducible refine zW fun K1 K3 h1 h3=>?_);go_simp)|((first|refine h1 ?_|refine h3 ?_);clear h1 h3 K1 K3)|((first|refine zX (fun hb=>h1 ?_) (fun hb=>h3 ?_)|refine zX (fun hb=>h3 ?_) (fun hb=>h1 ?_))<;>(clear h1 h3 K1 K3;(try have hb2:=yC hb);(try have hb2:=yD hb);(try have hb2:=yE hb);(try have hb2:=yF hb);(try have hb2:=yG hb)))|(refine fun (K2:_→AHeap→Prop) hK2=>?_)|((with_reducible refine zY ?_ ?_);decide)|((with_reducible first|refine zZ ?_ (fun K hK=>?_)|refine yA ?_ (fun K hK=>?_));(focus go_simp;done);go_simp;refine hK _ _ ?_;clear hK K)|(go_simp;(try go_bits);(try first | ((with_reducible show CallS _ _ _ _ _ _);refine CallS.mono (HHS.out _ _ (Ext.push _)) ?_; rintro _ _ ⟨rfl, h9⟩; rw [h9]; clear h9));refine hK2 _ _ ?_;clear hK2 K2))
        exact Post.round_normal ⟨s.alts.length - (k + 1), by omega, k + 1, by omega, rfl, (by first|(go_simp;done)|(go_simp;go_num;done)|assumption), (by first|(go_simp;done)|(go_simp;go_num;done)|assumption), (by first|(go_simp;done)|(go_simp;go_num;done)|assumption), (by first|(go_simp;done)|(go_simp;go_num;done)|assumption), (by first|(go_simp;done)|(go_simp;go_num;done)|assumption), (by first|(go_simp;done)|(go_simp;go_num;done)|assumption), (by first|(go_simp;done)|(go_simp;go_num;done)|assumption), (by first|(go_simp;done)|(go_simp;go_num;done)|assumption), (by first|(go_simp;done)|(go_simp;go_num;done)|assumption), (by first|(go_simp;done)|(go_simp;go_num;done)|assumption), (by first|(go_simp;done)|(go_simp;go_num;done)|assumption), Lib.hid (HX.out.push' _)⟩
    · repeat' (first|(with_reducible first|refine zA ?_|refine zB fun K hK=>?_|refine zC fun K2 hK2=>?_|refine zD ?_|refine zE ?_|refine zF ?_|refine zG ?_|refine zH ?_|refine zI ?_|refine zJ ?_|refine zK ?_|refine zL ?_|refine zM ?_|refine zN ?_|refine zO ?_|refine zP ?_|refine zQ ?_|refine zR ?_|refine zS ?_|refine zT ?_)|((with_reducible refine zU (hK _ _ ?_));clear hK K)|((with_reducible refine zV ?_ ?_ fun K1 K3 d hdst h1 h3=>?_);rfl;exact yB rfl;cases hdst;go_simp)|((with_reducible refine zW fun K1 K3 h1 h3=>?_);go_simp)|((first|refine h1 ?_|refine h3 ?_);clear h1 h3 K1 K3)|((first|refine zX (fun hb=>h1 ?_) (fun hb=>h3 ?_)|refine zX (fun hb=>h3 ?_) (fun hb=>h1 ?_))<;>(clear h1 h3 K1 K3;(try have hb2:=yC hb);(try have hb2:=yD hb);(try have hb2:=yE hb);(try have hb2:=yF hb);(try have hb2:=yG hb)))|(refine fun (K2:_→AHeap→Prop) hK2=>?_)|((with_reducible refine zY ?_ ?_);decide)|((with_reducible first|refine zZ ?_ (fun K hK=>?_)|refine yA ?_ (fun K hK=>?_));(focus go_simp;done);go_simp;refine hK _ _ ?_;clear hK K)|(go_simp;(try go_bits);refine hK2 _ _ ?_;clear hK2 K2))
      rfl
  · have he2 : ¬ e2 = 0 := fun h => he (HIFF.out.2 h)
    repeat' (first|(with_reducible first|refine zA ?_|refine zB fun K hK=>?_|refine zC fun K2 hK2=>?_|refine zD ?_|refine zE ?_|refine zF ?_|refine zG ?_|refine zH ?_|refine zI ?_|refine zJ ?_|refine zK ?_|refine zL ?_|refine zM ?_|refine zN ?_|refine zO ?_|refine zP ?_|refine zQ ?_|refine zR ?_|refine zS ?_|refine zT ?_)|((with_reducible refine zU (hK _ _ ?_));clear hK K)|((with_reducible refine zV ?_ ?_ fun K1 K3 d hdst h1 h3=>?_);rfl;exact yB rfl;cases hdst;go_simp)|((with_reducible refine zW fun K1 K3 h1 h3=>?_);go_simp)|((first|refine h1 ?_|refine h3 ?_);clear h1 h3 K1 K3)|((first|refine zX (fun hb=>h1 ?_) (fun hb=>h3 ?_)|refine zX (fun hb=>h3 ?_) (fun hb=>h1 ?_))<;>(clear h1 h3 K1 K3;(try have hb2:=yC hb);(try have hb2:=yD hb);(try have hb2:=yE hb);(try have hb2:=yF hb);(try have hb2:=yG hb)))|(refine fun (K2:_→AHeap→Prop) hK2=>?_)|((with_reducible refine zY ?_ ?_);decide)|((with_reducible first|refine zZ ?_ (fun K hK=>?_)|refine yA ?_ (fun K hK=>?_));(focus go_simp;done);go_simp;refine hK _ _ ?_;clear hK K)|(go_simp;(try go_bits);(try first | ((with_reducible show CallS _ _ _ _ _ _);refine CallS.mono head_s ?_; rintro _ _ ⟨rfl, h9⟩; rw [h9]; clear h9; go_simp) | ((with_reducible show CallS _ _ _ _ _ _);refine CallS.mono (few_s (s := s) (HV.out.ext HX1.out)) ?_; rintro _ _ ⟨rfl, h9⟩; rw [h9, HFW.out]; clear h9; go_simp) | ((with_reducible show CallS _ _ _ _ _ _);refine CallS.mono (brief_s (c := c) (HC.out.ext HX1.out)) ?_; rintro _ _ ⟨rfl, h9⟩; rw [h9]; clear h9; go_simp) | ((with_reducible show CallS _ _ _ _ _ _);refine CallS.mono (brief_s (c := d) (HD.out.ext HX1.out)) ?_; rintro _ _ ⟨rfl, h9⟩; rw [h9]; clear h9; go_simp) | ((with_reducible show CallS _ _ _ _ _ _);refine CallS.mono (HB1.out _ _ HX1.out (by simpa using ‹(!fw) = false›)) ?_; rintro _ H2 ⟨⟨bv, mv, rfl, hi1, hi2⟩, hx⟩; (have HZ2 := Lib.hid hx); (obtain ⟨ck0, ck1, ck2, ck3, -⟩ := HCELLS.out _ hx); clear hi1 hi2 hx) | ((with_reducible show CallS _ _ _ _ _ _);refine CallS.mono (HB2.out _ _ (HX1.out.trans HZ2.out) (by simpa using ‹(!fw) = false›)) ?_; rintro _ H3 ⟨⟨kv, nv, rfl, -, -⟩, hx⟩; clear hx) | ((refine eqlB_k (by first | (go_simp; done) | (go_simp; rfl)) (by first | (go_simp; done) | (go_simp; rfl)) ?_); go_simp));refine hK2 _ _ ?_;clear hK2 K2))
    all_goals try rfl
    all_goals first
      | (exfalso
         have h9 := ‹(e != 0) = false›
         simp at h9
         exact he h9)
      | (rw [show (e == 0) = false by simpa using he, show (e2 == 0) = false by simpa using he2]; rfl)
end Go.Proofs.Try
