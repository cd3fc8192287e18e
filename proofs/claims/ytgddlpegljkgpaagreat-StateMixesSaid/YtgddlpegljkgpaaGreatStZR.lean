/- Contracts of functions, walked. -/
import Derived.Test.YtgddlpegljkgpaaGreatStSF
import Derived.Test.YtgddlpegljkgpaaGreatStSN
import Derived.Test.YtgddlpegljkgpaaGreatStS9
import Derived.Test.YtgddlpegljkgpaaGreatAwB
set_option linter.all false
namespace Go.Proofs.Tryz
open Go Go.Am Go.RowKit Go.Co
set_option maxRecDepth 100000

end Go.Proofs.Tryz
namespace Go.Proofs.Tryz
open Go Go.Am Go.RowKit Go.Co
set_option maxRecDepth 100000

def SheetsV (H : AHeap) (v : Value) (l : List Sheet) : Prop := l.length ≤ 9223372036854775807 ∧ ∃ a c, v = .slice a l.length c ∧ (0 < l.length → ∃ b o sp, a = some ⟨b, o, sp⟩ ∧ b < H.n ∧ ∀ k (h : k < l.length), ∃ wv av, cellsAt H b (o + k * 2) 2 = some [wv, av] ∧ SheetV H (.agg #[wv, av]) l[k])
theorem SheetsV.ext {H H' : AHeap} {v : Value} {l : List Sheet} (h : SheetsV H v l) (hx : Ext H H') : SheetsV H' v l := by
  obtain ⟨h1, a, c, h2, h3⟩ := h
  refine ⟨h1, a, c, h2, fun hn => ?_⟩
  obtain ⟨b, o, sp, h4, h5, h6⟩ := h3 hn
  refine ⟨b, o, sp, h4, Nat.lt_of_lt_of_le h5 hx.n, fun k hk => ?_⟩
  obtain ⟨wv, av, h7, h8⟩ := h6 k hk
  exact ⟨wv, av, by rw [hx.cellsAt h5]; exact h7, h8.ext hx⟩
theorem SheetsV.at_ {H : AHeap} {a : Option Addr} {n c : Nat} {l : List Sheet} (h : SheetsV H (.slice a n c) l) {k : Nat} (hk : k < l.length) : ∃ b o sp wv av, a = some ⟨b, o, sp⟩ ∧ b < H.n ∧ cellsAt H b (o + k * 2) 2 = some [wv, av] ∧ SheetV H (.agg #[wv, av]) l[k] := by
  obtain ⟨h1, a', c', h2, h3⟩ := h
  cases h2
  obtain ⟨b, o, sp, h4, h5, h6⟩ := h3 (by omega)
  obtain ⟨wv, av, h7, h8⟩ := h6 k hk
  exact ⟨b, o, sp, wv, av, h4, h5, h7, h8⟩
theorem SheetsV.slice {H : AHeap} {v : Value} {l : List Sheet} (h : SheetsV H v l) : l.length ≤ 9223372036854775807 ∧ ∃ a c, v = .slice a l.length c := by
  obtain ⟨h1, a, c, h2, h3⟩ := h
  exact ⟨h1, a, c, h2⟩

def errGoL : List Sheet → Int
  | [] => 0
  | s :: t => if err s ≠ 0 then err s else errGoL t
def errSheets (l : List Sheet) : Int := if 8 < l.length then 2 else errGoL l
theorem checkSheets_s {loops : List (Nat × LInfo)} {H : AHeap} {v : Value} {l : List Sheet} (hv : SheetsV H v l) : CallS Tryz.prog loops 74 [v] H fun r H' => r = .int .i64 (errSheets l) ∧ H' = H := by
  refine CallS.forget (R := fun v => v = .int .i64 (errSheets l)) (by rintro v rfl; rfl) ?_
  obtain ⟨hlen, a, c, rfl⟩ := hv.slice
  have HV := Lib.hid hv
  clear hv
  generalize he : errSheets l = er
  have HE := Lib.hid he
  clear he
  refine CallS.enter' Tryz.func74 rfl Tryz.ntmps74 (by simp) fun f hd hf => ?_
  have f0 := hf 0
  simp at f0
  clear hf
  repeat' (first|(with_reducible first|refine zA ?_|refine zB fun K hK=>?_|refine zC fun K2 hK2=>?_|refine zD ?_|refine zE ?_|refine zF ?_|refine zG ?_|refine zH ?_|refine zI ?_|refine zM ?_|refine zN ?_|refine zO ?_|refine zP ?_|refine zQ ?_|refine zR ?_)|((with_reducible refine zU (hK _ _ ?_));clear hK K)|((with_reducible refine zV ?_ ?_ fun K1 K3 d hdst h1 h3=>?_);rfl;exact yB rfl;cases hdst;go_simp)|((with_reducible refine zW fun K1 K3 h1 h3=>?_);go_simp)|((first|refine h1 ?_|refine h3 ?_);clear h1 h3 K1 K3)|((first|refine zX (fun hb=>h1 ?_) (fun hb=>h3 ?_)|refine zX (fun hb=>h3 ?_) (fun hb=>h1 ?_))<;>(clear h1 h3 K1 K3;(try have hb2:=yC hb);(try have hb2:=yD hb);(try have hb2:=yE hb);(try have hb2:=yF hb);(try have hb2:=yG hb)))|(refine fun (K2:_→AHeap→Prop) hK2=>?_)|((with_reducible refine zY ?_ ?_);decide)|((with_reducible first|refine zZ ?_ (fun K hK=>?_)|refine yA ?_ (fun K hK=>?_));(focus go_simp;done);go_simp;refine hK _ _ ?_;clear hK K)|(go_simp;(try go_bits);refine hK2 _ _ ?_;clear hK2 K2))
  · refine ⟨?_, Ext.refl _⟩
    rw [← HE.out, errSheets, if_pos (by omega)]
  have HE2 : Hid (errGoL l = er) := Lib.hid (by rw [← HE.out, errSheets, if_neg (by omega)])
  refine CodeS.loop (fun m f H' => ∃ k : Nat, k ≤ l.length ∧ m = l.length - k ∧ f.tmp 11 = .int .i64 k ∧ f.tmp 10 = .int .i64 l.length ∧ f.tmp 9 = .slice a l.length c ∧ f.defers = [] ∧ Hid (errGoL (l.drop k) = er) ∧ Hid (Ext H H')) l.length ?_ ?_
  · exact ⟨0, by simp, by simp, (by first|go_simp<;>go_num|assumption), (by first|go_simp<;>go_num|assumption), (by first|go_simp<;>go_num|assumption), (by first|go_simp<;>go_num|assumption), Lib.hid (by simpa using HE2.out), Lib.hid (Ext.refl _)⟩
  clear f0 hd f HE HE2 hb hb2
  rintro m f H' ⟨k, hk, rfl, f11, f10, f9, hd, HG, HX⟩
  by_cases hlt : k < l.length
  · obtain ⟨b, o, sp, wv, av, rfl, hb, hx, hsv⟩ := (HV.out.ext HX.out).at_ hlt
    have HS := Lib.hid hsv
    have HD := Lib.hid (List.drop_eq_getElem_cons hlt)
    generalize l[k] = s at HS HD
    obtain ⟨wv', av', hva, hw, ha⟩ := hsv
    cases hva
    obtain ⟨-, wa, wc, rfl⟩ := hw.slice
    obtain ⟨-, aa, ac, rfl⟩ := ha.slice
    clear hw ha
    generalize hes : err s = es at *
    have HES := Lib.hid hes
    clear hes
    repeat' (first|(with_reducible first|refine zA ?_|refine zB fun K hK=>?_|refine zC fun K2 hK2=>?_|refine zD ?_|refine zE ?_|refine zF ?_|refine zG ?_|refine zH ?_|refine zI ?_|refine zM ?_|refine zN ?_|refine zO ?_|refine zP ?_|refine zQ ?_|refine zR ?_)|((with_reducible refine zU (hK _ _ ?_));clear hK K)|((with_reducible refine zV ?_ ?_ fun K1 K3 d hdst h1 h3=>?_);rfl;exact yB rfl;cases hdst;go_simp)|((with_reducible refine zW fun K1 K3 h1 h3=>?_);go_simp)|((first|refine h1 ?_|refine h3 ?_);clear h1 h3 K1 K3)|((first|refine zX (fun hb=>h1 ?_) (fun hb=>h3 ?_)|refine zX (fun hb=>h3 ?_) (fun hb=>h1 ?_))<;>(clear h1 h3 K1 K3;(try have hb2:=yC hb);(try have hb2:=yD hb);(try have hb2:=yE hb);(try have hb2:=yF hb);(try have hb2:=yG hb)))|(refine fun (K2:_→AHeap→Prop) hK2=>?_)|((with_reducible refine zY ?_ ?_);decide)|((with_reducible first|refine zZ ?_ (fun K hK=>?_)|refine yA ?_ (fun K hK=>?_));(focus go_simp;done);go_simp;refine hK _ _ ?_;clear hK K)|(go_simp;(try go_bits);(try first | ((with_reducible show CallS _ _ _ _ _ _);refine CallS.mono (check_s (s := s) (HS.out.ext (Ext.push _))) ?_; rintro _ _ ⟨rfl, h9⟩; rw [h9, HES.out]; clear h9));refine hK2 _ _ ?_;clear hK2 K2))
    · refine ⟨?_, HX.out.push' _⟩
      have h1 : es ≠ 0 := by simpa using hb
      rw [← HG.out, HD.out, errGoL, HES.out, if_pos h1]
    · have h1 : es = 0 := by simpa using hb
      refine Post.round_normal ⟨l.length - (k + 1), by omega, k + 1, by omega, rfl, (by first|go_simp<;>go_num|assumption), (by first|go_simp<;>go_num|assumption), (by first|go_simp<;>go_num|assumption), (by first|go_simp<;>go_num|assumption), Lib.hid ?_, Lib.hid (HX.out.push' _)⟩
      rw [← HG.out, HD.out, errGoL, HES.out, if_neg (by simp [h1])]
  · repeat' (first|(with_reducible first|refine zA ?_|refine zB fun K hK=>?_|refine zC fun K2 hK2=>?_|refine zD ?_|refine zE ?_|refine zF ?_|refine zG ?_|refine zH ?_|refine zI ?_|refine zM ?_|refine zN ?_|refine zO ?_|refine zP ?_|refine zQ ?_|refine zR ?_)|((with_reducible refine zU (hK _ _ ?_));clear hK K)|((with_reducible refine zV ?_ ?_ fun K1 K3 d hdst h1 h3=>?_);rfl;exact yB rfl;cases hdst;go_simp)|((with_reducible refine zW fun K1 K3 h1 h3=>?_);go_simp)|((first|refine h1 ?_|refine h3 ?_);clear h1 h3 K1 K3)|((first|refine zX (fun hb=>h1 ?_) (fun hb=>h3 ?_)|refine zX (fun hb=>h3 ?_) (fun hb=>h1 ?_))<;>(clear h1 h3 K1 K3;(try have hb2:=yC hb);(try have hb2:=yD hb);(try have hb2:=yE hb);(try have hb2:=yF hb);(try have hb2:=yG hb)))|(refine fun (K2:_→AHeap→Prop) hK2=>?_)|((with_reducible refine zY ?_ ?_);decide)|((with_reducible first|refine zZ ?_ (fun K hK=>?_)|refine yA ?_ (fun K hK=>?_));(focus go_simp;done);go_simp;refine hK _ _ ?_;clear hK K)|(go_simp;(try go_bits);refine hK2 _ _ ?_;clear hK2 K2))
    refine ⟨?_, HX.out⟩
    rw [← HG.out, List.drop_eq_nil_of_le (by omega)]; rfl
end Go.Proofs.Tryz
namespace Go.Co

section
variable (N : Nat) (op : Nat → Nat → Int → Bool) (nx : Nat → Nat → Int → Int)
def Reach : Nat → Nat → Int → Nat → Prop
  | 0, k, d, _ => ∃ e, e ≤ d ∧ op k 0 e = true
  | i + 1, k, d, m => ∃ e, e ≤ d ∧ op k (i + 1) e = true ∧ (Reach i k e m ∨ ∃ k', k' < N ∧ 1 ≤ m ∧ Reach i k' e (m - 1))
theorem Reach.mono {N : Nat} {op : Nat → Nat → Int → Bool} : ∀ {i k : Nat} {d d' : Int} {m m' : Nat}, Reach N op i k d m → d ≤ d' → m ≤ m' → Reach N op i k d' m'
  | 0, _, _, _, _, _, ⟨e, h1, h2⟩, hd, _ => ⟨e, by omega, h2⟩
  | i + 1, k, d, d', m, m', ⟨e, h1, h2, h3⟩, hd, hm => by
    refine ⟨e, by omega, h2, ?_⟩
    rcases h3 with h3 | ⟨k', h4, h5, h6⟩
    · exact .inl (Reach.mono h3 (Int.le_refl _) hm)
    · exact .inr ⟨k', h4, by omega, Reach.mono h6 (Int.le_refl _) (by omega)⟩
theorem Reach.few {N : Nat} {op : Nat → Nat → Int → Bool} : ∀ {i k : Nat} {d : Int} {m : Nat}, Reach N op i k d m → Reach N op i k d (min m i)
  | 0, _, _, _, ⟨e, h1, h2⟩ => ⟨e, h1, h2⟩
  | i + 1, k, d, m, ⟨e, h1, h2, h3⟩ => by
    refine ⟨e, h1, h2, ?_⟩
    rcases h3 with h3 | ⟨k', h4, h5, h6⟩
    · exact .inl (Reach.mono (Reach.few h3) (Int.le_refl _) (by omega))
    · exact .inr ⟨k', h4, by omega, Reach.mono (Reach.few h6) (Int.le_refl _) (by omega)⟩

def soonGo (row : Nat → Int) : Nat → Nat → Nat → Nat
  | 0, _, s => s
  | r + 1, k, s => soonGo row r (k + 1) (if row k < row s then k else s)
def soonOf (row : Nat → Int) : Nat := soonGo row N 0 0
theorem soonGo_ok (row : Nat → Int) : ∀ (r k s : Nat), s < k + r → (∀ j, j < k → row s ≤ row j) → (k = 0 → s = 0) → (k ≠ 0 → s < k) → 1 ≤ k + r → soonGo row r k s < k + r ∧ ∀ j, j < k + r → row (soonGo row r k s) ≤ row j
  | 0, k, s, h1, h2, _, _, _ => ⟨h1, fun j hj => h2 j (by omega)⟩
  | r + 1, k, s, h1, h2, h3, h4, h5 => by
    rw [soonGo]
    have := soonGo_ok row r (k + 1) (if row k < row s then k else s) (by split <;> omega) (fun j hj => by
      rcases Nat.lt_or_ge j k with hjk | hjk
      · have := h2 j hjk
        split <;> omega
      · have : j = k := by omega
        subst this
        split <;> omega) (by omega) (fun _ => by
        split
        · omega
        · rcases Nat.eq_zero_or_pos k with h0 | h0
          · have := h3 h0; omega
          · have := h4 (by omega); omega) (by omega)
    rw [show k + 1 + r = k + (r + 1) by omega] at this
    exact this
theorem soonOf_ok {N : Nat} (hN : 1 ≤ N) (row : Nat → Int) : soonOf N row < N ∧ ∀ j, j < N → row (soonOf N row) ≤ row j := by
  have := soonGo_ok row N 0 0 (by omega) (fun j hj => by omega) (fun _ => rfl) (fun h => absurd rfl h) (by omega)
  rw [Nat.zero_add] at this
  exact this

def befOf (D : Nat → Nat → Int) (r k : Nat) : Nat × Nat := if 1 ≤ r ∧ D (r - 1) (soonOf N (D (r - 1))) < D r k then (r - 1, soonOf N (D (r - 1))) else (r, k)
def dayOf : Nat → Nat → Nat → Int
  | 0, _, k => nx k 0 0
  | i + 1, r, k => nx k (i + 1) (dayOf i (befOf N (dayOf i) r k).1 (befOf N (dayOf i) r k).2)
end
section
variable {N : Nat} {op : Nat → Nat → Int → Bool} {nx : Nat → Nat → Int → Int}
theorem bef_le (hN : 1 ≤ N) (D : Nat → Nat → Int) (r k : Nat) (e : Int) : D (befOf N D r k).1 (befOf N D r k).2 ≤ e ↔ D r k ≤ e ∨ ∃ k', k' < N ∧ 1 ≤ r ∧ D (r - 1) k' ≤ e := by
  obtain ⟨h1, h2⟩ := soonOf_ok hN (D (r - 1))
  unfold befOf
  split
  · rename_i h
    constructor
    · intro h3; exact .inr ⟨_, h1, h.1, h3⟩
    · rintro (h3 | ⟨k', h4, h5, h6⟩)
      · show D (r - 1) (soonOf N (D (r - 1))) ≤ e; omega
      · have := h2 k' h4; show D (r - 1) (soonOf N (D (r - 1))) ≤ e; omega
  · rename_i h
    constructor
    · intro h3; exact .inl h3
    · rintro (h3 | ⟨k', h4, h5, h6⟩)
      · exact h3
      · have := h2 k' h4
        show D r k ≤ e
        omega
theorem nx_le (hnx : ∀ k i f, NextOk (op k i) f (nx k i f)) (hop : ∀ k i d, op k i d = true → 0 ≤ d ∧ d ≤ 730) {k i : Nat} {f d : Int} (hd : d ≤ 730) : nx k i f ≤ d ↔ ∃ e, e ≤ d ∧ op k i e = true ∧ f ≤ e := by
  rcases hnx k i f with ⟨h1, h2⟩ | ⟨h1, h2, h3, h4⟩
  · constructor
    · intro h; omega
    · rintro ⟨e, h5, h6, h7⟩
      have := h2 e h7
      rw [h6] at this; cases this
  · constructor
    · intro h; exact ⟨_, h, h3, h2⟩
    · rintro ⟨e, h5, h6, h7⟩
      have := h4 e h7 h6
      omega
theorem day_reach (hN : 1 ≤ N) (hnx : ∀ k i f, NextOk (op k i) f (nx k i f)) (hop : ∀ k i d, op k i d = true → 0 ≤ d ∧ d ≤ 730) : ∀ (i r k : Nat) (d : Int), d ≤ 730 → (dayOf N nx i r k ≤ d ↔ Reach N op i k d r)
  | 0, r, k, d, hd => by
    rw [dayOf, nx_le hnx hop hd, Reach]
    constructor
    · rintro ⟨e, h1, h2, h3⟩; exact ⟨e, h1, h2⟩
    · rintro ⟨e, h1, h2⟩; exact ⟨e, h1, h2, (hop _ _ _ h2).1⟩
  | i + 1, r, k, d, hd => by
    rw [dayOf, nx_le hnx hop hd, Reach]
    constructor
    · rintro ⟨e, h1, h2, h3⟩
      refine ⟨e, h1, h2, ?_⟩
      have he := (hop _ _ _ h2).2
      rcases (bef_le hN _ r k e).1 h3 with h4 | ⟨k', h5, h6, h7⟩
      · exact .inl ((day_reach hN hnx hop i r k e he).1 h4)
      · exact .inr ⟨k', h5, h6, (day_reach hN hnx hop i (r - 1) k' e he).1 h7⟩
    · rintro ⟨e, h1, h2, h3⟩
      have he := (hop _ _ _ h2).2
      refine ⟨e, h1, h2, (bef_le hN _ r k e).2 ?_⟩
      rcases h3 with h4 | ⟨k', h5, h6, h7⟩
      · exact .inl ((day_reach hN hnx hop i r k e he).2 h4)
      · exact .inr ⟨k', h5, h6, (day_reach hN hnx hop i (r - 1) k' e he).2 h7⟩

def chg (fr : Nat → Nat) : Nat → Nat
  | 0 => 0
  | i + 1 => chg fr i + if fr (i + 1) ≠ fr i then 1 else 0
def Src (N : Nat) (op : Nat → Nat → Int → Bool) (n : Nat) (fr : Nat → Nat) (dy : Nat → Int) : Prop := ∀ i, i < n → fr i < N ∧ op (fr i) i (dy i) = true ∧ (1 ≤ i → dy (i - 1) ≤ dy i)
theorem src_reach {n : Nat} {fr : Nat → Nat} {dy : Nat → Int} (h : Src N op n fr dy) : ∀ i, i < n → Reach N op i (fr i) (dy i) (chg fr i)
  | 0, hi => ⟨dy 0, Int.le_refl _, (h 0 hi).2.1⟩
  | i + 1, hi => by
    have ih := src_reach h i (by omega)
    obtain ⟨h1, h2, h3⟩ := h (i + 1) hi
    have h4 := h3 (by omega)
    rw [Nat.add_sub_cancel] at h4
    refine ⟨dy (i + 1), Int.le_refl _, h2, ?_⟩
    rw [chg]
    by_cases hc : fr (i + 1) = fr i
    · left
      rw [if_neg (by simpa using hc), Nat.add_zero, hc]
      exact ih.mono h4 (Nat.le_refl _)
    · right
      rw [if_pos hc]
      exact ⟨fr i, (h i (by omega)).1, by omega, by rw [Nat.add_sub_cancel]; exact ih.mono h4 (Nat.le_refl _)⟩
structure Trace (N : Nat) (nx : Nat → Nat → Int → Int) (n r : Nat) (R S : Nat → Nat) : Prop where
  last : R (n - 1) = r
  sheet : S (n - 1) < N
  day : dayOf N nx (n - 1) r (S (n - 1)) ≤ 730
  step : ∀ i, i + 1 < n → (R i, S i) = befOf N (dayOf N nx i) (R (i + 1)) (S (i + 1))
theorem Trace.ok {n r : Nat} {R S : Nat → Nat} (hN : 1 ≤ N) (hnx : ∀ k i f, NextOk (op k i) f (nx k i f)) (hn : 1 ≤ n) (h : Trace N nx n r R S) : Src N op n S (fun i => dayOf N nx i (R i) (S i)) ∧ chg S (n - 1) ≤ r := by
  have h0 : ∀ j, j < n → S (n - 1 - j) < N ∧ dayOf N nx (n - 1 - j) (R (n - 1 - j)) (S (n - 1 - j)) ≤ 730 := by
    intro j
    induction j with
    | zero => intro _; rw [Nat.sub_zero, h.last]; exact ⟨h.sheet, h.day⟩
    | succ j ih =>
      intro hj
      obtain ⟨i1, i2⟩ := ih (by omega)
      have hst := h.step (n - 1 - (j + 1)) (by omega)
      rw [show n - 1 - (j + 1) + 1 = n - 1 - j by omega] at hst
      rw [show n - 1 - j = n - 1 - (j + 1) + 1 by omega] at i2
      rw [dayOf, show n - 1 - (j + 1) + 1 = n - 1 - j by omega, ← hst] at i2
      refine ⟨?_, ?_⟩
      · have h5 : (befOf N (dayOf N nx (n - 1 - (j + 1))) (R (n - 1 - j)) (S (n - 1 - j))).2 < N := by
          unfold befOf
          split
          · exact (soonOf_ok hN _).1
          · exact i1
        rw [← hst] at h5; exact h5
      · rcases hnx (S (n - 1 - j)) (n - 1 - j) (dayOf N nx (n - 1 - (j + 1)) (R (n - 1 - (j + 1))) (S (n - 1 - (j + 1)))) with ⟨h6, _⟩ | ⟨h6, h7, _⟩
        · simp only at i2; omega
        · simp only at i2; omega
  have h1 : ∀ i, i < n → S i < N ∧ dayOf N nx i (R i) (S i) ≤ 730 := fun i hi => by
    have := h0 (n - 1 - i) (by omega)
    rwa [show n - 1 - (n - 1 - i) = i by omega] at this
  have h2 : ∀ i, i < n → op (S i) i (dayOf N nx i (R i) (S i)) = true ∧ (1 ≤ i → dayOf N nx (i - 1) (R (i - 1)) (S (i - 1)) ≤ dayOf N nx i (R i) (S i)) := by
    intro i hi
    have h3 := (h1 i hi).2
    cases i with
    | zero =>
      rw [dayOf] at h3 ⊢
      rcases hnx (S 0) 0 0 with ⟨h6, _⟩ | ⟨h6, h7, h8, _⟩
      · omega
      · exact ⟨h8, fun h => by omega⟩
    | succ i =>
      have hst := h.step i hi
      rw [dayOf, ← hst] at h3 ⊢
      rw [Nat.add_sub_cancel]
      rcases hnx (S (i + 1)) (i + 1) (dayOf N nx i (R i) (S i)) with ⟨h6, _⟩ | ⟨h6, h7, h8, _⟩
      · simp only at h3; omega
      · exact ⟨h8, fun _ => h7⟩
  have h3 : ∀ i, i < n → chg S i ≤ R i := by
    intro i
    induction i with
    | zero => intro _; exact Nat.zero_le _
    | succ i ih =>
      intro hi
      have h4 := ih (by omega)
      have hst := h.step i hi
      rw [chg]
      unfold befOf at hst
      split at hst
      · rename_i hc
        simp only [Prod.mk.injEq] at hst
        split <;> omega
      · simp only [Prod.mk.injEq] at hst
        rw [if_neg (by rw [hst.2]; simp)]; omega
  refine ⟨fun i hi => ⟨(h1 i hi).1, (h2 i hi).1, (h2 i hi).2⟩, ?_⟩
  have := h3 (n - 1) (by omega)
  rw [h.last] at this; exact this
end
end Go.Co
namespace Go.Proofs.Tryz
open Go Go.Am Go.RowKit Go.Co
set_option maxRecDepth 100000

section
variable {β : Type} {P : Program} {H : AHeap} {f : AF} {kk : K β} {dst : Option Tmp} {ty : TypeId} {src : String} {af : Array Edge} {g : Option (Nat × Bool)}
theorem vA_nilCheck {x : Operand} : valA P ⟨dst, .nilCheck x, ty, src, af, g⟩ (Am.decode (.nilCheck x)) (evR (opReads ⟨dst, .nilCheck x, ty, src, af, g⟩) f) H kk = aNilCheck (f.eval x) H kk fun _ => aPlain P ⟨dst, .nilCheck x, ty, src, af, g⟩ (evR (opReads ⟨dst, .nilCheck x, ty, src, af, g⟩) f) H kk := by
  rw [show valA P ⟨dst, .nilCheck x, ty, src, af, g⟩ (Am.decode (.nilCheck x)) (evR (opReads ⟨dst, .nilCheck x, ty, src, af, g⟩) f) H kk = aNilCheck (evR (opReads ⟨dst, .nilCheck x, ty, src, af, g⟩) f x) H kk fun _ => aPlain P ⟨dst, .nilCheck x, ty, src, af, g⟩ (evR (opReads ⟨dst, .nilCheck x, ty, src, af, g⟩) f) H kk from rfl, evR_self (by simp [Op.operands])]
end
attribute [go_sem] vA_nilCheck
section
variable {H : AHeap} {ev : Operand → Value} {dst : Option Tmp} {ty t' : TypeId} {src : String} {af : Array Edge} {g : Option (Nat × Bool)} {x y : Operand}
theorem neqP_k {kp : Value → AHeap → Option Prop} (hx : ev x = .pointer none) (hy : ev y = .pointer none) (h : Holds (kp (.bool false) H)) : Holds (aPlain Tryz.prog ⟨dst, .binOp .neq 99 x y t', ty, src, af, g⟩ ev H kp) := by
  have hr : pureOf Tryz.prog (execOp ev ⟨dst, .binOp .neq 99 x y t', ty, src, af, g⟩) = some (.value (.bool false)) := by
    have h0 : execOp ev ⟨dst, .binOp .neq 99 x y t', ty, src, af, g⟩ = (do pure (.value (← (do eqGuard .neq 99 x y (ev x) (ev y); binOp .neq 99 (ev x) (ev y))))) := rfl
    have h1 : pureOf Tryz.prog (eqGuard .neq 99 x y (.pointer none) (.pointer none)) = some () := by kernel_rfl
    have h2 : pureOf Tryz.prog (binOp .neq 99 (.pointer none) (.pointer none)) = some (.bool false) := by kernel_rfl
    rw [h0, hx, hy, pureOf_bind, pureOf_bind, h1]
    dsimp only [Option.bind]
    rw [h2]; rfl
  rw [plain_of rfl, hr]
  have ho : (Op.binOp .neq 99 x y t').operands.toList.all (fun x => plainV 6 (ev x)) = true := by
    show (#[x, y].toList.all fun x => plainV 6 (ev x)) = _
    simp [hx, hy]; rfl
  rw [if_pos ho]; exact h
@[go_sem] theorem aBin_ptrN {β : Type} {kk : K β} {other : Unit → Option β} {a : Addr} : aBin Tryz.prog .neq 99 (.pointer (some a)) (.pointer none) H kk other = kk (.bool true) H := by
  have h : nilEq Tryz.prog 99 (.pointer (some a)) (.pointer none) = some false := by
    have he : Tryz.prog.underlying 99 = some (.pointer 103) := by kernel_rfl
    simp only [nilEq, he]
  simp only [aBin, aEq, h]; rfl
@[go_sem] theorem aBin_ptrNN {β : Type} {kk : K β} {other : Unit → Option β} : aBin Tryz.prog .neq 99 (.pointer none) (.pointer none) H kk other = other () := by
  have h : nilEq Tryz.prog 99 (.pointer none) (.pointer none) = none := by
    have he : Tryz.prog.underlying 99 = some (.pointer 103) := by kernel_rfl
    simp only [nilEq, he]
  simp only [aBin, aEq, h]
end
def rowD (N : Nat) (nx : Nat → Nat → Int → Int) (i r : Nat) : List Int := (List.range N).map (dayOf N nx i r)
theorem rowD_len (N : Nat) (nx : Nat → Nat → Int → Int) (i r : Nat) : (rowD N nx i r).length = N := by simp [rowD]
structure RoundAt (N n m : Nat) (nx : Nat → Nat → Int → Int) (H : AHeap) (p r : Nat) (lv : Value) : Prop where
  lt : p < H.n
  all : ∃ q vs, H.get p = .row [.slice (some ⟨q, 0, none⟩) n n, lv] 103 ∧ q < H.n ∧ H.get q = .row vs 22 ∧ vs.length = n ∧ m ≤ n ∧ ∀ i, i < m → ∃ b, vs[i]? = some (.slice (some ⟨b, 0, none⟩) N N) ∧ b < H.n ∧ H.get b = .row ((rowD N nx i r).map (Value.int .i64)) 3
theorem RoundAt.ext {N n m : Nat} {nx : Nat → Nat → Int → Int} {H H' : AHeap} {p r : Nat} {lv : Value} (h : RoundAt N n m nx H p r lv) (hx : Ext H H') : RoundAt N n m nx H' p r lv := by
  obtain ⟨h1, q, vs, h2, h3, h4, h5, hm, h6⟩ := h
  exact ⟨Nat.lt_of_lt_of_le h1 hx.n, q, vs, (hx.get _ h1).trans h2, Nat.lt_of_lt_of_le h3 hx.n, (hx.get _ h3).trans h4, h5, hm, fun i hi => by
    obtain ⟨b, h7, h8, h9⟩ := h6 i hi
    exact ⟨b, h7, Nat.lt_of_lt_of_le h8 hx.n, (hx.get _ h8).trans h9⟩⟩
def RoundIs (N n : Nat) (nx : Nat → Nat → Int → Int) (m : Nat) (H : AHeap) : Nat → Nat → Prop
  | 0, p => RoundAt N n m nx H p 0 (.pointer none)
  | r + 1, p => ∃ p', RoundAt N n m nx H p (r + 1) (.pointer (some ⟨p', 0, none⟩)) ∧ RoundIs N n nx n H r p'
theorem RoundIs.ext {N n m : Nat} {nx : Nat → Nat → Int → Int} {H H' : AHeap} (hx : Ext H H') : ∀ {r p : Nat}, RoundIs N n nx m H r p → RoundIs N n nx m H' r p
  | 0, _, h => RoundAt.ext h hx
  | r + 1, _, ⟨p', h1, h2⟩ => ⟨p', h1.ext hx, extN r p' h2⟩
where extN : ∀ (r p : Nat), RoundIs N n nx n H r p → RoundIs N n nx n H' r p
  | 0, _, h => RoundAt.ext h hx
  | r + 1, _, ⟨p', h1, h2⟩ => ⟨p', h1.ext hx, extN r p' h2⟩
theorem RoundIs.at_ {N n m : Nat} {nx : Nat → Nat → Int → Int} {H : AHeap} : ∀ {r p : Nat}, RoundIs N n nx m H r p → ∃ lv, RoundAt N n m nx H p r lv
  | 0, _, h => ⟨_, h⟩
  | _ + 1, _, ⟨_, h1, _⟩ => ⟨_, h1⟩
theorem RoundAt.less {N n m m' : Nat} {nx : Nat → Nat → Int → Int} {H : AHeap} {p r : Nat} {lv : Value} (h : RoundAt N n m' nx H p r lv) (hm : m ≤ m') : RoundAt N n m nx H p r lv := by
  obtain ⟨h1, q, vs, h2, h3, h4, h5, h6, h7⟩ := h
  exact ⟨h1, q, vs, h2, h3, h4, h5, Nat.le_trans hm h6, fun i hi => h7 i (Nat.lt_of_lt_of_le hi hm)⟩
theorem RoundIs.less {N n m m' : Nat} {nx : Nat → Nat → Int → Int} {H : AHeap} (hm : m ≤ m') : ∀ {r p : Nat}, RoundIs N n nx m' H r p → RoundIs N n nx m H r p
  | 0, _, h => RoundAt.less h hm
  | _ + 1, _, ⟨p', h1, h2⟩ => ⟨p', h1.less hm, h2⟩
theorem rowD_get {N : Nat} {nx : Nat → Nat → Int → Int} {i r k : Nat} (hk : k < N) : ((rowD N nx i r).map (Value.int .i64))[k]? = some (.int .i64 (dayOf N nx i r k)) := by simp [rowD, hk]

set_option maxHeartbeats 4000000 in
theorem soonest_s {loops : List (Nat × LInfo)} {N n m : Nat} {nx : Nat → Nat → Int → Int} {H : AHeap} {p r i : Nat} {lv : Value} (h : RoundAt N n m nx H p r lv) (hi : i < m) (hN : 1 ≤ N) (hN8 : N ≤ 8) (hn : n ≤ 40) : CallS Tryz.prog loops 70 [.pointer (some ⟨p, 0, none⟩), .int .i64 i] H fun v H' => v = .int .i64 (soonOf N (dayOf N nx i r) : Nat) ∧ H' = H := by
  obtain ⟨hp, q, vs, hgp, hq, hgq, hvl, hmn, hrow⟩ := h
  obtain ⟨b, hb, hbn, hgb⟩ := hrow i hi
  have hc0 : cellAt H p 0 = some (.slice (some ⟨q, 0, none⟩) n n) := by simp [cellAt, hgp]
  have hcq : cellAt H q i = some (.slice (some ⟨b, 0, none⟩) N N) := by simp only [cellAt, hgq]; exact hb
  have HCB : Hid (∀ k, k < N → cellAt H b k = some (.int .i64 (dayOf N nx i r k))) := Lib.hid (fun k hk => by simp only [cellAt, hgb]; exact rowD_get hk)
  have hin : (i : Int) < (n : Int) := by omega
  generalize dayOf N nx i r = row at HCB
  clear hgp hgq hgb hrow hb hvl hmn hi
  refine CallS.enter' Tryz.func70 rfl Tryz.ntmps70 (by simp) fun f hd hf => ?_
  have f0 := hf 0
  have f1 := hf 1
  simp at f0 f1
  clear hf
  repeat' (first|(with_reducible first|refine zA ?_|refine zB fun K hK=>?_|refine zC fun K2 hK2=>?_|refine zD ?_|refine zE ?_|refine zF ?_|refine zG ?_|refine zH ?_|refine zI ?_|refine zM ?_|refine zN ?_|refine zO ?_|refine zP ?_|refine zQ ?_|refine zR ?_)|((with_reducible refine zU (hK _ _ ?_));clear hK K)|((with_reducible refine zV ?_ ?_ fun K1 K3 d hdst h1 h3=>?_);rfl;exact yB rfl;cases hdst;go_simp)|((with_reducible refine zW fun K1 K3 h1 h3=>?_);go_simp)|((first|refine h1 ?_|refine h3 ?_);clear h1 h3 K1 K3)|((first|refine zX (fun hb=>h1 ?_) (fun hb=>h3 ?_)|refine zX (fun hb=>h3 ?_) (fun hb=>h1 ?_))<;>(clear h1 h3 K1 K3;(try have hb2:=yC hb);(try have hb2:=yD hb);(try have hb2:=yE hb);(try have hb2:=yF hb);(try have hb2:=yG hb)))|(refine fun (K2:_→AHeap→Prop) hK2=>?_)|((with_reducible refine zY ?_ ?_);decide)|((with_reducible first|refine zZ ?_ (fun K hK=>?_)|refine yA ?_ (fun K hK=>?_));(focus go_simp;done);go_simp;refine hK _ _ ?_;clear hK K)|(go_simp;(try go_bits);refine hK2 _ _ ?_;clear hK2 K2))
  refine CodeS.loop (fun m f H' => ∃ (k s : Nat), k ≤ N ∧ m = N - k ∧ s < N ∧ f.tmp 16 = .int .i64 k ∧ f.tmp 15 = .int .i64 N ∧ f.tmp 14 = .slice (some ⟨b, 0, none⟩) N N ∧ f.tmp 0 = .pointer (some ⟨p, 0, none⟩) ∧ f.tmp 1 = .int .i64 i ∧ f.tmp 5 = .int .i64 s ∧ f.defers = [] ∧ Hid (soonGo row (N - k) k s = soonOf N row) ∧ H' = H) N ?_ ?_
  · exact ⟨0, 0, by omega, by omega, by omega, (by first|go_simp<;>go_num|assumption), (by first|go_simp<;>go_num|assumption), (by first|go_simp<;>go_num|assumption), (by first|go_simp<;>go_num|assumption), (by first|go_simp<;>go_num|assumption), (by first|go_simp<;>go_num|assumption), (by first|go_simp<;>go_num|assumption), Lib.hid rfl, rfl⟩
  clear f0 f1 hd f
  rintro m f _ ⟨k, s, hk, rfl, hs, f16, f15, f14, f0, f1, f5, hd, HG, rfl⟩
  by_cases hlt : k < N
  · have hck := HCB.out k hlt
    have hcs := HCB.out s hs
    have hG : soonGo row (N - (k + 1)) (k + 1) (if row k < row s then k else s) = soonOf N row := by
      have := HG.out
      rwa [show N - k = N - (k + 1) + 1 by omega, soonGo] at this
    have hki : (k : Int) < (N : Int) := by omega
    have hsi : (s : Int) < (N : Int) := by omega
    have HG2 := Lib.hid hG
    clear hG
    generalize hy1 : row k = y1 at hck HG2
    generalize hy2 : row s = y2 at hcs HG2
    clear hy1 hy2
    repeat' (first|(with_reducible first|refine zA ?_|refine zB fun K hK=>?_|refine zC fun K2 hK2=>?_|refine zD ?_|refine zE ?_|refine zF ?_|refine zG ?_|refine zH ?_|refine zI ?_|refine zM ?_|refine zN ?_|refine zO ?_|refine zP ?_|refine zQ ?_|refine zR ?_)|((with_reducible refine zU (hK _ _ ?_));clear hK K)|((with_reducible refine zV ?_ ?_ fun K1 K3 d hdst h1 h3=>?_);rfl;exact yB rfl;cases hdst;go_simp)|((with_reducible refine zW fun K1 K3 h1 h3=>?_);go_simp)|((first|refine h1 ?_|refine h3 ?_);clear h1 h3 K1 K3)|((first|refine zX (fun hb=>h1 ?_) (fun hb=>h3 ?_)|refine zX (fun hb=>h3 ?_) (fun hb=>h1 ?_))<;>(clear h1 h3 K1 K3;(try have hb2:=yC hb);(try have hb2:=yD hb);(try have hb2:=yE hb);(try have hb2:=yF hb);(try have hb2:=yG hb)))|(refine fun (K2:_→AHeap→Prop) hK2=>?_)|((with_reducible refine zY ?_ ?_);decide)|((with_reducible first|refine zZ ?_ (fun K hK=>?_)|refine yA ?_ (fun K hK=>?_));(focus go_simp;done);go_simp;refine hK _ _ ?_;clear hK K)|(go_simp;(try go_bits);refine hK2 _ _ ?_;clear hK2 K2))
    · exact Post.round_normal ⟨N - (k + 1), by omega, k + 1, k, by omega, rfl, by omega, (by first|go_simp<;>go_num|assumption), (by first|go_simp<;>go_num|assumption), (by first|go_simp<;>go_num|assumption), (by first|go_simp<;>go_num|assumption), (by first|go_simp<;>go_num|assumption), (by first|go_simp<;>go_num|assumption), (by first|go_simp<;>go_num|assumption), Lib.hid (by have := HG2.out; rwa [if_pos (by simpa using hb)] at this), rfl⟩
    · exact Post.round_normal ⟨N - (k + 1), by omega, k + 1, s, by omega, rfl, by omega, (by first|go_simp<;>go_num|assumption), (by first|go_simp<;>go_num|assumption), (by first|go_simp<;>go_num|assumption), (by first|go_simp<;>go_num|assumption), (by first|go_simp<;>go_num|assumption), (by first|go_simp<;>go_num|assumption), (by first|go_simp<;>go_num|assumption), Lib.hid (by have := HG2.out; rwa [if_neg (by simp at hb; omega)] at this), rfl⟩
  · have hke : k = N := by omega
    subst hke
    have hG := HG.out
    rw [Nat.sub_self, soonGo] at hG
    rw [← hG]
    clear hG HG
    repeat' (first|(with_reducible first|refine zA ?_|refine zB fun K hK=>?_|refine zC fun K2 hK2=>?_|refine zD ?_|refine zE ?_|refine zF ?_|refine zG ?_|refine zH ?_|refine zI ?_|refine zM ?_|refine zN ?_|refine zO ?_|refine zP ?_|refine zQ ?_|refine zR ?_)|((with_reducible refine zU (hK _ _ ?_));clear hK K)|((with_reducible refine zV ?_ ?_ fun K1 K3 d hdst h1 h3=>?_);rfl;exact yB rfl;cases hdst;go_simp)|((with_reducible refine zW fun K1 K3 h1 h3=>?_);go_simp)|((first|refine h1 ?_|refine h3 ?_);clear h1 h3 K1 K3)|((first|refine zX (fun hb=>h1 ?_) (fun hb=>h3 ?_)|refine zX (fun hb=>h3 ?_) (fun hb=>h1 ?_))<;>(clear h1 h3 K1 K3;(try have hb2:=yC hb);(try have hb2:=yD hb);(try have hb2:=yE hb);(try have hb2:=yF hb);(try have hb2:=yG hb)))|(refine fun (K2:_→AHeap→Prop) hK2=>?_)|((with_reducible refine zY ?_ ?_);decide)|((with_reducible first|refine zZ ?_ (fun K hK=>?_)|refine yA ?_ (fun K hK=>?_));(focus go_simp;done);go_simp;refine hK _ _ ?_;clear hK K)|(go_simp;(try go_bits);refine hK2 _ _ ?_;clear hK2 K2))
    exact ⟨rfl, rfl⟩

set_option maxHeartbeats 4000000 in
theorem before_x {loops : List (Nat × LInfo)} {N n m : Nat} {nx : Nat → Nat → Int → Int} {H0 H : AHeap} {p r i k : Nat} (h : RoundIs N n nx m H0 r p) (hx : Ext H0 H) (hi : i < m) (hm : m ≤ n) (hk : k < N) (hN8 : N ≤ 8) (hn : n ≤ 40) : CallS Tryz.prog loops 103 [.pointer (some ⟨p, 0, none⟩), .int .i64 ((i : Int) + 1), .int .i64 k] H fun v H' => (∃ p2, v = .tuple #[.pointer (some ⟨p2, 0, none⟩), .int .i64 ((befOf N (dayOf N nx i) r k).2 : Nat)] ∧ RoundIs N n nx m H0 (befOf N (dayOf N nx i) r k).1 p2) ∧ H' = H := by
  have hii : (i : Int) + 1 - 1 = (i : Int) := by omega
  cases r with
  | zero =>
    have hb : befOf N (dayOf N nx i) 0 k = (0, k) := by rw [befOf, if_neg (by omega)]
    rw [hb]
    have HI : Hid (RoundIs N n nx m H0 0 p) := Lib.hid h
    obtain ⟨hp, q, vs, hgp, hq, hgq, hvl, hmn, hrow⟩ := h.ext hx
    have hc1 : cellAt H p 1 = some (.pointer none) := by simp [cellAt, hgp]
    clear hgp hgq hrow hvl hb
    refine CallS.enter' Tryz.func103 rfl Tryz.ntmps103 (by simp) fun f hd hf => ?_
    have f0 := hf 0
    have f1 := hf 1
    have f2 := hf 2
    simp at f0 f1 f2
    clear hf
    repeat' (first|(with_reducible first|refine zA ?_|refine zB fun K hK=>?_|refine zC fun K2 hK2=>?_|refine zD ?_|refine zE ?_|refine zF ?_|refine zG ?_|refine zH ?_|refine zI ?_|refine zM ?_|refine zN ?_|refine zO ?_|refine zP ?_|refine zQ ?_|refine zR ?_)|((with_reducible refine zU (hK _ _ ?_));clear hK K)|((with_reducible refine zV ?_ ?_ fun K1 K3 d hdst h1 h3=>?_);rfl;exact yB rfl;cases hdst;go_simp)|((with_reducible refine zW fun K1 K3 h1 h3=>?_);go_simp)|((first|refine h1 ?_|refine h3 ?_);clear h1 h3 K1 K3)|((first|refine zX (fun hb=>h1 ?_) (fun hb=>h3 ?_)|refine zX (fun hb=>h3 ?_) (fun hb=>h1 ?_))<;>(clear h1 h3 K1 K3;(try have hb2:=yC hb);(try have hb2:=yD hb);(try have hb2:=yE hb);(try have hb2:=yF hb);(try have hb2:=yG hb)))|(refine fun (K2:_→AHeap→Prop) hK2=>?_)|((with_reducible refine zY ?_ ?_);decide)|((with_reducible first|refine zZ ?_ (fun K hK=>?_)|refine yA ?_ (fun K hK=>?_));(focus go_simp;done);go_simp;refine hK _ _ ?_;clear hK K)|(go_simp;(try go_bits);(try first | ((refine neqP_k (by first | (go_simp; done) | (go_simp; rfl)) (by first | (go_simp; done) | (go_simp; rfl)) ?_); go_simp));refine hK2 _ _ ?_;clear hK2 K2))
    exact ⟨⟨p, rfl, HI.out⟩, rfl⟩
  | succ r =>
    obtain ⟨p', h1, h2⟩ := h
    have HI1 : Hid (RoundIs N n nx m H0 (r + 1) p) := Lib.hid ⟨p', h1, h2⟩
    have HI0 := Lib.hid (h2.less hm)
    have h1 := h1.ext hx
    have h2 := h2.ext hx
    obtain ⟨lv, h3⟩ := h2.at_
    have HSO := Lib.hid (fun (loops : List (Nat × LInfo)) => soonest_s (loops := loops) (i := i) h3 (by omega) (by omega) hN8 hn)
    obtain ⟨hp, q, vs, hgp, hq, hgq, hvl, hmn, hrow⟩ := h1
    obtain ⟨b, hb, hbn, hgb⟩ := hrow i (by omega)
    obtain ⟨hp', q', vs', hgp', hq', hgq', hvl', hmn', hrow'⟩ := h3
    obtain ⟨b', hb', hbn', hgb'⟩ := hrow' i (by omega)
    have hc0 : cellAt H p 0 = some (.slice (some ⟨q, 0, none⟩) n n) := by simp [cellAt, hgp]
    have hc1 : cellAt H p 1 = some (.pointer (some ⟨p', 0, none⟩)) := by simp [cellAt, hgp]
    have hc0' : cellAt H p' 0 = some (.slice (some ⟨q', 0, none⟩) n n) := by simp [cellAt, hgp']
    have hcq : cellAt H q i = some (.slice (some ⟨b, 0, none⟩) N N) := by simp only [cellAt, hgq]; exact hb
    have hcq' : cellAt H q' i = some (.slice (some ⟨b', 0, none⟩) N N) := by simp only [cellAt, hgq']; exact hb'
    obtain ⟨hs1, -⟩ := soonOf_ok (N := N) (by omega) (dayOf N nx i r)
    have hcb : cellAt H b k = some (.int .i64 (dayOf N nx i (r + 1) k)) := by simp only [cellAt, hgb]; exact rowD_get hk
    have hcb' : cellAt H b' (soonOf N (dayOf N nx i r)) = some (.int .i64 (dayOf N nx i r (soonOf N (dayOf N nx i r)))) := by simp only [cellAt, hgb']; exact rowD_get hs1
    have hB : befOf N (dayOf N nx i) (r + 1) k = if dayOf N nx i r (soonOf N (dayOf N nx i r)) < dayOf N nx i (r + 1) k then (r, soonOf N (dayOf N nx i r)) else (r + 1, k) := by
      unfold befOf
      rw [Nat.add_sub_cancel]
      by_cases h9 : dayOf N nx i r (soonOf N (dayOf N nx i r)) < dayOf N nx i (r + 1) k
      · rw [if_pos ⟨by omega, h9⟩, if_pos h9]
      · rw [if_neg (fun h => h9 h.2), if_neg h9]
    rw [hB]
    clear hgp hgq hgb hrow hvl hb hgp' hgq' hgb' hrow' hvl' hb' hB h2
    generalize soonOf N (dayOf N nx i r) = sn at hs1 hcb' HSO ⊢
    generalize dayOf N nx i r sn = y0 at hcb' ⊢
    generalize dayOf N nx i (r + 1) k = y1 at hcb ⊢
    have hki : (k : Int) < (N : Int) := by omega
    have hsi : (sn : Int) < (N : Int) := by omega
    have hin : (i : Int) < (n : Int) := by omega
    refine CallS.enter' Tryz.func103 rfl Tryz.ntmps103 (by simp) fun f hd hf => ?_
    have f0 := hf 0
    have f1 := hf 1
    have f2 := hf 2
    simp at f0 f1 f2
    clear hf
    repeat' (first|(with_reducible first|refine zA ?_|refine zB fun K hK=>?_|refine zC fun K2 hK2=>?_|refine zD ?_|refine zE ?_|refine zF ?_|refine zG ?_|refine zH ?_|refine zI ?_|refine zM ?_|refine zN ?_|refine zO ?_|refine zP ?_|refine zQ ?_|refine zR ?_)|((with_reducible refine zU (hK _ _ ?_));clear hK K)|((with_reducible refine zV ?_ ?_ fun K1 K3 d hdst h1 h3=>?_);rfl;exact yB rfl;cases hdst;go_simp)|((with_reducible refine zW fun K1 K3 h1 h3=>?_);go_simp)|((first|refine h1 ?_|refine h3 ?_);clear h1 h3 K1 K3)|((first|refine zX (fun hb=>h1 ?_) (fun hb=>h3 ?_)|refine zX (fun hb=>h3 ?_) (fun hb=>h1 ?_))<;>(clear h1 h3 K1 K3;(try have hb2:=yC hb);(try have hb2:=yD hb);(try have hb2:=yE hb);(try have hb2:=yF hb);(try have hb2:=yG hb)))|(refine fun (K2:_→AHeap→Prop) hK2=>?_)|((with_reducible refine zY ?_ ?_);decide)|((with_reducible first|refine zZ ?_ (fun K hK=>?_)|refine yA ?_ (fun K hK=>?_));(focus go_simp;done);go_simp;refine hK _ _ ?_;clear hK K)|((with_reducible refine yH mixed rfl ?_ 20 fun K0 hK0=>?_);kernel_rfl)|(with_reducible first|exact yI|exact yJ|refine yK ?_|refine yL ?_|refine yM ?_)|((with_reducible first|refine yN ?_ ?_|refine yO ?_ ?_|refine yP ?_ ?_);rfl)|((with_reducible refine yQ ?_ ?_);rfl;refine hK0 _ _ ?_;clear hK0 K0)|((with_reducible refine yR ?_ ?_ ?_ ?_);rfl;rfl;rfl)|((with_reducible refine yS ?_ ?_ ?_ fun K2 hK2=>?_);rfl;rfl;exact yB rfl)|((with_reducible refine yT ?_ ?_ ?_ ?_ fun K1 K3 d hdst h1 h3=>?_);rfl;rfl;rfl;exact yB rfl;cases hdst;go_simp)|((with_reducible refine yU ?_ ?_ ?_ ?_ fun K1 K3 d hdst h1 h3=>?_);rfl;rfl;rfl;exact yB rfl;cases hdst;go_simp)|((with_reducible refine yV ?_ ?_ (fun K2 hK2=>?_) ?_);rfl;exact yB rfl)|((with_reducible refine yW ?_ ?_ ?_ ?_ (fun K2 hK2=>?_) ?_);rfl;exact yB rfl;rfl;(focus go_simp;done))|((with_reducible refine yX ?_ ?_ ?_ (fun K2 hK2=>?_) ?_);rfl;rfl;exact yB rfl)|((with_reducible refine yY ?_ ?_ (fun K2 hK2=>?_) ?_);rfl;rfl)|((with_reducible refine yZ ?_ ?_);(first|rfl|(dsimp only;decide +kernel)))|((with_reducible refine xA ?_ ?_);(focus go_simp;done))|(go_simp;(try go_bits);(try first | ((with_reducible show CallS _ _ _ _ _ _);refine CallS.mono (HSO.out _) ?_; rintro _ _ ⟨rfl, h9⟩; rw [h9]; clear h9; go_simp));(first|(refine hK2 _ _ ?_ ?_<;>clear hK2 K2)|(refine hK2 _ _ ?_;clear hK2 K2))))
    · rw [if_pos (by simp at hb; omega)]
      exact ⟨⟨p', rfl, HI0.out⟩, rfl⟩
    · rw [if_neg (by simp at hb; omega)]
      exact ⟨⟨p, rfl, HI1.out⟩, rfl⟩
theorem before_s {loops : List (Nat × LInfo)} {N n m : Nat} {nx : Nat → Nat → Int → Int} {H : AHeap} {p r i k : Nat} (h : RoundIs N n nx m H r p) (hi : i < m) (hm : m ≤ n) (hk : k < N) (hN8 : N ≤ 8) (hn : n ≤ 40) : CallS Tryz.prog loops 103 [.pointer (some ⟨p, 0, none⟩), .int .i64 ((i : Int) + 1), .int .i64 k] H fun v H' => (∃ p2, v = .tuple #[.pointer (some ⟨p2, 0, none⟩), .int .i64 ((befOf N (dayOf N nx i) r k).2 : Nat)] ∧ RoundIs N n nx m H (befOf N (dayOf N nx i) r k).1 p2) ∧ H' = H := before_x h (Ext.refl _) hi hm hk hN8 hn
end Go.Proofs.Tryz
namespace Go.Proofs.Tryz
open Go Go.Am Go.RowKit Go.Co
set_option maxRecDepth 100000

def errMix (l : List Sheet) (c : Copy) : Int := if errSheets l ≠ 0 then errSheets l else if l.length = 0 then 1 else if l.all (fun s => copyOk s c) then 0 else 1
theorem errGoL_all : ∀ {l : List Sheet}, errGoL l = 0 → ∀ s, s ∈ l → err s = 0
  | [], _, s, hs => by cases hs
  | a :: t, h, s, hs => by
    rw [errGoL] at h
    split at h
    · exact absurd h ‹_›
    · rcases List.mem_cons.1 hs with rfl | hs
      · simpa using ‹¬ err _ ≠ 0›
      · exact errGoL_all h s hs
theorem errSheets_all {l : List Sheet} (h : errSheets l = 0) : l.length ≤ 8 ∧ ∀ s, s ∈ l → err s = 0 := by
  unfold errSheets at h
  split at h
  · cases h
  · exact ⟨by omega, errGoL_all h⟩
theorem errMix_ok {l : List Sheet} {c : Copy} (h : errMix l c = 0) : 1 ≤ l.length ∧ l.length ≤ 8 ∧ ∀ s, s ∈ l → errCopy s c = 0 := by
  unfold errMix at h
  split at h
  · exact absurd h ‹_›
  · rename_i h1
    have h2 := errSheets_all (by simpa using h1)
    split at h
    · cases h
    · split at h
      · rename_i h3 h4
        rw [List.all_eq_true] at h4
        refine ⟨by omega, h2.1, fun s hs => ?_⟩
        rw [errCopy, if_neg (by simp [h2.2 s hs]), if_pos (h4 s hs)]
      · cases h
set_option maxHeartbeats 4000000 in
theorem checkMix_s {loops : List (Nat × LInfo)} {H : AHeap} {v cv : Value} {l : List Sheet} {c : Copy} (hv : SheetsV H v l) (hc : CopyV H cv c) : CallS Tryz.prog loops 67 [v, cv] H fun r H' => r = .int .i64 (errMix l c) ∧ H' = H := by
  refine CallS.forget (R := fun v => v = .int .i64 (errMix l c)) (by rintro v rfl; rfl) ?_
  obtain ⟨hlen, a, ac, rfl⟩ := hv.slice
  have HV := Lib.hid hv
  have HC := Lib.hid hc
  obtain ⟨cv, rfl, hcw⟩ := hc
  obtain ⟨hcl, ca, cc, rfl⟩ := hcw.slice
  clear hv hcw
  have HME : Hid (errMix l c = if errSheets l ≠ 0 then errSheets l else if l.length = 0 then 1 else if l.all (fun s => copyOk s c) then 0 else 1) := Lib.hid rfl
  have HAL := Lib.hid (@errSheets_all l)
  have HCS := Lib.hid (fun (loops : List (Nat × LInfo)) (H2 : AHeap) (hx : Ext H H2) => checkSheets_s (loops := loops) (HV.out.ext hx))
  generalize errMix l c = res at HME
  generalize errSheets l = es at HAL HME HCS
  refine CallS.enter' Tryz.func67 rfl Tryz.ntmps67 (by simp) fun f hd hf => ?_
  have f0 := hf 0
  have f1 := hf 1
  simp at f0 f1
  clear hf
  by_cases hes : es = 0
  · subst hes
    obtain ⟨h8, hall⟩ := HAL.out rfl
    by_cases hl0 : l.length = 0
    · have hlb : ((l.length : Int) == 0) = true := by simp [hl0]
      have hr : res = 1 := by rw [HME.out, if_neg (by simp), if_pos hl0]
      rw [hr]
      clear hl0
      repeat' (first|(with_reducible first|refine zA ?_|refine zB fun K hK=>?_|refine zC fun K2 hK2=>?_|refine zD ?_|refine zE ?_|refine zF ?_|refine zG ?_|refine zH ?_|refine zI ?_|refine zM ?_|refine zN ?_|refine zO ?_|refine zP ?_|refine zQ ?_|refine zR ?_)|((with_reducible refine zU (hK _ _ ?_));clear hK K)|((with_reducible refine zV ?_ ?_ fun K1 K3 d hdst h1 h3=>?_);rfl;exact yB rfl;cases hdst;go_simp)|((with_reducible refine zW fun K1 K3 h1 h3=>?_);go_simp)|((first|refine h1 ?_|refine h3 ?_);clear h1 h3 K1 K3)|((first|refine zX (fun hb=>h1 ?_) (fun hb=>h3 ?_)|refine zX (fun hb=>h3 ?_) (fun hb=>h1 ?_))<;>(clear h1 h3 K1 K3;(try have hb2:=yC hb);(try have hb2:=yD hb);(try have hb2:=yE hb);(try have hb2:=yF hb);(try have hb2:=yG hb)))|(refine fun (K2:_→AHeap→Prop) hK2=>?_)|((with_reducible refine zY ?_ ?_);decide)|((with_reducible first|refine zZ ?_ (fun K hK=>?_)|refine yA ?_ (fun K hK=>?_));(focus go_simp;done);go_simp;refine hK _ _ ?_;clear hK K)|(go_simp;(try go_bits);(try first | ((with_reducible show CallS _ _ _ _ _ _);refine CallS.mono (HCS.out _ _ (Ext.push _)) ?_; rintro _ _ ⟨rfl, h9⟩; rw [h9]; clear h9; go_simp));refine hK2 _ _ ?_;clear hK2 K2))
      exact ⟨rfl, Ext.push _⟩
    have hlb : ((l.length : Int) == 0) = false := by simpa using (show ¬ (l.length : Int) = 0 by omega)
    have HR : Hid (res = if l.all (fun s => copyOk s c) then 0 else 1) := Lib.hid (by rw [HME.out, if_neg (by simp), if_neg hl0])
    have HER := Lib.hid hall
    clear hall HAL HME hl0
    repeat' (first|(with_reducible first|refine zA ?_|refine zB fun K hK=>?_|refine zC fun K2 hK2=>?_|refine zD ?_|refine zE ?_|refine zF ?_|refine zG ?_|refine zH ?_|refine zI ?_|refine zM ?_|refine zN ?_|refine zO ?_|refine zP ?_|refine zQ ?_|refine zR ?_)|((with_reducible refine zU (hK _ _ ?_));clear hK K)|((with_reducible refine zV ?_ ?_ fun K1 K3 d hdst h1 h3=>?_);rfl;exact yB rfl;cases hdst;go_simp)|((with_reducible refine zW fun K1 K3 h1 h3=>?_);go_simp)|((first|refine h1 ?_|refine h3 ?_);clear h1 h3 K1 K3)|((first|refine zX (fun hb=>h1 ?_) (fun hb=>h3 ?_)|refine zX (fun hb=>h3 ?_) (fun hb=>h1 ?_))<;>(clear h1 h3 K1 K3;(try have hb2:=yC hb);(try have hb2:=yD hb);(try have hb2:=yE hb);(try have hb2:=yF hb);(try have hb2:=yG hb)))|(refine fun (K2:_→AHeap→Prop) hK2=>?_)|((with_reducible refine zY ?_ ?_);decide)|((with_reducible first|refine zZ ?_ (fun K hK=>?_)|refine yA ?_ (fun K hK=>?_));(focus go_simp;done);go_simp;refine hK _ _ ?_;clear hK K)|(go_simp;(try go_bits);(try first | ((with_reducible show CallS _ _ _ _ _ _);refine CallS.mono (HCS.out _ _ (Ext.push _)) ?_; rintro _ _ ⟨rfl, h9⟩; rw [h9]; clear h9; go_simp));refine hK2 _ _ ?_;clear hK2 K2))
    refine CodeS.loop (fun m f H' => ∃ k : Nat, k ≤ l.length ∧ m = l.length - k ∧ f.tmp 19 = .int .i64 k ∧ f.tmp 18 = .int .i64 l.length ∧ f.tmp 17 = .slice a l.length ac ∧ f.tmp 3 = .pointer (some ⟨H.n, 0, none⟩) ∧ f.defers = [] ∧ H.n < H'.n ∧ Hid (Ext H H') ∧ Hid (H'.get H.n = .row [Value.slice ca c.words.length cc, .int .i64 c.beg, .int .i64 c.fin, .int .i64 c.per] 27) ∧ Hid (l.all (fun s => copyOk s c) = (l.drop k).all (fun s => copyOk s c))) l.length ?_ ?_
    · exact ⟨0, by simp, by simp, (by first|go_simp<;>go_num|assumption), (by first|go_simp<;>go_num|assumption), (by first|go_simp<;>go_num|assumption), (by first|go_simp<;>go_num|assumption), (by first|go_simp<;>go_num|assumption), by rw [AHeap.n_push]; omega, Lib.hid (Ext.push _), Lib.hid AHeap.get_push_new, Lib.hid (by simp)⟩
    clear f0 f1 hd f hlb
    rintro m f H' ⟨k, hk, rfl, f19, f18, f17, f3, hd, hn0, HX, HG0, HA⟩
    have hg0 := HG0.out
    have hc0 : cellsAt H' H.n 0 4 = some [Value.slice ca c.words.length cc, .int .i64 c.beg, .int .i64 c.fin, .int .i64 c.per] := by simp [cellsAt, hg0]
    clear hg0
    by_cases hlt : k < l.length
    · obtain ⟨b, o, sp, wv, av, rfl, hb, hx, hsv⟩ := (HV.out.ext HX.out).at_ hlt
      have he := HER.out l[k] (List.getElem_mem hlt)
      have HD := Lib.hid (List.drop_eq_getElem_cons hlt)
      have HS := Lib.hid hsv
      generalize l[k] = s at HS HD hsv he
      obtain ⟨wv', av', hva, hw, ha⟩ := hsv
      cases hva
      obtain ⟨-, wa, wc, rfl⟩ := hw.slice
      obtain ⟨-, aa, aac, rfl⟩ := ha.slice
      clear hw ha
      have hec : errCopy s c = if copyOk s c then 0 else 1 := by rw [errCopy, if_neg (by simp [he])]
      have HCC := Lib.hid (fun (loops : List (Nat × LInfo)) => checkCopy_s (loops := loops) (s := s) (c := c) (HS.out.ext (Ext.push (.row [.slice wa s.words.length wc, .slice aa s.alts.length aac] 25))) (HC.out.ext (HX.out.push' _)))
      have HA2 : Hid (l.all (fun s => copyOk s c) = (copyOk s c && (l.drop (k + 1)).all (fun s => copyOk s c))) := Lib.hid (by rw [HA.out, HD.out, List.all_cons])
      rw [hec] at HCC
      clear hec he
      cases hok : copyOk s c
      · rw [hok] at HCC
        have hr : res = 1 := by rw [HR.out, HA2.out, hok]; rfl
        rw [hr]
        clear hok
        repeat' (first|(with_reducible first|refine zA ?_|refine zB fun K hK=>?_|refine zC fun K2 hK2=>?_|refine zD ?_|refine zE ?_|refine zF ?_|refine zG ?_|refine zH ?_|refine zI ?_|refine zM ?_|refine zN ?_|refine zO ?_|refine zP ?_|refine zQ ?_|refine zR ?_)|((with_reducible refine zU (hK _ _ ?_));clear hK K)|((with_reducible refine zV ?_ ?_ fun K1 K3 d hdst h1 h3=>?_);rfl;exact yB rfl;cases hdst;go_simp)|((with_reducible refine zW fun K1 K3 h1 h3=>?_);go_simp)|((first|refine h1 ?_|refine h3 ?_);clear h1 h3 K1 K3)|((first|refine zX (fun hb=>h1 ?_) (fun hb=>h3 ?_)|refine zX (fun hb=>h3 ?_) (fun hb=>h1 ?_))<;>(clear h1 h3 K1 K3;(try have hb2:=yC hb);(try have hb2:=yD hb);(try have hb2:=yE hb);(try have hb2:=yF hb);(try have hb2:=yG hb)))|(refine fun (K2:_→AHeap→Prop) hK2=>?_)|((with_reducible refine zY ?_ ?_);decide)|((with_reducible first|refine zZ ?_ (fun K hK=>?_)|refine yA ?_ (fun K hK=>?_));(focus go_simp;done);go_simp;refine hK _ _ ?_;clear hK K)|(go_simp;(try go_bits);(try first | ((with_reducible show CallS _ _ _ _ _ _);refine CallS.mono (HCC.out _) ?_; rintro _ _ ⟨rfl, h9⟩; rw [h9]; clear h9; go_simp));refine hK2 _ _ ?_;clear hK2 K2))
        exact ⟨rfl, HX.out.push' _⟩
      · rw [hok] at HCC
        have HOK := Lib.hid hok
        clear hok
        repeat' (first|(with_reducible first|refine zA ?_|refine zB fun K hK=>?_|refine zC fun K2 hK2=>?_|refine zD ?_|refine zE ?_|refine zF ?_|refine zG ?_|refine zH ?_|refine zI ?_|refine zM ?_|refine zN ?_|refine zO ?_|refine zP ?_|refine zQ ?_|refine zR ?_)|((with_reducible refine zU (hK _ _ ?_));clear hK K)|((with_reducible refine zV ?_ ?_ fun K1 K3 d hdst h1 h3=>?_);rfl;exact yB rfl;cases hdst;go_simp)|((with_reducible refine zW fun K1 K3 h1 h3=>?_);go_simp)|((first|refine h1 ?_|refine h3 ?_);clear h1 h3 K1 K3)|((first|refine zX (fun hb=>h1 ?_) (fun hb=>h3 ?_)|refine zX (fun hb=>h3 ?_) (fun hb=>h1 ?_))<;>(clear h1 h3 K1 K3;(try have hb2:=yC hb);(try have hb2:=yD hb);(try have hb2:=yE hb);(try have hb2:=yF hb);(try have hb2:=yG hb)))|(refine fun (K2:_→AHeap→Prop) hK2=>?_)|((with_reducible refine zY ?_ ?_);decide)|((with_reducible first|refine zZ ?_ (fun K hK=>?_)|refine yA ?_ (fun K hK=>?_));(focus go_simp;done);go_simp;refine hK _ _ ?_;clear hK K)|(go_simp;(try go_bits);(try first | ((with_reducible show CallS _ _ _ _ _ _);refine CallS.mono (HCC.out _) ?_; rintro _ _ ⟨rfl, h9⟩; rw [h9]; clear h9; go_simp));refine hK2 _ _ ?_;clear hK2 K2))
        exact Post.round_normal ⟨l.length - (k + 1), by omega, k + 1, by omega, rfl, (by first|go_simp<;>go_num|assumption), (by first|go_simp<;>go_num|assumption), (by first|go_simp<;>go_num|assumption), (by first|go_simp<;>go_num|assumption), (by first|go_simp<;>go_num|assumption), by rw [AHeap.n_push]; omega, Lib.hid (HX.out.push' _), Lib.hid (by rw [AHeap.get_push_old hn0]; exact HG0.out), Lib.hid (by rw [HA2.out, HOK.out]; rfl)⟩
    · have hr : res = 0 := by rw [HR.out, HA.out, List.drop_eq_nil_of_le (by omega)]; rfl
      rw [hr]
      repeat' (first|(with_reducible first|refine zA ?_|refine zB fun K hK=>?_|refine zC fun K2 hK2=>?_|refine zD ?_|refine zE ?_|refine zF ?_|refine zG ?_|refine zH ?_|refine zI ?_|refine zM ?_|refine zN ?_|refine zO ?_|refine zP ?_|refine zQ ?_|refine zR ?_)|((with_reducible refine zU (hK _ _ ?_));clear hK K)|((with_reducible refine zV ?_ ?_ fun K1 K3 d hdst h1 h3=>?_);rfl;exact yB rfl;cases hdst;go_simp)|((with_reducible refine zW fun K1 K3 h1 h3=>?_);go_simp)|((first|refine h1 ?_|refine h3 ?_);clear h1 h3 K1 K3)|((first|refine zX (fun hb=>h1 ?_) (fun hb=>h3 ?_)|refine zX (fun hb=>h3 ?_) (fun hb=>h1 ?_))<;>(clear h1 h3 K1 K3;(try have hb2:=yC hb);(try have hb2:=yD hb);(try have hb2:=yE hb);(try have hb2:=yF hb);(try have hb2:=yG hb)))|(refine fun (K2:_→AHeap→Prop) hK2=>?_)|((with_reducible refine zY ?_ ?_);decide)|((with_reducible first|refine zZ ?_ (fun K hK=>?_)|refine yA ?_ (fun K hK=>?_));(focus go_simp;done);go_simp;refine hK _ _ ?_;clear hK K)|(go_simp;(try go_bits);refine hK2 _ _ ?_;clear hK2 K2))
      exact ⟨rfl, HX.out⟩
  · have heb : (es != 0) = true := by simpa using hes
    have hr : res = es := by rw [HME.out, if_pos hes]
    rw [hr]
    repeat' (first|(with_reducible first|refine zA ?_|refine zB fun K hK=>?_|refine zC fun K2 hK2=>?_|refine zD ?_|refine zE ?_|refine zF ?_|refine zG ?_|refine zH ?_|refine zI ?_|refine zM ?_|refine zN ?_|refine zO ?_|refine zP ?_|refine zQ ?_|refine zR ?_)|((with_reducible refine zU (hK _ _ ?_));clear hK K)|((with_reducible refine zV ?_ ?_ fun K1 K3 d hdst h1 h3=>?_);rfl;exact yB rfl;cases hdst;go_simp)|((with_reducible refine zW fun K1 K3 h1 h3=>?_);go_simp)|((first|refine h1 ?_|refine h3 ?_);clear h1 h3 K1 K3)|((first|refine zX (fun hb=>h1 ?_) (fun hb=>h3 ?_)|refine zX (fun hb=>h3 ?_) (fun hb=>h1 ?_))<;>(clear h1 h3 K1 K3;(try have hb2:=yC hb);(try have hb2:=yD hb);(try have hb2:=yE hb);(try have hb2:=yF hb);(try have hb2:=yG hb)))|(refine fun (K2:_→AHeap→Prop) hK2=>?_)|((with_reducible refine zY ?_ ?_);decide)|((with_reducible first|refine zZ ?_ (fun K hK=>?_)|refine yA ?_ (fun K hK=>?_));(focus go_simp;done);go_simp;refine hK _ _ ?_;clear hK K)|(go_simp;(try go_bits);(try first | ((with_reducible show CallS _ _ _ _ _ _);refine CallS.mono (HCS.out _ _ (Ext.push _)) ?_; rintro _ _ ⟨rfl, h9⟩; rw [h9]; clear h9; go_simp));refine hK2 _ _ ?_;clear hK2 K2))
    exact ⟨rfl, Ext.push _⟩
end Go.Proofs.Tryz
