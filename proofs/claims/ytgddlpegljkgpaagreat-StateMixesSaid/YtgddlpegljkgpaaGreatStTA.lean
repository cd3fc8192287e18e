/- Contracts of functions, walked. -/
import Derived.Test.YtgddlpegljkgpaaGreatStSZ
import Derived.Test.YtgddlpegljkgpaaGreatStSF
import Derived.Test.YtgddlpegljkgpaaGreatStSN
set_option linter.all false
namespace Go.Proofs.Tryz
open Go Go.Am Go.RowKit Go.Co
set_option maxRecDepth 100000

def itemR (xs : List Value) (i : Nat) : Value := .tuple #[.int .i64 i, xs.getD i (.int .i64 0)]
theorem cells1_slice {H : AHeap} {v : Value} {n : Nat} {xs : List Value} (h : Cells H v 1 n xs) : n ≤ 9223372036854775807 ∧ ∃ a c, v = .slice a n c := by
  obtain ⟨h1, h2, a', c', h3, h4⟩ := h
  exact ⟨h2, a', c', h3⟩
theorem cells1_at {H : AHeap} {a : Option Addr} {n c : Nat} {xs : List Value} (h : Cells H (.slice a n c) 1 xs.length xs) {k : Nat} (hk : k < xs.length) : ∃ b o sp, a = some ⟨b, o, sp⟩ ∧ b < H.n ∧ cellAt H b (o + k) = some xs[k] := by
  obtain ⟨h1, h2, a', c', h3, h4⟩ := h
  cases h3
  obtain ⟨b, o, sp, h5, h6, h7⟩ := h4 (by omega)
  exact ⟨b, o, sp, h5, h6, h7 k _ (by simp [hk])⟩

theorem backR_gives {loops ls : List (Nat × LInfo)} {H H0 : AHeap} {l room : Nat} {Rd : Nat → Prop} {It : Value → Prop} {S : List Value → (Nat → Prop) → AHeap → Prop} {L : List Value} {D : Nat → Prop} {p : Nat} {lv : Value} {xs : List Value}
    (hfl : LExt ls loops) (hg : Gen2 Tryz.prog l ls Rd room It S) (hS : S L D H) (hp : p < H.n) (hpD : ¬ D p) (hgp : H.get p = .row [lv] 77) (hl : Cells H0 lv 1 xs.length xs) (hx : Ext H0 H) (hb : ∀ i, D i → H0.n ≤ i) (hit : ∀ i, i < xs.length → It (itemR xs i)) (hro : L.length + xs.length ≤ room) :
    CallS Tryz.prog loops 131 [.func (.yield l) #[] #[], .pointer (some ⟨p, 0, none⟩)] H fun _ H' => ∃ D', S (L ++ backL (itemR xs) xs.length) D' H' ∧ Step D H D' H' := by
  obtain ⟨hll, la, lc, rfl⟩ := cells1_slice hl
  have hcp : cellAt H p 0 = some (.slice la xs.length lc) := by simp [cellAt, hgp]
  have HFL := Lib.hid hfl
  have HG := Lib.hid hg
  have HS := Lib.hid hS
  have HGP := Lib.hid hgp
  have HLI := Lib.hid hl
  have HX := Lib.hid hx
  have HB := Lib.hid hb
  have HPD := Lib.hid hpD
  have HIT := Lib.hid hit
  have HRO := Lib.hid hro
  generalize hitems : backL (itemR xs) xs.length = items
  have HITS := Lib.hid hitems
  clear hfl hg hS hgp hl hx hb hpD hit hro hitems
  refine CallS.enter' Tryz.func131 rfl Tryz.ntmps131 (by simp) fun f hd hf => ?_
  have f0 := hf 0
  have f1 := hf 1
  simp at f0 f1
  clear hf
  repeat' (first|(with_reducible first|refine zA ?_|refine zB fun K hK=>?_|refine zC fun K2 hK2=>?_|refine zD ?_|refine zE ?_|refine zF ?_|refine zG ?_|refine zH ?_|refine zI ?_|refine zM ?_|refine zN ?_|refine zO ?_|refine zP ?_|refine zQ ?_|refine zR ?_)|((with_reducible refine zU (hK _ _ ?_));clear hK K)|((with_reducible refine zV ?_ ?_ fun K1 K3 d hdst h1 h3=>?_);rfl;exact yB rfl;cases hdst;go_simp)|((with_reducible refine zW fun K1 K3 h1 h3=>?_);go_simp)|((first|refine h1 ?_|refine h3 ?_);clear h1 h3 K1 K3)|((first|refine zX (fun hb=>h1 ?_) (fun hb=>h3 ?_)|refine zX (fun hb=>h3 ?_) (fun hb=>h1 ?_))<;>(clear h1 h3 K1 K3;(try have hb2:=yC hb);(try have hb2:=yD hb);(try have hb2:=yE hb);(try have hb2:=yF hb);(try have hb2:=yG hb)))|(refine fun (K2:_→AHeap→Prop) hK2=>?_)|((with_reducible refine zY ?_ ?_);decide)|((with_reducible first|refine zZ ?_ (fun K hK=>?_)|refine yA ?_ (fun K hK=>?_));(focus go_simp;done);go_simp;refine hK _ _ ?_;clear hK K)|(go_simp;(try go_bits);refine hK2 _ _ ?_;clear hK2 K2))
  refine CodeS.loop (fun m f H' => ∃ (r : Nat) (D' : Nat → Prop) (L' : List Value), r ≤ xs.length ∧ m = r ∧ f.tmp 3 = .int .i64 ((r : Int) - 1) ∧ f.tmp 0 = .func (.yield l) #[] #[] ∧ f.tmp 1 = .pointer (some ⟨p, 0, none⟩) ∧ f.defers = [] ∧ Hid (S L' D' H') ∧ Hid (Step D H D' H') ∧ Hid (L' ++ backL (itemR xs) r = L ++ items) ∧ L'.length + r = L.length + xs.length) xs.length ?_ ?_
  · exact ⟨xs.length, D, L, Nat.le_refl _, rfl, (by first|go_simp<;>go_num|assumption), (by first|go_simp<;>go_num|assumption), (by first|go_simp<;>go_num|assumption), (by first|go_simp<;>go_num|assumption), HS, Lib.hid (Step.refl _ _), Lib.hid (by rw [HITS.out]), rfl⟩
  clear f0 f1 hd f HS
  rintro m f H' ⟨r, D', L', hr, hmr, f3, f0, f1, hd, HS, HST, HL, hln⟩
  have hcp' : cellAt H' p 0 = some (.slice la xs.length lc) := (cellAt_get (HST.out.get p hp HPD.out)).trans hcp
  rcases Nat.eq_zero_or_pos r with hr0 | hr0
  · have h9 : ¬ ((1 : Int) ≤ (r : Int)) := by omega
    have h8 : ¬ ((0 : Int) ≤ (r : Int) - 1) := by omega
    have h7 : ¬ (0 < r) := by omega
    have h6 : ¬ (1 ≤ r) := by omega
    have HR0 := Lib.hid hr0
    clear hr0
    repeat' (first|(with_reducible first|refine zA ?_|refine zB fun K hK=>?_|refine zC fun K2 hK2=>?_|refine zD ?_|refine zE ?_|refine zF ?_|refine zG ?_|refine zH ?_|refine zI ?_|refine zM ?_|refine zN ?_|refine zO ?_|refine zP ?_|refine zQ ?_|refine zR ?_)|((with_reducible refine zU (hK _ _ ?_));clear hK K)|((with_reducible refine zV ?_ ?_ fun K1 K3 d hdst h1 h3=>?_);rfl;exact yB rfl;cases hdst;go_simp)|((with_reducible refine zW fun K1 K3 h1 h3=>?_);go_simp)|((first|refine h1 ?_|refine h3 ?_);clear h1 h3 K1 K3)|((first|refine zX (fun hb=>h1 ?_) (fun hb=>h3 ?_)|refine zX (fun hb=>h3 ?_) (fun hb=>h1 ?_))<;>(clear h1 h3 K1 K3;(try have hb2:=yC hb);(try have hb2:=yD hb);(try have hb2:=yE hb);(try have hb2:=yF hb);(try have hb2:=yG hb)))|(refine fun (K2:_→AHeap→Prop) hK2=>?_)|((with_reducible refine zY ?_ ?_);decide)|((with_reducible first|refine zZ ?_ (fun K hK=>?_)|refine yA ?_ (fun K hK=>?_));(focus go_simp;done);go_simp;refine hK _ _ ?_;clear hK K)|(go_simp;(try go_bits);refine hK2 _ _ ?_;clear hK2 K2))
    all_goals (try (exfalso; omega))
    refine ⟨D', ?_, HST.out⟩
    have h5 := HL.out
    rw [HR0.out] at h5
    rw [← h5]; simpa [backL] using HS.out
  · obtain ⟨b, o, sp, rfl, hb, hxc⟩ := cells1_at HLI.out (k := r - 1) (by omega)
    have hbd : ¬ D b := fun h => by have := HB.out b h; omega
    have hxc' : cellAt H' b (o + (r - 1)) = some (xs[r - 1]'(by omega)) := (cellAt_get (HST.out.get b (Nat.lt_of_lt_of_le hb HX.out.n) hbd)).trans ((HX.out.cellAt hb).trans hxc)
    have hgd : xs.getD (r - 1) (.int .i64 0) = xs[r - 1]'(by omega) := by simp [List.getD_eq_getElem?_getD, show r - 1 < xs.length by omega]
    have hIT : It (.tuple #[.int .i64 ((r : Int) - 1), xs[r - 1]'(by omega)]) := by
      have h := HIT.out (r - 1) (by omega)
      rw [itemR, hgd, show ((r - 1 : Nat) : Int) = (r : Int) - 1 by omega] at h
      exact h
    have hbk : Hid (backL (itemR xs) r = .tuple #[.int .i64 ((r : Int) - 1), xs[r - 1]'(by omega)] :: backL (itemR xs) (r - 1)) := Lib.hid (by
      rw [← hgd, ← show ((r - 1 : Nat) : Int) = (r : Int) - 1 by omega]
      conv => lhs; rw [show r = (r - 1) + 1 by omega, backL]
      rfl)
    generalize xs[r - 1]'(by omega) = x at hxc' hIT hbk
    have HIX := Lib.hid hIT
    clear hIT hgd hxc
    have h0i : (0 : Int) ≤ (r : Int) - 1 := by omega
    have h1i : (r : Int) - 1 < (xs.length : Int) := by omega
    have h2i : (1 : Int) ≤ (r : Int) := by omega
    have h3i : 1 ≤ r := by omega
    have hroom : L'.length < room := by have := HRO.out; omega
    repeat' (first|(with_reducible first|refine zA ?_|refine zB fun K hK=>?_|refine zC fun K2 hK2=>?_|refine zD ?_|refine zE ?_|refine zF ?_|refine zG ?_|refine zH ?_|refine zI ?_|refine zM ?_|refine zN ?_|refine zO ?_|refine zP ?_|refine zQ ?_|refine zR ?_)|((with_reducible refine zU (hK _ _ ?_));clear hK K)|((with_reducible refine zV ?_ ?_ fun K1 K3 d hdst h1 h3=>?_);rfl;exact yB rfl;cases hdst;go_simp)|((with_reducible refine zW fun K1 K3 h1 h3=>?_);go_simp)|((first|refine h1 ?_|refine h3 ?_);clear h1 h3 K1 K3)|((first|refine zX (fun hb=>h1 ?_) (fun hb=>h3 ?_)|refine zX (fun hb=>h3 ?_) (fun hb=>h1 ?_))<;>(clear h1 h3 K1 K3;(try have hb2:=yC hb);(try have hb2:=yD hb);(try have hb2:=yE hb);(try have hb2:=yF hb);(try have hb2:=yG hb)))|(refine fun (K2:_→AHeap→Prop) hK2=>?_)|((with_reducible refine zY ?_ ?_);decide)|((with_reducible first|refine zZ ?_ (fun K hK=>?_)|refine yA ?_ (fun K hK=>?_));(focus go_simp;done);go_simp;refine hK _ _ ?_;clear hK K)|(go_simp;(try go_bits);(try first | ((refine RoundS.mono (HG.out.round (v := .tuple #[.int .i64 ((r : Int) - 1), x]) HFL.out hroom HIX.out HS.out) ?_); rintro _ H3 ⟨rfl, D3, hS3, hst3⟩; (have HS3 := Lib.hid hS3); (have HST3 := Lib.hid hst3); clear hS3 hst3));refine hK2 _ _ ?_;clear hK2 K2))
    refine Post.round_normal ⟨r - 1, by omega, r - 1, D3, _, by omega, rfl, ?_, (by first|go_simp<;>go_num|assumption), (by first|go_simp<;>go_num|assumption), (by first|go_simp<;>go_num|assumption), HS3, Lib.hid (HST.out.trans HST3.out), Lib.hid ?_, ?_⟩
    · have e : ((r - 1 : Nat) : Int) - 1 = (r : Int) - 1 - 1 := by omega
      rw [e]
      first | (go_simp; done) | (go_simp; go_num; done)
    · rw [← HL.out, hbk.out]; simp
    · simp; omega

def BackRAt (Hb H : AHeap) (p : Nat) (v : Value) (xs : List Value) : Prop := ∃ lv, v = .func (.func 131) #[] #[.pointer (some ⟨p, 0, none⟩)] ∧ p < H.n ∧ H.get p = .row [lv] 77 ∧ Cells Hb lv 1 xs.length xs ∧ Ext Hb H
theorem BackRAt.gives {Hb H : AHeap} {p : Nat} {v : Value} {xs : List Value} (h : BackRAt Hb H p v xs) {It : Value → Prop} (hit : ∀ i, i < xs.length → It (itemR xs i)) : Gives2 Tryz.prog H (fun i => i < Hb.n ∨ i = p) xs.length v It (backL (itemR xs) xs.length) := by
  obtain ⟨lv, rfl, h2, h3, h4, h5⟩ := h
  refine ⟨131, _, rfl, by kernel_rfl, ?_, fun loops ls H' l Rd room S L D hf hg hS hn hR hr => ?_⟩
  · rintro i (h | rfl)
    · exact Nat.lt_of_lt_of_le h h5.n
    · exact h2
  · refine backR_gives (H0 := Hb) hf hg hS (Nat.lt_of_lt_of_le h2 hn) (hR p (.inr rfl)).2 ((hR p (.inr rfl)).1.trans h3) h4 ⟨Nat.le_trans h5.n hn, fun i hi => (hR i (.inl hi)).1.trans (h5.get i hi)⟩ (fun i hi => ?_) hit hr
    rcases Nat.lt_or_ge i Hb.n with h0 | h0
    · exact absurd hi (hR i (.inl h0)).2
    · exact h0
end Go.Proofs.Tryz
namespace Go.Proofs.Tryz
open Go Go.Am Go.RowKit Go.Co
set_option maxRecDepth 100000

def itemS (xs : List (Int × Int)) (i : Nat) : Value := .tuple #[.int .i64 i, spanVal (xs.getD i (0, 0))]
theorem backS_gives {loops ls : List (Nat × LInfo)} {H H0 : AHeap} {l room : Nat} {Rd : Nat → Prop} {It : Value → Prop} {S : List Value → (Nat → Prop) → AHeap → Prop} {L : List Value} {D : Nat → Prop} {p : Nat} {lv : Value} {xs : List (Int × Int)}
    (hfl : LExt ls loops) (hg : Gen2 Tryz.prog l ls Rd room It S) (hS : S L D H) (hp : p < H.n) (hpD : ¬ D p) (hgp : H.get p = .row [lv] 64) (hl : Spans H0 lv xs) (hx : Ext H0 H) (hb : ∀ i, D i → H0.n ≤ i) (hit : ∀ i, i < xs.length → It (itemS xs i)) (hro : L.length + xs.length ≤ room) :
    CallS Tryz.prog loops 132 [.func (.yield l) #[] #[], .pointer (some ⟨p, 0, none⟩)] H fun _ H' => ∃ D', S (L ++ backL (itemS xs) xs.length) D' H' ∧ Step D H D' H' := by
  obtain ⟨hll, la, lc, rfl⟩ := hl.slice
  have hcp : cellAt H p 0 = some (.slice la xs.length lc) := by simp [cellAt, hgp]
  have HFL := Lib.hid hfl
  have HG := Lib.hid hg
  have HS := Lib.hid hS
  have HGP := Lib.hid hgp
  have HLI := Lib.hid hl
  have HX := Lib.hid hx
  have HB := Lib.hid hb
  have HPD := Lib.hid hpD
  have HIT := Lib.hid hit
  have HRO := Lib.hid hro
  generalize hitems : backL (itemS xs) xs.length = items
  have HITS := Lib.hid hitems
  clear hfl hg hS hgp hl hx hb hpD hit hro hitems
  refine CallS.enter' Tryz.func132 rfl Tryz.ntmps132 (by simp) fun f hd hf => ?_
  have f0 := hf 0
  have f1 := hf 1
  simp at f0 f1
  clear hf
  repeat' (first|(with_reducible first|refine zA ?_|refine zB fun K hK=>?_|refine zC fun K2 hK2=>?_|refine zD ?_|refine zE ?_|refine zF ?_|refine zG ?_|refine zH ?_|refine zI ?_|refine zM ?_|refine zN ?_|refine zO ?_|refine zP ?_|refine zQ ?_|refine zR ?_)|((with_reducible refine zU (hK _ _ ?_));clear hK K)|((with_reducible refine zV ?_ ?_ fun K1 K3 d hdst h1 h3=>?_);rfl;exact yB rfl;cases hdst;go_simp)|((with_reducible refine zW fun K1 K3 h1 h3=>?_);go_simp)|((first|refine h1 ?_|refine h3 ?_);clear h1 h3 K1 K3)|((first|refine zX (fun hb=>h1 ?_) (fun hb=>h3 ?_)|refine zX (fun hb=>h3 ?_) (fun hb=>h1 ?_))<;>(clear h1 h3 K1 K3;(try have hb2:=yC hb);(try have hb2:=yD hb);(try have hb2:=yE hb);(try have hb2:=yF hb);(try have hb2:=yG hb)))|(refine fun (K2:_→AHeap→Prop) hK2=>?_)|((with_reducible refine zY ?_ ?_);decide)|((with_reducible first|refine zZ ?_ (fun K hK=>?_)|refine yA ?_ (fun K hK=>?_));(focus go_simp;done);go_simp;refine hK _ _ ?_;clear hK K)|(go_simp;(try go_bits);refine hK2 _ _ ?_;clear hK2 K2))
  refine CodeS.loop (fun m f H' => ∃ (r : Nat) (D' : Nat → Prop) (L' : List Value), r ≤ xs.length ∧ m = r ∧ f.tmp 3 = .int .i64 ((r : Int) - 1) ∧ f.tmp 0 = .func (.yield l) #[] #[] ∧ f.tmp 1 = .pointer (some ⟨p, 0, none⟩) ∧ f.defers = [] ∧ Hid (S L' D' H') ∧ Hid (Step D H D' H') ∧ Hid (L' ++ backL (itemS xs) r = L ++ items) ∧ L'.length + r = L.length + xs.length) xs.length ?_ ?_
  · exact ⟨xs.length, D, L, Nat.le_refl _, rfl, (by first|go_simp<;>go_num|assumption), (by first|go_simp<;>go_num|assumption), (by first|go_simp<;>go_num|assumption), (by first|go_simp<;>go_num|assumption), HS, Lib.hid (Step.refl _ _), Lib.hid (by rw [HITS.out]), rfl⟩
  clear f0 f1 hd f HS
  rintro m f H' ⟨r, D', L', hr, hmr, f3, f0, f1, hd, HS, HST, HL, hln⟩
  have hcp' : cellAt H' p 0 = some (.slice la xs.length lc) := (cellAt_get (HST.out.get p hp HPD.out)).trans hcp
  rcases Nat.eq_zero_or_pos r with hr0 | hr0
  · have h9 : ¬ ((1 : Int) ≤ (r : Int)) := by omega
    have h8 : ¬ ((0 : Int) ≤ (r : Int) - 1) := by omega
    have h7 : ¬ (0 < r) := by omega
    have h6 : ¬ (1 ≤ r) := by omega
    have HR0 := Lib.hid hr0
    clear hr0
    repeat' (first|(with_reducible first|refine zA ?_|refine zB fun K hK=>?_|refine zC fun K2 hK2=>?_|refine zD ?_|refine zE ?_|refine zF ?_|refine zG ?_|refine zH ?_|refine zI ?_|refine zM ?_|refine zN ?_|refine zO ?_|refine zP ?_|refine zQ ?_|refine zR ?_)|((with_reducible refine zU (hK _ _ ?_));clear hK K)|((with_reducible refine zV ?_ ?_ fun K1 K3 d hdst h1 h3=>?_);rfl;exact yB rfl;cases hdst;go_simp)|((with_reducible refine zW fun K1 K3 h1 h3=>?_);go_simp)|((first|refine h1 ?_|refine h3 ?_);clear h1 h3 K1 K3)|((first|refine zX (fun hb=>h1 ?_) (fun hb=>h3 ?_)|refine zX (fun hb=>h3 ?_) (fun hb=>h1 ?_))<;>(clear h1 h3 K1 K3;(try have hb2:=yC hb);(try have hb2:=yD hb);(try have hb2:=yE hb);(try have hb2:=yF hb);(try have hb2:=yG hb)))|(refine fun (K2:_→AHeap→Prop) hK2=>?_)|((with_reducible refine zY ?_ ?_);decide)|((with_reducible first|refine zZ ?_ (fun K hK=>?_)|refine yA ?_ (fun K hK=>?_));(focus go_simp;done);go_simp;refine hK _ _ ?_;clear hK K)|(go_simp;(try go_bits);refine hK2 _ _ ?_;clear hK2 K2))
    all_goals (try (exfalso; omega))
    refine ⟨D', ?_, HST.out⟩
    have h5 := HL.out
    rw [HR0.out] at h5
    rw [← h5]; simpa [backL] using HS.out
  · obtain ⟨b, o, sp, rfl, hb, hxc⟩ := HLI.out.cells_at (k := r - 1) (by omega)
    have hbd : ¬ D b := fun h => by have := HB.out b h; omega
    have hxc' : cellsAt H' b (o + (r - 1) * 2) 2 = some [.int .i64 (xs[r - 1]'(by omega)).1, .int .i64 (xs[r - 1]'(by omega)).2] := (cellsAt_get (HST.out.get b (Nat.lt_of_lt_of_le hb HX.out.n) hbd)).trans ((HX.out.cellsAt hb).trans hxc)
    have hgd : xs.getD (r - 1) (0, 0) = xs[r - 1]'(by omega) := by simp [List.getD_eq_getElem?_getD, show r - 1 < xs.length by omega]
    have hIT : It (.tuple #[.int .i64 ((r : Int) - 1), spanVal (xs[r - 1]'(by omega))]) := by
      have h := HIT.out (r - 1) (by omega)
      rw [itemS, hgd, show ((r - 1 : Nat) : Int) = (r : Int) - 1 by omega] at h
      exact h
    have hbk : Hid (backL (itemS xs) r = .tuple #[.int .i64 ((r : Int) - 1), spanVal (xs[r - 1]'(by omega))] :: backL (itemS xs) (r - 1)) := Lib.hid (by
      rw [← hgd, ← show ((r - 1 : Nat) : Int) = (r : Int) - 1 by omega]
      conv => lhs; rw [show r = (r - 1) + 1 by omega, backL]
      rfl)
    generalize xs[r - 1]'(by omega) = x at hxc' hIT hbk
    obtain ⟨lo, hi⟩ := x
    simp only [spanVal] at hxc' hIT hbk
    have HIX := Lib.hid hIT
    clear hIT hgd hxc
    have h0i : (0 : Int) ≤ (r : Int) - 1 := by omega
    have h1i : (r : Int) - 1 < (xs.length : Int) := by omega
    have h2i : (1 : Int) ≤ (r : Int) := by omega
    have h3i : 1 ≤ r := by omega
    have hroom : L'.length < room := by have := HRO.out; omega
    repeat' (first|(with_reducible first|refine zA ?_|refine zB fun K hK=>?_|refine zC fun K2 hK2=>?_|refine zD ?_|refine zE ?_|refine zF ?_|refine zG ?_|refine zH ?_|refine zI ?_|refine zM ?_|refine zN ?_|refine zO ?_|refine zP ?_|refine zQ ?_|refine zR ?_)|((with_reducible refine zU (hK _ _ ?_));clear hK K)|((with_reducible refine zV ?_ ?_ fun K1 K3 d hdst h1 h3=>?_);rfl;exact yB rfl;cases hdst;go_simp)|((with_reducible refine zW fun K1 K3 h1 h3=>?_);go_simp)|((first|refine h1 ?_|refine h3 ?_);clear h1 h3 K1 K3)|((first|refine zX (fun hb=>h1 ?_) (fun hb=>h3 ?_)|refine zX (fun hb=>h3 ?_) (fun hb=>h1 ?_))<;>(clear h1 h3 K1 K3;(try have hb2:=yC hb);(try have hb2:=yD hb);(try have hb2:=yE hb);(try have hb2:=yF hb);(try have hb2:=yG hb)))|(refine fun (K2:_→AHeap→Prop) hK2=>?_)|((with_reducible refine zY ?_ ?_);decide)|((with_reducible first|refine zZ ?_ (fun K hK=>?_)|refine yA ?_ (fun K hK=>?_));(focus go_simp;done);go_simp;refine hK _ _ ?_;clear hK K)|(go_simp;(try go_bits);(try first | ((refine RoundS.mono (HG.out.round (v := .tuple #[.int .i64 ((r : Int) - 1), .agg #[.int .i64 lo, .int .i64 hi]]) HFL.out hroom HIX.out HS.out) ?_); rintro _ H3 ⟨rfl, D3, hS3, hst3⟩; (have HS3 := Lib.hid hS3); (have HST3 := Lib.hid hst3); clear hS3 hst3));refine hK2 _ _ ?_;clear hK2 K2))
    refine Post.round_normal ⟨r - 1, by omega, r - 1, D3, _, by omega, rfl, ?_, (by first|go_simp<;>go_num|assumption), (by first|go_simp<;>go_num|assumption), (by first|go_simp<;>go_num|assumption), HS3, Lib.hid (HST.out.trans HST3.out), Lib.hid ?_, ?_⟩
    · have e : ((r - 1 : Nat) : Int) - 1 = (r : Int) - 1 - 1 := by omega
      rw [e]
      first | (go_simp; done) | (go_simp; go_num; done)
    · rw [← HL.out, hbk.out]; simp
    · simp; omega

def BackSAt (Hb H : AHeap) (p : Nat) (v : Value) (xs : List (Int × Int)) : Prop := ∃ lv, v = .func (.func 132) #[] #[.pointer (some ⟨p, 0, none⟩)] ∧ p < H.n ∧ H.get p = .row [lv] 64 ∧ Spans Hb lv xs ∧ Ext Hb H
theorem BackSAt.gives {Hb H : AHeap} {p : Nat} {v : Value} {xs : List (Int × Int)} (h : BackSAt Hb H p v xs) {It : Value → Prop} (hit : ∀ i, i < xs.length → It (itemS xs i)) : Gives2 Tryz.prog H (fun i => i < Hb.n ∨ i = p) xs.length v It (backL (itemS xs) xs.length) := by
  obtain ⟨lv, rfl, h2, h3, h4, h5⟩ := h
  refine ⟨132, _, rfl, by kernel_rfl, ?_, fun loops ls H' l Rd room S L D hf hg hS hn hR hr => ?_⟩
  · rintro i (h | rfl)
    · exact Nat.lt_of_lt_of_le h h5.n
    · exact h2
  · refine backS_gives (H0 := Hb) hf hg hS (Nat.lt_of_lt_of_le h2 hn) (hR p (.inr rfl)).2 ((hR p (.inr rfl)).1.trans h3) h4 ⟨Nat.le_trans h5.n hn, fun i hi => (hR i (.inl hi)).1.trans (h5.get i hi)⟩ (fun i hi => ?_) hit hr
    rcases Nat.lt_or_ge i Hb.n with h0 | h0
    · exact absurd hi (hR i (.inl h0)).2
    · exact h0
end Go.Proofs.Tryz
namespace Go.Proofs.Tryz
open Go Go.Am Go.RowKit Go.Co
set_option maxRecDepth 100000

def SpansD (D : Nat → Prop) (q : Nat) (H : AHeap) (v : Value) (l : List (Int × Int)) : Prop := (spanCells l).length = l.length * 2 ∧ l.length ≤ 9223372036854775807 ∧ ∃ a c, v = .slice a l.length c ∧ (0 < l.length → ∃ b o sp, a = some ⟨b, o, sp⟩ ∧ D b ∧ b < q ∧ ∀ j u, (spanCells l)[j]? = some u → cellAt H b (o + j) = some u)
theorem SpansD.keep {D D' : Nat → Prop} {q q' : Nat} {H H' : AHeap} {v : Value} {l : List (Int × Int)} (h : SpansD D q H v l) (hk : ∀ b, D b → b < q → D' b ∧ b < q' ∧ H'.get b = H.get b) : SpansD D' q' H' v l := by
  obtain ⟨h1, h2, a, c, h3, h4⟩ := h
  refine ⟨h1, h2, a, c, h3, fun hn => ?_⟩
  obtain ⟨b, o, sp, h5, h6, h7, h8⟩ := h4 hn
  obtain ⟨h9, h10, h11⟩ := hk b h6 h7
  exact ⟨b, o, sp, h5, h9, h10, fun j u hu => by rw [cellAt_get h11]; exact h8 j u hu⟩
theorem SpansD.to {D : Nat → Prop} {q : Nat} {H : AHeap} {v : Value} {l : List (Int × Int)} (h : SpansD D q H v l) : SpansIn 0 q H v l := by
  obtain ⟨h1, h2, a, c, h3, h4⟩ := h
  refine ⟨h1, h2, a, c, h3, fun hn => ?_⟩
  obtain ⟨b, o, sp, h5, h6, h7, h8⟩ := h4 hn
  exact ⟨b, o, sp, h5, Nat.zero_le _, h7, h8⟩
def RowsD (D : Nat → Prop) (q : Nat) (H : AHeap) (vs : List Value) (L : List (List (Int × Int))) : Prop := vs.length = L.length ∧ ∀ (i : Nat) (h : i < L.length), ∃ u, vs[i]? = some u ∧ SpansD D q H u L[i]
theorem RowsD.to {D : Nat → Prop} {q : Nat} {H : AHeap} {vs : List Value} {L : List (List (Int × Int))} (h : RowsD D q H vs L) : RowsTo 0 q H vs L := ⟨h.1, fun i hi => by obtain ⟨w, h1, h2⟩ := h.2 i hi; exact ⟨w, h1, h2.to⟩⟩
theorem RowsD.keep {D D' : Nat → Prop} {q q' : Nat} {H H' : AHeap} {vs : List Value} {L : List (List (Int × Int))} (h : RowsD D q H vs L) (hk : ∀ b, D b → b < q → D' b ∧ b < q' ∧ H'.get b = H.get b) : RowsD D' q' H' vs L := ⟨h.1, fun i hi => by obtain ⟨w, h1, h2⟩ := h.2 i hi; exact ⟨w, h1, h2.keep hk⟩⟩
theorem RowsD.snoc {D : Nat → Prop} {q : Nat} {H : AHeap} {vs : List Value} {L : List (List (Int × Int))} {u : Value} {l : List (Int × Int)} (h : RowsD D q H vs L) (hu : SpansD D q H u l) : RowsD D q H (vs ++ [u]) (L ++ [l]) := by
  refine ⟨by simp [h.1], fun i hi => ?_⟩
  rcases Nat.lt_or_ge i L.length with hlt | hge
  · obtain ⟨w, h1, h2⟩ := h.2 i hlt
    exact ⟨w, by rw [List.getElem?_append_left (by rw [h.1]; exact hlt)]; exact h1, by rw [List.getElem_append_left hlt]; exact h2⟩
  · have : i = L.length := by simp at hi; omega
    subst this
    refine ⟨u, by rw [← h.1]; simp, ?_⟩
    rw [List.getElem_append_right (Nat.le_refl _)]
    simpa using hu

def MirC (c l per : Nat) (vs0 : List Value) (rows : Nat → List (Int × Int)) (Hb : AHeap) (L : List Value) (D : Nat → Prop) (H : AHeap) : Prop := ∃ (is : List Nat) (v : Value) (us : List Value) (q : Nat), L = is.map (itemR vs0) ∧ (∀ i, i ∈ is → i < vs0.length) ∧ Hb.n ≤ c ∧ c < l ∧ l < q ∧ q ≤ H.n ∧ D l ∧ H.get l = .loop .ready none ∧ H.get c = .row [v, .int .i64 per] 79 ∧ Own H q v 64 1 us ∧ (∀ b n, v = .slice (some ⟨b, 0, none⟩) n n → 0 < n → D b) ∧ RowsD (fun i => D i ∧ l < i) q H us (is.map rows) ∧ D c ∧ (∀ i, D i → i < H.n ∧ (i = c ∨ l ≤ i)) ∧ (∀ i, i < Hb.n → H.get i = Hb.get i)
theorem MirC.own {c l per : Nat} {vs0 : List Value} {rows : Nat → List (Int × Int)} {Hb : AHeap} {L : List Value} {D : Nat → Prop} {H : AHeap} (h : MirC c l per vs0 rows Hb L D H) : D l := by
  obtain ⟨is, v, us, q, h1, h2, h3, h4, h5, h6, h7, h8, h9, h10, h11, h12, h13, h15, h14⟩ := h
  exact h7
theorem MirC.lt {c l per : Nat} {vs0 : List Value} {rows : Nat → List (Int × Int)} {Hb : AHeap} {L : List Value} {D : Nat → Prop} {H : AHeap} {i : Nat} (h : MirC c l per vs0 rows Hb L D H) (hd : D i) : i < H.n := by
  obtain ⟨is, v, us, q, h1, h2, h3, h4, h5, h6, h7, h8, h9, h10, h11, h12, h13, h15, h14⟩ := h
  exact (h15 i hd).1
theorem MirC.keep {c l per : Nat} {vs0 : List Value} {rows : Nat → List (Int × Int)} {Hb : AHeap} {L : List Value} {D : Nat → Prop} {H H' : AHeap} (h : MirC c l per vs0 rows Hb L D H) (hn : H.n ≤ H'.n) (hk : ∀ i, D i ∨ i < Hb.n → H'.get i = H.get i) : MirC c l per vs0 rows Hb L D H' := by
  obtain ⟨is, v, us, q, h1, h2, h3, h4, h5, h6, h7, h8, h9, h10, h11, h12, h13, h15, h14⟩ := h
  exact ⟨is, v, us, q, h1, h2, h3, h4, h5, by omega, h7, (hk l (.inl h7)).trans h8, (hk c (.inl h13)).trans h9, own_at h10 hn fun i n hv hn => hk i (.inl (h11 i n hv hn)), h11, h12.keep fun b hb hq => ⟨hb, hq, hk b (.inl hb.1)⟩, h13, fun i hi => ⟨by have := (h15 i hi).1; omega, (h15 i hi).2⟩, fun i hi => (hk i (.inr hi)).trans (h14 i hi)⟩

def flip1 (x : Int × Int) : Int × Int := (730 - x.2, 730 - x.1)
def MirI (c l : Nat) (row : List (Int × Int)) (L : List Value) (D : Nat → Prop) (H : AHeap) : Prop := ∃ (is : List Nat) (v : Value), L = is.map (itemS row) ∧ c < l ∧ l < H.n ∧ H.get l = .loop .ready none ∧ H.get c = .row [v] 64 ∧ Own H l v 68 2 (spanCells (is.map fun i => flip1 (row.getD i (0, 0)))) ∧ ∀ i, D i ↔ i = l ∨ i = c ∨ ∃ n, v = .slice (some ⟨i, 0, none⟩) n n ∧ 0 < n
theorem MirI.own {c l : Nat} {row : List (Int × Int)} {L : List Value} {D : Nat → Prop} {H : AHeap} (h : MirI c l row L D H) : D l := by
  obtain ⟨is, v, h1, h3, h4, h5, h6, h7, h8⟩ := h
  exact (h8 l).2 (.inl rfl)
theorem MirI.lt {c l : Nat} {row : List (Int × Int)} {L : List Value} {D : Nat → Prop} {H : AHeap} {i : Nat} (h : MirI c l row L D H) (hi : D i) : i < H.n := by
  obtain ⟨is, v, h1, h3, h4, h5, h6, h7, h8⟩ := h
  rcases (h8 i).1 hi with rfl | rfl | ⟨n, hv, hn⟩
  · exact h4
  · omega
  · exact (own_block h7 hv hn).2.1
theorem MirI.keep {c l : Nat} {row : List (Int × Int)} {L : List Value} {D : Nat → Prop} {H H' : AHeap} (h : MirI c l row L D H) (hn : H.n ≤ H'.n) (hk : ∀ i, D i → H'.get i = H.get i) : MirI c l row L D H' := by
  obtain ⟨is, v, h1, h3, h4, h5, h6, h7, h8⟩ := h
  refine ⟨is, v, h1, h3, Nat.lt_of_lt_of_le h4 hn, (hk l (((h8 l).2 (.inl rfl)))).trans h5, (hk c (((h8 c).2 (.inr (.inl rfl))))).trans h6, own_at h7 hn fun i n hv hn => hk i ((h8 i).2 (.inr (.inr ⟨n, hv, hn⟩))), h8⟩
end Go.Proofs.Tryz
namespace Go.Proofs.Tryz
open Go Go.Am Go.RowKit Go.Co
set_option maxRecDepth 100000

end Go.Proofs.Tryz
namespace Go.Proofs.Tryz
open Go Go.Am Go.RowKit Go.Co
set_option maxRecDepth 100000

end Go.Proofs.Tryz
namespace Go.Proofs.Tryz
open Go Go.Am Go.RowKit Go.Co
set_option maxRecDepth 100000

end Go.Proofs.Tryz
namespace Go.Proofs.Tryz
open Go Go.Am Go.RowKit Go.Co

def Course.op (x : Course) (i : Nat) (d : Int) : Bool := ins (x.at_ i) d
end Go.Proofs.Tryz
namespace Go.Proofs.Tryz
open Go Go.Am Go.RowKit Go.Co
set_option maxRecDepth 100000

def clampI (x : Int) : Int := min (max x (-1)) 731
def clampL (xs : List Int) : List Int := xs.map clampI
end Go.Proofs.Tryz
