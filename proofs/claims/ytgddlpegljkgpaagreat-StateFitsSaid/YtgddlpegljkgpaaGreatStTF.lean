/- Contracts of functions, walked. -/
import Derived.Test.YtgddlpegljkgpaaGreatStSF
import Derived.Test.YtgddlpegljkgpaaGreatAwB
import Derived.Test.YtgddlpegljkgpaaGreatStSU
set_option linter.all false
namespace Go.Proofs.Tryz
open Go Go.Am Go.RowKit Go.Co
set_option maxRecDepth 100000

def backL (g : Nat → Value) : Nat → List Value
  | 0 => []
  | n + 1 => g n :: backL g n
def itemI (xs : List Int) (i : Nat) : Value := .tuple #[.int .i64 i, .int .i64 (xs.getD i 0)]

theorem backI_gives {loops ls : List (Nat × LInfo)} {H H0 : AHeap} {l room : Nat} {Rd : Nat → Prop} {It : Value → Prop} {S : List Value → (Nat → Prop) → AHeap → Prop} {L : List Value} {D : Nat → Prop} {p : Nat} {lv : Value} {xs : List Int}
    (hfl : LExt ls loops) (hg : Gen2 Tryz.prog l ls Rd room It S) (hS : S L D H) (hp : p < H.n) (hpD : ¬ D p) (hgp : H.get p = .row [lv] 22) (hl : Ints H0 lv xs) (hx : Ext H0 H) (hb : ∀ i, D i → H0.n ≤ i) (hit : ∀ i, i < xs.length → It (itemI xs i)) (hro : L.length + xs.length ≤ room) :
    CallS Tryz.prog loops 133 [.func (.yield l) #[] #[], .pointer (some ⟨p, 0, none⟩)] H fun _ H' => ∃ D', S (L ++ backL (itemI xs) xs.length) D' H' ∧ Step D H D' H' := by
  obtain ⟨hll, la, lc, rfl⟩ := hl.slice
  have hcp : cellAt H p 0 = some (.slice la xs.length lc) := by simp [cellAt, hgp]
  have HFL := Lib.hid hfl
  have HG := Lib.hid hg
  have HS := Lib.hid hS
  have HGP := Lib.hid hgp
  have HLI := Lib.hid hl
  have HX := Lib.hid hx
  have HB := Lib.hid hb
  have HPD := Lib.hid hpD
  have HIT := Lib.hid hit
  have HRO := Lib.hid hro
  generalize hitems : backL (itemI xs) xs.length = items
  have HITS := Lib.hid hitems
  clear hfl hg hS hgp hl hx hb hpD hit hro hitems
  refine CallS.enter' Tryz.func133 rfl Tryz.ntmps133 (by simp) fun f hd hf => ?_
  have f0 := hf 0
  have f1 := hf 1
  simp at f0 f1
  clear hf
  repeat' (first|(with_reducible first|refine zA ?_|refine zB fun K hK=>?_|refine zC fun K2 hK2=>?_|refine zD ?_|refine zE ?_|refine zF ?_|refine zG ?_|refine zH ?_|refine zI ?_|refine zM ?_|refine zN ?_|refine zO ?_|refine zP ?_|refine zQ ?_|refine zR ?_)|((with_reducible refine zU (hK _ _ ?_));clear hK K)|((with_reducible refine zV ?_ ?_ fun K1 K3 d hdst h1 h3=>?_);rfl;exact yB rfl;cases hdst;go_simp)|((with_reducible refine zW fun K1 K3 h1 h3=>?_);go_simp)|((first|refine h1 ?_|refine h3 ?_);clear h1 h3 K1 K3)|((first|refine zX (fun hb=>h1 ?_) (fun hb=>h3 ?_)|refine zX (fun hb=>h3 ?_) (fun hb=>h1 ?_))<;>(clear h1 h3 K1 K3;(try have hb2:=yC hb);(try have hb2:=yD hb);(try have hb2:=yE hb);(try have hb2:=yF hb);(try have hb2:=yG hb)))|(refine fun (K2:_→AHeap→Prop) hK2=>?_)|((with_reducible refine zY ?_ ?_);decide)|((with_reducible first|refine zZ ?_ (fun K hK=>?_)|refine yA ?_ (fun K hK=>?_));(focus go_simp;done);go_simp;refine hK _ _ ?_;clear hK K)|(go_simp;(try go_bits);refine hK2 _ _ ?_;clear hK2 K2))
  refine CodeS.loop (fun m f H' => ∃ (r : Nat) (D' : Nat → Prop) (L' : List Value), r ≤ xs.length ∧ m = r ∧ f.tmp 3 = .int .i64 ((r : Int) - 1) ∧ f.tmp 0 = .func (.yield l) #[] #[] ∧ f.tmp 1 = .pointer (some ⟨p, 0, none⟩) ∧ f.defers = [] ∧ Hid (S L' D' H') ∧ Hid (Step D H D' H') ∧ Hid (L' ++ backL (itemI xs) r = L ++ items) ∧ L'.length + r = L.length + xs.length) xs.length ?_ ?_
  · exact ⟨xs.length, D, L, Nat.le_refl _, rfl, (by first|go_simp<;>go_num|assumption), (by first|go_simp<;>go_num|assumption), (by first|go_simp<;>go_num|assumption), (by first|go_simp<;>go_num|assumption), HS, Lib.hid (Step.refl _ _), Lib.hid (by rw [HITS.out]), rfl⟩
  clear f0 f1 hd f HS
  rintro m f H' ⟨r, D', L', hr, hmr, f3, f0, f1, hd, HS, HST, HL, hln⟩
  have hcp' : cellAt H' p 0 = some (.slice la xs.length lc) := (cellAt_get (HST.out.get p hp HPD.out)).trans hcp
  rcases Nat.eq_zero_or_pos r with hr0 | hr0
  · have h9 : ¬ ((1 : Int) ≤ (r : Int)) := by omega
    have h8 : ¬ ((0 : Int) ≤ (r : Int) - 1) := by omega
    have h7 : ¬ (0 < r) := by omega
    have h6 : ¬ (1 ≤ r) := by omega
    have HR0 := Lib.hid hr0
    clear hr0
    repeat' (first|(with_reducible first|refine zA ?_|refine zB fun K hK=>?_|refine zC fun K2 hK2=>?_|refine zD ?_|refine zE ?_|refine zF ?_|refine zG ?_|refine zH ?_|refine zI ?_|refine zM ?_|refine zN ?_|refine zO ?_|refine zP ?_|refine zQ ?_|refine zR ?_)|((with_reducible refine zU (hK _ _ ?_));clear hK K)|((with_reducible refine zV ?_ ?_ fun K1 K3 d hdst h1 h3=>?_);rfl;exact yB rfl;cases hdst;go_simp)|((with_reducible refine zW fun K1 K3 h1 h3=>?_);go_simp)|((first|refine h1 ?_|refine h3 ?_);clear h1 h3 K1 K3)|((first|refine zX (fun hb=>h1 ?_) (fun hb=>h3 ?_)|refine zX (fun hb=>h3 ?_) (fun hb=>h1 ?_))<;>(clear h1 h3 K1 K3;(try have hb2:=yC hb);(try have hb2:=yD hb);(try have hb2:=yE hb);(try have hb2:=yF hb);(try have hb2:=yG hb)))|(refine fun (K2:_→AHeap→Prop) hK2=>?_)|((with_reducible refine zY ?_ ?_);decide)|((with_reducible first|refine zZ ?_ (fun K hK=>?_)|refine yA ?_ (fun K hK=>?_));(focus go_simp;done);go_simp;refine hK _ _ ?_;clear hK K)|(go_simp;(try go_bits);refine hK2 _ _ ?_;clear hK2 K2))
    all_goals (try (exfalso; omega))
    refine ⟨D', ?_, HST.out⟩
    have h5 := HL.out
    rw [HR0.out] at h5
    rw [← h5]; simpa [backL] using HS.out
  · obtain ⟨b, o, sp, rfl, hb, hxc⟩ := HLI.out.at_ (k := r - 1) (by omega)
    have hbd : ¬ D b := fun h => by have := HB.out b h; omega
    have hxc' : cellAt H' b (o + (r - 1)) = some (.int .i64 (xs[r - 1]'(by omega))) := (cellAt_get (HST.out.get b (Nat.lt_of_lt_of_le hb HX.out.n) hbd)).trans ((HX.out.cellAt hb).trans hxc)
    have hgd : xs.getD (r - 1) 0 = xs[r - 1]'(by omega) := by simp [List.getD_eq_getElem?_getD, show r - 1 < xs.length by omega]
    have hIT : It (.tuple #[.int .i64 ((r : Int) - 1), .int .i64 (xs[r - 1]'(by omega))]) := by
      have h := HIT.out (r - 1) (by omega)
      rw [itemI, hgd, show ((r - 1 : Nat) : Int) = (r : Int) - 1 by omega] at h
      exact h
    have hbk : Hid (backL (itemI xs) r = .tuple #[.int .i64 ((r : Int) - 1), .int .i64 (xs[r - 1]'(by omega))] :: backL (itemI xs) (r - 1)) := Lib.hid (by
      rw [← hgd, ← show ((r - 1 : Nat) : Int) = (r : Int) - 1 by omega]
      conv => lhs; rw [show r = (r - 1) + 1 by omega, backL]
      rfl)
    generalize xs[r - 1]'(by omega) = x at hxc' hIT hbk
    have HIX := Lib.hid hIT
    clear hIT hgd hxc
    have h0i : (0 : Int) ≤ (r : Int) - 1 := by omega
    have h1i : (r : Int) - 1 < (xs.length : Int) := by omega
    have h2i : (1 : Int) ≤ (r : Int) := by omega
    have h3i : 1 ≤ r := by omega
    have hroom : L'.length < room := by have := HRO.out; omega
    repeat' (first|(with_reducible first|refine zA ?_|refine zB fun K hK=>?_|refine zC fun K2 hK2=>?_|refine zD ?_|refine zE ?_|refine zF ?_|refine zG ?_|refine zH ?_|refine zI ?_|refine zM ?_|refine zN ?_|refine zO ?_|refine zP ?_|refine zQ ?_|refine zR ?_)|((with_reducible refine zU (hK _ _ ?_));clear hK K)|((with_reducible refine zV ?_ ?_ fun K1 K3 d hdst h1 h3=>?_);rfl;exact yB rfl;cases hdst;go_simp)|((with_reducible refine zW fun K1 K3 h1 h3=>?_);go_simp)|((first|refine h1 ?_|refine h3 ?_);clear h1 h3 K1 K3)|((first|refine zX (fun hb=>h1 ?_) (fun hb=>h3 ?_)|refine zX (fun hb=>h3 ?_) (fun hb=>h1 ?_))<;>(clear h1 h3 K1 K3;(try have hb2:=yC hb);(try have hb2:=yD hb);(try have hb2:=yE hb);(try have hb2:=yF hb);(try have hb2:=yG hb)))|(refine fun (K2:_→AHeap→Prop) hK2=>?_)|((with_reducible refine zY ?_ ?_);decide)|((with_reducible first|refine zZ ?_ (fun K hK=>?_)|refine yA ?_ (fun K hK=>?_));(focus go_simp;done);go_simp;refine hK _ _ ?_;clear hK K)|(go_simp;(try go_bits);(try first | ((refine RoundS.mono (HG.out.round (v := .tuple #[.int .i64 ((r : Int) - 1), .int .i64 x]) HFL.out hroom HIX.out HS.out) ?_); rintro _ H3 ⟨rfl, D3, hS3, hst3⟩; (have HS3 := Lib.hid hS3); (have HST3 := Lib.hid hst3); clear hS3 hst3));refine hK2 _ _ ?_;clear hK2 K2))
    refine Post.round_normal ⟨r - 1, by omega, r - 1, D3, _, by omega, rfl, ?_, (by first|go_simp<;>go_num|assumption), (by first|go_simp<;>go_num|assumption), (by first|go_simp<;>go_num|assumption), HS3, Lib.hid (HST.out.trans HST3.out), Lib.hid ?_, ?_⟩
    · have e : ((r - 1 : Nat) : Int) - 1 = (r : Int) - 1 - 1 := by omega
      rw [e]
      first | (go_simp; done) | (go_simp; go_num; done)
    · rw [← HL.out, hbk.out]; simp
    · simp; omega

def BackAt (Hb H : AHeap) (p : Nat) (v : Value) (xs : List Int) : Prop := ∃ lv, v = .func (.func 133) #[] #[.pointer (some ⟨p, 0, none⟩)] ∧ p < H.n ∧ H.get p = .row [lv] 22 ∧ Ints Hb lv xs ∧ Ext Hb H
theorem backI_e {loops : List (Nat × LInfo)} {Hb H : AHeap} {lv : Value} {xs : List Int} (hv : Ints Hb lv xs) (hx : Ext Hb H) : CallS Tryz.prog loops 122 [lv] H fun v H' => BackAt Hb H' H.n v xs ∧ Ext H H' := by
  obtain ⟨hll, la, lc, rfl⟩ := hv.slice
  have HL := Lib.hid hv
  have HX := Lib.hid hx
  clear hv hx
  refine CallS.enter' Tryz.func122 rfl Tryz.ntmps122 (by simp) fun f hd hf => ?_
  have f0 := hf 0
  simp at f0
  clear hf
  repeat' (first|(with_reducible first|refine zA ?_|refine zB fun K hK=>?_|refine zC fun K2 hK2=>?_|refine zD ?_|refine zE ?_|refine zF ?_|refine zG ?_|refine zH ?_|refine zI ?_|refine zM ?_|refine zN ?_|refine zO ?_|refine zP ?_|refine zQ ?_|refine zR ?_)|((with_reducible refine zU (hK _ _ ?_));clear hK K)|((with_reducible refine zV ?_ ?_ fun K1 K3 d hdst h1 h3=>?_);rfl;exact yB rfl;cases hdst;go_simp)|((with_reducible refine zW fun K1 K3 h1 h3=>?_);go_simp)|((first|refine h1 ?_|refine h3 ?_);clear h1 h3 K1 K3)|((first|refine zX (fun hb=>h1 ?_) (fun hb=>h3 ?_)|refine zX (fun hb=>h3 ?_) (fun hb=>h1 ?_))<;>(clear h1 h3 K1 K3;(try have hb2:=yC hb);(try have hb2:=yD hb);(try have hb2:=yE hb);(try have hb2:=yF hb);(try have hb2:=yG hb)))|(refine fun (K2:_→AHeap→Prop) hK2=>?_)|((with_reducible refine zY ?_ ?_);decide)|((with_reducible first|refine zZ ?_ (fun K hK=>?_)|refine yA ?_ (fun K hK=>?_));(focus go_simp;done);go_simp;refine hK _ _ ?_;clear hK K)|(go_simp;(try go_bits);refine hK2 _ _ ?_;clear hK2 K2))
  exact ⟨⟨_, rfl, by rw [AHeap.n_push]; omega, AHeap.get_push_new, HL.out, HX.out.push' _⟩, Ext.push _⟩
theorem BackAt.gives {Hb H : AHeap} {p : Nat} {v : Value} {xs : List Int} (h : BackAt Hb H p v xs) {It : Value → Prop} (hit : ∀ i, i < xs.length → It (itemI xs i)) : Gives2 Tryz.prog H (fun i => i < Hb.n ∨ i = p) xs.length v It (backL (itemI xs) xs.length) := by
  obtain ⟨lv, rfl, h2, h3, h4, h5⟩ := h
  refine ⟨133, _, rfl, by kernel_rfl, ?_, fun loops ls H' l Rd room S L D hf hg hS hn hR hr => ?_⟩
  · rintro i (h | rfl)
    · exact Nat.lt_of_lt_of_le h h5.n
    · exact h2
  · refine backI_gives (H0 := Hb) hf hg hS (Nat.lt_of_lt_of_le h2 hn) (hR p (.inr rfl)).2 ((hR p (.inr rfl)).1.trans h3) h4 ⟨Nat.le_trans h5.n hn, fun i hi => (hR i (.inl hi)).1.trans (h5.get i hi)⟩ (fun i hi => ?_) hit hr
    rcases Nat.lt_or_ge i Hb.n with h0 | h0
    · exact absurd hi (hR i (.inl h0)).2
    · exact h0
end Go.Proofs.Tryz
namespace Go.Proofs.Tryz
open Go Go.Am Go.RowKit Go.Co
set_option maxRecDepth 100000

def sndI : Value → Int
  | .tuple #[_, .int _ x] => x
  | _ => 0
def mirI (L : List Value) : List Int := L.map fun t => 730 - sndI t
theorem mirI_app (L : List Value) (t : Value) : mirI (L ++ [t]) = mirI L ++ [730 - sndI t] := by simp [mirI]
theorem mirI_back (xs : List Int) : ∀ n, n ≤ xs.length → mirI (backL (itemI xs) n) = flipD (xs.take n)
  | 0, _ => rfl
  | n + 1, h => by
    have ih := mirI_back xs n (by omega)
    have h1 : xs.take (n + 1) = xs.take n ++ [xs.getD n 0] := by
      rw [List.take_succ_eq_append_getElem (by omega)]; simp [List.getD_eq_getElem?_getD, show n < xs.length by omega]
    have h2 : mirI (itemI xs n :: backL (itemI xs) n) = (730 - xs.getD n 0) :: mirI (backL (itemI xs) n) := rfl
    rw [backL, h2, ih, h1]
    simp [flipD]

def MirS (bs l c : Nat) (L : List Value) (D : Nat → Prop) (H : AHeap) : Prop := ∃ (v : Value), bs ≤ c ∧ c < l ∧ l < H.n ∧ H.get l = .loop .ready none ∧ H.get c = .row [v] 22 ∧ Own H bs v 3 1 ((mirI L).map (Value.int .i64)) ∧ ∀ i, D i ↔ i = l ∨ i = c ∨ ∃ n, v = .slice (some ⟨i, 0, none⟩) n n ∧ 0 < n
theorem MirS.own {bs l c : Nat} {L : List Value} {D : Nat → Prop} {H : AHeap} (h : MirS bs l c L D H) : D l := by
  obtain ⟨v, h2, h3, h4, h5, h6, h7, h8⟩ := h
  exact (h8 l).2 (.inl rfl)
theorem MirS.lt {bs l c : Nat} {L : List Value} {D : Nat → Prop} {H : AHeap} {i : Nat} (h : MirS bs l c L D H) (hi : D i) : i < H.n := by
  obtain ⟨v, h2, h3, h4, h5, h6, h7, h8⟩ := h
  rcases (h8 i).1 hi with rfl | rfl | ⟨n, hv, hn⟩
  · exact h4
  · omega
  · exact (own_block h7 hv hn).2.1
theorem MirS.keep {bs l c : Nat} {L : List Value} {D : Nat → Prop} {H H' : AHeap} (h : MirS bs l c L D H) (hn : H.n ≤ H'.n) (hk : ∀ i, D i → H'.get i = H.get i) : MirS bs l c L D H' := by
  obtain ⟨v, h2, h3, h4, h5, h6, h7, h8⟩ := h
  refine ⟨v, h2, h3, Nat.lt_of_lt_of_le h4 hn, (hk l (((h8 l).2 (.inl rfl)))).trans h5, (hk c (((h8 c).2 (.inr (.inl rfl))))).trans h6, own_at h7 hn fun i n hv hn => hk i ((h8 i).2 (.inr (.inr ⟨n, hv, hn⟩))), h8⟩
def DayItem (t : Value) : Prop := ∃ (i x : Int), t = .tuple #[.int .i64 i, .int .i64 x] ∧ -1 ≤ x ∧ x ≤ 731

set_option maxHeartbeats 1000000 in
theorem mirroredDays_e {loops : List (Nat × LInfo)} {H : AHeap} {lv : Value} {xs : List Int} (hv : Ints H lv xs) (hb : ∀ y, y ∈ xs → -1 ≤ y ∧ y ≤ 731) (hlen : xs.length ≤ 1000) : CallS Tryz.prog loops 99 [lv] H fun r H' => Own H' H.n r 3 1 ((flipD xs).map (Value.int .i64)) ∧ Ext H H' := by
  have HL := Lib.hid hv
  obtain ⟨hll, la, lc, rfl⟩ := hv.slice
  have HIT : Hid (∀ i, i < xs.length → DayItem (itemI xs i)) := Lib.hid (fun i hi => ⟨i, xs.getD i 0, rfl, by
    have : xs.getD i 0 = xs[i] := by simp [List.getD_eq_getElem?_getD, hi]
    rw [this]; exact hb _ (List.getElem_mem hi)⟩)
  have HMF := Lib.hid (mirI_back xs xs.length (Nat.le_refl _))
  clear hv hb
  refine CallS.enter' Tryz.func99 rfl Tryz.ntmps99 (by simp) fun f hd hf => ?_
  have f0 := hf 0
  simp at f0
  clear hf
  repeat' (first|(with_reducible first|refine zA ?_|refine zB fun K hK=>?_|refine zC fun K2 hK2=>?_|refine zD ?_|refine zE ?_|refine zF ?_|refine zG ?_|refine zH ?_|refine zI ?_|refine zM ?_|refine zN ?_|refine zO ?_|refine zP ?_|refine zQ ?_|refine zR ?_)|((with_reducible refine zU (hK _ _ ?_));clear hK K)|((with_reducible refine zV ?_ ?_ fun K1 K3 d hdst h1 h3=>?_);rfl;exact yB rfl;cases hdst;go_simp)|((with_reducible refine zW fun K1 K3 h1 h3=>?_);go_simp)|((first|refine h1 ?_|refine h3 ?_);clear h1 h3 K1 K3)|((first|refine zX (fun hb=>h1 ?_) (fun hb=>h3 ?_)|refine zX (fun hb=>h3 ?_) (fun hb=>h1 ?_))<;>(clear h1 h3 K1 K3;(try have hb2:=yC hb);(try have hb2:=yD hb);(try have hb2:=yE hb);(try have hb2:=yF hb);(try have hb2:=yG hb)))|(refine fun (K2:_→AHeap→Prop) hK2=>?_)|((with_reducible refine zY ?_ ?_);decide)|((with_reducible first|refine zZ ?_ (fun K hK=>?_)|refine yA ?_ (fun K hK=>?_));(focus go_simp;done);go_simp;refine hK _ _ ?_;clear hK K)|(go_simp;(try go_bits);(try first | ((with_reducible show CallS _ _ _ _ _ _);refine CallS.mono (backI_e (Hb := H) HL.out (Ext.push _)) ?_; rintro qv H1 ⟨hq, hx⟩; (have HQ := Lib.hid (hq.gives HIT.out)); (have hgc : H1.get H.n = .row [.slice none 0 0] 22 := (hx.get H.n (by rw [AHeap.n_push]; omega)).trans (by rw [AHeap.get_push_new])); (have HGC := Lib.hid hgc); (have HX1 := Lib.hid ((Ext.push (.row [.slice none 0 0] 22)).trans hx)); (have hnn : H.n + 1 ≤ H1.n := by have := hx.n; rw [AHeap.n_push] at this; omega); clear hq hx hgc));refine hK2 _ _ ?_;clear hK2 K2))
  refine CodeS.range_gives2 (ls := []) (H0 := H1) (Rd := fun _ => False) (room := 1000) (S := MirS H.n (H1.n + 1) H.n) (D := fun i => i = H1.n + 1 ∨ i = H.n) rfl (LExt.nil _) HQ.out (by go_simp) (Ext.refl _) hlen ?gen ?hS ?hRD ?hnd ?hend
  case hRD =>
    rintro i hi (h | h)
    · have := HQ.out.lt hi; omega
    · rcases hi with h3 | h3
      · omega
      · rw [AHeap.n_push] at h3; omega
  case hS =>
    refine ⟨.slice none 0 0, Nat.le_refl _, by omega, by rw [AHeap.n_push, AHeap.n_push]; omega, ?_, ?_, Own.nil, fun i => by simp⟩
    · rw [show H1.n + 1 = (H1.push (AObj.defs false)).n from rfl, AHeap.get_push_new]
    · rw [AHeap.get_push_old (by rw [AHeap.n_push]; omega), AHeap.get_push_old (by omega)]; exact HGC.out
  case hnd => omega
  case hend =>
    rintro f2 D' H' ht hd2 hS hst hdf
    obtain ⟨v, h2, h3, h4, h5, h6, h7, h8⟩ := hS
    rw [HMF.out, List.take_length] at h7
    have t3 := ht 3
    simp [AF.tmp_upd] at t3
    have hd3 : f2.defers = [{ target := .collected H1.n, args := #[] }] := by rw [hd2]; simp [AF.defers_upd, hd]
    obtain ⟨H2, hH2⟩ : ∃ H2, H2 = H'.upd (H1.n + 1) (AObj.loop LoopState.exhausted none) := ⟨_, rfl⟩
    rw [← hH2]
    have hc2 : cellAt H2 H.n 0 = some v := by
      rw [hH2, cellAt_get (AHeap.get_upd_ne (by omega))]
      simp [cellAt, h6]
    have hdf2 : H2.get H1.n = .defs false := by
      rw [hH2, AHeap.get_upd_ne (by omega)]; exact hdf
    have HX2 : Hid (Ext H H2) := Lib.hid (by
      rw [hH2]
      refine (hst.ext ((HX1.out.push' _).push' _) ?_).upd (by omega) _
      rintro i (rfl | rfl) <;> omega)
    have hne : ∀ i n, v = .slice (some ⟨i, 0, none⟩) n n → 0 < n → H2.get i = H'.get i := by
      intro i n hv hn
      rw [hH2]
      refine AHeap.get_upd_ne fun e => ?_
      have h9 := (own_block h7 hv hn).2.2
      rw [e, h5] at h9
      cases h9
    have HO2 : Hid (Own H2 H.n v 3 1 ((flipD xs).map (Value.int .i64))) := Lib.hid (own_at h7 (by rw [hH2, AHeap.n_upd]; exact Nat.le_refl _) hne)
    clear hne h7 hst hH2 ht h8 h5 h6 hd2 hdf h2 h3 h4
    repeat' (first|(with_reducible first|refine zA ?_|refine zB fun K hK=>?_|refine zC fun K2 hK2=>?_|refine zD ?_|refine zE ?_|refine zF ?_|refine zG ?_|refine zH ?_|refine zI ?_|refine zM ?_|refine zN ?_|refine zO ?_|refine zP ?_|refine zQ ?_|refine zR ?_)|((with_reducible refine zU (hK _ _ ?_));clear hK K)|((with_reducible refine zV ?_ ?_ fun K1 K3 d hdst h1 h3=>?_);rfl;exact yB rfl;cases hdst;go_simp)|((with_reducible refine zW fun K1 K3 h1 h3=>?_);go_simp)|((first|refine h1 ?_|refine h3 ?_);clear h1 h3 K1 K3)|((first|refine zX (fun hb=>h1 ?_) (fun hb=>h3 ?_)|refine zX (fun hb=>h3 ?_) (fun hb=>h1 ?_))<;>(clear h1 h3 K1 K3;(try have hb2:=yC hb);(try have hb2:=yD hb);(try have hb2:=yE hb);(try have hb2:=yF hb);(try have hb2:=yG hb)))|(refine fun (K2:_→AHeap→Prop) hK2=>?_)|((with_reducible refine zY ?_ ?_);decide)|((with_reducible first|refine zZ ?_ (fun K hK=>?_)|refine yA ?_ (fun K hK=>?_));(focus go_simp;done);go_simp;refine hK _ _ ?_;clear hK K)|(go_simp;(try go_bits);refine hK2 _ _ ?_;clear hK2 K2))
    refine Post.body_mark (by go_simp) hdf2 fun K hK => ?_
    go_simp
    refine hK _ _ ⟨?_, HX2.out.upd (by omega) _⟩
    refine own_at HO2.out (by rw [AHeap.n_upd]; exact Nat.le_refl _) fun i n hv hn => AHeap.get_upd_ne fun e => ?_
    have h9 := (own_block HO2.out hv hn).2.2
    rw [e, hdf2] at h9
    cases h9
  case gen =>
    refine ⟨MirS.own, MirS.lt, fun _ h => h.elim, ?_, ?_, fun h hn hk => MirS.keep h hn fun i hi => hk i (.inl hi), ?_⟩
    · rintro L D H' ⟨v, h2, h3, h4, h5, h6, h7, h8⟩
      exact h5
    · rintro L D H' l2 x2 ⟨v, h2, h3, h4, h5, h6, h7, h8⟩ hf2
      simp only [findLoop] at hf2
      split at hf2
      · rename_i he; subst he; exact h4
      · cases hf2
    rintro loops L D H' _ hfl hroom ⟨i0, x, rfl, hx1, hx2⟩ ⟨v, h2, h3, h4, h5, h6, h7, h8⟩
    have hfl := hfl _ _ findLoop_head
    refine RoundS.enter hfl rfl (by simp [pairA_mk]) h5 fun f' hd' hf' => ?_
    have g9 := hf' 9
    have g3 := hf' 3
    simp [paramsAt, AF.tmp_mk, AF.tmp_upd, pairA_mk] at g9 g3
    dsimp only
    have hlen2 : (mirI L).length < 1000 := by rw [mirI, List.length_map]; exact hroom
    have HO := Lib.hid h7
    have HDI := Lib.hid h8
    have HFL := Lib.hid hfl
    clear h7 h8 hfl hf' hroom HIT HQ HMF HL hlen hll
    repeat' (first|(with_reducible first|refine zA ?_|refine zB fun K hK=>?_|refine zC fun K2 hK2=>?_|refine zD ?_|refine zE ?_|refine zF ?_|refine zG ?_|refine zH ?_|refine zI ?_|refine zM ?_|refine zN ?_|refine zO ?_|refine zP ?_|refine zQ ?_|refine zR ?_)|((with_reducible refine zU (hK _ _ ?_));clear hK K)|((with_reducible refine zV ?_ ?_ fun K1 K3 d hdst h1 h3=>?_);rfl;exact yB rfl;cases hdst;go_simp)|((with_reducible refine zW fun K1 K3 h1 h3=>?_);go_simp)|((first|refine h1 ?_|refine h3 ?_);clear h1 h3 K1 K3)|((first|refine zX (fun hb=>h1 ?_) (fun hb=>h3 ?_)|refine zX (fun hb=>h3 ?_) (fun hb=>h1 ?_))<;>(clear h1 h3 K1 K3;(try have hb2:=yC hb);(try have hb2:=yD hb);(try have hb2:=yE hb);(try have hb2:=yF hb);(try have hb2:=yG hb)))|(refine fun (K2:_→AHeap→Prop) hK2=>?_)|((with_reducible refine zY ?_ ?_);decide)|((with_reducible first|refine zZ ?_ (fun K hK=>?_)|refine yA ?_ (fun K hK=>?_));(focus go_simp;done);go_simp;refine hK _ _ ?_;clear hK K)|(go_simp;(try go_bits);refine hK2 _ _ ?_;clear hK2 K2))
    refine ⟨?_, ?_⟩
    · exact h5
    obtain ⟨H3, hH3⟩ : ∃ H3, H3 = H'.upd (H1.n + 1) (.loop .busy none) := ⟨_, rfl⟩
    rw [← hH3]
    have hn3 : H3.n = H'.n := by rw [hH3, AHeap.n_upd]
    have hk3 : ∀ i, i ≠ H1.n + 1 → H3.get i = H'.get i := by
      intro i hne
      rw [hH3, AHeap.get_upd_ne hne]
    have hl3 : H3.get (H1.n + 1) = .loop .busy none := by rw [hH3]; exact AHeap.get_upd_same
    have hc3 : H3.get H.n = .row [v] 22 := by rw [hk3 _ (by omega)]; exact h6
    have hcc3 : cellAt H3 H.n 0 = some v := by simp [cellAt, hc3]
    have hne3 : ∀ i n, v = .slice (some ⟨i, 0, none⟩) n n → 0 < n → i ≠ H1.n + 1 ∧ i ≠ H.n := by
      intro i n hv hn
      have h9 := (own_block HO.out hv hn).2.2
      constructor
      · rintro rfl; rw [h5] at h9; cases h9
      · rintro rfl; rw [h6] at h9; injection h9 with _ h10; exact absurd h10 (by decide)
    have HO3 : Hid (Own H3 H.n v 3 1 ((mirI L).map (Value.int .i64))) := Lib.hid (own_at HO.out (by omega) fun i n hv hn => hk3 i (hne3 i n hv hn).1)
    have HK3 := Lib.hid hk3
    have HNE := Lib.hid hne3
    have HN3 := Lib.hid hn3
    have HL3 := Lib.hid hl3
    have hlt3 : H.n < H3.n := by omega
    have HC3 := Lib.hid hc3
    have h4' : H1.n + 1 < H3.n := by omega
    clear hk3 hne3 hH3 hl3 hc3 hn3
    have HBIG : Hid ((((mirI L).map (Value.int .i64)).length + 1) * max 8 1 ≤ 1073741824) := Lib.hid (by rw [List.length_map, show max 8 1 = 8 from rfl]; omega)
    repeat' (first|(with_reducible first|refine zA ?_|refine zB fun K hK=>?_|refine zC fun K2 hK2=>?_|refine zD ?_|refine zE ?_|refine zF ?_|refine zG ?_|refine zH ?_|refine zI ?_|refine zM ?_|refine zN ?_|refine zO ?_|refine zP ?_|refine zQ ?_|refine zR ?_)|((with_reducible refine zU (hK _ _ ?_));clear hK K)|((with_reducible refine zV ?_ ?_ fun K1 K3 d hdst h1 h3=>?_);rfl;exact yB rfl;cases hdst;go_simp)|((with_reducible refine zW fun K1 K3 h1 h3=>?_);go_simp)|((first|refine h1 ?_|refine h3 ?_);clear h1 h3 K1 K3)|((first|refine zX (fun hb=>h1 ?_) (fun hb=>h3 ?_)|refine zX (fun hb=>h3 ?_) (fun hb=>h1 ?_))<;>(clear h1 h3 K1 K3;(try have hb2:=yC hb);(try have hb2:=yD hb);(try have hb2:=yE hb);(try have hb2:=yF hb);(try have hb2:=yG hb)))|(refine fun (K2:_→AHeap→Prop) hK2=>?_)|((with_reducible refine zY ?_ ?_);decide)|((with_reducible first|refine zZ ?_ (fun K hK=>?_)|refine yA ?_ (fun K hK=>?_));(focus go_simp;done);go_simp;refine hK _ _ ?_;clear hK K)|(go_simp;(try go_bits);(try first | ((refine one_k el22 sz3 ze3 rfl (by decide) (by decide) rfl rfl ?_); go_simp) | ((refine append_k2 el22 sz3 by3 ze3 rfl (by decide) (HO3.out.ext (Ext.push _)) (srcCells_new rfl) (by decide) rfl (by rw [List.all_append, oneV_list_int]; rfl) HBIG.out (by rw [AHeap.n_push]; omega) fun v2 H4 ho4 hg4 => ?_); (obtain ⟨a2, n2, rfl⟩ := own_slice ho4); (have HO4 := Lib.hid ho4); (have HG4 := Lib.hid hg4); (have hc4 : H4.get H.n = .row [v] 22 := (hg4.2 H.n (by rw [AHeap.n_push]; omega) (fun b n hv hn => (HNE.out b n hv hn).2.symm)).trans (by rw [AHeap.get_push_old hlt3]; exact HC3.out)); clear ho4 hg4; go_simp));refine hK2 _ _ ?_;clear hK2 K2))
    have hl4 : H4.get (H1.n + 1) = .loop .busy none := (HG4.out.2 (H1.n + 1) (by rw [AHeap.n_push]; omega) (fun b n hv hn => (HNE.out b n hv hn).1.symm)).trans (by rw [AHeap.get_push_old (by omega)]; exact HL3.out)
    have hn4 : H'.n < H4.n := by have := HG4.out.1; rw [AHeap.n_push, HN3.out] at this; omega
    refine ⟨⟨.busy, none, ?_⟩, rfl, fun i => i = H1.n + 1 ∨ i = H.n ∨ ∃ n, Value.slice a2 n2 n2 = .slice (some ⟨i, 0, none⟩) n n ∧ 0 < n, ⟨.slice a2 n2 n2, Nat.le_refl _, by omega, ?_, ?_, ?_, ?_, fun i => Iff.rfl⟩, ?_⟩
    · rw [AHeap.get_upd_ne (by omega)]; exact hl4
    · rw [AHeap.n_upd, AHeap.n_upd]; omega
    · exact AHeap.get_upd_same
    · rw [AHeap.get_upd_ne (by omega), AHeap.get_upd_same]
    · rw [mirI_app, List.map_append]
      refine own_at (HO4.out.mono (by rw [AHeap.n_push, HN3.out]; omega)) (by rw [AHeap.n_upd, AHeap.n_upd]; exact Nat.le_refl _) fun i n hv hn => ?_
      have h9 := (own_block HO4.out hv hn).2.2
      rw [AHeap.get_upd_ne (fun e => ?_), AHeap.get_upd_ne (fun e => ?_)]
      · rw [e, hc4] at h9; injection h9 with _ h10; exact absurd h10 (by decide)
      · rw [e, hl4] at h9; cases h9
    · refine ⟨by rw [AHeap.n_upd, AHeap.n_upd]; omega, fun i hi hd => ?_, fun i hd => ?_⟩
      · have h9 := fun h => hd ((HDI.out i).2 h)
        rw [AHeap.get_upd_ne (fun e => h9 (.inl e)), AHeap.get_upd_ne (fun e => h9 (.inr (.inl e))), HG4.out.2 i (by rw [AHeap.n_push, HN3.out]; omega) (fun b n hv hn e => h9 (.inr (.inr ⟨n, by rw [e]; exact hv, hn⟩))), AHeap.get_push_old (by rw [HN3.out]; omega)]
        exact HK3.out i (fun e => h9 (.inl e))
      · rcases hd with h | h | ⟨n, hv, hn⟩
        · exact .inl ((HDI.out i).2 (.inl h))
        · exact .inl ((HDI.out i).2 (.inr (.inl h)))
        · have h9 := (own_block HO4.out hv hn).1
          rw [AHeap.n_push, HN3.out] at h9
          exact .inr (by omega)
end Go.Proofs.Tryz
namespace Go.Proofs.Tryz
open Go Go.Am Go.RowKit Go.Co
set_option maxRecDepth 100000

def itemR (xs : List Value) (i : Nat) : Value := .tuple #[.int .i64 i, xs.getD i (.int .i64 0)]
theorem cells1_slice {H : AHeap} {v : Value} {n : Nat} {xs : List Value} (h : Cells H v 1 n xs) : n ≤ 9223372036854775807 ∧ ∃ a c, v = .slice a n c := by
  obtain ⟨h1, h2, a', c', h3, h4⟩ := h
  exact ⟨h2, a', c', h3⟩
theorem cells1_at {H : AHeap} {a : Option Addr} {n c : Nat} {xs : List Value} (h : Cells H (.slice a n c) 1 xs.length xs) {k : Nat} (hk : k < xs.length) : ∃ b o sp, a = some ⟨b, o, sp⟩ ∧ b < H.n ∧ cellAt H b (o + k) = some xs[k] := by
  obtain ⟨h1, h2, a', c', h3, h4⟩ := h
  cases h3
  obtain ⟨b, o, sp, h5, h6, h7⟩ := h4 (by omega)
  exact ⟨b, o, sp, h5, h6, h7 k _ (by simp [hk])⟩

theorem backR_gives {loops ls : List (Nat × LInfo)} {H H0 : AHeap} {l room : Nat} {Rd : Nat → Prop} {It : Value → Prop} {S : List Value → (Nat → Prop) → AHeap → Prop} {L : List Value} {D : Nat → Prop} {p : Nat} {lv : Value} {xs : List Value}
    (hfl : LExt ls loops) (hg : Gen2 Tryz.prog l ls Rd room It S) (hS : S L D H) (hp : p < H.n) (hpD : ¬ D p) (hgp : H.get p = .row [lv] 77) (hl : Cells H0 lv 1 xs.length xs) (hx : Ext H0 H) (hb : ∀ i, D i → H0.n ≤ i) (hit : ∀ i, i < xs.length → It (itemR xs i)) (hro : L.length + xs.length ≤ room) :
    CallS Tryz.prog loops 131 [.func (.yield l) #[] #[], .pointer (some ⟨p, 0, none⟩)] H fun _ H' => ∃ D', S (L ++ backL (itemR xs) xs.length) D' H' ∧ Step D H D' H' := by
  obtain ⟨hll, la, lc, rfl⟩ := cells1_slice hl
  have hcp : cellAt H p 0 = some (.slice la xs.length lc) := by simp [cellAt, hgp]
  have HFL := Lib.hid hfl
  have HG := Lib.hid hg
  have HS := Lib.hid hS
  have HGP := Lib.hid hgp
  have HLI := Lib.hid hl
  have HX := Lib.hid hx
  have HB := Lib.hid hb
  have HPD := Lib.hid hpD
  have HIT := Lib.hid hit
  have HRO := Lib.hid hro
  generalize hitems : backL (itemR xs) xs.length = items
  have HITS := Lib.hid hitems
  clear hfl hg hS hgp hl hx hb hpD hit hro hitems
  refine CallS.enter' Tryz.func131 rfl Tryz.ntmps131 (by simp) fun f hd hf => ?_
  have f0 := hf 0
  have f1 := hf 1
  simp at f0 f1
  clear hf
  repeat' (first|(with_reducible first|refine zA ?_|refine zB fun K hK=>?_|refine zC fun K2 hK2=>?_|refine zD ?_|refine zE ?_|refine zF ?_|refine zG ?_|refine zH ?_|refine zI ?_|refine zM ?_|refine zN ?_|refine zO ?_|refine zP ?_|refine zQ ?_|refine zR ?_)|((with_reducible refine zU (hK _ _ ?_));clear hK K)|((with_reducible refine zV ?_ ?_ fun K1 K3 d hdst h1 h3=>?_);rfl;exact yB rfl;cases hdst;go_simp)|((with_reducible refine zW fun K1 K3 h1 h3=>?_);go_simp)|((first|refine h1 ?_|refine h3 ?_);clear h1 h3 K1 K3)|((first|refine zX (fun hb=>h1 ?_) (fun hb=>h3 ?_)|refine zX (fun hb=>h3 ?_) (fun hb=>h1 ?_))<;>(clear h1 h3 K1 K3;(try have hb2:=yC hb);(try have hb2:=yD hb);(try have hb2:=yE hb);(try have hb2:=yF hb);(try have hb2:=yG hb)))|(refine fun (K2:_→AHeap→Prop) hK2=>?_)|((with_reducible refine zY ?_ ?_);decide)|((with_reducible first|refine zZ ?_ (fun K hK=>?_)|refine yA ?_ (fun K hK=>?_));(focus go_simp;done);go_simp;refine hK _ _ ?_;clear hK K)|(go_simp;(try go_bits);refine hK2 _ _ ?_;clear hK2 K2))
  refine CodeS.loop (fun m f H' => ∃ (r : Nat) (D' : Nat → Prop) (L' : List Value), r ≤ xs.length ∧ m = r ∧ f.tmp 3 = .int .i64 ((r : Int) - 1) ∧ f.tmp 0 = .func (.yield l) #[] #[] ∧ f.tmp 1 = .pointer (some ⟨p, 0, none⟩) ∧ f.defers = [] ∧ Hid (S L' D' H') ∧ Hid (Step D H D' H') ∧ Hid (L' ++ backL (itemR xs) r = L ++ items) ∧ L'.length + r = L.length + xs.length) xs.length ?_ ?_
  · exact ⟨xs.length, D, L, Nat.le_refl _, rfl, (by first|go_simp<;>go_num|assumption), (by first|go_simp<;>go_num|assumption), (by first|go_simp<;>go_num|assumption), (by first|go_simp<;>go_num|assumption), HS, Lib.hid (Step.refl _ _), Lib.hid (by rw [HITS.out]), rfl⟩
  clear f0 f1 hd f HS
  rintro m f H' ⟨r, D', L', hr, hmr, f3, f0, f1, hd, HS, HST, HL, hln⟩
  have hcp' : cellAt H' p 0 = some (.slice la xs.length lc) := (cellAt_get (HST.out.get p hp HPD.out)).trans hcp
  rcases Nat.eq_zero_or_pos r with hr0 | hr0
  · have h9 : ¬ ((1 : Int) ≤ (r : Int)) := by omega
    have h8 : ¬ ((0 : Int) ≤ (r : Int) - 1) := by omega
    have h7 : ¬ (0 < r) := by omega
    have h6 : ¬ (1 ≤ r) := by omega
    have HR0 := Lib.hid hr0
    clear hr0
    repeat' (first|(with_reducible first|refine zA ?_|refine zB fun K hK=>?_|refine zC fun K2 hK2=>?_|refine zD ?_|refine zE ?_|refine zF ?_|refine zG ?_|refine zH ?_|refine zI ?_|refine zM ?_|refine zN ?_|refine zO ?_|refine zP ?_|refine zQ ?_|refine zR ?_)|((with_reducible refine zU (hK _ _ ?_));clear hK K)|((with_reducible refine zV ?_ ?_ fun K1 K3 d hdst h1 h3=>?_);rfl;exact yB rfl;cases hdst;go_simp)|((with_reducible refine zW fun K1 K3 h1 h3=>?_);go_simp)|((first|refine h1 ?_|refine h3 ?_);clear h1 h3 K1 K3)|((first|refine zX (fun hb=>h1 ?_) (fun hb=>h3 ?_)|refine zX (fun hb=>h3 ?_) (fun hb=>h1 ?_))<;>(clear h1 h3 K1 K3;(try have hb2:=yC hb);(try have hb2:=yD hb);(try have hb2:=yE hb);(try have hb2:=yF hb);(try have hb2:=yG hb)))|(refine fun (K2:_→AHeap→Prop) hK2=>?_)|((with_reducible refine zY ?_ ?_);decide)|((with_reducible first|refine zZ ?_ (fun K hK=>?_)|refine yA ?_ (fun K hK=>?_));(focus go_simp;done);go_simp;refine hK _ _ ?_;clear hK K)|(go_simp;(try go_bits);refine hK2 _ _ ?_;clear hK2 K2))
    all_goals (try (exfalso; omega))
    refine ⟨D', ?_, HST.out⟩
    have h5 := HL.out
    rw [HR0.out] at h5
    rw [← h5]; simpa [backL] using HS.out
  · obtain ⟨b, o, sp, rfl, hb, hxc⟩ := cells1_at HLI.out (k := r - 1) (by omega)
    have hbd : ¬ D b := fun h => by have := HB.out b h; omega
    have hxc' : cellAt H' b (o + (r - 1)) = some (xs[r - 1]'(by omega)) := (cellAt_get (HST.out.get b (Nat.lt_of_lt_of_le hb HX.out.n) hbd)).trans ((HX.out.cellAt hb).trans hxc)
    have hgd : xs.getD (r - 1) (.int .i64 0) = xs[r - 1]'(by omega) := by simp [List.getD_eq_getElem?_getD, show r - 1 < xs.length by omega]
    have hIT : It (.tuple #[.int .i64 ((r : Int) - 1), xs[r - 1]'(by omega)]) := by
      have h := HIT.out (r - 1) (by omega)
      rw [itemR, hgd, show ((r - 1 : Nat) : Int) = (r : Int) - 1 by omega] at h
      exact h
    have hbk : Hid (backL (itemR xs) r = .tuple #[.int .i64 ((r : Int) - 1), xs[r - 1]'(by omega)] :: backL (itemR xs) (r - 1)) := Lib.hid (by
      rw [← hgd, ← show ((r - 1 : Nat) : Int) = (r : Int) - 1 by omega]
      conv => lhs; rw [show r = (r - 1) + 1 by omega, backL]
      rfl)
    generalize xs[r - 1]'(by omega) = x at hxc' hIT hbk
    have HIX := Lib.hid hIT
    clear hIT hgd hxc
    have h0i : (0 : Int) ≤ (r : Int) - 1 := by omega
    have h1i : (r : Int) - 1 < (xs.length : Int) := by omega
    have h2i : (1 : Int) ≤ (r : Int) := by omega
    have h3i : 1 ≤ r := by omega
    have hroom : L'.length < room := by have := HRO.out; omega
    repeat' (first|(with_reducible first|refine zA ?_|refine zB fun K hK=>?_|refine zC fun K2 hK2=>?_|refine zD ?_|refine zE ?_|refine zF ?_|refine zG ?_|refine zH ?_|refine zI ?_|refine zM ?_|refine zN ?_|refine zO ?_|refine zP ?_|refine zQ ?_|refine zR ?_)|((with_reducible refine zU (hK _ _ ?_));clear hK K)|((with_reducible refine zV ?_ ?_ fun K1 K3 d hdst h1 h3=>?_);rfl;exact yB rfl;cases hdst;go_simp)|((with_reducible refine zW fun K1 K3 h1 h3=>?_);go_simp)|((first|refine h1 ?_|refine h3 ?_);clear h1 h3 K1 K3)|((first|refine zX (fun hb=>h1 ?_) (fun hb=>h3 ?_)|refine zX (fun hb=>h3 ?_) (fun hb=>h1 ?_))<;>(clear h1 h3 K1 K3;(try have hb2:=yC hb);(try have hb2:=yD hb);(try have hb2:=yE hb);(try have hb2:=yF hb);(try have hb2:=yG hb)))|(refine fun (K2:_→AHeap→Prop) hK2=>?_)|((with_reducible refine zY ?_ ?_);decide)|((with_reducible first|refine zZ ?_ (fun K hK=>?_)|refine yA ?_ (fun K hK=>?_));(focus go_simp;done);go_simp;refine hK _ _ ?_;clear hK K)|(go_simp;(try go_bits);(try first | ((refine RoundS.mono (HG.out.round (v := .tuple #[.int .i64 ((r : Int) - 1), x]) HFL.out hroom HIX.out HS.out) ?_); rintro _ H3 ⟨rfl, D3, hS3, hst3⟩; (have HS3 := Lib.hid hS3); (have HST3 := Lib.hid hst3); clear hS3 hst3));refine hK2 _ _ ?_;clear hK2 K2))
    refine Post.round_normal ⟨r - 1, by omega, r - 1, D3, _, by omega, rfl, ?_, (by first|go_simp<;>go_num|assumption), (by first|go_simp<;>go_num|assumption), (by first|go_simp<;>go_num|assumption), HS3, Lib.hid (HST.out.trans HST3.out), Lib.hid ?_, ?_⟩
    · have e : ((r - 1 : Nat) : Int) - 1 = (r : Int) - 1 - 1 := by omega
      rw [e]
      first | (go_simp; done) | (go_simp; go_num; done)
    · rw [← HL.out, hbk.out]; simp
    · simp; omega

def BackRAt (Hb H : AHeap) (p : Nat) (v : Value) (xs : List Value) : Prop := ∃ lv, v = .func (.func 131) #[] #[.pointer (some ⟨p, 0, none⟩)] ∧ p < H.n ∧ H.get p = .row [lv] 77 ∧ Cells Hb lv 1 xs.length xs ∧ Ext Hb H
theorem backR_e {loops : List (Nat × LInfo)} {Hb H : AHeap} {lv : Value} {xs : List Value} (hv : Cells Hb lv 1 xs.length xs) (hx : Ext Hb H) : CallS Tryz.prog loops 120 [lv] H fun v H' => BackRAt Hb H' H.n v xs ∧ Ext H H' := by
  obtain ⟨hll, la, lc, rfl⟩ := cells1_slice hv
  have HL := Lib.hid hv
  have HX := Lib.hid hx
  clear hv hx
  refine CallS.enter' Tryz.func120 rfl Tryz.ntmps120 (by simp) fun f hd hf => ?_
  have f0 := hf 0
  simp at f0
  clear hf
  repeat' (first|(with_reducible first|refine zA ?_|refine zB fun K hK=>?_|refine zC fun K2 hK2=>?_|refine zD ?_|refine zE ?_|refine zF ?_|refine zG ?_|refine zH ?_|refine zI ?_|refine zM ?_|refine zN ?_|refine zO ?_|refine zP ?_|refine zQ ?_|refine zR ?_)|((with_reducible refine zU (hK _ _ ?_));clear hK K)|((with_reducible refine zV ?_ ?_ fun K1 K3 d hdst h1 h3=>?_);rfl;exact yB rfl;cases hdst;go_simp)|((with_reducible refine zW fun K1 K3 h1 h3=>?_);go_simp)|((first|refine h1 ?_|refine h3 ?_);clear h1 h3 K1 K3)|((first|refine zX (fun hb=>h1 ?_) (fun hb=>h3 ?_)|refine zX (fun hb=>h3 ?_) (fun hb=>h1 ?_))<;>(clear h1 h3 K1 K3;(try have hb2:=yC hb);(try have hb2:=yD hb);(try have hb2:=yE hb);(try have hb2:=yF hb);(try have hb2:=yG hb)))|(refine fun (K2:_→AHeap→Prop) hK2=>?_)|((with_reducible refine zY ?_ ?_);decide)|((with_reducible first|refine zZ ?_ (fun K hK=>?_)|refine yA ?_ (fun K hK=>?_));(focus go_simp;done);go_simp;refine hK _ _ ?_;clear hK K)|(go_simp;(try go_bits);refine hK2 _ _ ?_;clear hK2 K2))
  exact ⟨⟨_, rfl, by rw [AHeap.n_push]; omega, AHeap.get_push_new, HL.out, HX.out.push' _⟩, Ext.push _⟩
theorem BackRAt.gives {Hb H : AHeap} {p : Nat} {v : Value} {xs : List Value} (h : BackRAt Hb H p v xs) {It : Value → Prop} (hit : ∀ i, i < xs.length → It (itemR xs i)) : Gives2 Tryz.prog H (fun i => i < Hb.n ∨ i = p) xs.length v It (backL (itemR xs) xs.length) := by
  obtain ⟨lv, rfl, h2, h3, h4, h5⟩ := h
  refine ⟨131, _, rfl, by kernel_rfl, ?_, fun loops ls H' l Rd room S L D hf hg hS hn hR hr => ?_⟩
  · rintro i (h | rfl)
    · exact Nat.lt_of_lt_of_le h h5.n
    · exact h2
  · refine backR_gives (H0 := Hb) hf hg hS (Nat.lt_of_lt_of_le h2 hn) (hR p (.inr rfl)).2 ((hR p (.inr rfl)).1.trans h3) h4 ⟨Nat.le_trans h5.n hn, fun i hi => (hR i (.inl hi)).1.trans (h5.get i hi)⟩ (fun i hi => ?_) hit hr
    rcases Nat.lt_or_ge i Hb.n with h0 | h0
    · exact absurd hi (hR i (.inl h0)).2
    · exact h0
end Go.Proofs.Tryz
namespace Go.Proofs.Tryz
open Go Go.Am Go.RowKit Go.Co
set_option maxRecDepth 100000

def itemS (xs : List (Int × Int)) (i : Nat) : Value := .tuple #[.int .i64 i, spanVal (xs.getD i (0, 0))]
theorem backS_gives {loops ls : List (Nat × LInfo)} {H H0 : AHeap} {l room : Nat} {Rd : Nat → Prop} {It : Value → Prop} {S : List Value → (Nat → Prop) → AHeap → Prop} {L : List Value} {D : Nat → Prop} {p : Nat} {lv : Value} {xs : List (Int × Int)}
    (hfl : LExt ls loops) (hg : Gen2 Tryz.prog l ls Rd room It S) (hS : S L D H) (hp : p < H.n) (hpD : ¬ D p) (hgp : H.get p = .row [lv] 64) (hl : Spans H0 lv xs) (hx : Ext H0 H) (hb : ∀ i, D i → H0.n ≤ i) (hit : ∀ i, i < xs.length → It (itemS xs i)) (hro : L.length + xs.length ≤ room) :
    CallS Tryz.prog loops 132 [.func (.yield l) #[] #[], .pointer (some ⟨p, 0, none⟩)] H fun _ H' => ∃ D', S (L ++ backL (itemS xs) xs.length) D' H' ∧ Step D H D' H' := by
  obtain ⟨hll, la, lc, rfl⟩ := hl.slice
  have hcp : cellAt H p 0 = some (.slice la xs.length lc) := by simp [cellAt, hgp]
  have HFL := Lib.hid hfl
  have HG := Lib.hid hg
  have HS := Lib.hid hS
  have HGP := Lib.hid hgp
  have HLI := Lib.hid hl
  have HX := Lib.hid hx
  have HB := Lib.hid hb
  have HPD := Lib.hid hpD
  have HIT := Lib.hid hit
  have HRO := Lib.hid hro
  generalize hitems : backL (itemS xs) xs.length = items
  have HITS := Lib.hid hitems
  clear hfl hg hS hgp hl hx hb hpD hit hro hitems
  refine CallS.enter' Tryz.func132 rfl Tryz.ntmps132 (by simp) fun f hd hf => ?_
  have f0 := hf 0
  have f1 := hf 1
  simp at f0 f1
  clear hf
  repeat' (first|(with_reducible first|refine zA ?_|refine zB fun K hK=>?_|refine zC fun K2 hK2=>?_|refine zD ?_|refine zE ?_|refine zF ?_|refine zG ?_|refine zH ?_|refine zI ?_|refine zM ?_|refine zN ?_|refine zO ?_|refine zP ?_|refine zQ ?_|refine zR ?_)|((with_reducible refine zU (hK _ _ ?_));clear hK K)|((with_reducible refine zV ?_ ?_ fun K1 K3 d hdst h1 h3=>?_);rfl;exact yB rfl;cases hdst;go_simp)|((with_reducible refine zW fun K1 K3 h1 h3=>?_);go_simp)|((first|refine h1 ?_|refine h3 ?_);clear h1 h3 K1 K3)|((first|refine zX (fun hb=>h1 ?_) (fun hb=>h3 ?_)|refine zX (fun hb=>h3 ?_) (fun hb=>h1 ?_))<;>(clear h1 h3 K1 K3;(try have hb2:=yC hb);(try have hb2:=yD hb);(try have hb2:=yE hb);(try have hb2:=yF hb);(try have hb2:=yG hb)))|(refine fun (K2:_→AHeap→Prop) hK2=>?_)|((with_reducible refine zY ?_ ?_);decide)|((with_reducible first|refine zZ ?_ (fun K hK=>?_)|refine yA ?_ (fun K hK=>?_));(focus go_simp;done);go_simp;refine hK _ _ ?_;clear hK K)|(go_simp;(try go_bits);refine hK2 _ _ ?_;clear hK2 K2))
  refine CodeS.loop (fun m f H' => ∃ (r : Nat) (D' : Nat → Prop) (L' : List Value), r ≤ xs.length ∧ m = r ∧ f.tmp 3 = .int .i64 ((r : Int) - 1) ∧ f.tmp 0 = .func (.yield l) #[] #[] ∧ f.tmp 1 = .pointer (some ⟨p, 0, none⟩) ∧ f.defers = [] ∧ Hid (S L' D' H') ∧ Hid (Step D H D' H') ∧ Hid (L' ++ backL (itemS xs) r = L ++ items) ∧ L'.length + r = L.length + xs.length) xs.length ?_ ?_
  · exact ⟨xs.length, D, L, Nat.le_refl _, rfl, (by first|go_simp<;>go_num|assumption), (by first|go_simp<;>go_num|assumption), (by first|go_simp<;>go_num|assumption), (by first|go_simp<;>go_num|assumption), HS, Lib.hid (Step.refl _ _), Lib.hid (by rw [HITS.out]), rfl⟩
  clear f0 f1 hd f HS
  rintro m f H' ⟨r, D', L', hr, hmr, f3, f0, f1, hd, HS, HST, HL, hln⟩
  have hcp' : cellAt H' p 0 = some (.slice la xs.length lc) := (cellAt_get (HST.out.get p hp HPD.out)).trans hcp
  rcases Nat.eq_zero_or_pos r with hr0 | hr0
  · have h9 : ¬ ((1 : Int) ≤ (r : Int)) := by omega
    have h8 : ¬ ((0 : Int) ≤ (r : Int) - 1) := by omega
    have h7 : ¬ (0 < r) := by omega
    have h6 : ¬ (1 ≤ r) := by omega
    have HR0 := Lib.hid hr0
    clear hr0
    repeat' (first|(with_reducible first|refine zA ?_|refine zB fun K hK=>?_|refine zC fun K2 hK2=>?_|refine zD ?_|refine zE ?_|refine zF ?_|refine zG ?_|refine zH ?_|refine zI ?_|refine zM ?_|refine zN ?_|refine zO ?_|refine zP ?_|refine zQ ?_|refine zR ?_)|((with_reducible refine zU (hK _ _ ?_));clear hK K)|((with_reducible refine zV ?_ ?_ fun K1 K3 d hdst h1 h3=>?_);rfl;exact yB rfl;cases hdst;go_simp)|((with_reducible refine zW fun K1 K3 h1 h3=>?_);go_simp)|((first|refine h1 ?_|refine h3 ?_);clear h1 h3 K1 K3)|((first|refine zX (fun hb=>h1 ?_) (fun hb=>h3 ?_)|refine zX (fun hb=>h3 ?_) (fun hb=>h1 ?_))<;>(clear h1 h3 K1 K3;(try have hb2:=yC hb);(try have hb2:=yD hb);(try have hb2:=yE hb);(try have hb2:=yF hb);(try have hb2:=yG hb)))|(refine fun (K2:_→AHeap→Prop) hK2=>?_)|((with_reducible refine zY ?_ ?_);decide)|((with_reducible first|refine zZ ?_ (fun K hK=>?_)|refine yA ?_ (fun K hK=>?_));(focus go_simp;done);go_simp;refine hK _ _ ?_;clear hK K)|(go_simp;(try go_bits);refine hK2 _ _ ?_;clear hK2 K2))
    all_goals (try (exfalso; omega))
    refine ⟨D', ?_, HST.out⟩
    have h5 := HL.out
    rw [HR0.out] at h5
    rw [← h5]; simpa [backL] using HS.out
  · obtain ⟨b, o, sp, rfl, hb, hxc⟩ := HLI.out.cells_at (k := r - 1) (by omega)
    have hbd : ¬ D b := fun h => by have := HB.out b h; omega
    have hxc' : cellsAt H' b (o + (r - 1) * 2) 2 = some [.int .i64 (xs[r - 1]'(by omega)).1, .int .i64 (xs[r - 1]'(by omega)).2] := (cellsAt_get (HST.out.get b (Nat.lt_of_lt_of_le hb HX.out.n) hbd)).trans ((HX.out.cellsAt hb).trans hxc)
    have hgd : xs.getD (r - 1) (0, 0) = xs[r - 1]'(by omega) := by simp [List.getD_eq_getElem?_getD, show r - 1 < xs.length by omega]
    have hIT : It (.tuple #[.int .i64 ((r : Int) - 1), spanVal (xs[r - 1]'(by omega))]) := by
      have h := HIT.out (r - 1) (by omega)
      rw [itemS, hgd, show ((r - 1 : Nat) : Int) = (r : Int) - 1 by omega] at h
      exact h
    have hbk : Hid (backL (itemS xs) r = .tuple #[.int .i64 ((r : Int) - 1), spanVal (xs[r - 1]'(by omega))] :: backL (itemS xs) (r - 1)) := Lib.hid (by
      rw [← hgd, ← show ((r - 1 : Nat) : Int) = (r : Int) - 1 by omega]
      conv => lhs; rw [show r = (r - 1) + 1 by omega, backL]
      rfl)
    generalize xs[r - 1]'(by omega) = x at hxc' hIT hbk
    obtain ⟨lo, hi⟩ := x
    simp only [spanVal] at hxc' hIT hbk
    have HIX := Lib.hid hIT
    clear hIT hgd hxc
    have h0i : (0 : Int) ≤ (r : Int) - 1 := by omega
    have h1i : (r : Int) - 1 < (xs.length : Int) := by omega
    have h2i : (1 : Int) ≤ (r : Int) := by omega
    have h3i : 1 ≤ r := by omega
    have hroom : L'.length < room := by have := HRO.out; omega
    repeat' (first|(with_reducible first|refine zA ?_|refine zB fun K hK=>?_|refine zC fun K2 hK2=>?_|refine zD ?_|refine zE ?_|refine zF ?_|refine zG ?_|refine zH ?_|refine zI ?_|refine zM ?_|refine zN ?_|refine zO ?_|refine zP ?_|refine zQ ?_|refine zR ?_)|((with_reducible refine zU (hK _ _ ?_));clear hK K)|((with_reducible refine zV ?_ ?_ fun K1 K3 d hdst h1 h3=>?_);rfl;exact yB rfl;cases hdst;go_simp)|((with_reducible refine zW fun K1 K3 h1 h3=>?_);go_simp)|((first|refine h1 ?_|refine h3 ?_);clear h1 h3 K1 K3)|((first|refine zX (fun hb=>h1 ?_) (fun hb=>h3 ?_)|refine zX (fun hb=>h3 ?_) (fun hb=>h1 ?_))<;>(clear h1 h3 K1 K3;(try have hb2:=yC hb);(try have hb2:=yD hb);(try have hb2:=yE hb);(try have hb2:=yF hb);(try have hb2:=yG hb)))|(refine fun (K2:_→AHeap→Prop) hK2=>?_)|((with_reducible refine zY ?_ ?_);decide)|((with_reducible first|refine zZ ?_ (fun K hK=>?_)|refine yA ?_ (fun K hK=>?_));(focus go_simp;done);go_simp;refine hK _ _ ?_;clear hK K)|(go_simp;(try go_bits);(try first | ((refine RoundS.mono (HG.out.round (v := .tuple #[.int .i64 ((r : Int) - 1), .agg #[.int .i64 lo, .int .i64 hi]]) HFL.out hroom HIX.out HS.out) ?_); rintro _ H3 ⟨rfl, D3, hS3, hst3⟩; (have HS3 := Lib.hid hS3); (have HST3 := Lib.hid hst3); clear hS3 hst3));refine hK2 _ _ ?_;clear hK2 K2))
    refine Post.round_normal ⟨r - 1, by omega, r - 1, D3, _, by omega, rfl, ?_, (by first|go_simp<;>go_num|assumption), (by first|go_simp<;>go_num|assumption), (by first|go_simp<;>go_num|assumption), HS3, Lib.hid (HST.out.trans HST3.out), Lib.hid ?_, ?_⟩
    · have e : ((r - 1 : Nat) : Int) - 1 = (r : Int) - 1 - 1 := by omega
      rw [e]
      first | (go_simp; done) | (go_simp; go_num; done)
    · rw [← HL.out, hbk.out]; simp
    · simp; omega

def BackSAt (Hb H : AHeap) (p : Nat) (v : Value) (xs : List (Int × Int)) : Prop := ∃ lv, v = .func (.func 132) #[] #[.pointer (some ⟨p, 0, none⟩)] ∧ p < H.n ∧ H.get p = .row [lv] 64 ∧ Spans Hb lv xs ∧ Ext Hb H
theorem backS_e {loops : List (Nat × LInfo)} {Hb H : AHeap} {lv : Value} {xs : List (Int × Int)} (hv : Spans Hb lv xs) (hx : Ext Hb H) : CallS Tryz.prog loops 121 [lv] H fun v H' => BackSAt Hb H' H.n v xs ∧ Ext H H' := by
  obtain ⟨hll, la, lc, rfl⟩ := hv.slice
  have HL := Lib.hid hv
  have HX := Lib.hid hx
  clear hv hx
  refine CallS.enter' Tryz.func121 rfl Tryz.ntmps121 (by simp) fun f hd hf => ?_
  have f0 := hf 0
  simp at f0
  clear hf
  repeat' (first|(with_reducible first|refine zA ?_|refine zB fun K hK=>?_|refine zC fun K2 hK2=>?_|refine zD ?_|refine zE ?_|refine zF ?_|refine zG ?_|refine zH ?_|refine zI ?_|refine zM ?_|refine zN ?_|refine zO ?_|refine zP ?_|refine zQ ?_|refine zR ?_)|((with_reducible refine zU (hK _ _ ?_));clear hK K)|((with_reducible refine zV ?_ ?_ fun K1 K3 d hdst h1 h3=>?_);rfl;exact yB rfl;cases hdst;go_simp)|((with_reducible refine zW fun K1 K3 h1 h3=>?_);go_simp)|((first|refine h1 ?_|refine h3 ?_);clear h1 h3 K1 K3)|((first|refine zX (fun hb=>h1 ?_) (fun hb=>h3 ?_)|refine zX (fun hb=>h3 ?_) (fun hb=>h1 ?_))<;>(clear h1 h3 K1 K3;(try have hb2:=yC hb);(try have hb2:=yD hb);(try have hb2:=yE hb);(try have hb2:=yF hb);(try have hb2:=yG hb)))|(refine fun (K2:_→AHeap→Prop) hK2=>?_)|((with_reducible refine zY ?_ ?_);decide)|((with_reducible first|refine zZ ?_ (fun K hK=>?_)|refine yA ?_ (fun K hK=>?_));(focus go_simp;done);go_simp;refine hK _ _ ?_;clear hK K)|(go_simp;(try go_bits);refine hK2 _ _ ?_;clear hK2 K2))
  exact ⟨⟨_, rfl, by rw [AHeap.n_push]; omega, AHeap.get_push_new, HL.out, HX.out.push' _⟩, Ext.push _⟩
theorem BackSAt.gives {Hb H : AHeap} {p : Nat} {v : Value} {xs : List (Int × Int)} (h : BackSAt Hb H p v xs) {It : Value → Prop} (hit : ∀ i, i < xs.length → It (itemS xs i)) : Gives2 Tryz.prog H (fun i => i < Hb.n ∨ i = p) xs.length v It (backL (itemS xs) xs.length) := by
  obtain ⟨lv, rfl, h2, h3, h4, h5⟩ := h
  refine ⟨132, _, rfl, by kernel_rfl, ?_, fun loops ls H' l Rd room S L D hf hg hS hn hR hr => ?_⟩
  · rintro i (h | rfl)
    · exact Nat.lt_of_lt_of_le h h5.n
    · exact h2
  · refine backS_gives (H0 := Hb) hf hg hS (Nat.lt_of_lt_of_le h2 hn) (hR p (.inr rfl)).2 ((hR p (.inr rfl)).1.trans h3) h4 ⟨Nat.le_trans h5.n hn, fun i hi => (hR i (.inl hi)).1.trans (h5.get i hi)⟩ (fun i hi => ?_) hit hr
    rcases Nat.lt_or_ge i Hb.n with h0 | h0
    · exact absurd hi (hR i (.inl h0)).2
    · exact h0
end Go.Proofs.Tryz
namespace Go.Proofs.Tryz
open Go Go.Am Go.RowKit Go.Co
set_option maxRecDepth 100000

theorem backL_map (g : Nat → Value) : ∀ n, backL g n = (List.range n).reverse.map g
  | 0 => rfl
  | n + 1 => by rw [backL, backL_map g n, List.range_succ, List.reverse_append]; rfl
theorem itemR_inj {vs : List Value} {i j : Nat} (h : itemR vs i = itemR vs j) : i = j := by
  simp [itemR] at h
  omega
theorem itemsR_inj (vs : List Value) : ∀ (a b : List Nat), a.map (itemR vs) = b.map (itemR vs) → a = b
  | [], [], _ => rfl
  | [], _ :: _, h => by simp at h
  | _ :: _, [], h => by simp at h
  | x :: t, y :: u, h => by
    simp only [List.map_cons, List.cons.injEq] at h
    rw [itemR_inj h.1, itemsR_inj vs t u h.2]
theorem rev_rows (x : Course) : (List.range x.open_.length).reverse.map (fun i => flipS (x.at_ i)) = x.open_.reverse.map flipS := by
  rw [List.map_reverse, List.map_reverse]
  congr 1
  refine List.ext_getElem (by simp) fun i h1 h2 => ?_
  simp at h2
  simp [Course.at_, h2]

def SpansD (D : Nat → Prop) (q : Nat) (H : AHeap) (v : Value) (l : List (Int × Int)) : Prop := (spanCells l).length = l.length * 2 ∧ l.length ≤ 9223372036854775807 ∧ ∃ a c, v = .slice a l.length c ∧ (0 < l.length → ∃ b o sp, a = some ⟨b, o, sp⟩ ∧ D b ∧ b < q ∧ ∀ j u, (spanCells l)[j]? = some u → cellAt H b (o + j) = some u)
theorem SpansD.keep {D D' : Nat → Prop} {q q' : Nat} {H H' : AHeap} {v : Value} {l : List (Int × Int)} (h : SpansD D q H v l) (hk : ∀ b, D b → b < q → D' b ∧ b < q' ∧ H'.get b = H.get b) : SpansD D' q' H' v l := by
  obtain ⟨h1, h2, a, c, h3, h4⟩ := h
  refine ⟨h1, h2, a, c, h3, fun hn => ?_⟩
  obtain ⟨b, o, sp, h5, h6, h7, h8⟩ := h4 hn
  obtain ⟨h9, h10, h11⟩ := hk b h6 h7
  exact ⟨b, o, sp, h5, h9, h10, fun j u hu => by rw [cellAt_get h11]; exact h8 j u hu⟩
theorem SpansD.to {D : Nat → Prop} {q : Nat} {H : AHeap} {v : Value} {l : List (Int × Int)} (h : SpansD D q H v l) : SpansIn 0 q H v l := by
  obtain ⟨h1, h2, a, c, h3, h4⟩ := h
  refine ⟨h1, h2, a, c, h3, fun hn => ?_⟩
  obtain ⟨b, o, sp, h5, h6, h7, h8⟩ := h4 hn
  exact ⟨b, o, sp, h5, Nat.zero_le _, h7, h8⟩
theorem SpansD.of_in {D : Nat → Prop} {lo q : Nat} {H : AHeap} {v : Value} {l : List (Int × Int)} (h : SpansIn lo q H v l) (hd : ∀ i, lo ≤ i → i < q → D i) : SpansD D q H v l := by
  obtain ⟨h1, h2, a, c, h3, h4⟩ := h
  refine ⟨h1, h2, a, c, h3, fun hn => ?_⟩
  obtain ⟨b, o, sp, h5, h6, h7, h8⟩ := h4 hn
  exact ⟨b, o, sp, h5, hd b h6 h7, h7, h8⟩
def RowsD (D : Nat → Prop) (q : Nat) (H : AHeap) (vs : List Value) (L : List (List (Int × Int))) : Prop := vs.length = L.length ∧ ∀ (i : Nat) (h : i < L.length), ∃ u, vs[i]? = some u ∧ SpansD D q H u L[i]
theorem RowsD.to {D : Nat → Prop} {q : Nat} {H : AHeap} {vs : List Value} {L : List (List (Int × Int))} (h : RowsD D q H vs L) : RowsTo 0 q H vs L := ⟨h.1, fun i hi => by obtain ⟨w, h1, h2⟩ := h.2 i hi; exact ⟨w, h1, h2.to⟩⟩
theorem RowsD.keep {D D' : Nat → Prop} {q q' : Nat} {H H' : AHeap} {vs : List Value} {L : List (List (Int × Int))} (h : RowsD D q H vs L) (hk : ∀ b, D b → b < q → D' b ∧ b < q' ∧ H'.get b = H.get b) : RowsD D' q' H' vs L := ⟨h.1, fun i hi => by obtain ⟨w, h1, h2⟩ := h.2 i hi; exact ⟨w, h1, h2.keep hk⟩⟩
theorem RowsD.snoc {D : Nat → Prop} {q : Nat} {H : AHeap} {vs : List Value} {L : List (List (Int × Int))} {u : Value} {l : List (Int × Int)} (h : RowsD D q H vs L) (hu : SpansD D q H u l) : RowsD D q H (vs ++ [u]) (L ++ [l]) := by
  refine ⟨by simp [h.1], fun i hi => ?_⟩
  rcases Nat.lt_or_ge i L.length with hlt | hge
  · obtain ⟨w, h1, h2⟩ := h.2 i hlt
    exact ⟨w, by rw [List.getElem?_append_left (by rw [h.1]; exact hlt)]; exact h1, by rw [List.getElem_append_left hlt]; exact h2⟩
  · have : i = L.length := by simp at hi; omega
    subst this
    refine ⟨u, by rw [← h.1]; simp, ?_⟩
    rw [List.getElem_append_right (Nat.le_refl _)]
    simpa using hu

def MirC (c l per : Nat) (vs0 : List Value) (rows : Nat → List (Int × Int)) (Hb : AHeap) (L : List Value) (D : Nat → Prop) (H : AHeap) : Prop := ∃ (is : List Nat) (v : Value) (us : List Value) (q : Nat), L = is.map (itemR vs0) ∧ (∀ i, i ∈ is → i < vs0.length) ∧ Hb.n ≤ c ∧ c < l ∧ l < q ∧ q ≤ H.n ∧ D l ∧ H.get l = .loop .ready none ∧ H.get c = .row [v, .int .i64 per] 79 ∧ Own H q v 64 1 us ∧ (∀ b n, v = .slice (some ⟨b, 0, none⟩) n n → 0 < n → D b) ∧ RowsD (fun i => D i ∧ l < i) q H us (is.map rows) ∧ D c ∧ (∀ i, D i → i < H.n ∧ (i = c ∨ l ≤ i)) ∧ (∀ i, i < Hb.n → H.get i = Hb.get i)
theorem MirC.own {c l per : Nat} {vs0 : List Value} {rows : Nat → List (Int × Int)} {Hb : AHeap} {L : List Value} {D : Nat → Prop} {H : AHeap} (h : MirC c l per vs0 rows Hb L D H) : D l := by
  obtain ⟨is, v, us, q, h1, h2, h3, h4, h5, h6, h7, h8, h9, h10, h11, h12, h13, h15, h14⟩ := h
  exact h7
theorem MirC.lt {c l per : Nat} {vs0 : List Value} {rows : Nat → List (Int × Int)} {Hb : AHeap} {L : List Value} {D : Nat → Prop} {H : AHeap} {i : Nat} (h : MirC c l per vs0 rows Hb L D H) (hd : D i) : i < H.n := by
  obtain ⟨is, v, us, q, h1, h2, h3, h4, h5, h6, h7, h8, h9, h10, h11, h12, h13, h15, h14⟩ := h
  exact (h15 i hd).1
theorem MirC.keep {c l per : Nat} {vs0 : List Value} {rows : Nat → List (Int × Int)} {Hb : AHeap} {L : List Value} {D : Nat → Prop} {H H' : AHeap} (h : MirC c l per vs0 rows Hb L D H) (hn : H.n ≤ H'.n) (hk : ∀ i, D i ∨ i < Hb.n → H'.get i = H.get i) : MirC c l per vs0 rows Hb L D H' := by
  obtain ⟨is, v, us, q, h1, h2, h3, h4, h5, h6, h7, h8, h9, h10, h11, h12, h13, h15, h14⟩ := h
  exact ⟨is, v, us, q, h1, h2, h3, h4, h5, by omega, h7, (hk l (.inl h7)).trans h8, (hk c (.inl h13)).trans h9, own_at h10 hn fun i n hv hn => hk i (.inl (h11 i n hv hn)), h11, h12.keep fun b hb hq => ⟨hb, hq, hk b (.inl hb.1)⟩, h13, fun i hi => ⟨by have := (h15 i hi).1; omega, (h15 i hi).2⟩, fun i hi => (hk i (.inr hi)).trans (h14 i hi)⟩

def flip1 (x : Int × Int) : Int × Int := (730 - x.2, 730 - x.1)
def MirI (c l : Nat) (row : List (Int × Int)) (L : List Value) (D : Nat → Prop) (H : AHeap) : Prop := ∃ (is : List Nat) (v : Value), L = is.map (itemS row) ∧ c < l ∧ l < H.n ∧ H.get l = .loop .ready none ∧ H.get c = .row [v] 64 ∧ Own H l v 68 2 (spanCells (is.map fun i => flip1 (row.getD i (0, 0)))) ∧ ∀ i, D i ↔ i = l ∨ i = c ∨ ∃ n, v = .slice (some ⟨i, 0, none⟩) n n ∧ 0 < n
theorem MirI.own {c l : Nat} {row : List (Int × Int)} {L : List Value} {D : Nat → Prop} {H : AHeap} (h : MirI c l row L D H) : D l := by
  obtain ⟨is, v, h1, h3, h4, h5, h6, h7, h8⟩ := h
  exact (h8 l).2 (.inl rfl)
theorem MirI.lt {c l : Nat} {row : List (Int × Int)} {L : List Value} {D : Nat → Prop} {H : AHeap} {i : Nat} (h : MirI c l row L D H) (hi : D i) : i < H.n := by
  obtain ⟨is, v, h1, h3, h4, h5, h6, h7, h8⟩ := h
  rcases (h8 i).1 hi with rfl | rfl | ⟨n, hv, hn⟩
  · exact h4
  · omega
  · exact (own_block h7 hv hn).2.1
theorem MirI.keep {c l : Nat} {row : List (Int × Int)} {L : List Value} {D : Nat → Prop} {H H' : AHeap} (h : MirI c l row L D H) (hn : H.n ≤ H'.n) (hk : ∀ i, D i → H'.get i = H.get i) : MirI c l row L D H' := by
  obtain ⟨is, v, h1, h3, h4, h5, h6, h7, h8⟩ := h
  refine ⟨is, v, h1, h3, Nat.lt_of_lt_of_le h4 hn, (hk l (((h8 l).2 (.inl rfl)))).trans h5, (hk c (((h8 c).2 (.inr (.inl rfl))))).trans h6, own_at h7 hn fun i n hv hn => hk i ((h8 i).2 (.inr (.inr ⟨n, hv, hn⟩))), h8⟩
theorem itemS_inj {vs : List (Int × Int)} {i j : Nat} (h : itemS vs i = itemS vs j) : i = j := by
  simp [itemS] at h
  omega
theorem itemsS_inj (vs : List (Int × Int)) : ∀ (a b : List Nat), a.map (itemS vs) = b.map (itemS vs) → a = b
  | [], [], _ => rfl
  | [], _ :: _, h => by simp at h
  | _ :: _, [], h => by simp at h
  | x :: t, y :: u, h => by
    simp only [List.map_cons, List.cons.injEq] at h
    rw [itemS_inj h.1, itemsS_inj vs t u h.2]
theorem rev_row (row : List (Int × Int)) : (List.range row.length).reverse.map (fun i => flip1 (row.getD i (0, 0))) = flipS row := by
  rw [flipS, List.map_reverse, List.map_reverse]
  congr 1
  refine List.ext_getElem (by simp) fun i h1 h2 => ?_
  simp at h2
  simp [flip1, h2]

set_option maxHeartbeats 4000000 in
theorem mirrored_e {loops : List (Nat × LInfo)} {H : AHeap} {v : Value} {x : Course} {p : Nat} (hv : CourseV H v x) (hp : x.per = p) (hn : x.open_.length ≤ 1000) (hrl : ∀ i, (x.at_ i).length ≤ 1000) (hrb : ∀ i y, y ∈ x.at_ i → 0 ≤ y.1 ∧ y.1 ≤ 730 ∧ 0 ≤ y.2 ∧ y.2 ≤ 730) : CallS Tryz.prog loops 98 [v] H fun r H' => CourseV H' r ⟨x.open_.reverse.map flipS, x.per⟩ ∧ Ext H H' := by
  obtain ⟨ov, rfl, hov⟩ := hv
  obtain ⟨hol, oa, oc, rfl⟩ := hov.slice
  obtain ⟨vs, hcs, hsp⟩ := hov
  have hvl : vs.length = x.open_.length := by have := hcs.1; omega
  have HCS : Hid (Cells H (.slice oa x.open_.length oc) 1 vs.length vs) := Lib.hid (by rw [hvl]; exact hcs)
  have HSP : Hid (∀ i, i < vs.length → ∃ u, vs[i]? = some u ∧ Spans H u (x.at_ i)) := Lib.hid (fun i hi => by
    obtain ⟨u, h1, h2⟩ := hsp i (by omega)
    exact ⟨u, h1, by simp [Course.at_, show i < x.open_.length by omega]; exact h2⟩)
  have HVL := Lib.hid hvl
  have HRL := Lib.hid hrl
  have HRB := Lib.hid hrb
  have hpv : (.int .i64 x.per : Value) = .int .i64 p := by rw [hp]
  have HP := Lib.hid hp
  rw [hpv]
  clear hcs hsp hvl hrl hrb hpv hp
  refine CallS.enter' Tryz.func98 rfl Tryz.ntmps98 (by simp) fun f hd hf => ?_
  have f0 := hf 0
  simp at f0
  clear hf
  repeat' (first|(with_reducible first|refine zA ?_|refine zB fun K hK=>?_|refine zC fun K2 hK2=>?_|refine zD ?_|refine zE ?_|refine zF ?_|refine zG ?_|refine zH ?_|refine zI ?_|refine zM ?_|refine zN ?_|refine zO ?_|refine zP ?_|refine zQ ?_|refine zR ?_)|((with_reducible refine zU (hK _ _ ?_));clear hK K)|((with_reducible refine zV ?_ ?_ fun K1 K3 d hdst h1 h3=>?_);rfl;exact yB rfl;cases hdst;go_simp)|((with_reducible refine zW fun K1 K3 h1 h3=>?_);go_simp)|((first|refine h1 ?_|refine h3 ?_);clear h1 h3 K1 K3)|((first|refine zX (fun hb=>h1 ?_) (fun hb=>h3 ?_)|refine zX (fun hb=>h3 ?_) (fun hb=>h1 ?_))<;>(clear h1 h3 K1 K3;(try have hb2:=yC hb);(try have hb2:=yD hb);(try have hb2:=yE hb);(try have hb2:=yF hb);(try have hb2:=yG hb)))|(refine fun (K2:_→AHeap→Prop) hK2=>?_)|((with_reducible refine zY ?_ ?_);decide)|((with_reducible first|refine zZ ?_ (fun K hK=>?_)|refine yA ?_ (fun K hK=>?_));(focus go_simp;done);go_simp;refine hK _ _ ?_;clear hK K)|(go_simp;(try go_bits);(try first | ((with_reducible show CallS _ _ _ _ _ _);refine CallS.mono (backR_e (Hb := H) HCS.out (((Ext.refl _).push' _).push' _ |>.push' _)) ?_; rintro qv H1 ⟨hq, hx⟩; (have HQ := Lib.hid (hq.gives (It := fun t => ∃ i, i < vs.length ∧ t = itemR vs i) fun i hi => ⟨i, hi, rfl⟩)); (have HX := Lib.hid hx); (have hnn : H.n + 3 ≤ H1.n := by have := hx.n; simp only [AHeap.n_push] at this; omega); (have HG2 : Hid (H1.get (H.n + 2) = .row [.slice none 0 0, .int .i64 p] 79) := Lib.hid ((hx.get (H.n + 2) (by simp only [AHeap.n_push]; omega)).trans (get_at (by simp only [AHeap.n_push])))); (have HG1 : Hid (H1.get (H.n + 1) = .row [.slice none 0 0, .int .i64 0] 79) := Lib.hid ((hx.get (H.n + 1) (by simp only [AHeap.n_push]; omega)).trans ((AHeap.get_push_old (by simp only [AHeap.n_push]; omega)).trans (get_at (by simp only [AHeap.n_push]))))); clear hq hx));refine hK2 _ _ ?_;clear hK2 K2))
  have HXH : Hid (Ext H H1) := Lib.hid ((((Ext.refl _).push' _).push' _ |>.push' _).trans HX.out)
  clear HX
  refine CodeS.range_gives2 (ls := []) (H0 := H1) (Rd := fun i => i < H.n) (room := 1000) (S := MirC (H.n + 2) (H1.n + 1) p vs (fun i => flipS (x.at_ i)) H) (D := fun i => i = H.n + 2 ∨ i = H1.n + 1) rfl (LExt.nil _) HQ.out (by go_simp) (Ext.refl _) (by have := HVL.out; omega) ?gen ?hS ?hRD ?hnd ?hend
  case hRD =>
    rintro i hi (h | h)
    · rcases hi with h3 | h3
      · omega
      · simp only [AHeap.n_push] at h3; omega
    · have := HQ.out.lt hi; omega
  case hS =>
    refine ⟨[], .slice none 0 0, [], H1.n + 2, rfl, by simp, by omega, by omega, by omega, by simp only [AHeap.n_push]; omega, .inr rfl, ?_, ?_, Own.nil, (by rintro b n h; cases h), ⟨rfl, fun i h => by simp at h⟩, .inl rfl, (by rintro i (h | h) <;> (simp only [AHeap.n_push]; omega)), fun i hi => ?_⟩
    · exact get_at (by rw [AHeap.n_push])
    · rw [AHeap.get_push_old (by rw [AHeap.n_push]; omega), AHeap.get_push_old (by omega)]; exact HG2.out
    · rw [AHeap.get_push_old (by rw [AHeap.n_push]; omega), AHeap.get_push_old (by omega)]; exact HXH.out.get i hi
  case hnd => omega
  case hend =>
    rintro f2 D' H' ht hd2 ⟨is, v, us, q, h1, h2, h3, h4, h5, h6, h7, h8, h9, h10, h11, h12, h13, h15, h14⟩ hst hdf
    rw [backL_map, HVL.out] at h1
    have his := itemsR_inj vs _ _ h1
    subst his
    have t3 := ht 3
    have t2 := ht 2
    simp [AF.tmp_upd] at t3 t2
    have hd3 : f2.defers = [{ target := .collected H1.n, args := #[] }] := by rw [hd2]; simp [AF.defers_upd, hd]
    obtain ⟨H2, hH2⟩ : ∃ H2, H2 = H'.upd (H1.n + 1) (AObj.loop LoopState.exhausted none) := ⟨_, rfl⟩
    rw [← hH2]
    have hn2 : H2.n = H'.n := by rw [hH2, AHeap.n_upd]
    have hk2 : ∀ i, i ≠ H1.n + 1 → H2.get i = H'.get i := fun i hi => by rw [hH2, AHeap.get_upd_ne hi]
    have hg2 : H2.get (H.n + 2) = .row [v, .int .i64 p] 79 := (hk2 _ (by omega)).trans h9
    have hc2 : cellsAt H2 (H.n + 2) 0 2 = some [v, .int .i64 p] := by simp [cellsAt, hg2]
    have hdf2 : H2.get H1.n = .defs false := (hk2 _ (by omega)).trans hdf
    have hg1 : H2.get (H.n + 1) = .row [.slice none 0 0, .int .i64 0] 79 := (hk2 _ (by omega)).trans ((hst.get (H.n + 1) (by simp only [AHeap.n_push]; omega) (by omega)).trans ((AHeap.get_push_old (by rw [AHeap.n_push]; omega)).trans ((AHeap.get_push_old (by omega)).trans HG1.out)))
    have hx2 : Ext H H2 := ⟨by have := HXH.out.n; omega, fun i hi => (hk2 i (by omega)).trans (h14 i hi)⟩
    have hO2 : Own H2 q v 64 1 us := own_at h10 (by omega) fun i n hv hn => hk2 i (by have := (own_block h10 hv hn).1; omega)
    have hR2 := (h12.keep (D' := fun i => H1.n + 1 < i) (q' := q) (H' := H2) fun b hb hq => ⟨hb.2, hq, hk2 b (by omega)⟩)
    have HX2 := Lib.hid hx2
    have HO2 := Lib.hid hO2
    have HR2 := Lib.hid hR2
    have hq2 : q ≤ H2.n := by omega
    have hn3 : H.n + 1 < H2.n := by omega
    have hn4 : H1.n < H2.n := by omega
    obtain ⟨va, vn, rfl⟩ := own_slice hO2
    clear hx2 hO2 hR2 hk2 hH2 h1 h2 h3 h7 h8 h9 h10 h11 h12 h13 h15 h14 hst hdf ht hd2
    repeat' (first|(with_reducible first|refine zA ?_|refine zB fun K hK=>?_|refine zC fun K2 hK2=>?_|refine zD ?_|refine zE ?_|refine zF ?_|refine zG ?_|refine zH ?_|refine zI ?_|refine zM ?_|refine zN ?_|refine zO ?_|refine zP ?_|refine zQ ?_|refine zR ?_)|((with_reducible refine zU (hK _ _ ?_));clear hK K)|((with_reducible refine zV ?_ ?_ fun K1 K3 d hdst h1 h3=>?_);rfl;exact yB rfl;cases hdst;go_simp)|((with_reducible refine zW fun K1 K3 h1 h3=>?_);go_simp)|((first|refine h1 ?_|refine h3 ?_);clear h1 h3 K1 K3)|((first|refine zX (fun hb=>h1 ?_) (fun hb=>h3 ?_)|refine zX (fun hb=>h3 ?_) (fun hb=>h1 ?_))<;>(clear h1 h3 K1 K3;(try have hb2:=yC hb);(try have hb2:=yD hb);(try have hb2:=yE hb);(try have hb2:=yF hb);(try have hb2:=yG hb)))|(refine fun (K2:_→AHeap→Prop) hK2=>?_)|((with_reducible refine zY ?_ ?_);decide)|((with_reducible first|refine zZ ?_ (fun K hK=>?_)|refine yA ?_ (fun K hK=>?_));(focus go_simp;done);go_simp;refine hK _ _ ?_;clear hK K)|(go_simp;(try go_bits);refine hK2 _ _ ?_;clear hK2 K2))
    refine Post.body_mark (by go_simp) ((AHeap.get_upd_ne (by omega)).trans hdf2) fun K hK => ?_
    go_simp
    rw [show cellsAt ((H2.upd (H.n + 1) (AObj.row [Value.slice va vn vn, Value.int IntKind.i64 p] 79)).upd H1.n (AObj.defs true)) (H.n + 1) 0 2 = some [Value.slice va vn vn, Value.int IntKind.i64 p] from by rw [cellsAt_get (AHeap.get_upd_ne (by omega))]; simp only [cellsAt, AHeap.get_upd_same]; rfl]
    refine hK _ _ ⟨⟨Value.slice va vn vn, by simp only; rw [HP.out]; rfl, ?_⟩, (HX2.out.upd (by omega) _).upd (by have := HXH.out.n; omega) _⟩
    have hne : ∀ i, q ≤ i → ((H2.upd (H.n + 1) (AObj.row [Value.slice va vn vn, Value.int IntKind.i64 p] 79)).upd H1.n (AObj.defs true)).get i = H2.get i := fun i hi => by rw [AHeap.get_upd_ne (by omega), AHeap.get_upd_ne (by omega)]
    have hr := RowsTo.rows (v := Value.slice va vn vn) (base := q) (hi := q) (H := (H2.upd (H.n + 1) (AObj.row [Value.slice va vn vn, Value.int IntKind.i64 p] 79)).upd H1.n (AObj.defs true)) (HR2.out.keep (D' := fun _ => True) (q' := q) fun i h1 h2 => ⟨trivial, h2, by rw [AHeap.get_upd_ne (by omega), AHeap.get_upd_ne (by omega)]⟩).to (own_at HO2.out (by rw [AHeap.n_upd, AHeap.n_upd]; exact Nat.le_refl _) fun i n hv hn => hne i (own_block HO2.out hv hn).1) (by rw [AHeap.n_upd, AHeap.n_upd]; exact hq2) (by simp; omega)
    rw [rev_rows] at hr
    exact hr
  case gen =>
    clear f0 hd HQ HG1 HG2 HCS
    refine ⟨MirC.own, MirC.lt, ?_, ?_, ?_, MirC.keep, ?_⟩
    · rintro L D H' i ⟨is, v, us, q, h1, h2, h3, h4, h5, h6, h7, h8, h9, h10, h11, h12, h13, h15, h14⟩ h
      omega
    · rintro L D H' ⟨is, v, us, q, h1, h2, h3, h4, h5, h6, h7, h8, h9, h10, h11, h12, h13, h15, h14⟩
      exact h8
    · rintro L D H' l2 x2 ⟨is, v, us, q, h1, h2, h3, h4, h5, h6, h7, h8, h9, h10, h11, h12, h13, h15, h14⟩ hf2
      simp only [findLoop] at hf2
      split at hf2
      · rename_i he; subst he; omega
      · cases hf2
    rintro loops L D H' _ hfl hroom ⟨i0, hi0, rfl⟩ ⟨is, v, us, q, rfl, h2, h3, h4, h5, h6, h7, h8, h9, h10, h11, h12, h13, h15, h14⟩
    have hfl := hfl _ _ findLoop_head
    obtain ⟨u, hu, hsu⟩ := HSP.out i0 hi0
    have hit : itemR vs i0 = .tuple #[.int .i64 i0, u] := by simp [itemR, List.getD_eq_getElem?_getD, hu]
    have HL : Hid (is.map (itemR vs) ++ [itemR vs i0] = (is ++ [i0]).map (itemR vs)) := Lib.hid (by simp)
    rw [HL.out, hit, pairA_mk]
    have HIS : Hid (∀ i, i ∈ is ++ [i0] → i < vs.length) := Lib.hid (fun i hi => by
      rcases List.mem_append.1 hi with h | h
      · exact h2 i h
      · rw [List.mem_singleton.1 h]; exact hi0)
    have HRW : Hid ((is ++ [i0]).map (fun i => flipS (x.at_ i)) = is.map (fun i => flipS (x.at_ i)) ++ [flipS (x.at_ i0)]) := Lib.hid (by simp)
    have HSU := Lib.hid hsu
    have hrl := HRL.out i0
    have HRB0 := Lib.hid (HRB.out i0)
    generalize x.at_ i0 = row at HSU HRW hrl HRB0
    obtain ⟨hul, ua, uc, rfl⟩ := HSU.out.slice
    have hisl : is.length < 1000 := by simpa using hroom
    clear hu hsu hit h2 HSP HRL HRB hroom hi0
    refine RoundS.enter hfl rfl (by simp) h8 fun f' hd' hf' => ?_
    have g16 := hf' 16
    have g3 := hf' 3
    simp [paramsAt, AF.tmp_mk, AF.tmp_upd] at g16 g3
    dsimp only
    have HFL := Lib.hid hfl
    have HO := Lib.hid h10
    have HBL := Lib.hid h11
    have HRT := Lib.hid h12
    have HDI := Lib.hid h15
    have HDC := Lib.hid h13
    have HDL := Lib.hid h7
    have HEX : Hid (Ext H H') := Lib.hid ⟨by omega, h14⟩
    clear hfl h7 h10 h11 h12 h13 h15 h14 hf'
    repeat' (first|(with_reducible first|refine zA ?_|refine zB fun K hK=>?_|refine zC fun K2 hK2=>?_|refine zD ?_|refine zE ?_|refine zF ?_|refine zG ?_|refine zH ?_|refine zI ?_|refine zM ?_|refine zN ?_|refine zO ?_|refine zP ?_|refine zQ ?_|refine zR ?_)|((with_reducible refine zU (hK _ _ ?_));clear hK K)|((with_reducible refine zV ?_ ?_ fun K1 K3 d hdst h1 h3=>?_);rfl;exact yB rfl;cases hdst;go_simp)|((with_reducible refine zW fun K1 K3 h1 h3=>?_);go_simp)|((first|refine h1 ?_|refine h3 ?_);clear h1 h3 K1 K3)|((first|refine zX (fun hb=>h1 ?_) (fun hb=>h3 ?_)|refine zX (fun hb=>h3 ?_) (fun hb=>h1 ?_))<;>(clear h1 h3 K1 K3;(try have hb2:=yC hb);(try have hb2:=yD hb);(try have hb2:=yE hb);(try have hb2:=yF hb);(try have hb2:=yG hb)))|(refine fun (K2:_→AHeap→Prop) hK2=>?_)|((with_reducible refine zY ?_ ?_);decide)|((with_reducible first|refine zZ ?_ (fun K hK=>?_)|refine yA ?_ (fun K hK=>?_));(focus go_simp;done);go_simp;refine hK _ _ ?_;clear hK K)|(go_simp;(try go_bits);refine hK2 _ _ ?_;clear hK2 K2))
    refine ⟨?_, ?_⟩
    · exact h8
    obtain ⟨H3, hH3⟩ : ∃ H3, H3 = H'.upd (H1.n + 1) (.loop .busy none) := ⟨_, rfl⟩
    rw [← hH3]
    have hn3 : H3.n = H'.n := by rw [hH3, AHeap.n_upd]
    have hk3 : ∀ i, i ≠ H1.n + 1 → H3.get i = H'.get i := by
      intro i hne
      rw [hH3, AHeap.get_upd_ne hne]
    have hl3 : H3.get (H1.n + 1) = .loop .busy none := by rw [hH3]; exact AHeap.get_upd_same
    have HX3 : Hid (Ext H H3) := Lib.hid ⟨by have := HEX.out.n; omega, fun i hi => (hk3 i (by omega)).trans (HEX.out.get i hi)⟩
    have HK3 := Lib.hid hk3
    have HL3 := Lib.hid hl3
    have hhi : q ≤ H3.n := by omega
    clear hH3 hk3 hl3
    repeat' (first|(with_reducible first|refine zA ?_|refine zB fun K hK=>?_|refine zC fun K2 hK2=>?_|refine zD ?_|refine zE ?_|refine zF ?_|refine zG ?_|refine zH ?_|refine zI ?_|refine zM ?_|refine zN ?_|refine zO ?_|refine zP ?_|refine zQ ?_|refine zR ?_)|((with_reducible refine zU (hK _ _ ?_));clear hK K)|((with_reducible refine zV ?_ ?_ fun K1 K3 d hdst h1 h3=>?_);rfl;exact yB rfl;cases hdst;go_simp)|((with_reducible refine zW fun K1 K3 h1 h3=>?_);go_simp)|((first|refine h1 ?_|refine h3 ?_);clear h1 h3 K1 K3)|((first|refine zX (fun hb=>h1 ?_) (fun hb=>h3 ?_)|refine zX (fun hb=>h3 ?_) (fun hb=>h1 ?_))<;>(clear h1 h3 K1 K3;(try have hb2:=yC hb);(try have hb2:=yD hb);(try have hb2:=yE hb);(try have hb2:=yF hb);(try have hb2:=yG hb)))|(refine fun (K2:_→AHeap→Prop) hK2=>?_)|((with_reducible refine zY ?_ ?_);decide)|((with_reducible first|refine zZ ?_ (fun K hK=>?_)|refine yA ?_ (fun K hK=>?_));(focus go_simp;done);go_simp;refine hK _ _ ?_;clear hK K)|(go_simp;(try go_bits);(try first | ((with_reducible show CallS _ _ _ _ _ _);refine CallS.mono (backS_e (Hb := H) HSU.out (HX3.out.push' _)) ?_; rintro qv H4 ⟨hq, hx⟩; (have HQ := Lib.hid (hq.gives (It := fun t => ∃ i, i < row.length ∧ t = itemS row i) fun i hi => ⟨i, hi, rfl⟩)); (have HX4 := Lib.hid hx); (have hn4 : H3.n + 1 ≤ H4.n := by have := hx.n; simp only [AHeap.n_push] at this; omega); (have HG6 : Hid (H4.get H3.n = .row [.slice none 0 0] 64) := Lib.hid ((hx.get H3.n (by simp only [AHeap.n_push]; omega)).trans (get_at rfl))); (have HL4 : Hid (H4.get (H1.n + 1) = .loop .busy none) := Lib.hid ((hx.get _ (by simp only [AHeap.n_push]; omega)).trans ((AHeap.get_push_old (by omega)).trans HL3.out))); clear hq hx));refine hK2 _ _ ?_;clear hK2 K2))
    refine CodeS.range_gives2_in (ls := []) (H0 := H4) (Rd := fun _ => False) (room := 1000) (S := MirI H3.n H4.n row) (D := fun i => i = H4.n ∨ i = H3.n) rfl HFL.out HL4.out (LExt.nil _) HQ.out (by go_simp) (Ext.refl _) hrl ?gen2 ?hS2 ?hRD2 ?hend2
    case hRD2 =>
      rintro i hi (h | h)
      · have := HQ.out.lt hi; omega
      · rcases hi with h3 | h3
        · have := HX3.out.n; omega
        · simp only [AHeap.n_push] at h3; omega
    case hS2 =>
      refine ⟨[], .slice none 0 0, rfl, by omega, by rw [AHeap.n_push]; omega, get_at rfl, ?_, Own.nil, fun i => by simp⟩
      rw [AHeap.get_push_old (by omega)]; exact HG6.out
    case hend2 =>
      rintro D2 H5 ⟨js, w, k1, k3, k4, k5, k6, k7, k8⟩ hst
      rw [backL_map] at k1
      have hjs := itemsS_inj row _ _ k1
      subst hjs
      rw [rev_row] at k7
      obtain ⟨H6, hH6⟩ : ∃ H6, H6 = H5.upd H4.n (AObj.loop LoopState.exhausted none) := ⟨_, rfl⟩
      rw [← hH6]
      have hn6 : H6.n = H5.n := by rw [hH6, AHeap.n_upd]
      have hn5 : H4.n + 1 ≤ H5.n := by have := hst.n; rw [AHeap.n_push] at this; exact this
      have hk6 : ∀ i, i < H3.n → H6.get i = H3.get i := fun i hi => by
        rw [hH6, AHeap.get_upd_ne (by omega), hst.get i (by rw [AHeap.n_push]; omega) (by omega), AHeap.get_push_old (by omega), HX4.out.get i (by rw [AHeap.n_push]; omega), AHeap.get_push_old hi]
      have hg6 : H6.get H3.n = .row [w] 64 := by rw [hH6, AHeap.get_upd_ne (by omega)]; exact k6
      have hw6 : Own H6 H4.n w 68 2 (spanCells (flipS row)) := own_at k7 (by omega) fun i n hv hn => by
        rw [hH6]
        refine AHeap.get_upd_ne fun e => ?_
        have h9 := (own_block k7 hv hn).2.2
        rw [e, k5] at h9
        cases h9
      have HW := Lib.hid (SpansIn.of_own hw6 (by have : (flipS row).length = row.length := (by simp [flipS]); omega))
      obtain ⟨wa, wn, rfl⟩ := own_slice hw6
      have hO6 : Own H6 q v 64 1 us := own_at HO.out (by omega) fun i n hv hn => by rw [hk6 i (by have := (own_block HO.out hv hn).2.1; omega)]; exact HK3.out i (by have := (own_block HO.out hv hn).1; omega)
      have HO6 := Lib.hid hO6
      obtain ⟨va, vn, rfl⟩ := own_slice hO6
      have HK6 : Hid (∀ i, i < H'.n → i ≠ H1.n + 1 → H6.get i = H'.get i) := Lib.hid (fun i hi hne => by rw [hk6 i (by omega)]; exact HK3.out i hne)
      have HL6 : Hid (H6.get (H1.n + 1) = .loop .busy none) := Lib.hid (by rw [hk6 _ (by omega)]; exact HL3.out)
      have hgm : H6.get (H.n + 2) = .row [Value.slice va vn vn, .int .i64 p] 79 := (HK6.out _ (by omega) (by omega)).trans h9
      have HGM := Lib.hid hgm
      have hcm : cellAt H6 (H.n + 2) 0 = some (Value.slice va vn vn) := by simp [cellAt, hgm]
      have hcw : cellAt H6 H3.n 0 = some (Value.slice wa wn wn) := by simp [cellAt, hg6]
      have hbig : (us.length + 1) * max 24 1 ≤ 1073741824 := by have := HRT.out.1; simp at this; simp; omega
      have HBIG := Lib.hid hbig
      have HONE := Lib.hid HRT.out.to.one
      have hlm : H.n + 2 < H6.n := by omega
      have hlw : H3.n < H6.n := by omega
      have hlw' : H'.n < H6.n := by omega
      have hcw' : cellAt H6 H'.n 0 = some (Value.slice wa wn wn) := by rw [← hn3]; exact hcw
      have hlm7 : ∀ H7 : AHeap, H6.n + 1 ≤ H7.n → H.n + 2 < H7.n := fun H7 h => by omega
      have hn64 : H4.n + 1 ≤ H6.n := by omega
      have HN3 := Lib.hid hn3
      have hn36 : H'.n + 2 ≤ H6.n := by omega
      clear hbig hgm hg6 hw6 hO6 hk6 hH6 hst k1 k3 k5 k6 k7 k8 k4 hn6 hn5
      repeat' (first|(with_reducible first|refine zA ?_|refine zB fun K hK=>?_|refine zC fun K2 hK2=>?_|refine zD ?_|refine zE ?_|refine zF ?_|refine zG ?_|refine zH ?_|refine zI ?_|refine zM ?_|refine zN ?_|refine zO ?_|refine zP ?_|refine zQ ?_|refine zR ?_)|((with_reducible refine zU (hK _ _ ?_));clear hK K)|((with_reducible refine zV ?_ ?_ fun K1 K3 d hdst h1 h3=>?_);rfl;exact yB rfl;cases hdst;go_simp)|((with_reducible refine zW fun K1 K3 h1 h3=>?_);go_simp)|((first|refine h1 ?_|refine h3 ?_);clear h1 h3 K1 K3)|((first|refine zX (fun hb=>h1 ?_) (fun hb=>h3 ?_)|refine zX (fun hb=>h3 ?_) (fun hb=>h1 ?_))<;>(clear h1 h3 K1 K3;(try have hb2:=yC hb);(try have hb2:=yD hb);(try have hb2:=yE hb);(try have hb2:=yF hb);(try have hb2:=yG hb)))|(refine fun (K2:_→AHeap→Prop) hK2=>?_)|((with_reducible refine zY ?_ ?_);decide)|((with_reducible first|refine zZ ?_ (fun K hK=>?_)|refine yA ?_ (fun K hK=>?_));(focus go_simp;done);go_simp;refine hK _ _ ?_;clear hK K)|(go_simp;(try go_bits);(try first | ((refine one_k el77 sz64 ze64 rfl (by decide) (by decide) rfl rfl ?_); go_simp) | ((refine append_k2 el77 sz64 by64 ze64 rfl (by decide) (HO6.out.ext (Ext.push _)) (srcCells_new rfl) (by decide) rfl (by rw [List.all_append, HONE.out]; rfl) HBIG.out (by rw [AHeap.n_push]; omega) fun v2 H7 ho7 hg7 => ?_); (obtain ⟨a2, n2, rfl⟩ := own_slice ho7); (have HO7 := Lib.hid ho7); (have HG7 := Lib.hid hg7); (have hgm7 : H7.get (H.n + 2) = .row [Value.slice va vn vn, .int .i64 p] 79 := (hg7.2 (H.n + 2) (by rw [AHeap.n_push]; omega) (fun b n hv hn => by have := (own_block HO6.out hv hn).1; omega)).trans (by rw [AHeap.get_push_old hlm]; exact HGM.out)); clear ho7 hg7; go_simp));refine hK2 _ _ ?_;clear hK2 K2))
      have hn7 : H6.n + 1 ≤ H7.n := by have := HG7.out.1; rw [AHeap.n_push] at this; exact this
      have hk7 : ∀ i, i < H6.n → (∀ b n, Value.slice va vn vn = .slice (some ⟨b, 0, none⟩) n n → 0 < n → i ≠ b) → H7.get i = H6.get i := fun i hi hne => (HG7.out.2 i (by rw [AHeap.n_push]; omega) hne).trans (AHeap.get_push_old hi)
      have hvq : ∀ b n, Value.slice va vn vn = .slice (some ⟨b, 0, none⟩) n n → 0 < n → q ≤ b ∧ b < H'.n := fun b n hv hn => ⟨(own_block HO.out hv hn).1, (own_block HO.out hv hn).2.1⟩
      have hk8 : ∀ i, i ≠ H.n + 2 → i ≠ H1.n + 1 → ((H7.upd (H.n + 1 + 1) (AObj.row [Value.slice a2 n2 n2, Value.int IntKind.i64 p] 79)).upd (H1.n + 1) (AObj.loop LoopState.ready none)).get i = H7.get i := fun i h1 h2 => by rw [AHeap.get_upd_ne h2, AHeap.get_upd_ne h1]
      have hkd : ∀ i, i < H'.n → i ≠ H.n + 2 → i ≠ H1.n + 1 → (∀ b n, Value.slice va vn vn = .slice (some ⟨b, 0, none⟩) n n → 0 < n → i ≠ b) → ((H7.upd (H.n + 1 + 1) (AObj.row [Value.slice a2 n2 n2, Value.int IntKind.i64 p] 79)).upd (H1.n + 1) (AObj.loop LoopState.ready none)).get i = H'.get i := fun i h0 h1 h2 h3 => by rw [hk8 i h1 h2, hk7 i (by omega) h3, HK6.out i h0 h2]
      have hb7 : ∀ b n, Value.slice a2 n2 n2 = .slice (some ⟨b, 0, none⟩) n n → 0 < n → (H6.push (AObj.row [Value.slice wa wn wn] 64)).n ≤ b ∧ b < H7.n := fun b n hv hn => ⟨(own_block HO7.out hv hn).1, (own_block HO7.out hv hn).2.1⟩
      refine ⟨⟨.busy, none, ?_⟩, rfl, fun i => D i ∨ (H'.n ≤ i ∧ i < H7.n), ⟨is ++ [i0], .slice a2 n2 n2, us ++ [.slice wa wn wn], H6.n, rfl, HIS.out, by omega, by omega, by omega, ?_, .inl HDL.out, AHeap.get_upd_same, ?_, ?_, ?_, ?_, .inl HDC.out, ?_, ?_⟩, ?_⟩
      · rw [AHeap.get_upd_ne (by omega), hk7 _ (by omega) (fun b n hv hn => by have := hvq b n hv hn; omega)]; exact HL6.out
      · rw [AHeap.n_upd, AHeap.n_upd]; omega
      · rw [AHeap.get_upd_ne (by omega)]; exact AHeap.get_upd_same
      · refine own_at (HO7.out.mono (by rw [AHeap.n_push]; omega)) (by rw [AHeap.n_upd, AHeap.n_upd]; exact Nat.le_refl _) fun i n hv hn => hk8 i ?_ ?_
        · have := (hb7 i n hv hn).1; rw [AHeap.n_push] at this; omega
        · have := (hb7 i n hv hn).1; rw [AHeap.n_push] at this; omega
      · intro b n hv hn
        have := hb7 b n hv hn
        rw [AHeap.n_push] at this
        exact .inr (by omega)
      · rw [HRW.out]
        refine RowsD.snoc (HRT.out.keep fun b hb hq => ⟨⟨.inl hb.1, hb.2⟩, by omega, ?_⟩) (SpansD.of_in (HW.out.keep (lo' := H4.n) (hi' := H6.n) (Nat.le_refl _) (Nat.le_refl _) fun i h1 h2 => ?_) fun i h1 h2 => ⟨.inr (by omega), by omega⟩)
        · exact hkd b (by omega) (by omega) (by omega) (fun b2 n hv hn => by have := hvq b2 n hv hn; omega)
        · rw [hk8 i (by omega) (by omega)]
          exact hk7 i h2 (fun b2 n hv hn => by have := hvq b2 n hv hn; omega)
      · rw [AHeap.n_upd, AHeap.n_upd]
        rintro i (h | h)
        · have := HDI.out i h; exact ⟨by omega, this.2⟩
        · exact ⟨h.2, by omega⟩
      · intro i hi
        rw [hkd i (by omega) (by omega) (by omega) (fun b n hv hn => by have := hvq b n hv hn; omega)]
        exact HEX.out.get i hi
      · refine ⟨by rw [AHeap.n_upd, AHeap.n_upd]; omega, fun i hi hd => ?_, fun i hd => ?_⟩
        · exact hkd i hi (fun e => hd (e ▸ HDC.out)) (fun e => hd (e ▸ HDL.out)) (fun b n hv hn e => hd (e ▸ HBL.out b n hv hn))
        · rcases hd with h | h
          · exact .inl h
          · exact .inr h.1
    case gen2 =>
      have hb4 : H3.n < H4.n := by omega
      clear hd' g16 g3 h8 h9 HO HBL HRT HDI HDC HDL HEX HK3 HL3 HX3 HX4 HG6 HL4 HQ HFL HRW HIS HL HSU h5 h6 h4 h3 hhi hnn HXH hn4
      refine ⟨MirI.own, MirI.lt, fun _ h => h.elim, ?_, ?_, fun h hn hk => MirI.keep h hn fun i hi => hk i (.inl hi), ?_⟩
      · rintro L2 D2 G ⟨js, w, h1, h3, h4, h5, h6, h7, h8⟩
        exact h5
      · rintro L2 D2 G l2 x2 ⟨js, w, h1, h3, h4, h5, h6, h7, h8⟩ hf2
        simp only [findLoop] at hf2
        split at hf2
        · rename_i he; subst he; exact h4
        · cases hf2
      rintro loops L2 D2 G _ hfl hroom ⟨j0, hj0, rfl⟩ ⟨js, w, rfl, h3, h4, h5, h6, h7, h8⟩
      have hfl := hfl _ _ findLoop_head
      have HL : Hid (js.map (itemS row) ++ [itemS row j0] = (js ++ [j0]).map (itemS row)) := Lib.hid (by simp)
      have hmem : row.getD j0 (0, 0) ∈ row := by simp [List.getD_eq_getElem?_getD, hj0]
      obtain ⟨hy1, hy2, hy3, hy4⟩ := HRB0.out _ hmem
      have HCL : Hid (spanCells ((js ++ [j0]).map fun i => flip1 (row.getD i (0, 0))) = spanCells (js.map fun i => flip1 (row.getD i (0, 0))) ++ [.int .i64 (730 - (row.getD j0 (0, 0)).2), .int .i64 (730 - (row.getD j0 (0, 0)).1)]) := Lib.hid (by simp [spanCells, flip1])
      rw [HL.out, show itemS row j0 = .tuple #[.int .i64 j0, spanVal (row.getD j0 (0, 0))] from rfl, pairA_mk]
      generalize row.getD j0 (0, 0) = y at HCL hy1 hy2 hy3 hy4
      clear hmem
      obtain ⟨lo, hi⟩ := y
      simp only [spanVal] at HCL hy1 hy2 hy3 hy4 ⊢
      have hjl : js.length < 1000 := by simpa using hroom
      refine RoundS.enter hfl rfl (by simp) h5 fun f'' hd' hf'' => ?_
      have g20 := hf'' 20
      have g6 := hf'' 6
      simp [paramsAt, AF.tmp_mk, AF.tmp_upd] at g20 g6
      dsimp only
      have HO := Lib.hid h7
      have HDI := Lib.hid h8
      have hlenc : (spanCells (js.map fun i => flip1 (row.getD i (0, 0)))).length = js.length * 2 := by rw [spanCells_length]; simp
      have hone := spanCells_one (js.map fun i => flip1 (row.getD i (0, 0)))
      generalize spanCells (js.map fun i => flip1 (row.getD i (0, 0))) = cells at HO HCL hlenc hone
      have HONE := Lib.hid hone
      clear h7 h8 hfl hf'' hroom hone
      repeat' (first|(with_reducible first|refine zA ?_|refine zB fun K hK=>?_|refine zC fun K2 hK2=>?_|refine zD ?_|refine zE ?_|refine zF ?_|refine zG ?_|refine zH ?_|refine zI ?_|refine zM ?_|refine zN ?_|refine zO ?_|refine zP ?_|refine zQ ?_|refine zR ?_)|((with_reducible refine zU (hK _ _ ?_));clear hK K)|((with_reducible refine zV ?_ ?_ fun K1 K3 d hdst h1 h3=>?_);rfl;exact yB rfl;cases hdst;go_simp)|((with_reducible refine zW fun K1 K3 h1 h3=>?_);go_simp)|((first|refine h1 ?_|refine h3 ?_);clear h1 h3 K1 K3)|((first|refine zX (fun hb=>h1 ?_) (fun hb=>h3 ?_)|refine zX (fun hb=>h3 ?_) (fun hb=>h1 ?_))<;>(clear h1 h3 K1 K3;(try have hb2:=yC hb);(try have hb2:=yD hb);(try have hb2:=yE hb);(try have hb2:=yF hb);(try have hb2:=yG hb)))|(refine fun (K2:_→AHeap→Prop) hK2=>?_)|((with_reducible refine zY ?_ ?_);decide)|((with_reducible first|refine zZ ?_ (fun K hK=>?_)|refine yA ?_ (fun K hK=>?_));(focus go_simp;done);go_simp;refine hK _ _ ?_;clear hK K)|(go_simp;(try go_bits);refine hK2 _ _ ?_;clear hK2 K2))
      refine ⟨?_, ?_⟩
      · rw [AHeap.get_push_old h4]; exact h5
      obtain ⟨G3, hG3⟩ : ∃ G3, G3 = (G.push (AObj.row [Value.int IntKind.i64 lo, Value.int IntKind.i64 hi] 68)).upd H4.n (.loop .busy none) := ⟨_, rfl⟩
      rw [← hG3]
      have hgn : G3.n = G.n + 1 := by rw [hG3, AHeap.n_upd, AHeap.n_push]
      have hk3 : ∀ i, i < G.n → i ≠ H4.n → G3.get i = G.get i := by
        intro i hi hne
        rw [hG3, AHeap.get_upd_ne hne, AHeap.get_push_old hi]
      have hl3 : G3.get H4.n = .loop .busy none := by rw [hG3]; exact AHeap.get_upd_same
      have hi3 : G3.get G.n = .row [Value.int IntKind.i64 lo, Value.int IntKind.i64 hi] 68 := by rw [hG3, AHeap.get_upd_ne (by omega), get_at rfl]
      have hi30 : cellAt G3 G.n 0 = some (.int .i64 lo) := by simp [cellAt, hi3]
      have hi31 : cellAt G3 G.n 1 = some (.int .i64 hi) := by simp [cellAt, hi3]
      have hc3 : G3.get H3.n = .row [w] 64 := by rw [hk3 _ (by omega) (by omega)]; exact h6
      have hcc3 : cellAt G3 H'.n 0 = some w := by rw [← hn3]; simp [cellAt, hc3]
      have hne3 : ∀ i n, w = .slice (some ⟨i, 0, none⟩) n n → 0 < n → i ≠ H4.n ∧ i ≠ H3.n := by
        intro i n hv hn
        have h9 := (own_block HO.out hv hn).2.2
        have h10 := (own_block HO.out hv hn).1
        constructor
        · rintro rfl; rw [h5] at h9; cases h9
        · omega
      have HO3 : Hid (Own G3 H4.n w 68 2 cells) := Lib.hid (own_at HO.out (by omega) fun i n hv hn => hk3 i (own_block HO.out hv hn).2.1 (hne3 i n hv hn).1)
      have HK3 := Lib.hid hk3
      have HNE := Lib.hid hne3
      have HGN := Lib.hid hgn
      have HL3 := Lib.hid hl3
      have HN3 := Lib.hid hn3
      have hlt3 : H'.n < G3.n := by omega
      have hlt3' : G.n < G3.n := by omega
      have hlt4 : H4.n < G3.n := by omega
      have HC3 := Lib.hid hc3
      have HBIG : Hid ((cells.length + 2) * max 16 1 ≤ 1073741824) := Lib.hid (by simp; omega)
      have hnn4 : H'.n < H4.n := by omega
      clear hk3 hne3 hG3 hl3 hc3 hgn hi3 hlenc
      repeat' (first|(with_reducible first|refine zA ?_|refine zB fun K hK=>?_|refine zC fun K2 hK2=>?_|refine zD ?_|refine zE ?_|refine zF ?_|refine zG ?_|refine zH ?_|refine zI ?_|refine zM ?_|refine zN ?_|refine zO ?_|refine zP ?_|refine zQ ?_|refine zR ?_)|((with_reducible refine zU (hK _ _ ?_));clear hK K)|((with_reducible refine zV ?_ ?_ fun K1 K3 d hdst h1 h3=>?_);rfl;exact yB rfl;cases hdst;go_simp)|((with_reducible refine zW fun K1 K3 h1 h3=>?_);go_simp)|((first|refine h1 ?_|refine h3 ?_);clear h1 h3 K1 K3)|((first|refine zX (fun hb=>h1 ?_) (fun hb=>h3 ?_)|refine zX (fun hb=>h3 ?_) (fun hb=>h1 ?_))<;>(clear h1 h3 K1 K3;(try have hb2:=yC hb);(try have hb2:=yD hb);(try have hb2:=yE hb);(try have hb2:=yF hb);(try have hb2:=yG hb)))|(refine fun (K2:_→AHeap→Prop) hK2=>?_)|((with_reducible refine zY ?_ ?_);decide)|((with_reducible first|refine zZ ?_ (fun K hK=>?_)|refine yA ?_ (fun K hK=>?_));(focus go_simp;done);go_simp;refine hK _ _ ?_;clear hK K)|(go_simp;(try go_bits);(try first | ((refine one_k el64 sz68 ze68 rfl (by decide) (by decide) rfl rfl ?_); go_simp) | ((refine append_k2 el64 sz68 by68 ze68 rfl (by decide) (HO3.out.ext (Ext.push _)) (srcCells_new rfl) (by decide) rfl (by rw [List.all_append, HONE.out]; rfl) HBIG.out (by rw [AHeap.n_push]; omega) fun v2 G4 ho4 hg4 => ?_); (obtain ⟨a2, n2, rfl⟩ := own_slice ho4); (have HO4 := Lib.hid ho4); (have HG4 := Lib.hid hg4); (have hc4 : G4.get H'.n = .row [w] 64 := (hg4.2 H'.n (by rw [AHeap.n_push]; omega) (fun b n hv hn => by have := (HNE.out b n hv hn).2; have := HN3.out; omega)).trans (by rw [AHeap.get_push_old hlt3, ← HN3.out]; exact HC3.out)); clear ho4 hg4; go_simp));refine hK2 _ _ ?_;clear hK2 K2))
      rw [← HN3.out] at hc4 ⊢
      have hl4 : G4.get H4.n = .loop .busy none := (HG4.out.2 H4.n (by rw [AHeap.n_push]; omega) (fun b n hv hn => (HNE.out b n hv hn).1.symm)).trans (by rw [AHeap.get_push_old hlt4]; exact HL3.out)
      have hn4 : G.n + 1 < G4.n := by have := HG4.out.1; rw [AHeap.n_push, HGN.out] at this; omega
      refine ⟨⟨.busy, none, ?_⟩, rfl, fun i => i = H4.n ∨ i = H3.n ∨ ∃ n, Value.slice a2 n2 n2 = .slice (some ⟨i, 0, none⟩) n n ∧ 0 < n, ⟨js ++ [j0], .slice a2 n2 n2, rfl, h3, ?_, ?_, ?_, ?_, fun i => Iff.rfl⟩, ?_⟩
      · rw [AHeap.get_upd_ne (by omega)]; exact hl4
      · rw [AHeap.n_upd, AHeap.n_upd]; omega
      · exact AHeap.get_upd_same
      · rw [AHeap.get_upd_ne (by omega), AHeap.get_upd_same]
      · rw [HCL.out]
        refine own_at (HO4.out.mono (by rw [AHeap.n_push, HGN.out]; omega)) (by rw [AHeap.n_upd, AHeap.n_upd]; exact Nat.le_refl _) fun i n hv hn => ?_
        have h9 := (own_block HO4.out hv hn).1
        rw [AHeap.n_push, HGN.out] at h9
        rw [AHeap.get_upd_ne (by omega), AHeap.get_upd_ne (by omega)]
      · refine ⟨by rw [AHeap.n_upd, AHeap.n_upd]; omega, fun i hi hd => ?_, fun i hd => ?_⟩
        · have h9 := fun h => hd ((HDI.out i).2 h)
          rw [AHeap.get_upd_ne (fun e => h9 (.inl e)), AHeap.get_upd_ne (fun e => h9 (.inr (.inl e))), HG4.out.2 i (by rw [AHeap.n_push, HGN.out]; omega) (fun b n hv hn e => h9 (.inr (.inr ⟨n, by rw [e]; exact hv, hn⟩))), AHeap.get_push_old (by rw [HGN.out]; omega)]
          exact HK3.out i hi (fun e => h9 (.inl e))
        · rcases hd with h | h | ⟨n, hv, hn⟩
          · exact .inl ((HDI.out i).2 (.inl h))
          · exact .inl ((HDI.out i).2 (.inr (.inl h)))
          · have h9 := (own_block HO4.out hv hn).1
            rw [AHeap.n_push, HGN.out] at h9
            exact .inr (by omega)
end Go.Proofs.Tryz
namespace Go.Proofs.Tryz
open Go Go.Am Go.RowKit Go.Co
set_option maxRecDepth 100000

theorem ordS_in : ∀ (l : List (Int × Int)) {b : Int}, 0 ≤ b → ordS b l → ∀ y, y ∈ l → 0 ≤ y.1 ∧ y.1 ≤ 730 ∧ 0 ≤ y.2 ∧ y.2 ≤ 730
  | [], _, _, _, y, hy => by cases hy
  | x :: t, b, hb, hs, y, hy => by
    obtain ⟨h1, h2, h3, h4⟩ := hs
    rcases List.mem_cons.1 hy with rfl | h
    · omega
    · exact ordS_in t (by omega) h4 y h
theorem ordS_len : ∀ (l : List (Int × Int)) {b : Int}, b ≤ 732 → ordS b l → l.length * 2 ≤ (732 - b).toNat
  | [], _, _, _ => by simp
  | x :: t, b, hb, hs => by
    obtain ⟨h1, h2, h3, h4⟩ := hs
    have := ordS_len t (by omega) h4
    simp only [List.length_cons]
    omega
def Course.mir (x : Course) : Course := ⟨x.open_.reverse.map flipS, x.per⟩
theorem Course.mir_ord {x : Course} (h : x.ord) : x.mir.ord := by
  intro i
  by_cases hi : i < x.open_.length
  · have e : x.mir.at_ i = flipS (x.at_ (x.open_.length - 1 - i)) := by
      simp [Course.mir, Course.at_, hi, List.getElem_reverse, show x.open_.length - 1 - i < x.open_.length by omega]
    rw [e]
    exact flipS_ord _ (Int.le_refl 0) (h _)
  · have e : x.mir.at_ i = [] := by simp [Course.mir, Course.at_, hi]
    rw [e]; trivial
theorem early_in {x : Course} (h : x.ord) {p : Nat} {frm : Int} : ∀ (n : Nat) (acc : List Int), (∀ y, y ∈ acc → 0 ≤ y ∧ y ≤ 730) → ∀ y, y ∈ Co.early x.nx p frm n acc → 0 ≤ y ∧ y ≤ 730
  | 0, acc, ha, y, hy => ha y hy
  | n + 1, acc, ha, y, hy => by
    rw [Co.early] at hy
    split at hy
    · exact ha y hy
    · rename_i h1
      refine early_in h n _ (fun z hz => ?_) y hy
      rcases List.mem_append.1 hz with h2 | h2
      · exact ha z h2
      · rw [List.mem_singleton.1 h2]; exact Course.nx_in h h1
theorem early_len (nx : Nat → Int → Int) (p : Nat) (frm : Int) : ∀ (n : Nat) (acc : List Int), (Co.early nx p frm n acc).length ≤ acc.length + n
  | 0, acc => by rw [Co.early]; omega
  | n + 1, acc => by
    rw [Co.early]
    split
    · omega
    · have := early_len nx p frm n (acc ++ [nx acc.length (max frm (lowL p acc acc.length))])
      simp at this; omega
def Course.late (x : Course) (p : Nat) : List Int := flipD (x.mir.early p 0)

theorem latest_e {loops : List (Nat × LInfo)} {H : AHeap} {v : Value} {x : Course} {p : Nat} (hv : CourseV H v x) (ho : x.ord) (hp : x.per = p) (hp1 : 1 ≤ p) (hn : x.open_.length ≤ 1000) : CallS Tryz.prog loops 95 [v] H fun r H' => Own H' H.n r 3 1 ((x.late p).map (Value.int .i64)) ∧ Ext H H' := by
  have HV := Lib.hid hv
  obtain ⟨ov, rfl, hov⟩ := hv
  obtain ⟨hol, oa, oc, rfl⟩ := hov.slice
  have HOR := Lib.hid ho
  have HP := Lib.hid hp
  clear hov ho hp
  refine CallS.enter' Tryz.func95 rfl Tryz.ntmps95 (by simp) fun f hd hf => ?_
  have f0 := hf 0
  simp at f0
  clear hf
  generalize hper : x.per = per at f0 HV
  have HPER := Lib.hid hper
  clear hper
  repeat' (first|(with_reducible first|refine zA ?_|refine zB fun K hK=>?_|refine zC fun K2 hK2=>?_|refine zD ?_|refine zE ?_|refine zF ?_|refine zG ?_|refine zH ?_|refine zI ?_|refine zM ?_|refine zN ?_|refine zO ?_|refine zP ?_|refine zQ ?_|refine zR ?_)|((with_reducible refine zU (hK _ _ ?_));clear hK K)|((with_reducible refine zV ?_ ?_ fun K1 K3 d hdst h1 h3=>?_);rfl;exact yB rfl;cases hdst;go_simp)|((with_reducible refine zW fun K1 K3 h1 h3=>?_);go_simp)|((first|refine h1 ?_|refine h3 ?_);clear h1 h3 K1 K3)|((first|refine zX (fun hb=>h1 ?_) (fun hb=>h3 ?_)|refine zX (fun hb=>h3 ?_) (fun hb=>h1 ?_))<;>(clear h1 h3 K1 K3;(try have hb2:=yC hb);(try have hb2:=yD hb);(try have hb2:=yE hb);(try have hb2:=yF hb);(try have hb2:=yG hb)))|(refine fun (K2:_→AHeap→Prop) hK2=>?_)|((with_reducible refine zY ?_ ?_);decide)|((with_reducible first|refine zZ ?_ (fun K hK=>?_)|refine yA ?_ (fun K hK=>?_));(focus go_simp;done);go_simp;refine hK _ _ ?_;clear hK K)|(go_simp;(try go_bits);(try first |((with_reducible show CallS _ _ _ _ _ _);first|(refine CallS.mono (mirrored_e (x := x) (p := p) (HV.out.ext (Ext.push _)) HP.out hn (fun i => by have := ordS_len _ (by omega) (HOR.out i); omega) (fun i y hy => ordS_in _ (Int.le_refl 0) (HOR.out i) y hy)) ?_; rintro mv H1 ⟨hm, hx⟩; (have HM := Lib.hid (show CourseV H1 mv x.mir from hm)); (have HX1 := Lib.hid ((Ext.push _).trans hx)); clear hm hx)|(refine CallS.mono (earliest_e (x := x.mir) (p := p) HM.out (Course.mir_ord HOR.out) HP.out hp1 (by simp [Course.mir]; omega)) ?_; rintro ev H2 ⟨he, hx⟩; (have HE := Lib.hid (ints_of_own he (by have := early_len x.mir.nx p 0 x.mir.open_.length []; simp [Course.mir, Course.early] at this ⊢; omega))); (have HX2 := Lib.hid (HX1.out.trans hx)); clear he hx)|(refine CallS.mono (mirroredDays_e HE.out (fun y hy => by have := early_in (Course.mir_ord HOR.out) _ _ (by simp) y hy; omega) (by have := early_len x.mir.nx p 0 x.mir.open_.length []; simp [Course.mir, Course.early] at this ⊢; omega)) ?_; rintro dv H3 ⟨hd3, hx⟩; (have HD := Lib.hid hd3); (have HX3 := Lib.hid (HX2.out.trans hx)); (have hn3 := HX2.out.n); clear hd3 hx)));refine hK2 _ _ ?_;clear hK2 K2))
  exact ⟨HD.out.mono hn3, HX3.out⟩
end Go.Proofs.Tryz
