/- Contracts of functions, walked. -/
import Derived.Test.YtgddlpegljkgpaaGreatStS3
import Derived.Test.YtgddlpegljkgpaaGreatAwB
set_option linter.all false
namespace Go.Proofs.Tryz
open Go Go.Am Go.RowKit
set_option maxRecDepth 100000


def SeqAt (Hb H : AHeap) (p q : Nat) (v : Value) (s : Sheet) (line : Int) : Prop := ∃ wv av, v = .func (.func 128) #[] #[.pointer (some ⟨p, 0, none⟩), .pointer (some ⟨q, 0, none⟩)] ∧ p < H.n ∧ q < H.n ∧ H.get p = .row [wv, av] 25 ∧ H.get q = .row [.int .i64 line] 3 ∧ Ints Hb wv s.words ∧ Alts Hb av s.alts ∧ Ext Hb H
theorem SeqAt.ext {Hb H H' : AHeap} {p q : Nat} {v : Value} {s : Sheet} {line : Int} (h : SeqAt Hb H p q v s line) (hx : Ext H H') : SeqAt Hb H' p q v s line := by
  obtain ⟨wv, av, h1, h2, h3, h4, h5, h6, h7, h8⟩ := h
  exact ⟨wv, av, h1, Nat.lt_of_lt_of_le h2 hx.n, Nat.lt_of_lt_of_le h3 hx.n, (hx.get p h2).trans h4, (hx.get q h3).trans h5, h6, h7, h8.trans hx⟩

theorem stretches_e {loops : List (Nat × LInfo)} {Hb H : AHeap} {sv : Value} {s : Sheet} {line : Int} (hv : SheetV Hb sv s) (hx : Ext Hb H) : CallS Tryz.prog loops 108 [sv, .int .i64 line] H fun v H' => SeqAt Hb H' H.n (H.n + 1) v s line ∧ Ext H H' := by
  obtain ⟨wv, av, rfl, hw, ha⟩ := hv
  obtain ⟨hwl, wa, wc, rfl⟩ := hw.slice
  obtain ⟨hal, aa, ac, rfl⟩ := ha.slice
  have HW := Lib.hid hw
  have HA := Lib.hid ha
  have HX := Lib.hid hx
  clear hw ha hx
  refine CallS.enter' Tryz.func108 rfl Tryz.ntmps108 (by simp) fun f hd hf => ?_
  have f0 := hf 0
  have f1 := hf 1
  simp at f0 f1
  clear hf
  repeat' (first|(with_reducible first|refine zA ?_|refine zB fun K hK=>?_|refine zC fun K2 hK2=>?_|refine zD ?_|refine zE ?_|refine zF ?_|refine zG ?_|refine zH ?_|refine zI ?_|refine zM ?_|refine zN ?_|refine zO ?_|refine zP ?_|refine zQ ?_|refine zR ?_)|((with_reducible refine zU (hK _ _ ?_));clear hK K)|((with_reducible refine zV ?_ ?_ fun K1 K3 d hdst h1 h3=>?_);rfl;exact yB rfl;cases hdst;go_simp)|((with_reducible refine zW fun K1 K3 h1 h3=>?_);go_simp)|((first|refine h1 ?_|refine h3 ?_);clear h1 h3 K1 K3)|((first|refine zX (fun hb=>h1 ?_) (fun hb=>h3 ?_)|refine zX (fun hb=>h3 ?_) (fun hb=>h1 ?_))<;>(clear h1 h3 K1 K3;(try have hb2:=yC hb);(try have hb2:=yD hb);(try have hb2:=yE hb);(try have hb2:=yF hb);(try have hb2:=yG hb)))|(refine fun (K2:_→AHeap→Prop) hK2=>?_)|((with_reducible refine zY ?_ ?_);decide)|((with_reducible first|refine zZ ?_ (fun K hK=>?_)|refine yA ?_ (fun K hK=>?_));(focus go_simp;done);go_simp;refine hK _ _ ?_;clear hK K)|(go_simp;(try go_bits);refine hK2 _ _ ?_;clear hK2 K2))
  refine ⟨⟨_, _, rfl, by rw [AHeap.n_push, AHeap.n_push]; omega, by rw [AHeap.n_push, AHeap.n_push]; omega, ?_, ?_, HW.out, HA.out, (HX.out.push' _).push' _⟩, ((Ext.refl _).push' _).push' _⟩
  · rw [AHeap.get_push_old (by rw [AHeap.n_push]; omega), AHeap.get_push_new]
  · rw [← AHeap.n_push H, AHeap.get_push_new]

@[go_sem] theorem Has.val_mk {a b : Int} {l : Bool} : Has.val ⟨a, b, l⟩ = .agg #[.int .i64 a, .int .i64 b, .bool l] := by rw [Has.val]
@[go_sem] theorem Str.val_mk {a b c d : Int} {l : Bool} : Str.val ⟨a, b, ⟨c, d, l⟩⟩ = .agg #[.int .i64 a, .int .i64 b, .int .i64 c, .int .i64 d, .bool l] := by rw [Str.val]
theorem sorted_mem : ∀ (l : List Alt) (b : Int), sorted b l → ∀ a, a ∈ l → b ≤ a.day ∧ a.day ≤ 730
  | x :: t, b, h, a, ha => by
    rcases List.mem_cons.1 ha with rfl | ha
    · exact ⟨h.1, h.2.1⟩
    · have := sorted_mem t x.day h.2.2 a ha
      exact ⟨Int.le_trans h.1 this.1, this.2⟩

theorem go_pos (line : Int) : ∀ (l : List Alt) (b : Int) (c : Has), 0 < (go line b c l).length
  | [], _, _ => by simp [go]
  | a :: t, b, c => by
    rw [go]
    split
    · exact go_pos line t b c
    · split
      · exact go_pos line t b c
      · split
        · simp
        · exact go_pos line t _ _
theorem go_le (line : Int) : ∀ (l : List Alt) (b : Int) (c : Has), (go line b c l).length ≤ l.length + 1
  | [], _, _ => by simp [go]
  | a :: t, b, c => by
    rw [go, List.length_cons]
    split
    · have := go_le line t b c; omega
    · split
      · have := go_le line t b c; omega
      · split
        · have := go_le line t a.day (c.after a); rw [List.length_cons]; omega
        · have := go_le line t a.day (c.after a); omega

def Str.isVal (v : Value) : Prop := ∃ x : Str, v = x.val ∧ -1 ≤ x.hi ∧ x.hi ≤ 730

set_option maxHeartbeats 2000000 in
theorem gives_e {loops ls : List (Nat × LInfo)} {H H0 : AHeap} {s : Sheet} {line : Int} {l room : Nat} {Rd : Nat → Prop} {S : List Value → (Nat → Prop) → AHeap → Prop} {L : List Value} {D : Nat → Prop} {p q : Nat} {wv av : Value}
    (hfl : LExt ls loops) (hg : Gen Tryz.prog l ls Rd room Str.isVal S) (hS : S L D H) (hp : p < H.n) (hq : q < H.n) (hgp : H.get p = .row [wv, av] 25) (hgq : H.get q = .row [.int .i64 line] 3) (hw : Ints H0 wv s.words) (ha : Alts H0 av s.alts) (hx : Ext H0 H) (hb : ∀ i, D i → H0.n ≤ i) (hqD : ¬ D q)
    (hl0 : 0 ≤ line) (hl1 : line < s.words.length) (hso : sorted 0 s.alts) (hro : L.length + ((go line 0 ⟨s.words[line.toNat]!, 0, false⟩ s.alts).map Str.val).length ≤ room) :
    CallS Tryz.prog loops 128 [.func (.yield l) #[] #[], .pointer (some ⟨p, 0, none⟩), .pointer (some ⟨q, 0, none⟩)] H fun _ H' => ∃ D', S (L ++ (go line 0 ⟨s.words[line.toNat]!, 0, false⟩ s.alts).map Str.val) D' H' ∧ Step D H D' H' := by
  obtain ⟨hwl, wa, wc, rfl⟩ := hw.slice
  obtain ⟨hal, aa, ac, rfl⟩ := ha.slice
  obtain ⟨ln, rfl⟩ := Int.eq_ofNat_of_zero_le hl0
  have hlt : ln < s.words.length := by omega
  obtain ⟨b, o, sp, rfl, hb1, hcw⟩ := (hw.ext hx).at_ hlt
  have e0 : s.words[(ln : Int).toNat]! = s.words[ln] := by simp [hlt]
  rw [e0] at hro ⊢
  have hcp0 : cellAt H p 0 = some (.slice (some ⟨b, o, sp⟩) s.words.length wc) := by simp [cellAt, hgp]
  have hcp1 : cellAt H p 1 = some (.slice aa s.alts.length ac) := by simp [cellAt, hgp]
  have hcq : cellAt H q 0 = some (.int .i64 ln) := by simp [cellAt, hgq]
  have HB := Lib.hid hb
  have HQD := Lib.hid hqD
  clear hb hqD
  have HFL := Lib.hid hfl
  have HG := Lib.hid hg
  have HS := Lib.hid hS
  have HGP := Lib.hid hgp
  have HGQ := Lib.hid hgq
  have HW := Lib.hid hw
  have HA := Lib.hid ha
  have HX := Lib.hid hx
  have HSO := Lib.hid hso
  generalize s.words[ln] = w0 at hcw hro ⊢
  generalize hitems : (go (ln : Int) 0 ⟨w0, 0, false⟩ s.alts).map Str.val = items at hro ⊢
  have HRO := Lib.hid hro
  have HIT := Lib.hid hitems
  clear hro hfl hg hS hgp hgq hw ha hx hso hitems e0 hl0
  refine CallS.enter' Tryz.func128 rfl Tryz.ntmps128 (by simp) fun f hd hf => ?_
  have f0 := hf 0
  have f1 := hf 1
  have f2 := hf 2
  simp at f0 f1 f2
  clear hf
  repeat' (first|(with_reducible first|refine zA ?_|refine zB fun K hK=>?_|refine zC fun K2 hK2=>?_|refine zD ?_|refine zE ?_|refine zF ?_|refine zG ?_|refine zH ?_|refine zI ?_|refine zM ?_|refine zN ?_|refine zO ?_|refine zP ?_|refine zQ ?_|refine zR ?_)|((with_reducible refine zU (hK _ _ ?_));clear hK K)|((with_reducible refine zV ?_ ?_ fun K1 K3 d hdst h1 h3=>?_);rfl;exact yB rfl;cases hdst;go_simp)|((with_reducible refine zW fun K1 K3 h1 h3=>?_);go_simp)|((first|refine h1 ?_|refine h3 ?_);clear h1 h3 K1 K3)|((first|refine zX (fun hb=>h1 ?_) (fun hb=>h3 ?_)|refine zX (fun hb=>h3 ?_) (fun hb=>h1 ?_))<;>(clear h1 h3 K1 K3;(try have hb2:=yC hb);(try have hb2:=yD hb);(try have hb2:=yE hb);(try have hb2:=yF hb);(try have hb2:=yG hb)))|(refine fun (K2:_→AHeap→Prop) hK2=>?_)|((with_reducible refine zY ?_ ?_);decide)|((with_reducible first|refine zZ ?_ (fun K hK=>?_)|refine yA ?_ (fun K hK=>?_));(focus go_simp;done);go_simp;refine hK _ _ ?_;clear hK K)|(go_simp;(try go_bits);refine hK2 _ _ ?_;clear hK2 K2))
  repeat' (first|(with_reducible first|refine zA ?_|refine zB fun K hK=>?_|refine zC fun K2 hK2=>?_|refine zD ?_|refine zE ?_|refine zF ?_|refine zG ?_|refine zH ?_|refine zI ?_|refine zM ?_|refine zN ?_|refine zO ?_|refine zP ?_|refine zQ ?_|refine zR ?_)|((with_reducible refine zU (hK _ _ ?_));clear hK K)|((with_reducible refine zV ?_ ?_ fun K1 K3 d hdst h1 h3=>?_);rfl;exact yB rfl;cases hdst;go_simp)|((with_reducible refine zW fun K1 K3 h1 h3=>?_);go_simp)|((first|refine h1 ?_|refine h3 ?_);clear h1 h3 K1 K3)|((first|refine zX (fun hb=>h1 ?_) (fun hb=>h3 ?_)|refine zX (fun hb=>h3 ?_) (fun hb=>h1 ?_))<;>(clear h1 h3 K1 K3;(try have hb2:=yC hb);(try have hb2:=yD hb);(try have hb2:=yE hb);(try have hb2:=yF hb);(try have hb2:=yG hb)))|(refine fun (K2:_→AHeap→Prop) hK2=>?_)|((with_reducible refine zY ?_ ?_);decide)|((with_reducible first|refine zZ ?_ (fun K hK=>?_)|refine yA ?_ (fun K hK=>?_));(focus go_simp;done);go_simp;refine hK _ _ ?_;clear hK K)|((with_reducible refine yH mixed rfl ?_ 20 fun K0 hK0=>?_);kernel_rfl)|(with_reducible first|exact yI|exact yJ|refine yK ?_|refine yL ?_|refine yM ?_)|((with_reducible first|refine yN ?_ ?_|refine yO ?_ ?_|refine yP ?_ ?_);rfl)|((with_reducible refine yQ ?_ ?_);rfl;refine hK0 _ _ ?_;clear hK0 K0)|((with_reducible refine yR ?_ ?_ ?_ ?_);rfl;rfl;rfl)|((with_reducible refine yS ?_ ?_ ?_ fun K2 hK2=>?_);rfl;rfl;exact yB rfl)|((with_reducible refine yT ?_ ?_ ?_ ?_ fun K1 K3 d hdst h1 h3=>?_);rfl;rfl;rfl;exact yB rfl;cases hdst;go_simp)|((with_reducible refine yU ?_ ?_ ?_ ?_ fun K1 K3 d hdst h1 h3=>?_);rfl;rfl;rfl;exact yB rfl;cases hdst;go_simp)|((with_reducible refine yV ?_ ?_ (fun K2 hK2=>?_) ?_);rfl;exact yB rfl)|((with_reducible refine yW ?_ ?_ ?_ ?_ (fun K2 hK2=>?_) ?_);rfl;exact yB rfl;rfl;(focus go_simp;done))|((with_reducible refine yX ?_ ?_ ?_ (fun K2 hK2=>?_) ?_);rfl;rfl;exact yB rfl)|((with_reducible refine yY ?_ ?_ (fun K2 hK2=>?_) ?_);rfl;rfl)|((with_reducible refine yZ ?_ ?_);(first|rfl|(dsimp only;decide +kernel)))|((with_reducible refine xA ?_ ?_);(focus go_simp;done))|(go_simp;(try go_bits);(first|(refine hK2 _ _ ?_ ?_<;>clear hK2 K2)|(refine hK2 _ _ ?_;clear hK2 K2))))
  repeat' (first|(with_reducible first|refine zA ?_|refine zB fun K hK=>?_|refine zC fun K2 hK2=>?_|refine zD ?_|refine zE ?_|refine zF ?_|refine zG ?_|refine zH ?_|refine zI ?_|refine zM ?_|refine zN ?_|refine zO ?_|refine zP ?_|refine zQ ?_|refine zR ?_)|((with_reducible refine zU (hK _ _ ?_));clear hK K)|((with_reducible refine zV ?_ ?_ fun K1 K3 d hdst h1 h3=>?_);rfl;exact yB rfl;cases hdst;go_simp)|((with_reducible refine zW fun K1 K3 h1 h3=>?_);go_simp)|((first|refine h1 ?_|refine h3 ?_);clear h1 h3 K1 K3)|((first|refine zX (fun hb=>h1 ?_) (fun hb=>h3 ?_)|refine zX (fun hb=>h3 ?_) (fun hb=>h1 ?_))<;>(clear h1 h3 K1 K3;(try have hb2:=yC hb);(try have hb2:=yD hb);(try have hb2:=yE hb);(try have hb2:=yF hb);(try have hb2:=yG hb)))|(refine fun (K2:_→AHeap→Prop) hK2=>?_)|((with_reducible refine zY ?_ ?_);decide)|((with_reducible first|refine zZ ?_ (fun K hK=>?_)|refine yA ?_ (fun K hK=>?_));(focus go_simp;done);go_simp;refine hK _ _ ?_;clear hK K)|(go_simp;(try go_bits);refine hK2 _ _ ?_;clear hK2 K2))
  refine CodeS.loop (fun m f H' => ∃ (k : Nat) (b : Int) (c : Has) (D' : Nat → Prop) (L' : List Value), k ≤ s.alts.length ∧ m = s.alts.length - k ∧ f.tmp 19 = .int .i64 k ∧ f.tmp 18 = .int .i64 s.alts.length ∧ f.tmp 17 = .slice aa s.alts.length ac ∧ f.tmp 0 = .func (.yield l) #[] #[] ∧ f.tmp 2 = .pointer (some ⟨q, 0, none⟩) ∧ f.tmp 5 = .pointer (some ⟨H.n, 0, none⟩) ∧ f.tmp 4 = .int .i64 b ∧ f.defers = [] ∧ H.n < H'.n ∧ H'.get H.n = .row [.int .i64 c.text, .int .i64 c.margin, .bool c.lost] 145 ∧ Hid (¬ D' H.n) ∧ Hid (S L' D' H') ∧ Hid (Step D H D' H') ∧ Hid (L' ++ (go ln b c (s.alts.drop k)).map Str.val = L ++ items)) s.alts.length ?_ ?_
  · refine ⟨0, 0, ⟨w0, 0, false⟩, D, L, by simp, by simp, (by first|go_simp<;>go_num|assumption), (by first|go_simp<;>go_num|assumption), (by first|go_simp<;>go_num|assumption), (by first|go_simp<;>go_num|assumption), (by first|go_simp<;>go_num|assumption), (by first|go_simp<;>go_num|assumption), (by first|go_simp<;>go_num|assumption), (by first|go_simp<;>go_num|assumption), ?_, ?_, ?_, ?_, ?_, ?_⟩
    · rw [AHeap.n_push]; omega
    · exact AHeap.get_push_new
    · exact Lib.hid fun h0 => Nat.lt_irrefl _ (HG.out.lt HS.out h0)
    · exact Lib.hid (HG.out.keepx HS.out (Ext.push _))
    · exact Lib.hid ((Step.refl _ _).push _)
    · exact Lib.hid (by rw [List.drop_zero, HIT.out])
  clear f0 f1 f2 hd f
  rintro m f H' ⟨k, b', c, D', L', hk, rfl, f19, f18, f17, f0, f2, f5, f4, hd, hn5, hg5, HND, HS', HST, HGO⟩
  have hlen : L'.length < room := by
    have h1 := congrArg List.length HGO.out
    have h2 := go_pos ln (s.alts.drop k) b' c
    have h3 := HRO.out
    simp only [List.length_append, List.length_map] at h1
    omega
  have HLEN := Lib.hid hlen
  clear hlen
  obtain ⟨ct, cm, cl⟩ := c
  simp only at hg5
  have HXX := Lib.hid (HST.out.ext HX.out HB.out)
  have hcq' : cellAt H' q 0 = some (.int .i64 ln) := by
    have : H'.get q = .row [.int .i64 ln] 3 := (HST.out.get q hq HQD.out).trans HGQ.out
    simp [cellAt, this]
  have hqn' : q < H'.n := Nat.lt_of_lt_of_le hq HST.out.n
  have hc5 : cellsAt H' H.n 0 3 = some [.int .i64 ct, .int .i64 cm, .bool cl] := by simp [cellsAt, hg5]
  by_cases hlt2 : k < s.alts.length
  · obtain ⟨b2, o2, sp2, rfl, hb2, hx6, -⟩ := (HA.out.ext HXX.out).at_ hlt2
    have HD := Lib.hid (List.drop_eq_getElem_cons hlt2)
    have hday := sorted_mem _ _ HSO.out _ (List.getElem_mem hlt2)
    generalize s.alts[k] = a at hx6 HD hday
    obtain ⟨i, kd, dy, fr, to, wd⟩ := a
    obtain ⟨hday0, hday1⟩ := hday
    simp only at hday0 hday1
    simp only [Alt.cells] at hx6
    have HAF := Lib.hid (fun (loops : List (Nat × LInfo)) (H : AHeap) => after_s (loops := loops) (H := H) (c := ⟨ct, cm, cl⟩) (a := ⟨i, kd, dy, fr, to, wd⟩))
    generalize hnx : Has.after ⟨ct, cm, cl⟩ ⟨i, kd, dy, fr, to, wd⟩ = nx at HAF
    have HNX := Lib.hid hnx
    clear hnx
    obtain ⟨nt, nm, nl⟩ := nx
    have HIB : Hid (-1 ≤ dy - 1 ∧ dy - 1 ≤ 730) := Lib.hid (by omega)
    have hne7 : (H'.n = H.n) = False := by simp; omega
    have hne7' : (H.n = H'.n) = False := by simp; omega
    have hne8' : (H.n = H'.n + 1) = False := by simp; omega
    have hne8 : (H'.n + 1 = H.n) = False := by simp; omega
    repeat' (first|(with_reducible first|refine zA ?_|refine zB fun K hK=>?_|refine zC fun K2 hK2=>?_|refine zD ?_|refine zE ?_|refine zF ?_|refine zG ?_|refine zH ?_|refine zI ?_|refine zM ?_|refine zN ?_|refine zO ?_|refine zP ?_|refine zQ ?_|refine zR ?_)|((with_reducible refine zU (hK _ _ ?_));clear hK K)|((with_reducible refine zV ?_ ?_ fun K1 K3 d hdst h1 h3=>?_);rfl;exact yB rfl;cases hdst;go_simp)|((with_reducible refine zW fun K1 K3 h1 h3=>?_);go_simp)|((first|refine h1 ?_|refine h3 ?_);clear h1 h3 K1 K3)|((first|refine zX (fun hb=>h1 ?_) (fun hb=>h3 ?_)|refine zX (fun hb=>h3 ?_) (fun hb=>h1 ?_))<;>(clear h1 h3 K1 K3;(try have hb2:=yC hb);(try have hb2:=yD hb);(try have hb2:=yE hb);(try have hb2:=yF hb);(try have hb2:=yG hb)))|(refine fun (K2:_→AHeap→Prop) hK2=>?_)|((with_reducible refine zY ?_ ?_);decide)|((with_reducible first|refine zZ ?_ (fun K hK=>?_)|refine yA ?_ (fun K hK=>?_));(focus go_simp;done);go_simp;refine hK _ _ ?_;clear hK K)|(go_simp;(try go_bits);(try first |((with_reducible show CallS _ _ _ _ _ _);first|(refine CallS.mono within_s ?_; rintro _ _ ⟨rfl, rfl⟩)|(refine CallS.mono (HAF.out _ _) ?_; rintro _ _ ⟨rfl, rfl⟩; go_simp))|((refine eq147_k (c := ⟨nt, nm, nl⟩) (d := ⟨ct, cm, cl⟩) (by go_simp) (by go_simp) ?_); go_simp)|((refine RoundS.mono (HG.out.round (v := Str.val ⟨b', dy - 1, ⟨ct, cm, cl⟩⟩) HFL.out HLEN.out ⟨_, rfl, HIB.out⟩ (HG.out.keepx HS'.out (((Ext.refl _).push' _).push' _))) ?_); rintro _ H3 ⟨rfl, D3, hS3, hst3⟩; (have HS3 := Lib.hid hS3); (have HST3 := Lib.hid hst3); (have hg53 : H3.get H.n = .row [.int .i64 ct, .int .i64 cm, .bool cl] 145 := (hst3.get H.n (by rw [AHeap.n_push, AHeap.n_push]; omega) HND.out).trans (by rw [AHeap.get_push_old (by rw [AHeap.n_push]; omega), AHeap.get_push_old hn5]; exact hg5)); (have h73 : cellAt H3 H'.n 2 = some (.int .i64 dy) := (cellAt_get (hst3.get H'.n (by rw [AHeap.n_push, AHeap.n_push]; omega) (fun h0 => Nat.lt_irrefl _ (HG.out.lt HS'.out h0)))).trans (by go_simp)); (have h83 : cellsAt H3 (H'.n + 1) 0 3 = some [.int .i64 nt, .int .i64 nm, .bool nl] := (cellsAt_get (hst3.get (H'.n + 1) (by rw [AHeap.n_push, AHeap.n_push]; omega) (fun h0 => absurd (HG.out.lt HS'.out h0) (by omega)))).trans (by go_simp)); clear hS3 hst3; go_simp));refine hK2 _ _ ?_;clear hK2 K2))
    · have hw : win fr to ln = false := by simpa using hb
      refine Post.round_normal ⟨s.alts.length - (k + 1), by omega, k + 1, b', ⟨ct, cm, cl⟩, D', L', by omega, rfl, (by first|go_simp<;>go_num|assumption), (by first|go_simp<;>go_num|assumption), (by first|go_simp<;>go_num|assumption), (by first|go_simp<;>go_num|assumption), (by first|go_simp<;>go_num|assumption), (by first|go_simp<;>go_num|assumption), (by first|go_simp<;>go_num|assumption), (by first|go_simp<;>go_num|assumption), ?_, ?_, HND, ?_, ?_, ?_⟩
      · rw [AHeap.n_push]; omega
      · rw [AHeap.get_push_old hn5]; exact hg5
      · exact Lib.hid (HG.out.keepx HS'.out (Ext.push _))
      · exact Lib.hid (HST.out.push _)
      · refine Lib.hid ?_
        rw [← HGO.out, HD.out, go, if_pos hw]
    · have hw : ¬ win fr to ln = false := by simpa using ‹(!win fr to (ln : Int)) = false›
      have hsame : Has.after ⟨ct, cm, cl⟩ ⟨i, kd, dy, fr, to, wd⟩ = ⟨ct, cm, cl⟩ := by
        rw [HNX.out]; simpa using hb
      refine Post.round_normal ⟨s.alts.length - (k + 1), by omega, k + 1, b', ⟨ct, cm, cl⟩, D', L', by omega, rfl, (by first|go_simp<;>go_num|assumption), (by first|go_simp<;>go_num|assumption), (by first|go_simp<;>go_num|assumption), (by first|go_simp<;>go_num|assumption), (by first|go_simp<;>go_num|assumption), (by first|go_simp<;>go_num|assumption), (by first|go_simp<;>go_num|assumption), (by first|go_simp<;>go_num|assumption), ?_, ?_, HND, ?_, ?_, ?_⟩
      · rw [AHeap.n_push, AHeap.n_push]; omega
      · rw [AHeap.get_push_old (by rw [AHeap.n_push]; omega), AHeap.get_push_old hn5]; exact hg5
      · exact Lib.hid (HG.out.keepx HS'.out (((Ext.refl _).push' _).push' _))
      · exact Lib.hid ((HST.out.push _).push _)
      · refine Lib.hid ?_
        rw [← HGO.out, HD.out, go, if_neg hw, if_pos hsame]
    · repeat' (first|(with_reducible first|refine zA ?_|refine zB fun K hK=>?_|refine zC fun K2 hK2=>?_|refine zD ?_|refine zE ?_|refine zF ?_|refine zG ?_|refine zH ?_|refine zI ?_|refine zM ?_|refine zN ?_|refine zO ?_|refine zP ?_|refine zQ ?_|refine zR ?_)|((with_reducible refine zU (hK _ _ ?_));clear hK K)|((with_reducible refine zV ?_ ?_ fun K1 K3 d hdst h1 h3=>?_);rfl;exact yB rfl;cases hdst;go_simp)|((with_reducible refine zW fun K1 K3 h1 h3=>?_);go_simp)|((first|refine h1 ?_|refine h3 ?_);clear h1 h3 K1 K3)|((first|refine zX (fun hb=>h1 ?_) (fun hb=>h3 ?_)|refine zX (fun hb=>h3 ?_) (fun hb=>h1 ?_))<;>(clear h1 h3 K1 K3;(try have hb2:=yC hb);(try have hb2:=yD hb);(try have hb2:=yE hb);(try have hb2:=yF hb);(try have hb2:=yG hb)))|(refine fun (K2:_→AHeap→Prop) hK2=>?_)|((with_reducible refine zY ?_ ?_);decide)|((with_reducible first|refine zZ ?_ (fun K hK=>?_)|refine yA ?_ (fun K hK=>?_));(focus go_simp;done);go_simp;refine hK _ _ ?_;clear hK K)|((with_reducible refine yH mixed rfl ?_ 20 fun K0 hK0=>?_);kernel_rfl)|(with_reducible first|exact yI|exact yJ|refine yK ?_|refine yL ?_|refine yM ?_)|((with_reducible first|refine yN ?_ ?_|refine yO ?_ ?_|refine yP ?_ ?_);rfl)|((with_reducible refine yQ ?_ ?_);rfl;refine hK0 _ _ ?_;clear hK0 K0)|((with_reducible refine yR ?_ ?_ ?_ ?_);rfl;rfl;rfl)|((with_reducible refine yS ?_ ?_ ?_ fun K2 hK2=>?_);rfl;rfl;exact yB rfl)|((with_reducible refine yT ?_ ?_ ?_ ?_ fun K1 K3 d hdst h1 h3=>?_);rfl;rfl;rfl;exact yB rfl;cases hdst;go_simp)|((with_reducible refine yU ?_ ?_ ?_ ?_ fun K1 K3 d hdst h1 h3=>?_);rfl;rfl;rfl;exact yB rfl;cases hdst;go_simp)|((with_reducible refine yV ?_ ?_ (fun K2 hK2=>?_) ?_);rfl;exact yB rfl)|((with_reducible refine yW ?_ ?_ ?_ ?_ (fun K2 hK2=>?_) ?_);rfl;exact yB rfl;rfl;(focus go_simp;done))|((with_reducible refine yX ?_ ?_ ?_ (fun K2 hK2=>?_) ?_);rfl;rfl;exact yB rfl)|((with_reducible refine yY ?_ ?_ (fun K2 hK2=>?_) ?_);rfl;rfl)|((with_reducible refine yZ ?_ ?_);(first|rfl|(dsimp only;decide +kernel)))|((with_reducible refine xA ?_ ?_);(focus go_simp;done))|(go_simp;(try go_bits);(first|(refine hK2 _ _ ?_ ?_<;>clear hK2 K2)|(refine hK2 _ _ ?_;clear hK2 K2))))
      all_goals (repeat' (first|(with_reducible first|refine zA ?_|refine zB fun K hK=>?_|refine zC fun K2 hK2=>?_|refine zD ?_|refine zE ?_|refine zF ?_|refine zG ?_|refine zH ?_|refine zI ?_|refine zM ?_|refine zN ?_|refine zO ?_|refine zP ?_|refine zQ ?_|refine zR ?_)|((with_reducible refine zU (hK _ _ ?_));clear hK K)|((with_reducible refine zV ?_ ?_ fun K1 K3 d hdst h1 h3=>?_);rfl;exact yB rfl;cases hdst;go_simp)|((with_reducible refine zW fun K1 K3 h1 h3=>?_);go_simp)|((first|refine h1 ?_|refine h3 ?_);clear h1 h3 K1 K3)|((first|refine zX (fun hb=>h1 ?_) (fun hb=>h3 ?_)|refine zX (fun hb=>h3 ?_) (fun hb=>h1 ?_))<;>(clear h1 h3 K1 K3;(try have hb2:=yC hb);(try have hb2:=yD hb);(try have hb2:=yE hb);(try have hb2:=yF hb);(try have hb2:=yG hb)))|(refine fun (K2:_→AHeap→Prop) hK2=>?_)|((with_reducible refine zY ?_ ?_);decide)|((with_reducible first|refine zZ ?_ (fun K hK=>?_)|refine yA ?_ (fun K hK=>?_));(focus go_simp;done);go_simp;refine hK _ _ ?_;clear hK K)|(go_simp;(try go_bits);refine hK2 _ _ ?_;clear hK2 K2)))
      all_goals
        have hw : ¬ win fr to ln = false := by simpa using ‹(!win fr to (ln : Int)) = false›
        have hch : ¬ Has.after ⟨ct, cm, cl⟩ ⟨i, kd, dy, fr, to, wd⟩ = ⟨ct, cm, cl⟩ := by
          rw [HNX.out]; simpa using ‹(decide (nt = ct) && (decide (nm = cm) && decide (nl = cl))) = false›
        have hT := Lib.hid ((((Step.refl D' H').push _).push _).trans HST3.out)
        have hND : ¬ D3 H.n := fun h0 => (HST3.out.new _ h0).elim HND.out (by rw [AHeap.n_push, AHeap.n_push]; omega)
        refine Post.round_normal ⟨s.alts.length - (k + 1), by omega, k + 1, dy, ⟨nt, nm, nl⟩, D3, _, by omega, rfl, (by first|go_simp<;>go_num|assumption), (by first|go_simp<;>go_num|assumption), (by first|go_simp<;>go_num|assumption), (by first|go_simp<;>go_num|assumption), (by first|go_simp<;>go_num|assumption), (by first|go_simp<;>go_num|assumption), (by first|go_simp<;>go_num|assumption), (by first|go_simp<;>go_num|assumption), ?_, ?_, Lib.hid hND, Lib.hid (HG.out.upd HS3.out hND (HG.out.noRd HS.out (Nat.le_refl _)) _), Lib.hid ((HST.out.trans hT.out).upd (.inr (Nat.le_refl _)) _), Lib.hid ?_⟩
        · rw [AHeap.n_upd]; exact Nat.lt_of_lt_of_le hn5 hT.out.n
        · rw [AHeap.get_upd_same]
        · rw [← HGO.out, HD.out, go, if_neg hw, if_neg hch, if_pos hb2, HNX.out]; simp
    · repeat' (first|(with_reducible first|refine zA ?_|refine zB fun K hK=>?_|refine zC fun K2 hK2=>?_|refine zD ?_|refine zE ?_|refine zF ?_|refine zG ?_|refine zH ?_|refine zI ?_|refine zM ?_|refine zN ?_|refine zO ?_|refine zP ?_|refine zQ ?_|refine zR ?_)|((with_reducible refine zU (hK _ _ ?_));clear hK K)|((with_reducible refine zV ?_ ?_ fun K1 K3 d hdst h1 h3=>?_);rfl;exact yB rfl;cases hdst;go_simp)|((with_reducible refine zW fun K1 K3 h1 h3=>?_);go_simp)|((first|refine h1 ?_|refine h3 ?_);clear h1 h3 K1 K3)|((first|refine zX (fun hb=>h1 ?_) (fun hb=>h3 ?_)|refine zX (fun hb=>h3 ?_) (fun hb=>h1 ?_))<;>(clear h1 h3 K1 K3;(try have hb2:=yC hb);(try have hb2:=yD hb);(try have hb2:=yE hb);(try have hb2:=yF hb);(try have hb2:=yG hb)))|(refine fun (K2:_→AHeap→Prop) hK2=>?_)|((with_reducible refine zY ?_ ?_);decide)|((with_reducible first|refine zZ ?_ (fun K hK=>?_)|refine yA ?_ (fun K hK=>?_));(focus go_simp;done);go_simp;refine hK _ _ ?_;clear hK K)|((with_reducible refine yH mixed rfl ?_ 20 fun K0 hK0=>?_);kernel_rfl)|(with_reducible first|exact yI|exact yJ|refine yK ?_|refine yL ?_|refine yM ?_)|((with_reducible first|refine yN ?_ ?_|refine yO ?_ ?_|refine yP ?_ ?_);rfl)|((with_reducible refine yQ ?_ ?_);rfl;refine hK0 _ _ ?_;clear hK0 K0)|((with_reducible refine yR ?_ ?_ ?_ ?_);rfl;rfl;rfl)|((with_reducible refine yS ?_ ?_ ?_ fun K2 hK2=>?_);rfl;rfl;exact yB rfl)|((with_reducible refine yT ?_ ?_ ?_ ?_ fun K1 K3 d hdst h1 h3=>?_);rfl;rfl;rfl;exact yB rfl;cases hdst;go_simp)|((with_reducible refine yU ?_ ?_ ?_ ?_ fun K1 K3 d hdst h1 h3=>?_);rfl;rfl;rfl;exact yB rfl;cases hdst;go_simp)|((with_reducible refine yV ?_ ?_ (fun K2 hK2=>?_) ?_);rfl;exact yB rfl)|((with_reducible refine yW ?_ ?_ ?_ ?_ (fun K2 hK2=>?_) ?_);rfl;exact yB rfl;rfl;(focus go_simp;done))|((with_reducible refine yX ?_ ?_ ?_ (fun K2 hK2=>?_) ?_);rfl;rfl;exact yB rfl)|((with_reducible refine yY ?_ ?_ (fun K2 hK2=>?_) ?_);rfl;rfl)|((with_reducible refine yZ ?_ ?_);(first|rfl|(dsimp only;decide +kernel)))|((with_reducible refine xA ?_ ?_);(focus go_simp;done))|(go_simp;(try go_bits);(first|(refine hK2 _ _ ?_ ?_<;>clear hK2 K2)|(refine hK2 _ _ ?_;clear hK2 K2))))
      all_goals (repeat' (first|(with_reducible first|refine zA ?_|refine zB fun K hK=>?_|refine zC fun K2 hK2=>?_|refine zD ?_|refine zE ?_|refine zF ?_|refine zG ?_|refine zH ?_|refine zI ?_|refine zM ?_|refine zN ?_|refine zO ?_|refine zP ?_|refine zQ ?_|refine zR ?_)|((with_reducible refine zU (hK _ _ ?_));clear hK K)|((with_reducible refine zV ?_ ?_ fun K1 K3 d hdst h1 h3=>?_);rfl;exact yB rfl;cases hdst;go_simp)|((with_reducible refine zW fun K1 K3 h1 h3=>?_);go_simp)|((first|refine h1 ?_|refine h3 ?_);clear h1 h3 K1 K3)|((first|refine zX (fun hb=>h1 ?_) (fun hb=>h3 ?_)|refine zX (fun hb=>h3 ?_) (fun hb=>h1 ?_))<;>(clear h1 h3 K1 K3;(try have hb2:=yC hb);(try have hb2:=yD hb);(try have hb2:=yE hb);(try have hb2:=yF hb);(try have hb2:=yG hb)))|(refine fun (K2:_→AHeap→Prop) hK2=>?_)|((with_reducible refine zY ?_ ?_);decide)|((with_reducible first|refine zZ ?_ (fun K hK=>?_)|refine yA ?_ (fun K hK=>?_));(focus go_simp;done);go_simp;refine hK _ _ ?_;clear hK K)|(go_simp;(try go_bits);refine hK2 _ _ ?_;clear hK2 K2)))
      all_goals
        have hw : ¬ win fr to ln = false := by simpa using ‹(!win fr to (ln : Int)) = false›
        have hch : ¬ Has.after ⟨ct, cm, cl⟩ ⟨i, kd, dy, fr, to, wd⟩ = ⟨ct, cm, cl⟩ := by
          rw [HNX.out]; simpa using ‹(decide (nt = ct) && (decide (nm = cm) && decide (nl = cl))) = false›
        have hnb : ¬ b' < dy := by simpa using hb
        refine Post.round_normal ⟨s.alts.length - (k + 1), by omega, k + 1, dy, ⟨nt, nm, nl⟩, D', _, by omega, rfl, (by first|go_simp<;>go_num|assumption), (by first|go_simp<;>go_num|assumption), (by first|go_simp<;>go_num|assumption), (by first|go_simp<;>go_num|assumption), (by first|go_simp<;>go_num|assumption), (by first|go_simp<;>go_num|assumption), (by first|go_simp<;>go_num|assumption), (by first|go_simp<;>go_num|assumption), ?_, ?_, HND, Lib.hid (HG.out.keepx (HG.out.upd HS'.out HND.out (HG.out.noRd HS.out (Nat.le_refl _)) _) (((Ext.refl _).push' _).push' _)), Lib.hid (((HST.out.upd (.inr (Nat.le_refl _)) _).push _).push _), Lib.hid ?_⟩
        · rw [AHeap.n_push, AHeap.n_push, AHeap.n_upd]; omega
        · rw [AHeap.get_push_old (by rw [AHeap.n_push, AHeap.n_upd]; omega), AHeap.get_push_old (by rw [AHeap.n_upd]; omega), AHeap.get_upd_same]
        · rw [← HGO.out, HD.out, go, if_neg hw, if_neg hch, if_neg hnb, HNX.out]
  · have HIB2 : Hid (-1 ≤ (730 : Int) ∧ (730 : Int) ≤ 730) := Lib.hid (by decide)
    repeat' (first|(with_reducible first|refine zA ?_|refine zB fun K hK=>?_|refine zC fun K2 hK2=>?_|refine zD ?_|refine zE ?_|refine zF ?_|refine zG ?_|refine zH ?_|refine zI ?_|refine zM ?_|refine zN ?_|refine zO ?_|refine zP ?_|refine zQ ?_|refine zR ?_)|((with_reducible refine zU (hK _ _ ?_));clear hK K)|((with_reducible refine zV ?_ ?_ fun K1 K3 d hdst h1 h3=>?_);rfl;exact yB rfl;cases hdst;go_simp)|((with_reducible refine zW fun K1 K3 h1 h3=>?_);go_simp)|((first|refine h1 ?_|refine h3 ?_);clear h1 h3 K1 K3)|((first|refine zX (fun hb=>h1 ?_) (fun hb=>h3 ?_)|refine zX (fun hb=>h3 ?_) (fun hb=>h1 ?_))<;>(clear h1 h3 K1 K3;(try have hb2:=yC hb);(try have hb2:=yD hb);(try have hb2:=yE hb);(try have hb2:=yF hb);(try have hb2:=yG hb)))|(refine fun (K2:_→AHeap→Prop) hK2=>?_)|((with_reducible refine zY ?_ ?_);decide)|((with_reducible first|refine zZ ?_ (fun K hK=>?_)|refine yA ?_ (fun K hK=>?_));(focus go_simp;done);go_simp;refine hK _ _ ?_;clear hK K)|(go_simp;(try go_bits);(try first | ((refine RoundS.mono (HG.out.round (v := Str.val ⟨b', 730, ⟨ct, cm, cl⟩⟩) HFL.out HLEN.out ⟨_, rfl, HIB2.out⟩ HS'.out) ?_); rintro _ H3 ⟨rfl, D3, hS3, hst3⟩));refine hK2 _ _ ?_;clear hK2 K2))
    refine ⟨D3, ?_, HST.out.trans hst3⟩
    have e : L' ++ [Str.val ⟨b', 730, ⟨ct, cm, cl⟩⟩] = L ++ items := by
      rw [← HGO.out, List.drop_eq_nil_of_le (by omega)]; rfl
    rw [← e]; exact hS3

def strs (s : Sheet) (line : Int) : List Str := go line 0 ⟨s.words[line.toNat]!, 0, false⟩ s.alts
theorem SeqAt.gives {Hb H : AHeap} {p q : Nat} {v : Value} {s : Sheet} {line : Int} (h : SeqAt Hb H p q v s line) (hl0 : 0 ≤ line) (hl1 : line < s.words.length) (hso : sorted 0 s.alts) : Gives Tryz.prog H (fun i => i < Hb.n ∨ i = p ∨ i = q) (strs s line).length v Str.isVal ((strs s line).map Str.val) := by
  obtain ⟨wv, av, rfl, h2, h3, h4, h5, h6, h7, h8⟩ := h
  refine ⟨128, _, rfl, ok128, ?_, fun loops ls H' l Rd room S L D hf hg hS hn hR hr => ?_⟩
  · rintro i (h | rfl | rfl)
    · exact Nat.lt_of_lt_of_le h h8.n
    · exact h2
    · exact h3
  · refine gives_e (H0 := Hb) hf hg hS (Nat.lt_of_lt_of_le h2 hn) (Nat.lt_of_lt_of_le h3 hn) ((hR p (.inr (.inl rfl))).1.trans h4) ((hR q (.inr (.inr rfl))).1.trans h5) h6 h7 ⟨Nat.le_trans h8.n hn, fun i hi => (hR i (.inl hi)).1.trans (h8.get i hi)⟩ (fun i hi => ?_) (hR q (.inr (.inr rfl))).2 hl0 hl1 hso (by rw [List.length_map]; exact hr)
    rcases Nat.lt_or_ge i Hb.n with h0 | h0
    · exact absurd hi (hR i (.inl h0)).2
    · exact h0
end Go.Proofs.Tryz
namespace Go.Proofs.Tryz
open Go Go.Am Go.RowKit
set_option maxRecDepth 100000

theorem own_block {H : AHeap} {bs : Nat} {v : Value} {e : TypeId} {size : Nat} {cells : List Value} (h : Own H bs v e size cells) {i n : Nat} (hv : v = .slice (some ⟨i, 0, none⟩) n n) (hn : 0 < n) : bs ≤ i ∧ i < H.n ∧ H.get i = .row cells e := by
  rcases h with ⟨h, _⟩ | ⟨b, m, h1, h2, h3, h4, h5⟩
  · rw [hv] at h; cases h
  · rw [hv] at h1; cases h1; exact ⟨h2, h3, h4⟩
theorem own_slice {H : AHeap} {bs : Nat} {v : Value} {e : TypeId} {size : Nat} {cells : List Value} (h : Own H bs v e size cells) : ∃ a n, v = .slice a n n := by
  rcases h with ⟨rfl, _⟩ | ⟨b, m, h1, _⟩
  · exact ⟨none, 0, rfl⟩
  · exact ⟨_, m, h1⟩
theorem own_at {H H' : AHeap} {bs : Nat} {v : Value} {e : TypeId} {size : Nat} {cells : List Value} (h : Own H bs v e size cells) (hn : H.n ≤ H'.n) (hg : ∀ i n, v = .slice (some ⟨i, 0, none⟩) n n → 0 < n → H'.get i = H.get i) : Own H' bs v e size cells := by
  rcases h with h | ⟨b, m, h1, h2, h3, h4, h5, h6⟩
  · exact .inl h
  · exact .inr ⟨b, m, h1, h2, Nat.lt_of_lt_of_le h3 hn, (hg b m h1 h6).trans h4, h5, h6⟩
theorem own_upd {H : AHeap} {base : Nat} {v : Value} {e : TypeId} {size : Nat} {cells : List Value} {i : Nat} {o : AObj} (h : Own H base v e size cells) (hi : i < base) : Own (H.upd i o) base v e size cells :=
  own_at h (by rw [AHeap.n_upd]; exact Nat.le_refl _) fun j n hv hn => AHeap.get_upd_ne (by have := (own_block h hv hn).1; omega)
theorem Str.val_inj {x y : Str} (h : x.val = y.val) : x = y := by
  obtain ⟨a, b, ⟨c, d, e⟩⟩ := x
  obtain ⟨a', b', ⟨c', d', e'⟩⟩ := y
  simp [Str.val] at h
  simp [h]
theorem strs_inj : ∀ (a b : List Str), a.map Str.val = b.map Str.val → b = a
  | [], [], _ => rfl
  | [], _ :: _, h => by simp at h
  | _ :: _, [], h => by simp at h
  | x :: t, y :: u, h => by
    simp only [List.map_cons, List.cons.injEq] at h
    rw [Str.val_inj h.1, strs_inj t u h.2]
end Go.Proofs.Tryz
namespace Go.Proofs.Tryz
open Go Go.Am Go.RowKit
set_option maxRecDepth 100000


def spanVal (x : Int × Int) : Value := .agg #[.int .i64 x.1, .int .i64 x.2]
@[go_sem] theorem spanVal_mk {a b : Int} : spanVal (a, b) = .agg #[.int .i64 a, .int .i64 b] := by rw [spanVal]
def spanIs (v : Value) : Prop := ∃ x, v = spanVal x ∧ -1 ≤ x.2 ∧ x.2 ≤ 730
def offS (l : List Str) (w : Int) : List (Int × Int) := (l.filter fun x => x.has.offers w).map fun x => (x.lo, x.hi)
theorem offS_app (l : List Str) (x : Str) (w : Int) : offS (l ++ [x]) w = offS l w ++ if x.has.offers w = true then [(x.lo, x.hi)] else [] := by
  unfold offS
  rw [List.filter_append, List.map_append]
  congr 1
  by_cases h : x.has.offers w = true <;> simp [h]
theorem offS_le (l : List Str) (w : Int) : (offS l w).length ≤ l.length := by
  unfold offS; rw [List.length_map]; exact List.length_filter_le ..

def CopyAt (Hb H : AHeap) (p q r : Nat) (v : Value) (s : Sheet) (line word : Int) : Prop := ∃ wv av, v = .func (.func 113) #[] #[.pointer (some ⟨p, 0, none⟩), .pointer (some ⟨q, 0, none⟩), .pointer (some ⟨r, 0, none⟩)] ∧ p < H.n ∧ q < H.n ∧ r < H.n ∧ H.get p = .row [wv, av] 25 ∧ H.get q = .row [.int .i64 line] 3 ∧ H.get r = .row [.int .i64 word] 3 ∧ Ints Hb wv s.words ∧ Alts Hb av s.alts ∧ Ext Hb H

theorem copyable_e {loops : List (Nat × LInfo)} {Hb H : AHeap} {sv : Value} {s : Sheet} {line word : Int} (hv : SheetV Hb sv s) (hx : Ext Hb H) : CallS Tryz.prog loops 87 [sv, .int .i64 line, .int .i64 word] H fun v H' => CopyAt Hb H' H.n (H.n + 1) (H.n + 2) v s line word ∧ Ext H H' := by
  obtain ⟨wv, av, rfl, hw, ha⟩ := hv
  obtain ⟨hwl, wa, wc, rfl⟩ := hw.slice
  obtain ⟨hal, aa, ac, rfl⟩ := ha.slice
  have HW := Lib.hid hw
  have HA := Lib.hid ha
  have HX := Lib.hid hx
  clear hw ha hx
  refine CallS.enter' Tryz.func87 rfl Tryz.ntmps87 (by simp) fun f hd hf => ?_
  have f0 := hf 0
  have f1 := hf 1
  have f2 := hf 2
  simp at f0 f1 f2
  clear hf
  repeat' (first|(with_reducible first|refine zA ?_|refine zB fun K hK=>?_|refine zC fun K2 hK2=>?_|refine zD ?_|refine zE ?_|refine zF ?_|refine zG ?_|refine zH ?_|refine zI ?_|refine zM ?_|refine zN ?_|refine zO ?_|refine zP ?_|refine zQ ?_|refine zR ?_)|((with_reducible refine zU (hK _ _ ?_));clear hK K)|((with_reducible refine zV ?_ ?_ fun K1 K3 d hdst h1 h3=>?_);rfl;exact yB rfl;cases hdst;go_simp)|((with_reducible refine zW fun K1 K3 h1 h3=>?_);go_simp)|((first|refine h1 ?_|refine h3 ?_);clear h1 h3 K1 K3)|((first|refine zX (fun hb=>h1 ?_) (fun hb=>h3 ?_)|refine zX (fun hb=>h3 ?_) (fun hb=>h1 ?_))<;>(clear h1 h3 K1 K3;(try have hb2:=yC hb);(try have hb2:=yD hb);(try have hb2:=yE hb);(try have hb2:=yF hb);(try have hb2:=yG hb)))|(refine fun (K2:_→AHeap→Prop) hK2=>?_)|((with_reducible refine zY ?_ ?_);decide)|((with_reducible first|refine zZ ?_ (fun K hK=>?_)|refine yA ?_ (fun K hK=>?_));(focus go_simp;done);go_simp;refine hK _ _ ?_;clear hK K)|(go_simp;(try go_bits);refine hK2 _ _ ?_;clear hK2 K2))
  refine ⟨⟨_, _, rfl, by rw [AHeap.n_push, AHeap.n_push, AHeap.n_push]; omega, by rw [AHeap.n_push, AHeap.n_push, AHeap.n_push]; omega, by rw [AHeap.n_push, AHeap.n_push, AHeap.n_push]; omega, ?_, ?_, ?_, HW.out, HA.out, ((HX.out.push' _).push' _).push' _⟩, (((Ext.refl _).push' _).push' _).push' _⟩
  · rw [AHeap.get_push_old (by rw [AHeap.n_push, AHeap.n_push]; omega), AHeap.get_push_old (by rw [AHeap.n_push]; omega), AHeap.get_push_new]
  · rw [AHeap.get_push_old (by rw [AHeap.n_push, AHeap.n_push]; omega), ← AHeap.n_push H, AHeap.get_push_new]
  · rw [show H.n + 2 = ((H.push (AObj.row [Value.slice wa s.words.length wc, Value.slice aa s.alts.length ac] 25)).push (AObj.row [Value.int IntKind.i64 line] 3)).n from rfl, AHeap.get_push_new]

def CopyS (S : List Value → (Nat → Prop) → AHeap → Prop) (Rd : Nat → Prop) (L0 : List Value) (l l1 r c : Nat) (word : Int) (L1 : List Value) (D1 : Nat → Prop) (H : AHeap) : Prop := ∃ (D0 : Nat → Prop) (ys : List Str), L1 = ys.map Str.val ∧ S (L0 ++ (offS ys word).map spanVal) D0 H ∧ H.get l1 = .loop .ready none ∧ l1 < H.n ∧ ¬ D0 l1 ∧ ¬ Rd l1 ∧ H.get r = .row [.int .i64 word] 3 ∧ r < H.n ∧ ¬ D0 r ∧ H.get c = .row [.func (.yield l) #[] #[]] 124 ∧ c < H.n ∧ ¬ D0 c ∧ ∀ i, D1 i ↔ i = l1 ∨ D0 i

theorem copyGives_e {loops ls : List (Nat × LInfo)} {H H0 : AHeap} {s : Sheet} {line word : Int} {l room : Nat} {Rd : Nat → Prop} {S : List Value → (Nat → Prop) → AHeap → Prop} {L : List Value} {D : Nat → Prop} {p q r : Nat} {wv av : Value}
    (hfl : LExt ls loops) (hg : Gen Tryz.prog l ls Rd room spanIs S) (hS : S L D H) (hp : p < H.n) (hq : q < H.n) (hr : r < H.n) (hgp : H.get p = .row [wv, av] 25) (hgq : H.get q = .row [.int .i64 line] 3) (hgr : H.get r = .row [.int .i64 word] 3) (hw : Ints H0 wv s.words) (ha : Alts H0 av s.alts) (hx : Ext H0 H) (hb : ∀ i, D i → H0.n ≤ i) (hrD : ¬ D r)
    (hl0 : 0 ≤ line) (hl1 : line < s.words.length) (hso : sorted 0 s.alts) (hro : L.length + (strs s line).length ≤ room) :
    CallS Tryz.prog loops 113 [.func (.yield l) #[] #[], .pointer (some ⟨p, 0, none⟩), .pointer (some ⟨q, 0, none⟩), .pointer (some ⟨r, 0, none⟩)] H fun _ H' => ∃ D', S (L ++ (offS (strs s line) word).map spanVal) D' H' ∧ Step D H D' H' := by
  have HV : Hid (SheetV H0 (.agg #[wv, av]) s) := Lib.hid ⟨wv, av, rfl, hw, ha⟩
  obtain ⟨hwl, wa, wc, rfl⟩ := hw.slice
  obtain ⟨hal, aa, ac, rfl⟩ := ha.slice
  have hcp : cellsAt H p 0 2 = some [.slice wa s.words.length wc, .slice aa s.alts.length ac] := by simp [cellsAt, hgp]
  have hcq : cellAt H q 0 = some (.int .i64 line) := by simp [cellAt, hgq]
  have HFL := Lib.hid hfl
  have HG := Lib.hid hg
  have HS := Lib.hid hS
  have HGR := Lib.hid hgr
  have HX := Lib.hid hx
  have HB := Lib.hid hb
  have HRD := Lib.hid hrD
  have HSO := Lib.hid hso
  have HRO := Lib.hid hro
  clear hfl hg hS hgp hgq hgr hw ha hx hb hrD hso hro
  refine CallS.enter' Tryz.func113 rfl Tryz.ntmps113 (by simp) fun f hd hf => ?_
  have f0 := hf 0
  have f1 := hf 1
  have f2 := hf 2
  have f3 := hf 3
  simp at f0 f1 f2 f3
  clear hf
  repeat' (first|(with_reducible first|refine zA ?_|refine zB fun K hK=>?_|refine zC fun K2 hK2=>?_|refine zD ?_|refine zE ?_|refine zF ?_|refine zG ?_|refine zH ?_|refine zI ?_|refine zM ?_|refine zN ?_|refine zO ?_|refine zP ?_|refine zQ ?_|refine zR ?_)|((with_reducible refine zU (hK _ _ ?_));clear hK K)|((with_reducible refine zV ?_ ?_ fun K1 K3 d hdst h1 h3=>?_);rfl;exact yB rfl;cases hdst;go_simp)|((with_reducible refine zW fun K1 K3 h1 h3=>?_);go_simp)|((first|refine h1 ?_|refine h3 ?_);clear h1 h3 K1 K3)|((first|refine zX (fun hb=>h1 ?_) (fun hb=>h3 ?_)|refine zX (fun hb=>h3 ?_) (fun hb=>h1 ?_))<;>(clear h1 h3 K1 K3;(try have hb2:=yC hb);(try have hb2:=yD hb);(try have hb2:=yE hb);(try have hb2:=yF hb);(try have hb2:=yG hb)))|(refine fun (K2:_→AHeap→Prop) hK2=>?_)|((with_reducible refine zY ?_ ?_);decide)|((with_reducible first|refine zZ ?_ (fun K hK=>?_)|refine yA ?_ (fun K hK=>?_));(focus go_simp;done);go_simp;refine hK _ _ ?_;clear hK K)|(go_simp;(try go_bits);(try first | ((with_reducible show CallS _ _ _ _ _ _);refine CallS.mono (stretches_e (s := s) HV.out (HX.out.push' _)) ?_; rintro qv H2 ⟨hq2, hx2⟩; (have HQ := Lib.hid hq2); (have HX2 := Lib.hid hx2); clear hq2 hx2; go_simp));refine hK2 _ _ ?_;clear hK2 K2))
  have hcn : H.n < H2.n := by have := HX2.out.n; rw [AHeap.n_push] at this; omega
  have hc2 : H2.get H.n = .row [.func (.yield l) #[] #[]] 124 := by rw [HX2.out.get H.n (by rw [AHeap.n_push]; omega), AHeap.get_push_new]
  have hX02 : Ext H H2 := (Ext.push _).trans HX2.out
  have HQG := Lib.hid (HQ.out.gives hl0 hl1 HSO.out)
  have HLN := Lib.hid fun l2 x2 hf2 => HG.out.old (l2 := l2) (x := x2) HS.out hf2
  have hll : l < H.n := HG.out.lt HS.out (HG.out.own HS.out)
  refine CodeS.range_gives (ls := ls) (H0 := H2) (Rd := fun i => Rd i ∨ i = r ∨ i = H.n) (room := (strs s line).length) (S := CopyS S Rd L l (H2.n + 1) r H.n word) (D := fun i => i = H2.n + 1 ∨ D i) rfl HFL.out HQG.out (by go_simp) (Ext.refl _) (Nat.le_refl _) ?gen ?hS ?hRD ?hnd ?hend
  case hnd =>
    rintro (h | h)
    · omega
    · have := HG.out.lt HS.out h; omega
  case hRD =>
    intro i hi hD
    have hq2 : (H.push (AObj.row [Value.func (Fn.yield l) #[] #[]] 124)).n + 1 < H2.n := by obtain ⟨_, _, _, _, h, _⟩ := HQ.out; exact h
    rw [AHeap.n_push] at hi hq2
    have hXn := HX.out.n
    rcases hD with rfl | hD
    · rcases hi with h | h | h <;> omega
    · have h3 := HG.out.lt HS.out hD
      have h4 := HB.out i hD
      rcases hi with h | h | h <;> omega
  case hS =>
    refine ⟨D, [], rfl, ?_, ?_, ?_, ?_, ?_, ?_, ?_, HRD.out, ?_, ?_, ?_, fun i => Iff.rfl⟩
    · simpa [offS] using HG.out.keepx HS.out ((hX02.push' _).push' _)
    · rw [show H2.n + 1 = (H2.push (AObj.defs false)).n from rfl, AHeap.get_push_new]
    · rw [AHeap.n_push, AHeap.n_push]; omega
    · exact HG.out.noD HS.out (by omega)
    · exact HG.out.noRd HS.out (by omega)
    · rw [AHeap.get_push_old (by rw [AHeap.n_push]; omega), AHeap.get_push_old (by omega), hX02.get r hr]; exact HGR.out
    · rw [AHeap.n_push, AHeap.n_push]; omega
    · rw [AHeap.get_push_old (by rw [AHeap.n_push]; omega), AHeap.get_push_old hcn]; exact hc2
    · rw [AHeap.n_push, AHeap.n_push]; omega
    · exact HG.out.noD HS.out (Nat.le_refl _)
  case hend =>
    rintro f2 D' H' ht hd2 ⟨D0, ys, h1, h2, h3, h4, h5, h6, h7, h8, h9, h10, h11, h12, h13⟩ hst hdf
    have hys : ys = strs s line := strs_inj _ _ h1
    subst hys
    have hd3 : f2.defers = [{ target := .collected H2.n, args := #[] }] := by rw [hd2]; simp [AF.defers_upd, hd]
    have hD0 : ∀ i, D0 i → D i ∨ H2.n + 2 ≤ i := by
      intro i hi
      rcases hst.new i ((h13 i).2 (.inr hi)) with (rfl | h) | h
      · exact absurd hi h5
      · exact .inl h
      · rw [AHeap.n_push, AHeap.n_push] at h; exact .inr (by omega)
    have hdn : ¬ D0 H2.n := fun h => (hD0 _ h).elim (fun h0 => by have := HG.out.lt HS.out h0; omega) (by omega)
    have hdf2 : (H'.upd (H2.n + 1) (.loop .exhausted none)).get H2.n = .defs false := by rw [AHeap.get_upd_ne (by omega)]; exact hdf
    refine Post.block_normal (Post.body_markn hd3 hdf2 fun K hK => ?_)
    go_simp
    refine hK _ _ ⟨D0, HG.out.upd (HG.out.upd h2 h5 h6 _) hdn (HG.out.noRd HS.out (by omega)) _, ⟨?_, fun i hi hD => ?_, fun i hi => ?_⟩⟩
    · rw [AHeap.n_upd, AHeap.n_upd]; have := hst.n; rw [AHeap.n_push, AHeap.n_push] at this; omega
    · rw [AHeap.get_upd_ne (by omega), AHeap.get_upd_ne (by omega), hst.get i (by rw [AHeap.n_push, AHeap.n_push]; omega) (fun h => h.elim (fun e => by omega) hD), AHeap.get_push_old (by rw [AHeap.n_push]; omega), AHeap.get_push_old (by omega)]
      exact hX02.get i hi
    · rcases hD0 i hi with h | h
      · exact .inl h
      · exact .inr (by omega)
  case gen =>
    refine ⟨?_, ?_, ?_, ?_, ?_, ?_, ?_⟩
    · rintro L1 D1 H' ⟨D0, ys, h1, h2, h3, h4, h5, h6, h7, h8, h9, h10, h11, h12, h13⟩
      exact (h13 _).2 (.inl rfl)
    · rintro L1 D1 H' i ⟨D0, ys, h1, h2, h3, h4, h5, h6, h7, h8, h9, h10, h11, h12, h13⟩ hi
      rcases (h13 i).1 hi with rfl | h
      · exact h4
      · exact HG.out.lt h2 h
    · rintro L1 D1 H' i ⟨D0, ys, h1, h2, h3, h4, h5, h6, h7, h8, h9, h10, h11, h12, h13⟩ hi
      rcases hi with h | rfl | rfl
      · exact HG.out.rd h2 h
      · exact h8
      · exact h11
    · rintro L1 D1 H' ⟨D0, ys, h1, h2, h3, h4, h5, h6, h7, h8, h9, h10, h11, h12, h13⟩
      exact h3
    · rintro L1 D1 H' l2 x2 ⟨D0, ys, h1, h2, h3, h4, h5, h6, h7, h8, h9, h10, h11, h12, h13⟩ hf2
      simp only [findLoop] at hf2
      split at hf2
      · rename_i he; subst he; exact h4
      · exact HG.out.old h2 hf2
    · rintro L1 D1 H' H3 ⟨D0, ys, h1, h2, h3, h4, h5, h6, h7, h8, h9, h10, h11, h12, h13⟩ hn hk
      exact ⟨D0, ys, h1, HG.out.keep h2 hn fun i hi => hk i (hi.elim (fun h => .inl ((h13 i).2 (.inr h))) fun h => .inr (.inl h)), (hk _ (.inl ((h13 _).2 (.inl rfl)))).trans h3, by omega, h5, h6, (hk _ (.inr (.inr (.inl rfl)))).trans h7, by omega, h9, (hk _ (.inr (.inr (.inr rfl)))).trans h10, by omega, h12, h13⟩
    rintro loops2 L1 D1 H' _ hle hroom ⟨x, rfl, hb1, hb2⟩ ⟨D0, ys, rfl, h2, h3, h4, h5, h6, h7, h8, h9, h10, h11, h12, h13⟩
    have hfl1 := hle _ _ findLoop_head
    have hle0 : LExt ls loops2 := hle.drop fun l2 x2 hf2 e => by have := HLN.out l2 x2 hf2; omega
    refine RoundS.enter hfl1 rfl (by simp) h3 fun f' hd' hf' => ?_
    have g9 := hf' 9
    have g3 := hf' 3
    have g4 := hf' 4
    simp [paramsAt, AF.tmp_mk, AF.tmp_upd, f3] at g9 g3 g4
    dsimp only
    have hlen2 : (L ++ (offS ys word).map spanVal).length < room := by
      have e1 := offS_le ys word
      have e2 := HRO.out
      simp only [List.length_append, List.length_map] at hroom ⊢
      omega
    have HLE := Lib.hid hle0
    have HLEN := Lib.hid hlen2
    have HDI := Lib.hid h13
    have HH2 := Lib.hid h2
    have HN1 := Lib.hid h5
    have HN2 := Lib.hid h6
    have HN9 := Lib.hid h9
    have HN12 := Lib.hid h12
    have HIB := Lib.hid (And.intro hb1 hb2)
    clear hb1 hb2
    obtain ⟨lo, hi, ct, cm, cl⟩ := x
    simp only [Str.val] at g9
    clear h13 hfl1 hf' hroom hle hle0 hlen2 h2 h5 h6 h9 h12
    repeat' (first|(with_reducible first|refine zA ?_|refine zB fun K hK=>?_|refine zC fun K2 hK2=>?_|refine zD ?_|refine zE ?_|refine zF ?_|refine zG ?_|refine zH ?_|refine zI ?_|refine zM ?_|refine zN ?_|refine zO ?_|refine zP ?_|refine zQ ?_|refine zR ?_)|((with_reducible refine zU (hK _ _ ?_));clear hK K)|((with_reducible refine zV ?_ ?_ fun K1 K3 d hdst h1 h3=>?_);rfl;exact yB rfl;cases hdst;go_simp)|((with_reducible refine zW fun K1 K3 h1 h3=>?_);go_simp)|((first|refine h1 ?_|refine h3 ?_);clear h1 h3 K1 K3)|((first|refine zX (fun hb=>h1 ?_) (fun hb=>h3 ?_)|refine zX (fun hb=>h3 ?_) (fun hb=>h1 ?_))<;>(clear h1 h3 K1 K3;(try have hb2:=yC hb);(try have hb2:=yD hb);(try have hb2:=yE hb);(try have hb2:=yF hb);(try have hb2:=yG hb)))|(refine fun (K2:_→AHeap→Prop) hK2=>?_)|((with_reducible refine zY ?_ ?_);decide)|((with_reducible first|refine zZ ?_ (fun K hK=>?_)|refine yA ?_ (fun K hK=>?_));(focus go_simp;done);go_simp;refine hK _ _ ?_;clear hK K)|(go_simp;(try go_bits);refine hK2 _ _ ?_;clear hK2 K2))
    refine ⟨?_, ?_⟩
    · rw [AHeap.get_push_old h4]; exact h3
    obtain ⟨G, hG⟩ : ∃ G, G = (H'.push (AObj.row [Value.int IntKind.i64 lo, Value.int IntKind.i64 hi, Value.int IntKind.i64 ct, Value.int IntKind.i64 cm, Value.bool cl] 147)).upd (H2.n + 1) (.loop .busy none) := ⟨_, rfl⟩
    rw [← hG]
    have hGn : G.n = H'.n + 1 := by rw [hG, AHeap.n_upd, AHeap.n_push]
    have hGk : ∀ i, i < H'.n → i ≠ H2.n + 1 → G.get i = H'.get i := by
      intro i hi hne
      rw [hG, AHeap.get_upd_ne hne, AHeap.get_push_old hi]
    have hGl : G.get (H2.n + 1) = .loop .busy none := by rw [hG]; exact AHeap.get_upd_same
    have hGi : G.get H'.n = .row [Value.int IntKind.i64 lo, Value.int IntKind.i64 hi, Value.int IntKind.i64 ct, Value.int IntKind.i64 cm, Value.bool cl] 147 := by
      rw [hG, AHeap.get_upd_ne (by omega), AHeap.get_push_new]
    have hi1 : cellsAt G H'.n 2 3 = some [Value.int IntKind.i64 ct, Value.int IntKind.i64 cm, Value.bool cl] := by simp [cellsAt, hGi]
    have hi2 : cellsAt G H'.n 0 2 = some [Value.int IntKind.i64 lo, Value.int IntKind.i64 hi] := by simp [cellsAt, hGi]
    have hGr : G.get r = .row [.int .i64 word] 3 := by rw [hGk r h8 (by omega)]; exact h7
    have hGc : G.get H.n = .row [.func (.yield l) #[] #[]] 124 := by rw [hGk _ h11 (by omega)]; exact h10
    have hir : cellAt G r 0 = some (.int .i64 word) := by simp [cellAt, hGr]
    have hic : cellAt G H.n 0 = some (.func (.yield l) #[] #[]) := by simp [cellAt, hGc]
    have HSG : Hid (S (L ++ (offS ys word).map spanVal) D0 G) := Lib.hid (HG.out.keep HH2.out (by omega) fun i hi => hGk i (hi.elim (fun h => HG.out.lt HH2.out h) fun h => HG.out.rd HH2.out h) (fun e => hi.elim (fun h => HN1.out (e ▸ h)) fun h => HN2.out (e ▸ h)))
    have HGK := Lib.hid hGk
    have HGN := Lib.hid hGn
    have HGL := Lib.hid hGl
    have HGR2 := Lib.hid hGr
    have HGC2 := Lib.hid hGc
    have hlt3 : H'.n < G.n := by omega
    clear hGk hG hGl hGn hGi hGr hGc
    generalize hof : Has.offers ⟨ct, cm, cl⟩ word = ofb
    have HOF := Lib.hid hof
    have HOC := Lib.hid fun (loops : List (Nat × LInfo)) (H : AHeap) => offers_s (loops := loops) (H := H) (c := ⟨ct, cm, cl⟩) (w := word)
    rw [hof] at HOC
    clear hof
    repeat' (first|(with_reducible first|refine zA ?_|refine zB fun K hK=>?_|refine zC fun K2 hK2=>?_|refine zD ?_|refine zE ?_|refine zF ?_|refine zG ?_|refine zH ?_|refine zI ?_|refine zM ?_|refine zN ?_|refine zO ?_|refine zP ?_|refine zQ ?_|refine zR ?_)|((with_reducible refine zU (hK _ _ ?_));clear hK K)|((with_reducible refine zV ?_ ?_ fun K1 K3 d hdst h1 h3=>?_);rfl;exact yB rfl;cases hdst;go_simp)|((with_reducible refine zW fun K1 K3 h1 h3=>?_);go_simp)|((first|refine h1 ?_|refine h3 ?_);clear h1 h3 K1 K3)|((first|refine zX (fun hb=>h1 ?_) (fun hb=>h3 ?_)|refine zX (fun hb=>h3 ?_) (fun hb=>h1 ?_))<;>(clear h1 h3 K1 K3;(try have hb2:=yC hb);(try have hb2:=yD hb);(try have hb2:=yE hb);(try have hb2:=yF hb);(try have hb2:=yG hb)))|(refine fun (K2:_→AHeap→Prop) hK2=>?_)|((with_reducible refine zY ?_ ?_);decide)|((with_reducible first|refine zZ ?_ (fun K hK=>?_)|refine yA ?_ (fun K hK=>?_));(focus go_simp;done);go_simp;refine hK _ _ ?_;clear hK K)|(go_simp;(try go_bits);(try first | ((with_reducible show CallS _ _ _ _ _ _);refine CallS.mono (HOC.out _ _) ?_; rintro _ _ ⟨rfl, rfl⟩; go_simp) | ((refine RoundS.mono (HG.out.round (v := spanVal (lo, hi)) HLE.out HLEN.out ⟨_, rfl, HIB.out⟩ HSG.out) ?_); rintro _ G2 ⟨rfl, D2, hS2, hst2⟩; (have HS2 := Lib.hid hS2); (have HST2 := Lib.hid hst2); clear hS2 hst2; go_simp));refine hK2 _ _ ?_;clear hK2 K2))
    · have hD2 : ¬ D2 (H2.n + 1) := fun h => (HST2.out.new _ h).elim HN1.out (by omega)
      have hl2 : G2.get (H2.n + 1) = .loop .busy none := (HST2.out.get _ (by omega) HN1.out).trans HGL.out
      have hn2 := HST2.out.n
      refine ⟨⟨.busy, none, hl2⟩, rfl, fun i => i = H2.n + 1 ∨ D2 i, ⟨D2, ys ++ [⟨lo, hi, ⟨ct, cm, cl⟩⟩], by simp, ?_, AHeap.get_upd_same, by rw [AHeap.n_upd]; omega, hD2, HN2.out, ?_, by rw [AHeap.n_upd]; omega, ?_, ?_, by rw [AHeap.n_upd]; omega, ?_, fun i => Iff.rfl⟩, ?_⟩
      · rw [offS_app]
        simp only [HOF.out, hb, if_true, List.map_append, List.map_cons, List.map_nil, ← List.append_assoc]
        exact HG.out.upd HS2.out hD2 HN2.out _
      · rw [AHeap.get_upd_ne (by omega), HST2.out.get r (by omega) HN9.out]; exact HGR2.out
      · exact fun h => (HST2.out.new _ h).elim HN9.out (by omega)
      · rw [AHeap.get_upd_ne (by omega), HST2.out.get _ (by omega) HN12.out]; exact HGC2.out
      · exact fun h => (HST2.out.new _ h).elim HN12.out (by omega)
      · refine ⟨by rw [AHeap.n_upd]; omega, fun i hi hd => ?_, fun i hd => ?_⟩
        · have hd1 : i ≠ H2.n + 1 := fun e => hd ((HDI.out i).2 (.inl e))
          have hd2 : ¬ D0 i := fun e => hd ((HDI.out i).2 (.inr e))
          rw [AHeap.get_upd_ne hd1, HST2.out.get i (by omega) hd2]
          exact HGK.out i hi hd1
        · rcases hd with h | h
          · exact .inl ((HDI.out i).2 (.inl h))
          · rcases HST2.out.new i h with h | h
            · exact .inl ((HDI.out i).2 (.inr h))
            · exact .inr (by omega)
    · refine ⟨⟨.busy, none, HGL.out⟩, rfl, fun i => i = H2.n + 1 ∨ D0 i, ⟨D0, ys ++ [⟨lo, hi, ⟨ct, cm, cl⟩⟩], by simp, ?_, AHeap.get_upd_same, by rw [AHeap.n_upd]; omega, HN1.out, HN2.out, ?_, by rw [AHeap.n_upd]; omega, HN9.out, ?_, by rw [AHeap.n_upd]; omega, HN12.out, fun i => Iff.rfl⟩, ?_⟩
      · rw [offS_app]
        simp only [HOF.out, hb, Bool.false_eq_true, if_false, List.append_nil]
        exact HG.out.upd HSG.out HN1.out HN2.out _
      · rw [AHeap.get_upd_ne (by omega)]; exact HGR2.out
      · rw [AHeap.get_upd_ne (by omega)]; exact HGC2.out
      · refine ⟨by rw [AHeap.n_upd]; omega, fun i hi hd => ?_, fun i hd => ?_⟩
        · have hd1 : i ≠ H2.n + 1 := fun e => hd ((HDI.out i).2 (.inl e))
          rw [AHeap.get_upd_ne hd1]
          exact HGK.out i hi hd1
        · rcases hd with h | h
          · exact .inl ((HDI.out i).2 (.inl h))
          · exact .inl ((HDI.out i).2 (.inr h))

theorem CopyAt.gives {Hb H : AHeap} {p q r : Nat} {v : Value} {s : Sheet} {line word : Int} (h : CopyAt Hb H p q r v s line word) (hl0 : 0 ≤ line) (hl1 : line < s.words.length) (hso : sorted 0 s.alts) : Gives Tryz.prog H (fun i => i < Hb.n ∨ i = p ∨ i = q ∨ i = r) (strs s line).length v spanIs ((offS (strs s line) word).map spanVal) := by
  obtain ⟨wv, av, rfl, h2, h3, h3r, h4, h5, h5r, h6, h7, h8⟩ := h
  refine ⟨113, _, rfl, ok113, ?_, fun loops ls H' l Rd room S L D hf hg hS hn hR hr => ?_⟩
  · rintro i (h | rfl | rfl | rfl)
    · exact Nat.lt_of_lt_of_le h h8.n
    · exact h2
    · exact h3
    · exact h3r
  · refine copyGives_e (H0 := Hb) hf hg hS (Nat.lt_of_lt_of_le h2 hn) (Nat.lt_of_lt_of_le h3 hn) (Nat.lt_of_lt_of_le h3r hn) ((hR p (.inr (.inl rfl))).1.trans h4) ((hR q (.inr (.inr (.inl rfl)))).1.trans h5) ((hR r (.inr (.inr (.inr rfl)))).1.trans h5r) h6 h7 ⟨Nat.le_trans h8.n hn, fun i hi => (hR i (.inl hi)).1.trans (h8.get i hi)⟩ (fun i hi => ?_) (hR r (.inr (.inr (.inr rfl)))).2 hl0 hl1 hso hr
    rcases Nat.lt_or_ge i Hb.n with h0 | h0
    · exact absurd hi (hR i (.inl h0)).2
    · exact h0
end Go.Proofs.Tryz
namespace Go.Proofs.Tryz
open Go Go.Am Go.RowKit
set_option maxRecDepth 100000


def spanCells (l : List (Int × Int)) : List Value := l.flatMap fun x => [.int .i64 x.1, .int .i64 x.2]
theorem spanCells_length : ∀ l : List (Int × Int), (spanCells l).length = l.length * 2
  | [] => rfl
  | a :: l => by
    have := spanCells_length l
    simp only [spanCells, List.flatMap_cons, List.length_append] at *
    rw [this]; simp; omega
theorem spanCells_app (l m : List (Int × Int)) : spanCells (l ++ m) = spanCells l ++ spanCells m := by simp [spanCells]
theorem spanCells_one : ∀ l : List (Int × Int), (spanCells l).all oneV = true
  | [] => rfl
  | a :: l => by
    have := spanCells_one l
    simp only [spanCells, List.flatMap_cons, List.all_append, Bool.and_eq_true] at *
    exact ⟨rfl, this⟩
theorem spanCells_set : ∀ (l : List (Int × Int)) (y : Int × Int) (h : Int), setL (spanCells (l ++ [y])) (l.length * 2 + 1) [.int .i64 h] = some (spanCells (l ++ [(y.1, h)]))
  | [], y, h => rfl
  | a :: l, y, h => by
    have := spanCells_set l y h
    have e : spanCells (a :: l ++ [y]) = .int .i64 a.1 :: .int .i64 a.2 :: spanCells (l ++ [y]) := rfl
    have e2 : spanCells (a :: l ++ [(y.1, h)]) = .int .i64 a.1 :: .int .i64 a.2 :: spanCells (l ++ [(y.1, h)]) := rfl
    rw [e, e2, show (a :: l).length * 2 + 1 = (l.length * 2 + 1) + 1 + 1 by simp; omega, setL_succ_cons, setL_succ_cons, this]
    rfl
theorem spanCells_get (l : List (Int × Int)) (y : Int × Int) : (spanCells (l ++ [y]))[l.length * 2 + 1]? = some (.int .i64 y.2) := by
  have e : l.length * 2 + 1 = (spanCells l).length + 1 := by rw [spanCells_length]
  rw [spanCells_app, e, List.getElem?_append_right (by omega)]
  simp [spanCells]
theorem spanVal_inj {x y : Int × Int} (h : spanVal x = spanVal y) : x = y := by
  obtain ⟨a, b⟩ := x
  obtain ⟨c, d⟩ := y
  simp [spanVal] at h
  simp [h]
theorem spans_inj : ∀ (a b : List (Int × Int)), a.map spanVal = b.map spanVal → b = a
  | [], [], _ => rfl
  | [], _ :: _, h => by simp at h
  | _ :: _, [], h => by simp at h
  | x :: t, y :: u, h => by
    simp only [List.map_cons, List.cons.injEq] at h
    rw [spanVal_inj h.1, spans_inj t u h.2]
theorem joinL_app (l : List (Int × Int)) (x : Int × Int) : joinL (l ++ [x]) = joinS (joinL l) x := by simp [joinL]
theorem joinS_le (acc : List (Int × Int)) (x : Int × Int) : (joinS acc x).length ≤ acc.length + 1 := by
  unfold joinS
  cases h : acc.getLast? with
  | none => simp
  | some y =>
    simp only
    split
    · simp
    · simp
theorem joinL_le (l : List (Int × Int)) : (joinL l).length ≤ l.length := by
  have : ∀ (l acc : List (Int × Int)), (l.foldl joinS acc).length ≤ acc.length + l.length := by
    intro l
    induction l with
    | nil => intro acc; simp
    | cons x t ih =>
      intro acc
      have h1 := ih (joinS acc x)
      have h2 := joinS_le acc x
      simp only [List.foldl_cons, List.length_cons]
      omega
  simpa [joinL] using this l []
theorem joinS_ends (acc : List (Int × Int)) (x : Int × Int) (ha : ∀ y, y ∈ acc → -1 ≤ y.2 ∧ y.2 ≤ 730) (hx : -1 ≤ x.2 ∧ x.2 ≤ 730) : ∀ y, y ∈ joinS acc x → -1 ≤ y.2 ∧ y.2 ≤ 730 := by
  intro y hy
  unfold joinS at hy
  split at hy
  · split at hy
    · rcases List.mem_append.1 hy with h | h
      · exact ha y ((List.dropLast_subset acc) h)
      · rw [List.mem_singleton.1 h]; exact hx
    · rcases List.mem_append.1 hy with h | h
      · exact ha y h
      · rw [List.mem_singleton.1 h]; exact hx
  · rcases List.mem_append.1 hy with h | h
    · exact ha y h
    · rw [List.mem_singleton.1 h]; exact hx

def JoinS (bs l c : Nat) (L : List Value) (D : Nat → Prop) (H : AHeap) : Prop := ∃ (v : Value) (xs : List (Int × Int)), L = xs.map spanVal ∧ (∀ y, y ∈ joinL xs → -1 ≤ y.2 ∧ y.2 ≤ 730) ∧ bs ≤ c ∧ c < l ∧ l < H.n ∧ H.get l = .loop .ready none ∧ H.get c = .row [v] 64 ∧ Own H bs v 68 2 (spanCells (joinL xs)) ∧ ∀ i, D i ↔ i = l ∨ i = c ∨ ∃ n, v = .slice (some ⟨i, 0, none⟩) n n ∧ 0 < n
theorem JoinS.own {bs l c : Nat} {L : List Value} {D : Nat → Prop} {H : AHeap} (h : JoinS bs l c L D H) : D l := by
  obtain ⟨v, xs, h1, h0, h2, h3, h4, h5, h6, h7, h8⟩ := h
  exact (h8 l).2 (.inl rfl)
theorem JoinS.lt {bs l c : Nat} {L : List Value} {D : Nat → Prop} {H : AHeap} {i : Nat} (h : JoinS bs l c L D H) (hi : D i) : i < H.n := by
  obtain ⟨v, xs, h1, h0, h2, h3, h4, h5, h6, h7, h8⟩ := h
  rcases (h8 i).1 hi with rfl | rfl | ⟨n, hv, hn⟩
  · exact h4
  · omega
  · exact (own_block h7 hv hn).2.1
theorem JoinS.keep {bs l c : Nat} {L : List Value} {D : Nat → Prop} {H H' : AHeap} (h : JoinS bs l c L D H) (hn : H.n ≤ H'.n) (hk : ∀ i, D i → H'.get i = H.get i) : JoinS bs l c L D H' := by
  obtain ⟨v, xs, h1, h0, h2, h3, h4, h5, h6, h7, h8⟩ := h
  refine ⟨v, xs, h1, h0, h2, h3, Nat.lt_of_lt_of_le h4 hn, (hk l ((h8 l).2 (.inl rfl))).trans h5, (hk c ((h8 c).2 (.inr (.inl rfl)))).trans h6, own_at h7 hn fun i n hv hn => hk i ((h8 i).2 (.inr (.inr ⟨n, hv, hn⟩))), h8⟩

theorem joined_e {loops : List (Nat × LInfo)} {H : AHeap} {R : Nat → Prop} {N : Nat} {qv : Value} {xs : List (Int × Int)} (hq : Gives Tryz.prog H R N qv spanIs (xs.map spanVal)) (hlen : N ≤ 1000) : CallS Tryz.prog loops 86 [qv] H fun v H' => Own H' H.n v 68 2 (spanCells (joinL xs)) ∧ Ext H H' := by
  have HQ := Lib.hid hq
  clear hq
  refine CallS.enter' Tryz.func86 rfl Tryz.ntmps86 (by simp) fun f hd hf => ?_
  have f0 := hf 0
  simp at f0
  clear hf
  repeat' (first|(with_reducible first|refine zA ?_|refine zB fun K hK=>?_|refine zC fun K2 hK2=>?_|refine zD ?_|refine zE ?_|refine zF ?_|refine zG ?_|refine zH ?_|refine zI ?_|refine zM ?_|refine zN ?_|refine zO ?_|refine zP ?_|refine zQ ?_|refine zR ?_)|((with_reducible refine zU (hK _ _ ?_));clear hK K)|((with_reducible refine zV ?_ ?_ fun K1 K3 d hdst h1 h3=>?_);rfl;exact yB rfl;cases hdst;go_simp)|((with_reducible refine zW fun K1 K3 h1 h3=>?_);go_simp)|((first|refine h1 ?_|refine h3 ?_);clear h1 h3 K1 K3)|((first|refine zX (fun hb=>h1 ?_) (fun hb=>h3 ?_)|refine zX (fun hb=>h3 ?_) (fun hb=>h1 ?_))<;>(clear h1 h3 K1 K3;(try have hb2:=yC hb);(try have hb2:=yD hb);(try have hb2:=yE hb);(try have hb2:=yF hb);(try have hb2:=yG hb)))|(refine fun (K2:_→AHeap→Prop) hK2=>?_)|((with_reducible refine zY ?_ ?_);decide)|((with_reducible first|refine zZ ?_ (fun K hK=>?_)|refine yA ?_ (fun K hK=>?_));(focus go_simp;done);go_simp;refine hK _ _ ?_;clear hK K)|(go_simp;(try go_bits);refine hK2 _ _ ?_;clear hK2 K2))
  refine CodeS.range_gives (ls := []) (H0 := H) (Rd := fun _ => False) (room := 1000) (S := JoinS H.n (H.n + 2) H.n) (D := fun i => i = H.n + 2 ∨ i = H.n) rfl (LExt.nil _) HQ.out (by go_simp) (Ext.push _) hlen ?gen ?hS ?hRD ?hnd ?hend
  case hRD =>
    rintro i hi (h | h) <;> (have := HQ.out.lt hi; omega)
  case hS =>
    refine ⟨.slice none 0 0, [], rfl, by simp [joinL], Nat.le_refl _, by omega, by rw [AHeap.n_push, AHeap.n_push, AHeap.n_push]; omega, ?_, ?_, Own.nil, fun i => by simp⟩
    · rw [show H.n + 2 = ((H.push (AObj.row [.slice none 0 0] 64)).push (AObj.defs false)).n from rfl, AHeap.get_push_new]
    · rw [AHeap.get_push_old (by rw [AHeap.n_push, AHeap.n_push]; omega), AHeap.get_push_old (by rw [AHeap.n_push]; omega), AHeap.get_push_new]
  case hnd => rw [AHeap.n_push]; omega
  case hend =>
    rintro f2 D' H' ht hd2 hS hst hdf
    obtain ⟨v, ys, h1, h0, h2, h3, h4, h5, h6, h7, h8⟩ := hS
    have hys : ys = xs := spans_inj xs ys h1
    subst hys
    have t3 := ht 3
    simp [AF.tmp_upd] at t3
    have hd3 : f2.defers = [{ target := .collected (H.n + 1), args := #[] }] := by rw [hd2]; simp [AF.defers_upd, hd]; rfl
    obtain ⟨H2, hH2⟩ : ∃ H2, H2 = H'.upd ((H.push (AObj.row [Value.slice none 0 0] 64)).n + 1) (AObj.loop LoopState.exhausted none) := ⟨_, rfl⟩
    rw [← hH2]
    have hc2 : cellAt H2 H.n 0 = some v := by
      rw [hH2, cellAt_get (AHeap.get_upd_ne (by rw [AHeap.n_push]; omega))]
      simp [cellAt, h6]
    have hdf2 : H2.get (H.n + 1) = .defs false := by
      rw [hH2, AHeap.get_upd_ne (by rw [AHeap.n_push]; omega)]; exact hdf
    have HX2 : Hid (Ext H H2) := Lib.hid (by
      rw [hH2]
      refine (hst.ext (((Ext.refl _).push' _).push' _ |>.push' _) ?_).upd (by rw [AHeap.n_push]; omega) _
      rintro i (rfl | rfl) <;> omega)
    have hne : ∀ i n, v = .slice (some ⟨i, 0, none⟩) n n → 0 < n → H2.get i = H'.get i := by
      intro i n hv hn
      rw [hH2]
      refine AHeap.get_upd_ne fun e => ?_
      have h9 := (own_block h7 hv hn).2.2
      rw [e, show H'.get ((H.push (AObj.row [Value.slice none 0 0] 64)).n + 1) = _ from h5] at h9
      cases h9
    have HO2 : Hid (Own H2 H.n v 68 2 (spanCells (joinL ys))) := Lib.hid (own_at h7 (by rw [hH2, AHeap.n_upd]; exact Nat.le_refl _) hne)
    clear hne h7 hst hH2 ht h8 h5 h6 hd2 hdf h1 h2 h3 h4 h0
    repeat' (first|(with_reducible first|refine zA ?_|refine zB fun K hK=>?_|refine zC fun K2 hK2=>?_|refine zD ?_|refine zE ?_|refine zF ?_|refine zG ?_|refine zH ?_|refine zI ?_|refine zM ?_|refine zN ?_|refine zO ?_|refine zP ?_|refine zQ ?_|refine zR ?_)|((with_reducible refine zU (hK _ _ ?_));clear hK K)|((with_reducible refine zV ?_ ?_ fun K1 K3 d hdst h1 h3=>?_);rfl;exact yB rfl;cases hdst;go_simp)|((with_reducible refine zW fun K1 K3 h1 h3=>?_);go_simp)|((first|refine h1 ?_|refine h3 ?_);clear h1 h3 K1 K3)|((first|refine zX (fun hb=>h1 ?_) (fun hb=>h3 ?_)|refine zX (fun hb=>h3 ?_) (fun hb=>h1 ?_))<;>(clear h1 h3 K1 K3;(try have hb2:=yC hb);(try have hb2:=yD hb);(try have hb2:=yE hb);(try have hb2:=yF hb);(try have hb2:=yG hb)))|(refine fun (K2:_→AHeap→Prop) hK2=>?_)|((with_reducible refine zY ?_ ?_);decide)|((with_reducible first|refine zZ ?_ (fun K hK=>?_)|refine yA ?_ (fun K hK=>?_));(focus go_simp;done);go_simp;refine hK _ _ ?_;clear hK K)|(go_simp;(try go_bits);refine hK2 _ _ ?_;clear hK2 K2))
    refine Post.body_mark (by go_simp) hdf2 fun K hK => ?_
    go_simp
    refine hK _ _ ⟨?_, HX2.out.upd (by omega) _⟩
    refine own_at HO2.out (by rw [AHeap.n_upd]; exact Nat.le_refl _) fun i n hv hn => AHeap.get_upd_ne fun e => ?_
    have h9 := (own_block HO2.out hv hn).2.2
    rw [e, hdf2] at h9
    cases h9
  case gen =>
    refine ⟨JoinS.own, JoinS.lt, fun _ h => h.elim, ?_, ?_, fun h hn hk => JoinS.keep h hn fun i hi => hk i (.inl hi), ?_⟩
    · rintro L D H' ⟨v, xs, h1, h0, h2, h3, h4, h5, h6, h7, h8⟩
      exact h5
    · rintro L D H' l2 x2 ⟨v, xs, h1, h0, h2, h3, h4, h5, h6, h7, h8⟩ hf2
      simp only [findLoop] at hf2
      split at hf2
      · rename_i he; subst he; exact h4
      · cases hf2
    rintro loops L D H' _ hfl hroom ⟨x, rfl, hxb⟩ ⟨v, ys, rfl, h0, h2, h3, h4, h5, h6, h7, h8⟩
    have hfl := hfl _ _ findLoop_head
    refine RoundS.enter hfl rfl (by simp) h5 fun f' hd' hf' => ?_
    have g7 := hf' 7
    have g3 := hf' 3
    simp [paramsAt, AF.tmp_mk, AF.tmp_upd] at g7 g3
    dsimp only
    have hlen2 : (joinL ys).length < 1000 := by have := joinL_le ys; rw [List.length_map] at hroom; omega
    have HO := Lib.hid h7
    have HDI := Lib.hid h8
    have HFL := Lib.hid hfl
    have HEN := Lib.hid (joinS_ends _ x h0 hxb)
    have HEN0 := Lib.hid h0
    obtain ⟨lo, hi⟩ := x
    simp only [spanVal] at g7
    have hj : joinL (ys ++ [(lo, hi)]) = joinS (joinL ys) (lo, hi) := joinL_app ys (lo, hi)
    generalize joinL ys = acc at hlen2 HO HEN HEN0 hj
    have HJ := Lib.hid hj
    clear h7 h8 hfl hf' hroom h0 hxb hj
    repeat' (first|(with_reducible first|refine zA ?_|refine zB fun K hK=>?_|refine zC fun K2 hK2=>?_|refine zD ?_|refine zE ?_|refine zF ?_|refine zG ?_|refine zH ?_|refine zI ?_|refine zM ?_|refine zN ?_|refine zO ?_|refine zP ?_|refine zQ ?_|refine zR ?_)|((with_reducible refine zU (hK _ _ ?_));clear hK K)|((with_reducible refine zV ?_ ?_ fun K1 K3 d hdst h1 h3=>?_);rfl;exact yB rfl;cases hdst;go_simp)|((with_reducible refine zW fun K1 K3 h1 h3=>?_);go_simp)|((first|refine h1 ?_|refine h3 ?_);clear h1 h3 K1 K3)|((first|refine zX (fun hb=>h1 ?_) (fun hb=>h3 ?_)|refine zX (fun hb=>h3 ?_) (fun hb=>h1 ?_))<;>(clear h1 h3 K1 K3;(try have hb2:=yC hb);(try have hb2:=yD hb);(try have hb2:=yE hb);(try have hb2:=yF hb);(try have hb2:=yG hb)))|(refine fun (K2:_→AHeap→Prop) hK2=>?_)|((with_reducible refine zY ?_ ?_);decide)|((with_reducible first|refine zZ ?_ (fun K hK=>?_)|refine yA ?_ (fun K hK=>?_));(focus go_simp;done);go_simp;refine hK _ _ ?_;clear hK K)|(go_simp;(try go_bits);refine hK2 _ _ ?_;clear hK2 K2))
    refine ⟨?_, ?_⟩
    · rw [AHeap.get_push_old (by rw [AHeap.n_push]; exact h4)]; exact h5
    obtain ⟨H3, hH3⟩ : ∃ H3, H3 = (H'.push (AObj.row [Value.int IntKind.i64 lo, Value.int IntKind.i64 hi] 68)).upd ((H.push (AObj.row [Value.slice none 0 0] 64)).n + 1) (.loop .busy none) := ⟨_, rfl⟩
    rw [← hH3]
    have hn3 : H3.n = H'.n + 1 := by rw [hH3, AHeap.n_upd, AHeap.n_push]
    have hk3 : ∀ i, i < H'.n → i ≠ H.n + 2 → H3.get i = H'.get i := by
      intro i hi hne
      rw [hH3, AHeap.get_upd_ne (by rw [AHeap.n_push]; exact hne), AHeap.get_push_old hi]
    have hl3 : H3.get (H.n + 2) = .loop .busy none := by rw [hH3]; exact AHeap.get_upd_same
    have hi3r : H3.get H'.n = .row [Value.int IntKind.i64 lo, Value.int IntKind.i64 hi] 68 := by
      rw [hH3, AHeap.get_upd_ne (by rw [AHeap.n_push]; omega), AHeap.get_push_new]
    have hi3 : cellsAt H3 H'.n 0 2 = some [Value.int IntKind.i64 lo, Value.int IntKind.i64 hi] := by simp [cellsAt, hi3r]
    have hi3a : cellAt H3 H'.n 0 = some (Value.int IntKind.i64 lo) := by simp [cellAt, hi3r]
    have hi3b : cellAt H3 H'.n 1 = some (Value.int IntKind.i64 hi) := by simp [cellAt, hi3r]
    have hc3 : H3.get H.n = .row [v] 64 := by rw [hk3 _ (by omega) (by omega)]; exact h6
    have hcc3 : cellAt H3 H.n 0 = some v := by simp [cellAt, hc3]
    have hne3 : ∀ i n, v = .slice (some ⟨i, 0, none⟩) n n → 0 < n → i ≠ H.n + 2 ∧ i ≠ H.n := by
      intro i n hv hn
      have h9 := (own_block HO.out hv hn).2.2
      constructor
      · rintro rfl; rw [h5] at h9; cases h9
      · rintro rfl; rw [h6] at h9; injection h9 with _ h10; exact absurd h10 (by decide)
    have HO3 : Hid (Own H3 H.n v 68 2 (spanCells acc)) := Lib.hid (own_at HO.out (by omega) fun i n hv hn => hk3 i (own_block HO.out hv hn).2.1 (hne3 i n hv hn).1)
    have HK3 := Lib.hid hk3
    have HNE := Lib.hid hne3
    have HN3 := Lib.hid hn3
    have HL3 := Lib.hid hl3
    have hlt3 : H.n < H3.n := by omega
    have hlt3' : H'.n < H3.n := by omega
    have HC3 := Lib.hid hc3
    clear hk3 hne3 hH3 hl3 hc3 hn3 hi3r
    have hbig : ((spanCells acc).length + 2) * max 16 1 ≤ 1073741824 := by rw [spanCells_length]; simp; omega
    have HBIG := Lib.hid hbig
    clear hbig
    have FIN : ∀ (f2 : AF) (a2 : Option Addr) (n2 : Nat) (H4 : AHeap), Own H4 (H3.push (.row [Value.int IntKind.i64 lo, Value.int IntKind.i64 hi] 68)).n (.slice a2 n2 n2) 68 2 (spanCells acc ++ [Value.int IntKind.i64 lo, Value.int IntKind.i64 hi]) → Grown (H3.push (.row [Value.int IntKind.i64 lo, Value.int IntKind.i64 hi] 68)) H4 H.n v → H4.get H.n = .row [v] 64 → joinS acc (lo, hi) = acc ++ [(lo, hi)] →
        endRoundP ((H.push (AObj.row [Value.slice none 0 0] 64)).n + 1) (fun r H'' => r = .bool true ∧ ∃ D', JoinS H.n (H.n + 2) H.n (ys.map spanVal ++ [spanVal (lo, hi)]) D' H'' ∧ Step D H' D' H'') .normal f2 (H4.upd H.n (.row [.slice a2 n2 n2] 64)) := by
      intro f2 a2 n2 H4 ho4 hg4 hc4 hja
      have hl4 : H4.get (H.n + 2) = .loop .busy none := (hg4.2 (H.n + 2) (by rw [AHeap.n_push]; omega) (fun b n hv hn => (HNE.out b n hv hn).1.symm)).trans (by rw [AHeap.get_push_old (by omega)]; exact HL3.out)
      have hn4 : H'.n + 1 < H4.n := by have := hg4.1; rw [AHeap.n_push, HN3.out] at this; omega
      refine ⟨⟨.busy, none, ?_⟩, rfl, fun i => i = H.n + 2 ∨ i = H.n ∨ ∃ n, Value.slice a2 n2 n2 = .slice (some ⟨i, 0, none⟩) n n ∧ 0 < n, ⟨.slice a2 n2 n2, ys ++ [(lo, hi)], by simp, by rw [HJ.out]; exact HEN.out, Nat.le_refl _, by omega, ?_, ?_, ?_, ?_, fun i => Iff.rfl⟩, ?_⟩
      · rw [AHeap.get_upd_ne (by rw [AHeap.n_push]; omega)]; exact hl4
      · rw [AHeap.n_upd, AHeap.n_upd]; omega
      · exact AHeap.get_upd_same
      · rw [AHeap.get_upd_ne (by rw [AHeap.n_push]; omega), AHeap.get_upd_same]
      · rw [HJ.out, hja, spanCells_app]
        refine own_at (ho4.mono (by rw [AHeap.n_push, HN3.out]; omega)) (by rw [AHeap.n_upd, AHeap.n_upd]; exact Nat.le_refl _) fun i n hv hn => ?_
        have h9 := (own_block ho4 hv hn).2.2
        rw [AHeap.get_upd_ne (fun e => ?_), AHeap.get_upd_ne (fun e => ?_)]
        · rw [e, hc4] at h9; injection h9 with _ h10; exact absurd h10 (by decide)
        · rw [e, AHeap.n_push, hl4] at h9; cases h9
      · refine ⟨by rw [AHeap.n_upd, AHeap.n_upd]; omega, fun i hi hd => ?_, fun i hd => ?_⟩
        · have h9 := fun h => hd ((HDI.out i).2 h)
          rw [AHeap.get_upd_ne (by rw [AHeap.n_push]; exact fun e => h9 (.inl e)), AHeap.get_upd_ne (fun e => h9 (.inr (.inl e))), hg4.2 i (by rw [AHeap.n_push, HN3.out]; omega) (fun b n hv hn e => h9 (.inr (.inr ⟨n, by rw [e]; exact hv, hn⟩))), AHeap.get_push_old (by rw [HN3.out]; omega)]
          exact HK3.out i hi (fun e => h9 (.inl e))
        · rcases hd with h | h | ⟨n, hv, hn⟩
          · exact .inl ((HDI.out i).2 (.inl h))
          · exact .inl ((HDI.out i).2 (.inr (.inl h)))
          · have h9 := (own_block ho4 hv hn).1
            rw [AHeap.n_push, HN3.out] at h9
            exact .inr (by omega)
    have HFIN := Lib.hid FIN
    clear FIN
    have hcon : acc = [] ∨ ∃ acc0 y, acc = acc0 ++ [y] := by
      rcases List.eq_nil_or_concat acc with h | ⟨a, b, h⟩
      · exact .inl h
      · exact .inr ⟨a, b, by rw [h]; simp⟩
    rcases hcon with rfl | ⟨acc0, y, rfl⟩
    · have hv0 : v = .slice none 0 0 := by
        rcases HO.out with ⟨h, _⟩ | ⟨b, m, h1, h2, h3, h4, h5, h6⟩
        · exact h
        · simp [spanCells] at h5; omega
      subst hv0
      repeat' (first|(with_reducible first|refine zA ?_|refine zB fun K hK=>?_|refine zC fun K2 hK2=>?_|refine zD ?_|refine zE ?_|refine zF ?_|refine zG ?_|refine zH ?_|refine zI ?_|refine zM ?_|refine zN ?_|refine zO ?_|refine zP ?_|refine zQ ?_|refine zR ?_)|((with_reducible refine zU (hK _ _ ?_));clear hK K)|((with_reducible refine zV ?_ ?_ fun K1 K3 d hdst h1 h3=>?_);rfl;exact yB rfl;cases hdst;go_simp)|((with_reducible refine zW fun K1 K3 h1 h3=>?_);go_simp)|((first|refine h1 ?_|refine h3 ?_);clear h1 h3 K1 K3)|((first|refine zX (fun hb=>h1 ?_) (fun hb=>h3 ?_)|refine zX (fun hb=>h3 ?_) (fun hb=>h1 ?_))<;>(clear h1 h3 K1 K3;(try have hb2:=yC hb);(try have hb2:=yD hb);(try have hb2:=yE hb);(try have hb2:=yF hb);(try have hb2:=yG hb)))|(refine fun (K2:_→AHeap→Prop) hK2=>?_)|((with_reducible refine zY ?_ ?_);decide)|((with_reducible first|refine zZ ?_ (fun K hK=>?_)|refine yA ?_ (fun K hK=>?_));(focus go_simp;done);go_simp;refine hK _ _ ?_;clear hK K)|(go_simp;(try go_bits);refine hK2 _ _ ?_;clear hK2 K2))
      repeat' (first|(with_reducible first|refine zA ?_|refine zB fun K hK=>?_|refine zC fun K2 hK2=>?_|refine zD ?_|refine zE ?_|refine zF ?_|refine zG ?_|refine zH ?_|refine zI ?_|refine zM ?_|refine zN ?_|refine zO ?_|refine zP ?_|refine zQ ?_|refine zR ?_)|((with_reducible refine zU (hK _ _ ?_));clear hK K)|((with_reducible refine zV ?_ ?_ fun K1 K3 d hdst h1 h3=>?_);rfl;exact yB rfl;cases hdst;go_simp)|((with_reducible refine zW fun K1 K3 h1 h3=>?_);go_simp)|((first|refine h1 ?_|refine h3 ?_);clear h1 h3 K1 K3)|((first|refine zX (fun hb=>h1 ?_) (fun hb=>h3 ?_)|refine zX (fun hb=>h3 ?_) (fun hb=>h1 ?_))<;>(clear h1 h3 K1 K3;(try have hb2:=yC hb);(try have hb2:=yD hb);(try have hb2:=yE hb);(try have hb2:=yF hb);(try have hb2:=yG hb)))|(refine fun (K2:_→AHeap→Prop) hK2=>?_)|((with_reducible refine zY ?_ ?_);decide)|((with_reducible first|refine zZ ?_ (fun K hK=>?_)|refine yA ?_ (fun K hK=>?_));(focus go_simp;done);go_simp;refine hK _ _ ?_;clear hK K)|((with_reducible refine yH mixed rfl ?_ 20 fun K0 hK0=>?_);kernel_rfl)|(with_reducible first|exact yI|exact yJ|refine yK ?_|refine yL ?_|refine yM ?_)|((with_reducible first|refine yN ?_ ?_|refine yO ?_ ?_|refine yP ?_ ?_);rfl)|((with_reducible refine yQ ?_ ?_);rfl;refine hK0 _ _ ?_;clear hK0 K0)|((with_reducible refine yR ?_ ?_ ?_ ?_);rfl;rfl;rfl)|((with_reducible refine yS ?_ ?_ ?_ fun K2 hK2=>?_);rfl;rfl;exact yB rfl)|((with_reducible refine yT ?_ ?_ ?_ ?_ fun K1 K3 d hdst h1 h3=>?_);rfl;rfl;rfl;exact yB rfl;cases hdst;go_simp)|((with_reducible refine yU ?_ ?_ ?_ ?_ fun K1 K3 d hdst h1 h3=>?_);rfl;rfl;rfl;exact yB rfl;cases hdst;go_simp)|((with_reducible refine yV ?_ ?_ (fun K2 hK2=>?_) ?_);rfl;exact yB rfl)|((with_reducible refine yW ?_ ?_ ?_ ?_ (fun K2 hK2=>?_) ?_);rfl;exact yB rfl;rfl;(focus go_simp;done))|((with_reducible refine yX ?_ ?_ ?_ (fun K2 hK2=>?_) ?_);rfl;rfl;exact yB rfl)|((with_reducible refine yY ?_ ?_ (fun K2 hK2=>?_) ?_);rfl;rfl)|((with_reducible refine yZ ?_ ?_);(first|rfl|(dsimp only;decide +kernel)))|((with_reducible refine xA ?_ ?_);(focus go_simp;done))|(go_simp;(try go_bits);(first|(refine hK2 _ _ ?_ ?_<;>clear hK2 K2)|(refine hK2 _ _ ?_;clear hK2 K2))))
      repeat' (first|(with_reducible first|refine zA ?_|refine zB fun K hK=>?_|refine zC fun K2 hK2=>?_|refine zD ?_|refine zE ?_|refine zF ?_|refine zG ?_|refine zH ?_|refine zI ?_|refine zM ?_|refine zN ?_|refine zO ?_|refine zP ?_|refine zQ ?_|refine zR ?_)|((with_reducible refine zU (hK _ _ ?_));clear hK K)|((with_reducible refine zV ?_ ?_ fun K1 K3 d hdst h1 h3=>?_);rfl;exact yB rfl;cases hdst;go_simp)|((with_reducible refine zW fun K1 K3 h1 h3=>?_);go_simp)|((first|refine h1 ?_|refine h3 ?_);clear h1 h3 K1 K3)|((first|refine zX (fun hb=>h1 ?_) (fun hb=>h3 ?_)|refine zX (fun hb=>h3 ?_) (fun hb=>h1 ?_))<;>(clear h1 h3 K1 K3;(try have hb2:=yC hb);(try have hb2:=yD hb);(try have hb2:=yE hb);(try have hb2:=yF hb);(try have hb2:=yG hb)))|(refine fun (K2:_→AHeap→Prop) hK2=>?_)|((with_reducible refine zY ?_ ?_);decide)|((with_reducible first|refine zZ ?_ (fun K hK=>?_)|refine yA ?_ (fun K hK=>?_));(focus go_simp;done);go_simp;refine hK _ _ ?_;clear hK K)|(go_simp;(try go_bits);(try first | ((refine one_k el64 sz68 ze68 rfl (by decide) (by decide) rfl rfl ?_); go_simp) | ((refine append_k2 el64 sz68 by68 ze68 rfl (by decide) (HO3.out.ext (Ext.push _)) (srcCells_new rfl) (by decide) rfl (by rw [List.all_append, spanCells_one]; rfl) HBIG.out (by rw [AHeap.n_push]; omega) fun v2 H4 ho4 hg4 => ?_); (obtain ⟨a2, n2, rfl⟩ := own_slice ho4); (have HO4 := Lib.hid ho4); (have HG4 := Lib.hid hg4); (have hc4 : H4.get H.n = .row [Value.slice none 0 0] 64 := (hg4.2 H.n (by rw [AHeap.n_push]; omega) (fun b n hv hn => (HNE.out b n hv hn).2.symm)).trans (by rw [AHeap.get_push_old hlt3]; exact HC3.out)); clear ho4 hg4; go_simp));refine hK2 _ _ ?_;clear hK2 K2))
      exact HFIN.out _ _ _ _ HO4.out HG4.out hc4 rfl
    · obtain ⟨b, hv0, hbge, hblt, hbr⟩ : ∃ b, v = .slice (some ⟨b, 0, none⟩) (acc0.length + 1) (acc0.length + 1) ∧ H.n ≤ b ∧ b < H3.n ∧ H3.get b = .row (spanCells (acc0 ++ [y])) 68 := by
        rcases HO3.out with ⟨_, h⟩ | ⟨b, m, h1, h2, h3, h4, h5, h6⟩
        · have := congrArg List.length h; simp [spanCells_length] at this
        · rw [spanCells_length] at h5
          have : m = acc0.length + 1 := by simp at h5; omega
          subst this
          exact ⟨b, h1, h2, h3, h4⟩
      subst hv0
      obtain ⟨y1, y2⟩ := y
      have hy := HEN0.out (y1, y2) (by simp)
      have hcell : cellAt H3 b (acc0.length * 2 + 1) = some (.int .i64 y2) := by
        simp only [cellAt, hbr]; exact spanCells_get acc0 (y1, y2)
      have hkl : acc0.length < 999 := by simp at hlen2; omega
      have hset : setL (spanCells (acc0 ++ [(y1, y2)])) (acc0.length * 2 + 1) [.int .i64 hi] = some (spanCells (acc0 ++ [(y1, hi)])) := spanCells_set acc0 (y1, y2) hi
      have hone : (spanCells (acc0 ++ [(y1, hi)])).all oneV = true := spanCells_one _
      simp only at hy
      obtain ⟨hy1, hy2⟩ := hy
      repeat' (first|(with_reducible first|refine zA ?_|refine zB fun K hK=>?_|refine zC fun K2 hK2=>?_|refine zD ?_|refine zE ?_|refine zF ?_|refine zG ?_|refine zH ?_|refine zI ?_|refine zM ?_|refine zN ?_|refine zO ?_|refine zP ?_|refine zQ ?_|refine zR ?_)|((with_reducible refine zU (hK _ _ ?_));clear hK K)|((with_reducible refine zV ?_ ?_ fun K1 K3 d hdst h1 h3=>?_);rfl;exact yB rfl;cases hdst;go_simp)|((with_reducible refine zW fun K1 K3 h1 h3=>?_);go_simp)|((first|refine h1 ?_|refine h3 ?_);clear h1 h3 K1 K3)|((first|refine zX (fun hb=>h1 ?_) (fun hb=>h3 ?_)|refine zX (fun hb=>h3 ?_) (fun hb=>h1 ?_))<;>(clear h1 h3 K1 K3;(try have hb2:=yC hb);(try have hb2:=yD hb);(try have hb2:=yE hb);(try have hb2:=yF hb);(try have hb2:=yG hb)))|(refine fun (K2:_→AHeap→Prop) hK2=>?_)|((with_reducible refine zY ?_ ?_);decide)|((with_reducible first|refine zZ ?_ (fun K hK=>?_)|refine yA ?_ (fun K hK=>?_));(focus go_simp;done);go_simp;refine hK _ _ ?_;clear hK K)|(go_simp;(try go_bits);refine hK2 _ _ ?_;clear hK2 K2))
      repeat' (first|(with_reducible first|refine zA ?_|refine zB fun K hK=>?_|refine zC fun K2 hK2=>?_|refine zD ?_|refine zE ?_|refine zF ?_|refine zG ?_|refine zH ?_|refine zI ?_|refine zM ?_|refine zN ?_|refine zO ?_|refine zP ?_|refine zQ ?_|refine zR ?_)|((with_reducible refine zU (hK _ _ ?_));clear hK K)|((with_reducible refine zV ?_ ?_ fun K1 K3 d hdst h1 h3=>?_);rfl;exact yB rfl;cases hdst;go_simp)|((with_reducible refine zW fun K1 K3 h1 h3=>?_);go_simp)|((first|refine h1 ?_|refine h3 ?_);clear h1 h3 K1 K3)|((first|refine zX (fun hb=>h1 ?_) (fun hb=>h3 ?_)|refine zX (fun hb=>h3 ?_) (fun hb=>h1 ?_))<;>(clear h1 h3 K1 K3;(try have hb2:=yC hb);(try have hb2:=yD hb);(try have hb2:=yE hb);(try have hb2:=yF hb);(try have hb2:=yG hb)))|(refine fun (K2:_→AHeap→Prop) hK2=>?_)|((with_reducible refine zY ?_ ?_);decide)|((with_reducible first|refine zZ ?_ (fun K hK=>?_)|refine yA ?_ (fun K hK=>?_));(focus go_simp;done);go_simp;refine hK _ _ ?_;clear hK K)|((with_reducible refine yH mixed rfl ?_ 20 fun K0 hK0=>?_);kernel_rfl)|(with_reducible first|exact yI|exact yJ|refine yK ?_|refine yL ?_|refine yM ?_)|((with_reducible first|refine yN ?_ ?_|refine yO ?_ ?_|refine yP ?_ ?_);rfl)|((with_reducible refine yQ ?_ ?_);rfl;refine hK0 _ _ ?_;clear hK0 K0)|((with_reducible refine yR ?_ ?_ ?_ ?_);rfl;rfl;rfl)|((with_reducible refine yS ?_ ?_ ?_ fun K2 hK2=>?_);rfl;rfl;exact yB rfl)|((with_reducible refine yT ?_ ?_ ?_ ?_ fun K1 K3 d hdst h1 h3=>?_);rfl;rfl;rfl;exact yB rfl;cases hdst;go_simp)|((with_reducible refine yU ?_ ?_ ?_ ?_ fun K1 K3 d hdst h1 h3=>?_);rfl;rfl;rfl;exact yB rfl;cases hdst;go_simp)|((with_reducible refine yV ?_ ?_ (fun K2 hK2=>?_) ?_);rfl;exact yB rfl)|((with_reducible refine yW ?_ ?_ ?_ ?_ (fun K2 hK2=>?_) ?_);rfl;exact yB rfl;rfl;(focus go_simp;done))|((with_reducible refine yX ?_ ?_ ?_ (fun K2 hK2=>?_) ?_);rfl;rfl;exact yB rfl)|((with_reducible refine yY ?_ ?_ (fun K2 hK2=>?_) ?_);rfl;rfl)|((with_reducible refine yZ ?_ ?_);(first|rfl|(dsimp only;decide +kernel)))|((with_reducible refine xA ?_ ?_);(focus go_simp;done))|(go_simp;(try go_bits);(first|(refine hK2 _ _ ?_ ?_<;>clear hK2 K2)|(refine hK2 _ _ ?_;clear hK2 K2))))
      repeat' (first|(with_reducible first|refine zA ?_|refine zB fun K hK=>?_|refine zC fun K2 hK2=>?_|refine zD ?_|refine zE ?_|refine zF ?_|refine zG ?_|refine zH ?_|refine zI ?_|refine zM ?_|refine zN ?_|refine zO ?_|refine zP ?_|refine zQ ?_|refine zR ?_)|((with_reducible refine zU (hK _ _ ?_));clear hK K)|((with_reducible refine zV ?_ ?_ fun K1 K3 d hdst h1 h3=>?_);rfl;exact yB rfl;cases hdst;go_simp)|((with_reducible refine zW fun K1 K3 h1 h3=>?_);go_simp)|((first|refine h1 ?_|refine h3 ?_);clear h1 h3 K1 K3)|((first|refine zX (fun hb=>h1 ?_) (fun hb=>h3 ?_)|refine zX (fun hb=>h3 ?_) (fun hb=>h1 ?_))<;>(clear h1 h3 K1 K3;(try have hb2:=yC hb);(try have hb2:=yD hb);(try have hb2:=yE hb);(try have hb2:=yF hb);(try have hb2:=yG hb)))|(refine fun (K2:_→AHeap→Prop) hK2=>?_)|((with_reducible refine zY ?_ ?_);decide)|((with_reducible first|refine zZ ?_ (fun K hK=>?_)|refine yA ?_ (fun K hK=>?_));(focus go_simp;done);go_simp;refine hK _ _ ?_;clear hK K)|(go_simp;(try go_bits);(try first | ((refine one_k el64 sz68 ze68 rfl (by decide) (by decide) rfl rfl ?_); go_simp) | ((refine append_k2 el64 sz68 by68 ze68 rfl (by decide) (HO3.out.ext (Ext.push _)) (srcCells_new rfl) (by decide) rfl (by rw [List.all_append, spanCells_one]; rfl) HBIG.out (by rw [AHeap.n_push]; omega) fun v2 H4 ho4 hg4 => ?_); (obtain ⟨a2, n2, rfl⟩ := own_slice ho4); (have HO4 := Lib.hid ho4); (have HG4 := Lib.hid hg4); (have hc4 : H4.get H.n = .row [Value.slice (some ⟨b, 0, none⟩) (acc0.length + 1) (acc0.length + 1)] 64 := (hg4.2 H.n (by rw [AHeap.n_push]; omega) (fun b n hv hn => (HNE.out b n hv hn).2.symm)).trans (by rw [AHeap.get_push_old hlt3]; exact HC3.out)); clear ho4 hg4; go_simp));refine hK2 _ _ ?_;clear hK2 K2))
      · have hyl : y2 + 1 = lo := by simpa using hb
        have hja : joinS (acc0 ++ [(y1, y2)]) (lo, hi) = acc0 ++ [(y1, hi)] := by
          simp [joinS, hyl]
        have hbl : b ≠ H.n + 2 := (HNE.out b _ rfl (by omega)).1
        have hbc : b ≠ H.n := (HNE.out b _ rfl (by omega)).2
        refine ⟨⟨.busy, none, ?_⟩, rfl, D, ⟨.slice (some ⟨b, 0, none⟩) (acc0.length + 1) (acc0.length + 1), ys ++ [(lo, hi)], by simp, by rw [HJ.out]; exact HEN.out, Nat.le_refl _, by omega, ?_, ?_, ?_, ?_, HDI.out⟩, ?_⟩
        · rw [AHeap.get_upd_ne (by rw [AHeap.n_push]; exact fun e => hbl e.symm)]; exact HL3.out
        · rw [AHeap.n_upd, AHeap.n_upd, HN3.out]; omega
        · exact AHeap.get_upd_same
        · rw [AHeap.get_upd_ne (by rw [AHeap.n_push]; omega), AHeap.get_upd_ne hbc.symm]; exact HC3.out
        · rw [HJ.out, hja]
          refine .inr ⟨b, _, rfl, hbge, by rw [AHeap.n_upd, AHeap.n_upd]; exact hblt, ?_, by rw [spanCells_length]; simp, by omega⟩
          rw [AHeap.get_upd_ne (by rw [AHeap.n_push]; exact hbl), AHeap.get_upd_same]
        · refine ⟨by rw [AHeap.n_upd, AHeap.n_upd, HN3.out]; omega, fun i hi hd => ?_, fun i hd => .inl hd⟩
          have h9 := fun h => hd ((HDI.out i).2 h)
          rw [AHeap.get_upd_ne (by rw [AHeap.n_push]; exact fun e => h9 (.inl e)), AHeap.get_upd_ne (fun e => h9 (.inr (.inr ⟨_, by rw [e], by omega⟩)))]
          exact HK3.out i hi (fun e => h9 (.inl e))
      · have hyl : ¬ y2 + 1 = lo := by simpa using hb
        exact HFIN.out _ _ _ _ HO4.out HG4.out hc4 (by simp [joinS, hyl])

def Spans (H : AHeap) (v : Value) (l : List (Int × Int)) : Prop := Cells H v 2 l.length (spanCells l)
theorem Spans.ext {H H' : AHeap} {v : Value} {l : List (Int × Int)} (h : Spans H v l) (hx : Ext H H') : Spans H' v l := Cells.ext h hx
theorem Spans.slice {H : AHeap} {v : Value} {l : List (Int × Int)} (h : Spans H v l) : l.length ≤ 9223372036854775807 ∧ ∃ a c, v = .slice a l.length c := by
  obtain ⟨h1, h2, a', c', h3, h4⟩ := h
  exact ⟨h2, a', c', h3⟩
theorem spans_of_own {H : AHeap} {base : Nat} {v : Value} {l : List (Int × Int)} (h : Own H base v 68 2 (spanCells l)) (hl : l.length ≤ 9223372036854775807) : Spans H v l := by
  have hlen := spanCells_length l
  rcases h with ⟨rfl, h2⟩ | ⟨b, n, rfl, h2, h3, h4, h5, h6⟩
  · have : l.length = 0 := by rw [h2] at hlen; simp at hlen; omega
    exact ⟨hlen, hl, none, 0, by rw [this], by omega⟩
  · have hn : n = l.length := by omega
    subst hn
    refine ⟨hlen, hl, _, _, rfl, fun _ => ⟨b, 0, none, rfl, h3, fun j u hu => ?_⟩⟩
    simp only [cellAt, h4, Nat.zero_add]; exact hu

end Go.Proofs.Tryz
