/- Contracts of functions, walked. -/
import Derived.Test.YtgddlpegljkgpaaStS3
import Derived.Test.YtgddlpegljkgpaaAwB
import Derived.Test.YtgddlpegljkgpaaStUB
import Derived.Test.YtgddlpegljkgpaaStS0
set_option linter.all false
namespace Go.Proofs.Try
open Go Go.Am Go.RowKit
set_option maxRecDepth 100000


def SeqAt (Hb H : AHeap) (p q : Nat) (v : Value) (s : Sheet) (line : Int) : Prop := ∃ wv av, v = .func (.func 122) #[] #[.pointer (some ⟨p, 0, none⟩), .pointer (some ⟨q, 0, none⟩)] ∧ p < H.n ∧ q < H.n ∧ H.get p = .row [wv, av] 25 ∧ H.get q = .row [.int .i64 line] 3 ∧ Ints Hb wv s.words ∧ Alts Hb av s.alts ∧ Ext Hb H
theorem SeqAt.ext {Hb H H' : AHeap} {p q : Nat} {v : Value} {s : Sheet} {line : Int} (h : SeqAt Hb H p q v s line) (hx : Ext H H') : SeqAt Hb H' p q v s line := by
  obtain ⟨wv, av, h1, h2, h3, h4, h5, h6, h7, h8⟩ := h
  exact ⟨wv, av, h1, Nat.lt_of_lt_of_le h2 hx.n, Nat.lt_of_lt_of_le h3 hx.n, (hx.get p h2).trans h4, (hx.get q h3).trans h5, h6, h7, h8.trans hx⟩

theorem stretches_e {loops : List (Nat × LInfo)} {Hb H : AHeap} {sv : Value} {s : Sheet} {line : Int} (hv : SheetV Hb sv s) (hx : Ext Hb H) : CallS Try.prog loops 101 [sv, .int .i64 line] H fun v H' => SeqAt Hb H' H.n (H.n + 1) v s line ∧ Ext H H' := by
  obtain ⟨wv, av, rfl, hw, ha⟩ := hv
  obtain ⟨hwl, wa, wc, rfl⟩ := hw.slice
  obtain ⟨hal, aa, ac, rfl⟩ := ha.slice
  have HW := Lib.hid hw
  have HA := Lib.hid ha
  have HX := Lib.hid hx
  clear hw ha hx
  refine CallS.enter' Try.func101 rfl Try.ntmps101 (by simp) fun f hd hf => ?_
  have f0 := hf 0
  have f1 := hf 1
  simp at f0 f1
  clear hf
  repeat' (first|(with_reducible first|refine zA ?_|refine zB fun K hK=>?_|refine zC fun K2 hK2=>?_|refine zD ?_|refine zE ?_|refine zF ?_|refine zG ?_|refine zH ?_|refine zI ?_|refine zM ?_|refine zN ?_|refine zO ?_|refine zP ?_|refine zQ ?_|refine zR ?_)|((with_reducible refine zU (hK _ _ ?_));clear hK K)|((with_reducible refine zV ?_ ?_ fun K1 K3 d hdst h1 h3=>?_);rfl;exact yB rfl;cases hdst;go_simp)|((with_reducible refine zW fun K1 K3 h1 h3=>?_);go_simp)|((first|refine h1 ?_|refine h3 ?_);clear h1 h3 K1 K3)|((first|refine zX (fun hb=>h1 ?_) (fun hb=>h3 ?_)|refine zX (fun hb=>h3 ?_) (fun hb=>h1 ?_))<;>(clear h1 h3 K1 K3;(try have hb2:=yC hb);(try have hb2:=yD hb);(try have hb2:=yE hb);(try have hb2:=yF hb);(try have hb2:=yG hb)))|(refine fun (K2:_→AHeap→Prop) hK2=>?_)|((with_reducible refine zY ?_ ?_);decide)|((with_reducible first|refine zZ ?_ (fun K hK=>?_)|refine yA ?_ (fun K hK=>?_));(focus go_simp;done);go_simp;refine hK _ _ ?_;clear hK K)|(go_simp;(try go_bits);refine hK2 _ _ ?_;clear hK2 K2))
  refine ⟨⟨_, _, rfl, by rw [AHeap.n_push, AHeap.n_push]; omega, by rw [AHeap.n_push, AHeap.n_push]; omega, ?_, ?_, HW.out, HA.out, (HX.out.push' _).push' _⟩, ((Ext.refl _).push' _).push' _⟩
  · rw [AHeap.get_push_old (by rw [AHeap.n_push]; omega), AHeap.get_push_new]
  · rw [← AHeap.n_push H, AHeap.get_push_new]

@[go_sem] theorem Has.val_mk {a b : Int} {l : Bool} : Has.val ⟨a, b, l⟩ = .agg #[.int .i64 a, .int .i64 b, .bool l] := by rw [Has.val]
@[go_sem] theorem Str.val_mk {a b c d : Int} {l : Bool} : Str.val ⟨a, b, ⟨c, d, l⟩⟩ = .agg #[.int .i64 a, .int .i64 b, .int .i64 c, .int .i64 d, .bool l] := by rw [Str.val]
theorem sorted_mem : ∀ (l : List Alt) (b : Int), sorted b l → ∀ a, a ∈ l → b ≤ a.day ∧ a.day ≤ 730
  | x :: t, b, h, a, ha => by
    rcases List.mem_cons.1 ha with rfl | ha
    · exact ⟨h.1, h.2.1⟩
    · have := sorted_mem t x.day h.2.2 a ha
      exact ⟨Int.le_trans h.1 this.1, this.2⟩

theorem go_pos (line : Int) : ∀ (l : List Alt) (b : Int) (c : Has), 0 < (go line b c l).length
  | [], _, _ => by simp [go]
  | a :: t, b, c => by
    rw [go]
    split
    · exact go_pos line t b c
    · split
      · exact go_pos line t b c
      · split
        · simp
        · exact go_pos line t _ _
theorem go_le (line : Int) : ∀ (l : List Alt) (b : Int) (c : Has), (go line b c l).length ≤ l.length + 1
  | [], _, _ => by simp [go]
  | a :: t, b, c => by
    rw [go, List.length_cons]
    split
    · have := go_le line t b c; omega
    · split
      · have := go_le line t b c; omega
      · split
        · have := go_le line t a.day (c.after a); rw [List.length_cons]; omega
        · have := go_le line t a.day (c.after a); omega

def Str.isVal (v : Value) : Prop := ∃ x : Str, v = x.val ∧ -1 ≤ x.hi ∧ x.hi ≤ 730

set_option maxHeartbeats 2000000 in
theorem gives_e {loops ls : List (Nat × LInfo)} {H H0 : AHeap} {s : Sheet} {line : Int} {l room : Nat} {Rd : Nat → Prop} {S : List Value → (Nat → Prop) → AHeap → Prop} {L : List Value} {D : Nat → Prop} {p q : Nat} {wv av : Value}
    (hfl : LExt ls loops) (hg : Gen Try.prog l ls Rd room Str.isVal S) (hS : S L D H) (hp : p < H.n) (hq : q < H.n) (hgp : H.get p = .row [wv, av] 25) (hgq : H.get q = .row [.int .i64 line] 3) (hw : Ints H0 wv s.words) (ha : Alts H0 av s.alts) (hx : Ext H0 H) (hb : ∀ i, D i → H0.n ≤ i) (hqD : ¬ D q)
    (hl0 : 0 ≤ line) (hl1 : line < s.words.length) (hso : sorted 0 s.alts) (hro : L.length + ((go line 0 ⟨s.words[line.toNat]!, 0, false⟩ s.alts).map Str.val).length ≤ room) :
    CallS Try.prog loops 122 [.func (.yield l) #[] #[], .pointer (some ⟨p, 0, none⟩), .pointer (some ⟨q, 0, none⟩)] H fun _ H' => ∃ D', S (L ++ (go line 0 ⟨s.words[line.toNat]!, 0, false⟩ s.alts).map Str.val) D' H' ∧ Step D H D' H' := by
  obtain ⟨hwl, wa, wc, rfl⟩ := hw.slice
  obtain ⟨hal, aa, ac, rfl⟩ := ha.slice
  obtain ⟨ln, rfl⟩ := Int.eq_ofNat_of_zero_le hl0
  have hlt : ln < s.words.length := by omega
  obtain ⟨b, o, sp, rfl, hb1, hcw⟩ := (hw.ext hx).at_ hlt
  have e0 : s.words[(ln : Int).toNat]! = s.words[ln] := by simp [hlt]
  rw [e0] at hro ⊢
  have hcp0 : cellAt H p 0 = some (.slice (some ⟨b, o, sp⟩) s.words.length wc) := by simp [cellAt, hgp]
  have hcp1 : cellAt H p 1 = some (.slice aa s.alts.length ac) := by simp [cellAt, hgp]
  have hcq : cellAt H q 0 = some (.int .i64 ln) := by simp [cellAt, hgq]
  have HB := Lib.hid hb
  have HQD := Lib.hid hqD
  clear hb hqD
  have HFL := Lib.hid hfl
  have HG := Lib.hid hg
  have HS := Lib.hid hS
  have HGP := Lib.hid hgp
  have HGQ := Lib.hid hgq
  have HW := Lib.hid hw
  have HA := Lib.hid ha
  have HX := Lib.hid hx
  have HSO := Lib.hid hso
  generalize s.words[ln] = w0 at hcw hro ⊢
  generalize hitems : (go (ln : Int) 0 ⟨w0, 0, false⟩ s.alts).map Str.val = items at hro ⊢
  have HRO := Lib.hid hro
  have HIT := Lib.hid hitems
  clear hro hfl hg hS hgp hgq hw ha hx hso hitems e0 hl0
  refine CallS.enter' Try.func122 rfl Try.ntmps122 (by simp) fun f hd hf => ?_
  have f0 := hf 0
  have f1 := hf 1
  have f2 := hf 2
  simp at f0 f1 f2
  clear hf
  repeat' (first|(with_reducible first|refine zA ?_|refine zB fun K hK=>?_|refine zC fun K2 hK2=>?_|refine zD ?_|refine zE ?_|refine zF ?_|refine zG ?_|refine zH ?_|refine zI ?_|refine zM ?_|refine zN ?_|refine zO ?_|refine zP ?_|refine zQ ?_|refine zR ?_)|((with_reducible refine zU (hK _ _ ?_));clear hK K)|((with_reducible refine zV ?_ ?_ fun K1 K3 d hdst h1 h3=>?_);rfl;exact yB rfl;cases hdst;go_simp)|((with_reducible refine zW fun K1 K3 h1 h3=>?_);go_simp)|((first|refine h1 ?_|refine h3 ?_);clear h1 h3 K1 K3)|((first|refine zX (fun hb=>h1 ?_) (fun hb=>h3 ?_)|refine zX (fun hb=>h3 ?_) (fun hb=>h1 ?_))<;>(clear h1 h3 K1 K3;(try have hb2:=yC hb);(try have hb2:=yD hb);(try have hb2:=yE hb);(try have hb2:=yF hb);(try have hb2:=yG hb)))|(refine fun (K2:_→AHeap→Prop) hK2=>?_)|((with_reducible refine zY ?_ ?_);decide)|((with_reducible first|refine zZ ?_ (fun K hK=>?_)|refine yA ?_ (fun K hK=>?_));(focus go_simp;done);go_simp;refine hK _ _ ?_;clear hK K)|(go_simp;(try go_bits);refine hK2 _ _ ?_;clear hK2 K2))
  repeat' (first|(with_reducible first|refine zA ?_|refine zB fun K hK=>?_|refine zC fun K2 hK2=>?_|refine zD ?_|refine zE ?_|refine zF ?_|refine zG ?_|refine zH ?_|refine zI ?_|refine zM ?_|refine zN ?_|refine zO ?_|refine zP ?_|refine zQ ?_|refine zR ?_)|((with_reducible refine zU (hK _ _ ?_));clear hK K)|((with_reducible refine zV ?_ ?_ fun K1 K3 d hdst h1 h3=>?_);rfl;exact yB rfl;cases hdst;go_simp)|((with_reducible refine zW fun K1 K3 h1 h3=>?_);go_simp)|((first|refine h1 ?_|refine h3 ?_);clear h1 h3 K1 K3)|((first|refine zX (fun hb=>h1 ?_) (fun hb=>h3 ?_)|refine zX (fun hb=>h3 ?_) (fun hb=>h1 ?_))<;>(clear h1 h3 K1 K3;(try have hb2:=yC hb);(try have hb2:=yD hb);(try have hb2:=yE hb);(try have hb2:=yF hb);(try have hb2:=yG hb)))|(refine fun (K2:_→AHeap→Prop) hK2=>?_)|((with_reducible refine zY ?_ ?_);decide)|((with_reducible first|refine zZ ?_ (fun K hK=>?_)|refine yA ?_ (fun K hK=>?_));(focus go_simp;done);go_simp;refine hK _ _ ?_;clear hK K)|((with_reducible refine yH mixed rfl ?_ 20 fun K0 hK0=>?_);kernel_rfl)|(with_reducible first|exact yI|exact yJ|refine yK ?_|refine yL ?_|refine yM ?_)|((with_reducible first|refine yN ?_ ?_|refine yO ?_ ?_|refine yP ?_ ?_);rfl)|((with_reducible refine yQ ?_ ?_);rfl;refine hK0 _ _ ?_;clear hK0 K0)|((with_reducible refine yR ?_ ?_ ?_ ?_);rfl;rfl;rfl)|((with_reducible refine yS ?_ ?_ ?_ fun K2 hK2=>?_);rfl;rfl;exact yB rfl)|((with_reducible refine yT ?_ ?_ ?_ ?_ fun K1 K3 d hdst h1 h3=>?_);rfl;rfl;rfl;exact yB rfl;cases hdst;go_simp)|((with_reducible refine yU ?_ ?_ ?_ ?_ fun K1 K3 d hdst h1 h3=>?_);rfl;rfl;rfl;exact yB rfl;cases hdst;go_simp)|((with_reducible refine yV ?_ ?_ (fun K2 hK2=>?_) ?_);rfl;exact yB rfl)|((with_reducible refine yW ?_ ?_ ?_ ?_ (fun K2 hK2=>?_) ?_);rfl;exact yB rfl;rfl;(focus go_simp;done))|((with_reducible refine yX ?_ ?_ ?_ (fun K2 hK2=>?_) ?_);rfl;rfl;exact yB rfl)|((with_reducible refine yY ?_ ?_ (fun K2 hK2=>?_) ?_);rfl;rfl)|((with_reducible refine yZ ?_ ?_);(first|rfl|(dsimp only;decide +kernel)))|((with_reducible refine xA ?_ ?_);(focus go_simp;done))|(go_simp;(try go_bits);(first|(refine hK2 _ _ ?_ ?_<;>clear hK2 K2)|(refine hK2 _ _ ?_;clear hK2 K2))))
  repeat' (first|(with_reducible first|refine zA ?_|refine zB fun K hK=>?_|refine zC fun K2 hK2=>?_|refine zD ?_|refine zE ?_|refine zF ?_|refine zG ?_|refine zH ?_|refine zI ?_|refine zM ?_|refine zN ?_|refine zO ?_|refine zP ?_|refine zQ ?_|refine zR ?_)|((with_reducible refine zU (hK _ _ ?_));clear hK K)|((with_reducible refine zV ?_ ?_ fun K1 K3 d hdst h1 h3=>?_);rfl;exact yB rfl;cases hdst;go_simp)|((with_reducible refine zW fun K1 K3 h1 h3=>?_);go_simp)|((first|refine h1 ?_|refine h3 ?_);clear h1 h3 K1 K3)|((first|refine zX (fun hb=>h1 ?_) (fun hb=>h3 ?_)|refine zX (fun hb=>h3 ?_) (fun hb=>h1 ?_))<;>(clear h1 h3 K1 K3;(try have hb2:=yC hb);(try have hb2:=yD hb);(try have hb2:=yE hb);(try have hb2:=yF hb);(try have hb2:=yG hb)))|(refine fun (K2:_→AHeap→Prop) hK2=>?_)|((with_reducible refine zY ?_ ?_);decide)|((with_reducible first|refine zZ ?_ (fun K hK=>?_)|refine yA ?_ (fun K hK=>?_));(focus go_simp;done);go_simp;refine hK _ _ ?_;clear hK K)|(go_simp;(try go_bits);refine hK2 _ _ ?_;clear hK2 K2))
  refine CodeS.loop (fun m f H' => ∃ (k : Nat) (b : Int) (c : Has) (D' : Nat → Prop) (L' : List Value), k ≤ s.alts.length ∧ m = s.alts.length - k ∧ f.tmp 19 = .int .i64 k ∧ f.tmp 18 = .int .i64 s.alts.length ∧ f.tmp 17 = .slice aa s.alts.length ac ∧ f.tmp 0 = .func (.yield l) #[] #[] ∧ f.tmp 2 = .pointer (some ⟨q, 0, none⟩) ∧ f.tmp 5 = .pointer (some ⟨H.n, 0, none⟩) ∧ f.tmp 4 = .int .i64 b ∧ f.defers = [] ∧ H.n < H'.n ∧ H'.get H.n = .row [.int .i64 c.text, .int .i64 c.margin, .bool c.lost] 147 ∧ Hid (¬ D' H.n) ∧ Hid (S L' D' H') ∧ Hid (Step D H D' H') ∧ Hid (L' ++ (go ln b c (s.alts.drop k)).map Str.val = L ++ items)) s.alts.length ?_ ?_
  · refine ⟨0, 0, ⟨w0, 0, false⟩, D, L, by simp, by simp, (by first|go_simp<;>go_num|assumption), (by first|go_simp<;>go_num|assumption), (by first|go_simp<;>go_num|assumption), (by first|go_simp<;>go_num|assumption), (by first|go_simp<;>go_num|assumption), (by first|go_simp<;>go_num|assumption), (by first|go_simp<;>go_num|assumption), (by first|go_simp<;>go_num|assumption), ?_, ?_, ?_, ?_, ?_, ?_⟩
    · rw [AHeap.n_push]; omega
    · exact AHeap.get_push_new
    · exact Lib.hid fun h0 => Nat.lt_irrefl _ (HG.out.lt HS.out h0)
    · exact Lib.hid (HG.out.keepx HS.out (Ext.push _))
    · exact Lib.hid ((Step.refl _ _).push _)
    · exact Lib.hid (by rw [List.drop_zero, HIT.out])
  clear f0 f1 f2 hd f
  rintro m f H' ⟨k, b', c, D', L', hk, rfl, f19, f18, f17, f0, f2, f5, f4, hd, hn5, hg5, HND, HS', HST, HGO⟩
  have hlen : L'.length < room := by
    have h1 := congrArg List.length HGO.out
    have h2 := go_pos ln (s.alts.drop k) b' c
    have h3 := HRO.out
    simp only [List.length_append, List.length_map] at h1
    omega
  have HLEN := Lib.hid hlen
  clear hlen
  obtain ⟨ct, cm, cl⟩ := c
  simp only at hg5
  have HXX := Lib.hid (HST.out.ext HX.out HB.out)
  have hcq' : cellAt H' q 0 = some (.int .i64 ln) := by
    have : H'.get q = .row [.int .i64 ln] 3 := (HST.out.get q hq HQD.out).trans HGQ.out
    simp [cellAt, this]
  have hqn' : q < H'.n := Nat.lt_of_lt_of_le hq HST.out.n
  have hc5 : cellsAt H' H.n 0 3 = some [.int .i64 ct, .int .i64 cm, .bool cl] := by simp [cellsAt, hg5]
  by_cases hlt2 : k < s.alts.length
  · obtain ⟨b2, o2, sp2, rfl, hb2, hx6, -⟩ := (HA.out.ext HXX.out).at_ hlt2
    have HD := Lib.hid (List.drop_eq_getElem_cons hlt2)
    have hday := sorted_mem _ _ HSO.out _ (List.getElem_mem hlt2)
    generalize s.alts[k] = a at hx6 HD hday
    obtain ⟨i, kd, dy, fr, to, wd⟩ := a
    obtain ⟨hday0, hday1⟩ := hday
    simp only at hday0 hday1
    simp only [Alt.cells] at hx6
    have HAF := Lib.hid (fun (loops : List (Nat × LInfo)) (H : AHeap) => after_s (loops := loops) (H := H) (c := ⟨ct, cm, cl⟩) (a := ⟨i, kd, dy, fr, to, wd⟩))
    generalize hnx : Has.after ⟨ct, cm, cl⟩ ⟨i, kd, dy, fr, to, wd⟩ = nx at HAF
    have HNX := Lib.hid hnx
    clear hnx
    obtain ⟨nt, nm, nl⟩ := nx
    have HIB : Hid (-1 ≤ dy - 1 ∧ dy - 1 ≤ 730) := Lib.hid (by omega)
    have hne7 : (H'.n = H.n) = False := by simp; omega
    have hne7' : (H.n = H'.n) = False := by simp; omega
    have hne8' : (H.n = H'.n + 1) = False := by simp; omega
    have hne8 : (H'.n + 1 = H.n) = False := by simp; omega
    repeat' (first|(with_reducible first|refine zA ?_|refine zB fun K hK=>?_|refine zC fun K2 hK2=>?_|refine zD ?_|refine zE ?_|refine zF ?_|refine zG ?_|refine zH ?_|refine zI ?_|refine zM ?_|refine zN ?_|refine zO ?_|refine zP ?_|refine zQ ?_|refine zR ?_)|((with_reducible refine zU (hK _ _ ?_));clear hK K)|((with_reducible refine zV ?_ ?_ fun K1 K3 d hdst h1 h3=>?_);rfl;exact yB rfl;cases hdst;go_simp)|((with_reducible refine zW fun K1 K3 h1 h3=>?_);go_simp)|((first|refine h1 ?_|refine h3 ?_);clear h1 h3 K1 K3)|((first|refine zX (fun hb=>h1 ?_) (fun hb=>h3 ?_)|refine zX (fun hb=>h3 ?_) (fun hb=>h1 ?_))<;>(clear h1 h3 K1 K3;(try have hb2:=yC hb);(try have hb2:=yD hb);(try have hb2:=yE hb);(try have hb2:=yF hb);(try have hb2:=yG hb)))|(refine fun (K2:_→AHeap→Prop) hK2=>?_)|((with_reducible refine zY ?_ ?_);decide)|((with_reducible first|refine zZ ?_ (fun K hK=>?_)|refine yA ?_ (fun K hK=>?_));(focus go_simp;done);go_simp;refine hK _ _ ?_;clear hK K)|(go_simp;(try go_bits);(try first |((with_reducible show CallS _ _ _ _ _ _);first|(refine CallS.mono within_s ?_; rintro _ _ ⟨rfl, rfl⟩)|(refine CallS.mono (HAF.out _ _) ?_; rintro _ _ ⟨rfl, rfl⟩; go_simp))|((refine eq147_k (c := ⟨nt, nm, nl⟩) (d := ⟨ct, cm, cl⟩) (by go_simp) (by go_simp) ?_); go_simp)|((refine RoundS.mono (HG.out.round (v := Str.val ⟨b', dy - 1, ⟨ct, cm, cl⟩⟩) HFL.out HLEN.out ⟨_, rfl, HIB.out⟩ (HG.out.keepx HS'.out (((Ext.refl _).push' _).push' _))) ?_); rintro _ H3 ⟨rfl, D3, hS3, hst3⟩; (have HS3 := Lib.hid hS3); (have HST3 := Lib.hid hst3); (have hg53 : H3.get H.n = .row [.int .i64 ct, .int .i64 cm, .bool cl] 147 := (hst3.get H.n (by rw [AHeap.n_push, AHeap.n_push]; omega) HND.out).trans (by rw [AHeap.get_push_old (by rw [AHeap.n_push]; omega), AHeap.get_push_old hn5]; exact hg5)); (have h73 : cellAt H3 H'.n 2 = some (.int .i64 dy) := (cellAt_get (hst3.get H'.n (by rw [AHeap.n_push, AHeap.n_push]; omega) (fun h0 => Nat.lt_irrefl _ (HG.out.lt HS'.out h0)))).trans (by go_simp)); (have h83 : cellsAt H3 (H'.n + 1) 0 3 = some [.int .i64 nt, .int .i64 nm, .bool nl] := (cellsAt_get (hst3.get (H'.n + 1) (by rw [AHeap.n_push, AHeap.n_push]; omega) (fun h0 => absurd (HG.out.lt HS'.out h0) (by omega)))).trans (by go_simp)); clear hS3 hst3; go_simp));refine hK2 _ _ ?_;clear hK2 K2))
    · have hw : win fr to ln = false := by simpa using hb
      refine Post.round_normal ⟨s.alts.length - (k + 1), by omega, k + 1, b', ⟨ct, cm, cl⟩, D', L', by omega, rfl, (by first|go_simp<;>go_num|assumption), (by first|go_simp<;>go_num|assumption), (by first|go_simp<;>go_num|assumption), (by first|go_simp<;>go_num|assumption), (by first|go_simp<;>go_num|assumption), (by first|go_simp<;>go_num|assumption), (by first|go_simp<;>go_num|assumption), (by first|go_simp<;>go_num|assumption), ?_, ?_, HND, ?_, ?_, ?_⟩
      · rw [AHeap.n_push]; omega
      · rw [AHeap.get_push_old hn5]; exact hg5
      · exact Lib.hid (HG.out.keepx HS'.out (Ext.push _))
      · exact Lib.hid (HST.out.push _)
      · refine Lib.hid ?_
        rw [← HGO.out, HD.out, go, if_pos hw]
    · have hw : ¬ win fr to ln = false := by simpa using ‹(!win fr to (ln : Int)) = false›
      have hsame : Has.after ⟨ct, cm, cl⟩ ⟨i, kd, dy, fr, to, wd⟩ = ⟨ct, cm, cl⟩ := by
        rw [HNX.out]; simpa using hb
      refine Post.round_normal ⟨s.alts.length - (k + 1), by omega, k + 1, b', ⟨ct, cm, cl⟩, D', L', by omega, rfl, (by first|go_simp<;>go_num|assumption), (by first|go_simp<;>go_num|assumption), (by first|go_simp<;>go_num|assumption), (by first|go_simp<;>go_num|assumption), (by first|go_simp<;>go_num|assumption), (by first|go_simp<;>go_num|assumption), (by first|go_simp<;>go_num|assumption), (by first|go_simp<;>go_num|assumption), ?_, ?_, HND, ?_, ?_, ?_⟩
      · rw [AHeap.n_push, AHeap.n_push]; omega
      · rw [AHeap.get_push_old (by rw [AHeap.n_push]; omega), AHeap.get_push_old hn5]; exact hg5
      · exact Lib.hid (HG.out.keepx HS'.out (((Ext.refl _).push' _).push' _))
      · exact Lib.hid ((HST.out.push _).push _)
      · refine Lib.hid ?_
        rw [← HGO.out, HD.out, go, if_neg hw, if_pos hsame]
    · repeat' (first|(with_reducible first|refine zA ?_|refine zB fun K hK=>?_|refine zC fun K2 hK2=>?_|refine zD ?_|refine zE ?_|refine zF ?_|refine zG ?_|refine zH ?_|refine zI ?_|refine zM ?_|refine zN ?_|refine zO ?_|refine zP ?_|refine zQ ?_|refine zR ?_)|((with_reducible refine zU (hK _ _ ?_));clear hK K)|((with_reducible refine zV ?_ ?_ fun K1 K3 d hdst h1 h3=>?_);rfl;exact yB rfl;cases hdst;go_simp)|((with_reducible refine zW fun K1 K3 h1 h3=>?_);go_simp)|((first|refine h1 ?_|refine h3 ?_);clear h1 h3 K1 K3)|((first|refine zX (fun hb=>h1 ?_) (fun hb=>h3 ?_)|refine zX (fun hb=>h3 ?_) (fun hb=>h1 ?_))<;>(clear h1 h3 K1 K3;(try have hb2:=yC hb);(try have hb2:=yD hb);(try have hb2:=yE hb);(try have hb2:=yF hb);(try have hb2:=yG hb)))|(refine fun (K2:_→AHeap→Prop) hK2=>?_)|((with_reducible refine zY ?_ ?_);decide)|((with_reducible first|refine zZ ?_ (fun K hK=>?_)|refine yA ?_ (fun K hK=>?_));(focus go_simp;done);go_simp;refine hK _ _ ?_;clear hK K)|((with_reducible refine yH mixed rfl ?_ 20 fun K0 hK0=>?_);kernel_rfl)|(with_reducible first|exact yI|exact yJ|refine yK ?_|refine yL ?_|refine yM ?_)|((with_reducible first|refine yN ?_ ?_|refine yO ?_ ?_|refine yP ?_ ?_);rfl)|((with_reducible refine yQ ?_ ?_);rfl;refine hK0 _ _ ?_;clear hK0 K0)|((with_reducible refine yR ?_ ?_ ?_ ?_);rfl;rfl;rfl)|((with_reducible refine yS ?_ ?_ ?_ fun K2 hK2=>?_);rfl;rfl;exact yB rfl)|((with_reducible refine yT ?_ ?_ ?_ ?_ fun K1 K3 d hdst h1 h3=>?_);rfl;rfl;rfl;exact yB rfl;cases hdst;go_simp)|((with_reducible refine yU ?_ ?_ ?_ ?_ fun K1 K3 d hdst h1 h3=>?_);rfl;rfl;rfl;exact yB rfl;cases hdst;go_simp)|((with_reducible refine yV ?_ ?_ (fun K2 hK2=>?_) ?_);rfl;exact yB rfl)|((with_reducible refine yW ?_ ?_ ?_ ?_ (fun K2 hK2=>?_) ?_);rfl;exact yB rfl;rfl;(focus go_simp;done))|((with_reducible refine yX ?_ ?_ ?_ (fun K2 hK2=>?_) ?_);rfl;rfl;exact yB rfl)|((with_reducible refine yY ?_ ?_ (fun K2 hK2=>?_) ?_);rfl;rfl)|((with_reducible refine yZ ?_ ?_);(first|rfl|(dsimp only;decide +kernel)))|((with_reducible refine xA ?_ ?_);(focus go_simp;done))|(go_simp;(try go_bits);(first|(refine hK2 _ _ ?_ ?_<;>clear hK2 K2)|(refine hK2 _ _ ?_;clear hK2 K2))))
      all_goals (repeat' (first|(with_reducible first|refine zA ?_|refine zB fun K hK=>?_|refine zC fun K2 hK2=>?_|refine zD ?_|refine zE ?_|refine zF ?_|refine zG ?_|refine zH ?_|refine zI ?_|refine zM ?_|refine zN ?_|refine zO ?_|refine zP ?_|refine zQ ?_|refine zR ?_)|((with_reducible refine zU (hK _ _ ?_));clear hK K)|((with_reducible refine zV ?_ ?_ fun K1 K3 d hdst h1 h3=>?_);rfl;exact yB rfl;cases hdst;go_simp)|((with_reducible refine zW fun K1 K3 h1 h3=>?_);go_simp)|((first|refine h1 ?_|refine h3 ?_);clear h1 h3 K1 K3)|((first|refine zX (fun hb=>h1 ?_) (fun hb=>h3 ?_)|refine zX (fun hb=>h3 ?_) (fun hb=>h1 ?_))<;>(clear h1 h3 K1 K3;(try have hb2:=yC hb);(try have hb2:=yD hb);(try have hb2:=yE hb);(try have hb2:=yF hb);(try have hb2:=yG hb)))|(refine fun (K2:_→AHeap→Prop) hK2=>?_)|((with_reducible refine zY ?_ ?_);decide)|((with_reducible first|refine zZ ?_ (fun K hK=>?_)|refine yA ?_ (fun K hK=>?_));(focus go_simp;done);go_simp;refine hK _ _ ?_;clear hK K)|(go_simp;(try go_bits);refine hK2 _ _ ?_;clear hK2 K2)))
      all_goals
        have hw : ¬ win fr to ln = false := by simpa using ‹(!win fr to (ln : Int)) = false›
        have hch : ¬ Has.after ⟨ct, cm, cl⟩ ⟨i, kd, dy, fr, to, wd⟩ = ⟨ct, cm, cl⟩ := by
          rw [HNX.out]; simpa using ‹(decide (nt = ct) && (decide (nm = cm) && decide (nl = cl))) = false›
        have hT := Lib.hid ((((Step.refl D' H').push _).push _).trans HST3.out)
        have hND : ¬ D3 H.n := fun h0 => (HST3.out.new _ h0).elim HND.out (by rw [AHeap.n_push, AHeap.n_push]; omega)
        refine Post.round_normal ⟨s.alts.length - (k + 1), by omega, k + 1, dy, ⟨nt, nm, nl⟩, D3, _, by omega, rfl, (by first|go_simp<;>go_num|assumption), (by first|go_simp<;>go_num|assumption), (by first|go_simp<;>go_num|assumption), (by first|go_simp<;>go_num|assumption), (by first|go_simp<;>go_num|assumption), (by first|go_simp<;>go_num|assumption), (by first|go_simp<;>go_num|assumption), (by first|go_simp<;>go_num|assumption), ?_, ?_, Lib.hid hND, Lib.hid (HG.out.upd HS3.out hND (HG.out.noRd HS.out (Nat.le_refl _)) _), Lib.hid ((HST.out.trans hT.out).upd (.inr (Nat.le_refl _)) _), Lib.hid ?_⟩
        · rw [AHeap.n_upd]; exact Nat.lt_of_lt_of_le hn5 hT.out.n
        · rw [AHeap.get_upd_same]
        · rw [← HGO.out, HD.out, go, if_neg hw, if_neg hch, if_pos hb2, HNX.out]; simp
    · repeat' (first|(with_reducible first|refine zA ?_|refine zB fun K hK=>?_|refine zC fun K2 hK2=>?_|refine zD ?_|refine zE ?_|refine zF ?_|refine zG ?_|refine zH ?_|refine zI ?_|refine zM ?_|refine zN ?_|refine zO ?_|refine zP ?_|refine zQ ?_|refine zR ?_)|((with_reducible refine zU (hK _ _ ?_));clear hK K)|((with_reducible refine zV ?_ ?_ fun K1 K3 d hdst h1 h3=>?_);rfl;exact yB rfl;cases hdst;go_simp)|((with_reducible refine zW fun K1 K3 h1 h3=>?_);go_simp)|((first|refine h1 ?_|refine h3 ?_);clear h1 h3 K1 K3)|((first|refine zX (fun hb=>h1 ?_) (fun hb=>h3 ?_)|refine zX (fun hb=>h3 ?_) (fun hb=>h1 ?_))<;>(clear h1 h3 K1 K3;(try have hb2:=yC hb);(try have hb2:=yD hb);(try have hb2:=yE hb);(try have hb2:=yF hb);(try have hb2:=yG hb)))|(refine fun (K2:_→AHeap→Prop) hK2=>?_)|((with_reducible refine zY ?_ ?_);decide)|((with_reducible first|refine zZ ?_ (fun K hK=>?_)|refine yA ?_ (fun K hK=>?_));(focus go_simp;done);go_simp;refine hK _ _ ?_;clear hK K)|((with_reducible refine yH mixed rfl ?_ 20 fun K0 hK0=>?_);kernel_rfl)|(with_reducible first|exact yI|exact yJ|refine yK ?_|refine yL ?_|refine yM ?_)|((with_reducible first|refine yN ?_ ?_|refine yO ?_ ?_|refine yP ?_ ?_);rfl)|((with_reducible refine yQ ?_ ?_);rfl;refine hK0 _ _ ?_;clear hK0 K0)|((with_reducible refine yR ?_ ?_ ?_ ?_);rfl;rfl;rfl)|((with_reducible refine yS ?_ ?_ ?_ fun K2 hK2=>?_);rfl;rfl;exact yB rfl)|((with_reducible refine yT ?_ ?_ ?_ ?_ fun K1 K3 d hdst h1 h3=>?_);rfl;rfl;rfl;exact yB rfl;cases hdst;go_simp)|((with_reducible refine yU ?_ ?_ ?_ ?_ fun K1 K3 d hdst h1 h3=>?_);rfl;rfl;rfl;exact yB rfl;cases hdst;go_simp)|((with_reducible refine yV ?_ ?_ (fun K2 hK2=>?_) ?_);rfl;exact yB rfl)|((with_reducible refine yW ?_ ?_ ?_ ?_ (fun K2 hK2=>?_) ?_);rfl;exact yB rfl;rfl;(focus go_simp;done))|((with_reducible refine yX ?_ ?_ ?_ (fun K2 hK2=>?_) ?_);rfl;rfl;exact yB rfl)|((with_reducible refine yY ?_ ?_ (fun K2 hK2=>?_) ?_);rfl;rfl)|((with_reducible refine yZ ?_ ?_);(first|rfl|(dsimp only;decide +kernel)))|((with_reducible refine xA ?_ ?_);(focus go_simp;done))|(go_simp;(try go_bits);(first|(refine hK2 _ _ ?_ ?_<;>clear hK2 K2)|(refine hK2 _ _ ?_;clear hK2 K2))))
      all_goals (repeat' (first|(with_reducible first|refine zA ?_|refine zB fun K hK=>?_|refine zC fun K2 hK2=>?_|refine zD ?_|refine zE ?_|refine zF ?_|refine zG ?_|refine zH ?_|refine zI ?_|refine zM ?_|refine zN ?_|refine zO ?_|refine zP ?_|refine zQ ?_|refine zR ?_)|((with_reducible refine zU (hK _ _ ?_));clear hK K)|((with_reducible refine zV ?_ ?_ fun K1 K3 d hdst h1 h3=>?_);rfl;exact yB rfl;cases hdst;go_simp)|((with_reducible refine zW fun K1 K3 h1 h3=>?_);go_simp)|((first|refine h1 ?_|refine h3 ?_);clear h1 h3 K1 K3)|((first|refine zX (fun hb=>h1 ?_) (fun hb=>h3 ?_)|refine zX (fun hb=>h3 ?_) (fun hb=>h1 ?_))<;>(clear h1 h3 K1 K3;(try have hb2:=yC hb);(try have hb2:=yD hb);(try have hb2:=yE hb);(try have hb2:=yF hb);(try have hb2:=yG hb)))|(refine fun (K2:_→AHeap→Prop) hK2=>?_)|((with_reducible refine zY ?_ ?_);decide)|((with_reducible first|refine zZ ?_ (fun K hK=>?_)|refine yA ?_ (fun K hK=>?_));(focus go_simp;done);go_simp;refine hK _ _ ?_;clear hK K)|(go_simp;(try go_bits);refine hK2 _ _ ?_;clear hK2 K2)))
      all_goals
        have hw : ¬ win fr to ln = false := by simpa using ‹(!win fr to (ln : Int)) = false›
        have hch : ¬ Has.after ⟨ct, cm, cl⟩ ⟨i, kd, dy, fr, to, wd⟩ = ⟨ct, cm, cl⟩ := by
          rw [HNX.out]; simpa using ‹(decide (nt = ct) && (decide (nm = cm) && decide (nl = cl))) = false›
        have hnb : ¬ b' < dy := by simpa using hb
        refine Post.round_normal ⟨s.alts.length - (k + 1), by omega, k + 1, dy, ⟨nt, nm, nl⟩, D', _, by omega, rfl, (by first|go_simp<;>go_num|assumption), (by first|go_simp<;>go_num|assumption), (by first|go_simp<;>go_num|assumption), (by first|go_simp<;>go_num|assumption), (by first|go_simp<;>go_num|assumption), (by first|go_simp<;>go_num|assumption), (by first|go_simp<;>go_num|assumption), (by first|go_simp<;>go_num|assumption), ?_, ?_, HND, Lib.hid (HG.out.keepx (HG.out.upd HS'.out HND.out (HG.out.noRd HS.out (Nat.le_refl _)) _) (((Ext.refl _).push' _).push' _)), Lib.hid (((HST.out.upd (.inr (Nat.le_refl _)) _).push _).push _), Lib.hid ?_⟩
        · rw [AHeap.n_push, AHeap.n_push, AHeap.n_upd]; omega
        · rw [AHeap.get_push_old (by rw [AHeap.n_push, AHeap.n_upd]; omega), AHeap.get_push_old (by rw [AHeap.n_upd]; omega), AHeap.get_upd_same]
        · rw [← HGO.out, HD.out, go, if_neg hw, if_neg hch, if_neg hnb, HNX.out]
  · have HIB2 : Hid (-1 ≤ (730 : Int) ∧ (730 : Int) ≤ 730) := Lib.hid (by decide)
    repeat' (first|(with_reducible first|refine zA ?_|refine zB fun K hK=>?_|refine zC fun K2 hK2=>?_|refine zD ?_|refine zE ?_|refine zF ?_|refine zG ?_|refine zH ?_|refine zI ?_|refine zM ?_|refine zN ?_|refine zO ?_|refine zP ?_|refine zQ ?_|refine zR ?_)|((with_reducible refine zU (hK _ _ ?_));clear hK K)|((with_reducible refine zV ?_ ?_ fun K1 K3 d hdst h1 h3=>?_);rfl;exact yB rfl;cases hdst;go_simp)|((with_reducible refine zW fun K1 K3 h1 h3=>?_);go_simp)|((first|refine h1 ?_|refine h3 ?_);clear h1 h3 K1 K3)|((first|refine zX (fun hb=>h1 ?_) (fun hb=>h3 ?_)|refine zX (fun hb=>h3 ?_) (fun hb=>h1 ?_))<;>(clear h1 h3 K1 K3;(try have hb2:=yC hb);(try have hb2:=yD hb);(try have hb2:=yE hb);(try have hb2:=yF hb);(try have hb2:=yG hb)))|(refine fun (K2:_→AHeap→Prop) hK2=>?_)|((with_reducible refine zY ?_ ?_);decide)|((with_reducible first|refine zZ ?_ (fun K hK=>?_)|refine yA ?_ (fun K hK=>?_));(focus go_simp;done);go_simp;refine hK _ _ ?_;clear hK K)|(go_simp;(try go_bits);(try first | ((refine RoundS.mono (HG.out.round (v := Str.val ⟨b', 730, ⟨ct, cm, cl⟩⟩) HFL.out HLEN.out ⟨_, rfl, HIB2.out⟩ HS'.out) ?_); rintro _ H3 ⟨rfl, D3, hS3, hst3⟩));refine hK2 _ _ ?_;clear hK2 K2))
    refine ⟨D3, ?_, HST.out.trans hst3⟩
    have e : L' ++ [Str.val ⟨b', 730, ⟨ct, cm, cl⟩⟩] = L ++ items := by
      rw [← HGO.out, List.drop_eq_nil_of_le (by omega)]; rfl
    rw [← e]; exact hS3

def strs (s : Sheet) (line : Int) : List Str := go line 0 ⟨s.words[line.toNat]!, 0, false⟩ s.alts
theorem SeqAt.gives {Hb H : AHeap} {p q : Nat} {v : Value} {s : Sheet} {line : Int} (h : SeqAt Hb H p q v s line) (hl0 : 0 ≤ line) (hl1 : line < s.words.length) (hso : sorted 0 s.alts) : Gives Try.prog H (fun i => i < Hb.n ∨ i = p ∨ i = q) (strs s line).length v Str.isVal ((strs s line).map Str.val) := by
  obtain ⟨wv, av, rfl, h2, h3, h4, h5, h6, h7, h8⟩ := h
  refine ⟨122, _, rfl, ok122, ?_, fun loops ls H' l Rd room S L D hf hg hS hn hR hr => ?_⟩
  · rintro i (h | rfl | rfl)
    · exact Nat.lt_of_lt_of_le h h8.n
    · exact h2
    · exact h3
  · refine gives_e (H0 := Hb) hf hg hS (Nat.lt_of_lt_of_le h2 hn) (Nat.lt_of_lt_of_le h3 hn) ((hR p (.inr (.inl rfl))).1.trans h4) ((hR q (.inr (.inr rfl))).1.trans h5) h6 h7 ⟨Nat.le_trans h8.n hn, fun i hi => (hR i (.inl hi)).1.trans (h8.get i hi)⟩ (fun i hi => ?_) (hR q (.inr (.inr rfl))).2 hl0 hl1 hso (by rw [List.length_map]; exact hr)
    rcases Nat.lt_or_ge i Hb.n with h0 | h0
    · exact absurd hi (hR i (.inl h0)).2
    · exact h0
end Go.Proofs.Try
namespace Go.Proofs.Try
open Go Go.Am Go.RowKit
set_option maxRecDepth 100000

theorem own_block {H : AHeap} {bs : Nat} {v : Value} {e : TypeId} {size : Nat} {cells : List Value} (h : Own H bs v e size cells) {i n : Nat} (hv : v = .slice (some ⟨i, 0, none⟩) n n) (hn : 0 < n) : bs ≤ i ∧ i < H.n ∧ H.get i = .row cells e := by
  rcases h with ⟨h, _⟩ | ⟨b, m, h1, h2, h3, h4, h5⟩
  · rw [hv] at h; cases h
  · rw [hv] at h1; cases h1; exact ⟨h2, h3, h4⟩
theorem own_slice {H : AHeap} {bs : Nat} {v : Value} {e : TypeId} {size : Nat} {cells : List Value} (h : Own H bs v e size cells) : ∃ a n, v = .slice a n n := by
  rcases h with ⟨rfl, _⟩ | ⟨b, m, h1, _⟩
  · exact ⟨none, 0, rfl⟩
  · exact ⟨_, m, h1⟩
theorem own_at {H H' : AHeap} {bs : Nat} {v : Value} {e : TypeId} {size : Nat} {cells : List Value} (h : Own H bs v e size cells) (hn : H.n ≤ H'.n) (hg : ∀ i n, v = .slice (some ⟨i, 0, none⟩) n n → 0 < n → H'.get i = H.get i) : Own H' bs v e size cells := by
  rcases h with h | ⟨b, m, h1, h2, h3, h4, h5, h6⟩
  · exact .inl h
  · exact .inr ⟨b, m, h1, h2, Nat.lt_of_lt_of_le h3 hn, (hg b m h1 h6).trans h4, h5, h6⟩
theorem errLine_ok {s : Sheet} {line : Int} (h : errLine s line = 0) : err s = 0 ∧ 0 ≤ line ∧ line < s.words.length := by
  unfold errLine at h
  by_cases he : err s = 0
  · rw [if_neg (by simp [he])] at h
    by_cases hw : win 0 (s.words.length - 1) line = true
    · have := win_iff.1 hw
      exact ⟨he, this.1, by omega⟩
    · rw [if_neg hw] at h; cases h
  · rw [if_pos he] at h; exact absurd h he
theorem own_upd {H : AHeap} {base : Nat} {v : Value} {e : TypeId} {size : Nat} {cells : List Value} {i : Nat} {o : AObj} (h : Own H base v e size cells) (hi : i < base) : Own (H.upd i o) base v e size cells :=
  own_at h (by rw [AHeap.n_upd]; exact Nat.le_refl _) fun j n hv hn => AHeap.get_upd_ne (by have := (own_block h hv hn).1; omega)
theorem Str.val_inj {x y : Str} (h : x.val = y.val) : x = y := by
  obtain ⟨a, b, ⟨c, d, e⟩⟩ := x
  obtain ⟨a', b', ⟨c', d', e'⟩⟩ := y
  simp [Str.val] at h
  simp [h]
theorem strs_inj : ∀ (a b : List Str), a.map Str.val = b.map Str.val → b = a
  | [], [], _ => rfl
  | [], _ :: _, h => by simp at h
  | _ :: _, [], h => by simp at h
  | x :: t, y :: u, h => by
    simp only [List.map_cons, List.cons.injEq] at h
    rw [Str.val_inj h.1, strs_inj t u h.2]
end Go.Proofs.Try
namespace Go.Proofs.Try
open Go Go.Am Go.RowKit Go.Co
set_option maxRecDepth 100000

theorem isNaN_s {loops : List (Nat × LInfo)} {H : AHeap} {x : Int} : CallS Try.prog loops 152 [.int .i64 x] H fun r H' => r = .bool false ∧ H' = H := by
  refine CallS.enter' Try.func152 rfl Try.ntmps152 (by simp) fun f hd hf => ?_
  have f0 := hf 0
  simp at f0
  clear hf
  repeat' (first|(with_reducible first|refine zA ?_|refine zB fun K hK=>?_|refine zC fun K2 hK2=>?_|refine zD ?_|refine zE ?_|refine zF ?_|refine zG ?_|refine zH ?_|refine zI ?_|refine zM ?_|refine zN ?_|refine zO ?_|refine zP ?_|refine zQ ?_|refine zR ?_)|((with_reducible refine zU (hK _ _ ?_));clear hK K)|((with_reducible refine zV ?_ ?_ fun K1 K3 d hdst h1 h3=>?_);rfl;exact yB rfl;cases hdst;go_simp)|((with_reducible refine zW fun K1 K3 h1 h3=>?_);go_simp)|((first|refine h1 ?_|refine h3 ?_);clear h1 h3 K1 K3)|((first|refine zX (fun hb=>h1 ?_) (fun hb=>h3 ?_)|refine zX (fun hb=>h3 ?_) (fun hb=>h1 ?_))<;>(clear h1 h3 K1 K3;(try have hb2:=yC hb);(try have hb2:=yD hb);(try have hb2:=yE hb);(try have hb2:=yF hb);(try have hb2:=yG hb)))|(refine fun (K2:_→AHeap→Prop) hK2=>?_)|((with_reducible refine zY ?_ ?_);decide)|((with_reducible first|refine zZ ?_ (fun K hK=>?_)|refine yA ?_ (fun K hK=>?_));(focus go_simp;done);go_simp;refine hK _ _ ?_;clear hK K)|(go_simp;(try go_bits);refine hK2 _ _ ?_;clear hK2 K2))
  exact ⟨by simp, rfl⟩
theorem less_s {loops : List (Nat × LInfo)} {H : AHeap} {x y : Int} : CallS Try.prog loops 141 [.int .i64 x, .int .i64 y] H fun r H' => r = .bool (decide (x < y)) ∧ H' = H := by
  refine CallS.enter' Try.func141 rfl Try.ntmps141 (by simp) fun f hd hf => ?_
  have f0 := hf 0
  have f1 := hf 1
  simp at f0 f1
  clear hf
  repeat' (first|(with_reducible first|refine zA ?_|refine zB fun K hK=>?_|refine zC fun K2 hK2=>?_|refine zD ?_|refine zE ?_|refine zF ?_|refine zG ?_|refine zH ?_|refine zI ?_|refine zM ?_|refine zN ?_|refine zO ?_|refine zP ?_|refine zQ ?_|refine zR ?_)|((with_reducible refine zU (hK _ _ ?_));clear hK K)|((with_reducible refine zV ?_ ?_ fun K1 K3 d hdst h1 h3=>?_);rfl;exact yB rfl;cases hdst;go_simp)|((with_reducible refine zW fun K1 K3 h1 h3=>?_);go_simp)|((first|refine h1 ?_|refine h3 ?_);clear h1 h3 K1 K3)|((first|refine zX (fun hb=>h1 ?_) (fun hb=>h3 ?_)|refine zX (fun hb=>h3 ?_) (fun hb=>h1 ?_))<;>(clear h1 h3 K1 K3;(try have hb2:=yC hb);(try have hb2:=yD hb);(try have hb2:=yE hb);(try have hb2:=yF hb);(try have hb2:=yG hb)))|(refine fun (K2:_→AHeap→Prop) hK2=>?_)|((with_reducible refine zY ?_ ?_);decide)|((with_reducible first|refine zZ ?_ (fun K hK=>?_)|refine yA ?_ (fun K hK=>?_));(focus go_simp;done);go_simp;refine hK _ _ ?_;clear hK K)|(go_simp;(try go_bits);(try first | ((with_reducible show CallS _ _ _ _ _ _);refine CallS.mono isNaN_s ?_; rintro _ _ ⟨rfl, h9⟩; rw [h9]; clear h9; go_simp));refine hK2 _ _ ?_;clear hK2 K2))
  all_goals exact ⟨rfl, rfl⟩
set_option maxHeartbeats 4000000 in
theorem insSort_b {loops : List (Nat × LInfo)} {H : AHeap} {b n : Nat} {L : List Int} (hg : H.get b = .row (L.map (Value.int .i64)) 3) (hl : L.length = n) (hn : n ≤ 12) (hn1 : 1 ≤ n) : CallS Try.prog loops 135 [.slice (some ⟨b, 0, none⟩) n n, .int .i64 0, .int .i64 n] H fun r H' => r = .tuple #[] ∧ H'.n = H.n ∧ H'.get b = .row ((sortL L).map (Value.int .i64)) 3 ∧ ∀ i, i ≠ b → H'.get i = H.get i := by
  have HL := Lib.hid hl
  have HG0 := Lib.hid hg
  clear hg hl
  refine CallS.enter' Try.func135 rfl Try.ntmps135 (by simp) fun f hd hf => ?_
  have f0 := hf 0
  have f1 := hf 1
  have f2 := hf 2
  simp at f0 f1 f2
  clear hf
  repeat' (first|(with_reducible first|refine zA ?_|refine zB fun K hK=>?_|refine zC fun K2 hK2=>?_|refine zD ?_|refine zE ?_|refine zF ?_|refine zG ?_|refine zH ?_|refine zI ?_|refine zM ?_|refine zN ?_|refine zO ?_|refine zP ?_|refine zQ ?_|refine zR ?_)|((with_reducible refine zU (hK _ _ ?_));clear hK K)|((with_reducible refine zV ?_ ?_ fun K1 K3 d hdst h1 h3=>?_);rfl;exact yB rfl;cases hdst;go_simp)|((with_reducible refine zW fun K1 K3 h1 h3=>?_);go_simp)|((first|refine h1 ?_|refine h3 ?_);clear h1 h3 K1 K3)|((first|refine zX (fun hb=>h1 ?_) (fun hb=>h3 ?_)|refine zX (fun hb=>h3 ?_) (fun hb=>h1 ?_))<;>(clear h1 h3 K1 K3;(try have hb2:=yC hb);(try have hb2:=yD hb);(try have hb2:=yE hb);(try have hb2:=yF hb);(try have hb2:=yG hb)))|(refine fun (K2:_→AHeap→Prop) hK2=>?_)|((with_reducible refine zY ?_ ?_);decide)|((with_reducible first|refine zZ ?_ (fun K hK=>?_)|refine yA ?_ (fun K hK=>?_));(focus go_simp;done);go_simp;refine hK _ _ ?_;clear hK K)|(go_simp;(try go_bits);refine hK2 _ _ ?_;clear hK2 K2))
  refine CodeS.loop (fun m f H' => ∃ (i : Nat) (L' : List Int), 1 ≤ i ∧ i ≤ n ∧ m = n - i ∧ Hid (L'.length = n) ∧ f.tmp 6 = .int .i64 i ∧ f.tmp 0 = .slice (some ⟨b, 0, none⟩) n n ∧ f.tmp 1 = .int .i64 0 ∧ f.tmp 2 = .int .i64 n ∧ f.defers = [] ∧ Hid (PartAt L i L') ∧ Hid (H'.n = H.n) ∧ Hid (H'.get b = .row (L'.map (Value.int .i64)) 3) ∧ Hid (∀ j, j ≠ b → H'.get j = H.get j)) (n - 1) ?_ ?_
  · exact ⟨1, L, Nat.le_refl _, hn1, rfl, HL, (by first|go_simp<;>go_num|assumption), (by first|go_simp<;>go_num|assumption), (by first|go_simp<;>go_num|assumption), (by first|go_simp<;>go_num|assumption), (by first|go_simp<;>go_num|assumption), Lib.hid (part_one L), Lib.hid rfl, HG0, Lib.hid (fun _ _ => rfl)⟩
  clear f0 f1 f2 hd f HG0
  rintro m f H' ⟨i, L', hi1, hin, rfl, HLL, f6, f0, f1, f2, hd, HP, HN, HG, HK⟩
  by_cases hlt : i < n
  · have HS := Lib.hid (part_way (i := i) HP.out)
    have HW : Hid (∀ (j : Nat) (L2 : List Int), WayAt (sortL (L.take i)) (L.getD i 0) L i j L2 → posL (L.getD i 0) (sortL (L.take i)) i = j → PartAt L (i + 1) L2) := Lib.hid (fun j L2 h1 h2 => way_part (by rw [HL.out]; exact hlt) h1 h2)
    have HLS : Hid ((sortL (L.take i)).length = i) := Lib.hid (by rw [sortL_len]; simp; have := HL.out; omega)
    generalize sortL (L.take i) = S at HS HW HLS
    generalize L.getD i 0 = x at HS HW
    repeat' (first|(with_reducible first|refine zA ?_|refine zB fun K hK=>?_|refine zC fun K2 hK2=>?_|refine zD ?_|refine zE ?_|refine zF ?_|refine zG ?_|refine zH ?_|refine zI ?_|refine zM ?_|refine zN ?_|refine zO ?_|refine zP ?_|refine zQ ?_|refine zR ?_)|((with_reducible refine zU (hK _ _ ?_));clear hK K)|((with_reducible refine zV ?_ ?_ fun K1 K3 d hdst h1 h3=>?_);rfl;exact yB rfl;cases hdst;go_simp)|((with_reducible refine zW fun K1 K3 h1 h3=>?_);go_simp)|((first|refine h1 ?_|refine h3 ?_);clear h1 h3 K1 K3)|((first|refine zX (fun hb=>h1 ?_) (fun hb=>h3 ?_)|refine zX (fun hb=>h3 ?_) (fun hb=>h1 ?_))<;>(clear h1 h3 K1 K3;(try have hb2:=yC hb);(try have hb2:=yD hb);(try have hb2:=yE hb);(try have hb2:=yF hb);(try have hb2:=yG hb)))|(refine fun (K2:_→AHeap→Prop) hK2=>?_)|((with_reducible refine zY ?_ ?_);decide)|((with_reducible first|refine zZ ?_ (fun K hK=>?_)|refine yA ?_ (fun K hK=>?_));(focus go_simp;done);go_simp;refine hK _ _ ?_;clear hK K)|(go_simp;(try go_bits);refine hK2 _ _ ?_;clear hK2 K2))
    refine CodeS.loop (fun m f H' => ∃ (j : Nat) (jj : Int) (L2 : List Int), j ≤ i ∧ jj = (j : Int) ∧ m = j ∧ Hid (L2.length = n) ∧ f.tmp 7 = .int .i64 jj ∧ f.tmp 6 = .int .i64 i ∧ f.tmp 0 = .slice (some ⟨b, 0, none⟩) n n ∧ f.tmp 1 = .int .i64 0 ∧ f.tmp 2 = .int .i64 n ∧ f.defers = [] ∧ Hid (WayAt S x L i j L2) ∧ Hid (posL x S i = posL x S j) ∧ Hid (H'.n = H.n) ∧ Hid (H'.get b = .row (L2.map (Value.int .i64)) 3) ∧ Hid (∀ j, j ≠ b → H'.get j = H.get j)) i ?_ ?_
    · exact ⟨i, i, L', Nat.le_refl _, rfl, rfl, HLL, (by first|go_simp<;>go_num|assumption), (by first|go_simp<;>go_num|assumption), (by first|go_simp<;>go_num|assumption), (by first|go_simp<;>go_num|assumption), (by first|go_simp<;>go_num|assumption), (by first|go_simp<;>go_num|assumption), HS, Lib.hid rfl, HN, HG, HK⟩
    clear f6 f0 f1 f2 hd f HS HP HG HK HN HLL
    rintro m f H' ⟨j, jj, L2, hji, hjj, rfl, HLL, f7, f6, f0, f1, f2, hd, HS, HP, HN, HG, HK⟩
    have hg := HG.out
    rcases Nat.eq_zero_or_pos m with hj0 | hj0
    · subst hj0
      have : jj = 0 := by omega
      subst this
      clear hjj
      repeat' (first|(with_reducible first|refine zA ?_|refine zB fun K hK=>?_|refine zC fun K2 hK2=>?_|refine zD ?_|refine zE ?_|refine zF ?_|refine zG ?_|refine zH ?_|refine zI ?_|refine zM ?_|refine zN ?_|refine zO ?_|refine zP ?_|refine zQ ?_|refine zR ?_)|((with_reducible refine zU (hK _ _ ?_));clear hK K)|((with_reducible refine zV ?_ ?_ fun K1 K3 d hdst h1 h3=>?_);rfl;exact yB rfl;cases hdst;go_simp)|((with_reducible refine zW fun K1 K3 h1 h3=>?_);go_simp)|((first|refine h1 ?_|refine h3 ?_);clear h1 h3 K1 K3)|((first|refine zX (fun hb=>h1 ?_) (fun hb=>h3 ?_)|refine zX (fun hb=>h3 ?_) (fun hb=>h1 ?_))<;>(clear h1 h3 K1 K3;(try have hb2:=yC hb);(try have hb2:=yD hb);(try have hb2:=yE hb);(try have hb2:=yF hb);(try have hb2:=yG hb)))|(refine fun (K2:_→AHeap→Prop) hK2=>?_)|((with_reducible refine zY ?_ ?_);decide)|((with_reducible first|refine zZ ?_ (fun K hK=>?_)|refine yA ?_ (fun K hK=>?_));(focus go_simp;done);go_simp;refine hK _ _ ?_;clear hK K)|((with_reducible refine yH mixed rfl ?_ 20 fun K0 hK0=>?_);kernel_rfl)|(with_reducible first|exact yI|exact yJ|refine yK ?_|refine yL ?_|refine yM ?_)|((with_reducible first|refine yN ?_ ?_|refine yO ?_ ?_|refine yP ?_ ?_);rfl)|((with_reducible refine yQ ?_ ?_);rfl;refine hK0 _ _ ?_;clear hK0 K0)|((with_reducible refine yR ?_ ?_ ?_ ?_);rfl;rfl;rfl)|((with_reducible refine yS ?_ ?_ ?_ fun K2 hK2=>?_);rfl;rfl;exact yB rfl)|((with_reducible refine yT ?_ ?_ ?_ ?_ fun K1 K3 d hdst h1 h3=>?_);rfl;rfl;rfl;exact yB rfl;cases hdst;go_simp)|((with_reducible refine yU ?_ ?_ ?_ ?_ fun K1 K3 d hdst h1 h3=>?_);rfl;rfl;rfl;exact yB rfl;cases hdst;go_simp)|((with_reducible refine yV ?_ ?_ (fun K2 hK2=>?_) ?_);rfl;exact yB rfl)|((with_reducible refine yW ?_ ?_ ?_ ?_ (fun K2 hK2=>?_) ?_);rfl;exact yB rfl;rfl;(focus go_simp;done))|((with_reducible refine yX ?_ ?_ ?_ (fun K2 hK2=>?_) ?_);rfl;rfl;exact yB rfl)|((with_reducible refine yY ?_ ?_ (fun K2 hK2=>?_) ?_);rfl;rfl)|((with_reducible refine yZ ?_ ?_);(first|rfl|(dsimp only;decide +kernel)))|((with_reducible refine xA ?_ ?_);(focus go_simp;done))|(go_simp;(try go_bits);(first|(refine hK2 _ _ ?_ ?_<;>clear hK2 K2)|(refine hK2 _ _ ?_;clear hK2 K2))))
      exact Post.round_normal ⟨n - (i + 1), by omega, i + 1, L2, by omega, by omega, rfl, HLL, (by first|go_simp<;>go_num|assumption), (by first|go_simp<;>go_num|assumption), (by first|go_simp<;>go_num|assumption), (by first|go_simp<;>go_num|assumption), (by first|go_simp<;>go_num|assumption), Lib.hid (HW.out 0 L2 HS.out (by rw [HP.out]; rfl)), HN, HG, HK⟩
    · obtain ⟨k, rfl⟩ : ∃ k, m = k + 1 := ⟨m - 1, by omega⟩
      have : jj = (k : Int) + 1 := by omega
      subst this
      clear hjj hj0
      have hs : S.getD k 0 = S.getD k 0 := rfl
      have hc0 : cellAt H' b k = some (.int .i64 (S.getD k 0)) := by
        have h1 : k < L2.length := by rw [HLL.out]; omega
        simp only [cellAt, hg, List.getElem?_map]
        have := HS.out k (by have := HL.out; omega)
        rw [if_pos (by omega)] at this
        rw [← this]; simp [List.getD_eq_getElem?_getD, h1]
      have hc1 : cellAt H' b (k + 1) = some (.int .i64 x) := by
        have h1 : k + 1 < L2.length := by rw [HLL.out]; omega
        simp only [cellAt, hg, List.getElem?_map]
        have := HS.out (k + 1) (by have := HL.out; omega)
        rw [if_neg (by omega), if_pos rfl] at this
        rw [← this]; simp [List.getD_eq_getElem?_getD, h1]
      have HPS : Hid (posL x S (k + 1) = if S.getD k 0 > x then posL x S k else k + 1) := Lib.hid rfl
      generalize hy : S.getD k 0 = y at hc0 HPS
      have HY := Lib.hid hy
      have hk0 : (0 : Int) < (k : Int) + 1 := by omega
      have hk1 : (0 : Int) ≤ (k : Int) + 1 := by omega
      have hk2 : (k : Int) + 1 < (n : Int) := by omega
      have hk3 : (k : Int) < (n : Int) := by omega
      have hk4 : k + 1 < L2.length := by rw [HLL.out]; omega
      have hk5 : k < L2.length := by omega
      have hw0 : IntKind.i64.wrap (k : Int) = k := IntWalk.i64_in _ (by omega)
      clear hy hs
      repeat' (first|(with_reducible first|refine zA ?_|refine zB fun K hK=>?_|refine zC fun K2 hK2=>?_|refine zD ?_|refine zE ?_|refine zF ?_|refine zG ?_|refine zH ?_|refine zI ?_|refine zM ?_|refine zN ?_|refine zO ?_|refine zP ?_|refine zQ ?_|refine zR ?_)|((with_reducible refine zU (hK _ _ ?_));clear hK K)|((with_reducible refine zV ?_ ?_ fun K1 K3 d hdst h1 h3=>?_);rfl;exact yB rfl;cases hdst;go_simp)|((with_reducible refine zW fun K1 K3 h1 h3=>?_);go_simp)|((first|refine h1 ?_|refine h3 ?_);clear h1 h3 K1 K3)|((first|refine zX (fun hb=>h1 ?_) (fun hb=>h3 ?_)|refine zX (fun hb=>h3 ?_) (fun hb=>h1 ?_))<;>(clear h1 h3 K1 K3;(try have hb2:=yC hb);(try have hb2:=yD hb);(try have hb2:=yE hb);(try have hb2:=yF hb);(try have hb2:=yG hb)))|(refine fun (K2:_→AHeap→Prop) hK2=>?_)|((with_reducible refine zY ?_ ?_);decide)|((with_reducible first|refine zZ ?_ (fun K hK=>?_)|refine yA ?_ (fun K hK=>?_));(focus go_simp;done);go_simp;refine hK _ _ ?_;clear hK K)|((with_reducible refine yH mixed rfl ?_ 20 fun K0 hK0=>?_);kernel_rfl)|(with_reducible first|exact yI|exact yJ|refine yK ?_|refine yL ?_|refine yM ?_)|((with_reducible first|refine yN ?_ ?_|refine yO ?_ ?_|refine yP ?_ ?_);rfl)|((with_reducible refine yQ ?_ ?_);rfl;refine hK0 _ _ ?_;clear hK0 K0)|((with_reducible refine yR ?_ ?_ ?_ ?_);rfl;rfl;rfl)|((with_reducible refine yS ?_ ?_ ?_ fun K2 hK2=>?_);rfl;rfl;exact yB rfl)|((with_reducible refine yT ?_ ?_ ?_ ?_ fun K1 K3 d hdst h1 h3=>?_);rfl;rfl;rfl;exact yB rfl;cases hdst;go_simp)|((with_reducible refine yU ?_ ?_ ?_ ?_ fun K1 K3 d hdst h1 h3=>?_);rfl;rfl;rfl;exact yB rfl;cases hdst;go_simp)|((with_reducible refine yV ?_ ?_ (fun K2 hK2=>?_) ?_);rfl;exact yB rfl)|((with_reducible refine yW ?_ ?_ ?_ ?_ (fun K2 hK2=>?_) ?_);rfl;exact yB rfl;rfl;(focus go_simp;done))|((with_reducible refine yX ?_ ?_ ?_ (fun K2 hK2=>?_) ?_);rfl;rfl;exact yB rfl)|((with_reducible refine yY ?_ ?_ (fun K2 hK2=>?_) ?_);rfl;rfl)|((with_reducible refine yZ ?_ ?_);(first|rfl|(dsimp only;decide +kernel)))|((with_reducible refine xA ?_ ?_);(focus go_simp;done))|(go_simp;(try go_bits);(try first | ((with_reducible show CallS _ _ _ _ _ _);refine CallS.mono less_s ?_; rintro _ _ ⟨rfl, h9⟩; rw [h9]; clear h9; go_simp));(first|(refine hK2 _ _ ?_ ?_<;>clear hK2 K2)|(refine hK2 _ _ ?_;clear hK2 K2))))
      · have hxy : x < y := by simpa using hb
        refine Post.round_normal ⟨k, by omega, k, k, (L2.set (k + 1) y).set k x, by omega, rfl, rfl, Lib.hid (by simp [HLL.out]), (by first|go_simp<;>go_num|assumption), (by first|go_simp<;>go_num|assumption), (by first|go_simp<;>go_num|assumption), (by first|go_simp<;>go_num|assumption), (by first|go_simp<;>go_num|assumption), (by first|go_simp<;>go_num|assumption), Lib.hid (way_step hji HS.out fun t => ?_), Lib.hid (by rw [HP.out, HPS.out, if_pos hxy]), Lib.hid (by simp only [AHeap.n_upd]; exact HN.out), Lib.hid ?_, Lib.hid fun j hj => ?_⟩
        · rw [getD_set _ _ _ _ (by simpa using hk5), getD_set _ _ _ _ hk4, HY.out]
        · rw [AHeap.get_upd_same, List.map_set, List.map_set]
        · rw [AHeap.get_upd_ne hj]; exact HK.out j hj
      · have hxy : ¬ y > x := by have : ¬ x < y := by simpa using hb
                                 omega
        exact Post.round_normal ⟨n - (i + 1), by omega, i + 1, L2, by omega, by omega, rfl, HLL, (by first|go_simp<;>go_num|assumption), (by first|go_simp<;>go_num|assumption), (by first|go_simp<;>go_num|assumption), (by first|go_simp<;>go_num|assumption), (by first|go_simp<;>go_num|assumption), Lib.hid (HW.out (k + 1) L2 HS.out (by rw [HP.out, HPS.out, if_neg hxy])), HN, HG, HK⟩
  · repeat' (first|(with_reducible first|refine zA ?_|refine zB fun K hK=>?_|refine zC fun K2 hK2=>?_|refine zD ?_|refine zE ?_|refine zF ?_|refine zG ?_|refine zH ?_|refine zI ?_|refine zM ?_|refine zN ?_|refine zO ?_|refine zP ?_|refine zQ ?_|refine zR ?_)|((with_reducible refine zU (hK _ _ ?_));clear hK K)|((with_reducible refine zV ?_ ?_ fun K1 K3 d hdst h1 h3=>?_);rfl;exact yB rfl;cases hdst;go_simp)|((with_reducible refine zW fun K1 K3 h1 h3=>?_);go_simp)|((first|refine h1 ?_|refine h3 ?_);clear h1 h3 K1 K3)|((first|refine zX (fun hb=>h1 ?_) (fun hb=>h3 ?_)|refine zX (fun hb=>h3 ?_) (fun hb=>h1 ?_))<;>(clear h1 h3 K1 K3;(try have hb2:=yC hb);(try have hb2:=yD hb);(try have hb2:=yE hb);(try have hb2:=yF hb);(try have hb2:=yG hb)))|(refine fun (K2:_→AHeap→Prop) hK2=>?_)|((with_reducible refine zY ?_ ?_);decide)|((with_reducible first|refine zZ ?_ (fun K hK=>?_)|refine yA ?_ (fun K hK=>?_));(focus go_simp;done);go_simp;refine hK _ _ ?_;clear hK K)|(go_simp;(try go_bits);refine hK2 _ _ ?_;clear hK2 K2))
    have hin' : i = n := by omega
    have hL : L' = sortL L := part_end (by rw [HLL.out, HL.out]) (by rw [HL.out, ← hin']; exact HP.out)
    rw [hL] at HG
    exact ⟨rfl, HN.out, HG.out, HK.out⟩
theorem insSort_0 {loops : List (Nat × LInfo)} {H : AHeap} {v : Value} : CallS Try.prog loops 135 [v, .int .i64 0, .int .i64 0] H fun r H' => r = .tuple #[] ∧ H' = H := by
  refine CallS.enter' Try.func135 rfl Try.ntmps135 (by simp) fun f hd hf => ?_
  have f0 := hf 0
  have f1 := hf 1
  have f2 := hf 2
  simp at f0 f1 f2
  clear hf
  repeat' (first|(with_reducible first|refine zA ?_|refine zB fun K hK=>?_|refine zC fun K2 hK2=>?_|refine zD ?_|refine zE ?_|refine zF ?_|refine zG ?_|refine zH ?_|refine zI ?_|refine zM ?_|refine zN ?_|refine zO ?_|refine zP ?_|refine zQ ?_|refine zR ?_)|((with_reducible refine zU (hK _ _ ?_));clear hK K)|((with_reducible refine zV ?_ ?_ fun K1 K3 d hdst h1 h3=>?_);rfl;exact yB rfl;cases hdst;go_simp)|((with_reducible refine zW fun K1 K3 h1 h3=>?_);go_simp)|((first|refine h1 ?_|refine h3 ?_);clear h1 h3 K1 K3)|((first|refine zX (fun hb=>h1 ?_) (fun hb=>h3 ?_)|refine zX (fun hb=>h3 ?_) (fun hb=>h1 ?_))<;>(clear h1 h3 K1 K3;(try have hb2:=yC hb);(try have hb2:=yD hb);(try have hb2:=yE hb);(try have hb2:=yF hb);(try have hb2:=yG hb)))|(refine fun (K2:_→AHeap→Prop) hK2=>?_)|((with_reducible refine zY ?_ ?_);decide)|((with_reducible first|refine zZ ?_ (fun K hK=>?_)|refine yA ?_ (fun K hK=>?_));(focus go_simp;done);go_simp;refine hK _ _ ?_;clear hK K)|(go_simp;(try go_bits);refine hK2 _ _ ?_;clear hK2 K2))
  refine CodeS.loop (fun m f H' => f.tmp 6 = .int .i64 1 ∧ f.tmp 2 = .int .i64 0 ∧ f.defers = [] ∧ H' = H) 0 ?_ ?_
  · exact ⟨(by first|go_simp<;>go_num|assumption), (by first|go_simp<;>go_num|assumption), (by first|go_simp<;>go_num|assumption), rfl⟩
  clear f0 f1 f2 hd f
  rintro m f H' ⟨f6, f2, hd, rfl⟩
  repeat' (first|(with_reducible first|refine zA ?_|refine zB fun K hK=>?_|refine zC fun K2 hK2=>?_|refine zD ?_|refine zE ?_|refine zF ?_|refine zG ?_|refine zH ?_|refine zI ?_|refine zM ?_|refine zN ?_|refine zO ?_|refine zP ?_|refine zQ ?_|refine zR ?_)|((with_reducible refine zU (hK _ _ ?_));clear hK K)|((with_reducible refine zV ?_ ?_ fun K1 K3 d hdst h1 h3=>?_);rfl;exact yB rfl;cases hdst;go_simp)|((with_reducible refine zW fun K1 K3 h1 h3=>?_);go_simp)|((first|refine h1 ?_|refine h3 ?_);clear h1 h3 K1 K3)|((first|refine zX (fun hb=>h1 ?_) (fun hb=>h3 ?_)|refine zX (fun hb=>h3 ?_) (fun hb=>h1 ?_))<;>(clear h1 h3 K1 K3;(try have hb2:=yC hb);(try have hb2:=yD hb);(try have hb2:=yE hb);(try have hb2:=yF hb);(try have hb2:=yG hb)))|(refine fun (K2:_→AHeap→Prop) hK2=>?_)|((with_reducible refine zY ?_ ?_);decide)|((with_reducible first|refine zZ ?_ (fun K hK=>?_)|refine yA ?_ (fun K hK=>?_));(focus go_simp;done);go_simp;refine hK _ _ ?_;clear hK K)|(go_simp;(try go_bits);refine hK2 _ _ ?_;clear hK2 K2))
  exact ⟨rfl, rfl⟩

def Sorts (H : AHeap) (bs : Nat) (v : Value) (L : List Int) (r : Value) (H' : AHeap) : Prop := r = .tuple #[] ∧ H'.n = H.n ∧ Own H' bs v 3 1 ((sortL L).map (Value.int .i64)) ∧ ∀ i, i < bs → H'.get i = H.get i
theorem insSort_o {loops : List (Nat × LInfo)} {H : AHeap} {bs n : Nat} {v : Value} {L : List Int} (ho : Own H bs v 3 1 (L.map (Value.int .i64))) (hl : L.length = n) (hn : n ≤ 12) : CallS Try.prog loops 135 [v, .int .i64 0, .int .i64 n] H (Sorts H bs v L) := by
  rcases ho with ⟨h1, h2⟩ | ⟨b, m, h1, h2, h3, h4, h5, h6⟩
  · have : L = [] := by simpa using h2
    subst this
    obtain rfl : n = 0 := by simpa using hl.symm
    refine CallS.mono insSort_0 ?_
    rintro r H' ⟨rfl, rfl⟩
    rw [h1]
    exact ⟨rfl, rfl, Own.nil, fun _ _ => rfl⟩
  · have hm : m = n := by simp at h5; omega
    subst hm
    rw [h1]
    refine CallS.mono (insSort_b h4 hl hn h6) ?_
    rintro r H' ⟨rfl, g1, g2, g3⟩
    exact ⟨rfl, g1, .inr ⟨b, m, rfl, h2, by omega, g2, by simp [sortL_len, hl], h6⟩, fun i hi => g3 i (by omega)⟩

theorem pdq_o {loops : List (Nat × LInfo)} {H : AHeap} {bs n : Nat} {v : Value} {L : List Int} {lim : Int} (ho : Own H bs v 3 1 (L.map (Value.int .i64))) (hl : L.length = n) (hn : n ≤ 12) : CallS Try.prog loops 125 [v, .int .i64 0, .int .i64 n, .int .i64 lim] H (Sorts H bs v L) := by
  have HO := Lib.hid ho
  have HL := Lib.hid hl
  clear ho hl
  refine CallS.enter' Try.func125 rfl Try.ntmps125 (by simp) fun f hd hf => ?_
  have f0 := hf 0
  have f1 := hf 1
  have f2 := hf 2
  have f3 := hf 3
  simp at f0 f1 f2 f3
  clear hf
  have hn12 : (n : Int) ≤ 12 := by omega
  repeat' (first|(with_reducible first|refine zA ?_|refine zB fun K hK=>?_|refine zC fun K2 hK2=>?_|refine zD ?_|refine zE ?_|refine zF ?_|refine zG ?_|refine zH ?_|refine zI ?_|refine zM ?_|refine zN ?_|refine zO ?_|refine zP ?_|refine zQ ?_|refine zR ?_)|((with_reducible refine zU (hK _ _ ?_));clear hK K)|((with_reducible refine zV ?_ ?_ fun K1 K3 d hdst h1 h3=>?_);rfl;exact yB rfl;cases hdst;go_simp)|((with_reducible refine zW fun K1 K3 h1 h3=>?_);go_simp)|((first|refine h1 ?_|refine h3 ?_);clear h1 h3 K1 K3)|((first|refine zX (fun hb=>h1 ?_) (fun hb=>h3 ?_)|refine zX (fun hb=>h3 ?_) (fun hb=>h1 ?_))<;>(clear h1 h3 K1 K3;(try have hb2:=yC hb);(try have hb2:=yD hb);(try have hb2:=yE hb);(try have hb2:=yF hb);(try have hb2:=yG hb)))|(refine fun (K2:_→AHeap→Prop) hK2=>?_)|((with_reducible refine zY ?_ ?_);decide)|((with_reducible first|refine zZ ?_ (fun K hK=>?_)|refine yA ?_ (fun K hK=>?_));(focus go_simp;done);go_simp;refine hK _ _ ?_;clear hK K)|(go_simp;(try go_bits);refine hK2 _ _ ?_;clear hK2 K2))
  refine CodeS.loop (fun m f H' => f.tmp 0 = v ∧ f.tmp 1 = .int .i64 0 ∧ f.tmp 2 = .int .i64 n ∧ f.defers = [] ∧ H' = H) 0 ?_ ?_
  · exact ⟨(by first|go_simp<;>go_num|assumption), (by first|go_simp<;>go_num|assumption), (by first|go_simp<;>go_num|assumption), (by first|go_simp<;>go_num|assumption), rfl⟩
  clear f0 f1 f2 f3 hd f
  rintro m f H' ⟨f0, f1, f2, hd, rfl⟩
  repeat' (first|(with_reducible first|refine zA ?_|refine zB fun K hK=>?_|refine zC fun K2 hK2=>?_|refine zD ?_|refine zE ?_|refine zF ?_|refine zG ?_|refine zH ?_|refine zI ?_|refine zM ?_|refine zN ?_|refine zO ?_|refine zP ?_|refine zQ ?_|refine zR ?_)|((with_reducible refine zU (hK _ _ ?_));clear hK K)|((with_reducible refine zV ?_ ?_ fun K1 K3 d hdst h1 h3=>?_);rfl;exact yB rfl;cases hdst;go_simp)|((with_reducible refine zW fun K1 K3 h1 h3=>?_);go_simp)|((first|refine h1 ?_|refine h3 ?_);clear h1 h3 K1 K3)|((first|refine zX (fun hb=>h1 ?_) (fun hb=>h3 ?_)|refine zX (fun hb=>h3 ?_) (fun hb=>h1 ?_))<;>(clear h1 h3 K1 K3;(try have hb2:=yC hb);(try have hb2:=yD hb);(try have hb2:=yE hb);(try have hb2:=yF hb);(try have hb2:=yG hb)))|(refine fun (K2:_→AHeap→Prop) hK2=>?_)|((with_reducible refine zY ?_ ?_);decide)|((with_reducible first|refine zZ ?_ (fun K hK=>?_)|refine yA ?_ (fun K hK=>?_));(focus go_simp;done);go_simp;refine hK _ _ ?_;clear hK K)|(go_simp;(try go_bits);(try first | ((with_reducible show CallS _ _ _ _ _ _);refine CallS.mono (insSort_o HO.out HL.out hn) ?_; rintro _ H1 ⟨rfl, h1, h2, h3⟩; (have HS := Lib.hid (show Sorts H' bs v L (.tuple #[]) H1 from ⟨rfl, h1, h2, h3⟩)); clear h1 h2 h3));refine hK2 _ _ ?_;clear hK2 K2))
  exact HS.out

theorem sort_o {loops : List (Nat × LInfo)} {H : AHeap} {bs : Nat} {v : Value} {L : List Int} (ho : Own H bs v 3 1 (L.map (Value.int .i64))) (hn : L.length ≤ 12) : CallS Try.prog loops 110 [v] H (Sorts H bs v L) := by
  obtain ⟨a, n, rfl⟩ := own_slice ho
  have hl : L.length = n := by
    rcases ho with ⟨h1, h2⟩ | ⟨b, m, h1, h2, h3, h4, h5, h6⟩
    · cases h1; have : L = [] := by simpa using h2
      rw [this]; rfl
    · cases h1; simpa using h5
  have HO := Lib.hid ho
  have HL := Lib.hid hl
  have hn2 : n ≤ 12 := by omega
  obtain ⟨lim, hlim⟩ := bitsLen_s hn2
  have HB := Lib.hid hlim
  have hw : IntKind.u64.wrap (n : Int) = (n : Int) := by
    unfold IntKind.wrap IntKind.bits
    simp
    omega
  clear ho hl hn hlim
  refine CallS.enter' Try.func110 rfl Try.ntmps110 (by simp) fun f hd hf => ?_
  have f0 := hf 0
  simp at f0
  clear hf
  repeat' (first|(with_reducible first|refine zA ?_|refine zB fun K hK=>?_|refine zC fun K2 hK2=>?_|refine zD ?_|refine zE ?_|refine zF ?_|refine zG ?_|refine zH ?_|refine zI ?_|refine zM ?_|refine zN ?_|refine zO ?_|refine zP ?_|refine zQ ?_|refine zR ?_)|((with_reducible refine zU (hK _ _ ?_));clear hK K)|((with_reducible refine zV ?_ ?_ fun K1 K3 d hdst h1 h3=>?_);rfl;exact yB rfl;cases hdst;go_simp)|((with_reducible refine zW fun K1 K3 h1 h3=>?_);go_simp)|((first|refine h1 ?_|refine h3 ?_);clear h1 h3 K1 K3)|((first|refine zX (fun hb=>h1 ?_) (fun hb=>h3 ?_)|refine zX (fun hb=>h3 ?_) (fun hb=>h1 ?_))<;>(clear h1 h3 K1 K3;(try have hb2:=yC hb);(try have hb2:=yD hb);(try have hb2:=yE hb);(try have hb2:=yF hb);(try have hb2:=yG hb)))|(refine fun (K2:_→AHeap→Prop) hK2=>?_)|((with_reducible refine zY ?_ ?_);decide)|((with_reducible first|refine zZ ?_ (fun K hK=>?_)|refine yA ?_ (fun K hK=>?_));(focus go_simp;done);go_simp;refine hK _ _ ?_;clear hK K)|(go_simp;(try go_bits);(try first |((with_reducible show CallS _ _ _ _ _ _);first|(refine CallS.mono (HB.out _ _) ?_; rintro _ _ ⟨rfl, h9⟩; rw [h9]; clear h9)|(refine CallS.mono (pdq_o HO.out HL.out hn2) ?_; rintro _ H1 ⟨rfl, h1, h2, h3⟩; (have HS := Lib.hid (show Sorts H bs (.slice a n n) L (.tuple #[]) H1 from ⟨rfl, h1, h2, h3⟩)); clear h1 h2 h3)));refine hK2 _ _ ?_;clear hK2 K2))
  exact HS.out
end Go.Proofs.Try
namespace Go.Proofs.Try
open Go Go.Am Go.RowKit
set_option maxRecDepth 100000


def spanVal (x : Int × Int) : Value := .agg #[.int .i64 x.1, .int .i64 x.2]
@[go_sem] theorem spanVal_mk {a b : Int} : spanVal (a, b) = .agg #[.int .i64 a, .int .i64 b] := by rw [spanVal]
def spanIs (v : Value) : Prop := ∃ x, v = spanVal x ∧ -1 ≤ x.2 ∧ x.2 ≤ 730
def offS (l : List Str) (w : Int) : List (Int × Int) := (l.filter fun x => x.has.offers w).map fun x => (x.lo, x.hi)
theorem offS_app (l : List Str) (x : Str) (w : Int) : offS (l ++ [x]) w = offS l w ++ if x.has.offers w = true then [(x.lo, x.hi)] else [] := by
  unfold offS
  rw [List.filter_append, List.map_append]
  congr 1
  by_cases h : x.has.offers w = true <;> simp [h]
theorem offS_le (l : List Str) (w : Int) : (offS l w).length ≤ l.length := by
  unfold offS; rw [List.length_map]; exact List.length_filter_le ..

def CopyAt (Hb H : AHeap) (p q r : Nat) (v : Value) (s : Sheet) (line word : Int) : Prop := ∃ wv av, v = .func (.func 106) #[] #[.pointer (some ⟨p, 0, none⟩), .pointer (some ⟨q, 0, none⟩), .pointer (some ⟨r, 0, none⟩)] ∧ p < H.n ∧ q < H.n ∧ r < H.n ∧ H.get p = .row [wv, av] 25 ∧ H.get q = .row [.int .i64 line] 3 ∧ H.get r = .row [.int .i64 word] 3 ∧ Ints Hb wv s.words ∧ Alts Hb av s.alts ∧ Ext Hb H

theorem copyable_e {loops : List (Nat × LInfo)} {Hb H : AHeap} {sv : Value} {s : Sheet} {line word : Int} (hv : SheetV Hb sv s) (hx : Ext Hb H) : CallS Try.prog loops 64 [sv, .int .i64 line, .int .i64 word] H fun v H' => CopyAt Hb H' H.n (H.n + 1) (H.n + 2) v s line word ∧ Ext H H' := by
  obtain ⟨wv, av, rfl, hw, ha⟩ := hv
  obtain ⟨hwl, wa, wc, rfl⟩ := hw.slice
  obtain ⟨hal, aa, ac, rfl⟩ := ha.slice
  have HW := Lib.hid hw
  have HA := Lib.hid ha
  have HX := Lib.hid hx
  clear hw ha hx
  refine CallS.enter' Try.func64 rfl Try.ntmps64 (by simp) fun f hd hf => ?_
  have f0 := hf 0
  have f1 := hf 1
  have f2 := hf 2
  simp at f0 f1 f2
  clear hf
  repeat' (first|(with_reducible first|refine zA ?_|refine zB fun K hK=>?_|refine zC fun K2 hK2=>?_|refine zD ?_|refine zE ?_|refine zF ?_|refine zG ?_|refine zH ?_|refine zI ?_|refine zM ?_|refine zN ?_|refine zO ?_|refine zP ?_|refine zQ ?_|refine zR ?_)|((with_reducible refine zU (hK _ _ ?_));clear hK K)|((with_reducible refine zV ?_ ?_ fun K1 K3 d hdst h1 h3=>?_);rfl;exact yB rfl;cases hdst;go_simp)|((with_reducible refine zW fun K1 K3 h1 h3=>?_);go_simp)|((first|refine h1 ?_|refine h3 ?_);clear h1 h3 K1 K3)|((first|refine zX (fun hb=>h1 ?_) (fun hb=>h3 ?_)|refine zX (fun hb=>h3 ?_) (fun hb=>h1 ?_))<;>(clear h1 h3 K1 K3;(try have hb2:=yC hb);(try have hb2:=yD hb);(try have hb2:=yE hb);(try have hb2:=yF hb);(try have hb2:=yG hb)))|(refine fun (K2:_→AHeap→Prop) hK2=>?_)|((with_reducible refine zY ?_ ?_);decide)|((with_reducible first|refine zZ ?_ (fun K hK=>?_)|refine yA ?_ (fun K hK=>?_));(focus go_simp;done);go_simp;refine hK _ _ ?_;clear hK K)|(go_simp;(try go_bits);refine hK2 _ _ ?_;clear hK2 K2))
  refine ⟨⟨_, _, rfl, by rw [AHeap.n_push, AHeap.n_push, AHeap.n_push]; omega, by rw [AHeap.n_push, AHeap.n_push, AHeap.n_push]; omega, by rw [AHeap.n_push, AHeap.n_push, AHeap.n_push]; omega, ?_, ?_, ?_, HW.out, HA.out, ((HX.out.push' _).push' _).push' _⟩, (((Ext.refl _).push' _).push' _).push' _⟩
  · rw [AHeap.get_push_old (by rw [AHeap.n_push, AHeap.n_push]; omega), AHeap.get_push_old (by rw [AHeap.n_push]; omega), AHeap.get_push_new]
  · rw [AHeap.get_push_old (by rw [AHeap.n_push, AHeap.n_push]; omega), ← AHeap.n_push H, AHeap.get_push_new]
  · rw [show H.n + 2 = ((H.push (AObj.row [Value.slice wa s.words.length wc, Value.slice aa s.alts.length ac] 25)).push (AObj.row [Value.int IntKind.i64 line] 3)).n from rfl, AHeap.get_push_new]

def CopyS (S : List Value → (Nat → Prop) → AHeap → Prop) (Rd : Nat → Prop) (L0 : List Value) (l l1 r c : Nat) (word : Int) (L1 : List Value) (D1 : Nat → Prop) (H : AHeap) : Prop := ∃ (D0 : Nat → Prop) (ys : List Str), L1 = ys.map Str.val ∧ S (L0 ++ (offS ys word).map spanVal) D0 H ∧ H.get l1 = .loop .ready none ∧ l1 < H.n ∧ ¬ D0 l1 ∧ ¬ Rd l1 ∧ H.get r = .row [.int .i64 word] 3 ∧ r < H.n ∧ ¬ D0 r ∧ H.get c = .row [.func (.yield l) #[] #[]] 157 ∧ c < H.n ∧ ¬ D0 c ∧ ∀ i, D1 i ↔ i = l1 ∨ D0 i

theorem copyGives_e {loops ls : List (Nat × LInfo)} {H H0 : AHeap} {s : Sheet} {line word : Int} {l room : Nat} {Rd : Nat → Prop} {S : List Value → (Nat → Prop) → AHeap → Prop} {L : List Value} {D : Nat → Prop} {p q r : Nat} {wv av : Value}
    (hfl : LExt ls loops) (hg : Gen Try.prog l ls Rd room spanIs S) (hS : S L D H) (hp : p < H.n) (hq : q < H.n) (hr : r < H.n) (hgp : H.get p = .row [wv, av] 25) (hgq : H.get q = .row [.int .i64 line] 3) (hgr : H.get r = .row [.int .i64 word] 3) (hw : Ints H0 wv s.words) (ha : Alts H0 av s.alts) (hx : Ext H0 H) (hb : ∀ i, D i → H0.n ≤ i) (hrD : ¬ D r)
    (hl0 : 0 ≤ line) (hl1 : line < s.words.length) (hso : sorted 0 s.alts) (hro : L.length + (strs s line).length ≤ room) :
    CallS Try.prog loops 106 [.func (.yield l) #[] #[], .pointer (some ⟨p, 0, none⟩), .pointer (some ⟨q, 0, none⟩), .pointer (some ⟨r, 0, none⟩)] H fun _ H' => ∃ D', S (L ++ (offS (strs s line) word).map spanVal) D' H' ∧ Step D H D' H' := by
  have HV : Hid (SheetV H0 (.agg #[wv, av]) s) := Lib.hid ⟨wv, av, rfl, hw, ha⟩
  obtain ⟨hwl, wa, wc, rfl⟩ := hw.slice
  obtain ⟨hal, aa, ac, rfl⟩ := ha.slice
  have hcp : cellsAt H p 0 2 = some [.slice wa s.words.length wc, .slice aa s.alts.length ac] := by simp [cellsAt, hgp]
  have hcq : cellAt H q 0 = some (.int .i64 line) := by simp [cellAt, hgq]
  have HFL := Lib.hid hfl
  have HG := Lib.hid hg
  have HS := Lib.hid hS
  have HGR := Lib.hid hgr
  have HX := Lib.hid hx
  have HB := Lib.hid hb
  have HRD := Lib.hid hrD
  have HSO := Lib.hid hso
  have HRO := Lib.hid hro
  clear hfl hg hS hgp hgq hgr hw ha hx hb hrD hso hro
  refine CallS.enter' Try.func106 rfl Try.ntmps106 (by simp) fun f hd hf => ?_
  have f0 := hf 0
  have f1 := hf 1
  have f2 := hf 2
  have f3 := hf 3
  simp at f0 f1 f2 f3
  clear hf
  repeat' (first|(with_reducible first|refine zA ?_|refine zB fun K hK=>?_|refine zC fun K2 hK2=>?_|refine zD ?_|refine zE ?_|refine zF ?_|refine zG ?_|refine zH ?_|refine zI ?_|refine zM ?_|refine zN ?_|refine zO ?_|refine zP ?_|refine zQ ?_|refine zR ?_)|((with_reducible refine zU (hK _ _ ?_));clear hK K)|((with_reducible refine zV ?_ ?_ fun K1 K3 d hdst h1 h3=>?_);rfl;exact yB rfl;cases hdst;go_simp)|((with_reducible refine zW fun K1 K3 h1 h3=>?_);go_simp)|((first|refine h1 ?_|refine h3 ?_);clear h1 h3 K1 K3)|((first|refine zX (fun hb=>h1 ?_) (fun hb=>h3 ?_)|refine zX (fun hb=>h3 ?_) (fun hb=>h1 ?_))<;>(clear h1 h3 K1 K3;(try have hb2:=yC hb);(try have hb2:=yD hb);(try have hb2:=yE hb);(try have hb2:=yF hb);(try have hb2:=yG hb)))|(refine fun (K2:_→AHeap→Prop) hK2=>?_)|((with_reducible refine zY ?_ ?_);decide)|((with_reducible first|refine zZ ?_ (fun K hK=>?_)|refine yA ?_ (fun K hK=>?_));(focus go_simp;done);go_simp;refine hK _ _ ?_;clear hK K)|(go_simp;(try go_bits);(try first | ((with_reducible show CallS _ _ _ _ _ _);refine CallS.mono (stretches_e (s := s) HV.out (HX.out.push' _)) ?_; rintro qv H2 ⟨hq2, hx2⟩; (have HQ := Lib.hid hq2); (have HX2 := Lib.hid hx2); clear hq2 hx2; go_simp));refine hK2 _ _ ?_;clear hK2 K2))
  have hcn : H.n < H2.n := by have := HX2.out.n; rw [AHeap.n_push] at this; omega
  have hc2 : H2.get H.n = .row [.func (.yield l) #[] #[]] 157 := by rw [HX2.out.get H.n (by rw [AHeap.n_push]; omega), AHeap.get_push_new]
  have hX02 : Ext H H2 := (Ext.push _).trans HX2.out
  have HQG := Lib.hid (HQ.out.gives hl0 hl1 HSO.out)
  have HLN := Lib.hid fun l2 x2 hf2 => HG.out.old (l2 := l2) (x := x2) HS.out hf2
  have hll : l < H.n := HG.out.lt HS.out (HG.out.own HS.out)
  refine CodeS.range_gives (ls := ls) (H0 := H2) (Rd := fun i => Rd i ∨ i = r ∨ i = H.n) (room := (strs s line).length) (S := CopyS S Rd L l (H2.n + 1) r H.n word) (D := fun i => i = H2.n + 1 ∨ D i) rfl HFL.out HQG.out (by go_simp) (Ext.refl _) (Nat.le_refl _) ?gen ?hS ?hRD ?hnd ?hend
  case hnd =>
    rintro (h | h)
    · omega
    · have := HG.out.lt HS.out h; omega
  case hRD =>
    intro i hi hD
    have hq2 : (H.push (AObj.row [Value.func (Fn.yield l) #[] #[]] 157)).n + 1 < H2.n := by obtain ⟨_, _, _, _, h, _⟩ := HQ.out; exact h
    rw [AHeap.n_push] at hi hq2
    have hXn := HX.out.n
    rcases hD with rfl | hD
    · rcases hi with h | h | h <;> omega
    · have h3 := HG.out.lt HS.out hD
      have h4 := HB.out i hD
      rcases hi with h | h | h <;> omega
  case hS =>
    refine ⟨D, [], rfl, ?_, ?_, ?_, ?_, ?_, ?_, ?_, HRD.out, ?_, ?_, ?_, fun i => Iff.rfl⟩
    · simpa [offS] using HG.out.keepx HS.out ((hX02.push' _).push' _)
    · rw [show H2.n + 1 = (H2.push (AObj.defs false)).n from rfl, AHeap.get_push_new]
    · rw [AHeap.n_push, AHeap.n_push]; omega
    · exact HG.out.noD HS.out (by omega)
    · exact HG.out.noRd HS.out (by omega)
    · rw [AHeap.get_push_old (by rw [AHeap.n_push]; omega), AHeap.get_push_old (by omega), hX02.get r hr]; exact HGR.out
    · rw [AHeap.n_push, AHeap.n_push]; omega
    · rw [AHeap.get_push_old (by rw [AHeap.n_push]; omega), AHeap.get_push_old hcn]; exact hc2
    · rw [AHeap.n_push, AHeap.n_push]; omega
    · exact HG.out.noD HS.out (Nat.le_refl _)
  case hend =>
    rintro f2 D' H' ht hd2 ⟨D0, ys, h1, h2, h3, h4, h5, h6, h7, h8, h9, h10, h11, h12, h13⟩ hst hdf
    have hys : ys = strs s line := strs_inj _ _ h1
    subst hys
    have hd3 : f2.defers = [{ target := .collected H2.n, args := #[] }] := by rw [hd2]; simp [AF.defers_upd, hd]
    have hD0 : ∀ i, D0 i → D i ∨ H2.n + 2 ≤ i := by
      intro i hi
      rcases hst.new i ((h13 i).2 (.inr hi)) with (rfl | h) | h
      · exact absurd hi h5
      · exact .inl h
      · rw [AHeap.n_push, AHeap.n_push] at h; exact .inr (by omega)
    have hdn : ¬ D0 H2.n := fun h => (hD0 _ h).elim (fun h0 => by have := HG.out.lt HS.out h0; omega) (by omega)
    have hdf2 : (H'.upd (H2.n + 1) (.loop .exhausted none)).get H2.n = .defs false := by rw [AHeap.get_upd_ne (by omega)]; exact hdf
    refine Post.block_normal (Post.body_markn hd3 hdf2 fun K hK => ?_)
    go_simp
    refine hK _ _ ⟨D0, HG.out.upd (HG.out.upd h2 h5 h6 _) hdn (HG.out.noRd HS.out (by omega)) _, ⟨?_, fun i hi hD => ?_, fun i hi => ?_⟩⟩
    · rw [AHeap.n_upd, AHeap.n_upd]; have := hst.n; rw [AHeap.n_push, AHeap.n_push] at this; omega
    · rw [AHeap.get_upd_ne (by omega), AHeap.get_upd_ne (by omega), hst.get i (by rw [AHeap.n_push, AHeap.n_push]; omega) (fun h => h.elim (fun e => by omega) hD), AHeap.get_push_old (by rw [AHeap.n_push]; omega), AHeap.get_push_old (by omega)]
      exact hX02.get i hi
    · rcases hD0 i hi with h | h
      · exact .inl h
      · exact .inr (by omega)
  case gen =>
    refine ⟨?_, ?_, ?_, ?_, ?_, ?_, ?_⟩
    · rintro L1 D1 H' ⟨D0, ys, h1, h2, h3, h4, h5, h6, h7, h8, h9, h10, h11, h12, h13⟩
      exact (h13 _).2 (.inl rfl)
    · rintro L1 D1 H' i ⟨D0, ys, h1, h2, h3, h4, h5, h6, h7, h8, h9, h10, h11, h12, h13⟩ hi
      rcases (h13 i).1 hi with rfl | h
      · exact h4
      · exact HG.out.lt h2 h
    · rintro L1 D1 H' i ⟨D0, ys, h1, h2, h3, h4, h5, h6, h7, h8, h9, h10, h11, h12, h13⟩ hi
      rcases hi with h | rfl | rfl
      · exact HG.out.rd h2 h
      · exact h8
      · exact h11
    · rintro L1 D1 H' ⟨D0, ys, h1, h2, h3, h4, h5, h6, h7, h8, h9, h10, h11, h12, h13⟩
      exact h3
    · rintro L1 D1 H' l2 x2 ⟨D0, ys, h1, h2, h3, h4, h5, h6, h7, h8, h9, h10, h11, h12, h13⟩ hf2
      simp only [findLoop] at hf2
      split at hf2
      · rename_i he; subst he; exact h4
      · exact HG.out.old h2 hf2
    · rintro L1 D1 H' H3 ⟨D0, ys, h1, h2, h3, h4, h5, h6, h7, h8, h9, h10, h11, h12, h13⟩ hn hk
      exact ⟨D0, ys, h1, HG.out.keep h2 hn fun i hi => hk i (hi.elim (fun h => .inl ((h13 i).2 (.inr h))) fun h => .inr (.inl h)), (hk _ (.inl ((h13 _).2 (.inl rfl)))).trans h3, by omega, h5, h6, (hk _ (.inr (.inr (.inl rfl)))).trans h7, by omega, h9, (hk _ (.inr (.inr (.inr rfl)))).trans h10, by omega, h12, h13⟩
    rintro loops2 L1 D1 H' _ hle hroom ⟨x, rfl, hb1, hb2⟩ ⟨D0, ys, rfl, h2, h3, h4, h5, h6, h7, h8, h9, h10, h11, h12, h13⟩
    have hfl1 := hle _ _ findLoop_head
    have hle0 : LExt ls loops2 := hle.drop fun l2 x2 hf2 e => by have := HLN.out l2 x2 hf2; omega
    refine RoundS.enter hfl1 rfl (by simp) h3 fun f' hd' hf' => ?_
    have g9 := hf' 9
    have g3 := hf' 3
    have g4 := hf' 4
    simp [paramsAt, AF.tmp_mk, AF.tmp_upd, f3] at g9 g3 g4
    dsimp only
    have hlen2 : (L ++ (offS ys word).map spanVal).length < room := by
      have e1 := offS_le ys word
      have e2 := HRO.out
      simp only [List.length_append, List.length_map] at hroom ⊢
      omega
    have HLE := Lib.hid hle0
    have HLEN := Lib.hid hlen2
    have HDI := Lib.hid h13
    have HH2 := Lib.hid h2
    have HN1 := Lib.hid h5
    have HN2 := Lib.hid h6
    have HN9 := Lib.hid h9
    have HN12 := Lib.hid h12
    have HIB := Lib.hid (And.intro hb1 hb2)
    clear hb1 hb2
    obtain ⟨lo, hi, ct, cm, cl⟩ := x
    simp only [Str.val] at g9
    clear h13 hfl1 hf' hroom hle hle0 hlen2 h2 h5 h6 h9 h12
    repeat' (first|(with_reducible first|refine zA ?_|refine zB fun K hK=>?_|refine zC fun K2 hK2=>?_|refine zD ?_|refine zE ?_|refine zF ?_|refine zG ?_|refine zH ?_|refine zI ?_|refine zM ?_|refine zN ?_|refine zO ?_|refine zP ?_|refine zQ ?_|refine zR ?_)|((with_reducible refine zU (hK _ _ ?_));clear hK K)|((with_reducible refine zV ?_ ?_ fun K1 K3 d hdst h1 h3=>?_);rfl;exact yB rfl;cases hdst;go_simp)|((with_reducible refine zW fun K1 K3 h1 h3=>?_);go_simp)|((first|refine h1 ?_|refine h3 ?_);clear h1 h3 K1 K3)|((first|refine zX (fun hb=>h1 ?_) (fun hb=>h3 ?_)|refine zX (fun hb=>h3 ?_) (fun hb=>h1 ?_))<;>(clear h1 h3 K1 K3;(try have hb2:=yC hb);(try have hb2:=yD hb);(try have hb2:=yE hb);(try have hb2:=yF hb);(try have hb2:=yG hb)))|(refine fun (K2:_→AHeap→Prop) hK2=>?_)|((with_reducible refine zY ?_ ?_);decide)|((with_reducible first|refine zZ ?_ (fun K hK=>?_)|refine yA ?_ (fun K hK=>?_));(focus go_simp;done);go_simp;refine hK _ _ ?_;clear hK K)|(go_simp;(try go_bits);refine hK2 _ _ ?_;clear hK2 K2))
    refine ⟨?_, ?_⟩
    · rw [AHeap.get_push_old h4]; exact h3
    obtain ⟨G, hG⟩ : ∃ G, G = (H'.push (AObj.row [Value.int IntKind.i64 lo, Value.int IntKind.i64 hi, Value.int IntKind.i64 ct, Value.int IntKind.i64 cm, Value.bool cl] 149)).upd (H2.n + 1) (.loop .busy none) := ⟨_, rfl⟩
    rw [← hG]
    have hGn : G.n = H'.n + 1 := by rw [hG, AHeap.n_upd, AHeap.n_push]
    have hGk : ∀ i, i < H'.n → i ≠ H2.n + 1 → G.get i = H'.get i := by
      intro i hi hne
      rw [hG, AHeap.get_upd_ne hne, AHeap.get_push_old hi]
    have hGl : G.get (H2.n + 1) = .loop .busy none := by rw [hG]; exact AHeap.get_upd_same
    have hGi : G.get H'.n = .row [Value.int IntKind.i64 lo, Value.int IntKind.i64 hi, Value.int IntKind.i64 ct, Value.int IntKind.i64 cm, Value.bool cl] 149 := by
      rw [hG, AHeap.get_upd_ne (by omega), AHeap.get_push_new]
    have hi1 : cellsAt G H'.n 2 3 = some [Value.int IntKind.i64 ct, Value.int IntKind.i64 cm, Value.bool cl] := by simp [cellsAt, hGi]
    have hi2 : cellsAt G H'.n 0 2 = some [Value.int IntKind.i64 lo, Value.int IntKind.i64 hi] := by simp [cellsAt, hGi]
    have hGr : G.get r = .row [.int .i64 word] 3 := by rw [hGk r h8 (by omega)]; exact h7
    have hGc : G.get H.n = .row [.func (.yield l) #[] #[]] 157 := by rw [hGk _ h11 (by omega)]; exact h10
    have hir : cellAt G r 0 = some (.int .i64 word) := by simp [cellAt, hGr]
    have hic : cellAt G H.n 0 = some (.func (.yield l) #[] #[]) := by simp [cellAt, hGc]
    have HSG : Hid (S (L ++ (offS ys word).map spanVal) D0 G) := Lib.hid (HG.out.keep HH2.out (by omega) fun i hi => hGk i (hi.elim (fun h => HG.out.lt HH2.out h) fun h => HG.out.rd HH2.out h) (fun e => hi.elim (fun h => HN1.out (e ▸ h)) fun h => HN2.out (e ▸ h)))
    have HGK := Lib.hid hGk
    have HGN := Lib.hid hGn
    have HGL := Lib.hid hGl
    have HGR2 := Lib.hid hGr
    have HGC2 := Lib.hid hGc
    have hlt3 : H'.n < G.n := by omega
    clear hGk hG hGl hGn hGi hGr hGc
    generalize hof : Has.offers ⟨ct, cm, cl⟩ word = ofb
    have HOF := Lib.hid hof
    have HOC := Lib.hid fun (loops : List (Nat × LInfo)) (H : AHeap) => offers_s (loops := loops) (H := H) (c := ⟨ct, cm, cl⟩) (w := word)
    rw [hof] at HOC
    clear hof
    repeat' (first|(with_reducible first|refine zA ?_|refine zB fun K hK=>?_|refine zC fun K2 hK2=>?_|refine zD ?_|refine zE ?_|refine zF ?_|refine zG ?_|refine zH ?_|refine zI ?_|refine zM ?_|refine zN ?_|refine zO ?_|refine zP ?_|refine zQ ?_|refine zR ?_)|((with_reducible refine zU (hK _ _ ?_));clear hK K)|((with_reducible refine zV ?_ ?_ fun K1 K3 d hdst h1 h3=>?_);rfl;exact yB rfl;cases hdst;go_simp)|((with_reducible refine zW fun K1 K3 h1 h3=>?_);go_simp)|((first|refine h1 ?_|refine h3 ?_);clear h1 h3 K1 K3)|((first|refine zX (fun hb=>h1 ?_) (fun hb=>h3 ?_)|refine zX (fun hb=>h3 ?_) (fun hb=>h1 ?_))<;>(clear h1 h3 K1 K3;(try have hb2:=yC hb);(try have hb2:=yD hb);(try have hb2:=yE hb);(try have hb2:=yF hb);(try have hb2:=yG hb)))|(refine fun (K2:_→AHeap→Prop) hK2=>?_)|((with_reducible refine zY ?_ ?_);decide)|((with_reducible first|refine zZ ?_ (fun K hK=>?_)|refine yA ?_ (fun K hK=>?_));(focus go_simp;done);go_simp;refine hK _ _ ?_;clear hK K)|(go_simp;(try go_bits);(try first | ((with_reducible show CallS _ _ _ _ _ _);refine CallS.mono (HOC.out _ _) ?_; rintro _ _ ⟨rfl, rfl⟩; go_simp) | ((refine RoundS.mono (HG.out.round (v := spanVal (lo, hi)) HLE.out HLEN.out ⟨_, rfl, HIB.out⟩ HSG.out) ?_); rintro _ G2 ⟨rfl, D2, hS2, hst2⟩; (have HS2 := Lib.hid hS2); (have HST2 := Lib.hid hst2); clear hS2 hst2; go_simp));refine hK2 _ _ ?_;clear hK2 K2))
    · have hD2 : ¬ D2 (H2.n + 1) := fun h => (HST2.out.new _ h).elim HN1.out (by omega)
      have hl2 : G2.get (H2.n + 1) = .loop .busy none := (HST2.out.get _ (by omega) HN1.out).trans HGL.out
      have hn2 := HST2.out.n
      refine ⟨⟨.busy, none, hl2⟩, rfl, fun i => i = H2.n + 1 ∨ D2 i, ⟨D2, ys ++ [⟨lo, hi, ⟨ct, cm, cl⟩⟩], by simp, ?_, AHeap.get_upd_same, by rw [AHeap.n_upd]; omega, hD2, HN2.out, ?_, by rw [AHeap.n_upd]; omega, ?_, ?_, by rw [AHeap.n_upd]; omega, ?_, fun i => Iff.rfl⟩, ?_⟩
      · rw [offS_app]
        simp only [HOF.out, hb, if_true, List.map_append, List.map_cons, List.map_nil, ← List.append_assoc]
        exact HG.out.upd HS2.out hD2 HN2.out _
      · rw [AHeap.get_upd_ne (by omega), HST2.out.get r (by omega) HN9.out]; exact HGR2.out
      · exact fun h => (HST2.out.new _ h).elim HN9.out (by omega)
      · rw [AHeap.get_upd_ne (by omega), HST2.out.get _ (by omega) HN12.out]; exact HGC2.out
      · exact fun h => (HST2.out.new _ h).elim HN12.out (by omega)
      · refine ⟨by rw [AHeap.n_upd]; omega, fun i hi hd => ?_, fun i hd => ?_⟩
        · have hd1 : i ≠ H2.n + 1 := fun e => hd ((HDI.out i).2 (.inl e))
          have hd2 : ¬ D0 i := fun e => hd ((HDI.out i).2 (.inr e))
          rw [AHeap.get_upd_ne hd1, HST2.out.get i (by omega) hd2]
          exact HGK.out i hi hd1
        · rcases hd with h | h
          · exact .inl ((HDI.out i).2 (.inl h))
          · rcases HST2.out.new i h with h | h
            · exact .inl ((HDI.out i).2 (.inr h))
            · exact .inr (by omega)
    · refine ⟨⟨.busy, none, HGL.out⟩, rfl, fun i => i = H2.n + 1 ∨ D0 i, ⟨D0, ys ++ [⟨lo, hi, ⟨ct, cm, cl⟩⟩], by simp, ?_, AHeap.get_upd_same, by rw [AHeap.n_upd]; omega, HN1.out, HN2.out, ?_, by rw [AHeap.n_upd]; omega, HN9.out, ?_, by rw [AHeap.n_upd]; omega, HN12.out, fun i => Iff.rfl⟩, ?_⟩
      · rw [offS_app]
        simp only [HOF.out, hb, Bool.false_eq_true, if_false, List.append_nil]
        exact HG.out.upd HSG.out HN1.out HN2.out _
      · rw [AHeap.get_upd_ne (by omega)]; exact HGR2.out
      · rw [AHeap.get_upd_ne (by omega)]; exact HGC2.out
      · refine ⟨by rw [AHeap.n_upd]; omega, fun i hi hd => ?_, fun i hd => ?_⟩
        · have hd1 : i ≠ H2.n + 1 := fun e => hd ((HDI.out i).2 (.inl e))
          rw [AHeap.get_upd_ne hd1]
          exact HGK.out i hi hd1
        · rcases hd with h | h
          · exact .inl ((HDI.out i).2 (.inl h))
          · exact .inl ((HDI.out i).2 (.inr h))

theorem CopyAt.gives {Hb H : AHeap} {p q r : Nat} {v : Value} {s : Sheet} {line word : Int} (h : CopyAt Hb H p q r v s line word) (hl0 : 0 ≤ line) (hl1 : line < s.words.length) (hso : sorted 0 s.alts) : Gives Try.prog H (fun i => i < Hb.n ∨ i = p ∨ i = q ∨ i = r) (strs s line).length v spanIs ((offS (strs s line) word).map spanVal) := by
  obtain ⟨wv, av, rfl, h2, h3, h3r, h4, h5, h5r, h6, h7, h8⟩ := h
  refine ⟨106, _, rfl, ok106, ?_, fun loops ls H' l Rd room S L D hf hg hS hn hR hr => ?_⟩
  · rintro i (h | rfl | rfl | rfl)
    · exact Nat.lt_of_lt_of_le h h8.n
    · exact h2
    · exact h3
    · exact h3r
  · refine copyGives_e (H0 := Hb) hf hg hS (Nat.lt_of_lt_of_le h2 hn) (Nat.lt_of_lt_of_le h3 hn) (Nat.lt_of_lt_of_le h3r hn) ((hR p (.inr (.inl rfl))).1.trans h4) ((hR q (.inr (.inr (.inl rfl)))).1.trans h5) ((hR r (.inr (.inr (.inr rfl)))).1.trans h5r) h6 h7 ⟨Nat.le_trans h8.n hn, fun i hi => (hR i (.inl hi)).1.trans (h8.get i hi)⟩ (fun i hi => ?_) (hR r (.inr (.inr (.inr rfl)))).2 hl0 hl1 hso hr
    rcases Nat.lt_or_ge i Hb.n with h0 | h0
    · exact absurd hi (hR i (.inl h0)).2
    · exact h0
end Go.Proofs.Try
