/- Contracts of functions, walked. -/
import Derived.Test.YtgddlpegljkgpaaStSE
import Derived.Test.YtgddlpegljkgpaaAwB
import Derived.Test.YtgddlpegljkgpaaStTA
set_option linter.all false
namespace Go.Proofs.Try
open Go Go.Am Go.RowKit
set_option maxRecDepth 100000

/-! The reference: copies; what a line has. -/

def validA (s : Sheet) (c : Copy) : Bool := decide (c.words.length = s.words.length) && (win 0 730 c.beg && (win 0 730 c.fin && (decide (c.beg ≤ c.fin) && win 1 40 c.per)))
theorem copyOk_eq (s : Sheet) (c : Copy) : copyOk s c = (validA s c && wordsOk 0 c.words) := by
  rw [Bool.eq_iff_iff]
  simp only [copyOk, validA, Bool.and_eq_true, decide_eq_true_eq, win_iff]
  constructor
  · rintro ⟨h1, h2, h3, h4, h5⟩; exact ⟨⟨h1, by omega, by omega, by omega, h5⟩, h2⟩
  · rintro ⟨⟨h1, h2, h3, h4, h5⟩, h6⟩; exact ⟨h1, h6, by omega, by omega, h5⟩

theorem valid_s {loops : List (Nat × LInfo)} {H : AHeap} {sv cv : Value} {s : Sheet} {c : Copy} (hs : SheetV H sv s) (hc : CopyV H cv c) : CallS Try.prog loops 70 [sv, cv] H fun r H' => r = .bool (copyOk s c) ∧ H' = H := by
  refine CallS.forget (R := fun v => v = .bool (copyOk s c)) (by rintro v rfl; rfl) ?_
  obtain ⟨wv, av, rfl, hw, ha⟩ := hs
  obtain ⟨hwl, wa, wc, rfl⟩ := hw.slice
  obtain ⟨hal, aa, ac, rfl⟩ := ha.slice
  obtain ⟨cv, rfl, hcw⟩ := hc
  obtain ⟨hcl, ca, cc, rfl⟩ := hcw.slice
  have HCW := Lib.hid hcw
  clear hw ha hcw
  rw [copyOk_eq]
  generalize he : (validA s c && wordsOk 0 c.words) = er
  have HE := Lib.hid he
  clear he
  refine CallS.enter' Try.func70 rfl Try.ntmps70 (by simp) fun f hd hf => ?_
  have f0 := hf 0
  have f1 := hf 1
  simp at f0 f1
  clear hf
  repeat' (first|(with_reducible first|refine zA ?_|refine zB fun K hK=>?_|refine zC fun K2 hK2=>?_|refine zD ?_|refine zE ?_|refine zF ?_|refine zG ?_|refine zH ?_|refine zI ?_|refine zJ ?_|refine zK ?_|refine zL ?_|refine zM ?_|refine zN ?_|refine zO ?_|refine zP ?_|refine zQ ?_|refine zR ?_|refine zS ?_|refine zT ?_)|((with_reducible refine zU (hK _ _ ?_));clear hK K)|((with_reducible refine zV ?_ ?_ fun K1 K3 d hdst h1 h3=>?_);rfl;exact yB rfl;cases hdst;go_simp)|((with_reducible refine zW fun K1 K3 h1 h3=>?_);go_simp)|((first|refine h1 ?_|refine h3 ?_);clear h1 h3 K1 K3)|((first|refine zX (fun hb=>h1 ?_) (fun hb=>h3 ?_)|refine zX (fun hb=>h3 ?_) (fun hb=>h1 ?_))<;>(clear h1 h3 K1 K3;(try have hb2:=yC hb);(try have hb2:=yD hb);(try have hb2:=yE hb);(try have hb2:=yF hb);(try have hb2:=yG hb)))|(refine fun (K2:_→AHeap→Prop) hK2=>?_)|((with_reducible refine zY ?_ ?_);decide)|((with_reducible first|refine zZ ?_ (fun K hK=>?_)|refine yA ?_ (fun K hK=>?_));(focus go_simp;done);go_simp;refine hK _ _ ?_;clear hK K)|((with_reducible refine yH mixed rfl ?_ 20 fun K0 hK0=>?_);kernel_rfl)|(with_reducible first|exact yI|exact yJ|refine yK ?_|refine yL ?_|refine yM ?_)|((with_reducible first|refine yN ?_ ?_|refine yO ?_ ?_|refine yP ?_ ?_);rfl)|((with_reducible refine yQ ?_ ?_);rfl;refine hK0 _ _ ?_;clear hK0 K0)|((with_reducible refine yR ?_ ?_ ?_ ?_);rfl;rfl;rfl)|((with_reducible refine yS ?_ ?_ ?_ fun K2 hK2=>?_);rfl;rfl;exact yB rfl)|((with_reducible first|refine yT ?_ ?_ ?_ ?_ fun K1 K3 d hdst h1 h3=>?_|refine yU ?_ ?_ ?_ ?_ fun K1 K3 d hdst h1 h3=>?_);rfl;rfl;rfl;exact yB rfl;cases hdst;go_simp)|((with_reducible refine yV ?_ ?_ (fun K2 hK2=>?_) ?_);rfl;exact yB rfl)|((with_reducible refine yW ?_ ?_ ?_ ?_ (fun K2 hK2=>?_) ?_);rfl;exact yB rfl;rfl;(focus go_simp;done))|((with_reducible refine yX ?_ ?_ ?_ (fun K2 hK2=>?_) ?_);rfl;rfl;exact yB rfl)|((with_reducible refine yY ?_ ?_ (fun K2 hK2=>?_) ?_);rfl;rfl)|((with_reducible refine yZ ?_ ?_);(first|rfl|(dsimp only;decide +kernel)))|((with_reducible refine xA ?_ ?_);(focus go_simp;done))|(go_simp;(try go_bits);(try first | ((with_reducible show CallS _ _ _ _ _ _);refine CallS.mono in_s ?_; rintro _ _ ⟨rfl, rfl⟩) | ((with_reducible show CallS _ _ _ _ _ _);refine CallS.mono day_s ?_; rintro _ _ ⟨rfl, rfl⟩));(first|(refine hK2 _ _ ?_ ?_<;>clear hK2 K2)|(refine hK2 _ _ ?_;clear hK2 K2))))
  all_goals (try (refine ⟨?_, ((Ext.refl _).push' _).push' _⟩; rw [← HE.out]; simp_all [validA, nat_neb]; done))
  all_goals (try (refine ⟨?_, ((Ext.refl _).push' _).push' _⟩; rw [← HE.out]; simp_all [validA, nat_neb]; omega))
  have hva : validA s c = true := by simp_all [validA, nat_neb]; try omega
  refine CodeS.loop (fun m f H' => ∃ k : Nat, k ≤ c.words.length ∧ m = c.words.length - k ∧ f.tmp 5 = .int .i64 k ∧ f.tmp 3 = .pointer (some ⟨H.n + 1, 0, none⟩) ∧ f.defers = [] ∧ Hid (wordsOk 0 (c.words.drop k) = er) ∧ H' = (H.push (.row [Value.slice wa s.words.length wc, Value.slice aa s.alts.length ac] 25)).push (.row [Value.slice ca c.words.length cc, .int .i64 c.beg, .int .i64 c.fin, .int .i64 c.per] 27)) c.words.length ?_ ?_
  · exact ⟨0, by simp, by simp, (by first|(go_simp;done)|(go_simp;go_num;done)|assumption), (by first|(go_simp;done)|(go_simp;go_num;done)|assumption), (by first|(go_simp;done)|(go_simp;go_num;done)|assumption), Lib.hid (by rw [← HE.out, hva]; simp), rfl⟩
  clear f0 f1 hd f HE hva
  rintro m f H' ⟨k, hk, rfl, f5, f3, hd, HG, rfl⟩
  by_cases hlt : k < c.words.length
  · obtain ⟨b, o, sp, rfl, hb, hx⟩ := HCW.out.at_ hlt
    have HD := Lib.hid (List.drop_eq_getElem_cons hlt)
    generalize c.words[k] = y at hx HD
    have hbn : b < H.n + 1 := by omega
    repeat' (first|(with_reducible first|refine zA ?_|refine zB fun K hK=>?_|refine zC fun K2 hK2=>?_|refine zD ?_|refine zE ?_|refine zF ?_|refine zG ?_|refine zH ?_|refine zI ?_|refine zJ ?_|refine zK ?_|refine zL ?_|refine zM ?_|refine zN ?_|refine zO ?_|refine zP ?_|refine zQ ?_|refine zR ?_|refine zS ?_|refine zT ?_)|((with_reducible refine zU (hK _ _ ?_));clear hK K)|((with_reducible refine zV ?_ ?_ fun K1 K3 d hdst h1 h3=>?_);rfl;exact yB rfl;cases hdst;go_simp)|((with_reducible refine zW fun K1 K3 h1 h3=>?_);go_simp)|((first|refine h1 ?_|refine h3 ?_);clear h1 h3 K1 K3)|((first|refine zX (fun hb=>h1 ?_) (fun hb=>h3 ?_)|refine zX (fun hb=>h3 ?_) (fun hb=>h1 ?_))<;>(clear h1 h3 K1 K3;(try have hb2:=yC hb);(try have hb2:=yD hb);(try have hb2:=yE hb);(try have hb2:=yF hb);(try have hb2:=yG hb)))|(refine fun (K2:_→AHeap→Prop) hK2=>?_)|((with_reducible refine zY ?_ ?_);decide)|((with_reducible first|refine zZ ?_ (fun K hK=>?_)|refine yA ?_ (fun K hK=>?_));(focus go_simp;done);go_simp;refine hK _ _ ?_;clear hK K)|((with_reducible refine yH mixed rfl ?_ 20 fun K0 hK0=>?_);kernel_rfl)|(with_reducible first|exact yI|exact yJ|refine yK ?_|refine yL ?_|refine yM ?_)|((with_reducible first|refine yN ?_ ?_|refine yO ?_ ?_|refine yP ?_ ?_);rfl)|((with_reducible refine yQ ?_ ?_);rfl;refine hK0 _ _ ?_;clear hK0 K0)|((with_reducible refine yR ?_ ?_ ?_ ?_);rfl;rfl;rfl)|((with_reducible refine yS ?_ ?_ ?_ fun K2 hK2=>?_);rfl;rfl;exact yB rfl)|((with_reducible first|refine yT ?_ ?_ ?_ ?_ fun K1 K3 d hdst h1 h3=>?_|refine yU ?_ ?_ ?_ ?_ fun K1 K3 d hdst h1 h3=>?_);rfl;rfl;rfl;exact yB rfl;cases hdst;go_simp)|((with_reducible refine yV ?_ ?_ (fun K2 hK2=>?_) ?_);rfl;exact yB rfl)|((with_reducible refine yW ?_ ?_ ?_ ?_ (fun K2 hK2=>?_) ?_);rfl;exact yB rfl;rfl;(focus go_simp;done))|((with_reducible refine yX ?_ ?_ ?_ (fun K2 hK2=>?_) ?_);rfl;rfl;exact yB rfl)|((with_reducible refine yY ?_ ?_ (fun K2 hK2=>?_) ?_);rfl;rfl)|((with_reducible refine yZ ?_ ?_);(first|rfl|(dsimp only;decide +kernel)))|((with_reducible refine xA ?_ ?_);(focus go_simp;done))|(go_simp;(try go_bits);(try first | ((with_reducible show CallS _ _ _ _ _ _);refine CallS.mono in_s ?_; rintro _ _ ⟨rfl, rfl⟩));(first|(refine hK2 _ _ ?_ ?_<;>clear hK2 K2)|(refine hK2 _ _ ?_;clear hK2 K2))))
    · refine ⟨?_, ((Ext.refl _).push' _).push' _⟩
      have hw : win 0 9999 y = false := by simpa using ‹(!win 0 9999 y) = true›
      rw [← HG.out, HD.out]; simp [wordsOk, hw]
    · have hw : win 0 9999 y = true := by simpa using ‹(!win 0 9999 y) = false›
      refine Post.round_normal ⟨c.words.length - (k + 1), by omega, k + 1, by omega, rfl, (by first|(go_simp;done)|(go_simp;go_num;done)|assumption), (by first|(go_simp;done)|(go_simp;go_num;done)|assumption), (by first|(go_simp;done)|(go_simp;go_num;done)|assumption), Lib.hid ?_, rfl⟩
      rw [← HG.out, HD.out]; simp [wordsOk, hw]
  · repeat' (first|(with_reducible first|refine zA ?_|refine zB fun K hK=>?_|refine zC fun K2 hK2=>?_|refine zD ?_|refine zE ?_|refine zF ?_|refine zG ?_|refine zH ?_|refine zI ?_|refine zJ ?_|refine zK ?_|refine zL ?_|refine zM ?_|refine zN ?_|refine zO ?_|refine zP ?_|refine zQ ?_|refine zR ?_|refine zS ?_|refine zT ?_)|((with_reducible refine zU (hK _ _ ?_));clear hK K)|((with_reducible refine zV ?_ ?_ fun K1 K3 d hdst h1 h3=>?_);rfl;exact yB rfl;cases hdst;go_simp)|((with_reducible refine zW fun K1 K3 h1 h3=>?_);go_simp)|((first|refine h1 ?_|refine h3 ?_);clear h1 h3 K1 K3)|((first|refine zX (fun hb=>h1 ?_) (fun hb=>h3 ?_)|refine zX (fun hb=>h3 ?_) (fun hb=>h1 ?_))<;>(clear h1 h3 K1 K3;(try have hb2:=yC hb);(try have hb2:=yD hb);(try have hb2:=yE hb);(try have hb2:=yF hb);(try have hb2:=yG hb)))|(refine fun (K2:_→AHeap→Prop) hK2=>?_)|((with_reducible refine zY ?_ ?_);decide)|((with_reducible first|refine zZ ?_ (fun K hK=>?_)|refine yA ?_ (fun K hK=>?_));(focus go_simp;done);go_simp;refine hK _ _ ?_;clear hK K)|((with_reducible refine yH mixed rfl ?_ 20 fun K0 hK0=>?_);kernel_rfl)|(with_reducible first|exact yI|exact yJ|refine yK ?_|refine yL ?_|refine yM ?_)|((with_reducible first|refine yN ?_ ?_|refine yO ?_ ?_|refine yP ?_ ?_);rfl)|((with_reducible refine yQ ?_ ?_);rfl;refine hK0 _ _ ?_;clear hK0 K0)|((with_reducible refine yR ?_ ?_ ?_ ?_);rfl;rfl;rfl)|((with_reducible refine yS ?_ ?_ ?_ fun K2 hK2=>?_);rfl;rfl;exact yB rfl)|((with_reducible first|refine yT ?_ ?_ ?_ ?_ fun K1 K3 d hdst h1 h3=>?_|refine yU ?_ ?_ ?_ ?_ fun K1 K3 d hdst h1 h3=>?_);rfl;rfl;rfl;exact yB rfl;cases hdst;go_simp)|((with_reducible refine yV ?_ ?_ (fun K2 hK2=>?_) ?_);rfl;exact yB rfl)|((with_reducible refine yW ?_ ?_ ?_ ?_ (fun K2 hK2=>?_) ?_);rfl;exact yB rfl;rfl;(focus go_simp;done))|((with_reducible refine yX ?_ ?_ ?_ (fun K2 hK2=>?_) ?_);rfl;rfl;exact yB rfl)|((with_reducible refine yY ?_ ?_ (fun K2 hK2=>?_) ?_);rfl;rfl)|((with_reducible refine yZ ?_ ?_);(first|rfl|(dsimp only;decide +kernel)))|((with_reducible refine xA ?_ ?_);(focus go_simp;done))|(go_simp;(try go_bits);(first|(refine hK2 _ _ ?_ ?_<;>clear hK2 K2)|(refine hK2 _ _ ?_;clear hK2 K2))))
    refine ⟨?_, ((Ext.refl _).push' _).push' _⟩
    rw [← HG.out, List.drop_eq_nil_of_le (by omega)]; rfl

theorem refCheckCopy_s {loops : List (Nat × LInfo)} {H : AHeap} {sv cv : Value} {s : Sheet} {c : Copy} (hs : SheetV H sv s) (hc : CopyV H cv c) : CallS Try.prog loops 30 [sv, cv] H fun r H' => r = .int .i64 (errCopy s c) ∧ H' = H := by
  refine CallS.forget (R := fun v => v = .int .i64 (errCopy s c)) (by rintro v rfl; rfl) ?_
  have HV := Lib.hid hs
  have HC := Lib.hid hc
  obtain ⟨wv, av, rfl, hw, ha⟩ := hs
  obtain ⟨hwl, wa, wc, rfl⟩ := hw.slice
  obtain ⟨hal, aa, ac, rfl⟩ := ha.slice
  obtain ⟨cv, rfl, hcw⟩ := hc
  obtain ⟨hcl, ca, cc, rfl⟩ := hcw.slice
  clear hw ha hcw
  generalize he : errCopy s c = er
  have HE := Lib.hid he
  clear he
  refine CallS.enter' Try.func30 rfl Try.ntmps30 (by simp) fun f hd hf => ?_
  have f0 := hf 0
  have f1 := hf 1
  simp at f0 f1
  clear hf
  repeat' (first|(with_reducible first|refine zA ?_|refine zB fun K hK=>?_|refine zC fun K2 hK2=>?_|refine zD ?_|refine zE ?_|refine zF ?_|refine zG ?_|refine zH ?_|refine zI ?_|refine zJ ?_|refine zK ?_|refine zL ?_|refine zM ?_|refine zN ?_|refine zO ?_|refine zP ?_|refine zQ ?_|refine zR ?_|refine zS ?_|refine zT ?_)|((with_reducible refine zU (hK _ _ ?_));clear hK K)|((with_reducible refine zV ?_ ?_ fun K1 K3 d hdst h1 h3=>?_);rfl;exact yB rfl;cases hdst;go_simp)|((with_reducible refine zW fun K1 K3 h1 h3=>?_);go_simp)|((first|refine h1 ?_|refine h3 ?_);clear h1 h3 K1 K3)|((first|refine zX (fun hb=>h1 ?_) (fun hb=>h3 ?_)|refine zX (fun hb=>h3 ?_) (fun hb=>h1 ?_))<;>(clear h1 h3 K1 K3;(try have hb2:=yC hb);(try have hb2:=yD hb);(try have hb2:=yE hb);(try have hb2:=yF hb);(try have hb2:=yG hb)))|(refine fun (K2:_→AHeap→Prop) hK2=>?_)|((with_reducible refine zY ?_ ?_);decide)|((with_reducible first|refine zZ ?_ (fun K hK=>?_)|refine yA ?_ (fun K hK=>?_));(focus go_simp;done);go_simp;refine hK _ _ ?_;clear hK K)|((with_reducible refine yH mixed rfl ?_ 20 fun K0 hK0=>?_);kernel_rfl)|(with_reducible first|exact yI|exact yJ|refine yK ?_|refine yL ?_|refine yM ?_)|((with_reducible first|refine yN ?_ ?_|refine yO ?_ ?_|refine yP ?_ ?_);rfl)|((with_reducible refine yQ ?_ ?_);rfl;refine hK0 _ _ ?_;clear hK0 K0)|((with_reducible refine yR ?_ ?_ ?_ ?_);rfl;rfl;rfl)|((with_reducible refine yS ?_ ?_ ?_ fun K2 hK2=>?_);rfl;rfl;exact yB rfl)|((with_reducible first|refine yT ?_ ?_ ?_ ?_ fun K1 K3 d hdst h1 h3=>?_|refine yU ?_ ?_ ?_ ?_ fun K1 K3 d hdst h1 h3=>?_);rfl;rfl;rfl;exact yB rfl;cases hdst;go_simp)|((with_reducible refine yV ?_ ?_ (fun K2 hK2=>?_) ?_);rfl;exact yB rfl)|((with_reducible refine yW ?_ ?_ ?_ ?_ (fun K2 hK2=>?_) ?_);rfl;exact yB rfl;rfl;(focus go_simp;done))|((with_reducible refine yX ?_ ?_ ?_ (fun K2 hK2=>?_) ?_);rfl;rfl;exact yB rfl)|((with_reducible refine yY ?_ ?_ (fun K2 hK2=>?_) ?_);rfl;rfl)|((with_reducible refine yZ ?_ ?_);(first|rfl|(dsimp only;decide +kernel)))|((with_reducible refine xA ?_ ?_);(focus go_simp;done))|(go_simp;(try go_bits);(try first | ((with_reducible show CallS _ _ _ _ _ _);refine CallS.mono (refCheck_s (s := s) (HV.out.ext (((Ext.refl _).push' _).push' _))) ?_; rintro _ _ ⟨rfl, rfl⟩) | ((with_reducible show CallS _ _ _ _ _ _);refine CallS.mono (valid_s (s := s) (c := c) (HV.out.ext (((Ext.refl _).push' _).push' _)) (HC.out.ext (((Ext.refl _).push' _).push' _))) ?_; rintro _ _ ⟨rfl, rfl⟩));(first|(refine hK2 _ _ ?_ ?_<;>clear hK2 K2)|(refine hK2 _ _ ?_;clear hK2 K2))))
  all_goals
    refine ⟨?_, ((Ext.refl _).push' _).push' _⟩
    rw [← HE.out]
    simp_all [errCopy]

theorem atDay_lost (line d : Int) (c : Has) (h : c.lost = true) : ∀ l : List Alt, atDay line d c l = c
  | [] => rfl
  | a :: t => by
    rw [atDay]
    have : c.after a = c := by simp [Has.after, h]
    rw [this, atDay_lost line d c h t]; simp


theorem on_e {loops : List (Nat × LInfo)} {H : AHeap} {sv : Value} {s : Sheet} {line d : Int} (hs : SheetV H sv s) (hl0 : 0 ≤ line) (hl1 : line < s.words.length) : CallS Try.prog loops 62 [sv, .int .i64 line, .int .i64 d] H fun r H' => r = (hasOn s line d).val ∧ Ext H H' := by
  obtain ⟨wv, av, rfl, hw, ha⟩ := hs
  obtain ⟨hwl, wa, wc, rfl⟩ := hw.slice
  obtain ⟨hal, aa, ac, rfl⟩ := ha.slice
  have HA := Lib.hid ha
  obtain ⟨ln, rfl⟩ := Int.eq_ofNat_of_zero_le hl0
  have hln : ln < s.words.length := by omega
  obtain ⟨bw, ow, sw, rfl, hbw, hcw⟩ := hw.at_ hln
  generalize he : hasOn s ln d = er
  have HE : Hid (atDay ln d ⟨s.words[ln], 0, false⟩ s.alts = er) := Lib.hid (by rw [← he, hasOn]; simp [hln])
  generalize s.words[ln] = w0 at hcw HE
  clear hw ha he
  refine CallS.enter' Try.func62 rfl Try.ntmps62 (by simp) fun f hd hf => ?_
  have f0 := hf 0
  have f1 := hf 1
  have f2 := hf 2
  simp at f0 f1 f2
  clear hf
  repeat' (first|(with_reducible first|refine zA ?_|refine zB fun K hK=>?_|refine zC fun K2 hK2=>?_|refine zD ?_|refine zE ?_|refine zF ?_|refine zG ?_|refine zH ?_|refine zI ?_|refine zJ ?_|refine zK ?_|refine zL ?_|refine zM ?_|refine zN ?_|refine zO ?_|refine zP ?_|refine zQ ?_|refine zR ?_|refine zS ?_|refine zT ?_)|((with_reducible refine zU (hK _ _ ?_));clear hK K)|((with_reducible refine zV ?_ ?_ fun K1 K3 d hdst h1 h3=>?_);rfl;exact yB rfl;cases hdst;go_simp)|((with_reducible refine zW fun K1 K3 h1 h3=>?_);go_simp)|((first|refine h1 ?_|refine h3 ?_);clear h1 h3 K1 K3)|((first|refine zX (fun hb=>h1 ?_) (fun hb=>h3 ?_)|refine zX (fun hb=>h3 ?_) (fun hb=>h1 ?_))<;>(clear h1 h3 K1 K3;(try have hb2:=yC hb);(try have hb2:=yD hb);(try have hb2:=yE hb);(try have hb2:=yF hb);(try have hb2:=yG hb)))|(refine fun (K2:_→AHeap→Prop) hK2=>?_)|((with_reducible refine zY ?_ ?_);decide)|((with_reducible first|refine zZ ?_ (fun K hK=>?_)|refine yA ?_ (fun K hK=>?_));(focus go_simp;done);go_simp;refine hK _ _ ?_;clear hK K)|((with_reducible refine yH mixed rfl ?_ 20 fun K0 hK0=>?_);kernel_rfl)|(with_reducible first|exact yI|exact yJ|refine yK ?_|refine yL ?_|refine yM ?_)|((with_reducible first|refine yN ?_ ?_|refine yO ?_ ?_|refine yP ?_ ?_);rfl)|((with_reducible refine yQ ?_ ?_);rfl;refine hK0 _ _ ?_;clear hK0 K0)|((with_reducible refine yR ?_ ?_ ?_ ?_);rfl;rfl;rfl)|((with_reducible refine yS ?_ ?_ ?_ fun K2 hK2=>?_);rfl;rfl;exact yB rfl)|((with_reducible first|refine yT ?_ ?_ ?_ ?_ fun K1 K3 d hdst h1 h3=>?_|refine yU ?_ ?_ ?_ ?_ fun K1 K3 d hdst h1 h3=>?_);rfl;rfl;rfl;exact yB rfl;cases hdst;go_simp)|((with_reducible refine yV ?_ ?_ (fun K2 hK2=>?_) ?_);rfl;exact yB rfl)|((with_reducible refine yW ?_ ?_ ?_ ?_ (fun K2 hK2=>?_) ?_);rfl;exact yB rfl;rfl;(focus go_simp;done))|((with_reducible refine yX ?_ ?_ ?_ (fun K2 hK2=>?_) ?_);rfl;rfl;exact yB rfl)|((with_reducible refine yY ?_ ?_ (fun K2 hK2=>?_) ?_);rfl;rfl)|((with_reducible refine yZ ?_ ?_);(first|rfl|(dsimp only;decide +kernel)))|((with_reducible refine xA ?_ ?_);(focus go_simp;done))|(go_simp;(try go_bits);(first|(refine hK2 _ _ ?_ ?_<;>clear hK2 K2)|(refine hK2 _ _ ?_;clear hK2 K2))))
  refine CodeS.loop (fun m f H' => ∃ (k : Nat) (c : Has), k ≤ s.alts.length ∧ m = s.alts.length - k ∧ f.tmp 8 = .int .i64 k ∧ f.tmp 3 = .pointer (some ⟨H.n, 0, none⟩) ∧ f.tmp 1 = .int .i64 ln ∧ f.tmp 2 = .int .i64 d ∧ f.tmp 6 = .pointer (some ⟨H.n + 1, 0, none⟩) ∧ f.tmp 7 = .pointer (some ⟨H.n + 2, 0, none⟩) ∧ f.defers = [] ∧ Hid (atDay ln d c (s.alts.drop k) = er) ∧ H.n + 2 < H'.n ∧ Ext H H' ∧ H'.get H.n = .row [Value.slice (some ⟨bw, ow, sw⟩) s.words.length wc, Value.slice aa s.alts.length ac] 25 ∧ H'.get (H.n + 1) = .row [.int .i64 0, .int .i64 0, .bool false] 104 ∧ H'.get (H.n + 2) = .row [.int .i64 c.text, .int .i64 c.margin, .bool c.lost] 104) s.alts.length ?_ ?_
  · refine ⟨0, ⟨w0, 0, false⟩, by simp, by simp, (by first|(go_simp;done)|(go_simp;go_num;done)|assumption), (by first|(go_simp;done)|(go_simp;go_num;done)|assumption), (by first|(go_simp;done)|(go_simp;go_num;done)|assumption), (by first|(go_simp;done)|(go_simp;go_num;done)|assumption), (by first|(go_simp;done)|(go_simp;go_num;done)|assumption), (by first|(go_simp;done)|(go_simp;go_num;done)|assumption), (by first|(go_simp;done)|(go_simp;go_num;done)|assumption), HE, by simp only [AHeap.n_push]; omega, ((Ext.refl _).push' _).push' _ |>.push' _, ?_, ?_, ?_⟩
    · rw [AHeap.get_push_old (by simp only [AHeap.n_push]; omega), AHeap.get_push_old (by simp only [AHeap.n_push]; omega), AHeap.get_push_new]
    · rw [AHeap.get_push_old (by simp only [AHeap.n_push]; omega), show H.n + 1 = (H.push (AObj.row [Value.slice (some ⟨bw, ow, sw⟩) s.words.length wc, Value.slice aa s.alts.length ac] 25)).n by rw [AHeap.n_push], AHeap.get_push_new]
    · rw [show H.n + 2 = ((H.push (AObj.row [Value.slice (some ⟨bw, ow, sw⟩) s.words.length wc, Value.slice aa s.alts.length ac] 25)).push (AObj.row [Value.int IntKind.i64 0, Value.int IntKind.i64 0, Value.bool false] 104)).n by rw [AHeap.n_push, AHeap.n_push], AHeap.get_push_new]
  clear f0 f1 f2 hd f HE hcw
  rintro m f H' ⟨k, c, hk, rfl, f8, f3, f1, f2, f6, f7, hd, HG, hn, hx, hg0, hg1, hg2⟩
  obtain ⟨ct, cm, cl⟩ := c
  have hc0 : cellAt H' H.n 0 = some (Value.slice (some ⟨bw, ow, sw⟩) s.words.length wc) := by simp [cellAt, hg0]
  have hc1 : cellAt H' H.n 1 = some (Value.slice aa s.alts.length ac) := by simp [cellAt, hg0]
  have hc2 : cellsAt H' (H.n + 2) 0 3 = some [.int .i64 ct, .int .i64 cm, .bool cl] := by simp [cellsAt, hg2]
  have hc3 : cellAt H' (H.n + 2) 2 = some (.bool cl) := by simp [cellAt, hg2]
  have hn0 : H.n < H'.n := by omega
  have hn1 : H.n + 1 < H'.n := by omega
  have HX := Lib.hid hx
  have HG0 := Lib.hid hg0
  have HG1 := Lib.hid hg1
  clear hx hg0
  by_cases hlt : k < s.alts.length
  · clear hg1
    obtain ⟨b, o, sp, rfl, hb, hx6, -⟩ := (HA.out.ext HX.out).at_ hlt
    have HD := Lib.hid (List.drop_eq_getElem_cons hlt)
    generalize s.alts[k] = a at hx6 HD
    obtain ⟨i, kd, dy, fr, to, wd⟩ := a
    simp only [Alt.cells] at hx6
    have hne : H.n + 2 ≠ H'.n := by omega
    repeat' (first|(with_reducible first|refine zA ?_|refine zB fun K hK=>?_|refine zC fun K2 hK2=>?_|refine zD ?_|refine zE ?_|refine zF ?_|refine zG ?_|refine zH ?_|refine zI ?_|refine zJ ?_|refine zK ?_|refine zL ?_|refine zM ?_|refine zN ?_|refine zO ?_|refine zP ?_|refine zQ ?_|refine zR ?_|refine zS ?_|refine zT ?_)|((with_reducible refine zU (hK _ _ ?_));clear hK K)|((with_reducible refine zV ?_ ?_ fun K1 K3 d hdst h1 h3=>?_);rfl;exact yB rfl;cases hdst;go_simp)|((with_reducible refine zW fun K1 K3 h1 h3=>?_);go_simp)|((first|refine h1 ?_|refine h3 ?_);clear h1 h3 K1 K3)|((first|refine zX (fun hb=>h1 ?_) (fun hb=>h3 ?_)|refine zX (fun hb=>h3 ?_) (fun hb=>h1 ?_))<;>(clear h1 h3 K1 K3;(try have hb2:=yC hb);(try have hb2:=yD hb);(try have hb2:=yE hb);(try have hb2:=yF hb);(try have hb2:=yG hb)))|(refine fun (K2:_→AHeap→Prop) hK2=>?_)|((with_reducible refine zY ?_ ?_);decide)|((with_reducible first|refine zZ ?_ (fun K hK=>?_)|refine yA ?_ (fun K hK=>?_));(focus go_simp;done);go_simp;refine hK _ _ ?_;clear hK K)|((with_reducible refine yH mixed rfl ?_ 20 fun K0 hK0=>?_);kernel_rfl)|(with_reducible first|exact yI|exact yJ|refine yK ?_|refine yL ?_|refine yM ?_)|((with_reducible first|refine yN ?_ ?_|refine yO ?_ ?_|refine yP ?_ ?_);rfl)|((with_reducible refine yQ ?_ ?_);rfl;refine hK0 _ _ ?_;clear hK0 K0)|((with_reducible refine yR ?_ ?_ ?_ ?_);rfl;rfl;rfl)|((with_reducible refine yS ?_ ?_ ?_ fun K2 hK2=>?_);rfl;rfl;exact yB rfl)|((with_reducible first|refine yT ?_ ?_ ?_ ?_ fun K1 K3 d hdst h1 h3=>?_|refine yU ?_ ?_ ?_ ?_ fun K1 K3 d hdst h1 h3=>?_);rfl;rfl;rfl;exact yB rfl;cases hdst;go_simp)|((with_reducible refine yV ?_ ?_ (fun K2 hK2=>?_) ?_);rfl;exact yB rfl)|((with_reducible refine yW ?_ ?_ ?_ ?_ (fun K2 hK2=>?_) ?_);rfl;exact yB rfl;rfl;(focus go_simp;done))|((with_reducible refine yX ?_ ?_ ?_ (fun K2 hK2=>?_) ?_);rfl;rfl;exact yB rfl)|((with_reducible refine yY ?_ ?_ (fun K2 hK2=>?_) ?_);rfl;rfl)|((with_reducible refine yZ ?_ ?_);(first|rfl|(dsimp only;decide +kernel)))|((with_reducible refine xA ?_ ?_);(focus go_simp;done))|(go_simp;(try go_bits);(first|(refine hK2 _ _ ?_ ?_<;>clear hK2 K2)|(refine hK2 _ _ ?_;clear hK2 K2))))
    all_goals
      refine Post.round_normal ⟨s.alts.length - (k + 1), by omega, k + 1, (if win fr to ln = true ∧ dy ≤ d then Has.after ⟨ct, cm, cl⟩ ⟨i, kd, dy, fr, to, wd⟩ else ⟨ct, cm, cl⟩), by omega, rfl, (by first|(go_simp;done)|(go_simp;go_num;done)|assumption), (by first|(go_simp;done)|(go_simp;go_num;done)|assumption), (by first|(go_simp;done)|(go_simp;go_num;done)|assumption), (by first|(go_simp;done)|(go_simp;go_num;done)|assumption), (by first|(go_simp;done)|(go_simp;go_num;done)|assumption), (by first|(go_simp;done)|(go_simp;go_num;done)|assumption), (by first|(go_simp;done)|(go_simp;go_num;done)|assumption), Lib.hid ?_, ?_, ?_, ?_, ?_, ?_⟩
      · rw [← HG.out, HD.out, atDay]; split <;> rfl
      · simp only [AHeap.n_push, AHeap.n_upd]; omega
      · first | exact HX.out.push' _ | exact (HX.out.upd (by omega) _).push' _
      · first | (rw [AHeap.get_push_old (by omega)]; exact HG0.out) | (rw [AHeap.get_push_old (by rw [AHeap.n_upd]; omega), AHeap.get_upd_ne (by omega)]; exact HG0.out)
      · first | (rw [AHeap.get_push_old (by omega)]; exact HG1.out) | (rw [AHeap.get_push_old (by rw [AHeap.n_upd]; omega), AHeap.get_upd_ne (by omega)]; exact HG1.out)
      · clear HG HD HX HG0 HG1 hc0 hc1 hc2 hc3 hx6 HA hd f8 f3 f1 f2 f6 f7
        first
          | (rw [AHeap.get_push_old (by omega), if_neg (by rw [win_iff]; omega)]; exact hg2)
          | (rw [if_pos ⟨win_iff.2 ⟨by omega, by omega⟩, by omega⟩, AHeap.get_push_old (by omega)]; rw [hg2]; first | (simp [Has.after, *]; done) | (simp_all [Has.after]; done))
          | (rw [if_pos ⟨win_iff.2 ⟨by omega, by omega⟩, by omega⟩, AHeap.get_push_old (by rw [AHeap.n_upd]; omega), AHeap.get_upd_same]; clear hg2; simp [Has.after, *]; done)
  · repeat' (first|(with_reducible first|refine zA ?_|refine zB fun K hK=>?_|refine zC fun K2 hK2=>?_|refine zD ?_|refine zE ?_|refine zF ?_|refine zG ?_|refine zH ?_|refine zI ?_|refine zJ ?_|refine zK ?_|refine zL ?_|refine zM ?_|refine zN ?_|refine zO ?_|refine zP ?_|refine zQ ?_|refine zR ?_|refine zS ?_|refine zT ?_)|((with_reducible refine zU (hK _ _ ?_));clear hK K)|((with_reducible refine zV ?_ ?_ fun K1 K3 d hdst h1 h3=>?_);rfl;exact yB rfl;cases hdst;go_simp)|((with_reducible refine zW fun K1 K3 h1 h3=>?_);go_simp)|((first|refine h1 ?_|refine h3 ?_);clear h1 h3 K1 K3)|((first|refine zX (fun hb=>h1 ?_) (fun hb=>h3 ?_)|refine zX (fun hb=>h3 ?_) (fun hb=>h1 ?_))<;>(clear h1 h3 K1 K3;(try have hb2:=yC hb);(try have hb2:=yD hb);(try have hb2:=yE hb);(try have hb2:=yF hb);(try have hb2:=yG hb)))|(refine fun (K2:_→AHeap→Prop) hK2=>?_)|((with_reducible refine zY ?_ ?_);decide)|((with_reducible first|refine zZ ?_ (fun K hK=>?_)|refine yA ?_ (fun K hK=>?_));(focus go_simp;done);go_simp;refine hK _ _ ?_;clear hK K)|((with_reducible refine yH mixed rfl ?_ 20 fun K0 hK0=>?_);kernel_rfl)|(with_reducible first|exact yI|exact yJ|refine yK ?_|refine yL ?_|refine yM ?_)|((with_reducible first|refine yN ?_ ?_|refine yO ?_ ?_|refine yP ?_ ?_);rfl)|((with_reducible refine yQ ?_ ?_);rfl;refine hK0 _ _ ?_;clear hK0 K0)|((with_reducible refine yR ?_ ?_ ?_ ?_);rfl;rfl;rfl)|((with_reducible refine yS ?_ ?_ ?_ fun K2 hK2=>?_);rfl;rfl;exact yB rfl)|((with_reducible first|refine yT ?_ ?_ ?_ ?_ fun K1 K3 d hdst h1 h3=>?_|refine yU ?_ ?_ ?_ ?_ fun K1 K3 d hdst h1 h3=>?_);rfl;rfl;rfl;exact yB rfl;cases hdst;go_simp)|((with_reducible refine yV ?_ ?_ (fun K2 hK2=>?_) ?_);rfl;exact yB rfl)|((with_reducible refine yW ?_ ?_ ?_ ?_ (fun K2 hK2=>?_) ?_);rfl;exact yB rfl;rfl;(focus go_simp;done))|((with_reducible refine yX ?_ ?_ ?_ (fun K2 hK2=>?_) ?_);rfl;rfl;exact yB rfl)|((with_reducible refine yY ?_ ?_ (fun K2 hK2=>?_) ?_);rfl;rfl)|((with_reducible refine yZ ?_ ?_);(first|rfl|(dsimp only;decide +kernel)))|((with_reducible refine xA ?_ ?_);(focus go_simp;done))|(go_simp;(try go_bits);(first|(refine hK2 _ _ ?_ ?_<;>clear hK2 K2)|(refine hK2 _ _ ?_;clear hK2 K2))))
    refine ⟨?_, ?_⟩
    · rw [← HG.out, List.drop_eq_nil_of_le (by omega)]; rfl
    · exact HX.out.upd (by omega) _

theorem can_s {loops : List (Nat × LInfo)} {H : AHeap} {sv : Value} {s : Sheet} {line d w : Int} (hs : SheetV H sv s) (hl0 : 0 ≤ line) (hl1 : line < s.words.length) : CallS Try.prog loops 65 [sv, .int .i64 line, .int .i64 d, .int .i64 w] H fun r H' => r = .bool ((hasOn s line d).offers w) ∧ H' = H := by
  refine CallS.forget (R := fun v => v = .bool ((hasOn s line d).offers w)) (by rintro v rfl; rfl) ?_
  have HON := Lib.hid (fun (loops : List (Nat × LInfo)) (H2 : AHeap) (hx : Ext H H2) => on_e (loops := loops) (d := d) (hs.ext hx) hl0 hl1)
  obtain ⟨wv, av, rfl, hw, ha⟩ := hs
  obtain ⟨hwl, wa, wc, rfl⟩ := hw.slice
  obtain ⟨hal, aa, ac, rfl⟩ := ha.slice
  clear hw ha
  generalize hasOn s line d = c at HON
  obtain ⟨ct, cm, cl⟩ := c
  refine CallS.enter' Try.func65 rfl Try.ntmps65 (by simp) fun f hd hf => ?_
  have f0 := hf 0
  have f1 := hf 1
  have f2 := hf 2
  have f3 := hf 3
  simp at f0 f1 f2 f3
  clear hf
  repeat' (first|(with_reducible first|refine zA ?_|refine zB fun K hK=>?_|refine zC fun K2 hK2=>?_|refine zD ?_|refine zE ?_|refine zF ?_|refine zG ?_|refine zH ?_|refine zI ?_|refine zJ ?_|refine zK ?_|refine zL ?_|refine zM ?_|refine zN ?_|refine zO ?_|refine zP ?_|refine zQ ?_|refine zR ?_|refine zS ?_|refine zT ?_)|((with_reducible refine zU (hK _ _ ?_));clear hK K)|((with_reducible refine zV ?_ ?_ fun K1 K3 d hdst h1 h3=>?_);rfl;exact yB rfl;cases hdst;go_simp)|((with_reducible refine zW fun K1 K3 h1 h3=>?_);go_simp)|((first|refine h1 ?_|refine h3 ?_);clear h1 h3 K1 K3)|((first|refine zX (fun hb=>h1 ?_) (fun hb=>h3 ?_)|refine zX (fun hb=>h3 ?_) (fun hb=>h1 ?_))<;>(clear h1 h3 K1 K3;(try have hb2:=yC hb);(try have hb2:=yD hb);(try have hb2:=yE hb);(try have hb2:=yF hb);(try have hb2:=yG hb)))|(refine fun (K2:_→AHeap→Prop) hK2=>?_)|((with_reducible refine zY ?_ ?_);decide)|((with_reducible first|refine zZ ?_ (fun K hK=>?_)|refine yA ?_ (fun K hK=>?_));(focus go_simp;done);go_simp;refine hK _ _ ?_;clear hK K)|((with_reducible refine yH mixed rfl ?_ 20 fun K0 hK0=>?_);kernel_rfl)|(with_reducible first|exact yI|exact yJ|refine yK ?_|refine yL ?_|refine yM ?_)|((with_reducible first|refine yN ?_ ?_|refine yO ?_ ?_|refine yP ?_ ?_);rfl)|((with_reducible refine yQ ?_ ?_);rfl;refine hK0 _ _ ?_;clear hK0 K0)|((with_reducible refine yR ?_ ?_ ?_ ?_);rfl;rfl;rfl)|((with_reducible refine yS ?_ ?_ ?_ fun K2 hK2=>?_);rfl;rfl;exact yB rfl)|((with_reducible first|refine yT ?_ ?_ ?_ ?_ fun K1 K3 d hdst h1 h3=>?_|refine yU ?_ ?_ ?_ ?_ fun K1 K3 d hdst h1 h3=>?_);rfl;rfl;rfl;exact yB rfl;cases hdst;go_simp)|((with_reducible refine yV ?_ ?_ (fun K2 hK2=>?_) ?_);rfl;exact yB rfl)|((with_reducible refine yW ?_ ?_ ?_ ?_ (fun K2 hK2=>?_) ?_);rfl;exact yB rfl;rfl;(focus go_simp;done))|((with_reducible refine yX ?_ ?_ ?_ (fun K2 hK2=>?_) ?_);rfl;rfl;exact yB rfl)|((with_reducible refine yY ?_ ?_ (fun K2 hK2=>?_) ?_);rfl;rfl)|((with_reducible refine yZ ?_ ?_);(first|rfl|(dsimp only;decide +kernel)))|((with_reducible refine xA ?_ ?_);(focus go_simp;done))|(go_simp;(try go_bits);(try first | ((with_reducible show CallS _ _ _ _ _ _);refine CallS.mono (HON.out _ _ (Ext.push _)) ?_; rintro _ H2 ⟨rfl, hx⟩; (have HX := Lib.hid hx); clear hx; (try simp only [Has.val])));(first|(refine hK2 _ _ ?_ ?_<;>clear hK2 K2)|(refine hK2 _ _ ?_;clear hK2 K2))))
  all_goals
    refine ⟨?_, (((Ext.push _).trans HX.out)).push' _⟩
    simp_all [Has.offers]
end Go.Proofs.Try
namespace Go.Proofs.Try
open Go Go.Am Go.RowKit Go.Co
set_option maxRecDepth 100000

/-! The reference: the latest days. -/
set_option maxHeartbeats 8000000 in
theorem refLast_e {loops : List (Nat × LInfo)} {H : AHeap} {sv cv : Value} {s : Sheet} {c : Copy} (hs : SheetV H sv s) (hc : CopyV H cv c) (he : errCopy s c = 0) (hm : (courseOf s c).made c.per.toNat = true) : CallS Try.prog loops 78 [sv, cv] H fun r H' => Own H' H.n r 3 1 (((courseOf s c).late c.per.toNat).map (Value.int .i64)) ∧ Ext H H' := by
  have HV := Lib.hid hs
  obtain ⟨wv, av, rfl, hw, ha⟩ := hs
  obtain ⟨hwl, wa, wc, rfl⟩ := hw.slice
  obtain ⟨hal, aa, ac, rfl⟩ := ha.slice
  obtain ⟨cv, rfl, hcw⟩ := hc
  obtain ⟨hcl, ca, cc, rfl⟩ := hcw.slice
  have HCW := Lib.hid hcw
  clear hw ha hcw
  have HL := late_ok he hm
  obtain ⟨he0, hlen, hwo, hb0, hb1, hb2, hp1, hp2⟩ := errCopy_ok he
  have hwn : s.words.length ≤ 40 := by have := (win_iff.1 (err_ok he0).2.1).2; omega
  have hw1 : 1 ≤ s.words.length := by have := (win_iff.1 (err_ok he0).2.1).1; omega
  have hcn : c.words.length ≤ 40 := by omega
  have hc1 : 0 < c.words.length := by omega
  have HLEN := Lib.hid hlen
  have hper : c.per = ((c.per.toNat : Nat) : Int) := by omega
  have hp3 : 1 ≤ c.per.toNat := by omega
  generalize (courseOf s c).late c.per.toNat = lt at HL
  generalize c.per.toNat = p at HL hper hp3
  rw [hper] at hp1 hp2
  have HLO := Lib.hid HL
  have HIN : ∀ i, i < c.words.length → 0 ≤ lt.getD i 0 ∧ lt.getD i 0 ≤ 730 := fun i hi => by have := HL.at_ i hi; omega
  have HINH := Lib.hid HIN
  clear HL HIN he he0 hlen hwo hm hw1
  have HCL : Hid (c.words.length = c.words.length) := Lib.hid rfl
  refine CallS.enter' Try.func78 rfl Try.ntmps78 (by simp) fun f hd hf => ?_
  have f0 := hf 0
  have f1 := hf 1
  simp at f0 f1
  clear hf
  rw [hper] at f1
  clear hper
  repeat' (first|(with_reducible first|refine zA ?_|refine zB fun K hK=>?_|refine zC fun K2 hK2=>?_|refine zD ?_|refine zE ?_|refine zF ?_|refine zG ?_|refine zH ?_|refine zI ?_|refine zJ ?_|refine zK ?_|refine zL ?_|refine zM ?_|refine zN ?_|refine zO ?_|refine zP ?_|refine zQ ?_|refine zR ?_|refine zS ?_|refine zT ?_)|((with_reducible refine zU (hK _ _ ?_));clear hK K)|((with_reducible refine zV ?_ ?_ fun K1 K3 d hdst h1 h3=>?_);rfl;exact yB rfl;cases hdst;go_simp)|((with_reducible refine zW fun K1 K3 h1 h3=>?_);go_simp)|((first|refine h1 ?_|refine h3 ?_);clear h1 h3 K1 K3)|((first|refine zX (fun hb=>h1 ?_) (fun hb=>h3 ?_)|refine zX (fun hb=>h3 ?_) (fun hb=>h1 ?_))<;>(clear h1 h3 K1 K3;(try have hb2:=yC hb);(try have hb2:=yD hb);(try have hb2:=yE hb);(try have hb2:=yF hb);(try have hb2:=yG hb)))|(refine fun (K2:_→AHeap→Prop) hK2=>?_)|((with_reducible refine zY ?_ ?_);decide)|((with_reducible first|refine zZ ?_ (fun K hK=>?_)|refine yA ?_ (fun K hK=>?_));(focus go_simp;done);go_simp;refine hK _ _ ?_;clear hK K)|(go_simp;(try go_bits);(try first | (refine makeSlice_k el22 sz3 by3 ze3 rfl (by show c.words.length * 8 ≤ 1073741824; omega) (by omega) ?_; go_simp));refine hK2 _ _ ?_;clear hK2 K2))
  refine CodeS.loop (fun m f H' => ∃ (k : Nat) (i : Int) (L : List Int), k ≤ c.words.length ∧ i = (k : Int) - 1 ∧ k = m ∧ L.length = c.words.length ∧ f.tmp 7 = .int .i64 i ∧ f.tmp 5 = .int .i64 (c.words.length : Nat) ∧ f.tmp 6 = .slice (some ⟨H.n + 2, 0, none⟩) c.words.length c.words.length ∧ f.tmp 2 = .pointer (some ⟨H.n, 0, none⟩) ∧ f.tmp 3 = .pointer (some ⟨H.n + 1, 0, none⟩) ∧ f.defers = [] ∧ Hid (∀ i, k ≤ i → i < c.words.length → L.getD i 0 = lt.getD i 0) ∧ H.n + 2 < H'.n ∧ Hid (Ext H H') ∧ Hid (H'.get H.n = .row [Value.slice wa s.words.length wc, Value.slice aa s.alts.length ac] 25) ∧ Hid (H'.get (H.n + 1) = .row [Value.slice ca c.words.length cc, .int .i64 c.beg, .int .i64 c.fin, .int .i64 p] 27) ∧ Hid (H'.get (H.n + 2) = .row (L.map (Value.int .i64)) 3)) c.words.length ?_ ?_
  · refine ⟨c.words.length, (c.words.length : Int) - 1, List.replicate c.words.length 0, by omega, rfl, rfl, by simp, (by first|(go_simp;done)|(go_simp;go_num;done)|assumption), (by first|(go_simp;done)|(go_simp;go_num;done)|assumption), (by first|(go_simp;done)|(go_simp;go_num;done)|assumption), (by first|(go_simp;done)|(go_simp;go_num;done)|assumption), (by first|(go_simp;done)|(go_simp;go_num;done)|assumption), (by first|(go_simp;done)|(go_simp;go_num;done)|assumption), Lib.hid (fun i h1 h2 => by omega), by simp only [AHeap.n_push]; omega, Lib.hid ((((Ext.refl _).push' _).push' _).push' _), Lib.hid ?_, Lib.hid ?_, Lib.hid ?_⟩
    · rw [AHeap.get_push_old (by simp only [AHeap.n_push]; omega), AHeap.get_push_old (by simp only [AHeap.n_push]; omega), get_at rfl]
    · rw [AHeap.get_push_old (by simp only [AHeap.n_push]; omega), get_at (by simp only [AHeap.n_push])]
    · rw [get_at (by simp only [AHeap.n_push]), List.map_replicate]
  clear f0 f1 hd f
  rintro m f H' ⟨k, i, L, hk, hik, rfl, hLl, f7, f5, f6, f2, f3, hd, HG, hn2, HX, HG0, HG1, HG2⟩
  have hg0 := HG0.out
  have hg1 := HG1.out
  have hg2 := HG2.out
  have hc2 : cellsAt H' H.n 0 2 = some [Value.slice wa s.words.length wc, Value.slice aa s.alts.length ac] := by simp [cellsAt, hg0]
  have hd0 : cellAt H' (H.n + 1) 0 = some (Value.slice ca c.words.length cc) := by simp [cellAt, hg1]
  have hd1 : cellAt H' (H.n + 1) 1 = some (.int .i64 c.beg) := by simp [cellAt, hg1]
  have hd2 : cellAt H' (H.n + 1) 2 = some (.int .i64 c.fin) := by simp [cellAt, hg1]
  have hd3 : cellAt H' (H.n + 1) 3 = some (.int .i64 p) := by simp [cellAt, hg1]
  have hn1 : H.n < H'.n := by omega
  have hn1' : H.n + 1 < H'.n := by omega
  have HLL := Lib.hid hLl
  have HCELL : Hid (∀ j, j < c.words.length → cellAt H' (H.n + 2) j = some (.int .i64 (L.getD j 0))) := Lib.hid (fun j hj => by rw [rowCell hg2 (by omega)])
  clear hg0 hg1 hLl
  rcases Nat.eq_zero_or_pos k with hk0 | hk0
  · subst hk0
    have hi2 : i = -1 := by omega
    subst hi2
    clear hik
    repeat' (first|(with_reducible first|refine zA ?_|refine zB fun K hK=>?_|refine zC fun K2 hK2=>?_|refine zD ?_|refine zE ?_|refine zF ?_|refine zG ?_|refine zH ?_|refine zI ?_|refine zJ ?_|refine zK ?_|refine zL ?_|refine zM ?_|refine zN ?_|refine zO ?_|refine zP ?_|refine zQ ?_|refine zR ?_|refine zS ?_|refine zT ?_)|((with_reducible refine zU (hK _ _ ?_));clear hK K)|((with_reducible refine zV ?_ ?_ fun K1 K3 d hdst h1 h3=>?_);rfl;exact yB rfl;cases hdst;go_simp)|((with_reducible refine zW fun K1 K3 h1 h3=>?_);go_simp)|((first|refine h1 ?_|refine h3 ?_);clear h1 h3 K1 K3)|((first|refine zX (fun hb=>h1 ?_) (fun hb=>h3 ?_)|refine zX (fun hb=>h3 ?_) (fun hb=>h1 ?_))<;>(clear h1 h3 K1 K3;(try have hb2:=yC hb);(try have hb2:=yD hb);(try have hb2:=yE hb);(try have hb2:=yF hb);(try have hb2:=yG hb)))|(refine fun (K2:_→AHeap→Prop) hK2=>?_)|((with_reducible refine zY ?_ ?_);decide)|((with_reducible first|refine zZ ?_ (fun K hK=>?_)|refine yA ?_ (fun K hK=>?_));(focus go_simp;done);go_simp;refine hK _ _ ?_;clear hK K)|(go_simp;(try go_bits);refine hK2 _ _ ?_;clear hK2 K2))
    refine ⟨?_, HX.out⟩
    have hLe : L = lt := by
      refine List.ext_getElem (by rw [HLL.out, HLO.out.len]) fun j h1 h2 => ?_
      have := HG.out j (by omega) (by rw [← HLL.out]; exact h1)
      simpa [List.getD_eq_getElem?_getD, h1, h2] using this
    rw [← hLe]
    exact own_new (by omega) hn2 hg2 (by rw [List.length_map, HLL.out]; omega) hc1
  · obtain ⟨j, rfl⟩ : ∃ j : Nat, k = j + 1 := ⟨k - 1, by omega⟩
    have hij : i = (j : Int) := by omega
    subst hij
    clear hik hk0
    have hj : j < c.words.length := by omega
    obtain ⟨b, o, sp, rfl, hb, hxw⟩ := (HCW.out.ext HX.out).at_ hj
    have HWD : Hid (c.words.getD j 0 = c.words[j]) := Lib.hid (by simp [List.getD_eq_getElem?_getD, hj])
    generalize c.words[j] = w at hxw HWD
    have HCAN := Lib.hid (fun (loops : List (Nat × LInfo)) (d : Int) => can_s (loops := loops) (d := d) (w := w) (HV.out.ext HX.out) (show (0 : Int) ≤ (j : Int) by omega) (by have := HLEN.out; omega))
    have hljin := HINH.out j hj
    obtain ⟨hAt, hAb, hAf⟩ := HLO.out.at_ j hj
    have HAT := Lib.hid hAt
    have HTOP := Lib.hid (fun e => HLO.out.top j e hj)
    have HN1 := Lib.hid (HLO.out.next j)
    have HNP := Lib.hid (HLO.out.per j)
    clear hAt
    generalize hlj : lt.getD j 0 = y at hljin hAb hAf HAT HTOP HN1 HNP
    have HLJ := Lib.hid hlj
    clear hlj
    repeat' (first|((with_reducible refine stop_if (n := 7) ?_))|(with_reducible first|refine zA ?_|refine zB fun K hK=>?_|refine zC fun K2 hK2=>?_|refine zD ?_|refine zE ?_|refine zF ?_|refine zG ?_|refine zH ?_|refine zI ?_|refine zJ ?_|refine zK ?_|refine zL ?_|refine zM ?_|refine zN ?_|refine zO ?_|refine zP ?_|refine zQ ?_|refine zR ?_|refine zS ?_|refine zT ?_)|((with_reducible refine zU (hK _ _ ?_));clear hK K)|((with_reducible refine zV ?_ ?_ fun K1 K3 d hdst h1 h3=>?_);rfl;exact yB rfl;cases hdst;go_simp)|((with_reducible refine zW fun K1 K3 h1 h3=>?_);go_simp)|((first|refine h1 ?_|refine h3 ?_);clear h1 h3 K1 K3)|((first|refine zX (fun hb=>h1 ?_) (fun hb=>h3 ?_)|refine zX (fun hb=>h3 ?_) (fun hb=>h1 ?_))<;>(clear h1 h3 K1 K3;(try have hb2:=yC hb);(try have hb2:=yD hb);(try have hb2:=yE hb);(try have hb2:=yF hb);(try have hb2:=yG hb)))|(refine fun (K2:_→AHeap→Prop) hK2=>?_)|((with_reducible refine zY ?_ ?_);decide)|((with_reducible first|refine zZ ?_ (fun K hK=>?_)|refine yA ?_ (fun K hK=>?_));(focus go_simp;done);go_simp;refine hK _ _ ?_;clear hK K)|(go_simp;(try go_bits);refine hK2 _ _ ?_;clear hK2 K2))
    refine ⟨CodeS.cut (fun f H'' => ∃ D : Int, 0 ≤ D ∧ D ≤ 730 ∧ f.tmp 8 = .int .i64 D ∧ f.tmp 7 = .int .i64 (j : Nat) ∧ f.tmp 5 = .int .i64 (c.words.length : Nat) ∧ f.tmp 6 = .slice (some ⟨H.n + 2, 0, none⟩) c.words.length c.words.length ∧ f.tmp 2 = .pointer (some ⟨H.n, 0, none⟩) ∧ f.tmp 3 = .pointer (some ⟨H.n + 1, 0, none⟩) ∧ f.defers = [] ∧ Hid (y ≤ D ∧ D ≤ c.fin ∧ (j + 1 < c.words.length → D ≤ lt.getD (j + 1) 0)) ∧ Hid (∀ e, e ≤ c.fin → (j + 1 < c.words.length → e ≤ lt.getD (j + 1) 0) → e ≤ D) ∧ H'' = H') ?_ ?_⟩
    · by_cases h1 : j + 1 < c.words.length
      · have hy1 := HINH.out (j + 1) h1
        have hc9 : cellAt H' (H.n + 2) (j + 1) = some (.int .i64 (lt.getD (j + 1) 0)) := by rw [HCELL.out _ h1, HG.out _ (by omega) h1]
        have hyn := HN1.out h1
        generalize lt.getD (j + 1) 0 = y1 at hy1 hc9 hyn
        have h1i : (j : Int) + 1 < (c.words.length : Nat) := by omega
        have h0i : (0 : Int) ≤ (j : Int) + 1 := by omega
        repeat' (first|(with_reducible first|refine zA ?_|refine zB fun K hK=>?_|refine zC fun K2 hK2=>?_|refine zD ?_|refine zE ?_|refine zF ?_|refine zG ?_|refine zH ?_|refine zI ?_|refine zJ ?_|refine zK ?_|refine zL ?_|refine zM ?_|refine zN ?_|refine zO ?_|refine zP ?_|refine zQ ?_|refine zR ?_|refine zS ?_|refine zT ?_)|((with_reducible refine zU (hK _ _ ?_));clear hK K)|((with_reducible refine zV ?_ ?_ fun K1 K3 d hdst h1 h3=>?_);rfl;exact yB rfl;cases hdst;go_simp)|((with_reducible refine zW fun K1 K3 h1 h3=>?_);go_simp)|((first|refine h1 ?_|refine h3 ?_);clear h1 h3 K1 K3)|((first|refine zX (fun hb=>h1 ?_) (fun hb=>h3 ?_)|refine zX (fun hb=>h3 ?_) (fun hb=>h1 ?_))<;>(clear h1 h3 K1 K3;(try have hb2:=yC hb);(try have hb2:=yD hb);(try have hb2:=yE hb);(try have hb2:=yF hb);(try have hb2:=yG hb)))|(refine fun (K2:_→AHeap→Prop) hK2=>?_)|((with_reducible refine zY ?_ ?_);decide)|((with_reducible first|refine zZ ?_ (fun K hK=>?_)|refine yA ?_ (fun K hK=>?_));(focus go_simp;done);go_simp;refine hK _ _ ?_;clear hK K)|(go_simp;(try go_bits);refine hK2 _ _ ?_;clear hK2 K2))
        exact ⟨min c.fin y1, by omega, by omega, (by first|(go_simp;done)|(go_simp;go_num;done)|assumption), (by first|(go_simp;done)|(go_simp;go_num;done)|assumption), (by first|(go_simp;done)|(go_simp;go_num;done)|assumption), (by first|(go_simp;done)|(go_simp;go_num;done)|assumption), (by first|(go_simp;done)|(go_simp;go_num;done)|assumption), (by first|(go_simp;done)|(go_simp;go_num;done)|assumption), (by first|(go_simp;done)|(go_simp;go_num;done)|assumption), Lib.hid ⟨by omega, by omega, fun _ => by omega⟩, Lib.hid (fun e h2 h3 => by have := h3 h1; omega), rfl⟩
      · have h1i : ¬ ((j : Int) + 1 < (c.words.length : Nat)) := by omega
        repeat' (first|(with_reducible first|refine zA ?_|refine zB fun K hK=>?_|refine zC fun K2 hK2=>?_|refine zD ?_|refine zE ?_|refine zF ?_|refine zG ?_|refine zH ?_|refine zI ?_|refine zJ ?_|refine zK ?_|refine zL ?_|refine zM ?_|refine zN ?_|refine zO ?_|refine zP ?_|refine zQ ?_|refine zR ?_|refine zS ?_|refine zT ?_)|((with_reducible refine zU (hK _ _ ?_));clear hK K)|((with_reducible refine zV ?_ ?_ fun K1 K3 d hdst h1 h3=>?_);rfl;exact yB rfl;cases hdst;go_simp)|((with_reducible refine zW fun K1 K3 h1 h3=>?_);go_simp)|((first|refine h1 ?_|refine h3 ?_);clear h1 h3 K1 K3)|((first|refine zX (fun hb=>h1 ?_) (fun hb=>h3 ?_)|refine zX (fun hb=>h3 ?_) (fun hb=>h1 ?_))<;>(clear h1 h3 K1 K3;(try have hb2:=yC hb);(try have hb2:=yD hb);(try have hb2:=yE hb);(try have hb2:=yF hb);(try have hb2:=yG hb)))|(refine fun (K2:_→AHeap→Prop) hK2=>?_)|((with_reducible refine zY ?_ ?_);decide)|((with_reducible first|refine zZ ?_ (fun K hK=>?_)|refine yA ?_ (fun K hK=>?_));(focus go_simp;done);go_simp;refine hK _ _ ?_;clear hK K)|(go_simp;(try go_bits);refine hK2 _ _ ?_;clear hK2 K2))
        exact ⟨c.fin, by omega, by omega, (by first|(go_simp;done)|(go_simp;go_num;done)|assumption), (by first|(go_simp;done)|(go_simp;go_num;done)|assumption), (by first|(go_simp;done)|(go_simp;go_num;done)|assumption), (by first|(go_simp;done)|(go_simp;go_num;done)|assumption), (by first|(go_simp;done)|(go_simp;go_num;done)|assumption), (by first|(go_simp;done)|(go_simp;go_num;done)|assumption), (by first|(go_simp;done)|(go_simp;go_num;done)|assumption), Lib.hid ⟨by omega, by omega, fun h => absurd h h1⟩, Lib.hid (fun e h2 h3 => h2), rfl⟩
    · clear f5 f6 f7 f2 f3 hd f
      rintro f H9 ⟨D, hD0, hD1, f8, f7, f5, f6, f2, f3, hd, HD, HDA, rfl⟩
      repeat' (first|((with_reducible refine stop_if (n := 9) ?_))|(with_reducible first|refine zA ?_|refine zB fun K hK=>?_|refine zC fun K2 hK2=>?_|refine zD ?_|refine zE ?_|refine zF ?_|refine zG ?_|refine zH ?_|refine zI ?_|refine zJ ?_|refine zK ?_|refine zL ?_|refine zM ?_|refine zN ?_|refine zO ?_|refine zP ?_|refine zQ ?_|refine zR ?_|refine zS ?_|refine zT ?_)|((with_reducible refine zU (hK _ _ ?_));clear hK K)|((with_reducible refine zV ?_ ?_ fun K1 K3 d hdst h1 h3=>?_);rfl;exact yB rfl;cases hdst;go_simp)|((with_reducible refine zW fun K1 K3 h1 h3=>?_);go_simp)|((first|refine h1 ?_|refine h3 ?_);clear h1 h3 K1 K3)|((first|refine zX (fun hb=>h1 ?_) (fun hb=>h3 ?_)|refine zX (fun hb=>h3 ?_) (fun hb=>h1 ?_))<;>(clear h1 h3 K1 K3;(try have hb2:=yC hb);(try have hb2:=yD hb);(try have hb2:=yE hb);(try have hb2:=yF hb);(try have hb2:=yG hb)))|(refine fun (K2:_→AHeap→Prop) hK2=>?_)|((with_reducible refine zY ?_ ?_);decide)|((with_reducible first|refine zZ ?_ (fun K hK=>?_)|refine yA ?_ (fun K hK=>?_));(focus go_simp;done);go_simp;refine hK _ _ ?_;clear hK K)|(go_simp;(try go_bits);refine hK2 _ _ ?_;clear hK2 K2))
      refine ⟨CodeS.cut (fun f H'' => ∃ D : Int, y ≤ D ∧ D ≤ 730 ∧ f.tmp 8 = .int .i64 D ∧ f.tmp 7 = .int .i64 (j : Nat) ∧ f.tmp 5 = .int .i64 (c.words.length : Nat) ∧ f.tmp 6 = .slice (some ⟨H.n + 2, 0, none⟩) c.words.length c.words.length ∧ f.tmp 2 = .pointer (some ⟨H.n, 0, none⟩) ∧ f.tmp 3 = .pointer (some ⟨H.n + 1, 0, none⟩) ∧ f.defers = [] ∧ Hid (D ≤ c.fin ∧ (j + 1 < c.words.length → D ≤ lt.getD (j + 1) 0) ∧ (j + p < c.words.length → D + 1 ≤ lt.getD (j + p) 0)) ∧ H'' = H9) ?_ ?_⟩
      · by_cases h1 : j + p < c.words.length
        · have hy1 := HINH.out (j + p) h1
          have hc9 : cellAt H9 (H.n + 2) (j + p) = some (.int .i64 (lt.getD (j + p) 0)) := by rw [HCELL.out _ h1, HG.out _ (by omega) h1]
          have hyn := HNP.out h1
          generalize hy2 : lt.getD (j + p) 0 = y2 at hy1 hc9 hyn
          have HY2 := Lib.hid hy2
          have h1i : (j : Int) + (p : Int) < (c.words.length : Nat) := by omega
          have h0i : (0 : Int) ≤ (j : Int) + (p : Int) := by omega
          have hti : ((j : Int) + (p : Int)).toNat = j + p := by omega
          clear hy2
          repeat' (first|(with_reducible first|refine zA ?_|refine zB fun K hK=>?_|refine zC fun K2 hK2=>?_|refine zD ?_|refine zE ?_|refine zF ?_|refine zG ?_|refine zH ?_|refine zI ?_|refine zJ ?_|refine zK ?_|refine zL ?_|refine zM ?_|refine zN ?_|refine zO ?_|refine zP ?_|refine zQ ?_|refine zR ?_|refine zS ?_|refine zT ?_)|((with_reducible refine zU (hK _ _ ?_));clear hK K)|((with_reducible refine zV ?_ ?_ fun K1 K3 d hdst h1 h3=>?_);rfl;exact yB rfl;cases hdst;go_simp)|((with_reducible refine zW fun K1 K3 h1 h3=>?_);go_simp)|((first|refine h1 ?_|refine h3 ?_);clear h1 h3 K1 K3)|((first|refine zX (fun hb=>h1 ?_) (fun hb=>h3 ?_)|refine zX (fun hb=>h3 ?_) (fun hb=>h1 ?_))<;>(clear h1 h3 K1 K3;(try have hb2:=yC hb);(try have hb2:=yD hb);(try have hb2:=yE hb);(try have hb2:=yF hb);(try have hb2:=yG hb)))|(refine fun (K2:_→AHeap→Prop) hK2=>?_)|((with_reducible refine zY ?_ ?_);decide)|((with_reducible first|refine zZ ?_ (fun K hK=>?_)|refine yA ?_ (fun K hK=>?_));(focus go_simp;done);go_simp;refine hK _ _ ?_;clear hK K)|(go_simp;(try go_bits);refine hK2 _ _ ?_;clear hK2 K2))
          exact ⟨min D (y2 - 1), by have := HD.out; omega, by omega, (by first|(go_simp;done)|(go_simp;go_num;done)|assumption), (by first|(go_simp;done)|(go_simp;go_num;done)|assumption), (by first|(go_simp;done)|(go_simp;go_num;done)|assumption), (by first|(go_simp;done)|(go_simp;go_num;done)|assumption), (by first|(go_simp;done)|(go_simp;go_num;done)|assumption), (by first|(go_simp;done)|(go_simp;go_num;done)|assumption), (by first|(go_simp;done)|(go_simp;go_num;done)|assumption), Lib.hid ⟨by have := HD.out; omega, fun h => by have := HD.out.2.2 h; omega, fun h => by omega⟩, rfl⟩
        · have h1i : ¬ ((j : Int) + (p : Int) < (c.words.length : Nat)) := by omega
          repeat' (first|(with_reducible first|refine zA ?_|refine zB fun K hK=>?_|refine zC fun K2 hK2=>?_|refine zD ?_|refine zE ?_|refine zF ?_|refine zG ?_|refine zH ?_|refine zI ?_|refine zJ ?_|refine zK ?_|refine zL ?_|refine zM ?_|refine zN ?_|refine zO ?_|refine zP ?_|refine zQ ?_|refine zR ?_|refine zS ?_|refine zT ?_)|((with_reducible refine zU (hK _ _ ?_));clear hK K)|((with_reducible refine zV ?_ ?_ fun K1 K3 d hdst h1 h3=>?_);rfl;exact yB rfl;cases hdst;go_simp)|((with_reducible refine zW fun K1 K3 h1 h3=>?_);go_simp)|((first|refine h1 ?_|refine h3 ?_);clear h1 h3 K1 K3)|((first|refine zX (fun hb=>h1 ?_) (fun hb=>h3 ?_)|refine zX (fun hb=>h3 ?_) (fun hb=>h1 ?_))<;>(clear h1 h3 K1 K3;(try have hb2:=yC hb);(try have hb2:=yD hb);(try have hb2:=yE hb);(try have hb2:=yF hb);(try have hb2:=yG hb)))|(refine fun (K2:_→AHeap→Prop) hK2=>?_)|((with_reducible refine zY ?_ ?_);decide)|((with_reducible first|refine zZ ?_ (fun K hK=>?_)|refine yA ?_ (fun K hK=>?_));(focus go_simp;done);go_simp;refine hK _ _ ?_;clear hK K)|(go_simp;(try go_bits);refine hK2 _ _ ?_;clear hK2 K2))
          exact ⟨D, HD.out.1, by omega, (by first|(go_simp;done)|(go_simp;go_num;done)|assumption), (by first|(go_simp;done)|(go_simp;go_num;done)|assumption), (by first|(go_simp;done)|(go_simp;go_num;done)|assumption), (by first|(go_simp;done)|(go_simp;go_num;done)|assumption), (by first|(go_simp;done)|(go_simp;go_num;done)|assumption), (by first|(go_simp;done)|(go_simp;go_num;done)|assumption), (by first|(go_simp;done)|(go_simp;go_num;done)|assumption), Lib.hid ⟨HD.out.2.1, HD.out.2.2, fun h => absurd h h1⟩, rfl⟩
      clear HD HDA hD0 hD1 f8 f7 f5 f6 f2 f3 hd f D
      rintro f H9 ⟨D, hD0, hD1, f8, f7, f5, f6, f2, f3, hd, HD, rfl⟩
      repeat' (first|(with_reducible first|refine zA ?_|refine zB fun K hK=>?_|refine zC fun K2 hK2=>?_|refine zD ?_|refine zE ?_|refine zF ?_|refine zG ?_|refine zH ?_|refine zI ?_|refine zJ ?_|refine zK ?_|refine zL ?_|refine zM ?_|refine zN ?_|refine zO ?_|refine zP ?_|refine zQ ?_|refine zR ?_|refine zS ?_|refine zT ?_)|((with_reducible refine zU (hK _ _ ?_));clear hK K)|((with_reducible refine zV ?_ ?_ fun K1 K3 d hdst h1 h3=>?_);rfl;exact yB rfl;cases hdst;go_simp)|((with_reducible refine zW fun K1 K3 h1 h3=>?_);go_simp)|((first|refine h1 ?_|refine h3 ?_);clear h1 h3 K1 K3)|((first|refine zX (fun hb=>h1 ?_) (fun hb=>h3 ?_)|refine zX (fun hb=>h3 ?_) (fun hb=>h1 ?_))<;>(clear h1 h3 K1 K3;(try have hb2:=yC hb);(try have hb2:=yD hb);(try have hb2:=yE hb);(try have hb2:=yF hb);(try have hb2:=yG hb)))|(refine fun (K2:_→AHeap→Prop) hK2=>?_)|((with_reducible refine zY ?_ ?_);decide)|((with_reducible first|refine zZ ?_ (fun K hK=>?_)|refine yA ?_ (fun K hK=>?_));(focus go_simp;done);go_simp;refine hK _ _ ?_;clear hK K)|(go_simp;(try go_bits);refine hK2 _ _ ?_;clear hK2 K2))
      refine CodeS.loop (fun m f H'' => ∃ d : Int, y ≤ d ∧ d ≤ D ∧ m = (d - y).toNat ∧ f.tmp 8 = .int .i64 d ∧ f.tmp 7 = .int .i64 (j : Nat) ∧ f.tmp 5 = .int .i64 (c.words.length : Nat) ∧ f.tmp 6 = .slice (some ⟨H.n + 2, 0, none⟩) c.words.length c.words.length ∧ f.tmp 2 = .pointer (some ⟨H.n, 0, none⟩) ∧ f.tmp 3 = .pointer (some ⟨H.n + 1, 0, none⟩) ∧ f.defers = [] ∧ H'' = H9) (D - y).toNat ?_ ?_
      · exact ⟨D, hD0, Int.le_refl _, rfl, (by first|(go_simp;done)|(go_simp;go_num;done)|assumption), (by first|(go_simp;done)|(go_simp;go_num;done)|assumption), (by first|(go_simp;done)|(go_simp;go_num;done)|assumption), (by first|(go_simp;done)|(go_simp;go_num;done)|assumption), (by first|(go_simp;done)|(go_simp;go_num;done)|assumption), (by first|(go_simp;done)|(go_simp;go_num;done)|assumption), (by first|(go_simp;done)|(go_simp;go_num;done)|assumption), rfl⟩
      clear f8 f7 f5 f6 f2 f3 hd f
      rintro m f H8 ⟨d, hd1', hd2', rfl, f8, f7, f5, f6, f2, f3, hd, hH8⟩
      subst hH8
      have hcn2 := fun (loops : List (Nat × LInfo)) => HCAN.out loops d
      have HEQ : Hid ((hasOn s j d).offers w = true → d = y) := Lib.hid (fun h => by
        have := HTOP.out d (by omega) (by have := HD.out.1; omega) (by rw [HWD.out]; exact h) (fun h1 => by have := HD.out.2.1 h1; omega) (fun h1 => by have := HD.out.2.2 h1; omega)
        omega)
      have HNE : Hid ((hasOn s j d).offers w = false → y < d) := Lib.hid (fun h => by
        rcases Int.lt_or_le y d with h1 | h1
        · exact h1
        · have h2 : d = y := by omega
          have h3 := HAT.out
          rw [HWD.out, ← h2, h] at h3; cases h3)
      generalize (hasOn s j d).offers w = bb at hcn2 HEQ HNE
      have HCN := Lib.hid hcn2
      clear hcn2
      have hdb : c.beg ≤ d := by omega
      have hj1 : (j : Int) < (c.words.length : Nat) := by omega
      have hlm : j < L.length := by rw [HLL.out]; exact hj
      repeat' (first|(with_reducible first|refine zA ?_|refine zB fun K hK=>?_|refine zC fun K2 hK2=>?_|refine zD ?_|refine zE ?_|refine zF ?_|refine zG ?_|refine zH ?_|refine zI ?_|refine zJ ?_|refine zK ?_|refine zL ?_|refine zM ?_|refine zN ?_|refine zO ?_|refine zP ?_|refine zQ ?_|refine zR ?_|refine zS ?_|refine zT ?_)|((with_reducible refine zU (hK _ _ ?_));clear hK K)|((with_reducible refine zV ?_ ?_ fun K1 K3 d hdst h1 h3=>?_);rfl;exact yB rfl;cases hdst;go_simp)|((with_reducible refine zW fun K1 K3 h1 h3=>?_);go_simp)|((first|refine h1 ?_|refine h3 ?_);clear h1 h3 K1 K3)|((first|refine zX (fun hb=>h1 ?_) (fun hb=>h3 ?_)|refine zX (fun hb=>h3 ?_) (fun hb=>h1 ?_))<;>(clear h1 h3 K1 K3;(try have hb2:=yC hb);(try have hb2:=yD hb);(try have hb2:=yE hb);(try have hb2:=yF hb);(try have hb2:=yG hb)))|(refine fun (K2:_→AHeap→Prop) hK2=>?_)|((with_reducible refine zY ?_ ?_);decide)|((with_reducible first|refine zZ ?_ (fun K hK=>?_)|refine yA ?_ (fun K hK=>?_));(focus go_simp;done);go_simp;refine hK _ _ ?_;clear hK K)|((with_reducible refine yH mixed rfl ?_ 20 fun K0 hK0=>?_);kernel_rfl)|(with_reducible first|exact yI|exact yJ|refine yK ?_|refine yL ?_|refine yM ?_)|((with_reducible first|refine yN ?_ ?_|refine yO ?_ ?_|refine yP ?_ ?_);rfl)|((with_reducible refine yQ ?_ ?_);rfl;refine hK0 _ _ ?_;clear hK0 K0)|((with_reducible refine yR ?_ ?_ ?_ ?_);rfl;rfl;rfl)|((with_reducible refine yS ?_ ?_ ?_ fun K2 hK2=>?_);rfl;rfl;exact yB rfl)|((with_reducible refine yT ?_ ?_ ?_ ?_ fun K1 K3 d hdst h1 h3=>?_);rfl;rfl;rfl;exact yB rfl;cases hdst;go_simp)|((with_reducible refine yU ?_ ?_ ?_ ?_ fun K1 K3 d hdst h1 h3=>?_);rfl;rfl;rfl;exact yB rfl;cases hdst;go_simp)|((with_reducible refine yV ?_ ?_ (fun K2 hK2=>?_) ?_);rfl;exact yB rfl)|((with_reducible refine yW ?_ ?_ ?_ ?_ (fun K2 hK2=>?_) ?_);rfl;exact yB rfl;rfl;(focus go_simp;done))|((with_reducible refine yX ?_ ?_ ?_ (fun K2 hK2=>?_) ?_);rfl;rfl;exact yB rfl)|((with_reducible refine yY ?_ ?_ (fun K2 hK2=>?_) ?_);rfl;rfl)|((with_reducible refine yZ ?_ ?_);(first|rfl|(dsimp only;decide +kernel)))|((with_reducible refine xA ?_ ?_);(focus go_simp;done))|(go_simp;(try go_bits);(try first | ((with_reducible show CallS _ _ _ _ _ _);refine CallS.mono (HCN.out _) ?_; rintro _ _ ⟨rfl, h9⟩; rw [h9]; clear h9));(first|(refine hK2 _ _ ?_ ?_<;>clear hK2 K2)|(refine hK2 _ _ ?_;clear hK2 K2))))
      all_goals first
        | (exfalso; omega)
        | (have hbf : bb = false := by simpa using ‹(!bb) = true›
           have := HNE.out hbf
           exact Post.round_normal ⟨(d - 1 - y).toNat, by omega, d - 1, by omega, by omega, rfl, (by first|(go_simp;done)|(go_simp;go_num;done)|assumption), (by first|(go_simp;done)|(go_simp;go_num;done)|assumption), (by first|(go_simp;done)|(go_simp;go_num;done)|assumption), (by first|(go_simp;done)|(go_simp;go_num;done)|assumption), (by first|(go_simp;done)|(go_simp;go_num;done)|assumption), (by first|(go_simp;done)|(go_simp;go_num;done)|assumption), (by first|(go_simp;done)|(go_simp;go_num;done)|assumption), rfl⟩)
        | skip
      have hbt : bb = true := by simpa using ‹(!bb) = false›
      have hdy := HEQ.out hbt
      refine Post.round_normal ⟨j, by omega, j, (j : Int) - 1, L.set j d, by omega, rfl, rfl, by simp [HLL.out], (by first|(go_simp;done)|(go_simp;go_num;done)|assumption), (by first|(go_simp;done)|(go_simp;go_num;done)|assumption), (by first|(go_simp;done)|(go_simp;go_num;done)|assumption), (by first|(go_simp;done)|(go_simp;go_num;done)|assumption), (by first|(go_simp;done)|(go_simp;go_num;done)|assumption), (by first|(go_simp;done)|(go_simp;go_num;done)|assumption), Lib.hid (fun i h1 h2 => ?_), by rw [AHeap.n_upd]; omega, Lib.hid (HX.out.upd (by omega) _), Lib.hid ?_, Lib.hid ?_, Lib.hid ?_⟩
      · rw [getD_set _ _ _ _ hlm]
        by_cases hij : i = j
        · rw [if_pos hij, hij, hdy, HLJ.out]
        · rw [if_neg hij, HG.out i (by omega) h2]
      · rw [AHeap.get_upd_ne (by omega)]; exact HG0.out
      · rw [AHeap.get_upd_ne (by omega)]; exact HG1.out
      · rw [AHeap.get_upd_same, List.map_set]
end Go.Proofs.Try
namespace Go.Proofs.Try
open Go Go.Am Go.RowKit Go.Co
set_option maxRecDepth 100000

set_option maxHeartbeats 8000000 in
theorem refFirst_e {loops : List (Nat × LInfo)} {H : AHeap} {sv cv : Value} {s : Sheet} {c : Copy} (hs : SheetV H sv s) (hc : CopyV H cv c) (he : errCopy s c = 0) : CallS Try.prog loops 77 [sv, cv] H fun r H' => Own H' H.n r 3 1 (((courseOf s c).early c.per.toNat 0).map (Value.int .i64)) ∧ Ext H H' := by
  have HV := Lib.hid hs
  obtain ⟨wv, av, rfl, hw, ha⟩ := hs
  obtain ⟨hwl, wa, wc, rfl⟩ := hw.slice
  obtain ⟨hal, aa, ac, rfl⟩ := ha.slice
  obtain ⟨cv, rfl, hcw⟩ := hc
  obtain ⟨hcl, ca, cc, rfl⟩ := hcw.slice
  have HCW := Lib.hid hcw
  clear hw ha hcw
  obtain ⟨he0, hlen, hwo, hb0, hb1, hb2, hp1, hp2⟩ := errCopy_ok he
  have hwn : s.words.length ≤ 40 := by have := (win_iff.1 (err_ok he0).2.1).2; omega
  have hcn : c.words.length ≤ 40 := by omega
  have HLEN := Lib.hid hlen
  have HERR := Lib.hid he
  have hper : c.per = ((c.per.toNat : Nat) : Int) := by omega
  have hp3 : 1 ≤ c.per.toNat := by omega
  have HNX := Lib.hid (fun (i : Nat) (hi : i < c.words.length) (f d : Int) => nx_of he hi (f := f) (d := d))
  have HORD := Lib.hid (courseOf_ord he)
  generalize hr : (courseOf s c).early c.per.toNat 0 = res
  have HE : Hid (Co.early (courseOf s c).nx c.per.toNat 0 c.words.length [] = res) := Lib.hid (by rw [← hr, Course.early, courseOf_len])
  generalize c.per.toNat = p at HE hper hp3
  have HPE := Lib.hid hper
  rw [hper] at hp1 hp2
  clear hr he he0 hlen hwo
  refine CallS.enter' Try.func77 rfl Try.ntmps77 (by simp) fun f hd hf => ?_
  have f0 := hf 0
  have f1 := hf 1
  simp at f0 f1
  clear hf
  rw [hper] at f1
  clear hper
  repeat' (first|(with_reducible first|refine zA ?_|refine zB fun K hK=>?_|refine zC fun K2 hK2=>?_|refine zD ?_|refine zE ?_|refine zF ?_|refine zG ?_|refine zH ?_|refine zI ?_|refine zJ ?_|refine zK ?_|refine zL ?_|refine zM ?_|refine zN ?_|refine zO ?_|refine zP ?_|refine zQ ?_|refine zR ?_|refine zS ?_|refine zT ?_)|((with_reducible refine zU (hK _ _ ?_));clear hK K)|((with_reducible refine zV ?_ ?_ fun K1 K3 d hdst h1 h3=>?_);rfl;exact yB rfl;cases hdst;go_simp)|((with_reducible refine zW fun K1 K3 h1 h3=>?_);go_simp)|((first|refine h1 ?_|refine h3 ?_);clear h1 h3 K1 K3)|((first|refine zX (fun hb=>h1 ?_) (fun hb=>h3 ?_)|refine zX (fun hb=>h3 ?_) (fun hb=>h1 ?_))<;>(clear h1 h3 K1 K3;(try have hb2:=yC hb);(try have hb2:=yD hb);(try have hb2:=yE hb);(try have hb2:=yF hb);(try have hb2:=yG hb)))|(refine fun (K2:_→AHeap→Prop) hK2=>?_)|((with_reducible refine zY ?_ ?_);decide)|((with_reducible first|refine zZ ?_ (fun K hK=>?_)|refine yA ?_ (fun K hK=>?_));(focus go_simp;done);go_simp;refine hK _ _ ?_;clear hK K)|((with_reducible refine yH mixed rfl ?_ 20 fun K0 hK0=>?_);kernel_rfl)|(with_reducible first|exact yI|exact yJ|refine yK ?_|refine yL ?_|refine yM ?_)|((with_reducible first|refine yN ?_ ?_|refine yO ?_ ?_|refine yP ?_ ?_);rfl)|((with_reducible refine yQ ?_ ?_);rfl;refine hK0 _ _ ?_;clear hK0 K0)|((with_reducible refine yR ?_ ?_ ?_ ?_);rfl;rfl;rfl)|((with_reducible refine yS ?_ ?_ ?_ fun K2 hK2=>?_);rfl;rfl;exact yB rfl)|((with_reducible refine yT ?_ ?_ ?_ ?_ fun K1 K3 d hdst h1 h3=>?_);rfl;rfl;rfl;exact yB rfl;cases hdst;go_simp)|((with_reducible refine yU ?_ ?_ ?_ ?_ fun K1 K3 d hdst h1 h3=>?_);rfl;rfl;rfl;exact yB rfl;cases hdst;go_simp)|((with_reducible refine yV ?_ ?_ (fun K2 hK2=>?_) ?_);rfl;exact yB rfl)|((with_reducible refine yW ?_ ?_ ?_ ?_ (fun K2 hK2=>?_) ?_);rfl;exact yB rfl;rfl;(focus go_simp;done))|((with_reducible refine yX ?_ ?_ ?_ (fun K2 hK2=>?_) ?_);rfl;rfl;exact yB rfl)|((with_reducible refine yY ?_ ?_ (fun K2 hK2=>?_) ?_);rfl;rfl)|((with_reducible refine yZ ?_ ?_);(first|rfl|(dsimp only;decide +kernel)))|((with_reducible refine xA ?_ ?_);(focus go_simp;done))|(go_simp;(try go_bits);(first|(refine hK2 _ _ ?_ ?_<;>clear hK2 K2)|(refine hK2 _ _ ?_;clear hK2 K2))))
  refine CodeS.loop (fun m f H' => ∃ (k : Nat) (v : Value) (acc : List Int), k ≤ c.words.length ∧ acc.length = k ∧ m = c.words.length - k ∧ f.tmp 6 = .int .i64 k ∧ f.tmp 2 = .pointer (some ⟨H.n, 0, none⟩) ∧ f.tmp 3 = .pointer (some ⟨H.n + 1, 0, none⟩) ∧ f.tmp 5 = v ∧ f.defers = [] ∧ Hid (Co.early (courseOf s c).nx p 0 (c.words.length - k) acc = res) ∧ Hid (∀ y, y ∈ acc → 0 ≤ y ∧ y ≤ 730) ∧ H.n + 1 < H'.n ∧ Hid (Ext H H') ∧ Hid (H'.get H.n = .row [Value.slice wa s.words.length wc, Value.slice aa s.alts.length ac] 25) ∧ Hid (H'.get (H.n + 1) = .row [Value.slice ca c.words.length cc, .int .i64 c.beg, .int .i64 c.fin, .int .i64 p] 27) ∧ Hid (Own H' (H.n + 2) v 3 1 (acc.map (Value.int .i64)))) c.words.length ?_ ?_
  · refine ⟨0, .slice none 0 0, [], by simp, rfl, by simp, (by first|(go_simp;done)|(go_simp;go_num;done)|assumption), (by first|(go_simp;done)|(go_simp;go_num;done)|assumption), (by first|(go_simp;done)|(go_simp;go_num;done)|assumption), (by first|(go_simp;done)|(go_simp;go_num;done)|assumption), (by first|(go_simp;done)|(go_simp;go_num;done)|assumption), HE, Lib.hid (by simp), by simp only [AHeap.n_push]; omega, Lib.hid (((Ext.refl _).push' _).push' _), Lib.hid ?_, Lib.hid ?_, Lib.hid Own.nil⟩
    · rw [AHeap.get_push_old (by simp only [AHeap.n_push]; omega), get_at rfl]
    · rw [get_at (by simp only [AHeap.n_push])]
  clear f0 f1 hd f HE
  rintro m f H' ⟨k, v, acc, hk, hak, rfl, f6, f2, f3, f5, hd, HG, HB, hn0, HX, HG0, HG1, HO⟩
  have hg0 := HG0.out
  have hg1 := HG1.out
  have hc2 : cellsAt H' H.n 0 2 = some [Value.slice wa s.words.length wc, Value.slice aa s.alts.length ac] := by simp [cellsAt, hg0]
  have hd0 : cellAt H' (H.n + 1) 0 = some (Value.slice ca c.words.length cc) := by simp [cellAt, hg1]
  have hd1 : cellAt H' (H.n + 1) 1 = some (.int .i64 c.beg) := by simp [cellAt, hg1]
  have hd2 : cellAt H' (H.n + 1) 2 = some (.int .i64 c.fin) := by simp [cellAt, hg1]
  have hd3 : cellAt H' (H.n + 1) 3 = some (.int .i64 p) := by simp [cellAt, hg1]
  have HAK := Lib.hid hak
  have hn1 : H.n < H'.n := by omega
  clear hg0 hg1 hak
  by_cases hlt : k < c.words.length
  · obtain ⟨b, o, sp, rfl, hb, hxw⟩ := (HCW.out.ext HX.out).at_ hlt
    have HWD : Hid (c.words.getD k 0 = c.words[k]) := Lib.hid (by simp [List.getD_eq_getElem?_getD, hlt])
    generalize c.words[k] = w at hxw HWD
    have HI : Hid (Ints H' v acc) := Lib.hid (ints_of_own HO.out (by have := HAK.out; omega))
    obtain ⟨-, va, vc, rfl⟩ := HI.out.slice
    have HCAN := Lib.hid (fun (loops : List (Nat × LInfo)) (d : Int) => can_s (loops := loops) (d := d) (w := w) (HV.out.ext HX.out) (show (0 : Int) ≤ (k : Int) by omega) (by have := HLEN.out; omega))
    have HST : Hid (Co.early (courseOf s c).nx p 0 (c.words.length - k) acc = if (courseOf s c).nx k (max 0 (lowL p acc k)) = 731 then acc else Co.early (courseOf s c).nx p 0 (c.words.length - (k + 1)) (acc ++ [(courseOf s c).nx k (max 0 (lowL p acc k))])) := Lib.hid (by
      have := HAK.out
      rw [show c.words.length - k = (c.words.length - (k + 1)) + 1 by omega, Co.early, this])
    have HNK := Lib.hid (HNX.out k hlt (lowL p acc k))
    have hget : ∀ j, j < k → Hid (0 ≤ acc.getD j 0 ∧ acc.getD j 0 ≤ 730) := fun j hj => Lib.hid (by
      have h1 : j < acc.length := by have := HAK.out; omega
      rw [List.getD_eq_getElem?_getD, List.getElem?_eq_getElem h1]
      exact HB.out _ (List.getElem_mem h1))
    have HGT := Lib.hid hget
    clear hget
    have hbig : ((acc.map (Value.int .i64)).length + 1) * max 8 1 ≤ 1073741824 := by have := HAK.out; simp; omega
    have HBIG := Lib.hid hbig
    clear hbig
    rcases Nat.eq_zero_or_pos k with hk0 | hk0
    · have hk1 : ¬ (0 < (k : Int)) := by omega
      have hk2 : ¬ ((p : Int) ≤ (k : Int)) := by omega
      have hk4 : ¬ (p ≤ k) := by omega
      have hk5 : ¬ (0 < k) := by omega
      have HD : Hid (c.beg = max c.beg (lowL p acc k)) := Lib.hid (by
        have : lowL p acc k = 0 := by simp [lowL, hk4, show ¬ 1 ≤ k by omega]
        omega)
      have HDR : Hid (c.beg ≤ 731) := Lib.hid (by omega)
      have HK0 := Lib.hid hk0
      clear hk0
      repeat' (first|(with_reducible first|refine zA ?_|refine zB fun K hK=>?_|refine zC fun K2 hK2=>?_|refine zD ?_|refine zE ?_|refine zF ?_|refine zG ?_|refine zH ?_|refine zI ?_|refine zJ ?_|refine zK ?_|refine zL ?_|refine zM ?_|refine zN ?_|refine zO ?_|refine zP ?_|refine zQ ?_|refine zR ?_|refine zS ?_|refine zT ?_)|((with_reducible refine zU (hK _ _ ?_));clear hK K)|((with_reducible refine zV ?_ ?_ fun K1 K3 d hdst h1 h3=>?_);rfl;exact yB rfl;cases hdst;go_simp)|((with_reducible refine zW fun K1 K3 h1 h3=>?_);go_simp)|((first|refine h1 ?_|refine h3 ?_);clear h1 h3 K1 K3)|((first|refine zX (fun hb=>h1 ?_) (fun hb=>h3 ?_)|refine zX (fun hb=>h3 ?_) (fun hb=>h1 ?_))<;>(clear h1 h3 K1 K3;(try have hb2:=yC hb);(try have hb2:=yD hb);(try have hb2:=yE hb);(try have hb2:=yF hb);(try have hb2:=yG hb)))|(refine fun (K2:_→AHeap→Prop) hK2=>?_)|((with_reducible refine zY ?_ ?_);decide)|((with_reducible first|refine zZ ?_ (fun K hK=>?_)|refine yA ?_ (fun K hK=>?_));(focus go_simp;done);go_simp;refine hK _ _ ?_;clear hK K)|((with_reducible refine yH mixed rfl ?_ 20 fun K0 hK0=>?_);kernel_rfl)|(with_reducible first|exact yI|exact yJ|refine yK ?_|refine yL ?_|refine yM ?_)|((with_reducible first|refine yN ?_ ?_|refine yO ?_ ?_|refine yP ?_ ?_);rfl)|((with_reducible refine yQ ?_ ?_);rfl;refine hK0 _ _ ?_;clear hK0 K0)|((with_reducible refine yR ?_ ?_ ?_ ?_);rfl;rfl;rfl)|((with_reducible refine yS ?_ ?_ ?_ fun K2 hK2=>?_);rfl;rfl;exact yB rfl)|((with_reducible refine yT ?_ ?_ ?_ ?_ fun K1 K3 d hdst h1 h3=>?_);rfl;rfl;rfl;exact yB rfl;cases hdst;go_simp)|((with_reducible refine yU ?_ ?_ ?_ ?_ fun K1 K3 d hdst h1 h3=>?_);rfl;rfl;rfl;exact yB rfl;cases hdst;go_simp)|((with_reducible refine yV ?_ ?_ (fun K2 hK2=>?_) ?_);rfl;exact yB rfl)|((with_reducible refine yW ?_ ?_ ?_ ?_ (fun K2 hK2=>?_) ?_);rfl;exact yB rfl;rfl;(focus go_simp;done))|((with_reducible refine yX ?_ ?_ ?_ (fun K2 hK2=>?_) ?_);rfl;rfl;exact yB rfl)|((with_reducible refine yY ?_ ?_ (fun K2 hK2=>?_) ?_);rfl;rfl)|((with_reducible refine yZ ?_ ?_);(first|rfl|(dsimp only;decide +kernel)))|((with_reducible refine xA ?_ ?_);(focus go_simp;done))|(go_simp;(try go_bits);(first|(refine hK2 _ _ ?_ ?_<;>clear hK2 K2)|(refine hK2 _ _ ?_;clear hK2 K2))))
      clear hk1 hk2 hk4 hk5
      refine CodeS.loop (fun m f H'' => ∃ d : Int, c.beg ≤ d ∧ d ≤ 731 ∧ m = (731 - d).toNat ∧ f.tmp 7 = .int .i64 d ∧ f.tmp 6 = .int .i64 k ∧ f.tmp 2 = .pointer (some ⟨H.n, 0, none⟩) ∧ f.tmp 3 = .pointer (some ⟨H.n + 1, 0, none⟩) ∧ f.tmp 5 = .slice va acc.length vc ∧ f.defers = [] ∧ Hid (∀ e, c.beg ≤ e → e < d → (hasOn s k e).offers w = false) ∧ H' = H'') (731 - (c.beg)).toNat ?_ ?_
      · exact ⟨c.beg, Int.le_refl _, HDR.out, rfl, (by first|(go_simp;done)|(go_simp;go_num;done)|assumption), (by first|(go_simp;done)|(go_simp;go_num;done)|assumption), (by first|(go_simp;done)|(go_simp;go_num;done)|assumption), (by first|(go_simp;done)|(go_simp;go_num;done)|assumption), (by first|(go_simp;done)|(go_simp;go_num;done)|assumption), (by first|(go_simp;done)|(go_simp;go_num;done)|assumption), Lib.hid (fun e h1 h2 => by omega), rfl⟩
      clear f6 f2 f3 f5 hd f
      rintro m f H9 ⟨d, hd1', hd2', rfl, f7, f6, f2, f3, f5, hd, HNO, hH9⟩
      subst hH9
      have hcn2 := fun (loops : List (Nat × LInfo)) => HCAN.out loops d
      have HFI : Hid ((hasOn s k d).offers w = true ∨ c.fin < d → (courseOf s c).nx k (max 0 (lowL p acc k)) = if d ≤ c.fin then d else 731) := Lib.hid (fun h => HNK.out d (by rw [← HD.out]; exact hd1') (fun e h1 h2 => by rw [HWD.out]; exact HNO.out e (by rw [HD.out]; exact h1) h2) (fun h1 => by rw [HWD.out]; rcases h with h | h; exact h; omega))
      have HNO2 : Hid ((hasOn s k d).offers w = false → ∀ e, c.beg ≤ e → e < d + 1 → (hasOn s k e).offers w = false) := Lib.hid (fun h e h1 h2 => by
        by_cases h3 : e = d
        · rw [h3]; exact h
        · exact HNO.out e h1 (by omega))
      generalize (hasOn s k d).offers w = bb at hcn2 HFI HNO2
      have HCN := Lib.hid hcn2
      clear hcn2
      repeat' (first|(with_reducible first|refine zA ?_|refine zB fun K hK=>?_|refine zC fun K2 hK2=>?_|refine zD ?_|refine zE ?_|refine zF ?_|refine zG ?_|refine zH ?_|refine zI ?_|refine zJ ?_|refine zK ?_|refine zL ?_|refine zM ?_|refine zN ?_|refine zO ?_|refine zP ?_|refine zQ ?_|refine zR ?_|refine zS ?_|refine zT ?_)|((with_reducible refine zU (hK _ _ ?_));clear hK K)|((with_reducible refine zV ?_ ?_ fun K1 K3 d hdst h1 h3=>?_);rfl;exact yB rfl;cases hdst;go_simp)|((with_reducible refine zW fun K1 K3 h1 h3=>?_);go_simp)|((first|refine h1 ?_|refine h3 ?_);clear h1 h3 K1 K3)|((first|refine zX (fun hb=>h1 ?_) (fun hb=>h3 ?_)|refine zX (fun hb=>h3 ?_) (fun hb=>h1 ?_))<;>(clear h1 h3 K1 K3;(try have hb2:=yC hb);(try have hb2:=yD hb);(try have hb2:=yE hb);(try have hb2:=yF hb);(try have hb2:=yG hb)))|(refine fun (K2:_→AHeap→Prop) hK2=>?_)|((with_reducible refine zY ?_ ?_);decide)|((with_reducible first|refine zZ ?_ (fun K hK=>?_)|refine yA ?_ (fun K hK=>?_));(focus go_simp;done);go_simp;refine hK _ _ ?_;clear hK K)|((with_reducible refine yH mixed rfl ?_ 20 fun K0 hK0=>?_);kernel_rfl)|(with_reducible first|exact yI|exact yJ|refine yK ?_|refine yL ?_|refine yM ?_)|((with_reducible first|refine yN ?_ ?_|refine yO ?_ ?_|refine yP ?_ ?_);rfl)|((with_reducible refine yQ ?_ ?_);rfl;refine hK0 _ _ ?_;clear hK0 K0)|((with_reducible refine yR ?_ ?_ ?_ ?_);rfl;rfl;rfl)|((with_reducible refine yS ?_ ?_ ?_ fun K2 hK2=>?_);rfl;rfl;exact yB rfl)|((with_reducible refine yT ?_ ?_ ?_ ?_ fun K1 K3 d hdst h1 h3=>?_);rfl;rfl;rfl;exact yB rfl;cases hdst;go_simp)|((with_reducible refine yU ?_ ?_ ?_ ?_ fun K1 K3 d hdst h1 h3=>?_);rfl;rfl;rfl;exact yB rfl;cases hdst;go_simp)|((with_reducible refine yV ?_ ?_ (fun K2 hK2=>?_) ?_);rfl;exact yB rfl)|((with_reducible refine yW ?_ ?_ ?_ ?_ (fun K2 hK2=>?_) ?_);rfl;exact yB rfl;rfl;(focus go_simp;done))|((with_reducible refine yX ?_ ?_ ?_ (fun K2 hK2=>?_) ?_);rfl;rfl;exact yB rfl)|((with_reducible refine yY ?_ ?_ (fun K2 hK2=>?_) ?_);rfl;rfl)|((with_reducible refine yZ ?_ ?_);(first|rfl|(dsimp only;decide +kernel)))|((with_reducible refine xA ?_ ?_);(focus go_simp;done))|(go_simp;(try go_bits);(try first | ((with_reducible show CallS _ _ _ _ _ _);refine CallS.mono (HCN.out _) ?_; rintro _ _ ⟨rfl, h9⟩; rw [h9]; clear h9) | ((refine one_k el22 sz3 ze3 rfl (by decide) (by decide) rfl rfl ?_); go_simp) | ((refine append_k2 el22 sz3 by3 ze3 rfl (by decide) (HO.out.ext (Ext.push _)) (srcCells_new rfl) (by decide) rfl (by rw [List.all_append, oneV_list_int]; rfl) HBIG.out (by simp only [AHeap.n_push]; omega) fun v2 H4 ho4 hg4 => ?_); (have HO4 := Lib.hid ho4); (have HG4 := Lib.hid hg4); clear ho4 hg4; go_simp));(first|(refine hK2 _ _ ?_ ?_<;>clear hK2 K2)|(refine hK2 _ _ ?_;clear hK2 K2))))
      all_goals first
        | (exfalso; omega)
        | (have hbf : bb = false := by simpa using ‹(!bb) = true›
           refine Post.round_normal ⟨(731 - (d + 1)).toNat, by omega, d + 1, by omega, by omega, rfl, (by first|(go_simp;done)|(go_simp;go_num;done)|assumption), (by first|(go_simp;done)|(go_simp;go_num;done)|assumption), (by first|(go_simp;done)|(go_simp;go_num;done)|assumption), (by first|(go_simp;done)|(go_simp;go_num;done)|assumption), (by first|(go_simp;done)|(go_simp;go_num;done)|assumption), (by first|(go_simp;done)|(go_simp;go_num;done)|assumption), Lib.hid (HNO2.out hbf), rfl⟩)
        | (refine ⟨?_, HX.out⟩
           have h9 := HFI.out (.inr (by omega))
           rw [if_neg (by omega)] at h9
           have hr : acc = res := by rw [← HG.out, HST.out, if_pos h9]
           rw [← hr]
           exact HO.out.mono (by omega))
        | (have hbt : bb = true := by simpa using ‹(!bb) = false›
           have h9 := HFI.out (.inl hbt)
           rw [if_pos (by omega)] at h9
           have hx4 : Ext H H4 := HG4.out.ext (HO.out.ext (Ext.push _)) (by omega) (HX.out.push' _)
           have hk4' : ∀ i, i < H.n + 2 → H4.get i = H'.get i := fun i hi => by
             rw [HG4.out.2 i (by simp only [AHeap.n_push]; omega) (fun b n hv hn => by have := (own_block HO.out hv hn).1; omega), AHeap.get_push_old (by omega)]
           refine Post.round_normal ⟨c.words.length - (k + 1), by omega, k + 1, v2, acc ++ [d], by omega, by have := HAK.out; simp; omega, rfl, (by first|(go_simp;done)|(go_simp;go_num;done)|assumption), (by first|(go_simp;done)|(go_simp;go_num;done)|assumption), (by first|(go_simp;done)|(go_simp;go_num;done)|assumption), (by first|(go_simp;done)|(go_simp;go_num;done)|assumption), (by first|(go_simp;done)|(go_simp;go_num;done)|assumption), Lib.hid ?_, Lib.hid ?_, ?_, Lib.hid hx4, Lib.hid ?_, Lib.hid ?_, Lib.hid ?_⟩
           · rw [← HG.out, HST.out, h9, if_neg (by omega)]
           · intro y hy
             rcases List.mem_append.1 hy with h | h
             · exact HB.out y h
             · rw [List.mem_singleton.1 h]; omega
           · have := HG4.out.1; simp only [AHeap.n_push] at this; omega
           · rw [hk4' _ (by omega)]; exact HG0.out
           · rw [hk4' _ (by omega)]; exact HG1.out
           · rw [List.map_append]; exact HO4.out.mono (by simp only [AHeap.n_push]; omega))
    · obtain ⟨b1, o1, sp1, rfl, hb1', hx1⟩ := HI.out.at_ (k := k - 1) (by have := HAK.out; omega)
      have hg1 : Hid (acc.getD (k - 1) 0 = acc[k - 1]'(by have := HAK.out; omega)) := Lib.hid (by simp [List.getD_eq_getElem?_getD, show k - 1 < acc.length by (have := HAK.out; omega)])
      have hy1 := (HGT.out (k - 1) (by omega)).out
      rw [hg1.out] at hy1
      generalize acc[k - 1]'(by have := HAK.out; omega) = y1 at hx1 hg1 hy1
      obtain ⟨hy1a, hy1b⟩ := hy1
      have h0i : (0 : Int) ≤ (k : Int) - 1 := by omega
      have h1i : (k : Int) - 1 < (acc.length : Int) := by have := HAK.out; omega
      have h2i : (1 : Int) ≤ (k : Int) := by omega
      have h3i : 1 ≤ k := by omega
      have h4i : k ≤ acc.length := by have := HAK.out; omega
      by_cases hpk : p ≤ k
      · obtain ⟨b2, o2, sp2, he2, hb2', hx2⟩ := HI.out.at_ (k := k - p) (by have := HAK.out; omega)
        cases he2
        have hg2 : Hid (acc.getD (k - p) 0 = acc[k - p]'(by have := HAK.out; omega)) := Lib.hid (by simp [List.getD_eq_getElem?_getD, show k - p < acc.length by (have := HAK.out; omega)])
        have hy2 := (HGT.out (k - p) (by omega)).out
        rw [hg2.out] at hy2
        generalize acc[k - p]'(by have := HAK.out; omega) = y2 at hx2 hg2 hy2
        obtain ⟨hy2a, hy2b⟩ := hy2
        have j0 : (0 : Int) ≤ (k : Int) - p := by omega
        have j1 : (k : Int) - p < (acc.length : Int) := by have := HAK.out; omega
        have j2 : (p : Int) ≤ (k : Int) := by omega
        have j3 : ((k : Int) - (p : Int)).toNat = k - p := by omega
        have HD : Hid (max (max c.beg y1) (y2 + 1) = max c.beg (lowL p acc k)) := Lib.hid (by
          have : lowL p acc k = max y1 (y2 + 1) := by simp only [lowL, if_pos hpk, if_pos h3i, hg1.out, hg2.out]
          omega)
        have HDR : Hid (max (max c.beg y1) (y2 + 1) ≤ 731) := Lib.hid (by omega)
        repeat' (first|(with_reducible first|refine zA ?_|refine zB fun K hK=>?_|refine zC fun K2 hK2=>?_|refine zD ?_|refine zE ?_|refine zF ?_|refine zG ?_|refine zH ?_|refine zI ?_|refine zJ ?_|refine zK ?_|refine zL ?_|refine zM ?_|refine zN ?_|refine zO ?_|refine zP ?_|refine zQ ?_|refine zR ?_|refine zS ?_|refine zT ?_)|((with_reducible refine zU (hK _ _ ?_));clear hK K)|((with_reducible refine zV ?_ ?_ fun K1 K3 d hdst h1 h3=>?_);rfl;exact yB rfl;cases hdst;go_simp)|((with_reducible refine zW fun K1 K3 h1 h3=>?_);go_simp)|((first|refine h1 ?_|refine h3 ?_);clear h1 h3 K1 K3)|((first|refine zX (fun hb=>h1 ?_) (fun hb=>h3 ?_)|refine zX (fun hb=>h3 ?_) (fun hb=>h1 ?_))<;>(clear h1 h3 K1 K3;(try have hb2:=yC hb);(try have hb2:=yD hb);(try have hb2:=yE hb);(try have hb2:=yF hb);(try have hb2:=yG hb)))|(refine fun (K2:_→AHeap→Prop) hK2=>?_)|((with_reducible refine zY ?_ ?_);decide)|((with_reducible first|refine zZ ?_ (fun K hK=>?_)|refine yA ?_ (fun K hK=>?_));(focus go_simp;done);go_simp;refine hK _ _ ?_;clear hK K)|((with_reducible refine yH mixed rfl ?_ 20 fun K0 hK0=>?_);kernel_rfl)|(with_reducible first|exact yI|exact yJ|refine yK ?_|refine yL ?_|refine yM ?_)|((with_reducible first|refine yN ?_ ?_|refine yO ?_ ?_|refine yP ?_ ?_);rfl)|((with_reducible refine yQ ?_ ?_);rfl;refine hK0 _ _ ?_;clear hK0 K0)|((with_reducible refine yR ?_ ?_ ?_ ?_);rfl;rfl;rfl)|((with_reducible refine yS ?_ ?_ ?_ fun K2 hK2=>?_);rfl;rfl;exact yB rfl)|((with_reducible refine yT ?_ ?_ ?_ ?_ fun K1 K3 d hdst h1 h3=>?_);rfl;rfl;rfl;exact yB rfl;cases hdst;go_simp)|((with_reducible refine yU ?_ ?_ ?_ ?_ fun K1 K3 d hdst h1 h3=>?_);rfl;rfl;rfl;exact yB rfl;cases hdst;go_simp)|((with_reducible refine yV ?_ ?_ (fun K2 hK2=>?_) ?_);rfl;exact yB rfl)|((with_reducible refine yW ?_ ?_ ?_ ?_ (fun K2 hK2=>?_) ?_);rfl;exact yB rfl;rfl;(focus go_simp;done))|((with_reducible refine yX ?_ ?_ ?_ (fun K2 hK2=>?_) ?_);rfl;rfl;exact yB rfl)|((with_reducible refine yY ?_ ?_ (fun K2 hK2=>?_) ?_);rfl;rfl)|((with_reducible refine yZ ?_ ?_);(first|rfl|(dsimp only;decide +kernel)))|((with_reducible refine xA ?_ ?_);(focus go_simp;done))|(go_simp;(try go_bits);(first|(refine hK2 _ _ ?_ ?_<;>clear hK2 K2)|(refine hK2 _ _ ?_;clear hK2 K2))))
        refine CodeS.loop (fun m f H'' => ∃ d : Int, max (max c.beg y1) (y2 + 1) ≤ d ∧ d ≤ 731 ∧ m = (731 - d).toNat ∧ f.tmp 7 = .int .i64 d ∧ f.tmp 6 = .int .i64 k ∧ f.tmp 2 = .pointer (some ⟨H.n, 0, none⟩) ∧ f.tmp 3 = .pointer (some ⟨H.n + 1, 0, none⟩) ∧ f.tmp 5 = .slice (some ⟨b1, o1, sp1⟩) acc.length vc ∧ f.defers = [] ∧ Hid (∀ e, max (max c.beg y1) (y2 + 1) ≤ e → e < d → (hasOn s k e).offers w = false) ∧ H' = H'') (731 - (max (max c.beg y1) (y2 + 1))).toNat ?_ ?_
        · exact ⟨max (max c.beg y1) (y2 + 1), Int.le_refl _, HDR.out, rfl, (by first|(go_simp;done)|(go_simp;go_num;done)|assumption), (by first|(go_simp;done)|(go_simp;go_num;done)|assumption), (by first|(go_simp;done)|(go_simp;go_num;done)|assumption), (by first|(go_simp;done)|(go_simp;go_num;done)|assumption), (by first|(go_simp;done)|(go_simp;go_num;done)|assumption), (by first|(go_simp;done)|(go_simp;go_num;done)|assumption), Lib.hid (fun e h1 h2 => by omega), rfl⟩
        clear f6 f2 f3 f5 hd f
        rintro m f H9 ⟨d, hd1', hd2', rfl, f7, f6, f2, f3, f5, hd, HNO, hH9⟩
        subst hH9
        have hcn2 := fun (loops : List (Nat × LInfo)) => HCAN.out loops d
        have HFI : Hid ((hasOn s k d).offers w = true ∨ c.fin < d → (courseOf s c).nx k (max 0 (lowL p acc k)) = if d ≤ c.fin then d else 731) := Lib.hid (fun h => HNK.out d (by rw [← HD.out]; exact hd1') (fun e h1 h2 => by rw [HWD.out]; exact HNO.out e (by rw [HD.out]; exact h1) h2) (fun h1 => by rw [HWD.out]; rcases h with h | h; exact h; omega))
        have HNO2 : Hid ((hasOn s k d).offers w = false → ∀ e, max (max c.beg y1) (y2 + 1) ≤ e → e < d + 1 → (hasOn s k e).offers w = false) := Lib.hid (fun h e h1 h2 => by
          by_cases h3 : e = d
          · rw [h3]; exact h
          · exact HNO.out e h1 (by omega))
        generalize (hasOn s k d).offers w = bb at hcn2 HFI HNO2
        have HCN := Lib.hid hcn2
        clear hcn2
        repeat' (first|(with_reducible first|refine zA ?_|refine zB fun K hK=>?_|refine zC fun K2 hK2=>?_|refine zD ?_|refine zE ?_|refine zF ?_|refine zG ?_|refine zH ?_|refine zI ?_|refine zJ ?_|refine zK ?_|refine zL ?_|refine zM ?_|refine zN ?_|refine zO ?_|refine zP ?_|refine zQ ?_|refine zR ?_|refine zS ?_|refine zT ?_)|((with_reducible refine zU (hK _ _ ?_));clear hK K)|((with_reducible refine zV ?_ ?_ fun K1 K3 d hdst h1 h3=>?_);rfl;exact yB rfl;cases hdst;go_simp)|((with_reducible refine zW fun K1 K3 h1 h3=>?_);go_simp)|((first|refine h1 ?_|refine h3 ?_);clear h1 h3 K1 K3)|((first|refine zX (fun hb=>h1 ?_) (fun hb=>h3 ?_)|refine zX (fun hb=>h3 ?_) (fun hb=>h1 ?_))<;>(clear h1 h3 K1 K3;(try have hb2:=yC hb);(try have hb2:=yD hb);(try have hb2:=yE hb);(try have hb2:=yF hb);(try have hb2:=yG hb)))|(refine fun (K2:_→AHeap→Prop) hK2=>?_)|((with_reducible refine zY ?_ ?_);decide)|((with_reducible first|refine zZ ?_ (fun K hK=>?_)|refine yA ?_ (fun K hK=>?_));(focus go_simp;done);go_simp;refine hK _ _ ?_;clear hK K)|((with_reducible refine yH mixed rfl ?_ 20 fun K0 hK0=>?_);kernel_rfl)|(with_reducible first|exact yI|exact yJ|refine yK ?_|refine yL ?_|refine yM ?_)|((with_reducible first|refine yN ?_ ?_|refine yO ?_ ?_|refine yP ?_ ?_);rfl)|((with_reducible refine yQ ?_ ?_);rfl;refine hK0 _ _ ?_;clear hK0 K0)|((with_reducible refine yR ?_ ?_ ?_ ?_);rfl;rfl;rfl)|((with_reducible refine yS ?_ ?_ ?_ fun K2 hK2=>?_);rfl;rfl;exact yB rfl)|((with_reducible refine yT ?_ ?_ ?_ ?_ fun K1 K3 d hdst h1 h3=>?_);rfl;rfl;rfl;exact yB rfl;cases hdst;go_simp)|((with_reducible refine yU ?_ ?_ ?_ ?_ fun K1 K3 d hdst h1 h3=>?_);rfl;rfl;rfl;exact yB rfl;cases hdst;go_simp)|((with_reducible refine yV ?_ ?_ (fun K2 hK2=>?_) ?_);rfl;exact yB rfl)|((with_reducible refine yW ?_ ?_ ?_ ?_ (fun K2 hK2=>?_) ?_);rfl;exact yB rfl;rfl;(focus go_simp;done))|((with_reducible refine yX ?_ ?_ ?_ (fun K2 hK2=>?_) ?_);rfl;rfl;exact yB rfl)|((with_reducible refine yY ?_ ?_ (fun K2 hK2=>?_) ?_);rfl;rfl)|((with_reducible refine yZ ?_ ?_);(first|rfl|(dsimp only;decide +kernel)))|((with_reducible refine xA ?_ ?_);(focus go_simp;done))|(go_simp;(try go_bits);(try first | ((with_reducible show CallS _ _ _ _ _ _);refine CallS.mono (HCN.out _) ?_; rintro _ _ ⟨rfl, h9⟩; rw [h9]; clear h9) | ((refine one_k el22 sz3 ze3 rfl (by decide) (by decide) rfl rfl ?_); go_simp) | ((refine append_k2 el22 sz3 by3 ze3 rfl (by decide) (HO.out.ext (Ext.push _)) (srcCells_new rfl) (by decide) rfl (by rw [List.all_append, oneV_list_int]; rfl) HBIG.out (by simp only [AHeap.n_push]; omega) fun v2 H4 ho4 hg4 => ?_); (have HO4 := Lib.hid ho4); (have HG4 := Lib.hid hg4); clear ho4 hg4; go_simp));(first|(refine hK2 _ _ ?_ ?_<;>clear hK2 K2)|(refine hK2 _ _ ?_;clear hK2 K2))))
        all_goals first
          | (exfalso; omega)
          | (have hbf : bb = false := by simpa using ‹(!bb) = true›
             refine Post.round_normal ⟨(731 - (d + 1)).toNat, by omega, d + 1, by omega, by omega, rfl, (by first|(go_simp;done)|(go_simp;go_num;done)|assumption), (by first|(go_simp;done)|(go_simp;go_num;done)|assumption), (by first|(go_simp;done)|(go_simp;go_num;done)|assumption), (by first|(go_simp;done)|(go_simp;go_num;done)|assumption), (by first|(go_simp;done)|(go_simp;go_num;done)|assumption), (by first|(go_simp;done)|(go_simp;go_num;done)|assumption), Lib.hid (HNO2.out hbf), rfl⟩)
          | (refine ⟨?_, HX.out⟩
             have h9 := HFI.out (.inr (by omega))
             rw [if_neg (by omega)] at h9
             have hr : acc = res := by rw [← HG.out, HST.out, if_pos h9]
             rw [← hr]
             exact HO.out.mono (by omega))
          | (have hbt : bb = true := by simpa using ‹(!bb) = false›
             have h9 := HFI.out (.inl hbt)
             rw [if_pos (by omega)] at h9
             have hx4 : Ext H H4 := HG4.out.ext (HO.out.ext (Ext.push _)) (by omega) (HX.out.push' _)
             have hk4' : ∀ i, i < H.n + 2 → H4.get i = H'.get i := fun i hi => by
               rw [HG4.out.2 i (by simp only [AHeap.n_push]; omega) (fun b n hv hn => by have := (own_block HO.out hv hn).1; omega), AHeap.get_push_old (by omega)]
             refine Post.round_normal ⟨c.words.length - (k + 1), by omega, k + 1, v2, acc ++ [d], by omega, by have := HAK.out; simp; omega, rfl, (by first|(go_simp;done)|(go_simp;go_num;done)|assumption), (by first|(go_simp;done)|(go_simp;go_num;done)|assumption), (by first|(go_simp;done)|(go_simp;go_num;done)|assumption), (by first|(go_simp;done)|(go_simp;go_num;done)|assumption), (by first|(go_simp;done)|(go_simp;go_num;done)|assumption), Lib.hid ?_, Lib.hid ?_, ?_, Lib.hid hx4, Lib.hid ?_, Lib.hid ?_, Lib.hid ?_⟩
             · rw [← HG.out, HST.out, h9, if_neg (by omega)]
             · intro y hy
               rcases List.mem_append.1 hy with h | h
               · exact HB.out y h
               · rw [List.mem_singleton.1 h]; omega
             · have := HG4.out.1; simp only [AHeap.n_push] at this; omega
             · rw [hk4' _ (by omega)]; exact HG0.out
             · rw [hk4' _ (by omega)]; exact HG1.out
             · rw [List.map_append]; exact HO4.out.mono (by simp only [AHeap.n_push]; omega))
      · have j2 : ¬ ((p : Int) ≤ (k : Int)) := by omega
        have HD : Hid (max c.beg y1 = max c.beg (lowL p acc k)) := Lib.hid (by
          have : lowL p acc k = y1 := by simp only [lowL, if_neg hpk, if_pos h3i, hg1.out]
          omega)
        have HDR : Hid (max c.beg y1 ≤ 731) := Lib.hid (by omega)
        repeat' (first|(with_reducible first|refine zA ?_|refine zB fun K hK=>?_|refine zC fun K2 hK2=>?_|refine zD ?_|refine zE ?_|refine zF ?_|refine zG ?_|refine zH ?_|refine zI ?_|refine zJ ?_|refine zK ?_|refine zL ?_|refine zM ?_|refine zN ?_|refine zO ?_|refine zP ?_|refine zQ ?_|refine zR ?_|refine zS ?_|refine zT ?_)|((with_reducible refine zU (hK _ _ ?_));clear hK K)|((with_reducible refine zV ?_ ?_ fun K1 K3 d hdst h1 h3=>?_);rfl;exact yB rfl;cases hdst;go_simp)|((with_reducible refine zW fun K1 K3 h1 h3=>?_);go_simp)|((first|refine h1 ?_|refine h3 ?_);clear h1 h3 K1 K3)|((first|refine zX (fun hb=>h1 ?_) (fun hb=>h3 ?_)|refine zX (fun hb=>h3 ?_) (fun hb=>h1 ?_))<;>(clear h1 h3 K1 K3;(try have hb2:=yC hb);(try have hb2:=yD hb);(try have hb2:=yE hb);(try have hb2:=yF hb);(try have hb2:=yG hb)))|(refine fun (K2:_→AHeap→Prop) hK2=>?_)|((with_reducible refine zY ?_ ?_);decide)|((with_reducible first|refine zZ ?_ (fun K hK=>?_)|refine yA ?_ (fun K hK=>?_));(focus go_simp;done);go_simp;refine hK _ _ ?_;clear hK K)|((with_reducible refine yH mixed rfl ?_ 20 fun K0 hK0=>?_);kernel_rfl)|(with_reducible first|exact yI|exact yJ|refine yK ?_|refine yL ?_|refine yM ?_)|((with_reducible first|refine yN ?_ ?_|refine yO ?_ ?_|refine yP ?_ ?_);rfl)|((with_reducible refine yQ ?_ ?_);rfl;refine hK0 _ _ ?_;clear hK0 K0)|((with_reducible refine yR ?_ ?_ ?_ ?_);rfl;rfl;rfl)|((with_reducible refine yS ?_ ?_ ?_ fun K2 hK2=>?_);rfl;rfl;exact yB rfl)|((with_reducible refine yT ?_ ?_ ?_ ?_ fun K1 K3 d hdst h1 h3=>?_);rfl;rfl;rfl;exact yB rfl;cases hdst;go_simp)|((with_reducible refine yU ?_ ?_ ?_ ?_ fun K1 K3 d hdst h1 h3=>?_);rfl;rfl;rfl;exact yB rfl;cases hdst;go_simp)|((with_reducible refine yV ?_ ?_ (fun K2 hK2=>?_) ?_);rfl;exact yB rfl)|((with_reducible refine yW ?_ ?_ ?_ ?_ (fun K2 hK2=>?_) ?_);rfl;exact yB rfl;rfl;(focus go_simp;done))|((with_reducible refine yX ?_ ?_ ?_ (fun K2 hK2=>?_) ?_);rfl;rfl;exact yB rfl)|((with_reducible refine yY ?_ ?_ (fun K2 hK2=>?_) ?_);rfl;rfl)|((with_reducible refine yZ ?_ ?_);(first|rfl|(dsimp only;decide +kernel)))|((with_reducible refine xA ?_ ?_);(focus go_simp;done))|(go_simp;(try go_bits);(first|(refine hK2 _ _ ?_ ?_<;>clear hK2 K2)|(refine hK2 _ _ ?_;clear hK2 K2))))
        refine CodeS.loop (fun m f H'' => ∃ d : Int, max c.beg y1 ≤ d ∧ d ≤ 731 ∧ m = (731 - d).toNat ∧ f.tmp 7 = .int .i64 d ∧ f.tmp 6 = .int .i64 k ∧ f.tmp 2 = .pointer (some ⟨H.n, 0, none⟩) ∧ f.tmp 3 = .pointer (some ⟨H.n + 1, 0, none⟩) ∧ f.tmp 5 = .slice (some ⟨b1, o1, sp1⟩) acc.length vc ∧ f.defers = [] ∧ Hid (∀ e, max c.beg y1 ≤ e → e < d → (hasOn s k e).offers w = false) ∧ H' = H'') (731 - (max c.beg y1)).toNat ?_ ?_
        · exact ⟨max c.beg y1, Int.le_refl _, HDR.out, rfl, (by first|(go_simp;done)|(go_simp;go_num;done)|assumption), (by first|(go_simp;done)|(go_simp;go_num;done)|assumption), (by first|(go_simp;done)|(go_simp;go_num;done)|assumption), (by first|(go_simp;done)|(go_simp;go_num;done)|assumption), (by first|(go_simp;done)|(go_simp;go_num;done)|assumption), (by first|(go_simp;done)|(go_simp;go_num;done)|assumption), Lib.hid (fun e h1 h2 => by omega), rfl⟩
        clear f6 f2 f3 f5 hd f
        rintro m f H9 ⟨d, hd1', hd2', rfl, f7, f6, f2, f3, f5, hd, HNO, hH9⟩
        subst hH9
        have hcn2 := fun (loops : List (Nat × LInfo)) => HCAN.out loops d
        have HFI : Hid ((hasOn s k d).offers w = true ∨ c.fin < d → (courseOf s c).nx k (max 0 (lowL p acc k)) = if d ≤ c.fin then d else 731) := Lib.hid (fun h => HNK.out d (by rw [← HD.out]; exact hd1') (fun e h1 h2 => by rw [HWD.out]; exact HNO.out e (by rw [HD.out]; exact h1) h2) (fun h1 => by rw [HWD.out]; rcases h with h | h; exact h; omega))
        have HNO2 : Hid ((hasOn s k d).offers w = false → ∀ e, max c.beg y1 ≤ e → e < d + 1 → (hasOn s k e).offers w = false) := Lib.hid (fun h e h1 h2 => by
          by_cases h3 : e = d
          · rw [h3]; exact h
          · exact HNO.out e h1 (by omega))
        generalize (hasOn s k d).offers w = bb at hcn2 HFI HNO2
        have HCN := Lib.hid hcn2
        clear hcn2
        repeat' (first|(with_reducible first|refine zA ?_|refine zB fun K hK=>?_|refine zC fun K2 hK2=>?_|refine zD ?_|refine zE ?_|refine zF ?_|refine zG ?_|refine zH ?_|refine zI ?_|refine zJ ?_|refine zK ?_|refine zL ?_|refine zM ?_|refine zN ?_|refine zO ?_|refine zP ?_|refine zQ ?_|refine zR ?_|refine zS ?_|refine zT ?_)|((with_reducible refine zU (hK _ _ ?_));clear hK K)|((with_reducible refine zV ?_ ?_ fun K1 K3 d hdst h1 h3=>?_);rfl;exact yB rfl;cases hdst;go_simp)|((with_reducible refine zW fun K1 K3 h1 h3=>?_);go_simp)|((first|refine h1 ?_|refine h3 ?_);clear h1 h3 K1 K3)|((first|refine zX (fun hb=>h1 ?_) (fun hb=>h3 ?_)|refine zX (fun hb=>h3 ?_) (fun hb=>h1 ?_))<;>(clear h1 h3 K1 K3;(try have hb2:=yC hb);(try have hb2:=yD hb);(try have hb2:=yE hb);(try have hb2:=yF hb);(try have hb2:=yG hb)))|(refine fun (K2:_→AHeap→Prop) hK2=>?_)|((with_reducible refine zY ?_ ?_);decide)|((with_reducible first|refine zZ ?_ (fun K hK=>?_)|refine yA ?_ (fun K hK=>?_));(focus go_simp;done);go_simp;refine hK _ _ ?_;clear hK K)|((with_reducible refine yH mixed rfl ?_ 20 fun K0 hK0=>?_);kernel_rfl)|(with_reducible first|exact yI|exact yJ|refine yK ?_|refine yL ?_|refine yM ?_)|((with_reducible first|refine yN ?_ ?_|refine yO ?_ ?_|refine yP ?_ ?_);rfl)|((with_reducible refine yQ ?_ ?_);rfl;refine hK0 _ _ ?_;clear hK0 K0)|((with_reducible refine yR ?_ ?_ ?_ ?_);rfl;rfl;rfl)|((with_reducible refine yS ?_ ?_ ?_ fun K2 hK2=>?_);rfl;rfl;exact yB rfl)|((with_reducible refine yT ?_ ?_ ?_ ?_ fun K1 K3 d hdst h1 h3=>?_);rfl;rfl;rfl;exact yB rfl;cases hdst;go_simp)|((with_reducible refine yU ?_ ?_ ?_ ?_ fun K1 K3 d hdst h1 h3=>?_);rfl;rfl;rfl;exact yB rfl;cases hdst;go_simp)|((with_reducible refine yV ?_ ?_ (fun K2 hK2=>?_) ?_);rfl;exact yB rfl)|((with_reducible refine yW ?_ ?_ ?_ ?_ (fun K2 hK2=>?_) ?_);rfl;exact yB rfl;rfl;(focus go_simp;done))|((with_reducible refine yX ?_ ?_ ?_ (fun K2 hK2=>?_) ?_);rfl;rfl;exact yB rfl)|((with_reducible refine yY ?_ ?_ (fun K2 hK2=>?_) ?_);rfl;rfl)|((with_reducible refine yZ ?_ ?_);(first|rfl|(dsimp only;decide +kernel)))|((with_reducible refine xA ?_ ?_);(focus go_simp;done))|(go_simp;(try go_bits);(try first | ((with_reducible show CallS _ _ _ _ _ _);refine CallS.mono (HCN.out _) ?_; rintro _ _ ⟨rfl, h9⟩; rw [h9]; clear h9) | ((refine one_k el22 sz3 ze3 rfl (by decide) (by decide) rfl rfl ?_); go_simp) | ((refine append_k2 el22 sz3 by3 ze3 rfl (by decide) (HO.out.ext (Ext.push _)) (srcCells_new rfl) (by decide) rfl (by rw [List.all_append, oneV_list_int]; rfl) HBIG.out (by simp only [AHeap.n_push]; omega) fun v2 H4 ho4 hg4 => ?_); (have HO4 := Lib.hid ho4); (have HG4 := Lib.hid hg4); clear ho4 hg4; go_simp));(first|(refine hK2 _ _ ?_ ?_<;>clear hK2 K2)|(refine hK2 _ _ ?_;clear hK2 K2))))
        all_goals first
          | (exfalso; omega)
          | (have hbf : bb = false := by simpa using ‹(!bb) = true›
             refine Post.round_normal ⟨(731 - (d + 1)).toNat, by omega, d + 1, by omega, by omega, rfl, (by first|(go_simp;done)|(go_simp;go_num;done)|assumption), (by first|(go_simp;done)|(go_simp;go_num;done)|assumption), (by first|(go_simp;done)|(go_simp;go_num;done)|assumption), (by first|(go_simp;done)|(go_simp;go_num;done)|assumption), (by first|(go_simp;done)|(go_simp;go_num;done)|assumption), (by first|(go_simp;done)|(go_simp;go_num;done)|assumption), Lib.hid (HNO2.out hbf), rfl⟩)
          | (refine ⟨?_, HX.out⟩
             have h9 := HFI.out (.inr (by omega))
             rw [if_neg (by omega)] at h9
             have hr : acc = res := by rw [← HG.out, HST.out, if_pos h9]
             rw [← hr]
             exact HO.out.mono (by omega))
          | (have hbt : bb = true := by simpa using ‹(!bb) = false›
             have h9 := HFI.out (.inl hbt)
             rw [if_pos (by omega)] at h9
             have hx4 : Ext H H4 := HG4.out.ext (HO.out.ext (Ext.push _)) (by omega) (HX.out.push' _)
             have hk4' : ∀ i, i < H.n + 2 → H4.get i = H'.get i := fun i hi => by
               rw [HG4.out.2 i (by simp only [AHeap.n_push]; omega) (fun b n hv hn => by have := (own_block HO.out hv hn).1; omega), AHeap.get_push_old (by omega)]
             refine Post.round_normal ⟨c.words.length - (k + 1), by omega, k + 1, v2, acc ++ [d], by omega, by have := HAK.out; simp; omega, rfl, (by first|(go_simp;done)|(go_simp;go_num;done)|assumption), (by first|(go_simp;done)|(go_simp;go_num;done)|assumption), (by first|(go_simp;done)|(go_simp;go_num;done)|assumption), (by first|(go_simp;done)|(go_simp;go_num;done)|assumption), (by first|(go_simp;done)|(go_simp;go_num;done)|assumption), Lib.hid ?_, Lib.hid ?_, ?_, Lib.hid hx4, Lib.hid ?_, Lib.hid ?_, Lib.hid ?_⟩
             · rw [← HG.out, HST.out, h9, if_neg (by omega)]
             · intro y hy
               rcases List.mem_append.1 hy with h | h
               · exact HB.out y h
               · rw [List.mem_singleton.1 h]; omega
             · have := HG4.out.1; simp only [AHeap.n_push] at this; omega
             · rw [hk4' _ (by omega)]; exact HG0.out
             · rw [hk4' _ (by omega)]; exact HG1.out
             · rw [List.map_append]; exact HO4.out.mono (by simp only [AHeap.n_push]; omega))
  · repeat' (first|(with_reducible first|refine zA ?_|refine zB fun K hK=>?_|refine zC fun K2 hK2=>?_|refine zD ?_|refine zE ?_|refine zF ?_|refine zG ?_|refine zH ?_|refine zI ?_|refine zJ ?_|refine zK ?_|refine zL ?_|refine zM ?_|refine zN ?_|refine zO ?_|refine zP ?_|refine zQ ?_|refine zR ?_|refine zS ?_|refine zT ?_)|((with_reducible refine zU (hK _ _ ?_));clear hK K)|((with_reducible refine zV ?_ ?_ fun K1 K3 d hdst h1 h3=>?_);rfl;exact yB rfl;cases hdst;go_simp)|((with_reducible refine zW fun K1 K3 h1 h3=>?_);go_simp)|((first|refine h1 ?_|refine h3 ?_);clear h1 h3 K1 K3)|((first|refine zX (fun hb=>h1 ?_) (fun hb=>h3 ?_)|refine zX (fun hb=>h3 ?_) (fun hb=>h1 ?_))<;>(clear h1 h3 K1 K3;(try have hb2:=yC hb);(try have hb2:=yD hb);(try have hb2:=yE hb);(try have hb2:=yF hb);(try have hb2:=yG hb)))|(refine fun (K2:_→AHeap→Prop) hK2=>?_)|((with_reducible refine zY ?_ ?_);decide)|((with_reducible first|refine zZ ?_ (fun K hK=>?_)|refine yA ?_ (fun K hK=>?_));(focus go_simp;done);go_simp;refine hK _ _ ?_;clear hK K)|((with_reducible refine yH mixed rfl ?_ 20 fun K0 hK0=>?_);kernel_rfl)|(with_reducible first|exact yI|exact yJ|refine yK ?_|refine yL ?_|refine yM ?_)|((with_reducible first|refine yN ?_ ?_|refine yO ?_ ?_|refine yP ?_ ?_);rfl)|((with_reducible refine yQ ?_ ?_);rfl;refine hK0 _ _ ?_;clear hK0 K0)|((with_reducible refine yR ?_ ?_ ?_ ?_);rfl;rfl;rfl)|((with_reducible refine yS ?_ ?_ ?_ fun K2 hK2=>?_);rfl;rfl;exact yB rfl)|((with_reducible refine yT ?_ ?_ ?_ ?_ fun K1 K3 d hdst h1 h3=>?_);rfl;rfl;rfl;exact yB rfl;cases hdst;go_simp)|((with_reducible refine yU ?_ ?_ ?_ ?_ fun K1 K3 d hdst h1 h3=>?_);rfl;rfl;rfl;exact yB rfl;cases hdst;go_simp)|((with_reducible refine yV ?_ ?_ (fun K2 hK2=>?_) ?_);rfl;exact yB rfl)|((with_reducible refine yW ?_ ?_ ?_ ?_ (fun K2 hK2=>?_) ?_);rfl;exact yB rfl;rfl;(focus go_simp;done))|((with_reducible refine yX ?_ ?_ ?_ (fun K2 hK2=>?_) ?_);rfl;rfl;exact yB rfl)|((with_reducible refine yY ?_ ?_ (fun K2 hK2=>?_) ?_);rfl;rfl)|((with_reducible refine yZ ?_ ?_);(first|rfl|(dsimp only;decide +kernel)))|((with_reducible refine xA ?_ ?_);(focus go_simp;done))|(go_simp;(try go_bits);(first|(refine hK2 _ _ ?_ ?_<;>clear hK2 K2)|(refine hK2 _ _ ?_;clear hK2 K2))))
    refine ⟨?_, HX.out⟩
    have hr : acc = res := by rw [← HG.out, show c.words.length - k = 0 by omega]; rfl
    rw [← hr]
    exact HO.out.mono (by omega)
end Go.Proofs.Try
