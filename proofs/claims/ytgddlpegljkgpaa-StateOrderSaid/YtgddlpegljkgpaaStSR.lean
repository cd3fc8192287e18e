/- Contracts of functions, walked. -/
import Derived.Test.YtgddlpegljkgpaaChecked
import Derived.Test.YtgddlpegljkgpaaRows
import Derived.Below
import Derived.Carry
import Derived.Deep.Slices
import Derived.Deep.Fields
import Derived.ChangeSame
import Derived.ProofKit
import Derived.OpenShut
import Derived.ShutString
import Derived.ChangeOld
import Derived.Lib.SmallJoins
import Derived.Test.YtgddlpegljkgpaaStST
import Derived.Test.YtgddlpegljkgpaaStSE
import Derived.Test.YtgddlpegljkgpaaStSN
set_option linter.all false
namespace Go.Proofs.Try
open Go Go.Am Go.RowKit Go.Co
set_option maxRecDepth 100000

/-! Sources. -/
theorem made_iff {s : Sheet} {c : Copy} : (courseOf s c).made c.per.toNat = decide (((courseOf s c).early c.per.toNat 0).length = c.words.length) := by
  rw [Course.made, courseOf_len]
theorem early_lenU {s : Sheet} {c : Copy} (he : errCopy s c = 0) : ((courseOf s c).early c.per.toNat 0).length ≤ c.words.length := by
  obtain ⟨-, -, -, -, -, -, hp1, -⟩ := errCopy_ok he
  rw [← courseOf_len s c]
  exact (early_ok (op := fun i => ins ((courseOf s c).at_ i)) (by omega) (fun i f => (courseOf s c).nx_ok (courseOf_ord he) i f) (courseOf s c).open_.length).1

theorem copied_s {loops : List (Nat × LInfo)} {H : AHeap} {sv cv : Value} {s : Sheet} {c : Copy} (hs : SheetV H sv s) (hc : CopyV H cv c) : CallS Try.prog loops 76 [sv, cv] H fun r H' => r = .int .i64 (errCopied s c) ∧ H' = H := by
  refine CallS.forget (R := fun v => v = .int .i64 (errCopied s c)) (by rintro v rfl; rfl) ?_
  have HV := Lib.hid hs
  have HC := Lib.hid hc
  have HFR := Lib.hid (fun (loops : List (Nat × LInfo)) (H2 : AHeap) (hx : Ext H H2) (he : errCopy s c = 0) => refFirst_e (loops := loops) (hs.ext hx) (hc.ext hx) he)
  obtain ⟨wv, av, rfl, hw, ha⟩ := hs
  obtain ⟨hwl, wa, wc, rfl⟩ := hw.slice
  obtain ⟨hal, aa, ac, rfl⟩ := ha.slice
  obtain ⟨cv, rfl, hcw⟩ := hc
  obtain ⟨hcl, ca, cc, rfl⟩ := hcw.slice
  clear hw ha hcw
  have HLE := Lib.hid (fun he => early_lenU (s := s) (c := c) he)
  have HM : Hid (errCopied s c = if errCopy s c ≠ 0 then errCopy s c else if decide (((courseOf s c).early c.per.toNat 0).length = c.words.length) = true then 0 else 9) := Lib.hid (by
    unfold errCopied
    split
    · rfl
    · rw [made_iff])
  generalize errCopied s c = r at HM
  generalize (courseOf s c).early c.per.toNat 0 = E at HFR HLE HM
  refine CallS.enter' Try.func76 rfl Try.ntmps76 (by simp) fun f hd hf => ?_
  have f0 := hf 0
  have f1 := hf 1
  simp at f0 f1
  clear hf
  have HX1 : Hid (Ext H ((H.push (.row [Value.slice wa s.words.length wc, Value.slice aa s.alts.length ac] 25)).push (.row [Value.slice ca c.words.length cc, .int .i64 c.beg, .int .i64 c.fin, .int .i64 c.per] 27))) := Lib.hid (((Ext.refl _).push' _).push' _)
  by_cases he : errCopy s c = 0
  · have HEC := Lib.hid he
    clear he
    repeat' (first|(with_reducible first|refine zA ?_|refine zB fun K hK=>?_|refine zC fun K2 hK2=>?_|refine zD ?_|refine zE ?_|refine zF ?_|refine zG ?_|refine zH ?_|refine zI ?_|refine zJ ?_|refine zK ?_|refine zL ?_|refine zM ?_|refine zN ?_|refine zO ?_|refine zP ?_|refine zQ ?_|refine zR ?_|refine zS ?_|refine zT ?_)|((with_reducible refine zU (hK _ _ ?_));clear hK K)|((with_reducible refine zV ?_ ?_ fun K1 K3 d hdst h1 h3=>?_);rfl;exact yB rfl;cases hdst;go_simp)|((with_reducible refine zW fun K1 K3 h1 h3=>?_);go_simp)|((first|refine h1 ?_|refine h3 ?_);clear h1 h3 K1 K3)|((first|refine zX (fun hb=>h1 ?_) (fun hb=>h3 ?_)|refine zX (fun hb=>h3 ?_) (fun hb=>h1 ?_))<;>(clear h1 h3 K1 K3;(try have hb2:=yC hb);(try have hb2:=yD hb);(try have hb2:=yE hb);(try have hb2:=yF hb);(try have hb2:=yG hb)))|(refine fun (K2:_→AHeap→Prop) hK2=>?_)|((with_reducible refine zY ?_ ?_);decide)|((with_reducible first|refine zZ ?_ (fun K hK=>?_)|refine yA ?_ (fun K hK=>?_));(focus go_simp;done);go_simp;refine hK _ _ ?_;clear hK K)|((with_reducible refine yH mixed rfl ?_ 20 fun K0 hK0=>?_);kernel_rfl)|(with_reducible first|exact yI|exact yJ|refine yK ?_|refine yL ?_|refine yM ?_)|((with_reducible first|refine yN ?_ ?_|refine yO ?_ ?_|refine yP ?_ ?_);rfl)|((with_reducible refine yQ ?_ ?_);rfl;refine hK0 _ _ ?_;clear hK0 K0)|((with_reducible refine yR ?_ ?_ ?_ ?_);rfl;rfl;rfl)|((with_reducible refine yS ?_ ?_ ?_ fun K2 hK2=>?_);rfl;rfl;exact yB rfl)|((with_reducible refine yT ?_ ?_ ?_ ?_ fun K1 K3 d hdst h1 h3=>?_);rfl;rfl;rfl;exact yB rfl;cases hdst;go_simp)|((with_reducible refine yU ?_ ?_ ?_ ?_ fun K1 K3 d hdst h1 h3=>?_);rfl;rfl;rfl;exact yB rfl;cases hdst;go_simp)|((with_reducible refine yV ?_ ?_ (fun K2 hK2=>?_) ?_);rfl;exact yB rfl)|((with_reducible refine yW ?_ ?_ ?_ ?_ (fun K2 hK2=>?_) ?_);rfl;exact yB rfl;rfl;(focus go_simp;done))|((with_reducible refine yX ?_ ?_ ?_ (fun K2 hK2=>?_) ?_);rfl;rfl;exact yB rfl)|((with_reducible refine yY ?_ ?_ (fun K2 hK2=>?_) ?_);rfl;rfl)|((with_reducible refine yZ ?_ ?_);(first|rfl|(dsimp only;decide +kernel)))|((with_reducible refine xA ?_ ?_);(focus go_simp;done))|(go_simp;(try go_bits);(try first | ((with_reducible show CallS _ _ _ _ _ _);refine CallS.mono (refCheckCopy_s (s := s) (c := c) (HV.out.ext HX1.out) (HC.out.ext HX1.out)) ?_; rintro _ _ ⟨rfl, h9⟩; rw [h9, HEC.out]; clear h9) | ((with_reducible show CallS _ _ _ _ _ _);refine CallS.mono (HFR.out _ _ HX1.out HEC.out) ?_; rintro ev H2 ⟨hi, hx⟩; (have HI := Lib.hid (ints_of_own hi (by have := HLE.out HEC.out; omega))); (obtain ⟨-, ea, ec, rfl⟩ := HI.out.slice); (have HX := Lib.hid (HX1.out.trans hx)); (have hcc : cellAt H2 (H.n + 1) 0 = some (Value.slice ca c.words.length cc) := (hx.cellAt (by simp only [AHeap.n_push]; omega)).trans (by rw [← AHeap.n_push H, cellAt_new]; rfl)); (have hnn : H.n + 1 < H2.n := by have := hx.n; simp only [AHeap.n_push] at this; omega); clear hi hx));(first|(refine hK2 _ _ ?_ ?_<;>clear hK2 K2)|(refine hK2 _ _ ?_;clear hK2 K2))))
    all_goals
      refine ⟨?_, HX.out⟩
      have h8 := HLE.out HEC.out
      rw [HM.out, if_neg (by simp [HEC.out])]
    · rw [if_neg (by simp; omega)]
    · rw [if_pos (by simp; omega)]
  · have he9 : ¬ errCopy s c = 0 := he
    repeat' (first|(with_reducible first|refine zA ?_|refine zB fun K hK=>?_|refine zC fun K2 hK2=>?_|refine zD ?_|refine zE ?_|refine zF ?_|refine zG ?_|refine zH ?_|refine zI ?_|refine zJ ?_|refine zK ?_|refine zL ?_|refine zM ?_|refine zN ?_|refine zO ?_|refine zP ?_|refine zQ ?_|refine zR ?_|refine zS ?_|refine zT ?_)|((with_reducible refine zU (hK _ _ ?_));clear hK K)|((with_reducible refine zV ?_ ?_ fun K1 K3 d hdst h1 h3=>?_);rfl;exact yB rfl;cases hdst;go_simp)|((with_reducible refine zW fun K1 K3 h1 h3=>?_);go_simp)|((first|refine h1 ?_|refine h3 ?_);clear h1 h3 K1 K3)|((first|refine zX (fun hb=>h1 ?_) (fun hb=>h3 ?_)|refine zX (fun hb=>h3 ?_) (fun hb=>h1 ?_))<;>(clear h1 h3 K1 K3;(try have hb2:=yC hb);(try have hb2:=yD hb);(try have hb2:=yE hb);(try have hb2:=yF hb);(try have hb2:=yG hb)))|(refine fun (K2:_→AHeap→Prop) hK2=>?_)|((with_reducible refine zY ?_ ?_);decide)|((with_reducible first|refine zZ ?_ (fun K hK=>?_)|refine yA ?_ (fun K hK=>?_));(focus go_simp;done);go_simp;refine hK _ _ ?_;clear hK K)|((with_reducible refine yH mixed rfl ?_ 20 fun K0 hK0=>?_);kernel_rfl)|(with_reducible first|exact yI|exact yJ|refine yK ?_|refine yL ?_|refine yM ?_)|((with_reducible first|refine yN ?_ ?_|refine yO ?_ ?_|refine yP ?_ ?_);rfl)|((with_reducible refine yQ ?_ ?_);rfl;refine hK0 _ _ ?_;clear hK0 K0)|((with_reducible refine yR ?_ ?_ ?_ ?_);rfl;rfl;rfl)|((with_reducible refine yS ?_ ?_ ?_ fun K2 hK2=>?_);rfl;rfl;exact yB rfl)|((with_reducible refine yT ?_ ?_ ?_ ?_ fun K1 K3 d hdst h1 h3=>?_);rfl;rfl;rfl;exact yB rfl;cases hdst;go_simp)|((with_reducible refine yU ?_ ?_ ?_ ?_ fun K1 K3 d hdst h1 h3=>?_);rfl;rfl;rfl;exact yB rfl;cases hdst;go_simp)|((with_reducible refine yV ?_ ?_ (fun K2 hK2=>?_) ?_);rfl;exact yB rfl)|((with_reducible refine yW ?_ ?_ ?_ ?_ (fun K2 hK2=>?_) ?_);rfl;exact yB rfl;rfl;(focus go_simp;done))|((with_reducible refine yX ?_ ?_ ?_ (fun K2 hK2=>?_) ?_);rfl;rfl;exact yB rfl)|((with_reducible refine yY ?_ ?_ (fun K2 hK2=>?_) ?_);rfl;rfl)|((with_reducible refine yZ ?_ ?_);(first|rfl|(dsimp only;decide +kernel)))|((with_reducible refine xA ?_ ?_);(focus go_simp;done))|(go_simp;(try go_bits);(try first | ((with_reducible show CallS _ _ _ _ _ _);refine CallS.mono (refCheckCopy_s (s := s) (c := c) (HV.out.ext HX1.out) (HC.out.ext HX1.out)) ?_; rintro _ _ ⟨rfl, h9⟩; rw [h9]; clear h9));(first|(refine hK2 _ _ ?_ ?_<;>clear hK2 K2)|(refine hK2 _ _ ?_;clear hK2 K2))))
    all_goals first
      | (refine ⟨?_, HX1.out⟩; rw [HM.out, if_pos he9]; done)
      | (exfalso; exact he9 (by simpa using ‹(errCopy s c == 0) = true›))

/-! Sheets. -/
def shCells (l : List (Value × Value)) : List Value := l.flatMap fun p => [p.1, p.2]
def SheetsV (H : AHeap) (v : Value) (l : List Sheet) : Prop := l.length ≤ 9223372036854775807 ∧ ∃ a c, v = .slice a l.length c ∧ (0 < l.length → ∃ b o sp, a = some ⟨b, o, sp⟩ ∧ b < H.n ∧ ∀ k (h : k < l.length), ∃ wv av, cellsAt H b (o + k * 2) 2 = some [wv, av] ∧ SheetV H (.agg #[wv, av]) l[k])
theorem SheetsV.ext {H H' : AHeap} {v : Value} {l : List Sheet} (h : SheetsV H v l) (hx : Ext H H') : SheetsV H' v l := by
  obtain ⟨h1, a, c, h2, h3⟩ := h
  refine ⟨h1, a, c, h2, fun hn => ?_⟩
  obtain ⟨b, o, sp, h4, h5, h6⟩ := h3 hn
  refine ⟨b, o, sp, h4, Nat.lt_of_lt_of_le h5 hx.n, fun k hk => ?_⟩
  obtain ⟨wv, av, h7, h8⟩ := h6 k hk
  exact ⟨wv, av, by rw [hx.cellsAt h5]; exact h7, h8.ext hx⟩
theorem SheetsV.at_ {H : AHeap} {a : Option Addr} {n c : Nat} {l : List Sheet} (h : SheetsV H (.slice a n c) l) {k : Nat} (hk : k < l.length) : ∃ b o sp wv av, a = some ⟨b, o, sp⟩ ∧ b < H.n ∧ cellsAt H b (o + k * 2) 2 = some [wv, av] ∧ SheetV H (.agg #[wv, av]) l[k] := by
  obtain ⟨h1, a', c', h2, h3⟩ := h
  cases h2
  obtain ⟨b, o, sp, h4, h5, h6⟩ := h3 (by omega)
  obtain ⟨wv, av, h7, h8⟩ := h6 k hk
  exact ⟨b, o, sp, wv, av, h4, h5, h7, h8⟩
theorem SheetsV.slice {H : AHeap} {v : Value} {l : List Sheet} (h : SheetsV H v l) : l.length ≤ 9223372036854775807 ∧ ∃ a c, v = .slice a l.length c := by
  obtain ⟨h1, a, c, h2, h3⟩ := h
  exact ⟨h1, a, c, h2⟩

def errGoL : List Sheet → Int
  | [] => 0
  | s :: t => if err s ≠ 0 then err s else errGoL t
def errSheets (l : List Sheet) : Int := if 8 < l.length then 2 else errGoL l
theorem checkSheets_s {loops : List (Nat × LInfo)} {H : AHeap} {v : Value} {l : List Sheet} (hv : SheetsV H v l) : CallS Try.prog loops 83 [v] H fun r H' => r = .int .i64 (errSheets l) ∧ H' = H := by
  refine CallS.forget (R := fun v => v = .int .i64 (errSheets l)) (by rintro v rfl; rfl) ?_
  obtain ⟨hlen, a, c, rfl⟩ := hv.slice
  have HV := Lib.hid hv
  clear hv
  generalize he : errSheets l = er
  have HE := Lib.hid he
  clear he
  refine CallS.enter' Try.func83 rfl Try.ntmps83 (by simp) fun f hd hf => ?_
  have f0 := hf 0
  simp at f0
  clear hf
  repeat' (first|(with_reducible first|refine zA ?_|refine zB fun K hK=>?_|refine zC fun K2 hK2=>?_|refine zD ?_|refine zE ?_|refine zF ?_|refine zG ?_|refine zH ?_|refine zI ?_|refine zJ ?_|refine zK ?_|refine zL ?_|refine zM ?_|refine zN ?_|refine zO ?_|refine zP ?_|refine zQ ?_|refine zR ?_|refine zS ?_|refine zT ?_)|((with_reducible refine zU (hK _ _ ?_));clear hK K)|((with_reducible refine zV ?_ ?_ fun K1 K3 d hdst h1 h3=>?_);rfl;exact yB rfl;cases hdst;go_simp)|((with_reducible refine zW fun K1 K3 h1 h3=>?_);go_simp)|((first|refine h1 ?_|refine h3 ?_);clear h1 h3 K1 K3)|((first|refine zX (fun hb=>h1 ?_) (fun hb=>h3 ?_)|refine zX (fun hb=>h3 ?_) (fun hb=>h1 ?_))<;>(clear h1 h3 K1 K3;(try have hb2:=yC hb);(try have hb2:=yD hb);(try have hb2:=yE hb);(try have hb2:=yF hb);(try have hb2:=yG hb)))|(refine fun (K2:_→AHeap→Prop) hK2=>?_)|((with_reducible refine zY ?_ ?_);decide)|((with_reducible first|refine zZ ?_ (fun K hK=>?_)|refine yA ?_ (fun K hK=>?_));(focus go_simp;done);go_simp;refine hK _ _ ?_;clear hK K)|((with_reducible refine yH mixed rfl ?_ 20 fun K0 hK0=>?_);kernel_rfl)|(with_reducible first|exact yI|exact yJ|refine yK ?_|refine yL ?_|refine yM ?_)|((with_reducible first|refine yN ?_ ?_|refine yO ?_ ?_|refine yP ?_ ?_);rfl)|((with_reducible refine yQ ?_ ?_);rfl;refine hK0 _ _ ?_;clear hK0 K0)|((with_reducible refine yR ?_ ?_ ?_ ?_);rfl;rfl;rfl)|((with_reducible refine yS ?_ ?_ ?_ fun K2 hK2=>?_);rfl;rfl;exact yB rfl)|((with_reducible refine yT ?_ ?_ ?_ ?_ fun K1 K3 d hdst h1 h3=>?_);rfl;rfl;rfl;exact yB rfl;cases hdst;go_simp)|((with_reducible refine yU ?_ ?_ ?_ ?_ fun K1 K3 d hdst h1 h3=>?_);rfl;rfl;rfl;exact yB rfl;cases hdst;go_simp)|((with_reducible refine yV ?_ ?_ (fun K2 hK2=>?_) ?_);rfl;exact yB rfl)|((with_reducible refine yW ?_ ?_ ?_ ?_ (fun K2 hK2=>?_) ?_);rfl;exact yB rfl;rfl;(focus go_simp;done))|((with_reducible refine yX ?_ ?_ ?_ (fun K2 hK2=>?_) ?_);rfl;rfl;exact yB rfl)|((with_reducible refine yY ?_ ?_ (fun K2 hK2=>?_) ?_);rfl;rfl)|((with_reducible refine yZ ?_ ?_);(first|rfl|(dsimp only;decide +kernel)))|((with_reducible refine xA ?_ ?_);(focus go_simp;done))|(go_simp;(try go_bits);(first|(refine hK2 _ _ ?_ ?_<;>clear hK2 K2)|(refine hK2 _ _ ?_;clear hK2 K2))))
  · refine ⟨?_, Ext.refl _⟩
    rw [← HE.out, errSheets, if_pos (by omega)]
  have HE2 : Hid (errGoL l = er) := Lib.hid (by rw [← HE.out, errSheets, if_neg (by omega)])
  refine CodeS.loop (fun m f H' => ∃ k : Nat, k ≤ l.length ∧ m = l.length - k ∧ f.tmp 11 = .int .i64 k ∧ f.tmp 10 = .int .i64 l.length ∧ f.tmp 9 = .slice a l.length c ∧ f.defers = [] ∧ Hid (errGoL (l.drop k) = er) ∧ Hid (Ext H H')) l.length ?_ ?_
  · exact ⟨0, by simp, by simp, (by first|(go_simp;done)|(go_simp;go_num;done)|assumption), (by first|(go_simp;done)|(go_simp;go_num;done)|assumption), (by first|(go_simp;done)|(go_simp;go_num;done)|assumption), (by first|(go_simp;done)|(go_simp;go_num;done)|assumption), Lib.hid (by simpa using HE2.out), Lib.hid (Ext.refl _)⟩
  clear f0 hd f HE HE2 hb hb2
  rintro m f H' ⟨k, hk, rfl, f11, f10, f9, hd, HG, HX⟩
  by_cases hlt : k < l.length
  · obtain ⟨b, o, sp, wv, av, rfl, hb, hx, hsv⟩ := (HV.out.ext HX.out).at_ hlt
    have HS := Lib.hid hsv
    have HD := Lib.hid (List.drop_eq_getElem_cons hlt)
    generalize l[k] = s at HS HD
    obtain ⟨wv', av', hva, hw, ha⟩ := hsv
    cases hva
    obtain ⟨-, wa, wc, rfl⟩ := hw.slice
    obtain ⟨-, aa, ac, rfl⟩ := ha.slice
    clear hw ha
    generalize hes : err s = es at *
    have HES := Lib.hid hes
    clear hes
    repeat' (first|(with_reducible first|refine zA ?_|refine zB fun K hK=>?_|refine zC fun K2 hK2=>?_|refine zD ?_|refine zE ?_|refine zF ?_|refine zG ?_|refine zH ?_|refine zI ?_|refine zJ ?_|refine zK ?_|refine zL ?_|refine zM ?_|refine zN ?_|refine zO ?_|refine zP ?_|refine zQ ?_|refine zR ?_|refine zS ?_|refine zT ?_)|((with_reducible refine zU (hK _ _ ?_));clear hK K)|((with_reducible refine zV ?_ ?_ fun K1 K3 d hdst h1 h3=>?_);rfl;exact yB rfl;cases hdst;go_simp)|((with_reducible refine zW fun K1 K3 h1 h3=>?_);go_simp)|((first|refine h1 ?_|refine h3 ?_);clear h1 h3 K1 K3)|((first|refine zX (fun hb=>h1 ?_) (fun hb=>h3 ?_)|refine zX (fun hb=>h3 ?_) (fun hb=>h1 ?_))<;>(clear h1 h3 K1 K3;(try have hb2:=yC hb);(try have hb2:=yD hb);(try have hb2:=yE hb);(try have hb2:=yF hb);(try have hb2:=yG hb)))|(refine fun (K2:_→AHeap→Prop) hK2=>?_)|((with_reducible refine zY ?_ ?_);decide)|((with_reducible first|refine zZ ?_ (fun K hK=>?_)|refine yA ?_ (fun K hK=>?_));(focus go_simp;done);go_simp;refine hK _ _ ?_;clear hK K)|((with_reducible refine yH mixed rfl ?_ 20 fun K0 hK0=>?_);kernel_rfl)|(with_reducible first|exact yI|exact yJ|refine yK ?_|refine yL ?_|refine yM ?_)|((with_reducible first|refine yN ?_ ?_|refine yO ?_ ?_|refine yP ?_ ?_);rfl)|((with_reducible refine yQ ?_ ?_);rfl;refine hK0 _ _ ?_;clear hK0 K0)|((with_reducible refine yR ?_ ?_ ?_ ?_);rfl;rfl;rfl)|((with_reducible refine yS ?_ ?_ ?_ fun K2 hK2=>?_);rfl;rfl;exact yB rfl)|((with_reducible refine yT ?_ ?_ ?_ ?_ fun K1 K3 d hdst h1 h3=>?_);rfl;rfl;rfl;exact yB rfl;cases hdst;go_simp)|((with_reducible refine yU ?_ ?_ ?_ ?_ fun K1 K3 d hdst h1 h3=>?_);rfl;rfl;rfl;exact yB rfl;cases hdst;go_simp)|((with_reducible refine yV ?_ ?_ (fun K2 hK2=>?_) ?_);rfl;exact yB rfl)|((with_reducible refine yW ?_ ?_ ?_ ?_ (fun K2 hK2=>?_) ?_);rfl;exact yB rfl;rfl;(focus go_simp;done))|((with_reducible refine yX ?_ ?_ ?_ (fun K2 hK2=>?_) ?_);rfl;rfl;exact yB rfl)|((with_reducible refine yY ?_ ?_ (fun K2 hK2=>?_) ?_);rfl;rfl)|((with_reducible refine yZ ?_ ?_);(first|rfl|(dsimp only;decide +kernel)))|((with_reducible refine xA ?_ ?_);(focus go_simp;done))|(go_simp;(try go_bits);(try first | ((with_reducible show CallS _ _ _ _ _ _);refine CallS.mono (check_s (s := s) (HS.out.ext (Ext.push _))) ?_; rintro _ _ ⟨rfl, h9⟩; rw [h9, HES.out]; clear h9));(first|(refine hK2 _ _ ?_ ?_<;>clear hK2 K2)|(refine hK2 _ _ ?_;clear hK2 K2))))
    · refine ⟨?_, HX.out.push' _⟩
      have h1 : es ≠ 0 := by simpa using hb
      rw [← HG.out, HD.out, errGoL, HES.out, if_pos h1]
    · have h1 : es = 0 := by simpa using hb
      refine Post.round_normal ⟨l.length - (k + 1), by omega, k + 1, by omega, rfl, (by first|(go_simp;done)|(go_simp;go_num;done)|assumption), (by first|(go_simp;done)|(go_simp;go_num;done)|assumption), (by first|(go_simp;done)|(go_simp;go_num;done)|assumption), (by first|(go_simp;done)|(go_simp;go_num;done)|assumption), Lib.hid ?_, Lib.hid (HX.out.push' _)⟩
      rw [← HG.out, HD.out, errGoL, HES.out, if_neg (by simp [h1])]
  · repeat' (first|(with_reducible first|refine zA ?_|refine zB fun K hK=>?_|refine zC fun K2 hK2=>?_|refine zD ?_|refine zE ?_|refine zF ?_|refine zG ?_|refine zH ?_|refine zI ?_|refine zJ ?_|refine zK ?_|refine zL ?_|refine zM ?_|refine zN ?_|refine zO ?_|refine zP ?_|refine zQ ?_|refine zR ?_|refine zS ?_|refine zT ?_)|((with_reducible refine zU (hK _ _ ?_));clear hK K)|((with_reducible refine zV ?_ ?_ fun K1 K3 d hdst h1 h3=>?_);rfl;exact yB rfl;cases hdst;go_simp)|((with_reducible refine zW fun K1 K3 h1 h3=>?_);go_simp)|((first|refine h1 ?_|refine h3 ?_);clear h1 h3 K1 K3)|((first|refine zX (fun hb=>h1 ?_) (fun hb=>h3 ?_)|refine zX (fun hb=>h3 ?_) (fun hb=>h1 ?_))<;>(clear h1 h3 K1 K3;(try have hb2:=yC hb);(try have hb2:=yD hb);(try have hb2:=yE hb);(try have hb2:=yF hb);(try have hb2:=yG hb)))|(refine fun (K2:_→AHeap→Prop) hK2=>?_)|((with_reducible refine zY ?_ ?_);decide)|((with_reducible first|refine zZ ?_ (fun K hK=>?_)|refine yA ?_ (fun K hK=>?_));(focus go_simp;done);go_simp;refine hK _ _ ?_;clear hK K)|((with_reducible refine yH mixed rfl ?_ 20 fun K0 hK0=>?_);kernel_rfl)|(with_reducible first|exact yI|exact yJ|refine yK ?_|refine yL ?_|refine yM ?_)|((with_reducible first|refine yN ?_ ?_|refine yO ?_ ?_|refine yP ?_ ?_);rfl)|((with_reducible refine yQ ?_ ?_);rfl;refine hK0 _ _ ?_;clear hK0 K0)|((with_reducible refine yR ?_ ?_ ?_ ?_);rfl;rfl;rfl)|((with_reducible refine yS ?_ ?_ ?_ fun K2 hK2=>?_);rfl;rfl;exact yB rfl)|((with_reducible refine yT ?_ ?_ ?_ ?_ fun K1 K3 d hdst h1 h3=>?_);rfl;rfl;rfl;exact yB rfl;cases hdst;go_simp)|((with_reducible refine yU ?_ ?_ ?_ ?_ fun K1 K3 d hdst h1 h3=>?_);rfl;rfl;rfl;exact yB rfl;cases hdst;go_simp)|((with_reducible refine yV ?_ ?_ (fun K2 hK2=>?_) ?_);rfl;exact yB rfl)|((with_reducible refine yW ?_ ?_ ?_ ?_ (fun K2 hK2=>?_) ?_);rfl;exact yB rfl;rfl;(focus go_simp;done))|((with_reducible refine yX ?_ ?_ ?_ (fun K2 hK2=>?_) ?_);rfl;rfl;exact yB rfl)|((with_reducible refine yY ?_ ?_ (fun K2 hK2=>?_) ?_);rfl;rfl)|((with_reducible refine yZ ?_ ?_);(first|rfl|(dsimp only;decide +kernel)))|((with_reducible refine xA ?_ ?_);(focus go_simp;done))|(go_simp;(try go_bits);(first|(refine hK2 _ _ ?_ ?_<;>clear hK2 K2)|(refine hK2 _ _ ?_;clear hK2 K2))))
    refine ⟨?_, HX.out⟩
    rw [← HG.out, List.drop_eq_nil_of_le (by omega)]; rfl
end Go.Proofs.Try
namespace Go.Proofs.Try
open Go Go.Am Go.RowKit Go.Co
set_option maxRecDepth 100000

/-! Before. -/
theorem errExts_ok {s : Sheet} {c d : Copy} (h : errExts s c d = 0) : errExt s c = 0 ∧ errExt s d = 0 := by
  unfold errExts at h
  split at h
  · rename_i h1; exact absurd h h1
  · split at h
    · rename_i h1; exact absurd h h1
    · split at h
      · rename_i h1; exact absurd h h1
      · rename_i h1; exact ⟨by simpa using h1, h⟩
def befV (s : Sheet) (c d : Copy) : Value := if errExts s c d = 0 then .tuple #[.bool (decide ((lastL s c).getD (s.words.length - 1) 0 < (firstL s d).getD 0 0)), .bool (decide ((firstL s c).getD (s.words.length - 1) 0 < (lastL s d).getD 0 0)), .int .i64 0] else .tuple #[.bool false, .bool false, .int .i64 (errExts s c d)]
theorem befV_plain (s : Sheet) (c d : Copy) : plainV 6 (befV s c d) = true := by
  unfold befV; split <;> rfl

set_option maxHeartbeats 2000000 in
theorem before_s {loops : List (Nat × LInfo)} {H : AHeap} {sv cv dv : Value} {s : Sheet} {c d : Copy} (hs : SheetV H sv s) (hc : CopyV H cv c) (hdv : CopyV H dv d) : CallS Try.prog loops 42 [sv, cv, dv] H fun r H' => r = befV s c d ∧ H' = H := by
  refine CallS.forget (R := fun v => v = befV s c d) (by rintro v rfl; exact befV_plain s c d) ?_
  have HS := Lib.hid hs
  have HC := Lib.hid hc
  have HD := Lib.hid hdv
  obtain ⟨wv, av, rfl, hw, ha⟩ := hs
  obtain ⟨hwl, wa, wc, rfl⟩ := hw.slice
  obtain ⟨hal, aa, ac, rfl⟩ := ha.slice
  obtain ⟨cv, rfl, hcw⟩ := hc
  obtain ⟨hcl, ca, cc, rfl⟩ := hcw.slice
  obtain ⟨dv, rfl, hdw⟩ := hdv
  obtain ⟨hdl, da, dc, rfl⟩ := hdw.slice
  clear hw ha hcw hdw
  have HE := Lib.hid (fun (loops : List (Nat × LInfo)) (H' : AHeap) (hx : Ext H H') => extentsOf_x (loops := loops) (HS.out.ext hx) (HC.out.ext hx) (HD.out.ext hx))
  have HOK : Hid (errExts s c d = 0 → (firstL s c).length = s.words.length ∧ (lastL s c).length = s.words.length ∧ (firstL s d).length = s.words.length ∧ (lastL s d).length = s.words.length ∧ 1 ≤ s.words.length ∧ s.words.length ≤ 40) := Lib.hid (fun h => by
    obtain ⟨h1, h2⟩ := errExts_ok h
    obtain ⟨-, -, -, -, g1, g2, g3, g4⟩ := ends_n h1
    obtain ⟨-, -, -, -, g5, g6, -, -⟩ := ends_n h2
    exact ⟨g1, g2, g5, g6, g3, g4⟩)
  have HBV : Hid (befV s c d = if errExts s c d = 0 then .tuple #[.bool (decide ((lastL s c).getD (s.words.length - 1) 0 < (firstL s d).getD 0 0)), .bool (decide ((firstL s c).getD (s.words.length - 1) 0 < (lastL s d).getD 0 0)), .int .i64 0] else .tuple #[.bool false, .bool false, .int .i64 (errExts s c d)]) := Lib.hid rfl
  generalize befV s c d = bv at HBV
  generalize errExts s c d = er at HE HOK HBV
  generalize firstL s c = F1 at HE HOK HBV
  generalize lastL s c = L1 at HE HOK HBV
  generalize firstL s d = F2 at HE HOK HBV
  generalize lastL s d = L2 at HE HOK HBV
  refine CallS.enter' Try.func42 rfl Try.ntmps42 (by simp) fun f hd hf => ?_
  have f0 := hf 0
  have f1 := hf 1
  have f2 := hf 2
  simp at f0 f1 f2
  clear hf
  have HX1 : Hid (Ext H (((H.push (.row [Value.slice wa s.words.length wc, Value.slice aa s.alts.length ac] 25)).push (.row [Value.slice ca c.words.length cc, .int .i64 c.beg, .int .i64 c.fin, .int .i64 c.per] 27)).push (.row [Value.slice da d.words.length dc, .int .i64 d.beg, .int .i64 d.fin, .int .i64 d.per] 27))) := Lib.hid ((((Ext.refl _).push' _).push' _).push' _)
  by_cases her : er = 0
  · obtain ⟨hl1, hl2, hl3, hl4, hn1, hn2⟩ := HOK.out her
    rw [if_pos her] at HBV
    have hw1 : (0 : Int) ≤ (s.words.length : Int) - 1 := by omega
    have hw2 : (s.words.length : Int) - 1 < (s.words.length : Nat) := by omega
    have hw3 : ((s.words.length : Int) - 1).toNat = s.words.length - 1 := by omega
    have hw4 : (1 : Int) ≤ (s.words.length : Nat) := by omega
    have hw5 : (0 : Int) < (s.words.length : Nat) := by omega
    have hw6 : 0 < s.words.length := by omega
    generalize hy1 : F1.getD (s.words.length - 1) 0 = y1 at HBV
    generalize hy2 : L1.getD (s.words.length - 1) 0 = y2 at HBV
    generalize hy3 : F2.getD 0 0 = y3 at HBV
    generalize hy4 : L2.getD 0 0 = y4 at HBV
    have HY1 := Lib.hid hy1
    have HY2 := Lib.hid hy2
    have HY3 := Lib.hid hy3
    have HY4 := Lib.hid hy4
    clear hy1 hy2 hy3 hy4
    subst her
    repeat' (first|(with_reducible first|refine zA ?_|refine zB fun K hK=>?_|refine zC fun K2 hK2=>?_|refine zD ?_|refine zE ?_|refine zF ?_|refine zG ?_|refine zH ?_|refine zI ?_|refine zJ ?_|refine zK ?_|refine zL ?_|refine zM ?_|refine zN ?_|refine zO ?_|refine zP ?_|refine zQ ?_|refine zR ?_|refine zS ?_|refine zT ?_)|((with_reducible refine zU (hK _ _ ?_));clear hK K)|((with_reducible refine zV ?_ ?_ fun K1 K3 d hdst h1 h3=>?_);rfl;exact yB rfl;cases hdst;go_simp)|((with_reducible refine zW fun K1 K3 h1 h3=>?_);go_simp)|((first|refine h1 ?_|refine h3 ?_);clear h1 h3 K1 K3)|((first|refine zX (fun hb=>h1 ?_) (fun hb=>h3 ?_)|refine zX (fun hb=>h3 ?_) (fun hb=>h1 ?_))<;>(clear h1 h3 K1 K3;(try have hb2:=yC hb);(try have hb2:=yD hb);(try have hb2:=yE hb);(try have hb2:=yF hb);(try have hb2:=yG hb)))|(refine fun (K2:_→AHeap→Prop) hK2=>?_)|((with_reducible refine zY ?_ ?_);decide)|((with_reducible first|refine zZ ?_ (fun K hK=>?_)|refine yA ?_ (fun K hK=>?_));(focus go_simp;done);go_simp;refine hK _ _ ?_;clear hK K)|(go_simp;(try go_bits);(try first | ((with_reducible show CallS _ _ _ _ _ _);refine CallS.mono (HE.out _ _ HX1.out) ?_; rintro _ H1 ⟨⟨oa, on, oc, pi, fa, fn, la, ln, oa', on', oc', pi', fa', fn', la', ln', rfl, hres⟩, hx⟩; (obtain ⟨h1, h2, h3, h4⟩ := hres rfl); (obtain ⟨b1, hv1, -, hb1, hg1⟩ := own_posn h1 hl1 hw6); (obtain ⟨b2, hv2, -, hb2, hg2⟩ := own_posn h2 hl2 hw6); (obtain ⟨b3, hv3, -, hb3, hg3⟩ := own_posn h3 hl3 hw6); (obtain ⟨b4, hv4, -, hb4, hg4⟩ := own_posn h4 hl4 hw6); cases hv1; cases hv2; cases hv3; cases hv4; (have HX2 := Lib.hid (HX1.out.trans hx)); (have hk1 : cellAt H1 b1 (s.words.length - 1) = some (.int .i64 y1) := by rw [← HY1.out]; exact rowCell hg1 (by omega)); (have hk2 : cellAt H1 b2 (s.words.length - 1) = some (.int .i64 y2) := by rw [← HY2.out]; exact rowCell hg2 (by omega)); (have hk3 : cellAt H1 b3 0 = some (.int .i64 y3) := by rw [← HY3.out]; exact rowCell hg3 (by omega)); (have hk4 : cellAt H1 b4 0 = some (.int .i64 y4) := by rw [← HY4.out]; exact rowCell hg4 (by omega)); (have hc0 : cellAt H1 H.n 0 = some (Value.slice wa s.words.length wc) := by rw [hx.cellAt (by simp only [AHeap.n_push]; omega), cellAt_push, if_neg (by simp only [AHeap.n_push]; omega), cellAt_push, if_neg (by simp only [AHeap.n_push]; omega), cellAt_push, if_pos rfl]; rfl); (have hn0 : H.n < H1.n := by have := hx.n; simp only [AHeap.n_push] at this; omega); clear hx hres h1 h2 h3 h4 hg1 hg2 hg3 hg4));refine hK2 _ _ ?_;clear hK2 K2))
    repeat' (first|(with_reducible first|refine zA ?_|refine zB fun K hK=>?_|refine zC fun K2 hK2=>?_|refine zD ?_|refine zE ?_|refine zF ?_|refine zG ?_|refine zH ?_|refine zI ?_|refine zJ ?_|refine zK ?_|refine zL ?_|refine zM ?_|refine zN ?_|refine zO ?_|refine zP ?_|refine zQ ?_|refine zR ?_|refine zS ?_|refine zT ?_)|((with_reducible refine zU (hK _ _ ?_));clear hK K)|((with_reducible refine zV ?_ ?_ fun K1 K3 d hdst h1 h3=>?_);rfl;exact yB rfl;cases hdst;go_simp)|((with_reducible refine zW fun K1 K3 h1 h3=>?_);go_simp)|((first|refine h1 ?_|refine h3 ?_);clear h1 h3 K1 K3)|((first|refine zX (fun hb=>h1 ?_) (fun hb=>h3 ?_)|refine zX (fun hb=>h3 ?_) (fun hb=>h1 ?_))<;>(clear h1 h3 K1 K3;(try have hb2:=yC hb);(try have hb2:=yD hb);(try have hb2:=yE hb);(try have hb2:=yF hb);(try have hb2:=yG hb)))|(refine fun (K2:_→AHeap→Prop) hK2=>?_)|((with_reducible refine zY ?_ ?_);decide)|((with_reducible first|refine zZ ?_ (fun K hK=>?_)|refine yA ?_ (fun K hK=>?_));(focus go_simp;done);go_simp;refine hK _ _ ?_;clear hK K)|((with_reducible refine yH mixed rfl ?_ 20 fun K0 hK0=>?_);kernel_rfl)|(with_reducible first|exact yI|exact yJ|refine yK ?_|refine yL ?_|refine yM ?_)|((with_reducible first|refine yN ?_ ?_|refine yO ?_ ?_|refine yP ?_ ?_);rfl)|((with_reducible refine yQ ?_ ?_);rfl;refine hK0 _ _ ?_;clear hK0 K0)|((with_reducible refine yR ?_ ?_ ?_ ?_);rfl;rfl;rfl)|((with_reducible refine yS ?_ ?_ ?_ fun K2 hK2=>?_);rfl;rfl;exact yB rfl)|((with_reducible refine yT ?_ ?_ ?_ ?_ fun K1 K3 d hdst h1 h3=>?_);rfl;rfl;rfl;exact yB rfl;cases hdst;go_simp)|((with_reducible refine yU ?_ ?_ ?_ ?_ fun K1 K3 d hdst h1 h3=>?_);rfl;rfl;rfl;exact yB rfl;cases hdst;go_simp)|((with_reducible refine yV ?_ ?_ (fun K2 hK2=>?_) ?_);rfl;exact yB rfl)|((with_reducible refine yW ?_ ?_ ?_ ?_ (fun K2 hK2=>?_) ?_);rfl;exact yB rfl;rfl;(focus go_simp;done))|((with_reducible refine yX ?_ ?_ ?_ (fun K2 hK2=>?_) ?_);rfl;rfl;exact yB rfl)|((with_reducible refine yY ?_ ?_ (fun K2 hK2=>?_) ?_);rfl;rfl)|((with_reducible refine yZ ?_ ?_);(first|rfl|(dsimp only;decide +kernel)))|((with_reducible refine xA ?_ ?_);(focus go_simp;done))|(go_simp;(try go_bits);(first|(refine hK2 _ _ ?_ ?_<;>clear hK2 K2)|(refine hK2 _ _ ?_;clear hK2 K2))))
    exact ⟨HBV.out.symm, (HX2.out.push' _).push' _⟩
  · rw [if_neg her] at HBV
    repeat' (first|(with_reducible first|refine zA ?_|refine zB fun K hK=>?_|refine zC fun K2 hK2=>?_|refine zD ?_|refine zE ?_|refine zF ?_|refine zG ?_|refine zH ?_|refine zI ?_|refine zJ ?_|refine zK ?_|refine zL ?_|refine zM ?_|refine zN ?_|refine zO ?_|refine zP ?_|refine zQ ?_|refine zR ?_|refine zS ?_|refine zT ?_)|((with_reducible refine zU (hK _ _ ?_));clear hK K)|((with_reducible refine zV ?_ ?_ fun K1 K3 d hdst h1 h3=>?_);rfl;exact yB rfl;cases hdst;go_simp)|((with_reducible refine zW fun K1 K3 h1 h3=>?_);go_simp)|((first|refine h1 ?_|refine h3 ?_);clear h1 h3 K1 K3)|((first|refine zX (fun hb=>h1 ?_) (fun hb=>h3 ?_)|refine zX (fun hb=>h3 ?_) (fun hb=>h1 ?_))<;>(clear h1 h3 K1 K3;(try have hb2:=yC hb);(try have hb2:=yD hb);(try have hb2:=yE hb);(try have hb2:=yF hb);(try have hb2:=yG hb)))|(refine fun (K2:_→AHeap→Prop) hK2=>?_)|((with_reducible refine zY ?_ ?_);decide)|((with_reducible first|refine zZ ?_ (fun K hK=>?_)|refine yA ?_ (fun K hK=>?_));(focus go_simp;done);go_simp;refine hK _ _ ?_;clear hK K)|(go_simp;(try go_bits);(try first | ((with_reducible show CallS _ _ _ _ _ _);refine CallS.mono (HE.out _ _ HX1.out) ?_; rintro _ H1 ⟨⟨oa, on, oc, pi, fa, fn, la, ln, oa', on', oc', pi', fa', fn', la', ln', rfl, hres⟩, hx⟩; (have HX2 := Lib.hid (HX1.out.trans hx)); clear hx hres));refine hK2 _ _ ?_;clear hK2 K2))
    all_goals try (exact absurd (show er = 0 by simpa using hb) her)
    exact ⟨HBV.out.symm, (HX2.out.push' _).push' _⟩

/-! The reference's Before. -/
set_option maxHeartbeats 4000000 in
theorem refBefore_s {loops : List (Nat × LInfo)} {H : AHeap} {sv cv dv : Value} {s : Sheet} {c d : Copy} (hs : SheetV H sv s) (hc : CopyV H cv c) (hdv : CopyV H dv d) : CallS Try.prog loops 43 [sv, cv, dv] H fun r H' => r = befV s c d ∧ H' = H := by
  refine CallS.forget (R := fun v => v = befV s c d) (by rintro v rfl; exact befV_plain s c d) ?_
  have HS := Lib.hid hs
  have HC := Lib.hid hc
  have HD := Lib.hid hdv
  obtain ⟨wv, av, rfl, hw, ha⟩ := hs
  obtain ⟨hwl, wa, wc, rfl⟩ := hw.slice
  obtain ⟨hal, aa, ac, rfl⟩ := ha.slice
  obtain ⟨cv, rfl, hcw⟩ := hc
  obtain ⟨hcl, ca, cc, rfl⟩ := hcw.slice
  obtain ⟨dv, rfl, hdw⟩ := hdv
  obtain ⟨hdl, da, dc, rfl⟩ := hdw.slice
  clear hw ha hcw hdw
  have HK1 := Lib.hid (fun (loops : List (Nat × LInfo)) (H' : AHeap) (hx : Ext H H') => refCheckCopy_s (loops := loops) (HS.out.ext hx) (HC.out.ext hx))
  have HK2 := Lib.hid (fun (loops : List (Nat × LInfo)) (H' : AHeap) (hx : Ext H H') => refCheckCopy_s (loops := loops) (HS.out.ext hx) (HD.out.ext hx))
  have HE1 := Lib.hid (fun (loops : List (Nat × LInfo)) (H' : AHeap) (hx : Ext H H') => copied_s (loops := loops) (HS.out.ext hx) (HC.out.ext hx))
  have HE2 := Lib.hid (fun (loops : List (Nat × LInfo)) (H' : AHeap) (hx : Ext H H') => copied_s (loops := loops) (HS.out.ext hx) (HD.out.ext hx))
  have hee : errCopied s c = errExt s c := rfl
  have hee2 : errCopied s d = errExt s d := rfl
  rw [hee] at HE1
  rw [hee2] at HE2
  clear hee hee2
  have HF1 := Lib.hid (fun (loops : List (Nat × LInfo)) (H' : AHeap) (hx : Ext H H') (h : errExt s c = 0) => (ends_n h).2.2.1 ▸ refFirst_e (loops := loops) (HS.out.ext hx) (HC.out.ext hx) (ends_n h).1)
  have HL1 := Lib.hid (fun (loops : List (Nat × LInfo)) (H' : AHeap) (hx : Ext H H') (h : errExt s c = 0) => (ends_n h).2.2.2.1 ▸ refLast_e (loops := loops) (HS.out.ext hx) (HC.out.ext hx) (ends_n h).1 (ends_n h).2.1)
  have HF2 := Lib.hid (fun (loops : List (Nat × LInfo)) (H' : AHeap) (hx : Ext H H') (h : errExt s d = 0) => (ends_n h).2.2.1 ▸ refFirst_e (loops := loops) (HS.out.ext hx) (HD.out.ext hx) (ends_n h).1)
  have HL2 := Lib.hid (fun (loops : List (Nat × LInfo)) (H' : AHeap) (hx : Ext H H') (h : errExt s d = 0) => (ends_n h).2.2.2.1 ▸ refLast_e (loops := loops) (HS.out.ext hx) (HD.out.ext hx) (ends_n h).1 (ends_n h).2.1)
  have HOK : Hid (errExt s c = 0 → errExt s d = 0 → (firstL s c).length = s.words.length ∧ (lastL s c).length = s.words.length ∧ (firstL s d).length = s.words.length ∧ (lastL s d).length = s.words.length ∧ 1 ≤ s.words.length ∧ s.words.length ≤ 40) := Lib.hid (fun h1 h2 => by
    obtain ⟨-, -, -, -, g1, g2, g3, g4⟩ := ends_n h1
    obtain ⟨-, -, -, -, g5, g6, -, -⟩ := ends_n h2
    exact ⟨g1, g2, g5, g6, g3, g4⟩)
  have HBV : Hid (befV s c d = if errExts s c d = 0 then .tuple #[.bool (decide ((lastL s c).getD (s.words.length - 1) 0 < (firstL s d).getD 0 0)), .bool (decide ((firstL s c).getD (s.words.length - 1) 0 < (lastL s d).getD 0 0)), .int .i64 0] else .tuple #[.bool false, .bool false, .int .i64 (errExts s c d)]) := Lib.hid rfl
  have HER : Hid (errExts s c d = if errCopy s c ≠ 0 then errCopy s c else if errCopy s d ≠ 0 then errCopy s d else if errExt s c ≠ 0 then errExt s c else errExt s d) := Lib.hid rfl
  generalize befV s c d = bv at HBV
  generalize errExts s c d = er at HER HBV
  generalize errCopy s c = k1 at HK1 HER
  generalize errCopy s d = k2 at HK2 HER
  generalize errExt s c = e1 at HE1 HF1 HL1 HOK HER
  generalize errExt s d = e2 at HE2 HF2 HL2 HOK HER
  generalize firstL s c = F1 at HF1 HOK HBV
  generalize lastL s c = L1 at HL1 HOK HBV
  generalize firstL s d = F2 at HF2 HOK HBV
  generalize lastL s d = L2 at HL2 HOK HBV
  refine CallS.enter' Try.func43 rfl Try.ntmps43 (by simp) fun f hd hf => ?_
  have f0 := hf 0
  have f1 := hf 1
  have f2 := hf 2
  simp at f0 f1 f2
  clear hf
  have HX1 : Hid (Ext H (((H.push (.row [Value.slice wa s.words.length wc, Value.slice aa s.alts.length ac] 25)).push (.row [Value.slice ca c.words.length cc, .int .i64 c.beg, .int .i64 c.fin, .int .i64 c.per] 27)).push (.row [Value.slice da d.words.length dc, .int .i64 d.beg, .int .i64 d.fin, .int .i64 d.per] 27))) := Lib.hid ((((Ext.refl _).push' _).push' _).push' _)
  repeat' (first|(with_reducible first|refine zA ?_|refine zB fun K hK=>?_|refine zC fun K2 hK2=>?_|refine zD ?_|refine zE ?_|refine zF ?_|refine zG ?_|refine zH ?_|refine zI ?_|refine zJ ?_|refine zK ?_|refine zL ?_|refine zM ?_|refine zN ?_|refine zO ?_|refine zP ?_|refine zQ ?_|refine zR ?_|refine zS ?_|refine zT ?_)|((with_reducible refine zU (hK _ _ ?_));clear hK K)|((with_reducible refine zV ?_ ?_ fun K1 K3 d hdst h1 h3=>?_);rfl;exact yB rfl;cases hdst;go_simp)|((with_reducible refine zW fun K1 K3 h1 h3=>?_);go_simp)|((first|refine h1 ?_|refine h3 ?_);clear h1 h3 K1 K3)|((first|refine zX (fun hb=>h1 ?_) (fun hb=>h3 ?_)|refine zX (fun hb=>h3 ?_) (fun hb=>h1 ?_))<;>(clear h1 h3 K1 K3;(try have hb2:=yC hb);(try have hb2:=yD hb);(try have hb2:=yE hb);(try have hb2:=yF hb);(try have hb2:=yG hb)))|(refine fun (K2:_→AHeap→Prop) hK2=>?_)|((with_reducible refine zY ?_ ?_);decide)|((with_reducible first|refine zZ ?_ (fun K hK=>?_)|refine yA ?_ (fun K hK=>?_));(focus go_simp;done);go_simp;refine hK _ _ ?_;clear hK K)|(go_simp;(try go_bits);(try first | ((with_reducible show CallS _ _ _ _ _ _);refine CallS.mono (HK1.out _ _ HX1.out) ?_; rintro _ _ ⟨rfl, h9⟩; rw [h9]; clear h9) | ((with_reducible show CallS _ _ _ _ _ _);refine CallS.mono (HK2.out _ _ HX1.out) ?_; rintro _ _ ⟨rfl, h9⟩; rw [h9]; clear h9) | ((with_reducible show CallS _ _ _ _ _ _);refine CallS.mono (HE1.out _ _ HX1.out) ?_; rintro _ _ ⟨rfl, h9⟩; rw [h9]; clear h9) | ((with_reducible show CallS _ _ _ _ _ _);refine CallS.mono (HE2.out _ _ HX1.out) ?_; rintro _ _ ⟨rfl, h9⟩; rw [h9]; clear h9));refine hK2 _ _ ?_;clear hK2 K2))
  all_goals first
    | (exfalso
       have g1 : (k1 == 0) = false := ‹(k1 == 0) = false›
       have g2 : (k1 != 0) = false := ‹(k1 != 0) = false›
       simp at g1 g2
       exact g1 g2)
    | (exfalso
       have g1 : (k2 == 0) = false := ‹(k2 == 0) = false›
       have g2 : (k2 != 0) = false := ‹(k2 != 0) = false›
       simp at g1 g2
       exact g1 g2)
    | (exfalso
       have g1 : (e1 == 0) = false := ‹(e1 == 0) = false›
       have g2 : (e1 != 0) = false := ‹(e1 != 0) = false›
       simp at g1 g2
       exact g1 g2)
    | (have g1 : ¬ k1 = 0 := by simpa using ‹(k1 == 0) = false›
       have hr : er = k1 := by rw [HER.out, if_pos g1]
       exact ⟨by rw [HBV.out, if_neg (by rw [hr]; exact g1), hr], HX1.out⟩)
    | (have g0 : k1 = 0 := by simpa using ‹(k1 == 0) = true›
       have g1 : ¬ k2 = 0 := by simpa using ‹(k2 == 0) = false›
       have hr : er = k2 := by rw [HER.out, if_neg (by simp [g0]), if_pos g1]
       exact ⟨by rw [HBV.out, if_neg (by rw [hr]; exact g1), hr], HX1.out⟩)
    | (have g0 : k1 = 0 := by simpa using ‹(k1 == 0) = true›
       have g2 : k2 = 0 := by simpa using ‹(k2 == 0) = true›
       have g1 : ¬ e1 = 0 := by simpa using ‹(e1 == 0) = false›
       have hr : er = e1 := by rw [HER.out, if_neg (by simp [g0]), if_neg (by simp [g2]), if_pos g1]
       exact ⟨by rw [HBV.out, if_neg (by rw [hr]; exact g1), hr], HX1.out⟩)
    | (have g0 : k1 = 0 := by simpa using ‹(k1 == 0) = true›
       have g2 : k2 = 0 := by simpa using ‹(k2 == 0) = true›
       have g3 : e1 = 0 := by simpa using ‹(e1 == 0) = true›
       have g1 : ¬ e2 = 0 := by simpa using ‹(e2 != 0) = true›
       have hr : er = e2 := by rw [HER.out, if_neg (by simp [g0]), if_neg (by simp [g2]), if_neg (by simp [g3])]
       exact ⟨by rw [HBV.out, if_neg (by rw [hr]; exact g1), hr], HX1.out⟩)
    | skip
  have g0 : k1 = 0 := by simpa using ‹(k1 == 0) = true›
  have g2 : k2 = 0 := by simpa using ‹(k2 == 0) = true›
  have g3 : e1 = 0 := by simpa using ‹(e1 == 0) = true›
  have g4 : e2 = 0 := by simpa using ‹(e2 != 0) = false›
  have hr : er = 0 := by rw [HER.out, if_neg (by simp [g0]), if_neg (by simp [g2]), if_neg (by simp [g3]), g4]
  rw [if_pos hr] at HBV
  obtain ⟨hl1, hl2, hl3, hl4, hn1, hn2⟩ := HOK.out g3 g4
  have HG3 := Lib.hid g3
  have HG4 := Lib.hid g4
  have hw1 : (0 : Int) ≤ (s.words.length : Int) - 1 := by omega
  have hw2 : (s.words.length : Int) - 1 < (s.words.length : Nat) := by omega
  have hw3 : ((s.words.length : Int) - 1).toNat = s.words.length - 1 := by omega
  have hw4 : (1 : Int) ≤ (s.words.length : Nat) := by omega
  have hw5 : (0 : Int) < (s.words.length : Nat) := by omega
  have hw6 : 0 < s.words.length := by omega
  generalize hy1 : F1.getD (s.words.length - 1) 0 = y1 at HBV
  generalize hy2 : L1.getD (s.words.length - 1) 0 = y2 at HBV
  generalize hy3 : F2.getD 0 0 = y3 at HBV
  generalize hy4 : L2.getD 0 0 = y4 at HBV
  have HY1 := Lib.hid hy1
  have HY2 := Lib.hid hy2
  have HY3 := Lib.hid hy3
  have HY4 := Lib.hid hy4
  clear hy1 hy2 hy3 hy4 g0 g2 g3 g4 hr HER HOK
  have HCELLS : Hid (∀ H' : AHeap, Ext (((H.push (.row [Value.slice wa s.words.length wc, Value.slice aa s.alts.length ac] 25)).push (.row [Value.slice ca c.words.length cc, .int .i64 c.beg, .int .i64 c.fin, .int .i64 c.per] 27)).push (.row [Value.slice da d.words.length dc, .int .i64 d.beg, .int .i64 d.fin, .int .i64 d.per] 27)) H' → cellsAt H' H.n 0 2 = some [Value.slice wa s.words.length wc, Value.slice aa s.alts.length ac] ∧ cellsAt H' (H.n + 1) 0 4 = some [Value.slice ca c.words.length cc, .int .i64 c.beg, .int .i64 c.fin, .int .i64 c.per] ∧ cellsAt H' (H.n + 1 + 1) 0 4 = some [Value.slice da d.words.length dc, .int .i64 d.beg, .int .i64 d.fin, .int .i64 d.per] ∧ H.n + 1 + 1 < H'.n) := Lib.hid (fun H' hx => by
    refine ⟨?_, ?_, ?_, ?_⟩
    · rw [hx.cellsAt (by simp only [AHeap.n_push]; omega), cellsAt_push, if_neg (by simp only [AHeap.n_push]; omega), cellsAt_push, if_neg (by simp only [AHeap.n_push]; omega), cellsAt_push, if_pos rfl]; rfl
    · rw [hx.cellsAt (by simp only [AHeap.n_push]; omega), cellsAt_push, if_neg (by simp only [AHeap.n_push]; omega), cellsAt_push, if_pos (by simp only [AHeap.n_push])]; rfl
    · rw [hx.cellsAt (by simp only [AHeap.n_push]; omega), cellsAt_push, if_pos (by simp only [AHeap.n_push])]; rfl
    · have := hx.n; simp only [AHeap.n_push] at this; omega)
  repeat' (first|(with_reducible first|refine zA ?_|refine zB fun K hK=>?_|refine zC fun K2 hK2=>?_|refine zD ?_|refine zE ?_|refine zF ?_|refine zG ?_|refine zH ?_|refine zI ?_|refine zJ ?_|refine zK ?_|refine zL ?_|refine zM ?_|refine zN ?_|refine zO ?_|refine zP ?_|refine zQ ?_|refine zR ?_|refine zS ?_|refine zT ?_)|((with_reducible refine zU (hK _ _ ?_));clear hK K)|((with_reducible refine zV ?_ ?_ fun K1 K3 d hdst h1 h3=>?_);rfl;exact yB rfl;cases hdst;go_simp)|((with_reducible refine zW fun K1 K3 h1 h3=>?_);go_simp)|((first|refine h1 ?_|refine h3 ?_);clear h1 h3 K1 K3)|((first|refine zX (fun hb=>h1 ?_) (fun hb=>h3 ?_)|refine zX (fun hb=>h3 ?_) (fun hb=>h1 ?_))<;>(clear h1 h3 K1 K3;(try have hb2:=yC hb);(try have hb2:=yD hb);(try have hb2:=yE hb);(try have hb2:=yF hb);(try have hb2:=yG hb)))|(refine fun (K2:_→AHeap→Prop) hK2=>?_)|((with_reducible refine zY ?_ ?_);decide)|((with_reducible first|refine zZ ?_ (fun K hK=>?_)|refine yA ?_ (fun K hK=>?_));(focus go_simp;done);go_simp;refine hK _ _ ?_;clear hK K)|(go_simp;(try go_bits);(try first | ((with_reducible show CallS _ _ _ _ _ _);refine CallS.mono (HF1.out _ _ HX1.out HG3.out) ?_; rintro _ H1 ⟨ho, hx⟩; (obtain ⟨b1, rfl, -, hb1, hg⟩ := own_posn ho hl1 hw6); (have HZ1 := Lib.hid (hx)); (have hk1 : cellAt H1 b1 (s.words.length - 1) = some (.int .i64 y1) := by rw [← HY1.out]; exact rowCell hg (by omega)); (have HK1q := Lib.hid hk1); (have HW1 := Lib.hid hx); (obtain ⟨hc01, hc11, hc21, hm1⟩ := HCELLS.out _ HZ1.out); clear hx hg ho) | ((with_reducible show CallS _ _ _ _ _ _);refine CallS.mono (HL1.out _ _ (HX1.out.trans HZ1.out) HG3.out) ?_; rintro _ H2 ⟨ho, hx⟩; (obtain ⟨b2, rfl, -, hb2, hg⟩ := own_posn ho hl2 hw6); (have HZ2 := Lib.hid (HZ1.out.trans hx)); (have hk2 : cellAt H2 b2 (s.words.length - 1) = some (.int .i64 y2) := by rw [← HY2.out]; exact rowCell hg (by omega)); (have HK2q := Lib.hid hk2); (have HW2 := Lib.hid hx); (obtain ⟨hc02, hc12, hc22, hm2⟩ := HCELLS.out _ HZ2.out); (have hk1_2 : cellAt H2 b1 (s.words.length - 1) = some (.int .i64 y1) := (hx.cellAt (by omega)).trans hk1); (have hbb1_2 : b1 < H2.n := by have := hx.n; omega); clear hx hg ho) | ((with_reducible show CallS _ _ _ _ _ _);refine CallS.mono (HF2.out _ _ (HX1.out.trans HZ2.out) HG4.out) ?_; rintro _ H3 ⟨ho, hx⟩; (obtain ⟨b3, rfl, -, hb3, hg⟩ := own_posn ho hl3 hw6); (have HZ3 := Lib.hid (HZ2.out.trans hx)); (have hk3 : cellAt H3 b3 0 = some (.int .i64 y3) := by rw [← HY3.out]; exact rowCell hg (by omega)); (have HK3q := Lib.hid hk3); (have HW3 := Lib.hid hx); (obtain ⟨hc03, hc13, hc23, hm3⟩ := HCELLS.out _ HZ3.out); (have hk1_3 : cellAt H3 b1 (s.words.length - 1) = some (.int .i64 y1) := (hx.cellAt (by omega)).trans hk1_2); (have hbb1_3 : b1 < H3.n := by have := hx.n; omega); (have hk2_3 : cellAt H3 b2 (s.words.length - 1) = some (.int .i64 y2) := (hx.cellAt (by omega)).trans hk2); (have hbb2_3 : b2 < H3.n := by have := hx.n; omega); clear hx hg ho) | ((with_reducible show CallS _ _ _ _ _ _);refine CallS.mono (HL2.out _ _ (HX1.out.trans HZ3.out) HG4.out) ?_; rintro _ H4 ⟨ho, hx⟩; (obtain ⟨b4, rfl, -, hb4, hg⟩ := own_posn ho hl4 hw6); (have HZ4 := Lib.hid (HZ3.out.trans hx)); (have hk4 : cellAt H4 b4 0 = some (.int .i64 y4) := by rw [← HY4.out]; exact rowCell hg (by omega)); (have HK4q := Lib.hid hk4); (have HW4 := Lib.hid hx); (obtain ⟨hc04, hc14, hc24, hm4⟩ := HCELLS.out _ HZ4.out); (have hk1_4 : cellAt H4 b1 (s.words.length - 1) = some (.int .i64 y1) := (hx.cellAt (by omega)).trans hk1_3); (have hbb1_4 : b1 < H4.n := by have := hx.n; omega); (have hk2_4 : cellAt H4 b2 (s.words.length - 1) = some (.int .i64 y2) := (hx.cellAt (by omega)).trans hk2_3); (have hbb2_4 : b2 < H4.n := by have := hx.n; omega); (have hk3_4 : cellAt H4 b3 0 = some (.int .i64 y3) := (hx.cellAt (by omega)).trans hk3); (have hbb3_4 : b3 < H4.n := by have := hx.n; omega); clear hx hg ho));refine hK2 _ _ ?_;clear hK2 K2))
  repeat' (first|(with_reducible first|refine zA ?_|refine zB fun K hK=>?_|refine zC fun K2 hK2=>?_|refine zD ?_|refine zE ?_|refine zF ?_|refine zG ?_|refine zH ?_|refine zI ?_|refine zJ ?_|refine zK ?_|refine zL ?_|refine zM ?_|refine zN ?_|refine zO ?_|refine zP ?_|refine zQ ?_|refine zR ?_|refine zS ?_|refine zT ?_)|((with_reducible refine zU (hK _ _ ?_));clear hK K)|((with_reducible refine zV ?_ ?_ fun K1 K3 d hdst h1 h3=>?_);rfl;exact yB rfl;cases hdst;go_simp)|((with_reducible refine zW fun K1 K3 h1 h3=>?_);go_simp)|((first|refine h1 ?_|refine h3 ?_);clear h1 h3 K1 K3)|((first|refine zX (fun hb=>h1 ?_) (fun hb=>h3 ?_)|refine zX (fun hb=>h3 ?_) (fun hb=>h1 ?_))<;>(clear h1 h3 K1 K3;(try have hb2:=yC hb);(try have hb2:=yD hb);(try have hb2:=yE hb);(try have hb2:=yF hb);(try have hb2:=yG hb)))|(refine fun (K2:_→AHeap→Prop) hK2=>?_)|((with_reducible refine zY ?_ ?_);decide)|((with_reducible first|refine zZ ?_ (fun K hK=>?_)|refine yA ?_ (fun K hK=>?_));(focus go_simp;done);go_simp;refine hK _ _ ?_;clear hK K)|((with_reducible refine yH mixed rfl ?_ 20 fun K0 hK0=>?_);kernel_rfl)|(with_reducible first|exact yI|exact yJ|refine yK ?_|refine yL ?_|refine yM ?_)|((with_reducible first|refine yN ?_ ?_|refine yO ?_ ?_|refine yP ?_ ?_);rfl)|((with_reducible refine yQ ?_ ?_);rfl;refine hK0 _ _ ?_;clear hK0 K0)|((with_reducible refine yR ?_ ?_ ?_ ?_);rfl;rfl;rfl)|((with_reducible refine yS ?_ ?_ ?_ fun K2 hK2=>?_);rfl;rfl;exact yB rfl)|((with_reducible refine yT ?_ ?_ ?_ ?_ fun K1 K3 d hdst h1 h3=>?_);rfl;rfl;rfl;exact yB rfl;cases hdst;go_simp)|((with_reducible refine yU ?_ ?_ ?_ ?_ fun K1 K3 d hdst h1 h3=>?_);rfl;rfl;rfl;exact yB rfl;cases hdst;go_simp)|((with_reducible refine yV ?_ ?_ (fun K2 hK2=>?_) ?_);rfl;exact yB rfl)|((with_reducible refine yW ?_ ?_ ?_ ?_ (fun K2 hK2=>?_) ?_);rfl;exact yB rfl;rfl;(focus go_simp;done))|((with_reducible refine yX ?_ ?_ ?_ (fun K2 hK2=>?_) ?_);rfl;rfl;exact yB rfl)|((with_reducible refine yY ?_ ?_ (fun K2 hK2=>?_) ?_);rfl;rfl)|((with_reducible refine yZ ?_ ?_);(first|rfl|(dsimp only;decide +kernel)))|((with_reducible refine xA ?_ ?_);(focus go_simp;done))|(go_simp;(try go_bits);(first|(refine hK2 _ _ ?_ ?_<;>clear hK2 K2)|(refine hK2 _ _ ?_;clear hK2 K2))))
  exact ⟨HBV.out.symm, HX1.out.trans HZ4.out⟩
end Go.Proofs.Try
namespace Go.Proofs.Try
open Go Go.Am Go.RowKit Go.Co
set_option maxRecDepth 100000

/-! The law StateOrder. -/
section
variable {H : AHeap} {ev : Operand → Value} {dst : Option Tmp} {ty t' : TypeId} {src : String} {af : Array Edge} {g : Option (Nat × Bool)} {x y : Operand}
theorem eqlF4 (x y : Operand) (a b : Bool) : pureOf Try.prog (do eqGuard .eql 4 x y (.bool a) (.bool b); binOp .eql 4 (.bool a) (.bool b)) = some (.bool (a == b)) := by
  rw [pureOf_bind, show pureOf Try.prog (eqGuard .eql 4 x y (.bool a) (.bool b)) = some () by kernel_rfl]
  dsimp only [Option.bind]
  rw [show binOp .eql 4 (.bool a) (.bool b) = (do pure (.bool (← Op.equal 4 (.bool a) (.bool b)))) from rfl]
  rw [pureOf_bind, show Op.equal 4 (.bool a) (.bool b) = Op.equalIn (9999 + 1) 4 (.bool a) (.bool b) from rfl, pEq4]
  rfl
theorem eqlB_k {kp : Value → AHeap → Option Prop} {a b : Bool} (hx : ev x = .bool a) (hy : ev y = .bool b) (h : Holds (kp (.bool (a == b)) H)) : Holds (aPlain Try.prog ⟨dst, .binOp .eql 4 x y t', ty, src, af, g⟩ ev H kp) := by
  have hr : pureOf Try.prog (execOp ev ⟨dst, .binOp .eql 4 x y t', ty, src, af, g⟩) = some (.value (.bool (a == b))) := by
    have h0 : execOp ev ⟨dst, .binOp .eql 4 x y t', ty, src, af, g⟩ = (do pure (.value (← (do eqGuard .eql 4 x y (ev x) (ev y); binOp .eql 4 (ev x) (ev y))))) := rfl
    rw [h0, hx, hy, pureOf_bind, eqlF4]; rfl
  rw [plain_of rfl, hr]
  have ho : (Op.binOp .eql 4 x y t').operands.toList.all (fun x => plainV 6 (ev x)) = true := by
    show (#[x, y].toList.all fun x => plainV 6 (ev x)) = _
    simp [hx, hy]; exact ⟨rfl, rfl⟩
  rw [if_pos ho]; exact h
@[go_sem] theorem aBin_boolE {β : Type} {kk : K β} {other : Unit → Option β} {t : TypeId} {a b : Bool} : aBin Try.prog .eql t (.bool a) (.bool b) H kk other = other () := by
  have h : nilEq Try.prog t (.bool a) (.bool b) = none := by
    unfold nilEq
    split <;> simp_all
  simp only [aBin, aEq, h]
end
theorem befV_form (s : Sheet) (c d : Copy) : ∃ p q e, befV s c d = .tuple #[.bool p, .bool q, .int .i64 e] := by
  unfold befV; split
  · exact ⟨_, _, _, rfl⟩
  · exact ⟨_, _, _, rfl⟩
set_option maxHeartbeats 2000000 in
theorem law7 {H : AHeap} {sv cv dv : Value} {s : Sheet} {c d : Copy} (hv : SheetV H sv s) (hc : CopyV H cv c) (hdv : CopyV H dv d) : CallS Try.prog [] 7 [sv, cv, dv] H fun r _ => r = .bool true := by
  have HV := Lib.hid hv
  have HC := Lib.hid hc
  have HD := Lib.hid hdv
  obtain ⟨wv, av, rfl, hw, ha⟩ := hv
  obtain ⟨hwl, wa, wc, rfl⟩ := hw.slice
  obtain ⟨hal, aa, ac, rfl⟩ := ha.slice
  obtain ⟨cv, rfl, hcw⟩ := hc
  obtain ⟨hcl, ca, cc, rfl⟩ := hcw.slice
  obtain ⟨dv, rfl, hdw⟩ := hdv
  obtain ⟨hdl, da, dc, rfl⟩ := hdw.slice
  clear hw ha hcw hdw
  obtain ⟨p, q, e, hb⟩ := befV_form s c d
  have HB := Lib.hid hb
  clear hb
  refine CallS.enter' Try.func7 rfl Try.ntmps7 (by simp) fun f hd hf => ?_
  have f0 := hf 0
  have f1 := hf 1
  have f2 := hf 2
  simp at f0 f1 f2
  clear hf
  have HX1 : Hid (Ext H (((H.push (.row [Value.slice wa s.words.length wc, Value.slice aa s.alts.length ac] 25)).push (.row [Value.slice ca c.words.length cc, .int .i64 c.beg, .int .i64 c.fin, .int .i64 c.per] 27)).push (.row [Value.slice da d.words.length dc, .int .i64 d.beg, .int .i64 d.fin, .int .i64 d.per] 27))) := Lib.hid ((((Ext.refl _).push' _).push' _).push' _)
  repeat' (first|(with_reducible first|refine zA ?_|refine zB fun K hK=>?_|refine zC fun K2 hK2=>?_|refine zD ?_|refine zE ?_|refine zF ?_|refine zG ?_|refine zH ?_|refine zI ?_|refine zJ ?_|refine zK ?_|refine zL ?_|refine zM ?_|refine zN ?_|refine zO ?_|refine zP ?_|refine zQ ?_|refine zR ?_|refine zS ?_|refine zT ?_)|((with_reducible refine zU (hK _ _ ?_));clear hK K)|((with_reducible refine zV ?_ ?_ fun K1 K3 d hdst h1 h3=>?_);rfl;exact yB rfl;cases hdst;go_simp)|((with_reducible refine zW fun K1 K3 h1 h3=>?_);go_simp)|((first|refine h1 ?_|refine h3 ?_);clear h1 h3 K1 K3)|((first|refine zX (fun hb=>h1 ?_) (fun hb=>h3 ?_)|refine zX (fun hb=>h3 ?_) (fun hb=>h1 ?_))<;>(clear h1 h3 K1 K3;(try have hb2:=yC hb);(try have hb2:=yD hb);(try have hb2:=yE hb);(try have hb2:=yF hb);(try have hb2:=yG hb)))|(refine fun (K2:_→AHeap→Prop) hK2=>?_)|((with_reducible refine zY ?_ ?_);decide)|((with_reducible first|refine zZ ?_ (fun K hK=>?_)|refine yA ?_ (fun K hK=>?_));(focus go_simp;done);go_simp;refine hK _ _ ?_;clear hK K)|((with_reducible refine yH mixed rfl ?_ 20 fun K0 hK0=>?_);kernel_rfl)|(with_reducible first|exact yI|exact yJ|refine yK ?_|refine yL ?_|refine yM ?_)|((with_reducible first|refine yN ?_ ?_|refine yO ?_ ?_|refine yP ?_ ?_);rfl)|((with_reducible refine yQ ?_ ?_);rfl;refine hK0 _ _ ?_;clear hK0 K0)|((with_reducible refine yR ?_ ?_ ?_ ?_);rfl;rfl;rfl)|((with_reducible refine yS ?_ ?_ ?_ fun K2 hK2=>?_);rfl;rfl;exact yB rfl)|((with_reducible refine yT ?_ ?_ ?_ ?_ fun K1 K3 d hdst h1 h3=>?_);rfl;rfl;rfl;exact yB rfl;cases hdst;go_simp)|((with_reducible refine yU ?_ ?_ ?_ ?_ fun K1 K3 d hdst h1 h3=>?_);rfl;rfl;rfl;exact yB rfl;cases hdst;go_simp)|((with_reducible refine yV ?_ ?_ (fun K2 hK2=>?_) ?_);rfl;exact yB rfl)|((with_reducible refine yW ?_ ?_ ?_ ?_ (fun K2 hK2=>?_) ?_);rfl;exact yB rfl;rfl;(focus go_simp;done))|((with_reducible refine yX ?_ ?_ ?_ (fun K2 hK2=>?_) ?_);rfl;rfl;exact yB rfl)|((with_reducible refine yY ?_ ?_ (fun K2 hK2=>?_) ?_);rfl;rfl)|((with_reducible refine yZ ?_ ?_);(first|rfl|(dsimp only;decide +kernel)))|((with_reducible refine xA ?_ ?_);(focus go_simp;done))|(go_simp;(try go_bits);(try first | ((with_reducible show CallS _ _ _ _ _ _);refine CallS.mono head_s ?_; rintro _ _ ⟨rfl, h9⟩; rw [h9]; clear h9; go_simp) | ((with_reducible show CallS _ _ _ _ _ _);refine CallS.mono (few_s (s := s) (HV.out.ext HX1.out)) ?_; rintro _ _ ⟨rfl, h9⟩; rw [h9]; clear h9; go_simp) | ((with_reducible show CallS _ _ _ _ _ _);refine CallS.mono (brief_s (c := c) (HC.out.ext HX1.out)) ?_; rintro _ _ ⟨rfl, h9⟩; rw [h9]; clear h9; go_simp) | ((with_reducible show CallS _ _ _ _ _ _);refine CallS.mono (brief_s (c := d) (HD.out.ext HX1.out)) ?_; rintro _ _ ⟨rfl, h9⟩; rw [h9]; clear h9; go_simp) | ((with_reducible show CallS _ _ _ _ _ _);refine CallS.mono (before_s (HV.out.ext HX1.out) (HC.out.ext HX1.out) (HD.out.ext HX1.out)) ?_; rintro _ _ ⟨rfl, h9⟩; rw [h9, HB.out]; clear h9; go_simp) | ((with_reducible show CallS _ _ _ _ _ _);refine CallS.mono (refBefore_s (HV.out.ext HX1.out) (HC.out.ext HX1.out) (HD.out.ext HX1.out)) ?_; rintro _ _ ⟨rfl, h9⟩; rw [h9, HB.out]; clear h9; go_simp) | ((refine eqlB_k (by first | (go_simp; done) | (go_simp; rfl)) (by first | (go_simp; done) | (go_simp; rfl)) ?_); go_simp));(first|(refine hK2 _ _ ?_ ?_<;>clear hK2 K2)|(refine hK2 _ _ ?_;clear hK2 K2))))
  all_goals try rfl
end Go.Proofs.Try
namespace Go.Proofs.Try
open Go.ChangeShapes Go.WideShapes Go.ChangeAt Go.RowKit Go.Joins Go.Deep Go.Am
set_option maxRecDepth 100000

/-! What an argument holds, as the walk wants it. -/

section
variable {H : Type} {enc : TypeId × Value → H} {P : Program} {w : World} {base : Nat} {spare : Nat → Bool} {held : Bool}
theorem open_slice_fields {t e : TypeId} {fs : Array Field} {fuel : Nat} {cs : List Value} {x : DataW H × List MemPlace} (ht : P.underlying t = some (.slice e)) (he : P.underlying e = some (.struct fs))
    (hone : oneCellFields P fs = true) (hC : P.cellsOf e = fs.size) (h : DataW.trod enc P w base spare held fuel t cs = some x) :
    (cs = [.slice none 0 0] ∧ x = (.nil, [])) ∨
    ∃ (a : Addr) (len cap m : Nat) (D : Nat → DataW H) (Pl : Nat → List MemPlace), cs = [.slice (some a) len cap] ∧ base ≤ a.block ∧ len ≤ cap ∧ cap ≤ maxLen ∧ m = (if spare a.block then cap else len) ∧
      x = (.slice ((List.range len).map D) ((List.range (m - len)).map fun j => D (len + j)), MemPlace.row a (m * fs.size) ++ (List.range m).flatMap Pl) ∧
      ∀ i, i < m → ∃ (ys : List (DataW H × List MemPlace)) (n : Nat), D i = .agg (ys.map (·.1)) ∧ Pl i = ys.flatMap (·.2) ∧ ys.length = fs.size ∧
        ∀ (j : Nat) (f : Field), fs[j]? = some f → ∃ (v : Value) (y : DataW H × List MemPlace), w.cell? (a.add (i * fs.size + j)) = some v ∧ ys[j]? = some y ∧ DataW.trod enc P w base spare held n f.type [v] = some y := by
  rcases open_slice ht h with h0 | ⟨a, len, cap, m, n, D, Pl, hcs, hb, hl, hm, hmm, hx, hi⟩
  · exact .inl h0
  · refine .inr ⟨a, len, cap, m, D, Pl, hcs, hb, hl, hm, hmm, by rw [hC] at hx; exact hx, fun i him => ?_⟩
    obtain ⟨cs', hc, ht'⟩ := hi i him
    rw [hC] at hc
    obtain ⟨ys, n', hn', hy, hlen, hyl, hf⟩ := DataW.trod_struct he ht'
    obtain ⟨_, hcl, hat⟩ := World.cells?_some hc
    simp only [Prod.mk.injEq] at hy
    refine ⟨ys, n', hy.1, hy.2, hyl, fun j f hj => ?_⟩
    obtain ⟨ho, hk⟩ := hone_of hone j f hj
    have hjl : j < fs.size := (Array.getElem?_eq_some_iff.1 hj).1
    have hcell := hat j hjl
    have hv : cs'[j]? = some (cs'[j]'(by omega)) := List.getElem?_eq_getElem (by omega)
    have h1 := hf j f hj
    rw [ho, hk] at h1
    have hone' : (cs'.drop j).take 1 = [cs'[j]'(by omega)] := by
      rw [List.drop_eq_getElem_cons (by omega)]
      rfl
    rw [hone'] at h1
    have hys : ys[j]? = some (ys[j]'(by omega)) := List.getElem?_eq_getElem (by omega)
    refine ⟨_, _, ?_, hys, h1.trans hys⟩
    rw [← Go.Deep.add_add, hcell, hv]
end
theorem add_at (b o j : Nat) : (⟨b, o, none⟩ : Addr).add j = ⟨b, o + j, none⟩ := by
  unfold Addr.add
  split
  · rename_i h; subst h; rfl
  · rfl
theorem cell_lt {w : World} {p : Addr} {v : Value} (h : w.cell? p = some v) : p.block < w.heap.size := by
  rcases Nat.lt_or_ge p.block w.heap.size with hlt | hge
  · exact hlt
  · unfold World.cell? at h
    rw [Array.getElem?_eq_none hge] at h
    cases h
theorem cell_spot {w : World} {p : Addr} {v : Value} (h : w.cell? p = some v) : p.spot = none := by
  unfold World.cell? at h
  split at h
  · split at h
    · cases h
    · rename_i h0; simpa using h0
  · cases h

theorem slice_abs {w : World} {a : Addr} {len cap size d : Nat} {us : List Value} (hl : len ≤ cap) (hc : len ≤ 9223372036854775807) (hus : us.length = len * size) (hsz : 0 < size) (hplain : ∀ (j : Nat) (u : Value), us[j]? = some u → absV w.heap.size 8 u = u) (hcell : ∀ (j : Nat) (u : Value), us[j]? = some u → w.cell? (a.add j) = some u) : Cells (absH w) (absV w.heap.size (d + 1) (.slice (some a) len cap)) size len us := by
  by_cases h0 : len = 0
  · subst h0
    simp only [absV]
    split
    · exact ⟨hus, hc, _, _, rfl, by omega⟩
    · rw [if_pos trivial]; exact ⟨hus, hc, _, _, rfl, by omega⟩
  · have hpos : 0 < us.length := by rw [hus]; exact Nat.mul_pos (by omega) hsz
    have h1 := hcell 0 _ (List.getElem?_eq_getElem hpos)
    have e0 : a.add 0 = a := by unfold Addr.add; rw [if_pos rfl]
    rw [e0] at h1
    have hsp := cell_spot h1
    have hlt := cell_lt h1
    obtain ⟨b, o, sp⟩ := a
    simp only at hsp hlt
    subst hsp
    simp only [absV]
    rw [if_pos ⟨trivial, hlt, hl⟩]
    refine ⟨hus, hc, _, _, rfl, fun _ => ⟨b, o, none, rfl, by rw [absH_n]; exact hlt, fun j u hu => ?_⟩⟩
    have h2 := hcell j u hu
    rw [add_at] at h2
    rw [abs_cell h2, hplain j u hu]

section
variable {H : Type} {enc : TypeId × Value → H} {w : World}
theorem ints_abs {fuel d : Nat} {v : Value} {x : DataW H × List MemPlace} (h : DataW.trod enc Try.prog w 0 (fun _ => true) true fuel 22 [v] = some x) : ∃ xs, Ints (absH w) (absV w.heap.size (d + 1) v) xs := by
  rcases open_ints Try.underlying22 Try.underlying3 (by kernel_rfl) h with ⟨hcs, _⟩ | ⟨a, l, c, zs, hcs, _, hl, hm, hz, _, hcell, _⟩
  · injection hcs with hcs _
    subst hcs
    exact ⟨[], rfl, by simp, none, 0, rfl, by simp⟩
  · injection hcs with hcs _
    subst hcs
    simp only [if_true] at hz
    have hlen : (zs.take l).length = l := by rw [List.length_take]; omega
    refine ⟨zs.take l, ?_⟩
    unfold Ints
    rw [hlen]
    refine slice_abs hl (by unfold maxLen at hm; omega) (by rw [List.length_map, hlen]; omega) (by decide) (fun j u hu => ?_) (fun j u hu => ?_)
    · rw [List.getElem?_map] at hu
      obtain ⟨z, _, rfl⟩ := Option.map_eq_some_iff.1 hu
      rfl
    · rw [List.getElem?_map] at hu
      obtain ⟨z, hz1, rfl⟩ := Option.map_eq_some_iff.1 hu
      rw [List.getElem?_take] at hz1
      split at hz1
      · have hj : j < zs.length := (List.getElem?_eq_some_iff.1 hz1).1
        rw [hcell j hj, List.getD_eq_getElem?_getD, hz1]
        rfl
      · cases hz1

theorem alts_abs {fuel d : Nat} {v : Value} {x : DataW H × List MemPlace} (h : DataW.trod enc Try.prog w 0 (fun _ => true) true fuel 23 [v] = some x) : ∃ l, Alts (absH w) (absV w.heap.size (d + 1) v) l := by
  rcases open_slice_fields Try.underlying23 Try.underlying61 (by kernel_rfl) (by kernel_rfl) h with ⟨hcs, _⟩ | ⟨a, len, cap, m, D, Pl, hcs, _, hl, hm, hmm, _, hf⟩
  · injection hcs with hcs _
    subst hcs
    exact ⟨[], rfl, by simp, none, 0, rfl, by simp⟩
  · injection hcs with hcs _
    subst hcs
    simp only [if_true] at hmm
    have hq : ∀ i, i < len → ∃ q : Alt, ∀ j u, q.cells[j]? = some u → w.cell? (a.add (i * 6 + j)) = some u := by
      intro i hi
      obtain ⟨ys, n, _, _, _, hj⟩ := hf i (by omega)
      obtain ⟨v0, y0, hc0, _, ht0⟩ := hj 0 _ rfl
      obtain ⟨v1, y1, hc1, _, ht1⟩ := hj 1 _ rfl
      obtain ⟨v2, y2, hc2, _, ht2⟩ := hj 2 _ rfl
      obtain ⟨v3, y3, hc3, _, ht3⟩ := hj 3 _ rfl
      obtain ⟨v4, y4, hc4, _, ht4⟩ := hj 4 _ rfl
      obtain ⟨v5, y5, hc5, _, ht5⟩ := hj 5 _ rfl
      obtain ⟨z0, hz0, _, _⟩ := DataW.trod_int Try.underlying3 ht0
      obtain ⟨z1, hz1, _, _⟩ := DataW.trod_int Try.underlying3 ht1
      obtain ⟨z2, hz2, _, _⟩ := DataW.trod_int Try.underlying3 ht2
      obtain ⟨z3, hz3, _, _⟩ := DataW.trod_int Try.underlying3 ht3
      obtain ⟨z4, hz4, _, _⟩ := DataW.trod_int Try.underlying3 ht4
      obtain ⟨z5, hz5, _, _⟩ := DataW.trod_int Try.underlying3 ht5
      injection hz0 with hz0 _
      injection hz1 with hz1 _
      injection hz2 with hz2 _
      injection hz3 with hz3 _
      injection hz4 with hz4 _
      injection hz5 with hz5 _
      subst hz0 hz1 hz2 hz3 hz4 hz5
      refine ⟨⟨z0, z1, z2, z3, z4, z5⟩, fun j u hu => ?_⟩
      match j, hu with
      | 0, hu => cases hu; exact hc0
      | 1, hu => cases hu; exact hc1
      | 2, hu => cases hu; exact hc2
      | 3, hu => cases hu; exact hc3
      | 4, hu => cases hu; exact hc4
      | 5, hu => cases hu; exact hc5
      | j + 6, hu => simp [Alt.cells] at hu
    obtain ⟨f, hf'⟩ := Classical.skolem.1 (fun i => show ∃ q : Alt, i < len → ∀ j u, q.cells[j]? = some u → w.cell? (a.add (i * 6 + j)) = some u by
      by_cases hi : i < len
      · obtain ⟨q, hq⟩ := hq i hi; exact ⟨q, fun _ => hq⟩
      · exact ⟨⟨0, 0, 0, 0, 0, 0⟩, fun h => absurd h hi⟩)
    have hlen : ((List.range len).map f).length = len := by simp
    refine ⟨(List.range len).map f, ?_⟩
    unfold Alts
    rw [hlen]
    have hget : ∀ j u, (altCells ((List.range len).map f))[j]? = some u → ∃ k i, k < len ∧ j = k * 6 + i ∧ (f k).cells[i]? = some u := by
      intro j u hu
      have hj : j < len * 6 := by
        have := (List.getElem?_eq_some_iff.1 hu).1
        rw [altCells_length, hlen] at this; exact this
      have hk : j / 6 < len := by omega
      have hi : j % 6 < 6 := Nat.mod_lt _ (by decide)
      have hcl : (f (j / 6)).cells.length = 6 := rfl
      have h1 := altCells_get ((List.range len).map f) (j / 6) (by rw [hlen]; exact hk) (j % 6) ((f (j / 6)).cells[j % 6]'(by rw [hcl]; exact hi)) (by simp)
      have e : j / 6 * 6 + j % 6 = j := by omega
      rw [e, hu] at h1
      refine ⟨j / 6, j % 6, hk, e.symm, ?_⟩
      rw [List.getElem?_eq_getElem (by rw [hcl]; exact hi)]
      exact h1.symm ▸ rfl
    refine slice_abs hl (by unfold maxLen at hm; omega) (by rw [altCells_length, hlen]) (by decide) (fun j u hu => ?_) (fun j u hu => ?_)
    · obtain ⟨k, i, hk, rfl, hi⟩ := hget j u hu
      match i, hi with
      | 0, hi => cases hi; rfl
      | 1, hi => cases hi; rfl
      | 2, hi => cases hi; rfl
      | 3, hi => cases hi; rfl
      | 4, hi => cases hi; rfl
      | 5, hi => cases hi; rfl
      | i + 6, hi => simp [Alt.cells] at hi
    · obtain ⟨k, i, hk, rfl, hi⟩ := hget j u hu
      exact hf' k hk i u hi
end

theorem ownOne : ownKnob Try.prog.godebug = none := by kernel_rfl
theorem laidOut : laidOutB Try.prog = true := by kernel_rfl

theorem fields25 : ∃ f0 f1 : Field, Try.prog.underlying 25 = some (.struct #[f0, f1]) ∧ f0.type = 22 ∧ f1.type = 23 ∧ f0.offset = 0 ∧ f1.offset = 1 ∧ Try.prog.cellsOf 22 = 1 ∧ Try.prog.cellsOf 23 = 1 ∧ Try.prog.cellsOf 25 = 2 :=
  ⟨(fieldOf Try.prog 25 0).getD default, (fieldOf Try.prog 25 1).getD default, by kernel_rfl, by kernel_rfl, by kernel_rfl, by kernel_rfl, by kernel_rfl, by kernel_rfl, by kernel_rfl, by kernel_rfl⟩

section
variable {H : Type} {enc : TypeId × Value → H} {w : World}
/-- A sheet among the arguments. -/
theorem sheet_abs {r : Reach} {b0 : Nat} {v : Value} {d : DataW H} {p : List MemPlace} (hval : Value.okWide Try.prog w r b0 25 v) (h : DataW.Trod enc Try.prog w 0 (fun _ => true) true 25 v d p) : ∃ s, SheetV (absH w) (absV w.heap.size 8 v) s := by
  obtain ⟨f0, f1, hu, h0, h1, h2, h3, h4, h5, h6⟩ := fields25
  obtain ⟨cs, rfl, hcs⟩ := okWide_struct hu hval
  obtain ⟨fuel, hf⟩ := h
  obtain ⟨y0, y1, n, _, _, ht0, ht1⟩ := trod_struct2 hu hf
  rw [h6] at hcs
  obtain ⟨a, b, rfl⟩ : ∃ a b, cs = #[a, b] := by
    obtain ⟨l⟩ := cs
    match l, hcs with
    | [a, b], _ => exact ⟨a, b, rfl⟩
  rw [h0, h2, h4] at ht0
  rw [h1, h3, h5] at ht1
  obtain ⟨xs, hx⟩ := ints_abs (d := 6) (v := a) (by simpa [Value.cells] using ht0)
  obtain ⟨l, hl⟩ := alts_abs (d := 6) (v := b) (by simpa [Value.cells] using ht1)
  exact ⟨⟨xs, l⟩, _, _, by simp [absV], hx, hl⟩
end

theorem fields27 : ∃ f0 f1 f2 f3 : Field, Try.prog.underlying 27 = some (.struct #[f0, f1, f2, f3]) ∧ (f0.type = 22 ∧ f1.type = 3 ∧ f2.type = 3 ∧ f3.type = 3) ∧ (f0.offset = 0 ∧ f1.offset = 1 ∧ f2.offset = 2 ∧ f3.offset = 3) ∧ Try.prog.cellsOf 22 = 1 ∧ Try.prog.cellsOf 3 = 1 ∧ Try.prog.cellsOf 27 = 4 :=
  ⟨(fieldOf Try.prog 27 0).getD default, (fieldOf Try.prog 27 1).getD default, (fieldOf Try.prog 27 2).getD default, (fieldOf Try.prog 27 3).getD default, by kernel_rfl, by refine ⟨?_, ?_, ?_, ?_⟩ <;> kernel_rfl, by refine ⟨?_, ?_, ?_, ?_⟩ <;> kernel_rfl, by kernel_rfl, by kernel_rfl, by kernel_rfl⟩
section
variable {H : Type} {enc : TypeId × Value → H} {w : World}
/-- A copy among the arguments. -/
theorem copy_abs {r : Reach} {b0 : Nat} {v : Value} {d : DataW H} {p : List MemPlace} (hval : Value.okWide Try.prog w r b0 27 v) (h : DataW.Trod enc Try.prog w 0 (fun _ => true) true 27 v d p) : ∃ c, CopyV (absH w) (absV w.heap.size 8 v) c := by
  obtain ⟨f0, f1, f2, f3, hu, ⟨t0, t1, t2, t3⟩, ⟨o0, o1, o2, o3⟩, h4, h5, h6⟩ := fields27
  obtain ⟨cs, rfl, hcs⟩ := okWide_struct hu hval
  obtain ⟨fuel, hf⟩ := h
  obtain ⟨xs, n, _, _, _, _, ht⟩ := DataW.trod_struct hu hf
  rw [h6] at hcs
  obtain ⟨a, b, c, e, rfl⟩ : ∃ a b c e, cs = #[a, b, c, e] := by
    obtain ⟨l⟩ := cs
    match l, hcs with
    | [a, b, c, e], _ => exact ⟨a, b, c, e, rfl⟩
  have ht0 := ht 0 f0 rfl
  have ht1 := ht 1 f1 rfl
  have ht2 := ht 2 f2 rfl
  have ht3 := ht 3 f3 rfl
  rw [t0, o0, h4] at ht0
  rw [t1, o1, h5] at ht1
  rw [t2, o2, h5] at ht2
  rw [t3, o3, h5] at ht3
  have hlen : xs.length = 4 := by assumption
  rw [List.getElem?_eq_getElem (by omega)] at ht0 ht1 ht2 ht3
  obtain ⟨ws, hx⟩ := ints_abs (d := 6) (v := a) (by simpa [Value.cells] using ht0)
  obtain ⟨z1, hz1, _, _⟩ := DataW.trod_int Try.underlying3 (show DataW.trod enc Try.prog w 0 (fun _ => true) true n 3 [b] = _ by simpa [Value.cells] using ht1)
  obtain ⟨z2, hz2, _, _⟩ := DataW.trod_int Try.underlying3 (show DataW.trod enc Try.prog w 0 (fun _ => true) true n 3 [c] = _ by simpa [Value.cells] using ht2)
  obtain ⟨z3, hz3, _, _⟩ := DataW.trod_int Try.underlying3 (show DataW.trod enc Try.prog w 0 (fun _ => true) true n 3 [e] = _ by simpa [Value.cells] using ht3)
  injection hz1 with hz1 _
  injection hz2 with hz2 _
  injection hz3 with hz3 _
  subst hz1 hz2 hz3
  exact ⟨⟨ws, z1, z2, z3⟩, _, by simp [absV], hx⟩
/-- Numbers among the arguments. -/
theorem list_abs {r : Reach} {b0 : Nat} {v : Value} {d : DataW H} {p : List MemPlace} (hval : Value.okWide Try.prog w r b0 22 v) (h : DataW.Trod enc Try.prog w 0 (fun _ => true) true 22 v d p) : ∃ xs, Ints (absH w) (absV w.heap.size 8 v) xs := by
  obtain ⟨a, len, cap, rfl⟩ := okWide_slice Try.underlying22 hval
  obtain ⟨fuel, hf⟩ := h
  exact ints_abs (d := 7) hf
end
end Go.Proofs.Try
