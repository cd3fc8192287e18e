/- Contracts of functions, walked. -/
import Derived.Test.YtgddlpegljkgpaaGreatStZL
import Derived.Test.YtgddlpegljkgpaaGreatStSF
import Derived.Test.YtgddlpegljkgpaaGreatStTB
import Derived.Test.YtgddlpegljkgpaaGreatAwB
set_option linter.all false
namespace Go.Proofs.Tryz
open Go Go.Am Go.RowKit Go.Co
set_option maxRecDepth 100000

set_option maxHeartbeats 16000000 in
theorem refCeils_s {loops : List (Nat × LInfo)} {H : AHeap} {sv cv dv : Value} {s : Sheet} {c : Copy} {fl : List Int} (hs : SheetV H sv s) (hc : CopyV H cv c) (hdv : Ints H dv fl) : CallS Tryz.prog loops 58 [sv, cv, dv] H fun r H' => r = .int .i64 (errCeils s c fl) ∧ H' = H := by
  refine CallS.forget (R := fun v => v = .int .i64 (errCeils s c fl)) (by rintro v rfl; rfl) ?_
  have HV := Lib.hid hs
  have HC := Lib.hid hc
  have HD := Lib.hid hdv
  obtain ⟨wv, av, rfl, hw, ha⟩ := hs
  obtain ⟨hwl, wa, wc, rfl⟩ := hw.slice
  obtain ⟨hal, aa, ac, rfl⟩ := ha.slice
  obtain ⟨cv, rfl, hcw⟩ := hc
  have HCW := Lib.hid hcw
  obtain ⟨hcl, ca, cc, rfl⟩ := hcw.slice
  obtain ⟨hdl, da, dc, rfl⟩ := hdv.slice
  clear hw ha hcw hdv
  generalize hr : errCeils s c fl = r
  have HR : Hid (r = errCeils s c fl) := Lib.hid hr.symm
  clear hr
  refine CallS.enter' Tryz.func58 rfl Tryz.ntmps58 (by simp) fun f hd hf => ?_
  have f0 := hf 0
  have f1 := hf 1
  have f2 := hf 2
  simp at f0 f1 f2
  clear hf
  have HX1 : Hid (Ext H ((H.push (.row [Value.slice wa s.words.length wc, Value.slice aa s.alts.length ac] 25)).push (.row [Value.slice ca c.words.length cc, .int .i64 c.beg, .int .i64 c.fin, .int .i64 c.per] 27))) := Lib.hid (((Ext.refl _).push' _).push' _)
  have HCH := Lib.hid (fun (loops : List (Nat × LInfo)) => refCheckCopy_s (loops := loops) (s := s) (c := c) (HV.out.ext HX1.out) (HC.out.ext HX1.out))
  by_cases he : errCopy s c = 0
  · obtain ⟨h0, h1, h2, h3, h4, h5, h6, h7⟩ := errCopy_ok he
    rw [he] at HCH
    by_cases hl : fl.length = s.words.length
    · have hl2 := hl
      have h8 : errCeils s c fl = if (courseOf s c).ceils c.per.toNat fl then 0 else 8 := by rw [errCeils, if_neg (by simp [he]), if_pos (by rw [h1]; exact hl)]
      obtain ⟨p, hp⟩ : ∃ p : Nat, c.per = p := ⟨c.per.toNat, by omega⟩
      have hp1 : 1 ≤ p := by omega
      have hbad := ceils_bad (ce := fl) he (by omega)
      rw [show c.per.toNat = p by omega] at hbad h8
      have HBAD : Hid ((∀ k, k < fl.length → ∀ d, ¬ BadC s c fl p k d) → r = 0) := Lib.hid (fun h => by rw [HR.out, h8, if_pos (hbad.2 h)])
      have HB8 : Hid (∀ k d, k < fl.length → BadC s c fl p k d → r = 8) := Lib.hid (fun k d hk h => by
        rw [HR.out, h8, if_neg (fun h9 => hbad.1 h9 k hk d h)])
      have hw40 := (win_iff.1 (err_ok h0).2.1).2
      have HLW := Lib.hid hl
      have HLC := Lib.hid h1
      have HBG := Lib.hid h3
      have HFN := Lib.hid h5
      have HBF := Lib.hid h4
      rw [hp] at HX1 HCH HC f1
      have hp40 : p ≤ 40 := by omega
      have hlb : ((fl.length : Int) != (s.words.length : Int)) = false := by simpa using (show (fl.length : Int) = (s.words.length : Int) by omega)
      clear HR h8 he h2 h3 h4 h5 h6 h7 hl hl2 h0 h1 hp hbad
      repeat' (first|(with_reducible first|refine zA ?_|refine zB fun K hK=>?_|refine zC fun K2 hK2=>?_|refine zD ?_|refine zE ?_|refine zF ?_|refine zG ?_|refine zH ?_|refine zI ?_|refine zM ?_|refine zN ?_|refine zO ?_|refine zP ?_|refine zQ ?_|refine zR ?_)|((with_reducible refine zU (hK _ _ ?_));clear hK K)|((with_reducible refine zV ?_ ?_ fun K1 K3 d hdst h1 h3=>?_);rfl;exact yB rfl;cases hdst;go_simp)|((with_reducible refine zW fun K1 K3 h1 h3=>?_);go_simp)|((first|refine h1 ?_|refine h3 ?_);clear h1 h3 K1 K3)|((first|refine zX (fun hb=>h1 ?_) (fun hb=>h3 ?_)|refine zX (fun hb=>h3 ?_) (fun hb=>h1 ?_))<;>(clear h1 h3 K1 K3;(try have hb2:=yC hb);(try have hb2:=yD hb);(try have hb2:=yE hb);(try have hb2:=yF hb);(try have hb2:=yG hb)))|(refine fun (K2:_→AHeap→Prop) hK2=>?_)|((with_reducible refine zY ?_ ?_);decide)|((with_reducible first|refine zZ ?_ (fun K hK=>?_)|refine yA ?_ (fun K hK=>?_));(focus go_simp;done);go_simp;refine hK _ _ ?_;clear hK K)|(go_simp;(try go_bits);(try first | ((with_reducible show CallS _ _ _ _ _ _);refine CallS.mono (HCH.out _) ?_; rintro _ _ ⟨rfl, h9⟩; rw [h9]; clear h9));refine hK2 _ _ ?_;clear hK2 K2))
      refine CodeS.loop (fun m f H' => ∃ k : Nat, k ≤ fl.length ∧ m = fl.length - k ∧ f.tmp 9 = .int .i64 k ∧ f.tmp 7 = .int .i64 (s.words.length : Nat) ∧ f.tmp 2 = .slice da fl.length dc ∧ f.tmp 3 = .pointer (some ⟨H.n, 0, none⟩) ∧ f.tmp 4 = .pointer (some ⟨H.n + 1, 0, none⟩) ∧ f.defers = [] ∧ Hid (∀ j, j < k → ∀ d, ¬ BadC s c fl p j d) ∧ H' = (H.push (.row [Value.slice wa s.words.length wc, Value.slice aa s.alts.length ac] 25)).push (.row [Value.slice ca c.words.length cc, .int .i64 c.beg, .int .i64 c.fin, .int .i64 p] 27)) fl.length ?_ ?_
      · exact ⟨0, by simp, by simp, (by first|go_simp<;>go_num|assumption), (by first|go_simp<;>go_num|assumption), (by first|go_simp<;>go_num|assumption), (by first|go_simp<;>go_num|assumption), (by first|go_simp<;>go_num|assumption), (by first|go_simp<;>go_num|assumption), Lib.hid (by intro j hj; omega), rfl⟩
      clear f0 f1 f2 hd f hlb
      rintro m f H' ⟨k, hk, rfl, f9, f7, f2, f3, f4, hd, HF, rfl⟩
      by_cases hlt : k < fl.length
      · obtain ⟨b, o, sp, rfl, hb, hx⟩ := HD.out.at_ hlt
        have hcl2 : k < c.words.length := by have := HLW.out; have := HLC.out; omega
        obtain ⟨b2, o2, sp2, rfl, hb2, hx2⟩ := HCW.out.at_ hcl2
        have hgw : c.words.getD k 0 = c.words[k] := by simp [List.getD_eq_getElem?_getD, hcl2]
        have hgy : fl.getD k 0 = fl[k] := by simp [List.getD_eq_getElem?_getD, hlt]
        generalize c.words[k] = w at hx2 hgw
        generalize fl[k] = y0 at hx hgy
        have HGW := Lib.hid hgw
        have HGY := Lib.hid hgy
        clear hgw hgy
        have hlki : (k : Int) < (c.words.length : Int) := by omega
        have hki : (k : Int) < (fl.length : Int) := by omega
        have hbn : b < H.n + 1 + 1 := by omega
        have hbn2 : b2 < H.n + 1 + 1 := by omega
        have hk40 : k ≤ 40 := by have := HLW.out; omega
        have hlw : k < s.words.length := by have := HLW.out; omega
        repeat' (first|(with_reducible first|refine zA ?_|refine zB fun K hK=>?_|refine zC fun K2 hK2=>?_|refine zD ?_|refine zE ?_|refine zF ?_|refine zG ?_|refine zH ?_|refine zI ?_|refine zM ?_|refine zN ?_|refine zO ?_|refine zP ?_|refine zQ ?_|refine zR ?_)|((with_reducible refine zU (hK _ _ ?_));clear hK K)|((with_reducible refine zV ?_ ?_ fun K1 K3 d hdst h1 h3=>?_);rfl;exact yB rfl;cases hdst;go_simp)|((with_reducible refine zW fun K1 K3 h1 h3=>?_);go_simp)|((first|refine h1 ?_|refine h3 ?_);clear h1 h3 K1 K3)|((first|refine zX (fun hb=>h1 ?_) (fun hb=>h3 ?_)|refine zX (fun hb=>h3 ?_) (fun hb=>h1 ?_))<;>(clear h1 h3 K1 K3;(try have hb2:=yC hb);(try have hb2:=yD hb);(try have hb2:=yE hb);(try have hb2:=yF hb);(try have hb2:=yG hb)))|(refine fun (K2:_→AHeap→Prop) hK2=>?_)|((with_reducible refine zY ?_ ?_);decide)|((with_reducible first|refine zZ ?_ (fun K hK=>?_)|refine yA ?_ (fun K hK=>?_));(focus go_simp;done);go_simp;refine hK _ _ ?_;clear hK K)|(go_simp;(try go_bits);refine hK2 _ _ ?_;clear hK2 K2))
        refine CodeS.loop (fun m f H' => ∃ d : Int, c.beg ≤ d ∧ d ≤ c.fin + 1 ∧ m = (c.fin + 1 - d).toNat ∧ f.tmp 10 = .int .i64 d ∧ f.tmp 9 = .int .i64 k ∧ f.tmp 7 = .int .i64 (s.words.length : Nat) ∧ f.tmp 2 = .slice (some ⟨b, o, sp⟩) fl.length dc ∧ f.tmp 3 = .pointer (some ⟨H.n, 0, none⟩) ∧ f.tmp 4 = .pointer (some ⟨H.n + 1, 0, none⟩) ∧ f.defers = [] ∧ Hid (∀ e, e < d → ¬ BadC s c fl p k e) ∧ H' = (H.push (.row [Value.slice wa s.words.length wc, Value.slice aa s.alts.length ac] 25)).push (.row [Value.slice (some ⟨b2, o2, sp2⟩) c.words.length cc, .int .i64 c.beg, .int .i64 c.fin, .int .i64 p] 27)) (c.fin + 1 - c.beg).toNat ?_ ?_
        · refine ⟨c.beg, Int.le_refl _, by have := HBF.out; omega, rfl, (by first|go_simp<;>go_num|assumption), (by first|go_simp<;>go_num|assumption), (by first|go_simp<;>go_num|assumption), (by first|go_simp<;>go_num|assumption), (by first|go_simp<;>go_num|assumption), (by first|go_simp<;>go_num|assumption), (by first|go_simp<;>go_num|assumption), Lib.hid (fun e h1 h2 => ?_), rfl⟩
          have := h2.1.1; omega
        clear f9 f7 f2 f3 f4 hd f
        rintro m f H' ⟨d, hda, hdb, rfl, f10, f9, f7, f2, f3, f4, hd, HE, rfl⟩
        have hd0 : 0 ≤ d := by have := HBG.out; omega
        have hd1 : d ≤ 731 := by have := HFN.out; omega
        by_cases hle : d ≤ c.fin
        · have hd2 : d ≤ 730 := by have := HFN.out; omega
          have HCAN := Lib.hid (fun (loops : List (Nat × LInfo)) => can_s (loops := loops) (line := (k : Int)) (d := d) (w := w) (HV.out.ext HX1.out) (by omega) (by have := HLW.out; omega))
          have HBD : Hid (BadC s c fl p k d ↔ (hasOn s k d).offers w = true ∧ (k + 1 < fl.length → d ≤ fl.getD (k + 1) 0) ∧ (k + p < fl.length → d < fl.getD (k + p) 0) ∧ y0 < d) := Lib.hid (by
            unfold BadC
            rw [HGW.out, HGY.out]
            exact ⟨fun h => h.2, fun h => ⟨⟨hda, hle⟩, h⟩⟩)
          generalize (hasOn s k d).offers w = of at HCAN HBD
          repeat' (first|((with_reducible refine stop_sq (n := 13) ?_))|(with_reducible first|refine zA ?_|refine zB fun K hK=>?_|refine zC fun K2 hK2=>?_|refine zD ?_|refine zE ?_|refine zF ?_|refine zG ?_|refine zH ?_|refine zI ?_|refine zM ?_|refine zN ?_|refine zO ?_|refine zP ?_|refine zQ ?_|refine zR ?_)|((with_reducible refine zU (hK _ _ ?_));clear hK K)|((with_reducible refine zV ?_ ?_ fun K1 K3 d hdst h1 h3=>?_);rfl;exact yB rfl;cases hdst;go_simp)|((with_reducible refine zW fun K1 K3 h1 h3=>?_);go_simp)|((first|refine h1 ?_|refine h3 ?_);clear h1 h3 K1 K3)|((first|refine zX (fun hb=>h1 ?_) (fun hb=>h3 ?_)|refine zX (fun hb=>h3 ?_) (fun hb=>h1 ?_))<;>(clear h1 h3 K1 K3;(try have hb2:=yC hb);(try have hb2:=yD hb);(try have hb2:=yE hb);(try have hb2:=yF hb);(try have hb2:=yG hb)))|(refine fun (K2:_→AHeap→Prop) hK2=>?_)|((with_reducible refine zY ?_ ?_);decide)|((with_reducible first|refine zZ ?_ (fun K hK=>?_)|refine yA ?_ (fun K hK=>?_));(focus go_simp;done);go_simp;refine hK _ _ ?_;clear hK K)|(go_simp;(try go_bits);refine hK2 _ _ ?_;clear hK2 K2))
          refine ⟨CodeS.cut (fun f H' => ∃ ok : Bool, Hid (ok = true ↔ of = true ∧ (k + 1 < fl.length → d ≤ fl.getD (k + 1) 0) ∧ (k + p < fl.length → d < fl.getD (k + p) 0)) ∧ f.tmp 11 = .bool ok ∧ f.tmp 10 = .int .i64 d ∧ f.tmp 9 = .int .i64 k ∧ f.tmp 7 = .int .i64 (s.words.length : Nat) ∧ f.tmp 2 = .slice (some ⟨b, o, sp⟩) fl.length dc ∧ f.tmp 3 = .pointer (some ⟨H.n, 0, none⟩) ∧ f.tmp 4 = .pointer (some ⟨H.n + 1, 0, none⟩) ∧ f.defers = [] ∧ H' = (H.push (.row [Value.slice wa s.words.length wc, Value.slice aa s.alts.length ac] 25)).push (.row [Value.slice (some ⟨b2, o2, sp2⟩) c.words.length cc, .int .i64 c.beg, .int .i64 c.fin, .int .i64 p] 27)) ?_ ?_⟩
          · cases of
            · repeat' (first|(with_reducible first|refine zA ?_|refine zB fun K hK=>?_|refine zC fun K2 hK2=>?_|refine zD ?_|refine zE ?_|refine zF ?_|refine zG ?_|refine zH ?_|refine zI ?_|refine zM ?_|refine zN ?_|refine zO ?_|refine zP ?_|refine zQ ?_|refine zR ?_)|((with_reducible refine zU (hK _ _ ?_));clear hK K)|((with_reducible refine zV ?_ ?_ fun K1 K3 d hdst h1 h3=>?_);rfl;exact yB rfl;cases hdst;go_simp)|((with_reducible refine zW fun K1 K3 h1 h3=>?_);go_simp)|((first|refine h1 ?_|refine h3 ?_);clear h1 h3 K1 K3)|((first|refine zX (fun hb=>h1 ?_) (fun hb=>h3 ?_)|refine zX (fun hb=>h3 ?_) (fun hb=>h1 ?_))<;>(clear h1 h3 K1 K3;(try have hb2:=yC hb);(try have hb2:=yD hb);(try have hb2:=yE hb);(try have hb2:=yF hb);(try have hb2:=yG hb)))|(refine fun (K2:_→AHeap→Prop) hK2=>?_)|((with_reducible refine zY ?_ ?_);decide)|((with_reducible first|refine zZ ?_ (fun K hK=>?_)|refine yA ?_ (fun K hK=>?_));(focus go_simp;done);go_simp;refine hK _ _ ?_;clear hK K)|((with_reducible refine yH mixed rfl ?_ 20 fun K0 hK0=>?_);kernel_rfl)|(with_reducible first|exact yI|exact yJ|refine yK ?_|refine yL ?_|refine yM ?_)|((with_reducible first|refine yN ?_ ?_|refine yO ?_ ?_|refine yP ?_ ?_);rfl)|((with_reducible refine yQ ?_ ?_);rfl;refine hK0 _ _ ?_;clear hK0 K0)|((with_reducible refine yR ?_ ?_ ?_ ?_);rfl;rfl;rfl)|((with_reducible refine yS ?_ ?_ ?_ fun K2 hK2=>?_);rfl;rfl;exact yB rfl)|((with_reducible refine yT ?_ ?_ ?_ ?_ fun K1 K3 d hdst h1 h3=>?_);rfl;rfl;rfl;exact yB rfl;cases hdst;go_simp)|((with_reducible refine yU ?_ ?_ ?_ ?_ fun K1 K3 d hdst h1 h3=>?_);rfl;rfl;rfl;exact yB rfl;cases hdst;go_simp)|((with_reducible refine yV ?_ ?_ (fun K2 hK2=>?_) ?_);rfl;exact yB rfl)|((with_reducible refine yW ?_ ?_ ?_ ?_ (fun K2 hK2=>?_) ?_);rfl;exact yB rfl;rfl;(focus go_simp;done))|((with_reducible refine yX ?_ ?_ ?_ (fun K2 hK2=>?_) ?_);rfl;rfl;exact yB rfl)|((with_reducible refine yY ?_ ?_ (fun K2 hK2=>?_) ?_);rfl;rfl)|((with_reducible refine yZ ?_ ?_);(first|rfl|(dsimp only;decide +kernel)))|((with_reducible refine xA ?_ ?_);(focus go_simp;done))|(go_simp;(try go_bits);(try first | ((with_reducible show CallS _ _ _ _ _ _);refine CallS.mono (HCAN.out _) ?_; rintro _ _ ⟨rfl, h9⟩; rw [h9]; clear h9; go_simp));(first|(refine hK2 _ _ ?_ ?_<;>clear hK2 K2)|(refine hK2 _ _ ?_;clear hK2 K2))))
              exact ⟨false, Lib.hid (by simp), (by first|go_simp<;>go_num|assumption), (by first|go_simp<;>go_num|assumption), (by first|go_simp<;>go_num|assumption), (by first|go_simp<;>go_num|assumption), (by first|go_simp<;>go_num|assumption), (by first|go_simp<;>go_num|assumption), (by first|go_simp<;>go_num|assumption), (by first|go_simp<;>go_num|assumption), rfl⟩
            have hnn : (s.words.length : Nat) = fl.length := HLW.out.symm
            by_cases hk0 : k + 1 = fl.length
            · have hkb : ((k : Int) + 1 == (s.words.length : Int)) = true := by simpa using (show (k : Int) + 1 = (s.words.length : Int) by omega)
              have hkp : (s.words.length : Int) ≤ (k : Int) + p := by omega
              have hok : Hid ((true = true) ↔ true = true ∧ (k + 1 < fl.length → d ≤ fl.getD (k + 1) 0) ∧ (k + p < fl.length → d < fl.getD (k + p) 0)) := Lib.hid ⟨fun _ => ⟨rfl, fun h => by omega, fun h => by omega⟩, fun _ => rfl⟩
              clear hk0 hnn
              repeat' (first|(with_reducible first|refine zA ?_|refine zB fun K hK=>?_|refine zC fun K2 hK2=>?_|refine zD ?_|refine zE ?_|refine zF ?_|refine zG ?_|refine zH ?_|refine zI ?_|refine zM ?_|refine zN ?_|refine zO ?_|refine zP ?_|refine zQ ?_|refine zR ?_)|((with_reducible refine zU (hK _ _ ?_));clear hK K)|((with_reducible refine zV ?_ ?_ fun K1 K3 d hdst h1 h3=>?_);rfl;exact yB rfl;cases hdst;go_simp)|((with_reducible refine zW fun K1 K3 h1 h3=>?_);go_simp)|((first|refine h1 ?_|refine h3 ?_);clear h1 h3 K1 K3)|((first|refine zX (fun hb=>h1 ?_) (fun hb=>h3 ?_)|refine zX (fun hb=>h3 ?_) (fun hb=>h1 ?_))<;>(clear h1 h3 K1 K3;(try have hb2:=yC hb);(try have hb2:=yD hb);(try have hb2:=yE hb);(try have hb2:=yF hb);(try have hb2:=yG hb)))|(refine fun (K2:_→AHeap→Prop) hK2=>?_)|((with_reducible refine zY ?_ ?_);decide)|((with_reducible first|refine zZ ?_ (fun K hK=>?_)|refine yA ?_ (fun K hK=>?_));(focus go_simp;done);go_simp;refine hK _ _ ?_;clear hK K)|((with_reducible refine yH mixed rfl ?_ 20 fun K0 hK0=>?_);kernel_rfl)|(with_reducible first|exact yI|exact yJ|refine yK ?_|refine yL ?_|refine yM ?_)|((with_reducible first|refine yN ?_ ?_|refine yO ?_ ?_|refine yP ?_ ?_);rfl)|((with_reducible refine yQ ?_ ?_);rfl;refine hK0 _ _ ?_;clear hK0 K0)|((with_reducible refine yR ?_ ?_ ?_ ?_);rfl;rfl;rfl)|((with_reducible refine yS ?_ ?_ ?_ fun K2 hK2=>?_);rfl;rfl;exact yB rfl)|((with_reducible refine yT ?_ ?_ ?_ ?_ fun K1 K3 d hdst h1 h3=>?_);rfl;rfl;rfl;exact yB rfl;cases hdst;go_simp)|((with_reducible refine yU ?_ ?_ ?_ ?_ fun K1 K3 d hdst h1 h3=>?_);rfl;rfl;rfl;exact yB rfl;cases hdst;go_simp)|((with_reducible refine yV ?_ ?_ (fun K2 hK2=>?_) ?_);rfl;exact yB rfl)|((with_reducible refine yW ?_ ?_ ?_ ?_ (fun K2 hK2=>?_) ?_);rfl;exact yB rfl;rfl;(focus go_simp;done))|((with_reducible refine yX ?_ ?_ ?_ (fun K2 hK2=>?_) ?_);rfl;rfl;exact yB rfl)|((with_reducible refine yY ?_ ?_ (fun K2 hK2=>?_) ?_);rfl;rfl)|((with_reducible refine yZ ?_ ?_);(first|rfl|(dsimp only;decide +kernel)))|((with_reducible refine xA ?_ ?_);(focus go_simp;done))|(go_simp;(try go_bits);(try first | ((with_reducible show CallS _ _ _ _ _ _);refine CallS.mono (HCAN.out _) ?_; rintro _ _ ⟨rfl, h9⟩; rw [h9]; clear h9; go_simp));(first|(refine hK2 _ _ ?_ ?_<;>clear hK2 K2)|(refine hK2 _ _ ?_;clear hK2 K2))))
              exact ⟨true, hok, (by first|go_simp<;>go_num|assumption), (by first|go_simp<;>go_num|assumption), (by first|go_simp<;>go_num|assumption), (by first|go_simp<;>go_num|assumption), (by first|go_simp<;>go_num|assumption), (by first|go_simp<;>go_num|assumption), (by first|go_simp<;>go_num|assumption), (by first|go_simp<;>go_num|assumption), rfl⟩
            have hk1 : k + 1 < fl.length := by omega
            have hg1 : fl.getD (k + 1) 0 = fl[k + 1] := by simp [List.getD_eq_getElem?_getD, hk1]
            obtain ⟨_, _, _, h9, -, hx3⟩ := HD.out.at_ hk1
            cases h9
            generalize fl[k + 1] = y1 at hg1 hx3
            have hkb : ((k : Int) + 1 == (s.words.length : Int)) = false := by simpa using (show ¬ (k : Int) + 1 = (s.words.length : Int) by omega)
            have h1i : (k : Int) + 1 < (fl.length : Int) := by omega
            have h0i : (0 : Int) ≤ (k : Int) + 1 := by omega
            have h4i : ((k : Int) + 1).toNat = k + 1 := by omega
            by_cases hpk : k + p < fl.length
            · have hg2 : fl.getD (k + p) 0 = fl[k + p] := by simp [List.getD_eq_getElem?_getD, hpk]
              obtain ⟨_, _, _, h9, -, hx4⟩ := HD.out.at_ hpk
              cases h9
              generalize fl[k + p] = y2 at hg2 hx4
              have hok : Hid (∀ ok : Bool, ok = (decide (d ≤ y1) && decide (d < y2)) → (ok = true ↔ true = true ∧ (k + 1 < fl.length → d ≤ fl.getD (k + 1) 0) ∧ (k + p < fl.length → d < fl.getD (k + p) 0))) := Lib.hid (fun ok h => by rw [h, hg1, hg2]; simp [hk1, hpk])
              have h5i : (0 : Int) ≤ (k : Int) + p := by omega
              have h6i : (k : Int) + p < (fl.length : Int) := by omega
              have h7i : ¬ (s.words.length : Int) ≤ (k : Int) + p := by omega
              have h8i : ((k : Int) + p).toNat = k + p := by omega
              clear hg1 hg2 hk0 hnn
              repeat' (first|(with_reducible first|refine zA ?_|refine zB fun K hK=>?_|refine zC fun K2 hK2=>?_|refine zD ?_|refine zE ?_|refine zF ?_|refine zG ?_|refine zH ?_|refine zI ?_|refine zM ?_|refine zN ?_|refine zO ?_|refine zP ?_|refine zQ ?_|refine zR ?_)|((with_reducible refine zU (hK _ _ ?_));clear hK K)|((with_reducible refine zV ?_ ?_ fun K1 K3 d hdst h1 h3=>?_);rfl;exact yB rfl;cases hdst;go_simp)|((with_reducible refine zW fun K1 K3 h1 h3=>?_);go_simp)|((first|refine h1 ?_|refine h3 ?_);clear h1 h3 K1 K3)|((first|refine zX (fun hb=>h1 ?_) (fun hb=>h3 ?_)|refine zX (fun hb=>h3 ?_) (fun hb=>h1 ?_))<;>(clear h1 h3 K1 K3;(try have hb2:=yC hb);(try have hb2:=yD hb);(try have hb2:=yE hb);(try have hb2:=yF hb);(try have hb2:=yG hb)))|(refine fun (K2:_→AHeap→Prop) hK2=>?_)|((with_reducible refine zY ?_ ?_);decide)|((with_reducible first|refine zZ ?_ (fun K hK=>?_)|refine yA ?_ (fun K hK=>?_));(focus go_simp;done);go_simp;refine hK _ _ ?_;clear hK K)|((with_reducible refine yH mixed rfl ?_ 20 fun K0 hK0=>?_);kernel_rfl)|(with_reducible first|exact yI|exact yJ|refine yK ?_|refine yL ?_|refine yM ?_)|((with_reducible first|refine yN ?_ ?_|refine yO ?_ ?_|refine yP ?_ ?_);rfl)|((with_reducible refine yQ ?_ ?_);rfl;refine hK0 _ _ ?_;clear hK0 K0)|((with_reducible refine yR ?_ ?_ ?_ ?_);rfl;rfl;rfl)|((with_reducible refine yS ?_ ?_ ?_ fun K2 hK2=>?_);rfl;rfl;exact yB rfl)|((with_reducible refine yT ?_ ?_ ?_ ?_ fun K1 K3 d hdst h1 h3=>?_);rfl;rfl;rfl;exact yB rfl;cases hdst;go_simp)|((with_reducible refine yU ?_ ?_ ?_ ?_ fun K1 K3 d hdst h1 h3=>?_);rfl;rfl;rfl;exact yB rfl;cases hdst;go_simp)|((with_reducible refine yV ?_ ?_ (fun K2 hK2=>?_) ?_);rfl;exact yB rfl)|((with_reducible refine yW ?_ ?_ ?_ ?_ (fun K2 hK2=>?_) ?_);rfl;exact yB rfl;rfl;(focus go_simp;done))|((with_reducible refine yX ?_ ?_ ?_ (fun K2 hK2=>?_) ?_);rfl;rfl;exact yB rfl)|((with_reducible refine yY ?_ ?_ (fun K2 hK2=>?_) ?_);rfl;rfl)|((with_reducible refine yZ ?_ ?_);(first|rfl|(dsimp only;decide +kernel)))|((with_reducible refine xA ?_ ?_);(focus go_simp;done))|(go_simp;(try go_bits);(try first | ((with_reducible show CallS _ _ _ _ _ _);refine CallS.mono (HCAN.out _) ?_; rintro _ _ ⟨rfl, h9⟩; rw [h9]; clear h9; go_simp));(first|(refine hK2 _ _ ?_ ?_<;>clear hK2 K2)|(refine hK2 _ _ ?_;clear hK2 K2))))
              all_goals first
                | exact ⟨decide (d < y2), Lib.hid (hok.out _ (by simp; omega)), (by first|go_simp<;>go_num|assumption), (by first|go_simp<;>go_num|assumption), (by first|go_simp<;>go_num|assumption), (by first|go_simp<;>go_num|assumption), (by first|go_simp<;>go_num|assumption), (by first|go_simp<;>go_num|assumption), (by first|go_simp<;>go_num|assumption), (by first|go_simp<;>go_num|assumption), rfl⟩
                | exact ⟨false, Lib.hid (hok.out _ (by simp; omega)), (by first|go_simp<;>go_num|assumption), (by first|go_simp<;>go_num|assumption), (by first|go_simp<;>go_num|assumption), (by first|go_simp<;>go_num|assumption), (by first|go_simp<;>go_num|assumption), (by first|go_simp<;>go_num|assumption), (by first|go_simp<;>go_num|assumption), (by first|go_simp<;>go_num|assumption), rfl⟩
            · have hok : Hid (∀ ok : Bool, ok = decide (d ≤ y1) → (ok = true ↔ true = true ∧ (k + 1 < fl.length → d ≤ fl.getD (k + 1) 0) ∧ (k + p < fl.length → d < fl.getD (k + p) 0))) := Lib.hid (fun ok h => by rw [h, hg1]; simp [hk1, hpk])
              have h10i : (s.words.length : Int) ≤ (k : Int) + p := by omega
              clear hg1 hk0 hnn
              repeat' (first|(with_reducible first|refine zA ?_|refine zB fun K hK=>?_|refine zC fun K2 hK2=>?_|refine zD ?_|refine zE ?_|refine zF ?_|refine zG ?_|refine zH ?_|refine zI ?_|refine zM ?_|refine zN ?_|refine zO ?_|refine zP ?_|refine zQ ?_|refine zR ?_)|((with_reducible refine zU (hK _ _ ?_));clear hK K)|((with_reducible refine zV ?_ ?_ fun K1 K3 d hdst h1 h3=>?_);rfl;exact yB rfl;cases hdst;go_simp)|((with_reducible refine zW fun K1 K3 h1 h3=>?_);go_simp)|((first|refine h1 ?_|refine h3 ?_);clear h1 h3 K1 K3)|((first|refine zX (fun hb=>h1 ?_) (fun hb=>h3 ?_)|refine zX (fun hb=>h3 ?_) (fun hb=>h1 ?_))<;>(clear h1 h3 K1 K3;(try have hb2:=yC hb);(try have hb2:=yD hb);(try have hb2:=yE hb);(try have hb2:=yF hb);(try have hb2:=yG hb)))|(refine fun (K2:_→AHeap→Prop) hK2=>?_)|((with_reducible refine zY ?_ ?_);decide)|((with_reducible first|refine zZ ?_ (fun K hK=>?_)|refine yA ?_ (fun K hK=>?_));(focus go_simp;done);go_simp;refine hK _ _ ?_;clear hK K)|((with_reducible refine yH mixed rfl ?_ 20 fun K0 hK0=>?_);kernel_rfl)|(with_reducible first|exact yI|exact yJ|refine yK ?_|refine yL ?_|refine yM ?_)|((with_reducible first|refine yN ?_ ?_|refine yO ?_ ?_|refine yP ?_ ?_);rfl)|((with_reducible refine yQ ?_ ?_);rfl;refine hK0 _ _ ?_;clear hK0 K0)|((with_reducible refine yR ?_ ?_ ?_ ?_);rfl;rfl;rfl)|((with_reducible refine yS ?_ ?_ ?_ fun K2 hK2=>?_);rfl;rfl;exact yB rfl)|((with_reducible refine yT ?_ ?_ ?_ ?_ fun K1 K3 d hdst h1 h3=>?_);rfl;rfl;rfl;exact yB rfl;cases hdst;go_simp)|((with_reducible refine yU ?_ ?_ ?_ ?_ fun K1 K3 d hdst h1 h3=>?_);rfl;rfl;rfl;exact yB rfl;cases hdst;go_simp)|((with_reducible refine yV ?_ ?_ (fun K2 hK2=>?_) ?_);rfl;exact yB rfl)|((with_reducible refine yW ?_ ?_ ?_ ?_ (fun K2 hK2=>?_) ?_);rfl;exact yB rfl;rfl;(focus go_simp;done))|((with_reducible refine yX ?_ ?_ ?_ (fun K2 hK2=>?_) ?_);rfl;rfl;exact yB rfl)|((with_reducible refine yY ?_ ?_ (fun K2 hK2=>?_) ?_);rfl;rfl)|((with_reducible refine yZ ?_ ?_);(first|rfl|(dsimp only;decide +kernel)))|((with_reducible refine xA ?_ ?_);(focus go_simp;done))|(go_simp;(try go_bits);(try first | ((with_reducible show CallS _ _ _ _ _ _);refine CallS.mono (HCAN.out _) ?_; rintro _ _ ⟨rfl, h9⟩; rw [h9]; clear h9; go_simp));(first|(refine hK2 _ _ ?_ ?_<;>clear hK2 K2)|(refine hK2 _ _ ?_;clear hK2 K2))))
              all_goals first
                | exact ⟨true, Lib.hid (hok.out _ (by simp; omega)), (by first|go_simp<;>go_num|assumption), (by first|go_simp<;>go_num|assumption), (by first|go_simp<;>go_num|assumption), (by first|go_simp<;>go_num|assumption), (by first|go_simp<;>go_num|assumption), (by first|go_simp<;>go_num|assumption), (by first|go_simp<;>go_num|assumption), (by first|go_simp<;>go_num|assumption), rfl⟩
                | exact ⟨false, Lib.hid (hok.out _ (by simp; omega)), (by first|go_simp<;>go_num|assumption), (by first|go_simp<;>go_num|assumption), (by first|go_simp<;>go_num|assumption), (by first|go_simp<;>go_num|assumption), (by first|go_simp<;>go_num|assumption), (by first|go_simp<;>go_num|assumption), (by first|go_simp<;>go_num|assumption), (by first|go_simp<;>go_num|assumption), rfl⟩
          clear f10 f9 f7 f2 f3 f4 hd f HCAN hx2
          rintro f _ ⟨ok, HOK, f11, f10, f9, f7, f2, f3, f4, hd, rfl⟩
          cases ok
          · repeat' (first|(with_reducible first|refine zA ?_|refine zB fun K hK=>?_|refine zC fun K2 hK2=>?_|refine zD ?_|refine zE ?_|refine zF ?_|refine zG ?_|refine zH ?_|refine zI ?_|refine zM ?_|refine zN ?_|refine zO ?_|refine zP ?_|refine zQ ?_|refine zR ?_)|((with_reducible refine zU (hK _ _ ?_));clear hK K)|((with_reducible refine zV ?_ ?_ fun K1 K3 d hdst h1 h3=>?_);rfl;exact yB rfl;cases hdst;go_simp)|((with_reducible refine zW fun K1 K3 h1 h3=>?_);go_simp)|((first|refine h1 ?_|refine h3 ?_);clear h1 h3 K1 K3)|((first|refine zX (fun hb=>h1 ?_) (fun hb=>h3 ?_)|refine zX (fun hb=>h3 ?_) (fun hb=>h1 ?_))<;>(clear h1 h3 K1 K3;(try have hb2:=yC hb);(try have hb2:=yD hb);(try have hb2:=yE hb);(try have hb2:=yF hb);(try have hb2:=yG hb)))|(refine fun (K2:_→AHeap→Prop) hK2=>?_)|((with_reducible refine zY ?_ ?_);decide)|((with_reducible first|refine zZ ?_ (fun K hK=>?_)|refine yA ?_ (fun K hK=>?_));(focus go_simp;done);go_simp;refine hK _ _ ?_;clear hK K)|(go_simp;(try go_bits);refine hK2 _ _ ?_;clear hK2 K2))
            refine Post.round_normal ⟨(c.fin + 1 - (d + 1)).toNat, by omega, d + 1, by omega, by omega, rfl, (by first|go_simp<;>go_num|assumption), (by first|go_simp<;>go_num|assumption), (by first|go_simp<;>go_num|assumption), (by first|go_simp<;>go_num|assumption), (by first|go_simp<;>go_num|assumption), (by first|go_simp<;>go_num|assumption), (by first|go_simp<;>go_num|assumption), Lib.hid (fun e he h9 => ?_), rfl⟩
            by_cases hed : e = d
            · subst hed
              have h8 := HBD.out.1 h9
              have := HOK.out.2 ⟨h8.1, h8.2.1, h8.2.2.1⟩
              cases this
            · exact HE.out e (by omega) h9
          · repeat' (first|(with_reducible first|refine zA ?_|refine zB fun K hK=>?_|refine zC fun K2 hK2=>?_|refine zD ?_|refine zE ?_|refine zF ?_|refine zG ?_|refine zH ?_|refine zI ?_|refine zM ?_|refine zN ?_|refine zO ?_|refine zP ?_|refine zQ ?_|refine zR ?_)|((with_reducible refine zU (hK _ _ ?_));clear hK K)|((with_reducible refine zV ?_ ?_ fun K1 K3 d hdst h1 h3=>?_);rfl;exact yB rfl;cases hdst;go_simp)|((with_reducible refine zW fun K1 K3 h1 h3=>?_);go_simp)|((first|refine h1 ?_|refine h3 ?_);clear h1 h3 K1 K3)|((first|refine zX (fun hb=>h1 ?_) (fun hb=>h3 ?_)|refine zX (fun hb=>h3 ?_) (fun hb=>h1 ?_))<;>(clear h1 h3 K1 K3;(try have hb2:=yC hb);(try have hb2:=yD hb);(try have hb2:=yE hb);(try have hb2:=yF hb);(try have hb2:=yG hb)))|(refine fun (K2:_→AHeap→Prop) hK2=>?_)|((with_reducible refine zY ?_ ?_);decide)|((with_reducible first|refine zZ ?_ (fun K hK=>?_)|refine yA ?_ (fun K hK=>?_));(focus go_simp;done);go_simp;refine hK _ _ ?_;clear hK K)|(go_simp;(try go_bits);refine hK2 _ _ ?_;clear hK2 K2))
            · refine ⟨?_, HX1.out⟩
              have h7 := HOK.out.1 rfl
              rw [HB8.out k d hlt (HBD.out.2 ⟨h7.1, h7.2.1, h7.2.2, by simpa using hb⟩)]
            · refine Post.round_normal ⟨(c.fin + 1 - (d + 1)).toNat, by omega, d + 1, by omega, by omega, rfl, (by first|go_simp<;>go_num|assumption), (by first|go_simp<;>go_num|assumption), (by first|go_simp<;>go_num|assumption), (by first|go_simp<;>go_num|assumption), (by first|go_simp<;>go_num|assumption), (by first|go_simp<;>go_num|assumption), (by first|go_simp<;>go_num|assumption), Lib.hid (fun e he h9 => ?_), rfl⟩
              by_cases hed : e = d
              · subst hed
                have h8 := HBD.out.1 h9
                have h7 := h8.2.2.2
                simp at hb; omega
              · exact HE.out e (by omega) h9
        · repeat' (first|(with_reducible first|refine zA ?_|refine zB fun K hK=>?_|refine zC fun K2 hK2=>?_|refine zD ?_|refine zE ?_|refine zF ?_|refine zG ?_|refine zH ?_|refine zI ?_|refine zM ?_|refine zN ?_|refine zO ?_|refine zP ?_|refine zQ ?_|refine zR ?_)|((with_reducible refine zU (hK _ _ ?_));clear hK K)|((with_reducible refine zV ?_ ?_ fun K1 K3 d hdst h1 h3=>?_);rfl;exact yB rfl;cases hdst;go_simp)|((with_reducible refine zW fun K1 K3 h1 h3=>?_);go_simp)|((first|refine h1 ?_|refine h3 ?_);clear h1 h3 K1 K3)|((first|refine zX (fun hb=>h1 ?_) (fun hb=>h3 ?_)|refine zX (fun hb=>h3 ?_) (fun hb=>h1 ?_))<;>(clear h1 h3 K1 K3;(try have hb2:=yC hb);(try have hb2:=yD hb);(try have hb2:=yE hb);(try have hb2:=yF hb);(try have hb2:=yG hb)))|(refine fun (K2:_→AHeap→Prop) hK2=>?_)|((with_reducible refine zY ?_ ?_);decide)|((with_reducible first|refine zZ ?_ (fun K hK=>?_)|refine yA ?_ (fun K hK=>?_));(focus go_simp;done);go_simp;refine hK _ _ ?_;clear hK K)|(go_simp;(try go_bits);refine hK2 _ _ ?_;clear hK2 K2))
          refine Post.round_normal ⟨fl.length - (k + 1), by omega, k + 1, by omega, rfl, (by first|go_simp<;>go_num|assumption), (by first|go_simp<;>go_num|assumption), (by first|go_simp<;>go_num|assumption), (by first|go_simp<;>go_num|assumption), (by first|go_simp<;>go_num|assumption), (by first|go_simp<;>go_num|assumption), Lib.hid (fun j hj e h9 => ?_), rfl⟩
          by_cases hjk : j = k
          · subst hjk
            exact HE.out e (by have := h9.1.2; omega) h9
          · exact HF.out j (by omega) e h9
      · have hlw : ¬ k < s.words.length := by have := HLW.out; omega
        repeat' (first|(with_reducible first|refine zA ?_|refine zB fun K hK=>?_|refine zC fun K2 hK2=>?_|refine zD ?_|refine zE ?_|refine zF ?_|refine zG ?_|refine zH ?_|refine zI ?_|refine zM ?_|refine zN ?_|refine zO ?_|refine zP ?_|refine zQ ?_|refine zR ?_)|((with_reducible refine zU (hK _ _ ?_));clear hK K)|((with_reducible refine zV ?_ ?_ fun K1 K3 d hdst h1 h3=>?_);rfl;exact yB rfl;cases hdst;go_simp)|((with_reducible refine zW fun K1 K3 h1 h3=>?_);go_simp)|((first|refine h1 ?_|refine h3 ?_);clear h1 h3 K1 K3)|((first|refine zX (fun hb=>h1 ?_) (fun hb=>h3 ?_)|refine zX (fun hb=>h3 ?_) (fun hb=>h1 ?_))<;>(clear h1 h3 K1 K3;(try have hb2:=yC hb);(try have hb2:=yD hb);(try have hb2:=yE hb);(try have hb2:=yF hb);(try have hb2:=yG hb)))|(refine fun (K2:_→AHeap→Prop) hK2=>?_)|((with_reducible refine zY ?_ ?_);decide)|((with_reducible first|refine zZ ?_ (fun K hK=>?_)|refine yA ?_ (fun K hK=>?_));(focus go_simp;done);go_simp;refine hK _ _ ?_;clear hK K)|(go_simp;(try go_bits);refine hK2 _ _ ?_;clear hK2 K2))
        refine ⟨?_, HX1.out⟩
        rw [HBAD.out fun j hj => HF.out j (by omega)]
    · have h8 : errCeils s c fl = 1 := by rw [errCeils, if_neg (by simp [he]), if_neg (by rw [h1]; exact hl)]
      have hlb : ((fl.length : Int) != (s.words.length : Int)) = true := by simpa using (show ¬ (fl.length : Int) = (s.words.length : Int) by omega)
      clear h0 h1 h2 h3 h4 h5 h6 h7 he hl
      repeat' (first|(with_reducible first|refine zA ?_|refine zB fun K hK=>?_|refine zC fun K2 hK2=>?_|refine zD ?_|refine zE ?_|refine zF ?_|refine zG ?_|refine zH ?_|refine zI ?_|refine zM ?_|refine zN ?_|refine zO ?_|refine zP ?_|refine zQ ?_|refine zR ?_)|((with_reducible refine zU (hK _ _ ?_));clear hK K)|((with_reducible refine zV ?_ ?_ fun K1 K3 d hdst h1 h3=>?_);rfl;exact yB rfl;cases hdst;go_simp)|((with_reducible refine zW fun K1 K3 h1 h3=>?_);go_simp)|((first|refine h1 ?_|refine h3 ?_);clear h1 h3 K1 K3)|((first|refine zX (fun hb=>h1 ?_) (fun hb=>h3 ?_)|refine zX (fun hb=>h3 ?_) (fun hb=>h1 ?_))<;>(clear h1 h3 K1 K3;(try have hb2:=yC hb);(try have hb2:=yD hb);(try have hb2:=yE hb);(try have hb2:=yF hb);(try have hb2:=yG hb)))|(refine fun (K2:_→AHeap→Prop) hK2=>?_)|((with_reducible refine zY ?_ ?_);decide)|((with_reducible first|refine zZ ?_ (fun K hK=>?_)|refine yA ?_ (fun K hK=>?_));(focus go_simp;done);go_simp;refine hK _ _ ?_;clear hK K)|(go_simp;(try go_bits);(try first | ((with_reducible show CallS _ _ _ _ _ _);refine CallS.mono (HCH.out _) ?_; rintro _ _ ⟨rfl, h9⟩; rw [h9]; clear h9));refine hK2 _ _ ?_;clear hK2 K2))
      refine ⟨?_, HX1.out⟩
      rw [HR.out, h8]
  · have h8 : errCeils s c fl = errCopy s c := by rw [errCeils, if_pos he]
    have heb : (errCopy s c == 0) = false := by simpa using he
    have heb2 : (errCopy s c != 0) = true := by simpa using he
    repeat' (first|(with_reducible first|refine zA ?_|refine zB fun K hK=>?_|refine zC fun K2 hK2=>?_|refine zD ?_|refine zE ?_|refine zF ?_|refine zG ?_|refine zH ?_|refine zI ?_|refine zM ?_|refine zN ?_|refine zO ?_|refine zP ?_|refine zQ ?_|refine zR ?_)|((with_reducible refine zU (hK _ _ ?_));clear hK K)|((with_reducible refine zV ?_ ?_ fun K1 K3 d hdst h1 h3=>?_);rfl;exact yB rfl;cases hdst;go_simp)|((with_reducible refine zW fun K1 K3 h1 h3=>?_);go_simp)|((first|refine h1 ?_|refine h3 ?_);clear h1 h3 K1 K3)|((first|refine zX (fun hb=>h1 ?_) (fun hb=>h3 ?_)|refine zX (fun hb=>h3 ?_) (fun hb=>h1 ?_))<;>(clear h1 h3 K1 K3;(try have hb2:=yC hb);(try have hb2:=yD hb);(try have hb2:=yE hb);(try have hb2:=yF hb);(try have hb2:=yG hb)))|(refine fun (K2:_→AHeap→Prop) hK2=>?_)|((with_reducible refine zY ?_ ?_);decide)|((with_reducible first|refine zZ ?_ (fun K hK=>?_)|refine yA ?_ (fun K hK=>?_));(focus go_simp;done);go_simp;refine hK _ _ ?_;clear hK K)|(go_simp;(try go_bits);(try first | ((with_reducible show CallS _ _ _ _ _ _);refine CallS.mono (HCH.out _) ?_; rintro _ _ ⟨rfl, h9⟩; rw [h9]; clear h9));refine hK2 _ _ ?_;clear hK2 K2))
    refine ⟨?_, HX1.out⟩
    rw [HR.out, h8]
end Go.Proofs.Tryz
namespace Go.Proofs.Tryz
open Go Go.Am Go.RowKit Go.Co
set_option maxRecDepth 100000
end Go.Proofs.Tryz
namespace Go.Proofs.Tryz
open Go Go.Am Go.RowKit Go.Co
set_option maxRecDepth 100000

def errClash (s : Sheet) (c : Copy) (fl : List Int) : Int := if errFloors s c fl ≠ 0 then errFloors s c fl else if fl.getD (fl.length - 1) 0 ≤ c.fin then 8 else 0

theorem checkClash_s {loops : List (Nat × LInfo)} {H : AHeap} {sv cv dv : Value} {s : Sheet} {c : Copy} {fl : List Int} (hs : SheetV H sv s) (hc : CopyV H cv c) (hd : Ints H dv fl) : CallS Tryz.prog loops 59 [sv, cv, dv] H fun r H' => r = .int .i64 (errClash s c fl) ∧ H' = H := by
  refine CallS.forget (R := fun v => v = .int .i64 (errClash s c fl)) (by rintro v rfl; rfl) ?_
  have HS := Lib.hid hs
  have HC := Lib.hid hc
  have HD := Lib.hid hd
  obtain ⟨wv, av, rfl, hw, ha⟩ := hs
  obtain ⟨hwl, wa, wc, rfl⟩ := hw.slice
  obtain ⟨hal, aa, ac, rfl⟩ := ha.slice
  obtain ⟨cv, rfl, hcw⟩ := hc
  obtain ⟨hcl, ca, cc, rfl⟩ := hcw.slice
  obtain ⟨hdl, da, dc, rfl⟩ := hd.slice
  clear hw ha hcw hd
  have HEE : Hid (errClash s c fl = if errFloors s c fl ≠ 0 then errFloors s c fl else if fl.getD (fl.length - 1) 0 ≤ c.fin then 8 else 0) := Lib.hid rfl
  have HF1 : Hid (errFloors s c fl = 0 → 1 ≤ fl.length) := Lib.hid fun h => by
    unfold errFloors at h
    split at h
    · rename_i h1; exact absurd h h1
    · split at h
      · rename_i h1; have := (win_iff.1 h1).1; omega
      · cases h
  have HCF := Lib.hid (fun (loops : List (Nat × LInfo)) (H' : AHeap) (hx : Ext H H') => checkFloors_s (loops := loops) (HS.out.ext hx) (HC.out.ext hx) (HD.out.ext hx))
  generalize errClash s c fl = er at HEE
  generalize errFloors s c fl = ef at HEE HF1 HCF
  refine CallS.enter' Tryz.func59 rfl Tryz.ntmps59 (by simp) fun f hd hf => ?_
  have f0 := hf 0
  have f1 := hf 1
  have f2 := hf 2
  simp at f0 f1 f2
  clear hf
  have HX1 : Hid (Ext H ((H.push (.row [Value.slice wa s.words.length wc, Value.slice aa s.alts.length ac] 25)).push (.row [Value.slice ca c.words.length cc, .int .i64 c.beg, .int .i64 c.fin, .int .i64 c.per] 27))) := Lib.hid (((Ext.refl _).push' _).push' _)
  by_cases hok : ef = 0
  · have hk0 := HF1.out hok
    obtain ⟨b, o, sp, rfl, hb, hx⟩ := HD.out.at_ (k := fl.length - 1) (by omega)
    have hg1 : Hid (fl.getD (fl.length - 1) 0 = fl[fl.length - 1]) := Lib.hid (by simp [List.getD_eq_getElem?_getD, show fl.length - 1 < fl.length by omega])
    have h0i : (0 : Int) ≤ (fl.length : Int) - 1 := by omega
    have h1i : (fl.length : Int) - 1 < (fl.length : Int) := by omega
    have h3i : ((fl.length : Int) - 1).toNat = fl.length - 1 := by omega
    have h2i : (1 : Int) ≤ (fl.length : Int) := by omega
    have h4i : 0 < fl.length := by omega
    have h5i : (0 : Int) < (fl.length : Int) := by omega
    generalize fl[fl.length - 1] = y at hx hg1
    rw [hok] at HEE HCF
    repeat' (first|(with_reducible first|refine zA ?_|refine zB fun K hK=>?_|refine zC fun K2 hK2=>?_|refine zD ?_|refine zE ?_|refine zF ?_|refine zG ?_|refine zH ?_|refine zI ?_|refine zM ?_|refine zN ?_|refine zO ?_|refine zP ?_|refine zQ ?_|refine zR ?_)|((with_reducible refine zU (hK _ _ ?_));clear hK K)|((with_reducible refine zV ?_ ?_ fun K1 K3 d hdst h1 h3=>?_);rfl;exact yB rfl;cases hdst;go_simp)|((with_reducible refine zW fun K1 K3 h1 h3=>?_);go_simp)|((first|refine h1 ?_|refine h3 ?_);clear h1 h3 K1 K3)|((first|refine zX (fun hb=>h1 ?_) (fun hb=>h3 ?_)|refine zX (fun hb=>h3 ?_) (fun hb=>h1 ?_))<;>(clear h1 h3 K1 K3;(try have hb2:=yC hb);(try have hb2:=yD hb);(try have hb2:=yE hb);(try have hb2:=yF hb);(try have hb2:=yG hb)))|(refine fun (K2:_→AHeap→Prop) hK2=>?_)|((with_reducible refine zY ?_ ?_);decide)|((with_reducible first|refine zZ ?_ (fun K hK=>?_)|refine yA ?_ (fun K hK=>?_));(focus go_simp;done);go_simp;refine hK _ _ ?_;clear hK K)|((with_reducible refine yH mixed rfl ?_ 20 fun K0 hK0=>?_);kernel_rfl)|(with_reducible first|exact yI|exact yJ|refine yK ?_|refine yL ?_|refine yM ?_)|((with_reducible first|refine yN ?_ ?_|refine yO ?_ ?_|refine yP ?_ ?_);rfl)|((with_reducible refine yQ ?_ ?_);rfl;refine hK0 _ _ ?_;clear hK0 K0)|((with_reducible refine yR ?_ ?_ ?_ ?_);rfl;rfl;rfl)|((with_reducible refine yS ?_ ?_ ?_ fun K2 hK2=>?_);rfl;rfl;exact yB rfl)|((with_reducible refine yT ?_ ?_ ?_ ?_ fun K1 K3 d hdst h1 h3=>?_);rfl;rfl;rfl;exact yB rfl;cases hdst;go_simp)|((with_reducible refine yU ?_ ?_ ?_ ?_ fun K1 K3 d hdst h1 h3=>?_);rfl;rfl;rfl;exact yB rfl;cases hdst;go_simp)|((with_reducible refine yV ?_ ?_ (fun K2 hK2=>?_) ?_);rfl;exact yB rfl)|((with_reducible refine yW ?_ ?_ ?_ ?_ (fun K2 hK2=>?_) ?_);rfl;exact yB rfl;rfl;(focus go_simp;done))|((with_reducible refine yX ?_ ?_ ?_ (fun K2 hK2=>?_) ?_);rfl;rfl;exact yB rfl)|((with_reducible refine yY ?_ ?_ (fun K2 hK2=>?_) ?_);rfl;rfl)|((with_reducible refine yZ ?_ ?_);(first|rfl|(dsimp only;decide +kernel)))|((with_reducible refine xA ?_ ?_);(focus go_simp;done))|(go_simp;(try go_bits);(try first | ((with_reducible show CallS _ _ _ _ _ _);refine CallS.mono (HCF.out _ _ HX1.out) ?_; rintro _ _ ⟨rfl, h9⟩; rw [h9]; clear h9));(first|(refine hK2 _ _ ?_ ?_<;>clear hK2 K2)|(refine hK2 _ _ ?_;clear hK2 K2))))
    · refine ⟨?_, HX1.out⟩
      rw [HEE.out, hg1.out, if_neg (by simp), if_pos (by omega)]
    · refine ⟨?_, HX1.out⟩
      rw [HEE.out, hg1.out, if_neg (by simp), if_neg (by omega)]
  · repeat' (first|(with_reducible first|refine zA ?_|refine zB fun K hK=>?_|refine zC fun K2 hK2=>?_|refine zD ?_|refine zE ?_|refine zF ?_|refine zG ?_|refine zH ?_|refine zI ?_|refine zM ?_|refine zN ?_|refine zO ?_|refine zP ?_|refine zQ ?_|refine zR ?_)|((with_reducible refine zU (hK _ _ ?_));clear hK K)|((with_reducible refine zV ?_ ?_ fun K1 K3 d hdst h1 h3=>?_);rfl;exact yB rfl;cases hdst;go_simp)|((with_reducible refine zW fun K1 K3 h1 h3=>?_);go_simp)|((first|refine h1 ?_|refine h3 ?_);clear h1 h3 K1 K3)|((first|refine zX (fun hb=>h1 ?_) (fun hb=>h3 ?_)|refine zX (fun hb=>h3 ?_) (fun hb=>h1 ?_))<;>(clear h1 h3 K1 K3;(try have hb2:=yC hb);(try have hb2:=yD hb);(try have hb2:=yE hb);(try have hb2:=yF hb);(try have hb2:=yG hb)))|(refine fun (K2:_→AHeap→Prop) hK2=>?_)|((with_reducible refine zY ?_ ?_);decide)|((with_reducible first|refine zZ ?_ (fun K hK=>?_)|refine yA ?_ (fun K hK=>?_));(focus go_simp;done);go_simp;refine hK _ _ ?_;clear hK K)|((with_reducible refine yH mixed rfl ?_ 20 fun K0 hK0=>?_);kernel_rfl)|(with_reducible first|exact yI|exact yJ|refine yK ?_|refine yL ?_|refine yM ?_)|((with_reducible first|refine yN ?_ ?_|refine yO ?_ ?_|refine yP ?_ ?_);rfl)|((with_reducible refine yQ ?_ ?_);rfl;refine hK0 _ _ ?_;clear hK0 K0)|((with_reducible refine yR ?_ ?_ ?_ ?_);rfl;rfl;rfl)|((with_reducible refine yS ?_ ?_ ?_ fun K2 hK2=>?_);rfl;rfl;exact yB rfl)|((with_reducible refine yT ?_ ?_ ?_ ?_ fun K1 K3 d hdst h1 h3=>?_);rfl;rfl;rfl;exact yB rfl;cases hdst;go_simp)|((with_reducible refine yU ?_ ?_ ?_ ?_ fun K1 K3 d hdst h1 h3=>?_);rfl;rfl;rfl;exact yB rfl;cases hdst;go_simp)|((with_reducible refine yV ?_ ?_ (fun K2 hK2=>?_) ?_);rfl;exact yB rfl)|((with_reducible refine yW ?_ ?_ ?_ ?_ (fun K2 hK2=>?_) ?_);rfl;exact yB rfl;rfl;(focus go_simp;done))|((with_reducible refine yX ?_ ?_ ?_ (fun K2 hK2=>?_) ?_);rfl;rfl;exact yB rfl)|((with_reducible refine yY ?_ ?_ (fun K2 hK2=>?_) ?_);rfl;rfl)|((with_reducible refine yZ ?_ ?_);(first|rfl|(dsimp only;decide +kernel)))|((with_reducible refine xA ?_ ?_);(focus go_simp;done))|(go_simp;(try go_bits);(try first | ((with_reducible show CallS _ _ _ _ _ _);refine CallS.mono (HCF.out _ _ HX1.out) ?_; rintro _ _ ⟨rfl, h9⟩; rw [h9]; clear h9));(first|(refine hK2 _ _ ?_ ?_<;>clear hK2 K2)|(refine hK2 _ _ ?_;clear hK2 K2))))
    · refine ⟨?_, HX1.out⟩
      rw [HEE.out, if_pos hok]
    all_goals exact absurd (show ef = 0 by simpa using ‹(ef != 0) = false›) hok
end Go.Proofs.Tryz
namespace Go.Proofs.Tryz
open Go Go.Am Go.RowKit Go.Co
set_option maxRecDepth 100000

def isClash (s : Sheet) (c : Copy) : Bool := decide (errCopy s c = 0) && !(courseOf s c).made c.per.toNat
def clashL (s : Sheet) (c : Copy) : List Int := if isClash s c then (courseOf s c).early c.per.toNat 0 ++ [c.fin + 1] else []

theorem clash_e {loops : List (Nat × LInfo)} {H : AHeap} {sv cv : Value} {s : Sheet} {c : Copy} (hs : SheetV H sv s) (hc : CopyV H cv c) : CallS Tryz.prog loops 18 [sv, cv] H fun r H' => (∃ lv, r = .tuple #[lv, .bool (isClash s c), .int .i64 (errCopy s c)] ∧ Ints H' lv (clashL s c)) ∧ Ext H H' := by
  have HS := Lib.hid hs
  have HC := Lib.hid hc
  obtain ⟨wv, av, rfl, hw, ha⟩ := hs
  obtain ⟨hwl, wa, wc, rfl⟩ := hw.slice
  obtain ⟨hal, aa, ac, rfl⟩ := ha.slice
  obtain ⟨cv, rfl, hcw⟩ := hc
  obtain ⟨hcl, ca, cc, rfl⟩ := hcw.slice
  clear hw ha hcw
  refine CallS.enter' Tryz.func18 rfl Tryz.ntmps18 (by simp) fun f hd hf => ?_
  have f0 := hf 0
  have f1 := hf 1
  simp at f0 f1
  clear hf
  generalize hee : errCopy s c = er
  have HE := Lib.hid hee
  clear hee
  have HX1 : Hid (Ext H (((H.push (.row [Value.slice wa s.words.length wc, Value.slice aa s.alts.length ac] 25)).push (.row [Value.slice ca c.words.length cc, .int .i64 c.beg, .int .i64 c.fin, .int .i64 c.per] 27)))) := Lib.hid (((Ext.refl _).push' _).push' _)
  have hi : ∀ G : AHeap, Ints G (.slice none 0 0) [] := fun G => ints_of_own (show Own G 0 (.slice none 0 0) 3 1 (([] : List Int).map (Value.int .i64)) from Own.nil) (by simp)
  have HI := Lib.hid hi
  clear hi
  by_cases her : er = 0
  · have hok : errCopy s c = 0 := by rw [HE.out]; exact her
    obtain ⟨he0, hlen, hwo, hb0, hb1, hb2, hp1, -⟩ := errCopy_ok hok
    have hwn : s.words.length ≤ 40 := by have := (win_iff.1 (err_ok he0).2.1).2; omega
    have hcn : (courseOf s c).open_.length ≤ 1000 := by rw [courseOf_len]; omega
    have hor := courseOf_ord hok
    have hper : (courseOf s c).per = c.per.toNat := by simp [courseOf]; omega
    have hpp : 1 ≤ c.per.toNat := by omega
    have hf0 : 0 ≤ c.fin := by omega
    have hwr : IntKind.i64.wrap (c.fin + 1) = c.fin + 1 := by rw [IntKind.wrap_i64]; omega
    have HCE := Lib.hid (fun (loops : List (Nat × LInfo)) (H' : AHeap) (hx : Ext H H') => courseOf_e (loops := loops) (HS.out.ext hx) (HC.out.ext hx) hok)
    have HEE : Hid (isClash s c = !(courseOf s c).made c.per.toNat) := Lib.hid (by rw [isClash, hok]; simp)
    have HFL : Hid (clashL s c = if isClash s c then (courseOf s c).early c.per.toNat 0 ++ [c.fin + 1] else []) := Lib.hid rfl
    have hel := first_len (courseOf s c) c.per.toNat
    generalize courseOf s c = x at hcn hor hper HCE HEE HFL hel
    generalize c.per.toNat = p at hper hpp HEE HFL hel
    have HOR := Lib.hid hor
    have HPE := Lib.hid hper
    have HEL := Lib.hid hel
    have HBG : Hid (((((x.early p 0).map (Value.int .i64)).length + [Value.int .i64 (c.fin + 1)].length) * max 8 1) ≤ 1073741824) := Lib.hid (by simp; omega)
    have HIN : Hid (∀ (G : AHeap) (b : Nat) (v : Value), Own G b v 3 1 ((x.early p 0).map (Value.int .i64) ++ [Value.int .i64 (c.fin + 1)]) → Ints G v (x.early p 0 ++ [c.fin + 1])) := Lib.hid (fun G b v h => ints_of_own (by rw [List.map_append]; exact h) (by simp; omega))
    clear he0 hlen hwo hwn hor hper hok hel
    subst her
    repeat' (first|(with_reducible first|refine zA ?_|refine zB fun K hK=>?_|refine zC fun K2 hK2=>?_|refine zD ?_|refine zE ?_|refine zF ?_|refine zG ?_|refine zH ?_|refine zI ?_|refine zM ?_|refine zN ?_|refine zO ?_|refine zP ?_|refine zQ ?_|refine zR ?_)|((with_reducible refine zU (hK _ _ ?_));clear hK K)|((with_reducible refine zV ?_ ?_ fun K1 K3 d hdst h1 h3=>?_);rfl;exact yB rfl;cases hdst;go_simp)|((with_reducible refine zW fun K1 K3 h1 h3=>?_);go_simp)|((first|refine h1 ?_|refine h3 ?_);clear h1 h3 K1 K3)|((first|refine zX (fun hb=>h1 ?_) (fun hb=>h3 ?_)|refine zX (fun hb=>h3 ?_) (fun hb=>h1 ?_))<;>(clear h1 h3 K1 K3;(try have hb2:=yC hb);(try have hb2:=yD hb);(try have hb2:=yE hb);(try have hb2:=yF hb);(try have hb2:=yG hb)))|(refine fun (K2:_→AHeap→Prop) hK2=>?_)|((with_reducible refine zY ?_ ?_);decide)|((with_reducible first|refine zZ ?_ (fun K hK=>?_)|refine yA ?_ (fun K hK=>?_));(focus go_simp;done);go_simp;refine hK _ _ ?_;clear hK K)|((with_reducible refine yH mixed rfl ?_ 20 fun K0 hK0=>?_);kernel_rfl)|(with_reducible first|exact yI|exact yJ|refine yK ?_|refine yL ?_|refine yM ?_)|((with_reducible first|refine yN ?_ ?_|refine yO ?_ ?_|refine yP ?_ ?_);rfl)|((with_reducible refine yQ ?_ ?_);rfl;refine hK0 _ _ ?_;clear hK0 K0)|((with_reducible refine yR ?_ ?_ ?_ ?_);rfl;rfl;rfl)|((with_reducible refine yS ?_ ?_ ?_ fun K2 hK2=>?_);rfl;rfl;exact yB rfl)|((with_reducible refine yT ?_ ?_ ?_ ?_ fun K1 K3 d hdst h1 h3=>?_);rfl;rfl;rfl;exact yB rfl;cases hdst;go_simp)|((with_reducible refine yU ?_ ?_ ?_ ?_ fun K1 K3 d hdst h1 h3=>?_);rfl;rfl;rfl;exact yB rfl;cases hdst;go_simp)|((with_reducible refine yV ?_ ?_ (fun K2 hK2=>?_) ?_);rfl;exact yB rfl)|((with_reducible refine yW ?_ ?_ ?_ ?_ (fun K2 hK2=>?_) ?_);rfl;exact yB rfl;rfl;(focus go_simp;done))|((with_reducible refine yX ?_ ?_ ?_ (fun K2 hK2=>?_) ?_);rfl;rfl;exact yB rfl)|((with_reducible refine yY ?_ ?_ (fun K2 hK2=>?_) ?_);rfl;rfl)|((with_reducible refine yZ ?_ ?_);(first|rfl|(dsimp only;decide +kernel)))|((with_reducible refine xA ?_ ?_);(focus go_simp;done))|(go_simp;(try go_bits);(try first |((with_reducible show CallS _ _ _ _ _ _);first|(refine CallS.mono (checkCopy_s (s := s) (c := c) (HS.out.ext HX1.out) (HC.out.ext HX1.out)) ?_; rintro _ _ ⟨rfl, h9⟩; rw [h9, HE.out]; clear h9)|(refine CallS.mono (HCE.out _ _ HX1.out) ?_; rintro xv H1 ⟨hcv, hx⟩; (have HCV := Lib.hid hcv); (have HX2 := Lib.hid (HX1.out.trans hx)); (obtain ⟨ov, rfl, hov⟩ := hcv); (obtain ⟨hol, oa, oc, rfl⟩ := hov.slice); (have hn1 : H.n + 2 ≤ H1.n := by have := hx.n; simp only [AHeap.n_push] at this; omega); (have hcs2 : cellsAt H1 (H.n + 1) 0 4 = some [Value.slice ca c.words.length cc, .int .i64 c.beg, .int .i64 c.fin, .int .i64 c.per] := by rw [hx.cellsAt (by simp only [AHeap.n_push]; omega), ← AHeap.n_push H, cellsAt_new]; rfl); (have hcc1 : cellAt H1 (H.n + 1) 2 = some (.int .i64 c.fin) := by rw [hx.cellAt (by simp only [AHeap.n_push]; omega), ← AHeap.n_push H, cellAt_new]; rfl); (have hlt1 : H.n + 1 < H1.n := by omega); (have hcb : cellsAt ((H1.push (.row [Value.slice oa x.open_.length oc, .int .i64 x.per] 79)).push (.row [.int .i64 (c.fin + 1)] 3)) H1.n 0 2 = some [Value.slice oa x.open_.length oc, .int .i64 x.per] := by rw [cellsAt_old (by rw [AHeap.n_push]; omega), cellsAt_new]; rfl); clear hov hx)|(refine CallS.mono (canBeMade_s (x := x) (p := p) (HCV.out.ext (Ext.push _)) HOR.out HPE.out hpp hcn) ?_; rintro _ _ ⟨rfl, h9⟩; rw [h9]; clear h9)|(refine CallS.mono (earliest_e (x := x) (p := p) (HCV.out.ext (Ext.push _)) HOR.out HPE.out hpp hcn) ?_; rintro ev H2 ⟨he, hx⟩; (have HEO := Lib.hid he); (have HX3 := Lib.hid ((HX2.out.push' _).trans hx)); (have hn2 : H1.n + 1 ≤ H2.n := by have := hx.n; rw [AHeap.n_push] at this; omega); (obtain ⟨ea, en, rfl⟩ := own_slice he); (have hcc2 : cellAt H2 (H.n + 1) 2 = some (.int .i64 c.fin) := by rw [hx.cellAt (by rw [AHeap.n_push]; omega), cellAt_old hlt1]; exact hcc1); (have hc7 : cellsAt H2 H1.n 0 2 = some [Value.slice oa x.open_.length oc, .int .i64 x.per] := by rw [hx.cellsAt (by rw [AHeap.n_push]; omega)]; simp [cellsAt, get_at (H := H1) rfl]); (have hlt2 : H1.n < H2.n := by omega); clear he hx)|(refine CallS.mono (earliest_e (x := x) (p := p) (HCV.out.ext ((Ext.push _).push' _)) HOR.out HPE.out hpp hcn) ?_; rintro ev H2 ⟨he, hx⟩; (have HEO := Lib.hid he); (have HX3 := Lib.hid (((HX2.out.push' _).push' _).trans hx)); (have hn2 : H1.n + 2 ≤ H2.n := by have := hx.n; simp only [AHeap.n_push] at this; omega); (obtain ⟨ea, en, rfl⟩ := own_slice he); (have hcc2 : cellAt H2 (H.n + 1) 2 = some (.int .i64 c.fin) := by rw [hx.cellAt (by simp only [AHeap.n_push]; omega), cellAt_old (by rw [AHeap.n_push]; omega), cellAt_old hlt1]; exact hcc1); (have hnw : H2.get (H1.n + 1) = .row [.int .i64 (c.fin + 1)] 3 := (hx.get _ (by simp only [AHeap.n_push]; omega)).trans (get_at (by simp only [AHeap.n_push]))); clear he hx))|((refine one_v el22 sz3 ze3 rfl (by decide) (by decide) rfl rfl ?_); go_simp)|((refine append_v el22 sz3 by3 ze3 rfl (by decide) (HEO.out.ext (Ext.push _)) (srcCells_new rfl) (by decide) rfl (by rw [List.all_append, oneV_list_int]; rfl) HBG.out (by simp only [AHeap.n_push]; omega) fun v4 H4 ho4 hg4 => ?_); (have HR := Lib.hid (HIN.out _ _ _ ho4)); (have HXF := Lib.hid (Grown.ext hg4 (HEO.out.ext (Ext.push _)) (by have := HX2.out.n; simp only [AHeap.n_push]; omega) (HX3.out.push' _))); clear ho4 hg4; go_simp)|((refine append_v el22 sz3 by3 ze3 rfl (by decide) HEO.out (srcCells_some (by decide) (by rw [cellsAt, hnw]; rfl)) (by decide) rfl (by rw [List.all_append, oneV_list_int]; rfl) HBG.out (by simp only [AHeap.n_push]; omega) fun v4 H4 ho4 hg4 => ?_); (have HR := Lib.hid (HIN.out _ _ _ ho4)); (have HXF := Lib.hid (Grown.ext hg4 HEO.out (by have := HX2.out.n; simp only [AHeap.n_push]; omega) HX3.out)); clear ho4 hg4; go_simp));(first|(refine hK2 _ _ ?_ ?_<;>clear hK2 K2)|(refine hK2 _ _ ?_;clear hK2 K2))))
    · have h1 : isClash s c = false := by rw [HEE.out, hb]; rfl
      exact ⟨⟨_, by rw [h1], by rw [HFL.out, if_neg (by simp [h1])]; exact HI.out _⟩, HX2.out.push' _⟩
    all_goals
      have h1 : isClash s c = true := by rw [HEE.out, hb]; rfl
      exact ⟨⟨_, by rw [h1], by rw [HFL.out, if_pos h1]; exact HR.out⟩, HXF.out⟩
  · repeat' (first|(with_reducible first|refine zA ?_|refine zB fun K hK=>?_|refine zC fun K2 hK2=>?_|refine zD ?_|refine zE ?_|refine zF ?_|refine zG ?_|refine zH ?_|refine zI ?_|refine zM ?_|refine zN ?_|refine zO ?_|refine zP ?_|refine zQ ?_|refine zR ?_)|((with_reducible refine zU (hK _ _ ?_));clear hK K)|((with_reducible refine zV ?_ ?_ fun K1 K3 d hdst h1 h3=>?_);rfl;exact yB rfl;cases hdst;go_simp)|((with_reducible refine zW fun K1 K3 h1 h3=>?_);go_simp)|((first|refine h1 ?_|refine h3 ?_);clear h1 h3 K1 K3)|((first|refine zX (fun hb=>h1 ?_) (fun hb=>h3 ?_)|refine zX (fun hb=>h3 ?_) (fun hb=>h1 ?_))<;>(clear h1 h3 K1 K3;(try have hb2:=yC hb);(try have hb2:=yD hb);(try have hb2:=yE hb);(try have hb2:=yF hb);(try have hb2:=yG hb)))|(refine fun (K2:_→AHeap→Prop) hK2=>?_)|((with_reducible refine zY ?_ ?_);decide)|((with_reducible first|refine zZ ?_ (fun K hK=>?_)|refine yA ?_ (fun K hK=>?_));(focus go_simp;done);go_simp;refine hK _ _ ?_;clear hK K)|((with_reducible refine yH mixed rfl ?_ 20 fun K0 hK0=>?_);kernel_rfl)|(with_reducible first|exact yI|exact yJ|refine yK ?_|refine yL ?_|refine yM ?_)|((with_reducible first|refine yN ?_ ?_|refine yO ?_ ?_|refine yP ?_ ?_);rfl)|((with_reducible refine yQ ?_ ?_);rfl;refine hK0 _ _ ?_;clear hK0 K0)|((with_reducible refine yR ?_ ?_ ?_ ?_);rfl;rfl;rfl)|((with_reducible refine yS ?_ ?_ ?_ fun K2 hK2=>?_);rfl;rfl;exact yB rfl)|((with_reducible refine yT ?_ ?_ ?_ ?_ fun K1 K3 d hdst h1 h3=>?_);rfl;rfl;rfl;exact yB rfl;cases hdst;go_simp)|((with_reducible refine yU ?_ ?_ ?_ ?_ fun K1 K3 d hdst h1 h3=>?_);rfl;rfl;rfl;exact yB rfl;cases hdst;go_simp)|((with_reducible refine yV ?_ ?_ (fun K2 hK2=>?_) ?_);rfl;exact yB rfl)|((with_reducible refine yW ?_ ?_ ?_ ?_ (fun K2 hK2=>?_) ?_);rfl;exact yB rfl;rfl;(focus go_simp;done))|((with_reducible refine yX ?_ ?_ ?_ (fun K2 hK2=>?_) ?_);rfl;rfl;exact yB rfl)|((with_reducible refine yY ?_ ?_ (fun K2 hK2=>?_) ?_);rfl;rfl)|((with_reducible refine yZ ?_ ?_);(first|rfl|(dsimp only;decide +kernel)))|((with_reducible refine xA ?_ ?_);(focus go_simp;done))|(go_simp;(try go_bits);(try first | ((with_reducible show CallS _ _ _ _ _ _);refine CallS.mono (checkCopy_s (s := s) (c := c) (HS.out.ext HX1.out) (HC.out.ext HX1.out)) ?_; rintro _ _ ⟨rfl, h9⟩; rw [h9, HE.out]; clear h9));(first|(refine hK2 _ _ ?_ ?_<;>clear hK2 K2)|(refine hK2 _ _ ?_;clear hK2 K2))))
    all_goals try (exact absurd (show er = 0 by simpa using ‹(er != 0) = false›) her)
    have h1 : isClash s c = false := by rw [isClash, HE.out]; simp [her]
    exact ⟨⟨_, by rw [h1], by rw [clashL, if_neg (by simp [h1])]; exact HI.out _⟩, HX1.out⟩
end Go.Proofs.Tryz
namespace Go.Proofs.Tryz
open Go Go.Am Go.RowKit Go.Co
set_option maxRecDepth 100000

set_option maxHeartbeats 8000000 in
theorem refFirst_e {loops : List (Nat × LInfo)} {H : AHeap} {sv cv : Value} {s : Sheet} {c : Copy} (hs : SheetV H sv s) (hc : CopyV H cv c) (he : errCopy s c = 0) : CallS Tryz.prog loops 51 [sv, cv] H fun r H' => Own H' H.n r 3 1 (((courseOf s c).early c.per.toNat 0).map (Value.int .i64)) ∧ Ext H H' := by
  have HV := Lib.hid hs
  obtain ⟨wv, av, rfl, hw, ha⟩ := hs
  obtain ⟨hwl, wa, wc, rfl⟩ := hw.slice
  obtain ⟨hal, aa, ac, rfl⟩ := ha.slice
  obtain ⟨cv, rfl, hcw⟩ := hc
  obtain ⟨hcl, ca, cc, rfl⟩ := hcw.slice
  have HCW := Lib.hid hcw
  clear hw ha hcw
  obtain ⟨he0, hlen, hwo, hb0, hb1, hb2, hp1, hp2⟩ := errCopy_ok he
  have hwn : s.words.length ≤ 40 := by have := (win_iff.1 (err_ok he0).2.1).2; omega
  have hcn : c.words.length ≤ 40 := by omega
  have HLEN := Lib.hid hlen
  have HERR := Lib.hid he
  have hper : c.per = ((c.per.toNat : Nat) : Int) := by omega
  have hp3 : 1 ≤ c.per.toNat := by omega
  have HNX := Lib.hid (fun (i : Nat) (hi : i < c.words.length) (f d : Int) => nx_of he hi (f := f) (d := d))
  have HORD := Lib.hid (courseOf_ord he)
  generalize hr : (courseOf s c).early c.per.toNat 0 = res
  have HE : Hid (Co.early (courseOf s c).nx c.per.toNat 0 c.words.length [] = res) := Lib.hid (by rw [← hr, Course.early, courseOf_len])
  generalize c.per.toNat = p at HE hper hp3
  have HPE := Lib.hid hper
  rw [hper] at hp1 hp2
  clear hr he he0 hlen hwo
  refine CallS.enter' Tryz.func51 rfl Tryz.ntmps51 (by simp) fun f hd hf => ?_
  have f0 := hf 0
  have f1 := hf 1
  simp at f0 f1
  clear hf
  rw [hper] at f1
  clear hper
  repeat' (first|(with_reducible first|refine zA ?_|refine zB fun K hK=>?_|refine zC fun K2 hK2=>?_|refine zD ?_|refine zE ?_|refine zF ?_|refine zG ?_|refine zH ?_|refine zI ?_|refine zM ?_|refine zN ?_|refine zO ?_|refine zP ?_|refine zQ ?_|refine zR ?_)|((with_reducible refine zU (hK _ _ ?_));clear hK K)|((with_reducible refine zV ?_ ?_ fun K1 K3 d hdst h1 h3=>?_);rfl;exact yB rfl;cases hdst;go_simp)|((with_reducible refine zW fun K1 K3 h1 h3=>?_);go_simp)|((first|refine h1 ?_|refine h3 ?_);clear h1 h3 K1 K3)|((first|refine zX (fun hb=>h1 ?_) (fun hb=>h3 ?_)|refine zX (fun hb=>h3 ?_) (fun hb=>h1 ?_))<;>(clear h1 h3 K1 K3;(try have hb2:=yC hb);(try have hb2:=yD hb);(try have hb2:=yE hb);(try have hb2:=yF hb);(try have hb2:=yG hb)))|(refine fun (K2:_→AHeap→Prop) hK2=>?_)|((with_reducible refine zY ?_ ?_);decide)|((with_reducible first|refine zZ ?_ (fun K hK=>?_)|refine yA ?_ (fun K hK=>?_));(focus go_simp;done);go_simp;refine hK _ _ ?_;clear hK K)|((with_reducible refine yH mixed rfl ?_ 20 fun K0 hK0=>?_);kernel_rfl)|(with_reducible first|exact yI|exact yJ|refine yK ?_|refine yL ?_|refine yM ?_)|((with_reducible first|refine yN ?_ ?_|refine yO ?_ ?_|refine yP ?_ ?_);rfl)|((with_reducible refine yQ ?_ ?_);rfl;refine hK0 _ _ ?_;clear hK0 K0)|((with_reducible refine yR ?_ ?_ ?_ ?_);rfl;rfl;rfl)|((with_reducible refine yS ?_ ?_ ?_ fun K2 hK2=>?_);rfl;rfl;exact yB rfl)|((with_reducible refine yT ?_ ?_ ?_ ?_ fun K1 K3 d hdst h1 h3=>?_);rfl;rfl;rfl;exact yB rfl;cases hdst;go_simp)|((with_reducible refine yU ?_ ?_ ?_ ?_ fun K1 K3 d hdst h1 h3=>?_);rfl;rfl;rfl;exact yB rfl;cases hdst;go_simp)|((with_reducible refine yV ?_ ?_ (fun K2 hK2=>?_) ?_);rfl;exact yB rfl)|((with_reducible refine yW ?_ ?_ ?_ ?_ (fun K2 hK2=>?_) ?_);rfl;exact yB rfl;rfl;(focus go_simp;done))|((with_reducible refine yX ?_ ?_ ?_ (fun K2 hK2=>?_) ?_);rfl;rfl;exact yB rfl)|((with_reducible refine yY ?_ ?_ (fun K2 hK2=>?_) ?_);rfl;rfl)|((with_reducible refine yZ ?_ ?_);(first|rfl|(dsimp only;decide +kernel)))|((with_reducible refine xA ?_ ?_);(focus go_simp;done))|(go_simp;(try go_bits);(first|(refine hK2 _ _ ?_ ?_<;>clear hK2 K2)|(refine hK2 _ _ ?_;clear hK2 K2))))
  refine CodeS.loop (fun m f H' => ∃ (k : Nat) (v : Value) (acc : List Int), k ≤ c.words.length ∧ acc.length = k ∧ m = c.words.length - k ∧ f.tmp 6 = .int .i64 k ∧ f.tmp 2 = .pointer (some ⟨H.n, 0, none⟩) ∧ f.tmp 3 = .pointer (some ⟨H.n + 1, 0, none⟩) ∧ f.tmp 5 = v ∧ f.defers = [] ∧ Hid (Co.early (courseOf s c).nx p 0 (c.words.length - k) acc = res) ∧ Hid (∀ y, y ∈ acc → 0 ≤ y ∧ y ≤ 730) ∧ H.n + 1 < H'.n ∧ Hid (Ext H H') ∧ Hid (H'.get H.n = .row [Value.slice wa s.words.length wc, Value.slice aa s.alts.length ac] 25) ∧ Hid (H'.get (H.n + 1) = .row [Value.slice ca c.words.length cc, .int .i64 c.beg, .int .i64 c.fin, .int .i64 p] 27) ∧ Hid (Own H' (H.n + 2) v 3 1 (acc.map (Value.int .i64)))) c.words.length ?_ ?_
  · refine ⟨0, .slice none 0 0, [], by simp, rfl, by simp, (by first|go_simp<;>go_num|assumption), (by first|go_simp<;>go_num|assumption), (by first|go_simp<;>go_num|assumption), (by first|go_simp<;>go_num|assumption), (by first|go_simp<;>go_num|assumption), HE, Lib.hid (by simp), by simp only [AHeap.n_push]; omega, Lib.hid (((Ext.refl _).push' _).push' _), Lib.hid ?_, Lib.hid ?_, Lib.hid Own.nil⟩
    · rw [AHeap.get_push_old (by simp only [AHeap.n_push]; omega), get_at rfl]
    · rw [get_at (by simp only [AHeap.n_push])]
  clear f0 f1 hd f HE
  rintro m f H' ⟨k, v, acc, hk, hak, rfl, f6, f2, f3, f5, hd, HG, HB, hn0, HX, HG0, HG1, HO⟩
  have hg0 := HG0.out
  have hg1 := HG1.out
  have hc2 : cellsAt H' H.n 0 2 = some [Value.slice wa s.words.length wc, Value.slice aa s.alts.length ac] := by simp [cellsAt, hg0]
  have hd0 : cellAt H' (H.n + 1) 0 = some (Value.slice ca c.words.length cc) := by simp [cellAt, hg1]
  have hd1 : cellAt H' (H.n + 1) 1 = some (.int .i64 c.beg) := by simp [cellAt, hg1]
  have hd2 : cellAt H' (H.n + 1) 2 = some (.int .i64 c.fin) := by simp [cellAt, hg1]
  have hd3 : cellAt H' (H.n + 1) 3 = some (.int .i64 p) := by simp [cellAt, hg1]
  have HAK := Lib.hid hak
  have hn1 : H.n < H'.n := by omega
  clear hg0 hg1 hak
  by_cases hlt : k < c.words.length
  · obtain ⟨b, o, sp, rfl, hb, hxw⟩ := (HCW.out.ext HX.out).at_ hlt
    have HWD : Hid (c.words.getD k 0 = c.words[k]) := Lib.hid (by simp [List.getD_eq_getElem?_getD, hlt])
    generalize c.words[k] = w at hxw HWD
    have HI : Hid (Ints H' v acc) := Lib.hid (ints_of_own HO.out (by have := HAK.out; omega))
    obtain ⟨-, va, vc, rfl⟩ := HI.out.slice
    have HCAN := Lib.hid (fun (loops : List (Nat × LInfo)) (d : Int) => can_s (loops := loops) (d := d) (w := w) (HV.out.ext HX.out) (show (0 : Int) ≤ (k : Int) by omega) (by have := HLEN.out; omega))
    have HST : Hid (Co.early (courseOf s c).nx p 0 (c.words.length - k) acc = if (courseOf s c).nx k (max 0 (lowL p acc k)) = 731 then acc else Co.early (courseOf s c).nx p 0 (c.words.length - (k + 1)) (acc ++ [(courseOf s c).nx k (max 0 (lowL p acc k))])) := Lib.hid (by
      have := HAK.out
      rw [show c.words.length - k = (c.words.length - (k + 1)) + 1 by omega, Co.early, this])
    have HNK := Lib.hid (HNX.out k hlt (lowL p acc k))
    have hget : ∀ j, j < k → Hid (0 ≤ acc.getD j 0 ∧ acc.getD j 0 ≤ 730) := fun j hj => Lib.hid (by
      have h1 : j < acc.length := by have := HAK.out; omega
      rw [List.getD_eq_getElem?_getD, List.getElem?_eq_getElem h1]
      exact HB.out _ (List.getElem_mem h1))
    have HGT := Lib.hid hget
    clear hget
    have hbig : ((acc.map (Value.int .i64)).length + 1) * max 8 1 ≤ 1073741824 := by have := HAK.out; simp; omega
    have HBIG := Lib.hid hbig
    clear hbig
    rcases Nat.eq_zero_or_pos k with hk0 | hk0
    · have hk1 : ¬ (0 < (k : Int)) := by omega
      have hk2 : ¬ ((p : Int) ≤ (k : Int)) := by omega
      have hk4 : ¬ (p ≤ k) := by omega
      have hk5 : ¬ (0 < k) := by omega
      have HD : Hid (c.beg = max c.beg (lowL p acc k)) := Lib.hid (by
        have : lowL p acc k = 0 := by simp [lowL, hk4, show ¬ 1 ≤ k by omega]
        omega)
      have HDR : Hid (c.beg ≤ 731) := Lib.hid (by omega)
      have HK0 := Lib.hid hk0
      clear hk0
      repeat' (first|(with_reducible first|refine zA ?_|refine zB fun K hK=>?_|refine zC fun K2 hK2=>?_|refine zD ?_|refine zE ?_|refine zF ?_|refine zG ?_|refine zH ?_|refine zI ?_|refine zM ?_|refine zN ?_|refine zO ?_|refine zP ?_|refine zQ ?_|refine zR ?_)|((with_reducible refine zU (hK _ _ ?_));clear hK K)|((with_reducible refine zV ?_ ?_ fun K1 K3 d hdst h1 h3=>?_);rfl;exact yB rfl;cases hdst;go_simp)|((with_reducible refine zW fun K1 K3 h1 h3=>?_);go_simp)|((first|refine h1 ?_|refine h3 ?_);clear h1 h3 K1 K3)|((first|refine zX (fun hb=>h1 ?_) (fun hb=>h3 ?_)|refine zX (fun hb=>h3 ?_) (fun hb=>h1 ?_))<;>(clear h1 h3 K1 K3;(try have hb2:=yC hb);(try have hb2:=yD hb);(try have hb2:=yE hb);(try have hb2:=yF hb);(try have hb2:=yG hb)))|(refine fun (K2:_→AHeap→Prop) hK2=>?_)|((with_reducible refine zY ?_ ?_);decide)|((with_reducible first|refine zZ ?_ (fun K hK=>?_)|refine yA ?_ (fun K hK=>?_));(focus go_simp;done);go_simp;refine hK _ _ ?_;clear hK K)|((with_reducible refine yH mixed rfl ?_ 20 fun K0 hK0=>?_);kernel_rfl)|(with_reducible first|exact yI|exact yJ|refine yK ?_|refine yL ?_|refine yM ?_)|((with_reducible first|refine yN ?_ ?_|refine yO ?_ ?_|refine yP ?_ ?_);rfl)|((with_reducible refine yQ ?_ ?_);rfl;refine hK0 _ _ ?_;clear hK0 K0)|((with_reducible refine yR ?_ ?_ ?_ ?_);rfl;rfl;rfl)|((with_reducible refine yS ?_ ?_ ?_ fun K2 hK2=>?_);rfl;rfl;exact yB rfl)|((with_reducible refine yT ?_ ?_ ?_ ?_ fun K1 K3 d hdst h1 h3=>?_);rfl;rfl;rfl;exact yB rfl;cases hdst;go_simp)|((with_reducible refine yU ?_ ?_ ?_ ?_ fun K1 K3 d hdst h1 h3=>?_);rfl;rfl;rfl;exact yB rfl;cases hdst;go_simp)|((with_reducible refine yV ?_ ?_ (fun K2 hK2=>?_) ?_);rfl;exact yB rfl)|((with_reducible refine yW ?_ ?_ ?_ ?_ (fun K2 hK2=>?_) ?_);rfl;exact yB rfl;rfl;(focus go_simp;done))|((with_reducible refine yX ?_ ?_ ?_ (fun K2 hK2=>?_) ?_);rfl;rfl;exact yB rfl)|((with_reducible refine yY ?_ ?_ (fun K2 hK2=>?_) ?_);rfl;rfl)|((with_reducible refine yZ ?_ ?_);(first|rfl|(dsimp only;decide +kernel)))|((with_reducible refine xA ?_ ?_);(focus go_simp;done))|(go_simp;(try go_bits);(first|(refine hK2 _ _ ?_ ?_<;>clear hK2 K2)|(refine hK2 _ _ ?_;clear hK2 K2))))
      clear hk1 hk2 hk4 hk5
      refine CodeS.loop (fun m f H'' => ∃ d : Int, c.beg ≤ d ∧ d ≤ 731 ∧ m = (731 - d).toNat ∧ f.tmp 7 = .int .i64 d ∧ f.tmp 6 = .int .i64 k ∧ f.tmp 2 = .pointer (some ⟨H.n, 0, none⟩) ∧ f.tmp 3 = .pointer (some ⟨H.n + 1, 0, none⟩) ∧ f.tmp 5 = .slice va acc.length vc ∧ f.defers = [] ∧ Hid (∀ e, c.beg ≤ e → e < d → (hasOn s k e).offers w = false) ∧ H' = H'') (731 - (c.beg)).toNat ?_ ?_
      · exact ⟨c.beg, Int.le_refl _, HDR.out, rfl, (by first|go_simp<;>go_num|assumption), (by first|go_simp<;>go_num|assumption), (by first|go_simp<;>go_num|assumption), (by first|go_simp<;>go_num|assumption), (by first|go_simp<;>go_num|assumption), (by first|go_simp<;>go_num|assumption), Lib.hid (fun e h1 h2 => by omega), rfl⟩
      clear f6 f2 f3 f5 hd f
      rintro m f H9 ⟨d, hd1', hd2', rfl, f7, f6, f2, f3, f5, hd, HNO, hH9⟩
      subst hH9
      have hcn2 := fun (loops : List (Nat × LInfo)) => HCAN.out loops d
      have HFI : Hid ((hasOn s k d).offers w = true ∨ c.fin < d → (courseOf s c).nx k (max 0 (lowL p acc k)) = if d ≤ c.fin then d else 731) := Lib.hid (fun h => HNK.out d (by rw [← HD.out]; exact hd1') (fun e h1 h2 => by rw [HWD.out]; exact HNO.out e (by rw [HD.out]; exact h1) h2) (fun h1 => by rw [HWD.out]; rcases h with h | h; exact h; omega))
      have HNO2 : Hid ((hasOn s k d).offers w = false → ∀ e, c.beg ≤ e → e < d + 1 → (hasOn s k e).offers w = false) := Lib.hid (fun h e h1 h2 => by
        by_cases h3 : e = d
        · rw [h3]; exact h
        · exact HNO.out e h1 (by omega))
      generalize (hasOn s k d).offers w = bb at hcn2 HFI HNO2
      have HCN := Lib.hid hcn2
      clear hcn2
      repeat' (first|(with_reducible first|refine zA ?_|refine zB fun K hK=>?_|refine zC fun K2 hK2=>?_|refine zD ?_|refine zE ?_|refine zF ?_|refine zG ?_|refine zH ?_|refine zI ?_|refine zM ?_|refine zN ?_|refine zO ?_|refine zP ?_|refine zQ ?_|refine zR ?_)|((with_reducible refine zU (hK _ _ ?_));clear hK K)|((with_reducible refine zV ?_ ?_ fun K1 K3 d hdst h1 h3=>?_);rfl;exact yB rfl;cases hdst;go_simp)|((with_reducible refine zW fun K1 K3 h1 h3=>?_);go_simp)|((first|refine h1 ?_|refine h3 ?_);clear h1 h3 K1 K3)|((first|refine zX (fun hb=>h1 ?_) (fun hb=>h3 ?_)|refine zX (fun hb=>h3 ?_) (fun hb=>h1 ?_))<;>(clear h1 h3 K1 K3;(try have hb2:=yC hb);(try have hb2:=yD hb);(try have hb2:=yE hb);(try have hb2:=yF hb);(try have hb2:=yG hb)))|(refine fun (K2:_→AHeap→Prop) hK2=>?_)|((with_reducible refine zY ?_ ?_);decide)|((with_reducible first|refine zZ ?_ (fun K hK=>?_)|refine yA ?_ (fun K hK=>?_));(focus go_simp;done);go_simp;refine hK _ _ ?_;clear hK K)|((with_reducible refine yH mixed rfl ?_ 20 fun K0 hK0=>?_);kernel_rfl)|(with_reducible first|exact yI|exact yJ|refine yK ?_|refine yL ?_|refine yM ?_)|((with_reducible first|refine yN ?_ ?_|refine yO ?_ ?_|refine yP ?_ ?_);rfl)|((with_reducible refine yQ ?_ ?_);rfl;refine hK0 _ _ ?_;clear hK0 K0)|((with_reducible refine yR ?_ ?_ ?_ ?_);rfl;rfl;rfl)|((with_reducible refine yS ?_ ?_ ?_ fun K2 hK2=>?_);rfl;rfl;exact yB rfl)|((with_reducible refine yT ?_ ?_ ?_ ?_ fun K1 K3 d hdst h1 h3=>?_);rfl;rfl;rfl;exact yB rfl;cases hdst;go_simp)|((with_reducible refine yU ?_ ?_ ?_ ?_ fun K1 K3 d hdst h1 h3=>?_);rfl;rfl;rfl;exact yB rfl;cases hdst;go_simp)|((with_reducible refine yV ?_ ?_ (fun K2 hK2=>?_) ?_);rfl;exact yB rfl)|((with_reducible refine yW ?_ ?_ ?_ ?_ (fun K2 hK2=>?_) ?_);rfl;exact yB rfl;rfl;(focus go_simp;done))|((with_reducible refine yX ?_ ?_ ?_ (fun K2 hK2=>?_) ?_);rfl;rfl;exact yB rfl)|((with_reducible refine yY ?_ ?_ (fun K2 hK2=>?_) ?_);rfl;rfl)|((with_reducible refine yZ ?_ ?_);(first|rfl|(dsimp only;decide +kernel)))|((with_reducible refine xA ?_ ?_);(focus go_simp;done))|(go_simp;(try go_bits);(try first | ((with_reducible show CallS _ _ _ _ _ _);refine CallS.mono (HCN.out _) ?_; rintro _ _ ⟨rfl, h9⟩; rw [h9]; clear h9) | ((refine one_k el22 sz3 ze3 rfl (by decide) (by decide) rfl rfl ?_); go_simp) | ((refine append_k2 el22 sz3 by3 ze3 rfl (by decide) (HO.out.ext (Ext.push _)) (srcCells_new rfl) (by decide) rfl (by rw [List.all_append, oneV_list_int]; rfl) HBIG.out (by simp only [AHeap.n_push]; omega) fun v2 H4 ho4 hg4 => ?_); (have HO4 := Lib.hid ho4); (have HG4 := Lib.hid hg4); clear ho4 hg4; go_simp));(first|(refine hK2 _ _ ?_ ?_<;>clear hK2 K2)|(refine hK2 _ _ ?_;clear hK2 K2))))
      all_goals first
        | (exfalso; omega)
        | (have hbf : bb = false := by simpa using ‹(!bb) = true›
           refine Post.round_normal ⟨(731 - (d + 1)).toNat, by omega, d + 1, by omega, by omega, rfl, (by first|go_simp<;>go_num|assumption), (by first|go_simp<;>go_num|assumption), (by first|go_simp<;>go_num|assumption), (by first|go_simp<;>go_num|assumption), (by first|go_simp<;>go_num|assumption), (by first|go_simp<;>go_num|assumption), Lib.hid (HNO2.out hbf), rfl⟩)
        | (refine ⟨?_, HX.out⟩
           have h9 := HFI.out (.inr (by omega))
           rw [if_neg (by omega)] at h9
           have hr : acc = res := by rw [← HG.out, HST.out, if_pos h9]
           rw [← hr]
           exact HO.out.mono (by omega))
        | (have hbt : bb = true := by simpa using ‹(!bb) = false›
           have h9 := HFI.out (.inl hbt)
           rw [if_pos (by omega)] at h9
           have hx4 : Ext H H4 := HG4.out.ext (HO.out.ext (Ext.push _)) (by omega) (HX.out.push' _)
           have hk4' : ∀ i, i < H.n + 2 → H4.get i = H'.get i := fun i hi => by
             rw [HG4.out.2 i (by simp only [AHeap.n_push]; omega) (fun b n hv hn => by have := (own_block HO.out hv hn).1; omega), AHeap.get_push_old (by omega)]
           refine Post.round_normal ⟨c.words.length - (k + 1), by omega, k + 1, v2, acc ++ [d], by omega, by have := HAK.out; simp; omega, rfl, (by first|go_simp<;>go_num|assumption), (by first|go_simp<;>go_num|assumption), (by first|go_simp<;>go_num|assumption), (by first|go_simp<;>go_num|assumption), (by first|go_simp<;>go_num|assumption), Lib.hid ?_, Lib.hid ?_, ?_, Lib.hid hx4, Lib.hid ?_, Lib.hid ?_, Lib.hid ?_⟩
           · rw [← HG.out, HST.out, h9, if_neg (by omega)]
           · intro y hy
             rcases List.mem_append.1 hy with h | h
             · exact HB.out y h
             · rw [List.mem_singleton.1 h]; omega
           · have := HG4.out.1; simp only [AHeap.n_push] at this; omega
           · rw [hk4' _ (by omega)]; exact HG0.out
           · rw [hk4' _ (by omega)]; exact HG1.out
           · rw [List.map_append]; exact HO4.out.mono (by simp only [AHeap.n_push]; omega))
    · obtain ⟨b1, o1, sp1, rfl, hb1', hx1⟩ := HI.out.at_ (k := k - 1) (by have := HAK.out; omega)
      have hg1 : Hid (acc.getD (k - 1) 0 = acc[k - 1]'(by have := HAK.out; omega)) := Lib.hid (by simp [List.getD_eq_getElem?_getD, show k - 1 < acc.length by (have := HAK.out; omega)])
      have hy1 := (HGT.out (k - 1) (by omega)).out
      rw [hg1.out] at hy1
      generalize acc[k - 1]'(by have := HAK.out; omega) = y1 at hx1 hg1 hy1
      obtain ⟨hy1a, hy1b⟩ := hy1
      have h0i : (0 : Int) ≤ (k : Int) - 1 := by omega
      have h1i : (k : Int) - 1 < (acc.length : Int) := by have := HAK.out; omega
      have h2i : (1 : Int) ≤ (k : Int) := by omega
      have h3i : 1 ≤ k := by omega
      have h4i : k ≤ acc.length := by have := HAK.out; omega
      by_cases hpk : p ≤ k
      · obtain ⟨b2, o2, sp2, he2, hb2', hx2⟩ := HI.out.at_ (k := k - p) (by have := HAK.out; omega)
        cases he2
        have hg2 : Hid (acc.getD (k - p) 0 = acc[k - p]'(by have := HAK.out; omega)) := Lib.hid (by simp [List.getD_eq_getElem?_getD, show k - p < acc.length by (have := HAK.out; omega)])
        have hy2 := (HGT.out (k - p) (by omega)).out
        rw [hg2.out] at hy2
        generalize acc[k - p]'(by have := HAK.out; omega) = y2 at hx2 hg2 hy2
        obtain ⟨hy2a, hy2b⟩ := hy2
        have j0 : (0 : Int) ≤ (k : Int) - p := by omega
        have j1 : (k : Int) - p < (acc.length : Int) := by have := HAK.out; omega
        have j2 : (p : Int) ≤ (k : Int) := by omega
        have j3 : ((k : Int) - (p : Int)).toNat = k - p := by omega
        have HD : Hid (max (max c.beg y1) (y2 + 1) = max c.beg (lowL p acc k)) := Lib.hid (by
          have : lowL p acc k = max y1 (y2 + 1) := by simp only [lowL, if_pos hpk, if_pos h3i, hg1.out, hg2.out]
          omega)
        have HDR : Hid (max (max c.beg y1) (y2 + 1) ≤ 731) := Lib.hid (by omega)
        repeat' (first|(with_reducible first|refine zA ?_|refine zB fun K hK=>?_|refine zC fun K2 hK2=>?_|refine zD ?_|refine zE ?_|refine zF ?_|refine zG ?_|refine zH ?_|refine zI ?_|refine zM ?_|refine zN ?_|refine zO ?_|refine zP ?_|refine zQ ?_|refine zR ?_)|((with_reducible refine zU (hK _ _ ?_));clear hK K)|((with_reducible refine zV ?_ ?_ fun K1 K3 d hdst h1 h3=>?_);rfl;exact yB rfl;cases hdst;go_simp)|((with_reducible refine zW fun K1 K3 h1 h3=>?_);go_simp)|((first|refine h1 ?_|refine h3 ?_);clear h1 h3 K1 K3)|((first|refine zX (fun hb=>h1 ?_) (fun hb=>h3 ?_)|refine zX (fun hb=>h3 ?_) (fun hb=>h1 ?_))<;>(clear h1 h3 K1 K3;(try have hb2:=yC hb);(try have hb2:=yD hb);(try have hb2:=yE hb);(try have hb2:=yF hb);(try have hb2:=yG hb)))|(refine fun (K2:_→AHeap→Prop) hK2=>?_)|((with_reducible refine zY ?_ ?_);decide)|((with_reducible first|refine zZ ?_ (fun K hK=>?_)|refine yA ?_ (fun K hK=>?_));(focus go_simp;done);go_simp;refine hK _ _ ?_;clear hK K)|((with_reducible refine yH mixed rfl ?_ 20 fun K0 hK0=>?_);kernel_rfl)|(with_reducible first|exact yI|exact yJ|refine yK ?_|refine yL ?_|refine yM ?_)|((with_reducible first|refine yN ?_ ?_|refine yO ?_ ?_|refine yP ?_ ?_);rfl)|((with_reducible refine yQ ?_ ?_);rfl;refine hK0 _ _ ?_;clear hK0 K0)|((with_reducible refine yR ?_ ?_ ?_ ?_);rfl;rfl;rfl)|((with_reducible refine yS ?_ ?_ ?_ fun K2 hK2=>?_);rfl;rfl;exact yB rfl)|((with_reducible refine yT ?_ ?_ ?_ ?_ fun K1 K3 d hdst h1 h3=>?_);rfl;rfl;rfl;exact yB rfl;cases hdst;go_simp)|((with_reducible refine yU ?_ ?_ ?_ ?_ fun K1 K3 d hdst h1 h3=>?_);rfl;rfl;rfl;exact yB rfl;cases hdst;go_simp)|((with_reducible refine yV ?_ ?_ (fun K2 hK2=>?_) ?_);rfl;exact yB rfl)|((with_reducible refine yW ?_ ?_ ?_ ?_ (fun K2 hK2=>?_) ?_);rfl;exact yB rfl;rfl;(focus go_simp;done))|((with_reducible refine yX ?_ ?_ ?_ (fun K2 hK2=>?_) ?_);rfl;rfl;exact yB rfl)|((with_reducible refine yY ?_ ?_ (fun K2 hK2=>?_) ?_);rfl;rfl)|((with_reducible refine yZ ?_ ?_);(first|rfl|(dsimp only;decide +kernel)))|((with_reducible refine xA ?_ ?_);(focus go_simp;done))|(go_simp;(try go_bits);(first|(refine hK2 _ _ ?_ ?_<;>clear hK2 K2)|(refine hK2 _ _ ?_;clear hK2 K2))))
        refine CodeS.loop (fun m f H'' => ∃ d : Int, max (max c.beg y1) (y2 + 1) ≤ d ∧ d ≤ 731 ∧ m = (731 - d).toNat ∧ f.tmp 7 = .int .i64 d ∧ f.tmp 6 = .int .i64 k ∧ f.tmp 2 = .pointer (some ⟨H.n, 0, none⟩) ∧ f.tmp 3 = .pointer (some ⟨H.n + 1, 0, none⟩) ∧ f.tmp 5 = .slice (some ⟨b1, o1, sp1⟩) acc.length vc ∧ f.defers = [] ∧ Hid (∀ e, max (max c.beg y1) (y2 + 1) ≤ e → e < d → (hasOn s k e).offers w = false) ∧ H' = H'') (731 - (max (max c.beg y1) (y2 + 1))).toNat ?_ ?_
        · exact ⟨max (max c.beg y1) (y2 + 1), Int.le_refl _, HDR.out, rfl, (by first|go_simp<;>go_num|assumption), (by first|go_simp<;>go_num|assumption), (by first|go_simp<;>go_num|assumption), (by first|go_simp<;>go_num|assumption), (by first|go_simp<;>go_num|assumption), (by first|go_simp<;>go_num|assumption), Lib.hid (fun e h1 h2 => by omega), rfl⟩
        clear f6 f2 f3 f5 hd f
        rintro m f H9 ⟨d, hd1', hd2', rfl, f7, f6, f2, f3, f5, hd, HNO, hH9⟩
        subst hH9
        have hcn2 := fun (loops : List (Nat × LInfo)) => HCAN.out loops d
        have HFI : Hid ((hasOn s k d).offers w = true ∨ c.fin < d → (courseOf s c).nx k (max 0 (lowL p acc k)) = if d ≤ c.fin then d else 731) := Lib.hid (fun h => HNK.out d (by rw [← HD.out]; exact hd1') (fun e h1 h2 => by rw [HWD.out]; exact HNO.out e (by rw [HD.out]; exact h1) h2) (fun h1 => by rw [HWD.out]; rcases h with h | h; exact h; omega))
        have HNO2 : Hid ((hasOn s k d).offers w = false → ∀ e, max (max c.beg y1) (y2 + 1) ≤ e → e < d + 1 → (hasOn s k e).offers w = false) := Lib.hid (fun h e h1 h2 => by
          by_cases h3 : e = d
          · rw [h3]; exact h
          · exact HNO.out e h1 (by omega))
        generalize (hasOn s k d).offers w = bb at hcn2 HFI HNO2
        have HCN := Lib.hid hcn2
        clear hcn2
        repeat' (first|(with_reducible first|refine zA ?_|refine zB fun K hK=>?_|refine zC fun K2 hK2=>?_|refine zD ?_|refine zE ?_|refine zF ?_|refine zG ?_|refine zH ?_|refine zI ?_|refine zM ?_|refine zN ?_|refine zO ?_|refine zP ?_|refine zQ ?_|refine zR ?_)|((with_reducible refine zU (hK _ _ ?_));clear hK K)|((with_reducible refine zV ?_ ?_ fun K1 K3 d hdst h1 h3=>?_);rfl;exact yB rfl;cases hdst;go_simp)|((with_reducible refine zW fun K1 K3 h1 h3=>?_);go_simp)|((first|refine h1 ?_|refine h3 ?_);clear h1 h3 K1 K3)|((first|refine zX (fun hb=>h1 ?_) (fun hb=>h3 ?_)|refine zX (fun hb=>h3 ?_) (fun hb=>h1 ?_))<;>(clear h1 h3 K1 K3;(try have hb2:=yC hb);(try have hb2:=yD hb);(try have hb2:=yE hb);(try have hb2:=yF hb);(try have hb2:=yG hb)))|(refine fun (K2:_→AHeap→Prop) hK2=>?_)|((with_reducible refine zY ?_ ?_);decide)|((with_reducible first|refine zZ ?_ (fun K hK=>?_)|refine yA ?_ (fun K hK=>?_));(focus go_simp;done);go_simp;refine hK _ _ ?_;clear hK K)|((with_reducible refine yH mixed rfl ?_ 20 fun K0 hK0=>?_);kernel_rfl)|(with_reducible first|exact yI|exact yJ|refine yK ?_|refine yL ?_|refine yM ?_)|((with_reducible first|refine yN ?_ ?_|refine yO ?_ ?_|refine yP ?_ ?_);rfl)|((with_reducible refine yQ ?_ ?_);rfl;refine hK0 _ _ ?_;clear hK0 K0)|((with_reducible refine yR ?_ ?_ ?_ ?_);rfl;rfl;rfl)|((with_reducible refine yS ?_ ?_ ?_ fun K2 hK2=>?_);rfl;rfl;exact yB rfl)|((with_reducible refine yT ?_ ?_ ?_ ?_ fun K1 K3 d hdst h1 h3=>?_);rfl;rfl;rfl;exact yB rfl;cases hdst;go_simp)|((with_reducible refine yU ?_ ?_ ?_ ?_ fun K1 K3 d hdst h1 h3=>?_);rfl;rfl;rfl;exact yB rfl;cases hdst;go_simp)|((with_reducible refine yV ?_ ?_ (fun K2 hK2=>?_) ?_);rfl;exact yB rfl)|((with_reducible refine yW ?_ ?_ ?_ ?_ (fun K2 hK2=>?_) ?_);rfl;exact yB rfl;rfl;(focus go_simp;done))|((with_reducible refine yX ?_ ?_ ?_ (fun K2 hK2=>?_) ?_);rfl;rfl;exact yB rfl)|((with_reducible refine yY ?_ ?_ (fun K2 hK2=>?_) ?_);rfl;rfl)|((with_reducible refine yZ ?_ ?_);(first|rfl|(dsimp only;decide +kernel)))|((with_reducible refine xA ?_ ?_);(focus go_simp;done))|(go_simp;(try go_bits);(try first | ((with_reducible show CallS _ _ _ _ _ _);refine CallS.mono (HCN.out _) ?_; rintro _ _ ⟨rfl, h9⟩; rw [h9]; clear h9) | ((refine one_k el22 sz3 ze3 rfl (by decide) (by decide) rfl rfl ?_); go_simp) | ((refine append_k2 el22 sz3 by3 ze3 rfl (by decide) (HO.out.ext (Ext.push _)) (srcCells_new rfl) (by decide) rfl (by rw [List.all_append, oneV_list_int]; rfl) HBIG.out (by simp only [AHeap.n_push]; omega) fun v2 H4 ho4 hg4 => ?_); (have HO4 := Lib.hid ho4); (have HG4 := Lib.hid hg4); clear ho4 hg4; go_simp));(first|(refine hK2 _ _ ?_ ?_<;>clear hK2 K2)|(refine hK2 _ _ ?_;clear hK2 K2))))
        all_goals first
          | (exfalso; omega)
          | (have hbf : bb = false := by simpa using ‹(!bb) = true›
             refine Post.round_normal ⟨(731 - (d + 1)).toNat, by omega, d + 1, by omega, by omega, rfl, (by first|go_simp<;>go_num|assumption), (by first|go_simp<;>go_num|assumption), (by first|go_simp<;>go_num|assumption), (by first|go_simp<;>go_num|assumption), (by first|go_simp<;>go_num|assumption), (by first|go_simp<;>go_num|assumption), Lib.hid (HNO2.out hbf), rfl⟩)
          | (refine ⟨?_, HX.out⟩
             have h9 := HFI.out (.inr (by omega))
             rw [if_neg (by omega)] at h9
             have hr : acc = res := by rw [← HG.out, HST.out, if_pos h9]
             rw [← hr]
             exact HO.out.mono (by omega))
          | (have hbt : bb = true := by simpa using ‹(!bb) = false›
             have h9 := HFI.out (.inl hbt)
             rw [if_pos (by omega)] at h9
             have hx4 : Ext H H4 := HG4.out.ext (HO.out.ext (Ext.push _)) (by omega) (HX.out.push' _)
             have hk4' : ∀ i, i < H.n + 2 → H4.get i = H'.get i := fun i hi => by
               rw [HG4.out.2 i (by simp only [AHeap.n_push]; omega) (fun b n hv hn => by have := (own_block HO.out hv hn).1; omega), AHeap.get_push_old (by omega)]
             refine Post.round_normal ⟨c.words.length - (k + 1), by omega, k + 1, v2, acc ++ [d], by omega, by have := HAK.out; simp; omega, rfl, (by first|go_simp<;>go_num|assumption), (by first|go_simp<;>go_num|assumption), (by first|go_simp<;>go_num|assumption), (by first|go_simp<;>go_num|assumption), (by first|go_simp<;>go_num|assumption), Lib.hid ?_, Lib.hid ?_, ?_, Lib.hid hx4, Lib.hid ?_, Lib.hid ?_, Lib.hid ?_⟩
             · rw [← HG.out, HST.out, h9, if_neg (by omega)]
             · intro y hy
               rcases List.mem_append.1 hy with h | h
               · exact HB.out y h
               · rw [List.mem_singleton.1 h]; omega
             · have := HG4.out.1; simp only [AHeap.n_push] at this; omega
             · rw [hk4' _ (by omega)]; exact HG0.out
             · rw [hk4' _ (by omega)]; exact HG1.out
             · rw [List.map_append]; exact HO4.out.mono (by simp only [AHeap.n_push]; omega))
      · have j2 : ¬ ((p : Int) ≤ (k : Int)) := by omega
        have HD : Hid (max c.beg y1 = max c.beg (lowL p acc k)) := Lib.hid (by
          have : lowL p acc k = y1 := by simp only [lowL, if_neg hpk, if_pos h3i, hg1.out]
          omega)
        have HDR : Hid (max c.beg y1 ≤ 731) := Lib.hid (by omega)
        repeat' (first|(with_reducible first|refine zA ?_|refine zB fun K hK=>?_|refine zC fun K2 hK2=>?_|refine zD ?_|refine zE ?_|refine zF ?_|refine zG ?_|refine zH ?_|refine zI ?_|refine zM ?_|refine zN ?_|refine zO ?_|refine zP ?_|refine zQ ?_|refine zR ?_)|((with_reducible refine zU (hK _ _ ?_));clear hK K)|((with_reducible refine zV ?_ ?_ fun K1 K3 d hdst h1 h3=>?_);rfl;exact yB rfl;cases hdst;go_simp)|((with_reducible refine zW fun K1 K3 h1 h3=>?_);go_simp)|((first|refine h1 ?_|refine h3 ?_);clear h1 h3 K1 K3)|((first|refine zX (fun hb=>h1 ?_) (fun hb=>h3 ?_)|refine zX (fun hb=>h3 ?_) (fun hb=>h1 ?_))<;>(clear h1 h3 K1 K3;(try have hb2:=yC hb);(try have hb2:=yD hb);(try have hb2:=yE hb);(try have hb2:=yF hb);(try have hb2:=yG hb)))|(refine fun (K2:_→AHeap→Prop) hK2=>?_)|((with_reducible refine zY ?_ ?_);decide)|((with_reducible first|refine zZ ?_ (fun K hK=>?_)|refine yA ?_ (fun K hK=>?_));(focus go_simp;done);go_simp;refine hK _ _ ?_;clear hK K)|((with_reducible refine yH mixed rfl ?_ 20 fun K0 hK0=>?_);kernel_rfl)|(with_reducible first|exact yI|exact yJ|refine yK ?_|refine yL ?_|refine yM ?_)|((with_reducible first|refine yN ?_ ?_|refine yO ?_ ?_|refine yP ?_ ?_);rfl)|((with_reducible refine yQ ?_ ?_);rfl;refine hK0 _ _ ?_;clear hK0 K0)|((with_reducible refine yR ?_ ?_ ?_ ?_);rfl;rfl;rfl)|((with_reducible refine yS ?_ ?_ ?_ fun K2 hK2=>?_);rfl;rfl;exact yB rfl)|((with_reducible refine yT ?_ ?_ ?_ ?_ fun K1 K3 d hdst h1 h3=>?_);rfl;rfl;rfl;exact yB rfl;cases hdst;go_simp)|((with_reducible refine yU ?_ ?_ ?_ ?_ fun K1 K3 d hdst h1 h3=>?_);rfl;rfl;rfl;exact yB rfl;cases hdst;go_simp)|((with_reducible refine yV ?_ ?_ (fun K2 hK2=>?_) ?_);rfl;exact yB rfl)|((with_reducible refine yW ?_ ?_ ?_ ?_ (fun K2 hK2=>?_) ?_);rfl;exact yB rfl;rfl;(focus go_simp;done))|((with_reducible refine yX ?_ ?_ ?_ (fun K2 hK2=>?_) ?_);rfl;rfl;exact yB rfl)|((with_reducible refine yY ?_ ?_ (fun K2 hK2=>?_) ?_);rfl;rfl)|((with_reducible refine yZ ?_ ?_);(first|rfl|(dsimp only;decide +kernel)))|((with_reducible refine xA ?_ ?_);(focus go_simp;done))|(go_simp;(try go_bits);(first|(refine hK2 _ _ ?_ ?_<;>clear hK2 K2)|(refine hK2 _ _ ?_;clear hK2 K2))))
        refine CodeS.loop (fun m f H'' => ∃ d : Int, max c.beg y1 ≤ d ∧ d ≤ 731 ∧ m = (731 - d).toNat ∧ f.tmp 7 = .int .i64 d ∧ f.tmp 6 = .int .i64 k ∧ f.tmp 2 = .pointer (some ⟨H.n, 0, none⟩) ∧ f.tmp 3 = .pointer (some ⟨H.n + 1, 0, none⟩) ∧ f.tmp 5 = .slice (some ⟨b1, o1, sp1⟩) acc.length vc ∧ f.defers = [] ∧ Hid (∀ e, max c.beg y1 ≤ e → e < d → (hasOn s k e).offers w = false) ∧ H' = H'') (731 - (max c.beg y1)).toNat ?_ ?_
        · exact ⟨max c.beg y1, Int.le_refl _, HDR.out, rfl, (by first|go_simp<;>go_num|assumption), (by first|go_simp<;>go_num|assumption), (by first|go_simp<;>go_num|assumption), (by first|go_simp<;>go_num|assumption), (by first|go_simp<;>go_num|assumption), (by first|go_simp<;>go_num|assumption), Lib.hid (fun e h1 h2 => by omega), rfl⟩
        clear f6 f2 f3 f5 hd f
        rintro m f H9 ⟨d, hd1', hd2', rfl, f7, f6, f2, f3, f5, hd, HNO, hH9⟩
        subst hH9
        have hcn2 := fun (loops : List (Nat × LInfo)) => HCAN.out loops d
        have HFI : Hid ((hasOn s k d).offers w = true ∨ c.fin < d → (courseOf s c).nx k (max 0 (lowL p acc k)) = if d ≤ c.fin then d else 731) := Lib.hid (fun h => HNK.out d (by rw [← HD.out]; exact hd1') (fun e h1 h2 => by rw [HWD.out]; exact HNO.out e (by rw [HD.out]; exact h1) h2) (fun h1 => by rw [HWD.out]; rcases h with h | h; exact h; omega))
        have HNO2 : Hid ((hasOn s k d).offers w = false → ∀ e, max c.beg y1 ≤ e → e < d + 1 → (hasOn s k e).offers w = false) := Lib.hid (fun h e h1 h2 => by
          by_cases h3 : e = d
          · rw [h3]; exact h
          · exact HNO.out e h1 (by omega))
        generalize (hasOn s k d).offers w = bb at hcn2 HFI HNO2
        have HCN := Lib.hid hcn2
        clear hcn2
        repeat' (first|(with_reducible first|refine zA ?_|refine zB fun K hK=>?_|refine zC fun K2 hK2=>?_|refine zD ?_|refine zE ?_|refine zF ?_|refine zG ?_|refine zH ?_|refine zI ?_|refine zM ?_|refine zN ?_|refine zO ?_|refine zP ?_|refine zQ ?_|refine zR ?_)|((with_reducible refine zU (hK _ _ ?_));clear hK K)|((with_reducible refine zV ?_ ?_ fun K1 K3 d hdst h1 h3=>?_);rfl;exact yB rfl;cases hdst;go_simp)|((with_reducible refine zW fun K1 K3 h1 h3=>?_);go_simp)|((first|refine h1 ?_|refine h3 ?_);clear h1 h3 K1 K3)|((first|refine zX (fun hb=>h1 ?_) (fun hb=>h3 ?_)|refine zX (fun hb=>h3 ?_) (fun hb=>h1 ?_))<;>(clear h1 h3 K1 K3;(try have hb2:=yC hb);(try have hb2:=yD hb);(try have hb2:=yE hb);(try have hb2:=yF hb);(try have hb2:=yG hb)))|(refine fun (K2:_→AHeap→Prop) hK2=>?_)|((with_reducible refine zY ?_ ?_);decide)|((with_reducible first|refine zZ ?_ (fun K hK=>?_)|refine yA ?_ (fun K hK=>?_));(focus go_simp;done);go_simp;refine hK _ _ ?_;clear hK K)|((with_reducible refine yH mixed rfl ?_ 20 fun K0 hK0=>?_);kernel_rfl)|(with_reducible first|exact yI|exact yJ|refine yK ?_|refine yL ?_|refine yM ?_)|((with_reducible first|refine yN ?_ ?_|refine yO ?_ ?_|refine yP ?_ ?_);rfl)|((with_reducible refine yQ ?_ ?_);rfl;refine hK0 _ _ ?_;clear hK0 K0)|((with_reducible refine yR ?_ ?_ ?_ ?_);rfl;rfl;rfl)|((with_reducible refine yS ?_ ?_ ?_ fun K2 hK2=>?_);rfl;rfl;exact yB rfl)|((with_reducible refine yT ?_ ?_ ?_ ?_ fun K1 K3 d hdst h1 h3=>?_);rfl;rfl;rfl;exact yB rfl;cases hdst;go_simp)|((with_reducible refine yU ?_ ?_ ?_ ?_ fun K1 K3 d hdst h1 h3=>?_);rfl;rfl;rfl;exact yB rfl;cases hdst;go_simp)|((with_reducible refine yV ?_ ?_ (fun K2 hK2=>?_) ?_);rfl;exact yB rfl)|((with_reducible refine yW ?_ ?_ ?_ ?_ (fun K2 hK2=>?_) ?_);rfl;exact yB rfl;rfl;(focus go_simp;done))|((with_reducible refine yX ?_ ?_ ?_ (fun K2 hK2=>?_) ?_);rfl;rfl;exact yB rfl)|((with_reducible refine yY ?_ ?_ (fun K2 hK2=>?_) ?_);rfl;rfl)|((with_reducible refine yZ ?_ ?_);(first|rfl|(dsimp only;decide +kernel)))|((with_reducible refine xA ?_ ?_);(focus go_simp;done))|(go_simp;(try go_bits);(try first | ((with_reducible show CallS _ _ _ _ _ _);refine CallS.mono (HCN.out _) ?_; rintro _ _ ⟨rfl, h9⟩; rw [h9]; clear h9) | ((refine one_k el22 sz3 ze3 rfl (by decide) (by decide) rfl rfl ?_); go_simp) | ((refine append_k2 el22 sz3 by3 ze3 rfl (by decide) (HO.out.ext (Ext.push _)) (srcCells_new rfl) (by decide) rfl (by rw [List.all_append, oneV_list_int]; rfl) HBIG.out (by simp only [AHeap.n_push]; omega) fun v2 H4 ho4 hg4 => ?_); (have HO4 := Lib.hid ho4); (have HG4 := Lib.hid hg4); clear ho4 hg4; go_simp));(first|(refine hK2 _ _ ?_ ?_<;>clear hK2 K2)|(refine hK2 _ _ ?_;clear hK2 K2))))
        all_goals first
          | (exfalso; omega)
          | (have hbf : bb = false := by simpa using ‹(!bb) = true›
             refine Post.round_normal ⟨(731 - (d + 1)).toNat, by omega, d + 1, by omega, by omega, rfl, (by first|go_simp<;>go_num|assumption), (by first|go_simp<;>go_num|assumption), (by first|go_simp<;>go_num|assumption), (by first|go_simp<;>go_num|assumption), (by first|go_simp<;>go_num|assumption), (by first|go_simp<;>go_num|assumption), Lib.hid (HNO2.out hbf), rfl⟩)
          | (refine ⟨?_, HX.out⟩
             have h9 := HFI.out (.inr (by omega))
             rw [if_neg (by omega)] at h9
             have hr : acc = res := by rw [← HG.out, HST.out, if_pos h9]
             rw [← hr]
             exact HO.out.mono (by omega))
          | (have hbt : bb = true := by simpa using ‹(!bb) = false›
             have h9 := HFI.out (.inl hbt)
             rw [if_pos (by omega)] at h9
             have hx4 : Ext H H4 := HG4.out.ext (HO.out.ext (Ext.push _)) (by omega) (HX.out.push' _)
             have hk4' : ∀ i, i < H.n + 2 → H4.get i = H'.get i := fun i hi => by
               rw [HG4.out.2 i (by simp only [AHeap.n_push]; omega) (fun b n hv hn => by have := (own_block HO.out hv hn).1; omega), AHeap.get_push_old (by omega)]
             refine Post.round_normal ⟨c.words.length - (k + 1), by omega, k + 1, v2, acc ++ [d], by omega, by have := HAK.out; simp; omega, rfl, (by first|go_simp<;>go_num|assumption), (by first|go_simp<;>go_num|assumption), (by first|go_simp<;>go_num|assumption), (by first|go_simp<;>go_num|assumption), (by first|go_simp<;>go_num|assumption), Lib.hid ?_, Lib.hid ?_, ?_, Lib.hid hx4, Lib.hid ?_, Lib.hid ?_, Lib.hid ?_⟩
             · rw [← HG.out, HST.out, h9, if_neg (by omega)]
             · intro y hy
               rcases List.mem_append.1 hy with h | h
               · exact HB.out y h
               · rw [List.mem_singleton.1 h]; omega
             · have := HG4.out.1; simp only [AHeap.n_push] at this; omega
             · rw [hk4' _ (by omega)]; exact HG0.out
             · rw [hk4' _ (by omega)]; exact HG1.out
             · rw [List.map_append]; exact HO4.out.mono (by simp only [AHeap.n_push]; omega))
  · repeat' (first|(with_reducible first|refine zA ?_|refine zB fun K hK=>?_|refine zC fun K2 hK2=>?_|refine zD ?_|refine zE ?_|refine zF ?_|refine zG ?_|refine zH ?_|refine zI ?_|refine zM ?_|refine zN ?_|refine zO ?_|refine zP ?_|refine zQ ?_|refine zR ?_)|((with_reducible refine zU (hK _ _ ?_));clear hK K)|((with_reducible refine zV ?_ ?_ fun K1 K3 d hdst h1 h3=>?_);rfl;exact yB rfl;cases hdst;go_simp)|((with_reducible refine zW fun K1 K3 h1 h3=>?_);go_simp)|((first|refine h1 ?_|refine h3 ?_);clear h1 h3 K1 K3)|((first|refine zX (fun hb=>h1 ?_) (fun hb=>h3 ?_)|refine zX (fun hb=>h3 ?_) (fun hb=>h1 ?_))<;>(clear h1 h3 K1 K3;(try have hb2:=yC hb);(try have hb2:=yD hb);(try have hb2:=yE hb);(try have hb2:=yF hb);(try have hb2:=yG hb)))|(refine fun (K2:_→AHeap→Prop) hK2=>?_)|((with_reducible refine zY ?_ ?_);decide)|((with_reducible first|refine zZ ?_ (fun K hK=>?_)|refine yA ?_ (fun K hK=>?_));(focus go_simp;done);go_simp;refine hK _ _ ?_;clear hK K)|((with_reducible refine yH mixed rfl ?_ 20 fun K0 hK0=>?_);kernel_rfl)|(with_reducible first|exact yI|exact yJ|refine yK ?_|refine yL ?_|refine yM ?_)|((with_reducible first|refine yN ?_ ?_|refine yO ?_ ?_|refine yP ?_ ?_);rfl)|((with_reducible refine yQ ?_ ?_);rfl;refine hK0 _ _ ?_;clear hK0 K0)|((with_reducible refine yR ?_ ?_ ?_ ?_);rfl;rfl;rfl)|((with_reducible refine yS ?_ ?_ ?_ fun K2 hK2=>?_);rfl;rfl;exact yB rfl)|((with_reducible refine yT ?_ ?_ ?_ ?_ fun K1 K3 d hdst h1 h3=>?_);rfl;rfl;rfl;exact yB rfl;cases hdst;go_simp)|((with_reducible refine yU ?_ ?_ ?_ ?_ fun K1 K3 d hdst h1 h3=>?_);rfl;rfl;rfl;exact yB rfl;cases hdst;go_simp)|((with_reducible refine yV ?_ ?_ (fun K2 hK2=>?_) ?_);rfl;exact yB rfl)|((with_reducible refine yW ?_ ?_ ?_ ?_ (fun K2 hK2=>?_) ?_);rfl;exact yB rfl;rfl;(focus go_simp;done))|((with_reducible refine yX ?_ ?_ ?_ (fun K2 hK2=>?_) ?_);rfl;rfl;exact yB rfl)|((with_reducible refine yY ?_ ?_ (fun K2 hK2=>?_) ?_);rfl;rfl)|((with_reducible refine yZ ?_ ?_);(first|rfl|(dsimp only;decide +kernel)))|((with_reducible refine xA ?_ ?_);(focus go_simp;done))|(go_simp;(try go_bits);(first|(refine hK2 _ _ ?_ ?_<;>clear hK2 K2)|(refine hK2 _ _ ?_;clear hK2 K2))))
    refine ⟨?_, HX.out⟩
    have hr : acc = res := by rw [← HG.out, show c.words.length - k = 0 by omega]; rfl
    rw [← hr]
    exact HO.out.mono (by omega)
end Go.Proofs.Tryz
