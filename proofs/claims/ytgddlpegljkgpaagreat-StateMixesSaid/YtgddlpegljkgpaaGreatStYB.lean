/- Contracts of functions, walked. -/
import Derived.Test.YtgddlpegljkgpaaGreatStZA
set_option linter.all false
namespace Go.Proofs.Tryz
open Go Go.Am Go.RowKit Go.Co
set_option maxRecDepth 100000

set_option maxHeartbeats 8000000 in
theorem refChkMix_s {loops : List (Nat × LInfo)} {H : AHeap} {v cv fv dv : Value} {l : List Sheet} {c : Copy} {fr dy : List Int} (hv : SheetsV H v l) (hc : CopyV H cv c) (hf : Ints H fv fr) (hdv : Ints H dv dy) : CallS Tryz.prog loops 30 [v, cv, fv, dv] H fun r H' => r = .tuple #[.int .i64 (chkMix l c fr dy).1, .int .i64 (chkMix l c fr dy).2] ∧ H' = H := by
  refine CallS.forget (R := fun r => r = .tuple #[.int .i64 (chkMix l c fr dy).1, .int .i64 (chkMix l c fr dy).2]) (by rintro v rfl; rfl) ?_
  obtain ⟨hlen, a, ac, rfl⟩ := hv.slice
  have HV := Lib.hid hv
  have HC := Lib.hid hc
  have HF := Lib.hid hf
  have HD := Lib.hid hdv
  obtain ⟨cv, rfl, hcw⟩ := hc
  obtain ⟨hcl, ca, cc, rfl⟩ := hcw.slice
  obtain ⟨hfl, fa, fc, rfl⟩ := hf.slice
  obtain ⟨hdl, da, dc, rfl⟩ := hdv.slice
  have HCW := Lib.hid hcw
  clear hv hcw hf hdv
  have HCK := Lib.hid (fun (loops : List (Nat × LInfo)) (G : AHeap) (hx : Ext H G) => refMix_s (loops := loops) (HV.out.ext hx) (HC.out.ext hx))
  have HR : Hid (chkMix l c fr dy = if errMix l c ≠ 0 then (0, errMix l c) else if ¬ (fr.length = c.words.length ∧ dy.length = c.words.length) then (0, 1) else if frOk l.length fr then chkGo (mixOp l c) fr dy fr.length 0 0 else (0, 1)) := Lib.hid rfl
  generalize chkMix l c fr dy = res at HR
  refine CallS.enter' Tryz.func30 rfl Tryz.ntmps30 (by simp) fun f hd hf => ?_
  have f0 := hf 0
  have f1 := hf 1
  have f2 := hf 2
  have f3 := hf 3
  simp at f0 f1 f2 f3
  clear hf
  have HX1 : Hid (Ext H (H.push (.row [Value.slice ca c.words.length cc, .int .i64 c.beg, .int .i64 c.fin, .int .i64 c.per] 27))) := Lib.hid (Ext.push _)
  by_cases he : errMix l c = 0
  · have HE := Lib.hid he
    have heb : (errMix l c != 0) = false := by simpa using he
    rw [he] at HCK
    obtain ⟨hn1, hn40⟩ := mix_words he
    obtain ⟨hl1, hl8, hall⟩ := errMix_ok he
    by_cases hlf : fr.length = c.words.length
    · by_cases hld : dy.length = c.words.length
      · have HR2 : Hid (res = if frOk l.length fr then chkGo (mixOp l c) fr dy fr.length 0 0 else (0, 1)) := Lib.hid (by rw [HR.out, if_neg (by simp [he]), if_neg (by simp [hlf, hld])])
        have hb1 : ((fr.length : Int) != (c.words.length : Int)) = false := by simp [hlf]
        have hb2 : ((dy.length : Int) != (c.words.length : Int)) = false := by simp [hld]
        have HLF := Lib.hid hlf
        have HLD := Lib.hid hld
        have hL8 := Lib.hid hl8
        have hL1 := Lib.hid hl1
        have hN40 := Lib.hid hn40
        have HALL := Lib.hid hall
        clear hlf hld he heb HR hn1 hn40 hl1 hl8 hall
        repeat' (first|(with_reducible first|refine zA ?_|refine zB fun K hK=>?_|refine zC fun K2 hK2=>?_|refine zD ?_|refine zE ?_|refine zF ?_|refine zG ?_|refine zH ?_|refine zI ?_|refine zM ?_|refine zN ?_|refine zO ?_|refine zP ?_|refine zQ ?_|refine zR ?_)|((with_reducible refine zU (hK _ _ ?_));clear hK K)|((with_reducible refine zV ?_ ?_ fun K1 K3 d hdst h1 h3=>?_);rfl;exact yB rfl;cases hdst;go_simp)|((with_reducible refine zW fun K1 K3 h1 h3=>?_);go_simp)|((first|refine h1 ?_|refine h3 ?_);clear h1 h3 K1 K3)|((first|refine zX (fun hb=>h1 ?_) (fun hb=>h3 ?_)|refine zX (fun hb=>h3 ?_) (fun hb=>h1 ?_))<;>(clear h1 h3 K1 K3;(try have hb2:=yC hb);(try have hb2:=yD hb);(try have hb2:=yE hb);(try have hb2:=yF hb);(try have hb2:=yG hb)))|(refine fun (K2:_→AHeap→Prop) hK2=>?_)|((with_reducible refine zY ?_ ?_);decide)|((with_reducible first|refine zZ ?_ (fun K hK=>?_)|refine yA ?_ (fun K hK=>?_));(focus go_simp;done);go_simp;refine hK _ _ ?_;clear hK K)|(go_simp;(try go_bits);(try first | ((with_reducible show CallS _ _ _ _ _ _);refine CallS.mono (HCK.out _ _ HX1.out) ?_; rintro _ _ ⟨rfl, h9⟩; rw [h9]; clear h9; go_simp));refine hK2 _ _ ?_;clear hK2 K2))
        refine CodeS.loop (fun m f H' => ∃ (k : Nat) (e : Int), k ≤ fr.length ∧ m = fr.length - k ∧ f.tmp 11 = .int .i64 k ∧ f.tmp 10 = .int .i64 e ∧ f.tmp 0 = .slice a l.length ac ∧ f.tmp 2 = .slice fa fr.length fc ∧ f.tmp 3 = .slice da dy.length dc ∧ f.tmp 5 = .pointer (some ⟨H.n, 0, none⟩) ∧ f.defers = [] ∧ Hid ((e = 0 ∧ ∀ j, j < k → win 0 ((l.length : Int) - 1) (fr.getD j 0) = true) ∨ (e = 1 ∧ ¬ frOk l.length fr)) ∧ H' = H.push (.row [Value.slice ca c.words.length cc, .int .i64 c.beg, .int .i64 c.fin, .int .i64 c.per] 27)) fr.length ?_ ?_
        · exact ⟨0, 0, by omega, by omega, (by first|go_simp<;>go_num|assumption), (by first|go_simp<;>go_num|assumption), (by first|go_simp<;>go_num|assumption), (by first|go_simp<;>go_num|assumption), (by first|go_simp<;>go_num|assumption), (by first|go_simp<;>go_num|assumption), (by first|go_simp<;>go_num|assumption), Lib.hid (.inl ⟨rfl, fun j hj => by omega⟩), rfl⟩
        clear f0 f1 f2 f3 hd f hb1 hb2
        rintro m f _ ⟨k, e, hk, rfl, f11, f10, f0, f2, f3, f5, hd, HW, rfl⟩
        rcases HW.out with ⟨he0, hwk⟩ | ⟨he1, hno⟩
        · subst he0
          have HWK := Lib.hid hwk
          clear hwk HW
          by_cases hlt : k < fr.length
          · obtain ⟨b, o, sp, rfl, hb, hx⟩ := HF.out.at_ hlt
            have hg : fr.getD k 0 = fr[k] := by simp [List.getD_eq_getElem?_getD, hlt]
            have HG : Hid (fr.getD k 0 = fr[k]) := Lib.hid hg
            generalize fr[k] = d at hx HG
            generalize hww : win 0 ((l.length : Int) - 1) d = ww
            have HWW := Lib.hid hww
            have hki : (k : Int) < (fr.length : Int) := by omega
            have hwr : IntKind.i64.wrap ((l.length : Int) - 1) = (l.length : Int) - 1 := by rw [IntKind.wrap_i64]; omega
            have HK := Lib.hid hlt
            clear hg hww
            cases ww
            · repeat' (first|(with_reducible first|refine zA ?_|refine zB fun K hK=>?_|refine zC fun K2 hK2=>?_|refine zD ?_|refine zE ?_|refine zF ?_|refine zG ?_|refine zH ?_|refine zI ?_|refine zM ?_|refine zN ?_|refine zO ?_|refine zP ?_|refine zQ ?_|refine zR ?_)|((with_reducible refine zU (hK _ _ ?_));clear hK K)|((with_reducible refine zV ?_ ?_ fun K1 K3 d hdst h1 h3=>?_);rfl;exact yB rfl;cases hdst;go_simp)|((with_reducible refine zW fun K1 K3 h1 h3=>?_);go_simp)|((first|refine h1 ?_|refine h3 ?_);clear h1 h3 K1 K3)|((first|refine zX (fun hb=>h1 ?_) (fun hb=>h3 ?_)|refine zX (fun hb=>h3 ?_) (fun hb=>h1 ?_))<;>(clear h1 h3 K1 K3;(try have hb2:=yC hb);(try have hb2:=yD hb);(try have hb2:=yE hb);(try have hb2:=yF hb);(try have hb2:=yG hb)))|(refine fun (K2:_→AHeap→Prop) hK2=>?_)|((with_reducible refine zY ?_ ?_);decide)|((with_reducible first|refine zZ ?_ (fun K hK=>?_)|refine yA ?_ (fun K hK=>?_));(focus go_simp;done);go_simp;refine hK _ _ ?_;clear hK K)|(go_simp;(try go_bits);(try first | ((with_reducible show CallS _ _ _ _ _ _);refine CallS.mono (in_s (n := d) (lo := 0) (hi := (l.length : Int) - 1)) ?_; rintro _ _ ⟨rfl, h9⟩; rw [h9, HWW.out]; clear h9; go_simp));refine hK2 _ _ ?_;clear hK2 K2))
              exact Post.round_normal ⟨fr.length - (k + 1), by omega, k + 1, 1, by omega, rfl, (by first|go_simp<;>go_num|assumption), (by first|go_simp<;>go_num|assumption), (by first|go_simp<;>go_num|assumption), (by first|go_simp<;>go_num|assumption), (by first|go_simp<;>go_num|assumption), (by first|go_simp<;>go_num|assumption), (by first|go_simp<;>go_num|assumption), Lib.hid (.inr ⟨rfl, fun h => by have := h k HK.out; rw [HG.out, HWW.out] at this; cases this⟩), rfl⟩
            · repeat' (first|(with_reducible first|refine zA ?_|refine zB fun K hK=>?_|refine zC fun K2 hK2=>?_|refine zD ?_|refine zE ?_|refine zF ?_|refine zG ?_|refine zH ?_|refine zI ?_|refine zM ?_|refine zN ?_|refine zO ?_|refine zP ?_|refine zQ ?_|refine zR ?_)|((with_reducible refine zU (hK _ _ ?_));clear hK K)|((with_reducible refine zV ?_ ?_ fun K1 K3 d hdst h1 h3=>?_);rfl;exact yB rfl;cases hdst;go_simp)|((with_reducible refine zW fun K1 K3 h1 h3=>?_);go_simp)|((first|refine h1 ?_|refine h3 ?_);clear h1 h3 K1 K3)|((first|refine zX (fun hb=>h1 ?_) (fun hb=>h3 ?_)|refine zX (fun hb=>h3 ?_) (fun hb=>h1 ?_))<;>(clear h1 h3 K1 K3;(try have hb2:=yC hb);(try have hb2:=yD hb);(try have hb2:=yE hb);(try have hb2:=yF hb);(try have hb2:=yG hb)))|(refine fun (K2:_→AHeap→Prop) hK2=>?_)|((with_reducible refine zY ?_ ?_);decide)|((with_reducible first|refine zZ ?_ (fun K hK=>?_)|refine yA ?_ (fun K hK=>?_));(focus go_simp;done);go_simp;refine hK _ _ ?_;clear hK K)|(go_simp;(try go_bits);(try first | ((with_reducible show CallS _ _ _ _ _ _);refine CallS.mono (in_s (n := d) (lo := 0) (hi := (l.length : Int) - 1)) ?_; rintro _ _ ⟨rfl, h9⟩; rw [h9, HWW.out]; clear h9; go_simp));refine hK2 _ _ ?_;clear hK2 K2))
              exact Post.round_normal ⟨fr.length - (k + 1), by omega, k + 1, 0, by omega, rfl, (by first|go_simp<;>go_num|assumption), (by first|go_simp<;>go_num|assumption), (by first|go_simp<;>go_num|assumption), (by first|go_simp<;>go_num|assumption), (by first|go_simp<;>go_num|assumption), (by first|go_simp<;>go_num|assumption), (by first|go_simp<;>go_num|assumption), Lib.hid (.inl ⟨rfl, fun j hj => by
                rcases Nat.lt_or_ge j k with h | h
                · exact HWK.out j h
                · rw [show j = k by omega, HG.out]; exact HWW.out⟩), rfl⟩
          · have hke : k = fr.length := by omega
            subst hke
            have HR3 : Hid (res = chkGo (mixOp l c) fr dy fr.length 0 0) := Lib.hid (by rw [HR2.out, if_pos (show frOk l.length fr from HWK.out)])
            repeat' (first|(with_reducible first|refine zA ?_|refine zB fun K hK=>?_|refine zC fun K2 hK2=>?_|refine zD ?_|refine zE ?_|refine zF ?_|refine zG ?_|refine zH ?_|refine zI ?_|refine zM ?_|refine zN ?_|refine zO ?_|refine zP ?_|refine zQ ?_|refine zR ?_)|((with_reducible refine zU (hK _ _ ?_));clear hK K)|((with_reducible refine zV ?_ ?_ fun K1 K3 d hdst h1 h3=>?_);rfl;exact yB rfl;cases hdst;go_simp)|((with_reducible refine zW fun K1 K3 h1 h3=>?_);go_simp)|((first|refine h1 ?_|refine h3 ?_);clear h1 h3 K1 K3)|((first|refine zX (fun hb=>h1 ?_) (fun hb=>h3 ?_)|refine zX (fun hb=>h3 ?_) (fun hb=>h1 ?_))<;>(clear h1 h3 K1 K3;(try have hb2:=yC hb);(try have hb2:=yD hb);(try have hb2:=yE hb);(try have hb2:=yF hb);(try have hb2:=yG hb)))|(refine fun (K2:_→AHeap→Prop) hK2=>?_)|((with_reducible refine zY ?_ ?_);decide)|((with_reducible first|refine zZ ?_ (fun K hK=>?_)|refine yA ?_ (fun K hK=>?_));(focus go_simp;done);go_simp;refine hK _ _ ?_;clear hK K)|(go_simp;(try go_bits);refine hK2 _ _ ?_;clear hK2 K2))
            refine CodeS.loop (fun m f H' => ∃ (k : Nat) (n : Int), k ≤ fr.length ∧ m = fr.length - k ∧ 0 ≤ n ∧ n ≤ k ∧ f.tmp 13 = .int .i64 k ∧ f.tmp 12 = .int .i64 n ∧ f.tmp 0 = .slice a l.length ac ∧ f.tmp 2 = .slice fa fr.length fc ∧ f.tmp 3 = .slice da dy.length dc ∧ f.tmp 5 = .pointer (some ⟨H.n, 0, none⟩) ∧ f.defers = [] ∧ Hid (res = chkGo (mixOp l c) fr dy (fr.length - k) k n) ∧ H' = H.push (.row [Value.slice ca c.words.length cc, .int .i64 c.beg, .int .i64 c.fin, .int .i64 c.per] 27)) fr.length ?_ ?_
            · exact ⟨0, 0, by omega, by omega, by omega, by omega, (by first|go_simp<;>go_num|assumption), (by first|go_simp<;>go_num|assumption), (by first|go_simp<;>go_num|assumption), (by first|go_simp<;>go_num|assumption), (by first|go_simp<;>go_num|assumption), (by first|go_simp<;>go_num|assumption), (by first|go_simp<;>go_num|assumption), HR3, rfl⟩
            clear f11 f10 f0 f2 f3 f5 hd f hlt hk
            rintro m f _ ⟨k, n, hk, rfl, hn0, hnk, f13, f12, f0, f2, f3, f5, hd, HK, rfl⟩
            by_cases hlt : k < fr.length
            · obtain ⟨b, o, sp, rfl, hb, hx⟩ := HF.out.at_ hlt
              have hld : k < dy.length := by have := HLF.out; have := HLD.out; omega
              have hcw : k < c.words.length := by have := HLF.out; omega
              obtain ⟨b2, o2, sp2, rfl, hb2, hx2⟩ := HD.out.at_ hld
              obtain ⟨b3, o3, sp3, rfl, hb3, hx3⟩ := HCW.out.at_ hcw
              have hg1 : fr.getD k 0 = fr[k] := by simp [List.getD_eq_getElem?_getD, hlt]
              have hg2 : dy.getD k 0 = dy[k] := by simp [List.getD_eq_getElem?_getD, hld]
              have hg3 : c.words.getD k 0 = c.words[k] := by simp [List.getD_eq_getElem?_getD, hcw]
              have hw := HWK.out k hlt
              have HSTEP := chkGo_step (op := mixOp l c) (fr := fr) (dy := dy) (L := fr.length) (n := n) hlt
              rw [hg1, hg2] at HSTEP
              rw [hg1] at hw
              generalize fr[k] = d1 at hx hw HSTEP
              generalize dy[k] = d2 at hx2 HSTEP
              obtain ⟨hw1, hw2⟩ := win_iff.1 hw
              obtain ⟨s, rfl⟩ : ∃ s : Nat, d1 = s := ⟨d1.toNat, by omega⟩
              have hsl : s < l.length := by omega
              obtain ⟨b4, o4, sp4, wv, av, rfl, hb4, hx4, hsv⟩ := HV.out.at_ hsl
              have hec := HALL.out l[s] (List.getElem_mem hsl)
              have hop : mixOp l c s k d2 = (win c.beg c.fin d2 && (hasOn l[s] k d2).offers (c.words.getD k 0)) := by
                simp only [mixOp, List.getElem?_eq_getElem hsl]
                exact courseOf_ins hec hcw d2
              rw [hg3] at hop
              rw [Int.toNat_natCast, hop] at HSTEP
              generalize c.words[k] = w at hx3 HSTEP
              obtain ⟨he0, hlw, -⟩ := errCopy_ok hec
              have HCAN := Lib.hid (fun (loops : List (Nat × LInfo)) => can_s (loops := loops) (line := (k : Int)) (d := d2) (w := w) (hsv.ext HX1.out) (by omega) (by omega))
              generalize (hasOn l[s] k d2).offers w = of at HCAN HSTEP
              generalize hwn : win c.beg c.fin d2 = wn at HSTEP
              have HWN := Lib.hid hwn
              generalize l[s] = sh at hsv
              obtain ⟨wv', av', hva, hww, haw⟩ := hsv
              cases hva
              obtain ⟨-, wa, wc, rfl⟩ := hww.slice
              obtain ⟨-, aa, aac, rfl⟩ := haw.slice
              have hki : (k : Int) < (fr.length : Int) := by omega
              have hkd : (k : Int) < (dy.length : Int) := by omega
              have hkw : (k : Int) < (c.words.length : Int) := by omega
              have hsi : (s : Int) < (l.length : Int) := by omega
              have HST := Lib.hid HSTEP
              have hk40 : k ≤ 40 := by have := HLF.out; have := hN40.out; omega
              have hbn : b < H.n + 1 := by omega
              have hbn2 : b2 < H.n + 1 := by omega
              have hbn3 : b3 < H.n + 1 := by omega
              have hbn4 : b4 < H.n + 1 := by omega
              clear hop hw hw1 hw2 hg1 hg2 hg3 HSTEP hec he0 hlw hww haw hwn
              repeat' (first|((with_reducible refine stop_sq (n := 15) ?_))|(with_reducible first|refine zA ?_|refine zB fun K hK=>?_|refine zC fun K2 hK2=>?_|refine zD ?_|refine zE ?_|refine zF ?_|refine zG ?_|refine zH ?_|refine zI ?_|refine zM ?_|refine zN ?_|refine zO ?_|refine zP ?_|refine zQ ?_|refine zR ?_)|((with_reducible refine zU (hK _ _ ?_));clear hK K)|((with_reducible refine zV ?_ ?_ fun K1 K3 d hdst h1 h3=>?_);rfl;exact yB rfl;cases hdst;go_simp)|((with_reducible refine zW fun K1 K3 h1 h3=>?_);go_simp)|((first|refine h1 ?_|refine h3 ?_);clear h1 h3 K1 K3)|((first|refine zX (fun hb=>h1 ?_) (fun hb=>h3 ?_)|refine zX (fun hb=>h3 ?_) (fun hb=>h1 ?_))<;>(clear h1 h3 K1 K3;(try have hb2:=yC hb);(try have hb2:=yD hb);(try have hb2:=yE hb);(try have hb2:=yF hb);(try have hb2:=yG hb)))|(refine fun (K2:_→AHeap→Prop) hK2=>?_)|((with_reducible refine zY ?_ ?_);decide)|((with_reducible first|refine zZ ?_ (fun K hK=>?_)|refine yA ?_ (fun K hK=>?_));(focus go_simp;done);go_simp;refine hK _ _ ?_;clear hK K)|(go_simp;(try go_bits);refine hK2 _ _ ?_;clear hK2 K2))
              refine ⟨CodeS.cut (fun f H' => f.tmp 14 = .bool (wn && of) ∧ f.tmp 13 = .int .i64 k ∧ f.tmp 12 = .int .i64 n ∧ f.tmp 0 = .slice (some ⟨b4, o4, sp4⟩) l.length ac ∧ f.tmp 2 = .slice (some ⟨b, o, sp⟩) fr.length fc ∧ f.tmp 3 = .slice (some ⟨b2, o2, sp2⟩) dy.length dc ∧ f.tmp 5 = .pointer (some ⟨H.n, 0, none⟩) ∧ f.defers = [] ∧ H' = H.push (.row [Value.slice (some ⟨b3, o3, sp3⟩) c.words.length cc, .int .i64 c.beg, .int .i64 c.fin, .int .i64 c.per] 27)) ?_ ?_⟩
              · cases wn
                all_goals repeat' (first|(with_reducible first|refine zA ?_|refine zB fun K hK=>?_|refine zC fun K2 hK2=>?_|refine zD ?_|refine zE ?_|refine zF ?_|refine zG ?_|refine zH ?_|refine zI ?_|refine zM ?_|refine zN ?_|refine zO ?_|refine zP ?_|refine zQ ?_|refine zR ?_)|((with_reducible refine zU (hK _ _ ?_));clear hK K)|((with_reducible refine zV ?_ ?_ fun K1 K3 d hdst h1 h3=>?_);rfl;exact yB rfl;cases hdst;go_simp)|((with_reducible refine zW fun K1 K3 h1 h3=>?_);go_simp)|((first|refine h1 ?_|refine h3 ?_);clear h1 h3 K1 K3)|((first|refine zX (fun hb=>h1 ?_) (fun hb=>h3 ?_)|refine zX (fun hb=>h3 ?_) (fun hb=>h1 ?_))<;>(clear h1 h3 K1 K3;(try have hb2:=yC hb);(try have hb2:=yD hb);(try have hb2:=yE hb);(try have hb2:=yF hb);(try have hb2:=yG hb)))|(refine fun (K2:_→AHeap→Prop) hK2=>?_)|((with_reducible refine zY ?_ ?_);decide)|((with_reducible first|refine zZ ?_ (fun K hK=>?_)|refine yA ?_ (fun K hK=>?_));(focus go_simp;done);go_simp;refine hK _ _ ?_;clear hK K)|((with_reducible refine yH mixed rfl ?_ 20 fun K0 hK0=>?_);kernel_rfl)|(with_reducible first|exact yI|exact yJ|refine yK ?_|refine yL ?_|refine yM ?_)|((with_reducible first|refine yN ?_ ?_|refine yO ?_ ?_|refine yP ?_ ?_);rfl)|((with_reducible refine yQ ?_ ?_);rfl;refine hK0 _ _ ?_;clear hK0 K0)|((with_reducible refine yR ?_ ?_ ?_ ?_);rfl;rfl;rfl)|((with_reducible refine yS ?_ ?_ ?_ fun K2 hK2=>?_);rfl;rfl;exact yB rfl)|((with_reducible refine yT ?_ ?_ ?_ ?_ fun K1 K3 d hdst h1 h3=>?_);rfl;rfl;rfl;exact yB rfl;cases hdst;go_simp)|((with_reducible refine yU ?_ ?_ ?_ ?_ fun K1 K3 d hdst h1 h3=>?_);rfl;rfl;rfl;exact yB rfl;cases hdst;go_simp)|((with_reducible refine yV ?_ ?_ (fun K2 hK2=>?_) ?_);rfl;exact yB rfl)|((with_reducible refine yW ?_ ?_ ?_ ?_ (fun K2 hK2=>?_) ?_);rfl;exact yB rfl;rfl;(focus go_simp;done))|((with_reducible refine yX ?_ ?_ ?_ (fun K2 hK2=>?_) ?_);rfl;rfl;exact yB rfl)|((with_reducible refine yY ?_ ?_ (fun K2 hK2=>?_) ?_);rfl;rfl)|((with_reducible refine yZ ?_ ?_);(first|rfl|(dsimp only;decide +kernel)))|((with_reducible refine xA ?_ ?_);(focus go_simp;done))|(go_simp;(try go_bits);(try first |((with_reducible show CallS _ _ _ _ _ _);first|(refine CallS.mono (in_s (n := d2) (lo := c.beg) (hi := c.fin)) ?_; rintro _ _ ⟨rfl, h9⟩; rw [h9, HWN.out]; clear h9; go_simp)|(refine CallS.mono (HCAN.out _) ?_; rintro _ _ ⟨rfl, h9⟩; rw [h9]; clear h9; go_simp)));(first|(refine hK2 _ _ ?_ ?_<;>clear hK2 K2)|(refine hK2 _ _ ?_;clear hK2 K2))))
                all_goals exact ⟨(by first|go_simp<;>go_num|assumption), (by first|go_simp<;>go_num|assumption), (by first|go_simp<;>go_num|assumption), (by first|go_simp<;>go_num|assumption), (by first|go_simp<;>go_num|assumption), (by first|go_simp<;>go_num|assumption), (by first|go_simp<;>go_num|assumption), (by first|go_simp<;>go_num|assumption), rfl⟩
              clear f13 f12 f0 f2 f3 f5 hd f HCAN HWN hx3
              rintro f _ ⟨f14, f13, f12, f0, f2, f3, f5, hd, rfl⟩
              generalize (wn && of) = oo at f14 HST
              cases oo
              · have hr : res = (0, 8) := by rw [HK.out, HST.out]; rfl
                repeat' (first|(with_reducible first|refine zA ?_|refine zB fun K hK=>?_|refine zC fun K2 hK2=>?_|refine zD ?_|refine zE ?_|refine zF ?_|refine zG ?_|refine zH ?_|refine zI ?_|refine zM ?_|refine zN ?_|refine zO ?_|refine zP ?_|refine zQ ?_|refine zR ?_)|((with_reducible refine zU (hK _ _ ?_));clear hK K)|((with_reducible refine zV ?_ ?_ fun K1 K3 d hdst h1 h3=>?_);rfl;exact yB rfl;cases hdst;go_simp)|((with_reducible refine zW fun K1 K3 h1 h3=>?_);go_simp)|((first|refine h1 ?_|refine h3 ?_);clear h1 h3 K1 K3)|((first|refine zX (fun hb=>h1 ?_) (fun hb=>h3 ?_)|refine zX (fun hb=>h3 ?_) (fun hb=>h1 ?_))<;>(clear h1 h3 K1 K3;(try have hb2:=yC hb);(try have hb2:=yD hb);(try have hb2:=yE hb);(try have hb2:=yF hb);(try have hb2:=yG hb)))|(refine fun (K2:_→AHeap→Prop) hK2=>?_)|((with_reducible refine zY ?_ ?_);decide)|((with_reducible first|refine zZ ?_ (fun K hK=>?_)|refine yA ?_ (fun K hK=>?_));(focus go_simp;done);go_simp;refine hK _ _ ?_;clear hK K)|((with_reducible refine yH mixed rfl ?_ 20 fun K0 hK0=>?_);kernel_rfl)|(with_reducible first|exact yI|exact yJ|refine yK ?_|refine yL ?_|refine yM ?_)|((with_reducible first|refine yN ?_ ?_|refine yO ?_ ?_|refine yP ?_ ?_);rfl)|((with_reducible refine yQ ?_ ?_);rfl;refine hK0 _ _ ?_;clear hK0 K0)|((with_reducible refine yR ?_ ?_ ?_ ?_);rfl;rfl;rfl)|((with_reducible refine yS ?_ ?_ ?_ fun K2 hK2=>?_);rfl;rfl;exact yB rfl)|((with_reducible refine yT ?_ ?_ ?_ ?_ fun K1 K3 d hdst h1 h3=>?_);rfl;rfl;rfl;exact yB rfl;cases hdst;go_simp)|((with_reducible refine yU ?_ ?_ ?_ ?_ fun K1 K3 d hdst h1 h3=>?_);rfl;rfl;rfl;exact yB rfl;cases hdst;go_simp)|((with_reducible refine yV ?_ ?_ (fun K2 hK2=>?_) ?_);rfl;exact yB rfl)|((with_reducible refine yW ?_ ?_ ?_ ?_ (fun K2 hK2=>?_) ?_);rfl;exact yB rfl;rfl;(focus go_simp;done))|((with_reducible refine yX ?_ ?_ ?_ (fun K2 hK2=>?_) ?_);rfl;rfl;exact yB rfl)|((with_reducible refine yY ?_ ?_ (fun K2 hK2=>?_) ?_);rfl;rfl)|((with_reducible refine yZ ?_ ?_);(first|rfl|(dsimp only;decide +kernel)))|((with_reducible refine xA ?_ ?_);(focus go_simp;done))|(go_simp;(try go_bits);(first|(refine hK2 _ _ ?_ ?_<;>clear hK2 K2)|(refine hK2 _ _ ?_;clear hK2 K2))))
                exact ⟨by rw [hr], HX1.out⟩
              by_cases hk0 : k = 0
              · have hkn : ¬ 0 < k := by omega
                have HK2 : Hid (res = chkGo (mixOp l c) fr dy (fr.length - (k + 1)) (k + 1) n) := Lib.hid (by rw [HK.out, HST.out, if_pos (by simp [hk0]), if_neg (by simp [hk0])])
                have hkz : decide ((0 : Int) < (k : Int)) = false := by simp [hk0]
                have hkz2 : decide (0 < k) = false := by simp [hk0]
                clear hk0
                repeat' (first|(with_reducible first|refine zA ?_|refine zB fun K hK=>?_|refine zC fun K2 hK2=>?_|refine zD ?_|refine zE ?_|refine zF ?_|refine zG ?_|refine zH ?_|refine zI ?_|refine zM ?_|refine zN ?_|refine zO ?_|refine zP ?_|refine zQ ?_|refine zR ?_)|((with_reducible refine zU (hK _ _ ?_));clear hK K)|((with_reducible refine zV ?_ ?_ fun K1 K3 d hdst h1 h3=>?_);rfl;exact yB rfl;cases hdst;go_simp)|((with_reducible refine zW fun K1 K3 h1 h3=>?_);go_simp)|((first|refine h1 ?_|refine h3 ?_);clear h1 h3 K1 K3)|((first|refine zX (fun hb=>h1 ?_) (fun hb=>h3 ?_)|refine zX (fun hb=>h3 ?_) (fun hb=>h1 ?_))<;>(clear h1 h3 K1 K3;(try have hb2:=yC hb);(try have hb2:=yD hb);(try have hb2:=yE hb);(try have hb2:=yF hb);(try have hb2:=yG hb)))|(refine fun (K2:_→AHeap→Prop) hK2=>?_)|((with_reducible refine zY ?_ ?_);decide)|((with_reducible first|refine zZ ?_ (fun K hK=>?_)|refine yA ?_ (fun K hK=>?_));(focus go_simp;done);go_simp;refine hK _ _ ?_;clear hK K)|((with_reducible refine yH mixed rfl ?_ 20 fun K0 hK0=>?_);kernel_rfl)|(with_reducible first|exact yI|exact yJ|refine yK ?_|refine yL ?_|refine yM ?_)|((with_reducible first|refine yN ?_ ?_|refine yO ?_ ?_|refine yP ?_ ?_);rfl)|((with_reducible refine yQ ?_ ?_);rfl;refine hK0 _ _ ?_;clear hK0 K0)|((with_reducible refine yR ?_ ?_ ?_ ?_);rfl;rfl;rfl)|((with_reducible refine yS ?_ ?_ ?_ fun K2 hK2=>?_);rfl;rfl;exact yB rfl)|((with_reducible refine yT ?_ ?_ ?_ ?_ fun K1 K3 d hdst h1 h3=>?_);rfl;rfl;rfl;exact yB rfl;cases hdst;go_simp)|((with_reducible refine yU ?_ ?_ ?_ ?_ fun K1 K3 d hdst h1 h3=>?_);rfl;rfl;rfl;exact yB rfl;cases hdst;go_simp)|((with_reducible refine yV ?_ ?_ (fun K2 hK2=>?_) ?_);rfl;exact yB rfl)|((with_reducible refine yW ?_ ?_ ?_ ?_ (fun K2 hK2=>?_) ?_);rfl;exact yB rfl;rfl;(focus go_simp;done))|((with_reducible refine yX ?_ ?_ ?_ (fun K2 hK2=>?_) ?_);rfl;rfl;exact yB rfl)|((with_reducible refine yY ?_ ?_ (fun K2 hK2=>?_) ?_);rfl;rfl)|((with_reducible refine yZ ?_ ?_);(first|rfl|(dsimp only;decide +kernel)))|((with_reducible refine xA ?_ ?_);(focus go_simp;done))|(go_simp;(try go_bits);(first|(refine hK2 _ _ ?_ ?_<;>clear hK2 K2)|(refine hK2 _ _ ?_;clear hK2 K2))))
                exact Post.round_normal ⟨fr.length - (k + 1), by omega, k + 1, n, by omega, rfl, hn0, by omega, (by first|go_simp<;>go_num|assumption), (by first|go_simp<;>go_num|assumption), (by first|go_simp<;>go_num|assumption), (by first|go_simp<;>go_num|assumption), (by first|go_simp<;>go_num|assumption), (by first|go_simp<;>go_num|assumption), (by first|go_simp<;>go_num|assumption), HK2, rfl⟩
              · have hk1 : k - 1 < fr.length := by omega
                have hk2 : k - 1 < dy.length := by omega
                have hg1 : fr.getD (k - 1) 0 = fr[k - 1] := by simp [List.getD_eq_getElem?_getD, hk1]
                have hg2 : dy.getD (k - 1) 0 = dy[k - 1] := by simp [List.getD_eq_getElem?_getD, hk2]
                obtain ⟨_, _, _, h9, -, hx5⟩ := HF.out.at_ hk1
                cases h9
                obtain ⟨_, _, _, h9, -, hx6⟩ := HD.out.at_ hk2
                cases h9
                have HST2 := HST.out
                rw [hg1, hg2] at HST2
                generalize fr[k - 1] = e1 at hx5 HST2
                generalize dy[k - 1] = y1 at hx6 HST2
                have HST3 := Lib.hid HST2
                have h0i : (0 : Int) ≤ (k : Int) - 1 := by omega
                have h1i : (k : Int) - 1 < (fr.length : Int) := by omega
                have h1j : (k : Int) - 1 < (dy.length : Int) := by omega
                have h2i : (1 : Int) ≤ (k : Int) := by omega
                have h3i : 1 ≤ k := by omega
                have h4i : ((k : Int) - 1).toNat = k - 1 := by omega
                have hwn : IntKind.i64.wrap (n + 1) = n + 1 := by rw [IntKind.wrap_i64]; omega
                have h5i : 0 < k := by omega
                clear hg1 hg2 HST2 HST hk0
                repeat' (first|(with_reducible first|refine zA ?_|refine zB fun K hK=>?_|refine zC fun K2 hK2=>?_|refine zD ?_|refine zE ?_|refine zF ?_|refine zG ?_|refine zH ?_|refine zI ?_|refine zM ?_|refine zN ?_|refine zO ?_|refine zP ?_|refine zQ ?_|refine zR ?_)|((with_reducible refine zU (hK _ _ ?_));clear hK K)|((with_reducible refine zV ?_ ?_ fun K1 K3 d hdst h1 h3=>?_);rfl;exact yB rfl;cases hdst;go_simp)|((with_reducible refine zW fun K1 K3 h1 h3=>?_);go_simp)|((first|refine h1 ?_|refine h3 ?_);clear h1 h3 K1 K3)|((first|refine zX (fun hb=>h1 ?_) (fun hb=>h3 ?_)|refine zX (fun hb=>h3 ?_) (fun hb=>h1 ?_))<;>(clear h1 h3 K1 K3;(try have hb2:=yC hb);(try have hb2:=yD hb);(try have hb2:=yE hb);(try have hb2:=yF hb);(try have hb2:=yG hb)))|(refine fun (K2:_→AHeap→Prop) hK2=>?_)|((with_reducible refine zY ?_ ?_);decide)|((with_reducible first|refine zZ ?_ (fun K hK=>?_)|refine yA ?_ (fun K hK=>?_));(focus go_simp;done);go_simp;refine hK _ _ ?_;clear hK K)|((with_reducible refine yH mixed rfl ?_ 20 fun K0 hK0=>?_);kernel_rfl)|(with_reducible first|exact yI|exact yJ|refine yK ?_|refine yL ?_|refine yM ?_)|((with_reducible first|refine yN ?_ ?_|refine yO ?_ ?_|refine yP ?_ ?_);rfl)|((with_reducible refine yQ ?_ ?_);rfl;refine hK0 _ _ ?_;clear hK0 K0)|((with_reducible refine yR ?_ ?_ ?_ ?_);rfl;rfl;rfl)|((with_reducible refine yS ?_ ?_ ?_ fun K2 hK2=>?_);rfl;rfl;exact yB rfl)|((with_reducible refine yT ?_ ?_ ?_ ?_ fun K1 K3 d hdst h1 h3=>?_);rfl;rfl;rfl;exact yB rfl;cases hdst;go_simp)|((with_reducible refine yU ?_ ?_ ?_ ?_ fun K1 K3 d hdst h1 h3=>?_);rfl;rfl;rfl;exact yB rfl;cases hdst;go_simp)|((with_reducible refine yV ?_ ?_ (fun K2 hK2=>?_) ?_);rfl;exact yB rfl)|((with_reducible refine yW ?_ ?_ ?_ ?_ (fun K2 hK2=>?_) ?_);rfl;exact yB rfl;rfl;(focus go_simp;done))|((with_reducible refine yX ?_ ?_ ?_ (fun K2 hK2=>?_) ?_);rfl;rfl;exact yB rfl)|((with_reducible refine yY ?_ ?_ (fun K2 hK2=>?_) ?_);rfl;rfl)|((with_reducible refine yZ ?_ ?_);(first|rfl|(dsimp only;decide +kernel)))|((with_reducible refine xA ?_ ?_);(focus go_simp;done))|(go_simp;(try go_bits);(first|(refine hK2 _ _ ?_ ?_<;>clear hK2 K2)|(refine hK2 _ _ ?_;clear hK2 K2))))
                · have hr : res = (0, 8) := by rw [HK.out, HST3.out, if_neg (by simp; omega)]
                  exact ⟨by rw [hr], HX1.out⟩
                · have hne : (s : Int) ≠ e1 := by simpa using hb
                  have HK2 : Hid (res = chkGo (mixOp l c) fr dy (fr.length - (k + 1)) (k + 1) (n + 1)) := Lib.hid (by rw [HK.out, HST3.out, if_pos (by simp; omega), if_pos ⟨h5i, hne⟩])
                  exact Post.round_normal ⟨fr.length - (k + 1), by omega, k + 1, n + 1, by omega, rfl, by omega, by omega, (by first|go_simp<;>go_num|assumption), (by first|go_simp<;>go_num|assumption), (by first|go_simp<;>go_num|assumption), (by first|go_simp<;>go_num|assumption), (by first|go_simp<;>go_num|assumption), (by first|go_simp<;>go_num|assumption), (by first|go_simp<;>go_num|assumption), HK2, rfl⟩
                · have hne : (s : Int) = e1 := by simpa using hb
                  have HK2 : Hid (res = chkGo (mixOp l c) fr dy (fr.length - (k + 1)) (k + 1) n) := Lib.hid (by rw [HK.out, HST3.out, if_pos (by simp; omega), if_neg (fun h => h.2 hne)])
                  exact Post.round_normal ⟨fr.length - (k + 1), by omega, k + 1, n, by omega, rfl, hn0, by omega, (by first|go_simp<;>go_num|assumption), (by first|go_simp<;>go_num|assumption), (by first|go_simp<;>go_num|assumption), (by first|go_simp<;>go_num|assumption), (by first|go_simp<;>go_num|assumption), (by first|go_simp<;>go_num|assumption), (by first|go_simp<;>go_num|assumption), HK2, rfl⟩
            · have hke : k = fr.length := by omega
              subst hke
              have hr : res = (n, 0) := by rw [HK.out, Nat.sub_self]; rfl
              subst hr
              repeat' (first|(with_reducible first|refine zA ?_|refine zB fun K hK=>?_|refine zC fun K2 hK2=>?_|refine zD ?_|refine zE ?_|refine zF ?_|refine zG ?_|refine zH ?_|refine zI ?_|refine zM ?_|refine zN ?_|refine zO ?_|refine zP ?_|refine zQ ?_|refine zR ?_)|((with_reducible refine zU (hK _ _ ?_));clear hK K)|((with_reducible refine zV ?_ ?_ fun K1 K3 d hdst h1 h3=>?_);rfl;exact yB rfl;cases hdst;go_simp)|((with_reducible refine zW fun K1 K3 h1 h3=>?_);go_simp)|((first|refine h1 ?_|refine h3 ?_);clear h1 h3 K1 K3)|((first|refine zX (fun hb=>h1 ?_) (fun hb=>h3 ?_)|refine zX (fun hb=>h3 ?_) (fun hb=>h1 ?_))<;>(clear h1 h3 K1 K3;(try have hb2:=yC hb);(try have hb2:=yD hb);(try have hb2:=yE hb);(try have hb2:=yF hb);(try have hb2:=yG hb)))|(refine fun (K2:_→AHeap→Prop) hK2=>?_)|((with_reducible refine zY ?_ ?_);decide)|((with_reducible first|refine zZ ?_ (fun K hK=>?_)|refine yA ?_ (fun K hK=>?_));(focus go_simp;done);go_simp;refine hK _ _ ?_;clear hK K)|(go_simp;(try go_bits);refine hK2 _ _ ?_;clear hK2 K2))
              exact ⟨rfl, HX1.out⟩
        · subst he1
          have hr : res = (0, 1) := by rw [HR2.out, if_neg hno]
          subst hr
          clear HW hno HR2
          repeat' (first|(with_reducible first|refine zA ?_|refine zB fun K hK=>?_|refine zC fun K2 hK2=>?_|refine zD ?_|refine zE ?_|refine zF ?_|refine zG ?_|refine zH ?_|refine zI ?_|refine zM ?_|refine zN ?_|refine zO ?_|refine zP ?_|refine zQ ?_|refine zR ?_)|((with_reducible refine zU (hK _ _ ?_));clear hK K)|((with_reducible refine zV ?_ ?_ fun K1 K3 d hdst h1 h3=>?_);rfl;exact yB rfl;cases hdst;go_simp)|((with_reducible refine zW fun K1 K3 h1 h3=>?_);go_simp)|((first|refine h1 ?_|refine h3 ?_);clear h1 h3 K1 K3)|((first|refine zX (fun hb=>h1 ?_) (fun hb=>h3 ?_)|refine zX (fun hb=>h3 ?_) (fun hb=>h1 ?_))<;>(clear h1 h3 K1 K3;(try have hb2:=yC hb);(try have hb2:=yD hb);(try have hb2:=yE hb);(try have hb2:=yF hb);(try have hb2:=yG hb)))|(refine fun (K2:_→AHeap→Prop) hK2=>?_)|((with_reducible refine zY ?_ ?_);decide)|((with_reducible first|refine zZ ?_ (fun K hK=>?_)|refine yA ?_ (fun K hK=>?_));(focus go_simp;done);go_simp;refine hK _ _ ?_;clear hK K)|(go_simp;(try go_bits);refine hK2 _ _ ?_;clear hK2 K2))
          all_goals exact ⟨rfl, HX1.out⟩
      · have hb1 : ((fr.length : Int) != (c.words.length : Int)) = false := by simp [hlf]
        have hb2 : ((dy.length : Int) != (c.words.length : Int)) = true := by simpa using (show ¬ (dy.length : Int) = (c.words.length : Int) by omega)
        have hr : res = (0, 1) := by rw [HR.out, if_neg (by simp [he]), if_pos (by simp [hld])]
        subst hr
        clear hlf hld
        repeat' (first|(with_reducible first|refine zA ?_|refine zB fun K hK=>?_|refine zC fun K2 hK2=>?_|refine zD ?_|refine zE ?_|refine zF ?_|refine zG ?_|refine zH ?_|refine zI ?_|refine zM ?_|refine zN ?_|refine zO ?_|refine zP ?_|refine zQ ?_|refine zR ?_)|((with_reducible refine zU (hK _ _ ?_));clear hK K)|((with_reducible refine zV ?_ ?_ fun K1 K3 d hdst h1 h3=>?_);rfl;exact yB rfl;cases hdst;go_simp)|((with_reducible refine zW fun K1 K3 h1 h3=>?_);go_simp)|((first|refine h1 ?_|refine h3 ?_);clear h1 h3 K1 K3)|((first|refine zX (fun hb=>h1 ?_) (fun hb=>h3 ?_)|refine zX (fun hb=>h3 ?_) (fun hb=>h1 ?_))<;>(clear h1 h3 K1 K3;(try have hb2:=yC hb);(try have hb2:=yD hb);(try have hb2:=yE hb);(try have hb2:=yF hb);(try have hb2:=yG hb)))|(refine fun (K2:_→AHeap→Prop) hK2=>?_)|((with_reducible refine zY ?_ ?_);decide)|((with_reducible first|refine zZ ?_ (fun K hK=>?_)|refine yA ?_ (fun K hK=>?_));(focus go_simp;done);go_simp;refine hK _ _ ?_;clear hK K)|(go_simp;(try go_bits);(try first | ((with_reducible show CallS _ _ _ _ _ _);refine CallS.mono (HCK.out _ _ HX1.out) ?_; rintro _ _ ⟨rfl, h9⟩; rw [h9]; clear h9; go_simp));refine hK2 _ _ ?_;clear hK2 K2))
        refine CodeS.loop (fun m f H' => f.tmp 11 = .int .i64 0 ∧ f.tmp 10 = .int .i64 (1) ∧ f.tmp 2 = .slice fa fr.length fc ∧ f.defers = [] ∧ H' = H.push (.row [Value.slice ca c.words.length cc, .int .i64 c.beg, .int .i64 c.fin, .int .i64 c.per] 27)) 0 ?_ ?_
        · exact ⟨(by first|go_simp<;>go_num|assumption), (by first|go_simp<;>go_num|assumption), (by first|go_simp<;>go_num|assumption), (by first|go_simp<;>go_num|assumption), rfl⟩
        clear f0 f1 f2 f3 hd f
        rintro m f _ ⟨f11, f10, f2, hd, rfl⟩
        repeat' (first|(with_reducible first|refine zA ?_|refine zB fun K hK=>?_|refine zC fun K2 hK2=>?_|refine zD ?_|refine zE ?_|refine zF ?_|refine zG ?_|refine zH ?_|refine zI ?_|refine zM ?_|refine zN ?_|refine zO ?_|refine zP ?_|refine zQ ?_|refine zR ?_)|((with_reducible refine zU (hK _ _ ?_));clear hK K)|((with_reducible refine zV ?_ ?_ fun K1 K3 d hdst h1 h3=>?_);rfl;exact yB rfl;cases hdst;go_simp)|((with_reducible refine zW fun K1 K3 h1 h3=>?_);go_simp)|((first|refine h1 ?_|refine h3 ?_);clear h1 h3 K1 K3)|((first|refine zX (fun hb=>h1 ?_) (fun hb=>h3 ?_)|refine zX (fun hb=>h3 ?_) (fun hb=>h1 ?_))<;>(clear h1 h3 K1 K3;(try have hb2:=yC hb);(try have hb2:=yD hb);(try have hb2:=yE hb);(try have hb2:=yF hb);(try have hb2:=yG hb)))|(refine fun (K2:_→AHeap→Prop) hK2=>?_)|((with_reducible refine zY ?_ ?_);decide)|((with_reducible first|refine zZ ?_ (fun K hK=>?_)|refine yA ?_ (fun K hK=>?_));(focus go_simp;done);go_simp;refine hK _ _ ?_;clear hK K)|(go_simp;(try go_bits);refine hK2 _ _ ?_;clear hK2 K2))
        all_goals exact ⟨rfl, HX1.out⟩
    · have hb1 : ((fr.length : Int) != (c.words.length : Int)) = true := by simpa using (show ¬ (fr.length : Int) = (c.words.length : Int) by omega)
      have hr : res = (0, 1) := by rw [HR.out, if_neg (by simp [he]), if_pos (by simp [hlf])]
      subst hr
      clear hlf
      repeat' (first|(with_reducible first|refine zA ?_|refine zB fun K hK=>?_|refine zC fun K2 hK2=>?_|refine zD ?_|refine zE ?_|refine zF ?_|refine zG ?_|refine zH ?_|refine zI ?_|refine zM ?_|refine zN ?_|refine zO ?_|refine zP ?_|refine zQ ?_|refine zR ?_)|((with_reducible refine zU (hK _ _ ?_));clear hK K)|((with_reducible refine zV ?_ ?_ fun K1 K3 d hdst h1 h3=>?_);rfl;exact yB rfl;cases hdst;go_simp)|((with_reducible refine zW fun K1 K3 h1 h3=>?_);go_simp)|((first|refine h1 ?_|refine h3 ?_);clear h1 h3 K1 K3)|((first|refine zX (fun hb=>h1 ?_) (fun hb=>h3 ?_)|refine zX (fun hb=>h3 ?_) (fun hb=>h1 ?_))<;>(clear h1 h3 K1 K3;(try have hb2:=yC hb);(try have hb2:=yD hb);(try have hb2:=yE hb);(try have hb2:=yF hb);(try have hb2:=yG hb)))|(refine fun (K2:_→AHeap→Prop) hK2=>?_)|((with_reducible refine zY ?_ ?_);decide)|((with_reducible first|refine zZ ?_ (fun K hK=>?_)|refine yA ?_ (fun K hK=>?_));(focus go_simp;done);go_simp;refine hK _ _ ?_;clear hK K)|(go_simp;(try go_bits);(try first | ((with_reducible show CallS _ _ _ _ _ _);refine CallS.mono (HCK.out _ _ HX1.out) ?_; rintro _ _ ⟨rfl, h9⟩; rw [h9]; clear h9; go_simp));refine hK2 _ _ ?_;clear hK2 K2))
      refine CodeS.loop (fun m f H' => f.tmp 11 = .int .i64 0 ∧ f.tmp 10 = .int .i64 (1) ∧ f.tmp 2 = .slice fa fr.length fc ∧ f.defers = [] ∧ H' = H.push (.row [Value.slice ca c.words.length cc, .int .i64 c.beg, .int .i64 c.fin, .int .i64 c.per] 27)) 0 ?_ ?_
      · exact ⟨(by first|go_simp<;>go_num|assumption), (by first|go_simp<;>go_num|assumption), (by first|go_simp<;>go_num|assumption), (by first|go_simp<;>go_num|assumption), rfl⟩
      clear f0 f1 f2 f3 hd f
      rintro m f _ ⟨f11, f10, f2, hd, rfl⟩
      repeat' (first|(with_reducible first|refine zA ?_|refine zB fun K hK=>?_|refine zC fun K2 hK2=>?_|refine zD ?_|refine zE ?_|refine zF ?_|refine zG ?_|refine zH ?_|refine zI ?_|refine zM ?_|refine zN ?_|refine zO ?_|refine zP ?_|refine zQ ?_|refine zR ?_)|((with_reducible refine zU (hK _ _ ?_));clear hK K)|((with_reducible refine zV ?_ ?_ fun K1 K3 d hdst h1 h3=>?_);rfl;exact yB rfl;cases hdst;go_simp)|((with_reducible refine zW fun K1 K3 h1 h3=>?_);go_simp)|((first|refine h1 ?_|refine h3 ?_);clear h1 h3 K1 K3)|((first|refine zX (fun hb=>h1 ?_) (fun hb=>h3 ?_)|refine zX (fun hb=>h3 ?_) (fun hb=>h1 ?_))<;>(clear h1 h3 K1 K3;(try have hb2:=yC hb);(try have hb2:=yD hb);(try have hb2:=yE hb);(try have hb2:=yF hb);(try have hb2:=yG hb)))|(refine fun (K2:_→AHeap→Prop) hK2=>?_)|((with_reducible refine zY ?_ ?_);decide)|((with_reducible first|refine zZ ?_ (fun K hK=>?_)|refine yA ?_ (fun K hK=>?_));(focus go_simp;done);go_simp;refine hK _ _ ?_;clear hK K)|(go_simp;(try go_bits);refine hK2 _ _ ?_;clear hK2 K2))
      all_goals exact ⟨rfl, HX1.out⟩
  · have heb : (errMix l c == 0) = false := by simpa using he
    have heb2 : (errMix l c != 0) = true := by simpa using he
    have hr : res = (0, errMix l c) := by rw [HR.out, if_pos he]
    subst hr
    repeat' (first|(with_reducible first|refine zA ?_|refine zB fun K hK=>?_|refine zC fun K2 hK2=>?_|refine zD ?_|refine zE ?_|refine zF ?_|refine zG ?_|refine zH ?_|refine zI ?_|refine zM ?_|refine zN ?_|refine zO ?_|refine zP ?_|refine zQ ?_|refine zR ?_)|((with_reducible refine zU (hK _ _ ?_));clear hK K)|((with_reducible refine zV ?_ ?_ fun K1 K3 d hdst h1 h3=>?_);rfl;exact yB rfl;cases hdst;go_simp)|((with_reducible refine zW fun K1 K3 h1 h3=>?_);go_simp)|((first|refine h1 ?_|refine h3 ?_);clear h1 h3 K1 K3)|((first|refine zX (fun hb=>h1 ?_) (fun hb=>h3 ?_)|refine zX (fun hb=>h3 ?_) (fun hb=>h1 ?_))<;>(clear h1 h3 K1 K3;(try have hb2:=yC hb);(try have hb2:=yD hb);(try have hb2:=yE hb);(try have hb2:=yF hb);(try have hb2:=yG hb)))|(refine fun (K2:_→AHeap→Prop) hK2=>?_)|((with_reducible refine zY ?_ ?_);decide)|((with_reducible first|refine zZ ?_ (fun K hK=>?_)|refine yA ?_ (fun K hK=>?_));(focus go_simp;done);go_simp;refine hK _ _ ?_;clear hK K)|(go_simp;(try go_bits);(try first | ((with_reducible show CallS _ _ _ _ _ _);refine CallS.mono (HCK.out _ _ HX1.out) ?_; rintro _ _ ⟨rfl, h9⟩; rw [h9]; clear h9; go_simp));refine hK2 _ _ ?_;clear hK2 K2))
    refine CodeS.loop (fun m f H' => f.tmp 11 = .int .i64 0 ∧ f.tmp 10 = .int .i64 (errMix l c) ∧ f.tmp 2 = .slice fa fr.length fc ∧ f.defers = [] ∧ H' = H.push (.row [Value.slice ca c.words.length cc, .int .i64 c.beg, .int .i64 c.fin, .int .i64 c.per] 27)) 0 ?_ ?_
    · exact ⟨(by first|go_simp<;>go_num|assumption), (by first|go_simp<;>go_num|assumption), (by first|go_simp<;>go_num|assumption), (by first|go_simp<;>go_num|assumption), rfl⟩
    clear f0 f1 f2 f3 hd f
    rintro m f _ ⟨f11, f10, f2, hd, rfl⟩
    repeat' (first|(with_reducible first|refine zA ?_|refine zB fun K hK=>?_|refine zC fun K2 hK2=>?_|refine zD ?_|refine zE ?_|refine zF ?_|refine zG ?_|refine zH ?_|refine zI ?_|refine zM ?_|refine zN ?_|refine zO ?_|refine zP ?_|refine zQ ?_|refine zR ?_)|((with_reducible refine zU (hK _ _ ?_));clear hK K)|((with_reducible refine zV ?_ ?_ fun K1 K3 d hdst h1 h3=>?_);rfl;exact yB rfl;cases hdst;go_simp)|((with_reducible refine zW fun K1 K3 h1 h3=>?_);go_simp)|((first|refine h1 ?_|refine h3 ?_);clear h1 h3 K1 K3)|((first|refine zX (fun hb=>h1 ?_) (fun hb=>h3 ?_)|refine zX (fun hb=>h3 ?_) (fun hb=>h1 ?_))<;>(clear h1 h3 K1 K3;(try have hb2:=yC hb);(try have hb2:=yD hb);(try have hb2:=yE hb);(try have hb2:=yF hb);(try have hb2:=yG hb)))|(refine fun (K2:_→AHeap→Prop) hK2=>?_)|((with_reducible refine zY ?_ ?_);decide)|((with_reducible first|refine zZ ?_ (fun K hK=>?_)|refine yA ?_ (fun K hK=>?_));(focus go_simp;done);go_simp;refine hK _ _ ?_;clear hK K)|(go_simp;(try go_bits);refine hK2 _ _ ?_;clear hK2 K2))
    all_goals exact ⟨rfl, HX1.out⟩
end Go.Proofs.Tryz
namespace Go.Proofs.Tryz
open Go Go.Am Go.RowKit Go.Co
set_option maxRecDepth 100000
set_option maxHeartbeats 4000000 in
theorem mixes_s {loops : List (Nat × LInfo)} {H : AHeap} {v cv fv dv : Value} {l : List Sheet} {c : Copy} {fr dy : List Int} (hv : SheetsV H v l) (hc : CopyV H cv c) (hf : Ints H fv fr) (hdv : Ints H dv dy) : CallS Tryz.prog loops 31 [v, cv, fv, dv] H fun r H' => r = .bool true ∧ H' = H := by
  refine CallS.forget (R := fun r => r = .bool true) (by rintro v rfl; rfl) ?_
  obtain ⟨hlen, a, ac, rfl⟩ := hv.slice
  have HV := Lib.hid hv
  have HC := Lib.hid hc
  have HF := Lib.hid hf
  have HD := Lib.hid hdv
  obtain ⟨cv, rfl, hcw⟩ := hc
  obtain ⟨hcl, ca, cc, rfl⟩ := hcw.slice
  obtain ⟨hfl, fa, fc, rfl⟩ := hf.slice
  obtain ⟨hdl, da, dc, rfl⟩ := hdv.slice
  clear hv hcw hf hdv
  have H1 := Lib.hid (fun (loops : List (Nat × LInfo)) (G : AHeap) (hx : Ext H G) => checkMixed_s (loops := loops) (HV.out.ext hx) (HC.out.ext hx) (HF.out.ext hx) (HD.out.ext hx))
  have H2 := Lib.hid (fun (loops : List (Nat × LInfo)) (G : AHeap) (hx : Ext H G) => refChkMix_s (loops := loops) (HV.out.ext hx) (HC.out.ext hx) (HF.out.ext hx) (HD.out.ext hx))
  generalize (chkMix l c fr dy).1 = r1 at H1 H2
  generalize (chkMix l c fr dy).2 = r2 at H1 H2
  refine CallS.enter' Tryz.func31 rfl Tryz.ntmps31 (by simp) fun f hd hf => ?_
  have f0 := hf 0
  have f1 := hf 1
  have f2 := hf 2
  have f3 := hf 3
  simp at f0 f1 f2 f3
  clear hf
  repeat' (first|(with_reducible first|refine zA ?_|refine zB fun K hK=>?_|refine zC fun K2 hK2=>?_|refine zD ?_|refine zE ?_|refine zF ?_|refine zG ?_|refine zH ?_|refine zI ?_|refine zM ?_|refine zN ?_|refine zO ?_|refine zP ?_|refine zQ ?_|refine zR ?_)|((with_reducible refine zU (hK _ _ ?_));clear hK K)|((with_reducible refine zV ?_ ?_ fun K1 K3 d hdst h1 h3=>?_);rfl;exact yB rfl;cases hdst;go_simp)|((with_reducible refine zW fun K1 K3 h1 h3=>?_);go_simp)|((first|refine h1 ?_|refine h3 ?_);clear h1 h3 K1 K3)|((first|refine zX (fun hb=>h1 ?_) (fun hb=>h3 ?_)|refine zX (fun hb=>h3 ?_) (fun hb=>h1 ?_))<;>(clear h1 h3 K1 K3;(try have hb2:=yC hb);(try have hb2:=yD hb);(try have hb2:=yE hb);(try have hb2:=yF hb);(try have hb2:=yG hb)))|(refine fun (K2:_→AHeap→Prop) hK2=>?_)|((with_reducible refine zY ?_ ?_);decide)|((with_reducible first|refine zZ ?_ (fun K hK=>?_)|refine yA ?_ (fun K hK=>?_));(focus go_simp;done);go_simp;refine hK _ _ ?_;clear hK K)|(go_simp;(try go_bits);(try first |((with_reducible show CallS _ _ _ _ _ _);first|(refine CallS.mono (H1.out _ _ (Ext.push _)) ?_; rintro _ _ ⟨rfl, h9⟩; rw [h9]; clear h9; go_simp)|(refine CallS.mono (H2.out _ _ (Ext.push _)) ?_; rintro _ _ ⟨rfl, h9⟩; rw [h9]; clear h9; go_simp)));refine hK2 _ _ ?_;clear hK2 K2))
  exact ⟨rfl, Ext.push _⟩
end Go.Proofs.Tryz
namespace Go.Proofs.Tryz
open Go Go.Am Go.RowKit Go.Co
set_option maxRecDepth 100000

section
variable {P : Program} {H : AHeap}
theorem makeSlice_kk {kp : Value → AHeap → Option Prop} {t e : TypeId} {bytes n : Nat} {z : Value} (he : elemT P t = some e) (hsz : szT P e = some 1) (hby : bytesT P e = some bytes) (hz : zeroT P e = some z) (hzs : cellsOfV z = [z]) (hbig : n * max bytes 1 ≤ 1073741824) (hn : n ≤ 65536) {q q' : IntKind} {k k' : Int} (hk : k = (n : Int)) (hk' : k' = (n : Int))
    (h : Holds (kp (.slice (some ⟨H.n, 0, none⟩) n n) (H.push (.row (List.replicate n z) e)))) : Holds (aMakeSlice P t (.int q k) (.int q' k') H kp) := by
  rw [hk, hk', makeSlice_eq he hsz hby hz hzs hbig hn]; exact h
end
def bestGo (g : Nat → Nat → Int) (d : Nat) : Nat → Int
  | 0 => 1048576
  | k + 1 => min (bestGo g d k) (g k d)
theorem bestGo_le {g : Nat → Nat → Int} {d : Nat} : ∀ k, bestGo g d k ≤ 1048576
  | 0 => Int.le_refl _
  | k + 1 => by
    have := bestGo_le (g := g) (d := d) k
    rw [bestGo]; omega
theorem bestGo_ge {g : Nat → Nat → Int} {d : Nat} (h : ∀ k, 0 ≤ g k d) : ∀ k, 0 ≤ bestGo g d k
  | 0 => by rw [bestGo]; omega
  | k + 1 => by
    have := bestGo_ge h k
    have := h k
    rw [bestGo]; omega
theorem bestGo_iff {g : Nat → Nat → Int} {d : Nat} {m : Int} (hm : m < 1048576) : ∀ M, bestGo g d M ≤ m ↔ ∃ k, k < M ∧ g k d ≤ m
  | 0 => by
    rw [bestGo]
    constructor
    · intro h; omega
    · rintro ⟨k, h, _⟩; omega
  | M + 1 => by
    rw [bestGo]
    have ih := bestGo_iff (g := g) (d := d) hm M
    constructor
    · intro h
      by_cases h1 : bestGo g d M ≤ m
      · obtain ⟨k, h2, h3⟩ := ih.1 h1
        exact ⟨k, by omega, h3⟩
      · exact ⟨M, by omega, by omega⟩
    · rintro ⟨k, h1, h2⟩
      by_cases h3 : k = M
      · subst h3; omega
      · have := ih.2 ⟨k, by omega, h2⟩
        omega
def rowF (op1 : Int → Bool) (nw : Int → Nat → Int) (beg : Int) : Nat → Int
  | 0 => if op1 beg then nw 1048576 0 else 1048576
  | d + 1 => if op1 (beg + ((d + 1 : Nat) : Int)) then nw (rowF op1 nw beg d) (d + 1) else rowF op1 nw beg d
def prevF (op1 : Int → Bool) (nw : Int → Nat → Int) (beg : Int) (d : Nat) : Int := if d = 0 then 1048576 else rowF op1 nw beg (d - 1)
theorem rowF_eq {op1 : Int → Bool} {nw : Int → Nat → Int} {beg : Int} (d : Nat) : rowF op1 nw beg d = if op1 (beg + d) then nw (prevF op1 nw beg d) d else prevF op1 nw beg d := by
  cases d with
  | zero => rw [rowF, prevF, if_pos rfl]; simp
  | succ d => rw [rowF]; simp only [prevF, Nat.add_sub_cancel, if_neg (Nat.succ_ne_zero d)]
def FF (N : Nat) (op : Nat → Nat → Int → Bool) (beg : Int) : Nat → Nat → Nat → Int
  | 0, k, d => rowF (op k 0) (fun _ _ => 0) beg d
  | i + 1, k, d => rowF (op k (i + 1)) (fun p d => min p (min (FF N op beg i k d) (bestGo (fun k d => FF N op beg i k d) d N + 1))) beg d
theorem rowF_ge {op1 : Int → Bool} {nw : Int → Nat → Int} {beg : Int} (h : ∀ p d, 0 ≤ p → 0 ≤ nw p d) : ∀ d, 0 ≤ rowF op1 nw beg d
  | 0 => by
    rw [rowF]
    split
    · exact h _ _ (by omega)
    · omega
  | d + 1 => by
    have := rowF_ge (op1 := op1) (beg := beg) h d
    rw [rowF]
    split
    · exact h _ _ this
    · exact this
theorem FF_ge {N : Nat} {op : Nat → Nat → Int → Bool} {beg : Int} : ∀ i k d, 0 ≤ FF N op beg i k d
  | 0, k, d => rowF_ge (fun _ _ _ => Int.le_refl _) d
  | i + 1, k, d => rowF_ge (fun p d hp => by
    have h1 := FF_ge (N := N) (op := op) (beg := beg) i k d
    have h2 := bestGo_ge (g := fun k d => FF N op beg i k d) (d := d) (fun k => FF_ge i k d) N
    omega) d
def RowsAt (H : AHeap) (M w : Nat) (g : Nat → Nat → Int) (v : Value) : Prop := ∃ a, v = .slice a M M ∧ ∀ k, k < M → ∃ q b, a = some ⟨q, 0, none⟩ ∧ q < H.n ∧ cellAt H q k = some (.slice (some ⟨b, 0, none⟩) w w) ∧ b < H.n ∧ H.get b = .row (((List.range w).map (g k)).map (Value.int .i64)) 3
theorem RowsAt.ext {H H' : AHeap} {M w : Nat} {g : Nat → Nat → Int} {v : Value} (h : RowsAt H M w g v) (hx : Ext H H') : RowsAt H' M w g v := by
  obtain ⟨a, h1, h2⟩ := h
  refine ⟨a, h1, fun k hk => ?_⟩
  obtain ⟨q, b, h3, h4, h5, h6, h7⟩ := h2 k hk
  exact ⟨q, b, h3, Nat.lt_of_lt_of_le h4 hx.n, by rw [hx.cellAt h4]; exact h5, Nat.lt_of_lt_of_le h6 hx.n, (hx.get _ h6).trans h7⟩
def NextAt (H : AHeap) (bs k w : Nat) (g : Nat → Nat → Int) (v : Value) (vs : List Value) : Prop := Own H bs v 22 1 vs ∧ vs.length = k ∧ ∀ j, j < k → ∃ b, vs[j]? = some (.slice (some ⟨b, 0, none⟩) w w) ∧ b < H.n ∧ H.get b = .row (((List.range w).map (g j)).map (Value.int .i64)) 3
theorem NextAt.nil {H : AHeap} {bs w : Nat} {g : Nat → Nat → Int} : NextAt H bs 0 w g (.slice none 0 0) [] := ⟨Own.nil, rfl, fun j hj => by omega⟩
theorem NextAt.ext {H H' : AHeap} {bs k w : Nat} {g : Nat → Nat → Int} {v : Value} {vs : List Value} (h : NextAt H bs k w g v vs) (hx : Ext H H') : NextAt H' bs k w g v vs := by
  obtain ⟨h1, h2, h3⟩ := h
  refine ⟨h1.ext hx, h2, fun j hj => ?_⟩
  obtain ⟨b, h4, h5, h6⟩ := h3 j hj
  exact ⟨b, h4, Nat.lt_of_lt_of_le h5 hx.n, (hx.get _ h5).trans h6⟩
theorem NextAt.one {H : AHeap} {bs k w : Nat} {g : Nat → Nat → Int} {v : Value} {vs : List Value} (h : NextAt H bs k w g v vs) : vs.all oneV = true := by
  rw [List.all_eq_true]
  intro x hx
  obtain ⟨j, hj, rfl⟩ := List.mem_iff_getElem.1 hx
  obtain ⟨b, h4, -⟩ := h.2.2 j (by rw [← h.2.1]; exact hj)
  rw [(List.getElem?_eq_some_iff.1 h4).2]; rfl
theorem NextAt.rows {H : AHeap} {bs k w : Nat} {g : Nat → Nat → Int} {v : Value} {vs : List Value} (h : NextAt H bs k w g v vs) : RowsAt H k w g v := by
  obtain ⟨h1, h2, h3⟩ := h
  rcases h1 with ⟨rfl, rfl⟩ | ⟨q, n, rfl, h4, h5, h6, h7, h8⟩
  · simp at h2; subst h2
    exact ⟨none, rfl, fun j hj => by omega⟩
  · have hn : n = k := by omega
    subst hn
    refine ⟨_, rfl, fun j hj => ?_⟩
    obtain ⟨b, h9, h10, h11⟩ := h3 j hj
    exact ⟨q, b, rfl, h5, by simp only [cellAt, h6]; exact h9, h10, h11⟩
theorem NextAt.shape {H : AHeap} {bs k w : Nat} {g : Nat → Nat → Int} {v : Value} {vs : List Value} (h : NextAt H bs k w g v vs) : ∃ a, v = .slice a k k := by
  obtain ⟨a, h1, -⟩ := h.rows
  exact ⟨a, h1⟩
theorem NextAt.put {H3 H5 : AHeap} {bs bs2 k w b : Nat} {g : Nat → Nat → Int} {v v2 : Value} {vs : List Value} {L : List Int} (h : NextAt H3 bs k w g v vs) (hn : H3.n ≤ H5.n) (hg : ∀ i, i < H3.n → (∀ b n, v = .slice (some ⟨b, 0, none⟩) n n → 0 < n → i ≠ b) → H5.get i = H3.get i) (ho : Own H5 bs2 v2 22 1 (vs ++ [.slice (some ⟨b, 0, none⟩) w w])) (hb : b < H3.n) (hr : H3.get b = .row (L.map (Value.int .i64)) 3) (hL : L = (List.range w).map (g k)) (hbs : bs ≤ bs2) : NextAt H5 bs (k + 1) w g v2 (vs ++ [.slice (some ⟨b, 0, none⟩) w w]) := by
  obtain ⟨h1, h2, h3⟩ := h
  have hk : ∀ i l, i < H3.n → H3.get i = .row l 3 → H5.get i = .row l 3 := fun i l hi he => by
    rw [hg i hi (fun b n hv hn2 hib => by
      have h9 := (own_block h1 hv hn2).2.2
      rw [← hib, he] at h9
      cases h9)]
    exact he
  refine ⟨ho.mono hbs, by simp [h2], fun j hj => ?_⟩
  rcases Nat.lt_or_ge j k with h4 | h4
  · obtain ⟨b2, h5, h6, h7⟩ := h3 j h4
    exact ⟨b2, by rw [List.getElem?_append_left (by omega)]; exact h5, by omega, hk _ _ h6 h7⟩
  · have hje : j = k := by omega
    subst hje
    refine ⟨b, by rw [← h2]; simp, by omega, ?_⟩
    rw [hk _ _ hb hr, hL]
def Fill (w d : Nat) (F : Nat → Int) (L : List Int) : Prop := L.length = w ∧ ∀ j, j < d → L[j]? = some (F j)
theorem Fill.set {w d e : Nat} {F : Nat → Int} {L : List Int} {x : Int} (h : Fill w d F L) (he : d ≤ e) : Fill w d F (L.set e x) :=
  ⟨by rw [List.length_set]; exact h.1, fun j hj => by rw [List.getElem?_set_ne (by omega)]; exact h.2 j hj⟩
theorem Fill.next {w d : Nat} {F : Nat → Int} {L : List Int} (h : Fill w d F L) (hd : L[d]? = some (F d)) : Fill w (d + 1) F L :=
  ⟨h.1, fun j hj => by
    rcases Nat.lt_or_ge j d with h1 | h1
    · exact h.2 j h1
    · rw [show j = d by omega]; exact hd⟩
theorem Fill.all {w : Nat} {F : Nat → Int} {L : List Int} (h : Fill w w F L) : L = (List.range w).map F := by
  refine List.ext_getElem? fun j => ?_
  rcases Nat.lt_or_ge j w with h1 | h1
  · rw [h.2 j h1]; simp [h1]
  · rw [List.getElem?_eq_none (by rw [h.1]; exact h1), List.getElem?_eq_none (by simpa using h1)]
end Go.Proofs.Tryz
