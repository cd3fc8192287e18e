/- Contracts of functions, walked. -/
import Derived.Test.YtgddlpegljkgpaaGreatStSF
import Derived.Test.YtgddlpegljkgpaaGreatAwB
import Derived.Test.YtgddlpegljkgpaaGreatStTB
set_option linter.all false
namespace Go.Proofs.Tryz
open Go Go.Am Go.RowKit Go.Co
set_option maxRecDepth 100000

theorem stop_sq {P : Program} {cx : Cx} {f : AF} {H : AHeap} {Q : Post} {n : Nat} {ops : Array Oper} {b : Bool} {z : Code} (h : Stop (CodeS P cx (.seq (.region n ops b) z) f H Q)) : CodeS P cx (.seq (.region n ops b) z) f H Q := h.out
end Go.Proofs.Tryz
namespace Go.Proofs.Tryz
open Go Go.Am Go.RowKit Go.Co
set_option maxRecDepth 100000

set_option maxHeartbeats 8000000 in
theorem refFirst_e {loops : List (Nat × LInfo)} {H : AHeap} {sv cv : Value} {s : Sheet} {c : Copy} (hs : SheetV H sv s) (hc : CopyV H cv c) (he : errCopy s c = 0) : CallS Tryz.prog loops 51 [sv, cv] H fun r H' => Own H' H.n r 3 1 (((courseOf s c).early c.per.toNat 0).map (Value.int .i64)) ∧ Ext H H' := by
  have HV := Lib.hid hs
  obtain ⟨wv, av, rfl, hw, ha⟩ := hs
  obtain ⟨hwl, wa, wc, rfl⟩ := hw.slice
  obtain ⟨hal, aa, ac, rfl⟩ := ha.slice
  obtain ⟨cv, rfl, hcw⟩ := hc
  obtain ⟨hcl, ca, cc, rfl⟩ := hcw.slice
  have HCW := Lib.hid hcw
  clear hw ha hcw
  obtain ⟨he0, hlen, hwo, hb0, hb1, hb2, hp1, hp2⟩ := errCopy_ok he
  have hwn : s.words.length ≤ 40 := by have := (win_iff.1 (err_ok he0).2.1).2; omega
  have hcn : c.words.length ≤ 40 := by omega
  have HLEN := Lib.hid hlen
  have HERR := Lib.hid he
  have hper : c.per = ((c.per.toNat : Nat) : Int) := by omega
  have hp3 : 1 ≤ c.per.toNat := by omega
  have HNX := Lib.hid (fun (i : Nat) (hi : i < c.words.length) (f d : Int) => nx_of he hi (f := f) (d := d))
  have HORD := Lib.hid (courseOf_ord he)
  generalize hr : (courseOf s c).early c.per.toNat 0 = res
  have HE : Hid (Co.early (courseOf s c).nx c.per.toNat 0 c.words.length [] = res) := Lib.hid (by rw [← hr, Course.early, courseOf_len])
  generalize c.per.toNat = p at HE hper hp3
  have HPE := Lib.hid hper
  rw [hper] at hp1 hp2
  clear hr he he0 hlen hwo
  refine CallS.enter' Tryz.func51 rfl Tryz.ntmps51 (by simp) fun f hd hf => ?_
  have f0 := hf 0
  have f1 := hf 1
  simp at f0 f1
  clear hf
  rw [hper] at f1
  clear hper
  repeat' (first|(with_reducible first|refine zA ?_|refine zB fun K hK=>?_|refine zC fun K2 hK2=>?_|refine zD ?_|refine zE ?_|refine zF ?_|refine zG ?_|refine zH ?_|refine zI ?_|refine zM ?_|refine zN ?_|refine zO ?_|refine zP ?_|refine zQ ?_|refine zR ?_)|((with_reducible refine zU (hK _ _ ?_));clear hK K)|((with_reducible refine zV ?_ ?_ fun K1 K3 d hdst h1 h3=>?_);rfl;exact yB rfl;cases hdst;go_simp)|((with_reducible refine zW fun K1 K3 h1 h3=>?_);go_simp)|((first|refine h1 ?_|refine h3 ?_);clear h1 h3 K1 K3)|((first|refine zX (fun hb=>h1 ?_) (fun hb=>h3 ?_)|refine zX (fun hb=>h3 ?_) (fun hb=>h1 ?_))<;>(clear h1 h3 K1 K3;(try have hb2:=yC hb);(try have hb2:=yD hb);(try have hb2:=yE hb);(try have hb2:=yF hb);(try have hb2:=yG hb)))|(refine fun (K2:_→AHeap→Prop) hK2=>?_)|((with_reducible refine zY ?_ ?_);decide)|((with_reducible first|refine zZ ?_ (fun K hK=>?_)|refine yA ?_ (fun K hK=>?_));(focus go_simp;done);go_simp;refine hK _ _ ?_;clear hK K)|((with_reducible refine yH mixed rfl ?_ 20 fun K0 hK0=>?_);kernel_rfl)|(with_reducible first|exact yI|exact yJ|refine yK ?_|refine yL ?_|refine yM ?_)|((with_reducible first|refine yN ?_ ?_|refine yO ?_ ?_|refine yP ?_ ?_);rfl)|((with_reducible refine yQ ?_ ?_);rfl;refine hK0 _ _ ?_;clear hK0 K0)|((with_reducible refine yR ?_ ?_ ?_ ?_);rfl;rfl;rfl)|((with_reducible refine yS ?_ ?_ ?_ fun K2 hK2=>?_);rfl;rfl;exact yB rfl)|((with_reducible refine yT ?_ ?_ ?_ ?_ fun K1 K3 d hdst h1 h3=>?_);rfl;rfl;rfl;exact yB rfl;cases hdst;go_simp)|((with_reducible refine yU ?_ ?_ ?_ ?_ fun K1 K3 d hdst h1 h3=>?_);rfl;rfl;rfl;exact yB rfl;cases hdst;go_simp)|((with_reducible refine yV ?_ ?_ (fun K2 hK2=>?_) ?_);rfl;exact yB rfl)|((with_reducible refine yW ?_ ?_ ?_ ?_ (fun K2 hK2=>?_) ?_);rfl;exact yB rfl;rfl;(focus go_simp;done))|((with_reducible refine yX ?_ ?_ ?_ (fun K2 hK2=>?_) ?_);rfl;rfl;exact yB rfl)|((with_reducible refine yY ?_ ?_ (fun K2 hK2=>?_) ?_);rfl;rfl)|((with_reducible refine yZ ?_ ?_);(first|rfl|(dsimp only;decide +kernel)))|((with_reducible refine xA ?_ ?_);(focus go_simp;done))|(go_simp;(try go_bits);(first|(refine hK2 _ _ ?_ ?_<;>clear hK2 K2)|(refine hK2 _ _ ?_;clear hK2 K2))))
  refine CodeS.loop (fun m f H' => ∃ (k : Nat) (v : Value) (acc : List Int), k ≤ c.words.length ∧ acc.length = k ∧ m = c.words.length - k ∧ f.tmp 6 = .int .i64 k ∧ f.tmp 2 = .pointer (some ⟨H.n, 0, none⟩) ∧ f.tmp 3 = .pointer (some ⟨H.n + 1, 0, none⟩) ∧ f.tmp 5 = v ∧ f.defers = [] ∧ Hid (Co.early (courseOf s c).nx p 0 (c.words.length - k) acc = res) ∧ Hid (∀ y, y ∈ acc → 0 ≤ y ∧ y ≤ 730) ∧ H.n + 1 < H'.n ∧ Hid (Ext H H') ∧ Hid (H'.get H.n = .row [Value.slice wa s.words.length wc, Value.slice aa s.alts.length ac] 25) ∧ Hid (H'.get (H.n + 1) = .row [Value.slice ca c.words.length cc, .int .i64 c.beg, .int .i64 c.fin, .int .i64 p] 27) ∧ Hid (Own H' (H.n + 2) v 3 1 (acc.map (Value.int .i64)))) c.words.length ?_ ?_
  · refine ⟨0, .slice none 0 0, [], by simp, rfl, by simp, (by first|go_simp<;>go_num|assumption), (by first|go_simp<;>go_num|assumption), (by first|go_simp<;>go_num|assumption), (by first|go_simp<;>go_num|assumption), (by first|go_simp<;>go_num|assumption), HE, Lib.hid (by simp), by simp only [AHeap.n_push]; omega, Lib.hid (((Ext.refl _).push' _).push' _), Lib.hid ?_, Lib.hid ?_, Lib.hid Own.nil⟩
    · rw [AHeap.get_push_old (by simp only [AHeap.n_push]; omega), get_at rfl]
    · rw [get_at (by simp only [AHeap.n_push])]
  clear f0 f1 hd f HE
  rintro m f H' ⟨k, v, acc, hk, hak, rfl, f6, f2, f3, f5, hd, HG, HB, hn0, HX, HG0, HG1, HO⟩
  have hg0 := HG0.out
  have hg1 := HG1.out
  have hc2 : cellsAt H' H.n 0 2 = some [Value.slice wa s.words.length wc, Value.slice aa s.alts.length ac] := by simp [cellsAt, hg0]
  have hd0 : cellAt H' (H.n + 1) 0 = some (Value.slice ca c.words.length cc) := by simp [cellAt, hg1]
  have hd1 : cellAt H' (H.n + 1) 1 = some (.int .i64 c.beg) := by simp [cellAt, hg1]
  have hd2 : cellAt H' (H.n + 1) 2 = some (.int .i64 c.fin) := by simp [cellAt, hg1]
  have hd3 : cellAt H' (H.n + 1) 3 = some (.int .i64 p) := by simp [cellAt, hg1]
  have HAK := Lib.hid hak
  have hn1 : H.n < H'.n := by omega
  clear hg0 hg1 hak
  by_cases hlt : k < c.words.length
  · obtain ⟨b, o, sp, rfl, hb, hxw⟩ := (HCW.out.ext HX.out).at_ hlt
    have HWD : Hid (c.words.getD k 0 = c.words[k]) := Lib.hid (by simp [List.getD_eq_getElem?_getD, hlt])
    generalize c.words[k] = w at hxw HWD
    have HI : Hid (Ints H' v acc) := Lib.hid (ints_of_own HO.out (by have := HAK.out; omega))
    obtain ⟨-, va, vc, rfl⟩ := HI.out.slice
    have HCAN := Lib.hid (fun (loops : List (Nat × LInfo)) (d : Int) => can_s (loops := loops) (d := d) (w := w) (HV.out.ext HX.out) (show (0 : Int) ≤ (k : Int) by omega) (by have := HLEN.out; omega))
    have HST : Hid (Co.early (courseOf s c).nx p 0 (c.words.length - k) acc = if (courseOf s c).nx k (max 0 (lowL p acc k)) = 731 then acc else Co.early (courseOf s c).nx p 0 (c.words.length - (k + 1)) (acc ++ [(courseOf s c).nx k (max 0 (lowL p acc k))])) := Lib.hid (by
      have := HAK.out
      rw [show c.words.length - k = (c.words.length - (k + 1)) + 1 by omega, Co.early, this])
    have HNK := Lib.hid (HNX.out k hlt (lowL p acc k))
    have hget : ∀ j, j < k → Hid (0 ≤ acc.getD j 0 ∧ acc.getD j 0 ≤ 730) := fun j hj => Lib.hid (by
      have h1 : j < acc.length := by have := HAK.out; omega
      rw [List.getD_eq_getElem?_getD, List.getElem?_eq_getElem h1]
      exact HB.out _ (List.getElem_mem h1))
    have HGT := Lib.hid hget
    clear hget
    have hbig : ((acc.map (Value.int .i64)).length + 1) * max 8 1 ≤ 1073741824 := by have := HAK.out; simp; omega
    have HBIG := Lib.hid hbig
    clear hbig
    rcases Nat.eq_zero_or_pos k with hk0 | hk0
    · have hk1 : ¬ (0 < (k : Int)) := by omega
      have hk2 : ¬ ((p : Int) ≤ (k : Int)) := by omega
      have hk4 : ¬ (p ≤ k) := by omega
      have hk5 : ¬ (0 < k) := by omega
      have HD : Hid (c.beg = max c.beg (lowL p acc k)) := Lib.hid (by
        have : lowL p acc k = 0 := by simp [lowL, hk4, show ¬ 1 ≤ k by omega]
        omega)
      have HDR : Hid (c.beg ≤ 731) := Lib.hid (by omega)
      have HK0 := Lib.hid hk0
      clear hk0
      repeat' (first|(with_reducible first|refine zA ?_|refine zB fun K hK=>?_|refine zC fun K2 hK2=>?_|refine zD ?_|refine zE ?_|refine zF ?_|refine zG ?_|refine zH ?_|refine zI ?_|refine zM ?_|refine zN ?_|refine zO ?_|refine zP ?_|refine zQ ?_|refine zR ?_)|((with_reducible refine zU (hK _ _ ?_));clear hK K)|((with_reducible refine zV ?_ ?_ fun K1 K3 d hdst h1 h3=>?_);rfl;exact yB rfl;cases hdst;go_simp)|((with_reducible refine zW fun K1 K3 h1 h3=>?_);go_simp)|((first|refine h1 ?_|refine h3 ?_);clear h1 h3 K1 K3)|((first|refine zX (fun hb=>h1 ?_) (fun hb=>h3 ?_)|refine zX (fun hb=>h3 ?_) (fun hb=>h1 ?_))<;>(clear h1 h3 K1 K3;(try have hb2:=yC hb);(try have hb2:=yD hb);(try have hb2:=yE hb);(try have hb2:=yF hb);(try have hb2:=yG hb)))|(refine fun (K2:_→AHeap→Prop) hK2=>?_)|((with_reducible refine zY ?_ ?_);decide)|((with_reducible first|refine zZ ?_ (fun K hK=>?_)|refine yA ?_ (fun K hK=>?_));(focus go_simp;done);go_simp;refine hK _ _ ?_;clear hK K)|((with_reducible refine yH mixed rfl ?_ 20 fun K0 hK0=>?_);kernel_rfl)|(with_reducible first|exact yI|exact yJ|refine yK ?_|refine yL ?_|refine yM ?_)|((with_reducible first|refine yN ?_ ?_|refine yO ?_ ?_|refine yP ?_ ?_);rfl)|((with_reducible refine yQ ?_ ?_);rfl;refine hK0 _ _ ?_;clear hK0 K0)|((with_reducible refine yR ?_ ?_ ?_ ?_);rfl;rfl;rfl)|((with_reducible refine yS ?_ ?_ ?_ fun K2 hK2=>?_);rfl;rfl;exact yB rfl)|((with_reducible refine yT ?_ ?_ ?_ ?_ fun K1 K3 d hdst h1 h3=>?_);rfl;rfl;rfl;exact yB rfl;cases hdst;go_simp)|((with_reducible refine yU ?_ ?_ ?_ ?_ fun K1 K3 d hdst h1 h3=>?_);rfl;rfl;rfl;exact yB rfl;cases hdst;go_simp)|((with_reducible refine yV ?_ ?_ (fun K2 hK2=>?_) ?_);rfl;exact yB rfl)|((with_reducible refine yW ?_ ?_ ?_ ?_ (fun K2 hK2=>?_) ?_);rfl;exact yB rfl;rfl;(focus go_simp;done))|((with_reducible refine yX ?_ ?_ ?_ (fun K2 hK2=>?_) ?_);rfl;rfl;exact yB rfl)|((with_reducible refine yY ?_ ?_ (fun K2 hK2=>?_) ?_);rfl;rfl)|((with_reducible refine yZ ?_ ?_);(first|rfl|(dsimp only;decide +kernel)))|((with_reducible refine xA ?_ ?_);(focus go_simp;done))|(go_simp;(try go_bits);(first|(refine hK2 _ _ ?_ ?_<;>clear hK2 K2)|(refine hK2 _ _ ?_;clear hK2 K2))))
      clear hk1 hk2 hk4 hk5
      refine CodeS.loop (fun m f H'' => ∃ d : Int, c.beg ≤ d ∧ d ≤ 731 ∧ m = (731 - d).toNat ∧ f.tmp 7 = .int .i64 d ∧ f.tmp 6 = .int .i64 k ∧ f.tmp 2 = .pointer (some ⟨H.n, 0, none⟩) ∧ f.tmp 3 = .pointer (some ⟨H.n + 1, 0, none⟩) ∧ f.tmp 5 = .slice va acc.length vc ∧ f.defers = [] ∧ Hid (∀ e, c.beg ≤ e → e < d → (hasOn s k e).offers w = false) ∧ H' = H'') (731 - (c.beg)).toNat ?_ ?_
      · exact ⟨c.beg, Int.le_refl _, HDR.out, rfl, (by first|go_simp<;>go_num|assumption), (by first|go_simp<;>go_num|assumption), (by first|go_simp<;>go_num|assumption), (by first|go_simp<;>go_num|assumption), (by first|go_simp<;>go_num|assumption), (by first|go_simp<;>go_num|assumption), Lib.hid (fun e h1 h2 => by omega), rfl⟩
      clear f6 f2 f3 f5 hd f
      rintro m f H9 ⟨d, hd1', hd2', rfl, f7, f6, f2, f3, f5, hd, HNO, hH9⟩
      subst hH9
      have hcn2 := fun (loops : List (Nat × LInfo)) => HCAN.out loops d
      have HFI : Hid ((hasOn s k d).offers w = true ∨ c.fin < d → (courseOf s c).nx k (max 0 (lowL p acc k)) = if d ≤ c.fin then d else 731) := Lib.hid (fun h => HNK.out d (by rw [← HD.out]; exact hd1') (fun e h1 h2 => by rw [HWD.out]; exact HNO.out e (by rw [HD.out]; exact h1) h2) (fun h1 => by rw [HWD.out]; rcases h with h | h; exact h; omega))
      have HNO2 : Hid ((hasOn s k d).offers w = false → ∀ e, c.beg ≤ e → e < d + 1 → (hasOn s k e).offers w = false) := Lib.hid (fun h e h1 h2 => by
        by_cases h3 : e = d
        · rw [h3]; exact h
        · exact HNO.out e h1 (by omega))
      generalize (hasOn s k d).offers w = bb at hcn2 HFI HNO2
      have HCN := Lib.hid hcn2
      clear hcn2
      repeat' (first|(with_reducible first|refine zA ?_|refine zB fun K hK=>?_|refine zC fun K2 hK2=>?_|refine zD ?_|refine zE ?_|refine zF ?_|refine zG ?_|refine zH ?_|refine zI ?_|refine zM ?_|refine zN ?_|refine zO ?_|refine zP ?_|refine zQ ?_|refine zR ?_)|((with_reducible refine zU (hK _ _ ?_));clear hK K)|((with_reducible refine zV ?_ ?_ fun K1 K3 d hdst h1 h3=>?_);rfl;exact yB rfl;cases hdst;go_simp)|((with_reducible refine zW fun K1 K3 h1 h3=>?_);go_simp)|((first|refine h1 ?_|refine h3 ?_);clear h1 h3 K1 K3)|((first|refine zX (fun hb=>h1 ?_) (fun hb=>h3 ?_)|refine zX (fun hb=>h3 ?_) (fun hb=>h1 ?_))<;>(clear h1 h3 K1 K3;(try have hb2:=yC hb);(try have hb2:=yD hb);(try have hb2:=yE hb);(try have hb2:=yF hb);(try have hb2:=yG hb)))|(refine fun (K2:_→AHeap→Prop) hK2=>?_)|((with_reducible refine zY ?_ ?_);decide)|((with_reducible first|refine zZ ?_ (fun K hK=>?_)|refine yA ?_ (fun K hK=>?_));(focus go_simp;done);go_simp;refine hK _ _ ?_;clear hK K)|((with_reducible refine yH mixed rfl ?_ 20 fun K0 hK0=>?_);kernel_rfl)|(with_reducible first|exact yI|exact yJ|refine yK ?_|refine yL ?_|refine yM ?_)|((with_reducible first|refine yN ?_ ?_|refine yO ?_ ?_|refine yP ?_ ?_);rfl)|((with_reducible refine yQ ?_ ?_);rfl;refine hK0 _ _ ?_;clear hK0 K0)|((with_reducible refine yR ?_ ?_ ?_ ?_);rfl;rfl;rfl)|((with_reducible refine yS ?_ ?_ ?_ fun K2 hK2=>?_);rfl;rfl;exact yB rfl)|((with_reducible refine yT ?_ ?_ ?_ ?_ fun K1 K3 d hdst h1 h3=>?_);rfl;rfl;rfl;exact yB rfl;cases hdst;go_simp)|((with_reducible refine yU ?_ ?_ ?_ ?_ fun K1 K3 d hdst h1 h3=>?_);rfl;rfl;rfl;exact yB rfl;cases hdst;go_simp)|((with_reducible refine yV ?_ ?_ (fun K2 hK2=>?_) ?_);rfl;exact yB rfl)|((with_reducible refine yW ?_ ?_ ?_ ?_ (fun K2 hK2=>?_) ?_);rfl;exact yB rfl;rfl;(focus go_simp;done))|((with_reducible refine yX ?_ ?_ ?_ (fun K2 hK2=>?_) ?_);rfl;rfl;exact yB rfl)|((with_reducible refine yY ?_ ?_ (fun K2 hK2=>?_) ?_);rfl;rfl)|((with_reducible refine yZ ?_ ?_);(first|rfl|(dsimp only;decide +kernel)))|((with_reducible refine xA ?_ ?_);(focus go_simp;done))|(go_simp;(try go_bits);(try first | ((with_reducible show CallS _ _ _ _ _ _);refine CallS.mono (HCN.out _) ?_; rintro _ _ ⟨rfl, h9⟩; rw [h9]; clear h9) | ((refine one_k el22 sz3 ze3 rfl (by decide) (by decide) rfl rfl ?_); go_simp) | ((refine append_k2 el22 sz3 by3 ze3 rfl (by decide) (HO.out.ext (Ext.push _)) (srcCells_new rfl) (by decide) rfl (by rw [List.all_append, oneV_list_int]; rfl) HBIG.out (by simp only [AHeap.n_push]; omega) fun v2 H4 ho4 hg4 => ?_); (have HO4 := Lib.hid ho4); (have HG4 := Lib.hid hg4); clear ho4 hg4; go_simp));(first|(refine hK2 _ _ ?_ ?_<;>clear hK2 K2)|(refine hK2 _ _ ?_;clear hK2 K2))))
      all_goals first
        | (exfalso; omega)
        | (have hbf : bb = false := by simpa using ‹(!bb) = true›
           refine Post.round_normal ⟨(731 - (d + 1)).toNat, by omega, d + 1, by omega, by omega, rfl, (by first|go_simp<;>go_num|assumption), (by first|go_simp<;>go_num|assumption), (by first|go_simp<;>go_num|assumption), (by first|go_simp<;>go_num|assumption), (by first|go_simp<;>go_num|assumption), (by first|go_simp<;>go_num|assumption), Lib.hid (HNO2.out hbf), rfl⟩)
        | (refine ⟨?_, HX.out⟩
           have h9 := HFI.out (.inr (by omega))
           rw [if_neg (by omega)] at h9
           have hr : acc = res := by rw [← HG.out, HST.out, if_pos h9]
           rw [← hr]
           exact HO.out.mono (by omega))
        | (have hbt : bb = true := by simpa using ‹(!bb) = false›
           have h9 := HFI.out (.inl hbt)
           rw [if_pos (by omega)] at h9
           have hx4 : Ext H H4 := HG4.out.ext (HO.out.ext (Ext.push _)) (by omega) (HX.out.push' _)
           have hk4' : ∀ i, i < H.n + 2 → H4.get i = H'.get i := fun i hi => by
             rw [HG4.out.2 i (by simp only [AHeap.n_push]; omega) (fun b n hv hn => by have := (own_block HO.out hv hn).1; omega), AHeap.get_push_old (by omega)]
           refine Post.round_normal ⟨c.words.length - (k + 1), by omega, k + 1, v2, acc ++ [d], by omega, by have := HAK.out; simp; omega, rfl, (by first|go_simp<;>go_num|assumption), (by first|go_simp<;>go_num|assumption), (by first|go_simp<;>go_num|assumption), (by first|go_simp<;>go_num|assumption), (by first|go_simp<;>go_num|assumption), Lib.hid ?_, Lib.hid ?_, ?_, Lib.hid hx4, Lib.hid ?_, Lib.hid ?_, Lib.hid ?_⟩
           · rw [← HG.out, HST.out, h9, if_neg (by omega)]
           · intro y hy
             rcases List.mem_append.1 hy with h | h
             · exact HB.out y h
             · rw [List.mem_singleton.1 h]; omega
           · have := HG4.out.1; simp only [AHeap.n_push] at this; omega
           · rw [hk4' _ (by omega)]; exact HG0.out
           · rw [hk4' _ (by omega)]; exact HG1.out
           · rw [List.map_append]; exact HO4.out.mono (by simp only [AHeap.n_push]; omega))
    · obtain ⟨b1, o1, sp1, rfl, hb1', hx1⟩ := HI.out.at_ (k := k - 1) (by have := HAK.out; omega)
      have hg1 : Hid (acc.getD (k - 1) 0 = acc[k - 1]'(by have := HAK.out; omega)) := Lib.hid (by simp [List.getD_eq_getElem?_getD, show k - 1 < acc.length by (have := HAK.out; omega)])
      have hy1 := (HGT.out (k - 1) (by omega)).out
      rw [hg1.out] at hy1
      generalize acc[k - 1]'(by have := HAK.out; omega) = y1 at hx1 hg1 hy1
      obtain ⟨hy1a, hy1b⟩ := hy1
      have h0i : (0 : Int) ≤ (k : Int) - 1 := by omega
      have h1i : (k : Int) - 1 < (acc.length : Int) := by have := HAK.out; omega
      have h2i : (1 : Int) ≤ (k : Int) := by omega
      have h3i : 1 ≤ k := by omega
      have h4i : k ≤ acc.length := by have := HAK.out; omega
      by_cases hpk : p ≤ k
      · obtain ⟨b2, o2, sp2, he2, hb2', hx2⟩ := HI.out.at_ (k := k - p) (by have := HAK.out; omega)
        cases he2
        have hg2 : Hid (acc.getD (k - p) 0 = acc[k - p]'(by have := HAK.out; omega)) := Lib.hid (by simp [List.getD_eq_getElem?_getD, show k - p < acc.length by (have := HAK.out; omega)])
        have hy2 := (HGT.out (k - p) (by omega)).out
        rw [hg2.out] at hy2
        generalize acc[k - p]'(by have := HAK.out; omega) = y2 at hx2 hg2 hy2
        obtain ⟨hy2a, hy2b⟩ := hy2
        have j0 : (0 : Int) ≤ (k : Int) - p := by omega
        have j1 : (k : Int) - p < (acc.length : Int) := by have := HAK.out; omega
        have j2 : (p : Int) ≤ (k : Int) := by omega
        have j3 : ((k : Int) - (p : Int)).toNat = k - p := by omega
        have HD : Hid (max (max c.beg y1) (y2 + 1) = max c.beg (lowL p acc k)) := Lib.hid (by
          have : lowL p acc k = max y1 (y2 + 1) := by simp only [lowL, if_pos hpk, if_pos h3i, hg1.out, hg2.out]
          omega)
        have HDR : Hid (max (max c.beg y1) (y2 + 1) ≤ 731) := Lib.hid (by omega)
        repeat' (first|(with_reducible first|refine zA ?_|refine zB fun K hK=>?_|refine zC fun K2 hK2=>?_|refine zD ?_|refine zE ?_|refine zF ?_|refine zG ?_|refine zH ?_|refine zI ?_|refine zM ?_|refine zN ?_|refine zO ?_|refine zP ?_|refine zQ ?_|refine zR ?_)|((with_reducible refine zU (hK _ _ ?_));clear hK K)|((with_reducible refine zV ?_ ?_ fun K1 K3 d hdst h1 h3=>?_);rfl;exact yB rfl;cases hdst;go_simp)|((with_reducible refine zW fun K1 K3 h1 h3=>?_);go_simp)|((first|refine h1 ?_|refine h3 ?_);clear h1 h3 K1 K3)|((first|refine zX (fun hb=>h1 ?_) (fun hb=>h3 ?_)|refine zX (fun hb=>h3 ?_) (fun hb=>h1 ?_))<;>(clear h1 h3 K1 K3;(try have hb2:=yC hb);(try have hb2:=yD hb);(try have hb2:=yE hb);(try have hb2:=yF hb);(try have hb2:=yG hb)))|(refine fun (K2:_→AHeap→Prop) hK2=>?_)|((with_reducible refine zY ?_ ?_);decide)|((with_reducible first|refine zZ ?_ (fun K hK=>?_)|refine yA ?_ (fun K hK=>?_));(focus go_simp;done);go_simp;refine hK _ _ ?_;clear hK K)|((with_reducible refine yH mixed rfl ?_ 20 fun K0 hK0=>?_);kernel_rfl)|(with_reducible first|exact yI|exact yJ|refine yK ?_|refine yL ?_|refine yM ?_)|((with_reducible first|refine yN ?_ ?_|refine yO ?_ ?_|refine yP ?_ ?_);rfl)|((with_reducible refine yQ ?_ ?_);rfl;refine hK0 _ _ ?_;clear hK0 K0)|((with_reducible refine yR ?_ ?_ ?_ ?_);rfl;rfl;rfl)|((with_reducible refine yS ?_ ?_ ?_ fun K2 hK2=>?_);rfl;rfl;exact yB rfl)|((with_reducible refine yT ?_ ?_ ?_ ?_ fun K1 K3 d hdst h1 h3=>?_);rfl;rfl;rfl;exact yB rfl;cases hdst;go_simp)|((with_reducible refine yU ?_ ?_ ?_ ?_ fun K1 K3 d hdst h1 h3=>?_);rfl;rfl;rfl;exact yB rfl;cases hdst;go_simp)|((with_reducible refine yV ?_ ?_ (fun K2 hK2=>?_) ?_);rfl;exact yB rfl)|((with_reducible refine yW ?_ ?_ ?_ ?_ (fun K2 hK2=>?_) ?_);rfl;exact yB rfl;rfl;(focus go_simp;done))|((with_reducible refine yX ?_ ?_ ?_ (fun K2 hK2=>?_) ?_);rfl;rfl;exact yB rfl)|((with_reducible refine yY ?_ ?_ (fun K2 hK2=>?_) ?_);rfl;rfl)|((with_reducible refine yZ ?_ ?_);(first|rfl|(dsimp only;decide +kernel)))|((with_reducible refine xA ?_ ?_);(focus go_simp;done))|(go_simp;(try go_bits);(first|(refine hK2 _ _ ?_ ?_<;>clear hK2 K2)|(refine hK2 _ _ ?_;clear hK2 K2))))
        refine CodeS.loop (fun m f H'' => ∃ d : Int, max (max c.beg y1) (y2 + 1) ≤ d ∧ d ≤ 731 ∧ m = (731 - d).toNat ∧ f.tmp 7 = .int .i64 d ∧ f.tmp 6 = .int .i64 k ∧ f.tmp 2 = .pointer (some ⟨H.n, 0, none⟩) ∧ f.tmp 3 = .pointer (some ⟨H.n + 1, 0, none⟩) ∧ f.tmp 5 = .slice (some ⟨b1, o1, sp1⟩) acc.length vc ∧ f.defers = [] ∧ Hid (∀ e, max (max c.beg y1) (y2 + 1) ≤ e → e < d → (hasOn s k e).offers w = false) ∧ H' = H'') (731 - (max (max c.beg y1) (y2 + 1))).toNat ?_ ?_
        · exact ⟨max (max c.beg y1) (y2 + 1), Int.le_refl _, HDR.out, rfl, (by first|go_simp<;>go_num|assumption), (by first|go_simp<;>go_num|assumption), (by first|go_simp<;>go_num|assumption), (by first|go_simp<;>go_num|assumption), (by first|go_simp<;>go_num|assumption), (by first|go_simp<;>go_num|assumption), Lib.hid (fun e h1 h2 => by omega), rfl⟩
        clear f6 f2 f3 f5 hd f
        rintro m f H9 ⟨d, hd1', hd2', rfl, f7, f6, f2, f3, f5, hd, HNO, hH9⟩
        subst hH9
        have hcn2 := fun (loops : List (Nat × LInfo)) => HCAN.out loops d
        have HFI : Hid ((hasOn s k d).offers w = true ∨ c.fin < d → (courseOf s c).nx k (max 0 (lowL p acc k)) = if d ≤ c.fin then d else 731) := Lib.hid (fun h => HNK.out d (by rw [← HD.out]; exact hd1') (fun e h1 h2 => by rw [HWD.out]; exact HNO.out e (by rw [HD.out]; exact h1) h2) (fun h1 => by rw [HWD.out]; rcases h with h | h; exact h; omega))
        have HNO2 : Hid ((hasOn s k d).offers w = false → ∀ e, max (max c.beg y1) (y2 + 1) ≤ e → e < d + 1 → (hasOn s k e).offers w = false) := Lib.hid (fun h e h1 h2 => by
          by_cases h3 : e = d
          · rw [h3]; exact h
          · exact HNO.out e h1 (by omega))
        generalize (hasOn s k d).offers w = bb at hcn2 HFI HNO2
        have HCN := Lib.hid hcn2
        clear hcn2
        repeat' (first|(with_reducible first|refine zA ?_|refine zB fun K hK=>?_|refine zC fun K2 hK2=>?_|refine zD ?_|refine zE ?_|refine zF ?_|refine zG ?_|refine zH ?_|refine zI ?_|refine zM ?_|refine zN ?_|refine zO ?_|refine zP ?_|refine zQ ?_|refine zR ?_)|((with_reducible refine zU (hK _ _ ?_));clear hK K)|((with_reducible refine zV ?_ ?_ fun K1 K3 d hdst h1 h3=>?_);rfl;exact yB rfl;cases hdst;go_simp)|((with_reducible refine zW fun K1 K3 h1 h3=>?_);go_simp)|((first|refine h1 ?_|refine h3 ?_);clear h1 h3 K1 K3)|((first|refine zX (fun hb=>h1 ?_) (fun hb=>h3 ?_)|refine zX (fun hb=>h3 ?_) (fun hb=>h1 ?_))<;>(clear h1 h3 K1 K3;(try have hb2:=yC hb);(try have hb2:=yD hb);(try have hb2:=yE hb);(try have hb2:=yF hb);(try have hb2:=yG hb)))|(refine fun (K2:_→AHeap→Prop) hK2=>?_)|((with_reducible refine zY ?_ ?_);decide)|((with_reducible first|refine zZ ?_ (fun K hK=>?_)|refine yA ?_ (fun K hK=>?_));(focus go_simp;done);go_simp;refine hK _ _ ?_;clear hK K)|((with_reducible refine yH mixed rfl ?_ 20 fun K0 hK0=>?_);kernel_rfl)|(with_reducible first|exact yI|exact yJ|refine yK ?_|refine yL ?_|refine yM ?_)|((with_reducible first|refine yN ?_ ?_|refine yO ?_ ?_|refine yP ?_ ?_);rfl)|((with_reducible refine yQ ?_ ?_);rfl;refine hK0 _ _ ?_;clear hK0 K0)|((with_reducible refine yR ?_ ?_ ?_ ?_);rfl;rfl;rfl)|((with_reducible refine yS ?_ ?_ ?_ fun K2 hK2=>?_);rfl;rfl;exact yB rfl)|((with_reducible refine yT ?_ ?_ ?_ ?_ fun K1 K3 d hdst h1 h3=>?_);rfl;rfl;rfl;exact yB rfl;cases hdst;go_simp)|((with_reducible refine yU ?_ ?_ ?_ ?_ fun K1 K3 d hdst h1 h3=>?_);rfl;rfl;rfl;exact yB rfl;cases hdst;go_simp)|((with_reducible refine yV ?_ ?_ (fun K2 hK2=>?_) ?_);rfl;exact yB rfl)|((with_reducible refine yW ?_ ?_ ?_ ?_ (fun K2 hK2=>?_) ?_);rfl;exact yB rfl;rfl;(focus go_simp;done))|((with_reducible refine yX ?_ ?_ ?_ (fun K2 hK2=>?_) ?_);rfl;rfl;exact yB rfl)|((with_reducible refine yY ?_ ?_ (fun K2 hK2=>?_) ?_);rfl;rfl)|((with_reducible refine yZ ?_ ?_);(first|rfl|(dsimp only;decide +kernel)))|((with_reducible refine xA ?_ ?_);(focus go_simp;done))|(go_simp;(try go_bits);(try first | ((with_reducible show CallS _ _ _ _ _ _);refine CallS.mono (HCN.out _) ?_; rintro _ _ ⟨rfl, h9⟩; rw [h9]; clear h9) | ((refine one_k el22 sz3 ze3 rfl (by decide) (by decide) rfl rfl ?_); go_simp) | ((refine append_k2 el22 sz3 by3 ze3 rfl (by decide) (HO.out.ext (Ext.push _)) (srcCells_new rfl) (by decide) rfl (by rw [List.all_append, oneV_list_int]; rfl) HBIG.out (by simp only [AHeap.n_push]; omega) fun v2 H4 ho4 hg4 => ?_); (have HO4 := Lib.hid ho4); (have HG4 := Lib.hid hg4); clear ho4 hg4; go_simp));(first|(refine hK2 _ _ ?_ ?_<;>clear hK2 K2)|(refine hK2 _ _ ?_;clear hK2 K2))))
        all_goals first
          | (exfalso; omega)
          | (have hbf : bb = false := by simpa using ‹(!bb) = true›
             refine Post.round_normal ⟨(731 - (d + 1)).toNat, by omega, d + 1, by omega, by omega, rfl, (by first|go_simp<;>go_num|assumption), (by first|go_simp<;>go_num|assumption), (by first|go_simp<;>go_num|assumption), (by first|go_simp<;>go_num|assumption), (by first|go_simp<;>go_num|assumption), (by first|go_simp<;>go_num|assumption), Lib.hid (HNO2.out hbf), rfl⟩)
          | (refine ⟨?_, HX.out⟩
             have h9 := HFI.out (.inr (by omega))
             rw [if_neg (by omega)] at h9
             have hr : acc = res := by rw [← HG.out, HST.out, if_pos h9]
             rw [← hr]
             exact HO.out.mono (by omega))
          | (have hbt : bb = true := by simpa using ‹(!bb) = false›
             have h9 := HFI.out (.inl hbt)
             rw [if_pos (by omega)] at h9
             have hx4 : Ext H H4 := HG4.out.ext (HO.out.ext (Ext.push _)) (by omega) (HX.out.push' _)
             have hk4' : ∀ i, i < H.n + 2 → H4.get i = H'.get i := fun i hi => by
               rw [HG4.out.2 i (by simp only [AHeap.n_push]; omega) (fun b n hv hn => by have := (own_block HO.out hv hn).1; omega), AHeap.get_push_old (by omega)]
             refine Post.round_normal ⟨c.words.length - (k + 1), by omega, k + 1, v2, acc ++ [d], by omega, by have := HAK.out; simp; omega, rfl, (by first|go_simp<;>go_num|assumption), (by first|go_simp<;>go_num|assumption), (by first|go_simp<;>go_num|assumption), (by first|go_simp<;>go_num|assumption), (by first|go_simp<;>go_num|assumption), Lib.hid ?_, Lib.hid ?_, ?_, Lib.hid hx4, Lib.hid ?_, Lib.hid ?_, Lib.hid ?_⟩
             · rw [← HG.out, HST.out, h9, if_neg (by omega)]
             · intro y hy
               rcases List.mem_append.1 hy with h | h
               · exact HB.out y h
               · rw [List.mem_singleton.1 h]; omega
             · have := HG4.out.1; simp only [AHeap.n_push] at this; omega
             · rw [hk4' _ (by omega)]; exact HG0.out
             · rw [hk4' _ (by omega)]; exact HG1.out
             · rw [List.map_append]; exact HO4.out.mono (by simp only [AHeap.n_push]; omega))
      · have j2 : ¬ ((p : Int) ≤ (k : Int)) := by omega
        have HD : Hid (max c.beg y1 = max c.beg (lowL p acc k)) := Lib.hid (by
          have : lowL p acc k = y1 := by simp only [lowL, if_neg hpk, if_pos h3i, hg1.out]
          omega)
        have HDR : Hid (max c.beg y1 ≤ 731) := Lib.hid (by omega)
        repeat' (first|(with_reducible first|refine zA ?_|refine zB fun K hK=>?_|refine zC fun K2 hK2=>?_|refine zD ?_|refine zE ?_|refine zF ?_|refine zG ?_|refine zH ?_|refine zI ?_|refine zM ?_|refine zN ?_|refine zO ?_|refine zP ?_|refine zQ ?_|refine zR ?_)|((with_reducible refine zU (hK _ _ ?_));clear hK K)|((with_reducible refine zV ?_ ?_ fun K1 K3 d hdst h1 h3=>?_);rfl;exact yB rfl;cases hdst;go_simp)|((with_reducible refine zW fun K1 K3 h1 h3=>?_);go_simp)|((first|refine h1 ?_|refine h3 ?_);clear h1 h3 K1 K3)|((first|refine zX (fun hb=>h1 ?_) (fun hb=>h3 ?_)|refine zX (fun hb=>h3 ?_) (fun hb=>h1 ?_))<;>(clear h1 h3 K1 K3;(try have hb2:=yC hb);(try have hb2:=yD hb);(try have hb2:=yE hb);(try have hb2:=yF hb);(try have hb2:=yG hb)))|(refine fun (K2:_→AHeap→Prop) hK2=>?_)|((with_reducible refine zY ?_ ?_);decide)|((with_reducible first|refine zZ ?_ (fun K hK=>?_)|refine yA ?_ (fun K hK=>?_));(focus go_simp;done);go_simp;refine hK _ _ ?_;clear hK K)|((with_reducible refine yH mixed rfl ?_ 20 fun K0 hK0=>?_);kernel_rfl)|(with_reducible first|exact yI|exact yJ|refine yK ?_|refine yL ?_|refine yM ?_)|((with_reducible first|refine yN ?_ ?_|refine yO ?_ ?_|refine yP ?_ ?_);rfl)|((with_reducible refine yQ ?_ ?_);rfl;refine hK0 _ _ ?_;clear hK0 K0)|((with_reducible refine yR ?_ ?_ ?_ ?_);rfl;rfl;rfl)|((with_reducible refine yS ?_ ?_ ?_ fun K2 hK2=>?_);rfl;rfl;exact yB rfl)|((with_reducible refine yT ?_ ?_ ?_ ?_ fun K1 K3 d hdst h1 h3=>?_);rfl;rfl;rfl;exact yB rfl;cases hdst;go_simp)|((with_reducible refine yU ?_ ?_ ?_ ?_ fun K1 K3 d hdst h1 h3=>?_);rfl;rfl;rfl;exact yB rfl;cases hdst;go_simp)|((with_reducible refine yV ?_ ?_ (fun K2 hK2=>?_) ?_);rfl;exact yB rfl)|((with_reducible refine yW ?_ ?_ ?_ ?_ (fun K2 hK2=>?_) ?_);rfl;exact yB rfl;rfl;(focus go_simp;done))|((with_reducible refine yX ?_ ?_ ?_ (fun K2 hK2=>?_) ?_);rfl;rfl;exact yB rfl)|((with_reducible refine yY ?_ ?_ (fun K2 hK2=>?_) ?_);rfl;rfl)|((with_reducible refine yZ ?_ ?_);(first|rfl|(dsimp only;decide +kernel)))|((with_reducible refine xA ?_ ?_);(focus go_simp;done))|(go_simp;(try go_bits);(first|(refine hK2 _ _ ?_ ?_<;>clear hK2 K2)|(refine hK2 _ _ ?_;clear hK2 K2))))
        refine CodeS.loop (fun m f H'' => ∃ d : Int, max c.beg y1 ≤ d ∧ d ≤ 731 ∧ m = (731 - d).toNat ∧ f.tmp 7 = .int .i64 d ∧ f.tmp 6 = .int .i64 k ∧ f.tmp 2 = .pointer (some ⟨H.n, 0, none⟩) ∧ f.tmp 3 = .pointer (some ⟨H.n + 1, 0, none⟩) ∧ f.tmp 5 = .slice (some ⟨b1, o1, sp1⟩) acc.length vc ∧ f.defers = [] ∧ Hid (∀ e, max c.beg y1 ≤ e → e < d → (hasOn s k e).offers w = false) ∧ H' = H'') (731 - (max c.beg y1)).toNat ?_ ?_
        · exact ⟨max c.beg y1, Int.le_refl _, HDR.out, rfl, (by first|go_simp<;>go_num|assumption), (by first|go_simp<;>go_num|assumption), (by first|go_simp<;>go_num|assumption), (by first|go_simp<;>go_num|assumption), (by first|go_simp<;>go_num|assumption), (by first|go_simp<;>go_num|assumption), Lib.hid (fun e h1 h2 => by omega), rfl⟩
        clear f6 f2 f3 f5 hd f
        rintro m f H9 ⟨d, hd1', hd2', rfl, f7, f6, f2, f3, f5, hd, HNO, hH9⟩
        subst hH9
        have hcn2 := fun (loops : List (Nat × LInfo)) => HCAN.out loops d
        have HFI : Hid ((hasOn s k d).offers w = true ∨ c.fin < d → (courseOf s c).nx k (max 0 (lowL p acc k)) = if d ≤ c.fin then d else 731) := Lib.hid (fun h => HNK.out d (by rw [← HD.out]; exact hd1') (fun e h1 h2 => by rw [HWD.out]; exact HNO.out e (by rw [HD.out]; exact h1) h2) (fun h1 => by rw [HWD.out]; rcases h with h | h; exact h; omega))
        have HNO2 : Hid ((hasOn s k d).offers w = false → ∀ e, max c.beg y1 ≤ e → e < d + 1 → (hasOn s k e).offers w = false) := Lib.hid (fun h e h1 h2 => by
          by_cases h3 : e = d
          · rw [h3]; exact h
          · exact HNO.out e h1 (by omega))
        generalize (hasOn s k d).offers w = bb at hcn2 HFI HNO2
        have HCN := Lib.hid hcn2
        clear hcn2
        repeat' (first|(with_reducible first|refine zA ?_|refine zB fun K hK=>?_|refine zC fun K2 hK2=>?_|refine zD ?_|refine zE ?_|refine zF ?_|refine zG ?_|refine zH ?_|refine zI ?_|refine zM ?_|refine zN ?_|refine zO ?_|refine zP ?_|refine zQ ?_|refine zR ?_)|((with_reducible refine zU (hK _ _ ?_));clear hK K)|((with_reducible refine zV ?_ ?_ fun K1 K3 d hdst h1 h3=>?_);rfl;exact yB rfl;cases hdst;go_simp)|((with_reducible refine zW fun K1 K3 h1 h3=>?_);go_simp)|((first|refine h1 ?_|refine h3 ?_);clear h1 h3 K1 K3)|((first|refine zX (fun hb=>h1 ?_) (fun hb=>h3 ?_)|refine zX (fun hb=>h3 ?_) (fun hb=>h1 ?_))<;>(clear h1 h3 K1 K3;(try have hb2:=yC hb);(try have hb2:=yD hb);(try have hb2:=yE hb);(try have hb2:=yF hb);(try have hb2:=yG hb)))|(refine fun (K2:_→AHeap→Prop) hK2=>?_)|((with_reducible refine zY ?_ ?_);decide)|((with_reducible first|refine zZ ?_ (fun K hK=>?_)|refine yA ?_ (fun K hK=>?_));(focus go_simp;done);go_simp;refine hK _ _ ?_;clear hK K)|((with_reducible refine yH mixed rfl ?_ 20 fun K0 hK0=>?_);kernel_rfl)|(with_reducible first|exact yI|exact yJ|refine yK ?_|refine yL ?_|refine yM ?_)|((with_reducible first|refine yN ?_ ?_|refine yO ?_ ?_|refine yP ?_ ?_);rfl)|((with_reducible refine yQ ?_ ?_);rfl;refine hK0 _ _ ?_;clear hK0 K0)|((with_reducible refine yR ?_ ?_ ?_ ?_);rfl;rfl;rfl)|((with_reducible refine yS ?_ ?_ ?_ fun K2 hK2=>?_);rfl;rfl;exact yB rfl)|((with_reducible refine yT ?_ ?_ ?_ ?_ fun K1 K3 d hdst h1 h3=>?_);rfl;rfl;rfl;exact yB rfl;cases hdst;go_simp)|((with_reducible refine yU ?_ ?_ ?_ ?_ fun K1 K3 d hdst h1 h3=>?_);rfl;rfl;rfl;exact yB rfl;cases hdst;go_simp)|((with_reducible refine yV ?_ ?_ (fun K2 hK2=>?_) ?_);rfl;exact yB rfl)|((with_reducible refine yW ?_ ?_ ?_ ?_ (fun K2 hK2=>?_) ?_);rfl;exact yB rfl;rfl;(focus go_simp;done))|((with_reducible refine yX ?_ ?_ ?_ (fun K2 hK2=>?_) ?_);rfl;rfl;exact yB rfl)|((with_reducible refine yY ?_ ?_ (fun K2 hK2=>?_) ?_);rfl;rfl)|((with_reducible refine yZ ?_ ?_);(first|rfl|(dsimp only;decide +kernel)))|((with_reducible refine xA ?_ ?_);(focus go_simp;done))|(go_simp;(try go_bits);(try first | ((with_reducible show CallS _ _ _ _ _ _);refine CallS.mono (HCN.out _) ?_; rintro _ _ ⟨rfl, h9⟩; rw [h9]; clear h9) | ((refine one_k el22 sz3 ze3 rfl (by decide) (by decide) rfl rfl ?_); go_simp) | ((refine append_k2 el22 sz3 by3 ze3 rfl (by decide) (HO.out.ext (Ext.push _)) (srcCells_new rfl) (by decide) rfl (by rw [List.all_append, oneV_list_int]; rfl) HBIG.out (by simp only [AHeap.n_push]; omega) fun v2 H4 ho4 hg4 => ?_); (have HO4 := Lib.hid ho4); (have HG4 := Lib.hid hg4); clear ho4 hg4; go_simp));(first|(refine hK2 _ _ ?_ ?_<;>clear hK2 K2)|(refine hK2 _ _ ?_;clear hK2 K2))))
        all_goals first
          | (exfalso; omega)
          | (have hbf : bb = false := by simpa using ‹(!bb) = true›
             refine Post.round_normal ⟨(731 - (d + 1)).toNat, by omega, d + 1, by omega, by omega, rfl, (by first|go_simp<;>go_num|assumption), (by first|go_simp<;>go_num|assumption), (by first|go_simp<;>go_num|assumption), (by first|go_simp<;>go_num|assumption), (by first|go_simp<;>go_num|assumption), (by first|go_simp<;>go_num|assumption), Lib.hid (HNO2.out hbf), rfl⟩)
          | (refine ⟨?_, HX.out⟩
             have h9 := HFI.out (.inr (by omega))
             rw [if_neg (by omega)] at h9
             have hr : acc = res := by rw [← HG.out, HST.out, if_pos h9]
             rw [← hr]
             exact HO.out.mono (by omega))
          | (have hbt : bb = true := by simpa using ‹(!bb) = false›
             have h9 := HFI.out (.inl hbt)
             rw [if_pos (by omega)] at h9
             have hx4 : Ext H H4 := HG4.out.ext (HO.out.ext (Ext.push _)) (by omega) (HX.out.push' _)
             have hk4' : ∀ i, i < H.n + 2 → H4.get i = H'.get i := fun i hi => by
               rw [HG4.out.2 i (by simp only [AHeap.n_push]; omega) (fun b n hv hn => by have := (own_block HO.out hv hn).1; omega), AHeap.get_push_old (by omega)]
             refine Post.round_normal ⟨c.words.length - (k + 1), by omega, k + 1, v2, acc ++ [d], by omega, by have := HAK.out; simp; omega, rfl, (by first|go_simp<;>go_num|assumption), (by first|go_simp<;>go_num|assumption), (by first|go_simp<;>go_num|assumption), (by first|go_simp<;>go_num|assumption), (by first|go_simp<;>go_num|assumption), Lib.hid ?_, Lib.hid ?_, ?_, Lib.hid hx4, Lib.hid ?_, Lib.hid ?_, Lib.hid ?_⟩
             · rw [← HG.out, HST.out, h9, if_neg (by omega)]
             · intro y hy
               rcases List.mem_append.1 hy with h | h
               · exact HB.out y h
               · rw [List.mem_singleton.1 h]; omega
             · have := HG4.out.1; simp only [AHeap.n_push] at this; omega
             · rw [hk4' _ (by omega)]; exact HG0.out
             · rw [hk4' _ (by omega)]; exact HG1.out
             · rw [List.map_append]; exact HO4.out.mono (by simp only [AHeap.n_push]; omega))
  · repeat' (first|(with_reducible first|refine zA ?_|refine zB fun K hK=>?_|refine zC fun K2 hK2=>?_|refine zD ?_|refine zE ?_|refine zF ?_|refine zG ?_|refine zH ?_|refine zI ?_|refine zM ?_|refine zN ?_|refine zO ?_|refine zP ?_|refine zQ ?_|refine zR ?_)|((with_reducible refine zU (hK _ _ ?_));clear hK K)|((with_reducible refine zV ?_ ?_ fun K1 K3 d hdst h1 h3=>?_);rfl;exact yB rfl;cases hdst;go_simp)|((with_reducible refine zW fun K1 K3 h1 h3=>?_);go_simp)|((first|refine h1 ?_|refine h3 ?_);clear h1 h3 K1 K3)|((first|refine zX (fun hb=>h1 ?_) (fun hb=>h3 ?_)|refine zX (fun hb=>h3 ?_) (fun hb=>h1 ?_))<;>(clear h1 h3 K1 K3;(try have hb2:=yC hb);(try have hb2:=yD hb);(try have hb2:=yE hb);(try have hb2:=yF hb);(try have hb2:=yG hb)))|(refine fun (K2:_→AHeap→Prop) hK2=>?_)|((with_reducible refine zY ?_ ?_);decide)|((with_reducible first|refine zZ ?_ (fun K hK=>?_)|refine yA ?_ (fun K hK=>?_));(focus go_simp;done);go_simp;refine hK _ _ ?_;clear hK K)|((with_reducible refine yH mixed rfl ?_ 20 fun K0 hK0=>?_);kernel_rfl)|(with_reducible first|exact yI|exact yJ|refine yK ?_|refine yL ?_|refine yM ?_)|((with_reducible first|refine yN ?_ ?_|refine yO ?_ ?_|refine yP ?_ ?_);rfl)|((with_reducible refine yQ ?_ ?_);rfl;refine hK0 _ _ ?_;clear hK0 K0)|((with_reducible refine yR ?_ ?_ ?_ ?_);rfl;rfl;rfl)|((with_reducible refine yS ?_ ?_ ?_ fun K2 hK2=>?_);rfl;rfl;exact yB rfl)|((with_reducible refine yT ?_ ?_ ?_ ?_ fun K1 K3 d hdst h1 h3=>?_);rfl;rfl;rfl;exact yB rfl;cases hdst;go_simp)|((with_reducible refine yU ?_ ?_ ?_ ?_ fun K1 K3 d hdst h1 h3=>?_);rfl;rfl;rfl;exact yB rfl;cases hdst;go_simp)|((with_reducible refine yV ?_ ?_ (fun K2 hK2=>?_) ?_);rfl;exact yB rfl)|((with_reducible refine yW ?_ ?_ ?_ ?_ (fun K2 hK2=>?_) ?_);rfl;exact yB rfl;rfl;(focus go_simp;done))|((with_reducible refine yX ?_ ?_ ?_ (fun K2 hK2=>?_) ?_);rfl;rfl;exact yB rfl)|((with_reducible refine yY ?_ ?_ (fun K2 hK2=>?_) ?_);rfl;rfl)|((with_reducible refine yZ ?_ ?_);(first|rfl|(dsimp only;decide +kernel)))|((with_reducible refine xA ?_ ?_);(focus go_simp;done))|(go_simp;(try go_bits);(first|(refine hK2 _ _ ?_ ?_<;>clear hK2 K2)|(refine hK2 _ _ ?_;clear hK2 K2))))
    refine ⟨?_, HX.out⟩
    have hr : acc = res := by rw [← HG.out, show c.words.length - k = 0 by omega]; rfl
    rw [← hr]
    exact HO.out.mono (by omega)
end Go.Proofs.Tryz
namespace Go.Proofs.Tryz
open Go Go.Am Go.RowKit Go.Co
set_option maxRecDepth 100000

theorem made_iff {s : Sheet} {c : Copy} : (courseOf s c).made c.per.toNat = decide (((courseOf s c).early c.per.toNat 0).length = c.words.length) := by
  rw [Course.made, courseOf_len]
theorem early_lenU {s : Sheet} {c : Copy} (he : errCopy s c = 0) : ((courseOf s c).early c.per.toNat 0).length ≤ c.words.length := by
  obtain ⟨-, -, -, -, -, -, hp1, -⟩ := errCopy_ok he
  rw [← courseOf_len s c]
  exact (early_ok (op := fun i => ins ((courseOf s c).at_ i)) (by omega) (fun i f => (courseOf s c).nx_ok (courseOf_ord he) i f) (courseOf s c).open_.length).1

theorem copied_s {loops : List (Nat × LInfo)} {H : AHeap} {sv cv : Value} {s : Sheet} {c : Copy} (hs : SheetV H sv s) (hc : CopyV H cv c) : CallS Tryz.prog loops 50 [sv, cv] H fun r H' => r = .int .i64 (errCopied s c) ∧ H' = H := by
  refine CallS.forget (R := fun v => v = .int .i64 (errCopied s c)) (by rintro v rfl; rfl) ?_
  have HV := Lib.hid hs
  have HC := Lib.hid hc
  have HFR := Lib.hid (fun (loops : List (Nat × LInfo)) (H2 : AHeap) (hx : Ext H H2) (he : errCopy s c = 0) => refFirst_e (loops := loops) (hs.ext hx) (hc.ext hx) he)
  obtain ⟨wv, av, rfl, hw, ha⟩ := hs
  obtain ⟨hwl, wa, wc, rfl⟩ := hw.slice
  obtain ⟨hal, aa, ac, rfl⟩ := ha.slice
  obtain ⟨cv, rfl, hcw⟩ := hc
  obtain ⟨hcl, ca, cc, rfl⟩ := hcw.slice
  clear hw ha hcw
  have HLE := Lib.hid (fun he => early_lenU (s := s) (c := c) he)
  have HM : Hid (errCopied s c = if errCopy s c ≠ 0 then errCopy s c else if decide (((courseOf s c).early c.per.toNat 0).length = c.words.length) = true then 0 else 9) := Lib.hid (by
    unfold errCopied
    split
    · rfl
    · rw [made_iff])
  generalize errCopied s c = r at HM
  generalize (courseOf s c).early c.per.toNat 0 = E at HFR HLE HM
  refine CallS.enter' Tryz.func50 rfl Tryz.ntmps50 (by simp) fun f hd hf => ?_
  have f0 := hf 0
  have f1 := hf 1
  simp at f0 f1
  clear hf
  have HX1 : Hid (Ext H ((H.push (.row [Value.slice wa s.words.length wc, Value.slice aa s.alts.length ac] 25)).push (.row [Value.slice ca c.words.length cc, .int .i64 c.beg, .int .i64 c.fin, .int .i64 c.per] 27))) := Lib.hid (((Ext.refl _).push' _).push' _)
  by_cases he : errCopy s c = 0
  · have HEC := Lib.hid he
    clear he
    repeat' (first|(with_reducible first|refine zA ?_|refine zB fun K hK=>?_|refine zC fun K2 hK2=>?_|refine zD ?_|refine zE ?_|refine zF ?_|refine zG ?_|refine zH ?_|refine zI ?_|refine zM ?_|refine zN ?_|refine zO ?_|refine zP ?_|refine zQ ?_|refine zR ?_)|((with_reducible refine zU (hK _ _ ?_));clear hK K)|((with_reducible refine zV ?_ ?_ fun K1 K3 d hdst h1 h3=>?_);rfl;exact yB rfl;cases hdst;go_simp)|((with_reducible refine zW fun K1 K3 h1 h3=>?_);go_simp)|((first|refine h1 ?_|refine h3 ?_);clear h1 h3 K1 K3)|((first|refine zX (fun hb=>h1 ?_) (fun hb=>h3 ?_)|refine zX (fun hb=>h3 ?_) (fun hb=>h1 ?_))<;>(clear h1 h3 K1 K3;(try have hb2:=yC hb);(try have hb2:=yD hb);(try have hb2:=yE hb);(try have hb2:=yF hb);(try have hb2:=yG hb)))|(refine fun (K2:_→AHeap→Prop) hK2=>?_)|((with_reducible refine zY ?_ ?_);decide)|((with_reducible first|refine zZ ?_ (fun K hK=>?_)|refine yA ?_ (fun K hK=>?_));(focus go_simp;done);go_simp;refine hK _ _ ?_;clear hK K)|((with_reducible refine yH mixed rfl ?_ 20 fun K0 hK0=>?_);kernel_rfl)|(with_reducible first|exact yI|exact yJ|refine yK ?_|refine yL ?_|refine yM ?_)|((with_reducible first|refine yN ?_ ?_|refine yO ?_ ?_|refine yP ?_ ?_);rfl)|((with_reducible refine yQ ?_ ?_);rfl;refine hK0 _ _ ?_;clear hK0 K0)|((with_reducible refine yR ?_ ?_ ?_ ?_);rfl;rfl;rfl)|((with_reducible refine yS ?_ ?_ ?_ fun K2 hK2=>?_);rfl;rfl;exact yB rfl)|((with_reducible refine yT ?_ ?_ ?_ ?_ fun K1 K3 d hdst h1 h3=>?_);rfl;rfl;rfl;exact yB rfl;cases hdst;go_simp)|((with_reducible refine yU ?_ ?_ ?_ ?_ fun K1 K3 d hdst h1 h3=>?_);rfl;rfl;rfl;exact yB rfl;cases hdst;go_simp)|((with_reducible refine yV ?_ ?_ (fun K2 hK2=>?_) ?_);rfl;exact yB rfl)|((with_reducible refine yW ?_ ?_ ?_ ?_ (fun K2 hK2=>?_) ?_);rfl;exact yB rfl;rfl;(focus go_simp;done))|((with_reducible refine yX ?_ ?_ ?_ (fun K2 hK2=>?_) ?_);rfl;rfl;exact yB rfl)|((with_reducible refine yY ?_ ?_ (fun K2 hK2=>?_) ?_);rfl;rfl)|((with_reducible refine yZ ?_ ?_);(first|rfl|(dsimp only;decide +kernel)))|((with_reducible refine xA ?_ ?_);(focus go_simp;done))|(go_simp;(try go_bits);(try first |((with_reducible show CallS _ _ _ _ _ _);first|(refine CallS.mono (refCheckCopy_s (s := s) (c := c) (HV.out.ext HX1.out) (HC.out.ext HX1.out)) ?_; rintro _ _ ⟨rfl, h9⟩; rw [h9, HEC.out]; clear h9)|(refine CallS.mono (HFR.out _ _ HX1.out HEC.out) ?_; rintro ev H2 ⟨hi, hx⟩; (have HI := Lib.hid (ints_of_own hi (by have := HLE.out HEC.out; omega))); (obtain ⟨-, ea, ec, rfl⟩ := HI.out.slice); (have HX := Lib.hid (HX1.out.trans hx)); (have hcc : cellAt H2 (H.n + 1) 0 = some (Value.slice ca c.words.length cc) := (hx.cellAt (by simp only [AHeap.n_push]; omega)).trans (by rw [← AHeap.n_push H, cellAt_new]; rfl)); (have hnn : H.n + 1 < H2.n := by have := hx.n; simp only [AHeap.n_push] at this; omega); clear hi hx)));(first|(refine hK2 _ _ ?_ ?_<;>clear hK2 K2)|(refine hK2 _ _ ?_;clear hK2 K2))))
    all_goals
      refine ⟨?_, HX.out⟩
      have h8 := HLE.out HEC.out
      rw [HM.out, if_neg (by simp [HEC.out])]
    · rw [if_neg (by simp; omega)]
    · rw [if_pos (by simp; omega)]
  · have he9 : ¬ errCopy s c = 0 := he
    repeat' (first|(with_reducible first|refine zA ?_|refine zB fun K hK=>?_|refine zC fun K2 hK2=>?_|refine zD ?_|refine zE ?_|refine zF ?_|refine zG ?_|refine zH ?_|refine zI ?_|refine zM ?_|refine zN ?_|refine zO ?_|refine zP ?_|refine zQ ?_|refine zR ?_)|((with_reducible refine zU (hK _ _ ?_));clear hK K)|((with_reducible refine zV ?_ ?_ fun K1 K3 d hdst h1 h3=>?_);rfl;exact yB rfl;cases hdst;go_simp)|((with_reducible refine zW fun K1 K3 h1 h3=>?_);go_simp)|((first|refine h1 ?_|refine h3 ?_);clear h1 h3 K1 K3)|((first|refine zX (fun hb=>h1 ?_) (fun hb=>h3 ?_)|refine zX (fun hb=>h3 ?_) (fun hb=>h1 ?_))<;>(clear h1 h3 K1 K3;(try have hb2:=yC hb);(try have hb2:=yD hb);(try have hb2:=yE hb);(try have hb2:=yF hb);(try have hb2:=yG hb)))|(refine fun (K2:_→AHeap→Prop) hK2=>?_)|((with_reducible refine zY ?_ ?_);decide)|((with_reducible first|refine zZ ?_ (fun K hK=>?_)|refine yA ?_ (fun K hK=>?_));(focus go_simp;done);go_simp;refine hK _ _ ?_;clear hK K)|((with_reducible refine yH mixed rfl ?_ 20 fun K0 hK0=>?_);kernel_rfl)|(with_reducible first|exact yI|exact yJ|refine yK ?_|refine yL ?_|refine yM ?_)|((with_reducible first|refine yN ?_ ?_|refine yO ?_ ?_|refine yP ?_ ?_);rfl)|((with_reducible refine yQ ?_ ?_);rfl;refine hK0 _ _ ?_;clear hK0 K0)|((with_reducible refine yR ?_ ?_ ?_ ?_);rfl;rfl;rfl)|((with_reducible refine yS ?_ ?_ ?_ fun K2 hK2=>?_);rfl;rfl;exact yB rfl)|((with_reducible refine yT ?_ ?_ ?_ ?_ fun K1 K3 d hdst h1 h3=>?_);rfl;rfl;rfl;exact yB rfl;cases hdst;go_simp)|((with_reducible refine yU ?_ ?_ ?_ ?_ fun K1 K3 d hdst h1 h3=>?_);rfl;rfl;rfl;exact yB rfl;cases hdst;go_simp)|((with_reducible refine yV ?_ ?_ (fun K2 hK2=>?_) ?_);rfl;exact yB rfl)|((with_reducible refine yW ?_ ?_ ?_ ?_ (fun K2 hK2=>?_) ?_);rfl;exact yB rfl;rfl;(focus go_simp;done))|((with_reducible refine yX ?_ ?_ ?_ (fun K2 hK2=>?_) ?_);rfl;rfl;exact yB rfl)|((with_reducible refine yY ?_ ?_ (fun K2 hK2=>?_) ?_);rfl;rfl)|((with_reducible refine yZ ?_ ?_);(first|rfl|(dsimp only;decide +kernel)))|((with_reducible refine xA ?_ ?_);(focus go_simp;done))|(go_simp;(try go_bits);(try first | ((with_reducible show CallS _ _ _ _ _ _);refine CallS.mono (refCheckCopy_s (s := s) (c := c) (HV.out.ext HX1.out) (HC.out.ext HX1.out)) ?_; rintro _ _ ⟨rfl, h9⟩; rw [h9]; clear h9));(first|(refine hK2 _ _ ?_ ?_<;>clear hK2 K2)|(refine hK2 _ _ ?_;clear hK2 K2))))
    all_goals first
      | (refine ⟨?_, HX1.out⟩; rw [HM.out, if_pos he9]; done)
      | (exfalso; exact he9 (by simpa using ‹(errCopy s c == 0) = true›))

def SheetsV (H : AHeap) (v : Value) (l : List Sheet) : Prop := l.length ≤ 9223372036854775807 ∧ ∃ a c, v = .slice a l.length c ∧ (0 < l.length → ∃ b o sp, a = some ⟨b, o, sp⟩ ∧ b < H.n ∧ ∀ k (h : k < l.length), ∃ wv av, cellsAt H b (o + k * 2) 2 = some [wv, av] ∧ SheetV H (.agg #[wv, av]) l[k])
theorem SheetsV.ext {H H' : AHeap} {v : Value} {l : List Sheet} (h : SheetsV H v l) (hx : Ext H H') : SheetsV H' v l := by
  obtain ⟨h1, a, c, h2, h3⟩ := h
  refine ⟨h1, a, c, h2, fun hn => ?_⟩
  obtain ⟨b, o, sp, h4, h5, h6⟩ := h3 hn
  refine ⟨b, o, sp, h4, Nat.lt_of_lt_of_le h5 hx.n, fun k hk => ?_⟩
  obtain ⟨wv, av, h7, h8⟩ := h6 k hk
  exact ⟨wv, av, by rw [hx.cellsAt h5]; exact h7, h8.ext hx⟩
theorem SheetsV.at_ {H : AHeap} {a : Option Addr} {n c : Nat} {l : List Sheet} (h : SheetsV H (.slice a n c) l) {k : Nat} (hk : k < l.length) : ∃ b o sp wv av, a = some ⟨b, o, sp⟩ ∧ b < H.n ∧ cellsAt H b (o + k * 2) 2 = some [wv, av] ∧ SheetV H (.agg #[wv, av]) l[k] := by
  obtain ⟨h1, a', c', h2, h3⟩ := h
  cases h2
  obtain ⟨b, o, sp, h4, h5, h6⟩ := h3 (by omega)
  obtain ⟨wv, av, h7, h8⟩ := h6 k hk
  exact ⟨b, o, sp, wv, av, h4, h5, h7, h8⟩
theorem SheetsV.slice {H : AHeap} {v : Value} {l : List Sheet} (h : SheetsV H v l) : l.length ≤ 9223372036854775807 ∧ ∃ a c, v = .slice a l.length c := by
  obtain ⟨h1, a, c, h2, h3⟩ := h
  exact ⟨h1, a, c, h2⟩

end Go.Proofs.Tryz
