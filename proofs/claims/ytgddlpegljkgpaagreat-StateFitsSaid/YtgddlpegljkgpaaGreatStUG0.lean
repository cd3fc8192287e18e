/- Contracts of functions, walked. -/
import Derived.Test.YtgddlpegljkgpaaGreatStTF
import Derived.Test.YtgddlpegljkgpaaGreatStSN
import Derived.Test.YtgddlpegljkgpaaGreatStSF
import Derived.Test.YtgddlpegljkgpaaGreatAwB
import Derived.Test.YtgddlpegljkgpaaGreatStSA
import Derived.Test.YtgddlpegljkgpaaGreatStSU
import Derived.Test.YtgddlpegljkgpaaGreatStS3
set_option linter.all false
namespace Go.Proofs.Tryz
open Go Go.Am Go.RowKit Go.Co
set_option maxRecDepth 100000

def errExt (s : Sheet) (c : Copy) : Int := if errCopy s c ≠ 0 then errCopy s c else if (courseOf s c).made c.per.toNat then 0 else 9
def firstL (s : Sheet) (c : Copy) : List Int := if errExt s c = 0 then (courseOf s c).early c.per.toNat 0 else []
def lastL (s : Sheet) (c : Copy) : List Int := if errExt s c = 0 then (courseOf s c).late c.per.toNat else []
theorem late_len (x : Course) (p : Nat) : (x.late p).length ≤ x.open_.length := by
  have := early_len x.mir.nx p 0 x.mir.open_.length []
  simp [Course.late, flipD, Course.mir, Course.early] at this ⊢
  omega
theorem first_len (x : Course) (p : Nat) : (x.early p 0).length ≤ x.open_.length := by
  have := early_len x.nx p 0 x.open_.length []
  simp [Course.early] at this ⊢
  omega

theorem extentOf_o {loops : List (Nat × LInfo)} {H : AHeap} {sv cv : Value} {s : Sheet} {c : Copy} (hs : SheetV H sv s) (hc : CopyV H cv c) : CallS Tryz.prog loops 49 [sv, cv] H fun r H' => (∃ oa on oc pi fv lv, r = .tuple #[.agg #[.slice oa on oc, .int .i64 pi, fv, lv], .int .i64 (errExt s c)] ∧ Own H' H.n fv 3 1 ((firstL s c).map (Value.int .i64)) ∧ Own H' H.n lv 3 1 ((lastL s c).map (Value.int .i64)) ∧ (errExt s c = 0 → CourseV H' (.agg #[.slice oa on oc, .int .i64 pi]) (courseOf s c))) ∧ Ext H H' := by
  have HS := Lib.hid hs
  have HC := Lib.hid hc
  obtain ⟨wv, av, rfl, hw, ha⟩ := hs
  obtain ⟨hwl, wa, wc, rfl⟩ := hw.slice
  obtain ⟨hal, aa, ac, rfl⟩ := ha.slice
  obtain ⟨cv, rfl, hcw⟩ := hc
  obtain ⟨hcl, ca, cc, rfl⟩ := hcw.slice
  clear hw ha hcw
  refine CallS.enter' Tryz.func49 rfl Tryz.ntmps49 (by simp) fun f hd hf => ?_
  have f0 := hf 0
  have f1 := hf 1
  simp at f0 f1
  clear hf
  generalize hee : errCopy s c = er
  have HE := Lib.hid hee
  clear hee
  have HX1 : Hid (Ext H (((H.push (.row [Value.slice wa s.words.length wc, Value.slice aa s.alts.length ac] 25)).push (.row [Value.slice ca c.words.length cc, .int .i64 c.beg, .int .i64 c.fin, .int .i64 c.per] 27)).push (.row [Value.slice none 0 0, .int .i64 0, Value.slice none 0 0, Value.slice none 0 0] 86))) := Lib.hid (((Ext.refl _).push' _).push' _ |>.push' _)
  by_cases her : er = 0
  · have hok : errCopy s c = 0 := by rw [HE.out]; exact her
    obtain ⟨he0, hlen, hwo, -, -, -, hp1, -⟩ := errCopy_ok hok
    have hwn : s.words.length ≤ 40 := by have := (win_iff.1 (err_ok he0).2.1).2; omega
    have hcn : (courseOf s c).open_.length ≤ 1000 := by rw [courseOf_len]; omega
    have hor := courseOf_ord hok
    have hper : (courseOf s c).per = c.per.toNat := by simp [courseOf]; omega
    have hpp : 1 ≤ c.per.toNat := by omega
    have HCE := Lib.hid (fun (loops : List (Nat × LInfo)) (H' : AHeap) (hx : Ext H H') => courseOf_f (loops := loops) (HS.out.ext hx) (HC.out.ext hx) hok)
    have HEE : Hid (errExt s c = if (courseOf s c).made c.per.toNat then 0 else 9) := Lib.hid (by rw [errExt, if_neg (by simp [hok])])
    have HFL : Hid (firstL s c = if errExt s c = 0 then (courseOf s c).early c.per.toNat 0 else []) := Lib.hid rfl
    have HLL : Hid (lastL s c = if errExt s c = 0 then (courseOf s c).late c.per.toNat else []) := Lib.hid rfl
    generalize courseOf s c = x at hcn hor hper HCE HEE HFL HLL
    generalize c.per.toNat = p at hper hpp HEE HFL HLL
    have HOR := Lib.hid hor
    have HPE := Lib.hid hper
    clear he0 hlen hwo hwn hor hper hok
    subst her
    repeat' (first|(with_reducible first|refine zA ?_|refine zB fun K hK=>?_|refine zC fun K2 hK2=>?_|refine zD ?_|refine zE ?_|refine zF ?_|refine zG ?_|refine zH ?_|refine zI ?_|refine zM ?_|refine zN ?_|refine zO ?_|refine zP ?_|refine zQ ?_|refine zR ?_)|((with_reducible refine zU (hK _ _ ?_));clear hK K)|((with_reducible refine zV ?_ ?_ fun K1 K3 d hdst h1 h3=>?_);rfl;exact yB rfl;cases hdst;go_simp)|((with_reducible refine zW fun K1 K3 h1 h3=>?_);go_simp)|((first|refine h1 ?_|refine h3 ?_);clear h1 h3 K1 K3)|((first|refine zX (fun hb=>h1 ?_) (fun hb=>h3 ?_)|refine zX (fun hb=>h3 ?_) (fun hb=>h1 ?_))<;>(clear h1 h3 K1 K3;(try have hb2:=yC hb);(try have hb2:=yD hb);(try have hb2:=yE hb);(try have hb2:=yF hb);(try have hb2:=yG hb)))|(refine fun (K2:_→AHeap→Prop) hK2=>?_)|((with_reducible refine zY ?_ ?_);decide)|((with_reducible first|refine zZ ?_ (fun K hK=>?_)|refine yA ?_ (fun K hK=>?_));(focus go_simp;done);go_simp;refine hK _ _ ?_;clear hK K)|((with_reducible refine yH mixed rfl ?_ 20 fun K0 hK0=>?_);kernel_rfl)|(with_reducible first|exact yI|exact yJ|refine yK ?_|refine yL ?_|refine yM ?_)|((with_reducible first|refine yN ?_ ?_|refine yO ?_ ?_|refine yP ?_ ?_);rfl)|((with_reducible refine yQ ?_ ?_);rfl;refine hK0 _ _ ?_;clear hK0 K0)|((with_reducible refine yR ?_ ?_ ?_ ?_);rfl;rfl;rfl)|((with_reducible refine yS ?_ ?_ ?_ fun K2 hK2=>?_);rfl;rfl;exact yB rfl)|((with_reducible refine yT ?_ ?_ ?_ ?_ fun K1 K3 d hdst h1 h3=>?_);rfl;rfl;rfl;exact yB rfl;cases hdst;go_simp)|((with_reducible refine yU ?_ ?_ ?_ ?_ fun K1 K3 d hdst h1 h3=>?_);rfl;rfl;rfl;exact yB rfl;cases hdst;go_simp)|((with_reducible refine yV ?_ ?_ (fun K2 hK2=>?_) ?_);rfl;exact yB rfl)|((with_reducible refine yW ?_ ?_ ?_ ?_ (fun K2 hK2=>?_) ?_);rfl;exact yB rfl;rfl;(focus go_simp;done))|((with_reducible refine yX ?_ ?_ ?_ (fun K2 hK2=>?_) ?_);rfl;rfl;exact yB rfl)|((with_reducible refine yY ?_ ?_ (fun K2 hK2=>?_) ?_);rfl;rfl)|((with_reducible refine yZ ?_ ?_);(first|rfl|(dsimp only;decide +kernel)))|((with_reducible refine xA ?_ ?_);(focus go_simp;done))|(go_simp;(try go_bits);(try first |((with_reducible show CallS _ _ _ _ _ _);first|(refine CallS.mono (checkCopy_s (s := s) (c := c) (HS.out.ext HX1.out) (HC.out.ext HX1.out)) ?_; rintro _ _ ⟨rfl, h9⟩; rw [h9, HE.out]; clear h9)|(refine CallS.mono (HCE.out _ _ HX1.out) ?_; rintro xv H1 ⟨hcf, hx⟩; (have HCFR := Lib.hid hcf); (have hcv := hcf.v); (have HCV := Lib.hid hcv); (have HX2 := Lib.hid (HX1.out.trans hx)); (obtain ⟨ov, rfl, hov⟩ := hcv); (obtain ⟨hol, oa, oc, rfl⟩ := hov.slice); (have hn1 : H.n + 3 ≤ H1.n := by have := hx.n; simp only [AHeap.n_push] at this; omega); (have HG4 : Hid (H1.get (H.n + 2) = .row [Value.slice none 0 0, .int .i64 0, Value.slice none 0 0, Value.slice none 0 0] 86) := Lib.hid ((hx.get _ (by simp only [AHeap.n_push]; omega)).trans (get_at (by simp only [AHeap.n_push])))); (have hg4 := HG4.out); (have hlt4 : H.n + 2 < H1.n := by omega); (have hne4 : (H.n + 2 = H1.n) = False := by simp; omega); (have hc4 : cellsAt (H1.push (.row [Value.slice oa x.open_.length oc, .int .i64 x.per] 79)) (H.n + 2) 0 4 = some [Value.slice none 0 0, .int .i64 0, Value.slice none 0 0, Value.slice none 0 0] := by rw [cellsAt_get (AHeap.get_push_old hlt4)]; simp [cellsAt, hg4]); (have hlt5 : H.n + 2 < H1.n + 1 := by omega); (have hgp4 : (H1.push (.row [Value.slice oa x.open_.length oc, .int .i64 x.per] 79)).get (H.n + 2) = .row [Value.slice none 0 0, .int .i64 0, Value.slice none 0 0, Value.slice none 0 0] 86 := (AHeap.get_push_old hlt4).trans hg4); clear hov hx hcf)|(refine CallS.mono (canBeMade_s (x := x) (p := p) (HCV.out.ext (Ext.push _)) HOR.out HPE.out hpp hcn) ?_; rintro _ _ ⟨rfl, h9⟩; rw [h9]; clear h9)|(refine CallS.mono (earliest_e (x := x) (p := p) (HCV.out.ext (Ext.push _)) HOR.out HPE.out hpp hcn) ?_; rintro ev H2 ⟨he, hx⟩; (have HEO := Lib.hid he); (have HEV := Lib.hid (ints_of_own he (by have := first_len x p; omega))); (have HX3 := Lib.hid hx); (obtain ⟨-, ea, ec, rfl⟩ := HEV.out.slice); (have hc7 : cellsAt H2 H1.n 0 2 = some [Value.slice oa x.open_.length oc, .int .i64 x.per] := by rw [hx.cellsAt (by rw [AHeap.n_push]; omega)]; simp [cellsAt, get_at (H := H1) rfl]); (have hlt2 : H1.n < H2.n := by have := hx.n; rw [AHeap.n_push] at this; omega); clear he hx)|(refine CallS.mono (latest_e (x := x) (p := p) ((HCV.out.ext (Ext.push _)).ext HX3.out) HOR.out HPE.out hpp hcn) ?_; rintro dv H3 ⟨he, hx⟩; (have HDO := Lib.hid he); (have HEO3 := Lib.hid (HEO.out.ext hx)); (have HDV := Lib.hid (ints_of_own he (by have := late_len x p; omega))); (have HX4 := Lib.hid (HX3.out.trans hx)); (have HY4 := Lib.hid hx); (obtain ⟨-, da, dc, rfl⟩ := HDV.out.slice); (have hc73 : cellsAt H3 H1.n 0 2 = some [Value.slice oa x.open_.length oc, .int .i64 x.per] := by rw [hx.cellsAt hlt2]; exact hc7); (have hlt3 : H1.n < H3.n := by have := hx.n; omega); (have hlt43 : H.n + 2 < H3.n := by omega); (have hg43 : H3.get (H.n + 2) = .row [Value.slice none 0 0, .int .i64 0, Value.slice none 0 0, Value.slice none 0 0] 86 := (HX4.out.get _ (by rw [AHeap.n_push]; omega)).trans ((AHeap.get_push_old hlt4).trans hg4)); clear he hx)));(first|(refine hK2 _ _ ?_ ?_<;>clear hK2 K2)|(refine hK2 _ _ ?_;clear hK2 K2))))
    · have hx : errExt s c = 9 := by rw [HEE.out, if_neg (by simpa using hb)]
      have hi : ∀ G : AHeap, Own G H.n (.slice none 0 0) 3 1 (([] : List Int).map (Value.int .i64)) := fun G => Own.nil
      refine ⟨⟨_, _, _, _, _, _, by rw [hx], ?_, ?_, fun h0 => absurd h0 (by rw [hx]; decide)⟩, ?zz⟩
      case zz => exact (HX2.out.upd (by omega) _).push' _
      · rw [HFL.out, hx]; exact hi _
      · rw [HLL.out, hx]; exact hi _
    · have hx : errExt s c = 0 := by rw [HEE.out, if_pos (by simpa using hb)]
      refine ⟨⟨_, _, _, _, _, _, by rw [hx], ?_, ?_, fun _ => ?_⟩, ((HX2.out.push' _).trans HX4.out).upd (by omega) _⟩
      · rw [HFL.out, hx, if_pos rfl]
        exact (own_upd HEO3.out (by rw [AHeap.n_push]; omega)).mono (by rw [AHeap.n_push]; omega)
      · rw [HLL.out, hx, if_pos rfl]
        exact (own_upd HDO.out (by omega)).mono (by omega)
      · refine HCFR.out _ (by rw [AHeap.n_upd]; omega) fun i h1 h2 => ?_
        simp only [AHeap.n_push] at h1
        rw [AHeap.get_upd_ne (by omega), HX4.out.get i (by rw [AHeap.n_push]; omega), AHeap.get_push_old h2]
  · repeat' (first|(with_reducible first|refine zA ?_|refine zB fun K hK=>?_|refine zC fun K2 hK2=>?_|refine zD ?_|refine zE ?_|refine zF ?_|refine zG ?_|refine zH ?_|refine zI ?_|refine zM ?_|refine zN ?_|refine zO ?_|refine zP ?_|refine zQ ?_|refine zR ?_)|((with_reducible refine zU (hK _ _ ?_));clear hK K)|((with_reducible refine zV ?_ ?_ fun K1 K3 d hdst h1 h3=>?_);rfl;exact yB rfl;cases hdst;go_simp)|((with_reducible refine zW fun K1 K3 h1 h3=>?_);go_simp)|((first|refine h1 ?_|refine h3 ?_);clear h1 h3 K1 K3)|((first|refine zX (fun hb=>h1 ?_) (fun hb=>h3 ?_)|refine zX (fun hb=>h3 ?_) (fun hb=>h1 ?_))<;>(clear h1 h3 K1 K3;(try have hb2:=yC hb);(try have hb2:=yD hb);(try have hb2:=yE hb);(try have hb2:=yF hb);(try have hb2:=yG hb)))|(refine fun (K2:_→AHeap→Prop) hK2=>?_)|((with_reducible refine zY ?_ ?_);decide)|((with_reducible first|refine zZ ?_ (fun K hK=>?_)|refine yA ?_ (fun K hK=>?_));(focus go_simp;done);go_simp;refine hK _ _ ?_;clear hK K)|(go_simp;(try go_bits);(try first | ((with_reducible show CallS _ _ _ _ _ _);refine CallS.mono (checkCopy_s (s := s) (c := c) (HS.out.ext HX1.out) (HC.out.ext HX1.out)) ?_; rintro _ _ ⟨rfl, h9⟩; rw [h9, HE.out]; clear h9));refine hK2 _ _ ?_;clear hK2 K2))
    all_goals try (exact absurd (show er = 0 by simpa using hb) her)
    have hex : errExt s c = er := by rw [errExt, if_pos (by rw [HE.out]; exact her), HE.out]
    have hi : ∀ G : AHeap, Own G H.n (.slice none 0 0) 3 1 (([] : List Int).map (Value.int .i64)) := fun G => Own.nil
    refine ⟨⟨_, _, _, _, _, _, by rw [hex], ?_, ?_, fun h0 => absurd h0 (by rw [hex]; exact her)⟩, HX1.out⟩
    · rw [firstL, hex, if_neg her]; exact hi _
    · rw [lastL, hex, if_neg her]; exact hi _
theorem ends_len (s : Sheet) (c : Copy) : (firstL s c).length ≤ 9223372036854775807 ∧ (lastL s c).length ≤ 9223372036854775807 := by
  by_cases h : errExt s c = 0
  · have h0 : errCopy s c = 0 := by
      unfold errExt at h
      split at h
      · rename_i h1; exact absurd h h1
      · rename_i h1; simpa using h1
    obtain ⟨he0, hlen, -⟩ := errCopy_ok h0
    have hwn : s.words.length ≤ 40 := by have := (win_iff.1 (err_ok he0).2.1).2; omega
    have h1 := first_len (courseOf s c) c.per.toNat
    have h2 := late_len (courseOf s c) c.per.toNat
    have h3 := courseOf_len s c
    rw [firstL, if_pos h, lastL, if_pos h]
    omega
  · rw [firstL, if_neg h, lastL, if_neg h]; simp
end Go.Proofs.Tryz
namespace Go.Proofs.Tryz
open Go Go.Am Go.RowKit Go.Co
set_option maxRecDepth 100000

theorem first_o {loops : List (Nat × LInfo)} {H : AHeap} {sv cv : Value} {s : Sheet} {c : Copy} (hs : SheetV H sv s) (hc : CopyV H cv c) : CallS Tryz.prog loops 13 [sv, cv] H fun r H' => (∃ fv, r = .tuple #[fv, .int .i64 (errExt s c)] ∧ Own H' H.n fv 3 1 ((firstL s c).map (Value.int .i64))) ∧ Ext H H' := by
  have HS := Lib.hid hs
  have HC := Lib.hid hc
  obtain ⟨wv, av, rfl, hw, ha⟩ := hs
  obtain ⟨hwl, wa, wc, rfl⟩ := hw.slice
  obtain ⟨hal, aa, ac, rfl⟩ := ha.slice
  obtain ⟨cv, rfl, hcw⟩ := hc
  obtain ⟨hcl, ca, cc, rfl⟩ := hcw.slice
  clear hw ha hcw
  refine CallS.enter' Tryz.func13 rfl Tryz.ntmps13 (by simp) fun f hd hf => ?_
  have f0 := hf 0
  have f1 := hf 1
  simp at f0 f1
  clear hf
  have HX1 : Hid (Ext H ((H.push (.row [Value.slice wa s.words.length wc, Value.slice aa s.alts.length ac] 25)).push (.row [Value.slice ca c.words.length cc, .int .i64 c.beg, .int .i64 c.fin, .int .i64 c.per] 27))) := Lib.hid (((Ext.refl _).push' _).push' _)
  generalize hee : errExt s c = er
  have HE := Lib.hid hee
  clear hee
  repeat' (first|(with_reducible first|refine zA ?_|refine zB fun K hK=>?_|refine zC fun K2 hK2=>?_|refine zD ?_|refine zE ?_|refine zF ?_|refine zG ?_|refine zH ?_|refine zI ?_|refine zM ?_|refine zN ?_|refine zO ?_|refine zP ?_|refine zQ ?_|refine zR ?_)|((with_reducible refine zU (hK _ _ ?_));clear hK K)|((with_reducible refine zV ?_ ?_ fun K1 K3 d hdst h1 h3=>?_);rfl;exact yB rfl;cases hdst;go_simp)|((with_reducible refine zW fun K1 K3 h1 h3=>?_);go_simp)|((first|refine h1 ?_|refine h3 ?_);clear h1 h3 K1 K3)|((first|refine zX (fun hb=>h1 ?_) (fun hb=>h3 ?_)|refine zX (fun hb=>h3 ?_) (fun hb=>h1 ?_))<;>(clear h1 h3 K1 K3;(try have hb2:=yC hb);(try have hb2:=yD hb);(try have hb2:=yE hb);(try have hb2:=yF hb);(try have hb2:=yG hb)))|(refine fun (K2:_→AHeap→Prop) hK2=>?_)|((with_reducible refine zY ?_ ?_);decide)|((with_reducible first|refine zZ ?_ (fun K hK=>?_)|refine yA ?_ (fun K hK=>?_));(focus go_simp;done);go_simp;refine hK _ _ ?_;clear hK K)|(go_simp;(try go_bits);(try first | ((with_reducible show CallS _ _ _ _ _ _);refine CallS.mono (extentOf_o (s := s) (c := c) (HS.out.ext HX1.out) (HC.out.ext HX1.out)) ?_; rintro _ H1 ⟨⟨oa, on, oc, pi, fv, lv, rfl, hf1, hl1, -⟩, hx⟩; rw [HE.out]; (have HF := Lib.hid hf1); (have HX2 := Lib.hid (HX1.out.trans hx)); (obtain ⟨fa, fn, rfl⟩ := own_slice hf1); (obtain ⟨la, ln, rfl⟩ := own_slice hl1); clear hf1 hl1 hx));refine hK2 _ _ ?_;clear hK2 K2))
  exact ⟨⟨_, rfl, (HF.out.mono (by simp only [AHeap.n_push]; omega)).ext (Ext.push _)⟩, HX2.out.push' _⟩

theorem last_o {loops : List (Nat × LInfo)} {H : AHeap} {sv cv : Value} {s : Sheet} {c : Copy} (hs : SheetV H sv s) (hc : CopyV H cv c) : CallS Tryz.prog loops 15 [sv, cv] H fun r H' => (∃ fv, r = .tuple #[fv, .int .i64 (errExt s c)] ∧ Own H' H.n fv 3 1 ((lastL s c).map (Value.int .i64))) ∧ Ext H H' := by
  have HS := Lib.hid hs
  have HC := Lib.hid hc
  obtain ⟨wv, av, rfl, hw, ha⟩ := hs
  obtain ⟨hwl, wa, wc, rfl⟩ := hw.slice
  obtain ⟨hal, aa, ac, rfl⟩ := ha.slice
  obtain ⟨cv, rfl, hcw⟩ := hc
  obtain ⟨hcl, ca, cc, rfl⟩ := hcw.slice
  clear hw ha hcw
  refine CallS.enter' Tryz.func15 rfl Tryz.ntmps15 (by simp) fun f hd hf => ?_
  have f0 := hf 0
  have f1 := hf 1
  simp at f0 f1
  clear hf
  have HX1 : Hid (Ext H ((H.push (.row [Value.slice wa s.words.length wc, Value.slice aa s.alts.length ac] 25)).push (.row [Value.slice ca c.words.length cc, .int .i64 c.beg, .int .i64 c.fin, .int .i64 c.per] 27))) := Lib.hid (((Ext.refl _).push' _).push' _)
  generalize hee : errExt s c = er
  have HE := Lib.hid hee
  clear hee
  repeat' (first|(with_reducible first|refine zA ?_|refine zB fun K hK=>?_|refine zC fun K2 hK2=>?_|refine zD ?_|refine zE ?_|refine zF ?_|refine zG ?_|refine zH ?_|refine zI ?_|refine zM ?_|refine zN ?_|refine zO ?_|refine zP ?_|refine zQ ?_|refine zR ?_)|((with_reducible refine zU (hK _ _ ?_));clear hK K)|((with_reducible refine zV ?_ ?_ fun K1 K3 d hdst h1 h3=>?_);rfl;exact yB rfl;cases hdst;go_simp)|((with_reducible refine zW fun K1 K3 h1 h3=>?_);go_simp)|((first|refine h1 ?_|refine h3 ?_);clear h1 h3 K1 K3)|((first|refine zX (fun hb=>h1 ?_) (fun hb=>h3 ?_)|refine zX (fun hb=>h3 ?_) (fun hb=>h1 ?_))<;>(clear h1 h3 K1 K3;(try have hb2:=yC hb);(try have hb2:=yD hb);(try have hb2:=yE hb);(try have hb2:=yF hb);(try have hb2:=yG hb)))|(refine fun (K2:_→AHeap→Prop) hK2=>?_)|((with_reducible refine zY ?_ ?_);decide)|((with_reducible first|refine zZ ?_ (fun K hK=>?_)|refine yA ?_ (fun K hK=>?_));(focus go_simp;done);go_simp;refine hK _ _ ?_;clear hK K)|(go_simp;(try go_bits);(try first | ((with_reducible show CallS _ _ _ _ _ _);refine CallS.mono (extentOf_o (s := s) (c := c) (HS.out.ext HX1.out) (HC.out.ext HX1.out)) ?_; rintro _ H1 ⟨⟨oa, on, oc, pi, fv, lv, rfl, hf1, hl1, -⟩, hx⟩; rw [HE.out]; (have HF := Lib.hid hl1); (have HX2 := Lib.hid (HX1.out.trans hx)); (obtain ⟨fa, fn, rfl⟩ := own_slice hf1); (obtain ⟨la, ln, rfl⟩ := own_slice hl1); clear hf1 hl1 hx));refine hK2 _ _ ?_;clear hK2 K2))
  exact ⟨⟨_, rfl, (HF.out.mono (by simp only [AHeap.n_push]; omega)).ext (Ext.push _)⟩, HX2.out.push' _⟩
theorem first_e {loops : List (Nat × LInfo)} {H : AHeap} {sv cv : Value} {s : Sheet} {c : Copy} (hs : SheetV H sv s) (hc : CopyV H cv c) : CallS Tryz.prog loops 13 [sv, cv] H fun r H' => (∃ fv, r = .tuple #[fv, .int .i64 (errExt s c)] ∧ Ints H' fv (firstL s c)) ∧ Ext H H' :=
  CallS.mono (first_o hs hc) fun _ _ ⟨⟨fv, h1, h2⟩, h3⟩ => ⟨⟨fv, h1, ints_of_own h2 (ends_len s c).1⟩, h3⟩
theorem last_e {loops : List (Nat × LInfo)} {H : AHeap} {sv cv : Value} {s : Sheet} {c : Copy} (hs : SheetV H sv s) (hc : CopyV H cv c) : CallS Tryz.prog loops 15 [sv, cv] H fun r H' => (∃ fv, r = .tuple #[fv, .int .i64 (errExt s c)] ∧ Ints H' fv (lastL s c)) ∧ Ext H H' :=
  CallS.mono (last_o hs hc) fun _ _ ⟨⟨fv, h1, h2⟩, h3⟩ => ⟨⟨fv, h1, ints_of_own h2 (ends_len s c).2⟩, h3⟩
end Go.Proofs.Tryz
namespace Go.Proofs.Tryz
open Go Go.Am Go.RowKit Go.Co

def Course.op (x : Course) (i : Nat) (d : Int) : Bool := ins (x.at_ i) d
theorem Course.op_in {x : Course} (h : x.ord) (i : Nat) (d : Int) (ho : x.op i d = true) : 0 ≤ d ∧ d ≤ 730 := ordS_ins _ (h i) d ho
def Course.fit (x : Course) (p : Nat) (g : List Int) : Prop := g.length = x.open_.length ∧ FitTo x.op p g g.length

theorem Course.early_fit {x : Course} {p : Nat} (h : x.ord) (hp : 1 ≤ p) (hm : x.made p = true) : x.fit p (x.early p 0) := by
  have h1 : (x.early p 0).length = x.open_.length := by simpa [Course.made] using hm
  exact ⟨h1, (early_ok (op := x.op) hp (fun i f => x.nx_ok h i f) x.open_.length (frm := 0)).2.1⟩
theorem Course.fit_in {x : Course} {p : Nat} {g : List Int} (h : x.ord) (hg : x.fit p g) : ∀ i, i < g.length → 0 ≤ g.getD i 0 ∧ g.getD i 0 ≤ 730 := fun i hi => x.op_in h i _ (hg.2 i hi).1
theorem Course.fit_early {x : Course} {p : Nat} {g : List Int} (h : x.ord) (hp : 1 ≤ p) (hg : x.fit p g) : x.made p = true ∧ ∀ i, i < g.length → (x.early p 0).getD i 0 ≤ g.getD i 0 := by
  have h1 := early_ok (op := x.op) hp (fun i f => x.nx_ok h i f) x.open_.length (frm := 0)
  obtain ⟨h2, -, -, h3⟩ := h1
  obtain ⟨h4, h5⟩ := h3 g g.length (by have := hg.1; omega) hg.2 (fun i hi => (x.fit_in h hg i hi).1)
  refine ⟨?_, h5⟩
  have h6 : (x.early p 0).length = x.open_.length := by
    have h7 : g.length ≤ (x.early p 0).length := h4
    have h8 : (x.early p 0).length ≤ x.open_.length := h2
    have := hg.1
    omega
  simp [Course.made, h6]

theorem Course.mir_len (x : Course) : x.mir.open_.length = x.open_.length := by simp [Course.mir]
theorem Course.mir_at {x : Course} {i : Nat} (hi : i < x.open_.length) : x.mir.at_ i = flipS (x.at_ (x.open_.length - 1 - i)) := by
  simp [Course.mir, Course.at_, hi, List.getElem_reverse, show x.open_.length - 1 - i < x.open_.length by omega]
theorem Course.mir_op {x : Course} {i : Nat} (hi : i < x.open_.length) (d : Int) : x.mir.op i d = x.op (x.open_.length - 1 - i) (730 - d) := by
  rw [Course.op, x.mir_at hi, flipS_ins]; rfl
theorem Course.mir_fit {x : Course} {p : Nat} {g : List Int} (h : x.ord) (hp : 1 ≤ p) (hg : x.fit p g) : x.mir.fit p (flipD g) := by
  refine ⟨by rw [flipD_len, x.mir_len]; exact hg.1, ?_⟩
  rw [flipD_len]
  refine fit_flip hp (x.op_in h) (fun i d hi => ?_) hg.2
  rw [x.mir_op (by have := hg.1; omega), ← hg.1]
theorem Course.fit_mir {x : Course} {p : Nat} {g : List Int} (h : x.ord) (hp : 1 ≤ p) (hg : x.mir.fit p g) : x.fit p (flipD g) := by
  have hl : g.length = x.open_.length := by rw [← x.mir_len]; exact hg.1
  refine ⟨by rw [flipD_len]; exact hl, ?_⟩
  rw [flipD_len]
  refine fit_flip hp (x.mir.op_in (Course.mir_ord h)) (fun i d hi => ?_) hg.2
  rw [x.mir_op (by omega), hl, show x.open_.length - 1 - (x.open_.length - 1 - i) = i by omega, show (730 : Int) - (730 - d) = d by omega]
theorem Course.mir_made {x : Course} {p : Nat} (h : x.ord) (hp : 1 ≤ p) : x.mir.made p = x.made p := by
  rw [Bool.eq_iff_iff]
  constructor
  · intro hm
    exact (x.fit_early h hp (x.fit_mir h hp (x.mir.early_fit (Course.mir_ord h) hp hm))).1
  · intro hm
    exact (x.mir.fit_early (Course.mir_ord h) hp (x.mir_fit h hp (x.early_fit h hp hm))).1
theorem Course.late_fit {x : Course} {p : Nat} (h : x.ord) (hp : 1 ≤ p) (hm : x.made p = true) : x.fit p (x.late p) :=
  x.fit_mir h hp (x.mir.early_fit (Course.mir_ord h) hp (by rw [x.mir_made h hp]; exact hm))
end Go.Proofs.Tryz
namespace Go.Proofs.Tryz
open Go Go.Am Go.RowKit Go.Co
set_option maxRecDepth 100000

def clampI (x : Int) : Int := min (max x (-1)) 731
def clampL (xs : List Int) : List Int := xs.map clampI
end Go.Proofs.Tryz
namespace Go.Proofs.Tryz
open Go Go.Am Go.RowKit Go.Co
set_option maxRecDepth 100000

def holdGo (x : Course) (p : Nat) (fl : List Int) : Nat → Nat → Bool
  | 0, _ => true
  | r + 1, i => if x.nx i (lowL p fl i) < fl.getD i 0 then false else holdGo x p fl r (i + 1)
end Go.Proofs.Tryz
namespace Go.Proofs.Tryz
open Go Go.Am Go.RowKit Go.Co
def Course.holds (x : Course) (p : Nat) (fl : List Int) : Bool := holdGo x p (clampL fl) fl.length 0
theorem Course.early_to {x : Course} {p : Nat} (h : x.ord) (hp : 1 ≤ p) : FitTo x.op p (x.early p 0) (x.early p 0).length ∧ (x.early p 0).length ≤ x.open_.length :=
  ⟨(early_ok (op := x.op) hp (fun i f => x.nx_ok h i f) x.open_.length (frm := 0)).2.1, (early_ok (op := x.op) hp (fun i f => x.nx_ok h i f) x.open_.length (frm := 0)).1⟩
theorem Course.early_in0 {x : Course} {p : Nat} (h : x.ord) (hp : 1 ≤ p) : ∀ i, i < (x.early p 0).length → 0 ≤ (x.early p 0).getD i 0 ∧ (x.early p 0).getD i 0 ≤ 730 := fun i hi => x.op_in h i _ ((x.early_to h hp).1 i hi).1
theorem Course.early_nx {x : Course} {p : Nat} (h : x.ord) (hp : 1 ≤ p) {j : Nat} (hj : j < (x.early p 0).length) : (x.early p 0).getD j 0 ≤ x.nx j (lowL p (x.early p 0) j) := by
  obtain ⟨hft, hl⟩ := x.early_to h hp
  have hin := x.early_in0 (p := p) h hp
  have hE := early_ok (op := x.op) hp (fun i f => x.nx_ok h i f) x.open_.length (frm := 0)
  generalize hd : x.nx j (lowL p (x.early p 0) j) = d
  rcases x.nx_ok h j (lowL p (x.early p 0) j) with ⟨h1, _⟩ | ⟨h1, h2, h3, h4⟩
  · have := (hin j hj).2; omega
  · rw [hd] at h1 h2 h3
    have htl : ((x.early p 0).take j).length = j := by simp; omega
    have e0 : ((x.early p 0).take j ++ [d]).getD j 0 = d := by
      have := @getD_snoc ((x.early p 0).take j) d
      rw [htl] at this; exact this
    have hfit : FitTo x.op p ((x.early p 0).take j ++ [d]) (j + 1) := by
      intro i hi
      have hlow : lowL p ((x.early p 0).take j ++ [d]) i = lowL p (x.early p 0) i := lowL_same hp fun k hk => by
        rw [getD_app (by omega)]
        simp [List.getD_eq_getElem?_getD, show k < j by omega]
      rw [hlow]
      by_cases hij : i = j
      · subst hij
        rw [e0]; exact ⟨h3, h2⟩
      · have e : ((x.early p 0).take j ++ [d]).getD i 0 = (x.early p 0).getD i 0 := by
          rw [getD_app (by omega)]
          simp [List.getD_eq_getElem?_getD, show i < j by omega]
        rw [e]; exact hft i (by omega)
    have := (hE.2.2.2 ((x.early p 0).take j ++ [d]) (j + 1) (by omega) hfit (fun i hi => (x.op_in h i _ (hfit i hi).1).1)).2 j (by omega)
    rw [e0] at this
    exact this
end Go.Proofs.Tryz
namespace Go.Proofs.Tryz
open Go Go.Am Go.RowKit Go.Co

theorem Course.late_len_made {x : Course} {p : Nat} (h : x.ord) (hp : 1 ≤ p) (hm : x.made p = true) : (x.late p).length = x.open_.length := (x.late_fit h hp hm).1
theorem Course.late_get {x : Course} {p : Nat} (h : x.ord) (hp : 1 ≤ p) (hm : x.made p = true) {i : Nat} (hi : i < x.open_.length) : (x.late p).getD i 0 = 730 - (x.mir.early p 0).getD (x.open_.length - 1 - i) 0 := by
  have hl : (x.mir.early p 0).length = x.open_.length := by rw [← flipD_len, ← Course.late, x.late_len_made h hp hm]
  rw [Course.late, flipD_get (by omega), hl]
theorem Course.late_top {x : Course} {p : Nat} (h : x.ord) (hp : 1 ≤ p) (hm : x.made p = true) {i : Nat} (hi : i < x.open_.length) {e : Int} (ho : x.op i e = true) (h1 : i + 1 < x.open_.length → e ≤ (x.late p).getD (i + 1) 0) (h2 : i + p < x.open_.length → e + 1 ≤ (x.late p).getD (i + p) 0) : e ≤ (x.late p).getD i 0 := by
  have hl : (x.mir.early p 0).length = x.open_.length := by rw [← flipD_len, ← Course.late, x.late_len_made h hp hm]
  have hin := x.op_in h i e ho
  have hmo : x.mir.op (x.open_.length - 1 - i) (730 - e) = true := by
    rw [x.mir_op (by omega), show x.open_.length - 1 - (x.open_.length - 1 - i) = i by omega, show (730 : Int) - (730 - e) = e by omega]; exact ho
  have hlow : lowL p (x.mir.early p 0) (x.open_.length - 1 - i) ≤ 730 - e := by
    have g1 : 1 ≤ x.open_.length - 1 - i → (x.mir.early p 0).getD (x.open_.length - 1 - i - 1) 0 ≤ 730 - e := fun hh => by
      have := h1 (by omega)
      rw [x.late_get h hp hm (by omega), show x.open_.length - 1 - (i + 1) = x.open_.length - 1 - i - 1 by omega] at this
      omega
    have g2 : p ≤ x.open_.length - 1 - i → (x.mir.early p 0).getD (x.open_.length - 1 - i - p) 0 + 1 ≤ 730 - e := fun hh => by
      have := h2 (by omega)
      rw [x.late_get h hp hm (by omega), show x.open_.length - 1 - (i + p) = x.open_.length - 1 - i - p by omega] at this
      omega
    unfold lowL
    split
    · rename_i g
      have := g2 g
      split
      · rename_i g'; have := g1 g'; omega
      · omega
    · split
      · rename_i g'; exact g1 g'
      · omega
  have hnx := x.mir.early_nx (Course.mir_ord h) hp (j := x.open_.length - 1 - i) (by omega)
  rw [x.late_get h hp hm hi]
  rcases x.mir.nx_ok (Course.mir_ord h) (x.open_.length - 1 - i) (lowL p (x.mir.early p 0) (x.open_.length - 1 - i)) with ⟨_, g⟩ | ⟨_, _, _, g⟩
  · have := g (730 - e) hlow
    rw [Course.op] at hmo; rw [hmo] at this; cases this
  · have := g (730 - e) hlow (by rw [Course.op] at hmo; exact hmo)
    omega
theorem Course.late_bound {x : Course} {p : Nat} (h : x.ord) (hp : 1 ≤ p) (hm : x.made p = true) {i : Nat} (hi : i < x.open_.length) : x.op i ((x.late p).getD i 0) = true ∧ (i + 1 < x.open_.length → (x.late p).getD i 0 ≤ (x.late p).getD (i + 1) 0) ∧ (i + p < x.open_.length → (x.late p).getD i 0 + 1 ≤ (x.late p).getD (i + p) 0) := by
  have hf := x.late_fit h hp hm
  have hin := x.fit_in h hf
  refine ⟨(hf.2 i (by rw [hf.1]; exact hi)).1, fun hh => ?_, fun hh => ?_⟩
  · have := (lowL_iff (by have := hin (i + 1) (by rw [hf.1]; exact hh); omega)).1 (hf.2 (i + 1) (by rw [hf.1]; exact hh)).2
    have := this.1 (by omega)
    simpa using this
  · have := (lowL_iff (by have := hin (i + p) (by rw [hf.1]; exact hh); omega)).1 (hf.2 (i + p) (by rw [hf.1]; exact hh)).2
    have := this.2 (by omega)
    simpa using this
theorem rowCell {H : AHeap} {b : Nat} {L : List Int} {k : Nat} (h : H.get b = .row (L.map (Value.int .i64)) 3) (hk : k < L.length) : cellAt H b k = some (.int .i64 (L.getD k 0)) := by
  simp [cellAt, h, List.getD_eq_getElem?_getD, hk]
structure LateOk (s : Sheet) (c : Copy) (lt : List Int) (n p : Nat) : Prop where
  len : lt.length = n
  at_ : ∀ i, i < n → (hasOn s i (lt.getD i 0)).offers (c.words.getD i 0) = true ∧ c.beg ≤ lt.getD i 0 ∧ lt.getD i 0 ≤ c.fin
  next : ∀ i, i + 1 < n → lt.getD i 0 ≤ lt.getD (i + 1) 0
  per : ∀ i, i + p < n → lt.getD i 0 + 1 ≤ lt.getD (i + p) 0
  top : ∀ i e, i < n → c.beg ≤ e → e ≤ c.fin → (hasOn s i e).offers (c.words.getD i 0) = true → (i + 1 < n → e ≤ lt.getD (i + 1) 0) → (i + p < n → e + 1 ≤ lt.getD (i + p) 0) → e ≤ lt.getD i 0
theorem late_ok {s : Sheet} {c : Copy} (he : errCopy s c = 0) (hm : (courseOf s c).made c.per.toNat = true) : LateOk s c ((courseOf s c).late c.per.toNat) c.words.length c.per.toNat := by
  have hor := courseOf_ord he
  have hp : 1 ≤ c.per.toNat := by have := (errCopy_ok he).2.2.2.2.2.2.1; omega
  have hl := courseOf_len s c
  have hop : ∀ i d, i < c.words.length → ((courseOf s c).op i d = true ↔ (c.beg ≤ d ∧ d ≤ c.fin) ∧ (hasOn s i d).offers (c.words.getD i 0) = true) := fun i d hi => by
    rw [Course.op, courseOf_ins he hi]; simp
  refine ⟨by rw [(courseOf s c).late_len_made hor hp hm, hl], fun i hi => ?_, fun i hi => ?_, fun i hi => ?_, fun i e hi h1 h2 h3 h4 h5 => ?_⟩
  · have h := ((courseOf s c).late_bound hor hp hm (i := i) (by omega)).1
    rw [hop _ _ hi] at h
    exact ⟨h.2, h.1.1, h.1.2⟩
  · exact ((courseOf s c).late_bound hor hp hm (i := i) (by omega)).2.1 (by omega)
  · exact ((courseOf s c).late_bound hor hp hm (i := i) (by omega)).2.2 (by omega)
  · refine (courseOf s c).late_top hor hp hm (i := i) (by omega) ((hop i e hi).2 ⟨⟨h1, h2⟩, h3⟩) (fun h => h4 (by omega)) (fun h => h5 (by omega))
end Go.Proofs.Tryz
namespace Go.Proofs.Tryz
open Go Go.Am Go.RowKit Go.Co
set_option maxRecDepth 100000

set_option maxHeartbeats 8000000 in
theorem refLast_e {loops : List (Nat × LInfo)} {H : AHeap} {sv cv : Value} {s : Sheet} {c : Copy} (hs : SheetV H sv s) (hc : CopyV H cv c) (he : errCopy s c = 0) (hm : (courseOf s c).made c.per.toNat = true) : CallS Tryz.prog loops 52 [sv, cv] H fun r H' => Own H' H.n r 3 1 (((courseOf s c).late c.per.toNat).map (Value.int .i64)) ∧ Ext H H' := by
  have HV := Lib.hid hs
  obtain ⟨wv, av, rfl, hw, ha⟩ := hs
  obtain ⟨hwl, wa, wc, rfl⟩ := hw.slice
  obtain ⟨hal, aa, ac, rfl⟩ := ha.slice
  obtain ⟨cv, rfl, hcw⟩ := hc
  obtain ⟨hcl, ca, cc, rfl⟩ := hcw.slice
  have HCW := Lib.hid hcw
  clear hw ha hcw
  have HL := late_ok he hm
  obtain ⟨he0, hlen, hwo, hb0, hb1, hb2, hp1, hp2⟩ := errCopy_ok he
  have hwn : s.words.length ≤ 40 := by have := (win_iff.1 (err_ok he0).2.1).2; omega
  have hw1 : 1 ≤ s.words.length := by have := (win_iff.1 (err_ok he0).2.1).1; omega
  have hcn : c.words.length ≤ 40 := by omega
  have hc1 : 0 < c.words.length := by omega
  have HLEN := Lib.hid hlen
  have hper : c.per = ((c.per.toNat : Nat) : Int) := by omega
  have hp3 : 1 ≤ c.per.toNat := by omega
  generalize (courseOf s c).late c.per.toNat = lt at HL
  generalize c.per.toNat = p at HL hper hp3
  rw [hper] at hp1 hp2
  have HLO := Lib.hid HL
  have HIN : ∀ i, i < c.words.length → 0 ≤ lt.getD i 0 ∧ lt.getD i 0 ≤ 730 := fun i hi => by have := HL.at_ i hi; omega
  have HINH := Lib.hid HIN
  clear HL HIN he he0 hlen hwo hm hw1
  have HCL : Hid (c.words.length = c.words.length) := Lib.hid rfl
  refine CallS.enter' Tryz.func52 rfl Tryz.ntmps52 (by simp) fun f hd hf => ?_
  have f0 := hf 0
  have f1 := hf 1
  simp at f0 f1
  clear hf
  rw [hper] at f1
  clear hper
  repeat' (first|(with_reducible first|refine zA ?_|refine zB fun K hK=>?_|refine zC fun K2 hK2=>?_|refine zD ?_|refine zE ?_|refine zF ?_|refine zG ?_|refine zH ?_|refine zI ?_|refine zM ?_|refine zN ?_|refine zO ?_|refine zP ?_|refine zQ ?_|refine zR ?_)|((with_reducible refine zU (hK _ _ ?_));clear hK K)|((with_reducible refine zV ?_ ?_ fun K1 K3 d hdst h1 h3=>?_);rfl;exact yB rfl;cases hdst;go_simp)|((with_reducible refine zW fun K1 K3 h1 h3=>?_);go_simp)|((first|refine h1 ?_|refine h3 ?_);clear h1 h3 K1 K3)|((first|refine zX (fun hb=>h1 ?_) (fun hb=>h3 ?_)|refine zX (fun hb=>h3 ?_) (fun hb=>h1 ?_))<;>(clear h1 h3 K1 K3;(try have hb2:=yC hb);(try have hb2:=yD hb);(try have hb2:=yE hb);(try have hb2:=yF hb);(try have hb2:=yG hb)))|(refine fun (K2:_→AHeap→Prop) hK2=>?_)|((with_reducible refine zY ?_ ?_);decide)|((with_reducible first|refine zZ ?_ (fun K hK=>?_)|refine yA ?_ (fun K hK=>?_));(focus go_simp;done);go_simp;refine hK _ _ ?_;clear hK K)|(go_simp;(try go_bits);(try first | (refine makeSlice_k el22 sz3 by3 ze3 rfl (by show c.words.length * 8 ≤ 1073741824; omega) (by omega) ?_; go_simp));refine hK2 _ _ ?_;clear hK2 K2))
  refine CodeS.loop (fun m f H' => ∃ (k : Nat) (i : Int) (L : List Int), k ≤ c.words.length ∧ i = (k : Int) - 1 ∧ k = m ∧ L.length = c.words.length ∧ f.tmp 7 = .int .i64 i ∧ f.tmp 5 = .int .i64 (c.words.length : Nat) ∧ f.tmp 6 = .slice (some ⟨H.n + 2, 0, none⟩) c.words.length c.words.length ∧ f.tmp 2 = .pointer (some ⟨H.n, 0, none⟩) ∧ f.tmp 3 = .pointer (some ⟨H.n + 1, 0, none⟩) ∧ f.defers = [] ∧ Hid (∀ i, k ≤ i → i < c.words.length → L.getD i 0 = lt.getD i 0) ∧ H.n + 2 < H'.n ∧ Hid (Ext H H') ∧ Hid (H'.get H.n = .row [Value.slice wa s.words.length wc, Value.slice aa s.alts.length ac] 25) ∧ Hid (H'.get (H.n + 1) = .row [Value.slice ca c.words.length cc, .int .i64 c.beg, .int .i64 c.fin, .int .i64 p] 27) ∧ Hid (H'.get (H.n + 2) = .row (L.map (Value.int .i64)) 3)) c.words.length ?_ ?_
  · refine ⟨c.words.length, (c.words.length : Int) - 1, List.replicate c.words.length 0, by omega, rfl, rfl, by simp, (by first|go_simp<;>go_num|assumption), (by first|go_simp<;>go_num|assumption), (by first|go_simp<;>go_num|assumption), (by first|go_simp<;>go_num|assumption), (by first|go_simp<;>go_num|assumption), (by first|go_simp<;>go_num|assumption), Lib.hid (fun i h1 h2 => by omega), by simp only [AHeap.n_push]; omega, Lib.hid ((((Ext.refl _).push' _).push' _).push' _), Lib.hid ?_, Lib.hid ?_, Lib.hid ?_⟩
    · rw [AHeap.get_push_old (by simp only [AHeap.n_push]; omega), AHeap.get_push_old (by simp only [AHeap.n_push]; omega), get_at rfl]
    · rw [AHeap.get_push_old (by simp only [AHeap.n_push]; omega), get_at (by simp only [AHeap.n_push])]
    · rw [get_at (by simp only [AHeap.n_push]), List.map_replicate]
  clear f0 f1 hd f
  rintro m f H' ⟨k, i, L, hk, hik, rfl, hLl, f7, f5, f6, f2, f3, hd, HG, hn2, HX, HG0, HG1, HG2⟩
  have hg0 := HG0.out
  have hg1 := HG1.out
  have hg2 := HG2.out
  have hc2 : cellsAt H' H.n 0 2 = some [Value.slice wa s.words.length wc, Value.slice aa s.alts.length ac] := by simp [cellsAt, hg0]
  have hd0 : cellAt H' (H.n + 1) 0 = some (Value.slice ca c.words.length cc) := by simp [cellAt, hg1]
  have hd1 : cellAt H' (H.n + 1) 1 = some (.int .i64 c.beg) := by simp [cellAt, hg1]
  have hd2 : cellAt H' (H.n + 1) 2 = some (.int .i64 c.fin) := by simp [cellAt, hg1]
  have hd3 : cellAt H' (H.n + 1) 3 = some (.int .i64 p) := by simp [cellAt, hg1]
  have hn1 : H.n < H'.n := by omega
  have hn1' : H.n + 1 < H'.n := by omega
  have HLL := Lib.hid hLl
  have HCELL : Hid (∀ j, j < c.words.length → cellAt H' (H.n + 2) j = some (.int .i64 (L.getD j 0))) := Lib.hid (fun j hj => by rw [rowCell hg2 (by omega)])
  clear hg0 hg1 hLl
  rcases Nat.eq_zero_or_pos k with hk0 | hk0
  · subst hk0
    have hi2 : i = -1 := by omega
    subst hi2
    clear hik
    repeat' (first|(with_reducible first|refine zA ?_|refine zB fun K hK=>?_|refine zC fun K2 hK2=>?_|refine zD ?_|refine zE ?_|refine zF ?_|refine zG ?_|refine zH ?_|refine zI ?_|refine zM ?_|refine zN ?_|refine zO ?_|refine zP ?_|refine zQ ?_|refine zR ?_)|((with_reducible refine zU (hK _ _ ?_));clear hK K)|((with_reducible refine zV ?_ ?_ fun K1 K3 d hdst h1 h3=>?_);rfl;exact yB rfl;cases hdst;go_simp)|((with_reducible refine zW fun K1 K3 h1 h3=>?_);go_simp)|((first|refine h1 ?_|refine h3 ?_);clear h1 h3 K1 K3)|((first|refine zX (fun hb=>h1 ?_) (fun hb=>h3 ?_)|refine zX (fun hb=>h3 ?_) (fun hb=>h1 ?_))<;>(clear h1 h3 K1 K3;(try have hb2:=yC hb);(try have hb2:=yD hb);(try have hb2:=yE hb);(try have hb2:=yF hb);(try have hb2:=yG hb)))|(refine fun (K2:_→AHeap→Prop) hK2=>?_)|((with_reducible refine zY ?_ ?_);decide)|((with_reducible first|refine zZ ?_ (fun K hK=>?_)|refine yA ?_ (fun K hK=>?_));(focus go_simp;done);go_simp;refine hK _ _ ?_;clear hK K)|(go_simp;(try go_bits);refine hK2 _ _ ?_;clear hK2 K2))
    refine ⟨?_, HX.out⟩
    have hLe : L = lt := by
      refine List.ext_getElem (by rw [HLL.out, HLO.out.len]) fun j h1 h2 => ?_
      have := HG.out j (by omega) (by rw [← HLL.out]; exact h1)
      simpa [List.getD_eq_getElem?_getD, h1, h2] using this
    rw [← hLe]
    exact own_new (by omega) hn2 hg2 (by rw [List.length_map, HLL.out]; omega) hc1
  · obtain ⟨j, rfl⟩ : ∃ j : Nat, k = j + 1 := ⟨k - 1, by omega⟩
    have hij : i = (j : Int) := by omega
    subst hij
    clear hik hk0
    have hj : j < c.words.length := by omega
    obtain ⟨b, o, sp, rfl, hb, hxw⟩ := (HCW.out.ext HX.out).at_ hj
    have HWD : Hid (c.words.getD j 0 = c.words[j]) := Lib.hid (by simp [List.getD_eq_getElem?_getD, hj])
    generalize c.words[j] = w at hxw HWD
    have HCAN := Lib.hid (fun (loops : List (Nat × LInfo)) (d : Int) => can_s (loops := loops) (d := d) (w := w) (HV.out.ext HX.out) (show (0 : Int) ≤ (j : Int) by omega) (by have := HLEN.out; omega))
    have hljin := HINH.out j hj
    obtain ⟨hAt, hAb, hAf⟩ := HLO.out.at_ j hj
    have HAT := Lib.hid hAt
    have HTOP := Lib.hid (fun e => HLO.out.top j e hj)
    have HN1 := Lib.hid (HLO.out.next j)
    have HNP := Lib.hid (HLO.out.per j)
    clear hAt
    generalize hlj : lt.getD j 0 = y at hljin hAb hAf HAT HTOP HN1 HNP
    have HLJ := Lib.hid hlj
    clear hlj
    repeat' (first|((with_reducible refine stop_if (n := 7) ?_))|(with_reducible first|refine zA ?_|refine zB fun K hK=>?_|refine zC fun K2 hK2=>?_|refine zD ?_|refine zE ?_|refine zF ?_|refine zG ?_|refine zH ?_|refine zI ?_|refine zM ?_|refine zN ?_|refine zO ?_|refine zP ?_|refine zQ ?_|refine zR ?_)|((with_reducible refine zU (hK _ _ ?_));clear hK K)|((with_reducible refine zV ?_ ?_ fun K1 K3 d hdst h1 h3=>?_);rfl;exact yB rfl;cases hdst;go_simp)|((with_reducible refine zW fun K1 K3 h1 h3=>?_);go_simp)|((first|refine h1 ?_|refine h3 ?_);clear h1 h3 K1 K3)|((first|refine zX (fun hb=>h1 ?_) (fun hb=>h3 ?_)|refine zX (fun hb=>h3 ?_) (fun hb=>h1 ?_))<;>(clear h1 h3 K1 K3;(try have hb2:=yC hb);(try have hb2:=yD hb);(try have hb2:=yE hb);(try have hb2:=yF hb);(try have hb2:=yG hb)))|(refine fun (K2:_→AHeap→Prop) hK2=>?_)|((with_reducible refine zY ?_ ?_);decide)|((with_reducible first|refine zZ ?_ (fun K hK=>?_)|refine yA ?_ (fun K hK=>?_));(focus go_simp;done);go_simp;refine hK _ _ ?_;clear hK K)|(go_simp;(try go_bits);refine hK2 _ _ ?_;clear hK2 K2))
    refine ⟨CodeS.cut (fun f H'' => ∃ D : Int, 0 ≤ D ∧ D ≤ 730 ∧ f.tmp 8 = .int .i64 D ∧ f.tmp 7 = .int .i64 (j : Nat) ∧ f.tmp 5 = .int .i64 (c.words.length : Nat) ∧ f.tmp 6 = .slice (some ⟨H.n + 2, 0, none⟩) c.words.length c.words.length ∧ f.tmp 2 = .pointer (some ⟨H.n, 0, none⟩) ∧ f.tmp 3 = .pointer (some ⟨H.n + 1, 0, none⟩) ∧ f.defers = [] ∧ Hid (y ≤ D ∧ D ≤ c.fin ∧ (j + 1 < c.words.length → D ≤ lt.getD (j + 1) 0)) ∧ Hid (∀ e, e ≤ c.fin → (j + 1 < c.words.length → e ≤ lt.getD (j + 1) 0) → e ≤ D) ∧ H'' = H') ?_ ?_⟩
    · by_cases h1 : j + 1 < c.words.length
      · have hy1 := HINH.out (j + 1) h1
        have hc9 : cellAt H' (H.n + 2) (j + 1) = some (.int .i64 (lt.getD (j + 1) 0)) := by rw [HCELL.out _ h1, HG.out _ (by omega) h1]
        have hyn := HN1.out h1
        generalize lt.getD (j + 1) 0 = y1 at hy1 hc9 hyn
        have h1i : (j : Int) + 1 < (c.words.length : Nat) := by omega
        have h0i : (0 : Int) ≤ (j : Int) + 1 := by omega
        repeat' (first|(with_reducible first|refine zA ?_|refine zB fun K hK=>?_|refine zC fun K2 hK2=>?_|refine zD ?_|refine zE ?_|refine zF ?_|refine zG ?_|refine zH ?_|refine zI ?_|refine zM ?_|refine zN ?_|refine zO ?_|refine zP ?_|refine zQ ?_|refine zR ?_)|((with_reducible refine zU (hK _ _ ?_));clear hK K)|((with_reducible refine zV ?_ ?_ fun K1 K3 d hdst h1 h3=>?_);rfl;exact yB rfl;cases hdst;go_simp)|((with_reducible refine zW fun K1 K3 h1 h3=>?_);go_simp)|((first|refine h1 ?_|refine h3 ?_);clear h1 h3 K1 K3)|((first|refine zX (fun hb=>h1 ?_) (fun hb=>h3 ?_)|refine zX (fun hb=>h3 ?_) (fun hb=>h1 ?_))<;>(clear h1 h3 K1 K3;(try have hb2:=yC hb);(try have hb2:=yD hb);(try have hb2:=yE hb);(try have hb2:=yF hb);(try have hb2:=yG hb)))|(refine fun (K2:_→AHeap→Prop) hK2=>?_)|((with_reducible refine zY ?_ ?_);decide)|((with_reducible first|refine zZ ?_ (fun K hK=>?_)|refine yA ?_ (fun K hK=>?_));(focus go_simp;done);go_simp;refine hK _ _ ?_;clear hK K)|(go_simp;(try go_bits);refine hK2 _ _ ?_;clear hK2 K2))
        exact ⟨min c.fin y1, by omega, by omega, (by first|go_simp<;>go_num|assumption), (by first|go_simp<;>go_num|assumption), (by first|go_simp<;>go_num|assumption), (by first|go_simp<;>go_num|assumption), (by first|go_simp<;>go_num|assumption), (by first|go_simp<;>go_num|assumption), (by first|go_simp<;>go_num|assumption), Lib.hid ⟨by omega, by omega, fun _ => by omega⟩, Lib.hid (fun e h2 h3 => by have := h3 h1; omega), rfl⟩
      · have h1i : ¬ ((j : Int) + 1 < (c.words.length : Nat)) := by omega
        repeat' (first|(with_reducible first|refine zA ?_|refine zB fun K hK=>?_|refine zC fun K2 hK2=>?_|refine zD ?_|refine zE ?_|refine zF ?_|refine zG ?_|refine zH ?_|refine zI ?_|refine zM ?_|refine zN ?_|refine zO ?_|refine zP ?_|refine zQ ?_|refine zR ?_)|((with_reducible refine zU (hK _ _ ?_));clear hK K)|((with_reducible refine zV ?_ ?_ fun K1 K3 d hdst h1 h3=>?_);rfl;exact yB rfl;cases hdst;go_simp)|((with_reducible refine zW fun K1 K3 h1 h3=>?_);go_simp)|((first|refine h1 ?_|refine h3 ?_);clear h1 h3 K1 K3)|((first|refine zX (fun hb=>h1 ?_) (fun hb=>h3 ?_)|refine zX (fun hb=>h3 ?_) (fun hb=>h1 ?_))<;>(clear h1 h3 K1 K3;(try have hb2:=yC hb);(try have hb2:=yD hb);(try have hb2:=yE hb);(try have hb2:=yF hb);(try have hb2:=yG hb)))|(refine fun (K2:_→AHeap→Prop) hK2=>?_)|((with_reducible refine zY ?_ ?_);decide)|((with_reducible first|refine zZ ?_ (fun K hK=>?_)|refine yA ?_ (fun K hK=>?_));(focus go_simp;done);go_simp;refine hK _ _ ?_;clear hK K)|(go_simp;(try go_bits);refine hK2 _ _ ?_;clear hK2 K2))
        exact ⟨c.fin, by omega, by omega, (by first|go_simp<;>go_num|assumption), (by first|go_simp<;>go_num|assumption), (by first|go_simp<;>go_num|assumption), (by first|go_simp<;>go_num|assumption), (by first|go_simp<;>go_num|assumption), (by first|go_simp<;>go_num|assumption), (by first|go_simp<;>go_num|assumption), Lib.hid ⟨by omega, by omega, fun h => absurd h h1⟩, Lib.hid (fun e h2 h3 => h2), rfl⟩
    · clear f5 f6 f7 f2 f3 hd f
      rintro f H9 ⟨D, hD0, hD1, f8, f7, f5, f6, f2, f3, hd, HD, HDA, rfl⟩
      repeat' (first|((with_reducible refine stop_if (n := 9) ?_))|(with_reducible first|refine zA ?_|refine zB fun K hK=>?_|refine zC fun K2 hK2=>?_|refine zD ?_|refine zE ?_|refine zF ?_|refine zG ?_|refine zH ?_|refine zI ?_|refine zM ?_|refine zN ?_|refine zO ?_|refine zP ?_|refine zQ ?_|refine zR ?_)|((with_reducible refine zU (hK _ _ ?_));clear hK K)|((with_reducible refine zV ?_ ?_ fun K1 K3 d hdst h1 h3=>?_);rfl;exact yB rfl;cases hdst;go_simp)|((with_reducible refine zW fun K1 K3 h1 h3=>?_);go_simp)|((first|refine h1 ?_|refine h3 ?_);clear h1 h3 K1 K3)|((first|refine zX (fun hb=>h1 ?_) (fun hb=>h3 ?_)|refine zX (fun hb=>h3 ?_) (fun hb=>h1 ?_))<;>(clear h1 h3 K1 K3;(try have hb2:=yC hb);(try have hb2:=yD hb);(try have hb2:=yE hb);(try have hb2:=yF hb);(try have hb2:=yG hb)))|(refine fun (K2:_→AHeap→Prop) hK2=>?_)|((with_reducible refine zY ?_ ?_);decide)|((with_reducible first|refine zZ ?_ (fun K hK=>?_)|refine yA ?_ (fun K hK=>?_));(focus go_simp;done);go_simp;refine hK _ _ ?_;clear hK K)|(go_simp;(try go_bits);refine hK2 _ _ ?_;clear hK2 K2))
      refine ⟨CodeS.cut (fun f H'' => ∃ D : Int, y ≤ D ∧ D ≤ 730 ∧ f.tmp 8 = .int .i64 D ∧ f.tmp 7 = .int .i64 (j : Nat) ∧ f.tmp 5 = .int .i64 (c.words.length : Nat) ∧ f.tmp 6 = .slice (some ⟨H.n + 2, 0, none⟩) c.words.length c.words.length ∧ f.tmp 2 = .pointer (some ⟨H.n, 0, none⟩) ∧ f.tmp 3 = .pointer (some ⟨H.n + 1, 0, none⟩) ∧ f.defers = [] ∧ Hid (D ≤ c.fin ∧ (j + 1 < c.words.length → D ≤ lt.getD (j + 1) 0) ∧ (j + p < c.words.length → D + 1 ≤ lt.getD (j + p) 0)) ∧ H'' = H9) ?_ ?_⟩
      · by_cases h1 : j + p < c.words.length
        · have hy1 := HINH.out (j + p) h1
          have hc9 : cellAt H9 (H.n + 2) (j + p) = some (.int .i64 (lt.getD (j + p) 0)) := by rw [HCELL.out _ h1, HG.out _ (by omega) h1]
          have hyn := HNP.out h1
          generalize hy2 : lt.getD (j + p) 0 = y2 at hy1 hc9 hyn
          have HY2 := Lib.hid hy2
          have h1i : (j : Int) + (p : Int) < (c.words.length : Nat) := by omega
          have h0i : (0 : Int) ≤ (j : Int) + (p : Int) := by omega
          have hti : ((j : Int) + (p : Int)).toNat = j + p := by omega
          clear hy2
          repeat' (first|(with_reducible first|refine zA ?_|refine zB fun K hK=>?_|refine zC fun K2 hK2=>?_|refine zD ?_|refine zE ?_|refine zF ?_|refine zG ?_|refine zH ?_|refine zI ?_|refine zM ?_|refine zN ?_|refine zO ?_|refine zP ?_|refine zQ ?_|refine zR ?_)|((with_reducible refine zU (hK _ _ ?_));clear hK K)|((with_reducible refine zV ?_ ?_ fun K1 K3 d hdst h1 h3=>?_);rfl;exact yB rfl;cases hdst;go_simp)|((with_reducible refine zW fun K1 K3 h1 h3=>?_);go_simp)|((first|refine h1 ?_|refine h3 ?_);clear h1 h3 K1 K3)|((first|refine zX (fun hb=>h1 ?_) (fun hb=>h3 ?_)|refine zX (fun hb=>h3 ?_) (fun hb=>h1 ?_))<;>(clear h1 h3 K1 K3;(try have hb2:=yC hb);(try have hb2:=yD hb);(try have hb2:=yE hb);(try have hb2:=yF hb);(try have hb2:=yG hb)))|(refine fun (K2:_→AHeap→Prop) hK2=>?_)|((with_reducible refine zY ?_ ?_);decide)|((with_reducible first|refine zZ ?_ (fun K hK=>?_)|refine yA ?_ (fun K hK=>?_));(focus go_simp;done);go_simp;refine hK _ _ ?_;clear hK K)|(go_simp;(try go_bits);refine hK2 _ _ ?_;clear hK2 K2))
          exact ⟨min D (y2 - 1), by have := HD.out; omega, by omega, (by first|go_simp<;>go_num|assumption), (by first|go_simp<;>go_num|assumption), (by first|go_simp<;>go_num|assumption), (by first|go_simp<;>go_num|assumption), (by first|go_simp<;>go_num|assumption), (by first|go_simp<;>go_num|assumption), (by first|go_simp<;>go_num|assumption), Lib.hid ⟨by have := HD.out; omega, fun h => by have := HD.out.2.2 h; omega, fun h => by omega⟩, rfl⟩
        · have h1i : ¬ ((j : Int) + (p : Int) < (c.words.length : Nat)) := by omega
          repeat' (first|(with_reducible first|refine zA ?_|refine zB fun K hK=>?_|refine zC fun K2 hK2=>?_|refine zD ?_|refine zE ?_|refine zF ?_|refine zG ?_|refine zH ?_|refine zI ?_|refine zM ?_|refine zN ?_|refine zO ?_|refine zP ?_|refine zQ ?_|refine zR ?_)|((with_reducible refine zU (hK _ _ ?_));clear hK K)|((with_reducible refine zV ?_ ?_ fun K1 K3 d hdst h1 h3=>?_);rfl;exact yB rfl;cases hdst;go_simp)|((with_reducible refine zW fun K1 K3 h1 h3=>?_);go_simp)|((first|refine h1 ?_|refine h3 ?_);clear h1 h3 K1 K3)|((first|refine zX (fun hb=>h1 ?_) (fun hb=>h3 ?_)|refine zX (fun hb=>h3 ?_) (fun hb=>h1 ?_))<;>(clear h1 h3 K1 K3;(try have hb2:=yC hb);(try have hb2:=yD hb);(try have hb2:=yE hb);(try have hb2:=yF hb);(try have hb2:=yG hb)))|(refine fun (K2:_→AHeap→Prop) hK2=>?_)|((with_reducible refine zY ?_ ?_);decide)|((with_reducible first|refine zZ ?_ (fun K hK=>?_)|refine yA ?_ (fun K hK=>?_));(focus go_simp;done);go_simp;refine hK _ _ ?_;clear hK K)|(go_simp;(try go_bits);refine hK2 _ _ ?_;clear hK2 K2))
          exact ⟨D, HD.out.1, by omega, (by first|go_simp<;>go_num|assumption), (by first|go_simp<;>go_num|assumption), (by first|go_simp<;>go_num|assumption), (by first|go_simp<;>go_num|assumption), (by first|go_simp<;>go_num|assumption), (by first|go_simp<;>go_num|assumption), (by first|go_simp<;>go_num|assumption), Lib.hid ⟨HD.out.2.1, HD.out.2.2, fun h => absurd h h1⟩, rfl⟩
      clear HD HDA hD0 hD1 f8 f7 f5 f6 f2 f3 hd f D
      rintro f H9 ⟨D, hD0, hD1, f8, f7, f5, f6, f2, f3, hd, HD, rfl⟩
      repeat' (first|(with_reducible first|refine zA ?_|refine zB fun K hK=>?_|refine zC fun K2 hK2=>?_|refine zD ?_|refine zE ?_|refine zF ?_|refine zG ?_|refine zH ?_|refine zI ?_|refine zM ?_|refine zN ?_|refine zO ?_|refine zP ?_|refine zQ ?_|refine zR ?_)|((with_reducible refine zU (hK _ _ ?_));clear hK K)|((with_reducible refine zV ?_ ?_ fun K1 K3 d hdst h1 h3=>?_);rfl;exact yB rfl;cases hdst;go_simp)|((with_reducible refine zW fun K1 K3 h1 h3=>?_);go_simp)|((first|refine h1 ?_|refine h3 ?_);clear h1 h3 K1 K3)|((first|refine zX (fun hb=>h1 ?_) (fun hb=>h3 ?_)|refine zX (fun hb=>h3 ?_) (fun hb=>h1 ?_))<;>(clear h1 h3 K1 K3;(try have hb2:=yC hb);(try have hb2:=yD hb);(try have hb2:=yE hb);(try have hb2:=yF hb);(try have hb2:=yG hb)))|(refine fun (K2:_→AHeap→Prop) hK2=>?_)|((with_reducible refine zY ?_ ?_);decide)|((with_reducible first|refine zZ ?_ (fun K hK=>?_)|refine yA ?_ (fun K hK=>?_));(focus go_simp;done);go_simp;refine hK _ _ ?_;clear hK K)|(go_simp;(try go_bits);refine hK2 _ _ ?_;clear hK2 K2))
      refine CodeS.loop (fun m f H'' => ∃ d : Int, y ≤ d ∧ d ≤ D ∧ m = (d - y).toNat ∧ f.tmp 8 = .int .i64 d ∧ f.tmp 7 = .int .i64 (j : Nat) ∧ f.tmp 5 = .int .i64 (c.words.length : Nat) ∧ f.tmp 6 = .slice (some ⟨H.n + 2, 0, none⟩) c.words.length c.words.length ∧ f.tmp 2 = .pointer (some ⟨H.n, 0, none⟩) ∧ f.tmp 3 = .pointer (some ⟨H.n + 1, 0, none⟩) ∧ f.defers = [] ∧ H'' = H9) (D - y).toNat ?_ ?_
      · exact ⟨D, hD0, Int.le_refl _, rfl, (by first|go_simp<;>go_num|assumption), (by first|go_simp<;>go_num|assumption), (by first|go_simp<;>go_num|assumption), (by first|go_simp<;>go_num|assumption), (by first|go_simp<;>go_num|assumption), (by first|go_simp<;>go_num|assumption), (by first|go_simp<;>go_num|assumption), rfl⟩
      clear f8 f7 f5 f6 f2 f3 hd f
      rintro m f H8 ⟨d, hd1', hd2', rfl, f8, f7, f5, f6, f2, f3, hd, hH8⟩
      subst hH8
      have hcn2 := fun (loops : List (Nat × LInfo)) => HCAN.out loops d
      have HEQ : Hid ((hasOn s j d).offers w = true → d = y) := Lib.hid (fun h => by
        have := HTOP.out d (by omega) (by have := HD.out.1; omega) (by rw [HWD.out]; exact h) (fun h1 => by have := HD.out.2.1 h1; omega) (fun h1 => by have := HD.out.2.2 h1; omega)
        omega)
      have HNE : Hid ((hasOn s j d).offers w = false → y < d) := Lib.hid (fun h => by
        rcases Int.lt_or_le y d with h1 | h1
        · exact h1
        · have h2 : d = y := by omega
          have h3 := HAT.out
          rw [HWD.out, ← h2, h] at h3; cases h3)
      generalize (hasOn s j d).offers w = bb at hcn2 HEQ HNE
      have HCN := Lib.hid hcn2
      clear hcn2
      have hdb : c.beg ≤ d := by omega
      have hj1 : (j : Int) < (c.words.length : Nat) := by omega
      have hlm : j < L.length := by rw [HLL.out]; exact hj
      repeat' (first|(with_reducible first|refine zA ?_|refine zB fun K hK=>?_|refine zC fun K2 hK2=>?_|refine zD ?_|refine zE ?_|refine zF ?_|refine zG ?_|refine zH ?_|refine zI ?_|refine zM ?_|refine zN ?_|refine zO ?_|refine zP ?_|refine zQ ?_|refine zR ?_)|((with_reducible refine zU (hK _ _ ?_));clear hK K)|((with_reducible refine zV ?_ ?_ fun K1 K3 d hdst h1 h3=>?_);rfl;exact yB rfl;cases hdst;go_simp)|((with_reducible refine zW fun K1 K3 h1 h3=>?_);go_simp)|((first|refine h1 ?_|refine h3 ?_);clear h1 h3 K1 K3)|((first|refine zX (fun hb=>h1 ?_) (fun hb=>h3 ?_)|refine zX (fun hb=>h3 ?_) (fun hb=>h1 ?_))<;>(clear h1 h3 K1 K3;(try have hb2:=yC hb);(try have hb2:=yD hb);(try have hb2:=yE hb);(try have hb2:=yF hb);(try have hb2:=yG hb)))|(refine fun (K2:_→AHeap→Prop) hK2=>?_)|((with_reducible refine zY ?_ ?_);decide)|((with_reducible first|refine zZ ?_ (fun K hK=>?_)|refine yA ?_ (fun K hK=>?_));(focus go_simp;done);go_simp;refine hK _ _ ?_;clear hK K)|((with_reducible refine yH mixed rfl ?_ 20 fun K0 hK0=>?_);kernel_rfl)|(with_reducible first|exact yI|exact yJ|refine yK ?_|refine yL ?_|refine yM ?_)|((with_reducible first|refine yN ?_ ?_|refine yO ?_ ?_|refine yP ?_ ?_);rfl)|((with_reducible refine yQ ?_ ?_);rfl;refine hK0 _ _ ?_;clear hK0 K0)|((with_reducible refine yR ?_ ?_ ?_ ?_);rfl;rfl;rfl)|((with_reducible refine yS ?_ ?_ ?_ fun K2 hK2=>?_);rfl;rfl;exact yB rfl)|((with_reducible refine yT ?_ ?_ ?_ ?_ fun K1 K3 d hdst h1 h3=>?_);rfl;rfl;rfl;exact yB rfl;cases hdst;go_simp)|((with_reducible refine yU ?_ ?_ ?_ ?_ fun K1 K3 d hdst h1 h3=>?_);rfl;rfl;rfl;exact yB rfl;cases hdst;go_simp)|((with_reducible refine yV ?_ ?_ (fun K2 hK2=>?_) ?_);rfl;exact yB rfl)|((with_reducible refine yW ?_ ?_ ?_ ?_ (fun K2 hK2=>?_) ?_);rfl;exact yB rfl;rfl;(focus go_simp;done))|((with_reducible refine yX ?_ ?_ ?_ (fun K2 hK2=>?_) ?_);rfl;rfl;exact yB rfl)|((with_reducible refine yY ?_ ?_ (fun K2 hK2=>?_) ?_);rfl;rfl)|((with_reducible refine yZ ?_ ?_);(first|rfl|(dsimp only;decide +kernel)))|((with_reducible refine xA ?_ ?_);(focus go_simp;done))|(go_simp;(try go_bits);(try first | ((with_reducible show CallS _ _ _ _ _ _);refine CallS.mono (HCN.out _) ?_; rintro _ _ ⟨rfl, h9⟩; rw [h9]; clear h9));(first|(refine hK2 _ _ ?_ ?_<;>clear hK2 K2)|(refine hK2 _ _ ?_;clear hK2 K2))))
      all_goals first
        | (exfalso; omega)
        | (have hbf : bb = false := by simpa using ‹(!bb) = true›
           have := HNE.out hbf
           exact Post.round_normal ⟨(d - 1 - y).toNat, by omega, d - 1, by omega, by omega, rfl, (by first|go_simp<;>go_num|assumption), (by first|go_simp<;>go_num|assumption), (by first|go_simp<;>go_num|assumption), (by first|go_simp<;>go_num|assumption), (by first|go_simp<;>go_num|assumption), (by first|go_simp<;>go_num|assumption), (by first|go_simp<;>go_num|assumption), rfl⟩)
        | skip
      have hbt : bb = true := by simpa using ‹(!bb) = false›
      have hdy := HEQ.out hbt
      refine Post.round_normal ⟨j, by omega, j, (j : Int) - 1, L.set j d, by omega, rfl, rfl, by simp [HLL.out], (by first|go_simp<;>go_num|assumption), (by first|go_simp<;>go_num|assumption), (by first|go_simp<;>go_num|assumption), (by first|go_simp<;>go_num|assumption), (by first|go_simp<;>go_num|assumption), (by first|go_simp<;>go_num|assumption), Lib.hid (fun i h1 h2 => ?_), by rw [AHeap.n_upd]; omega, Lib.hid (HX.out.upd (by omega) _), Lib.hid ?_, Lib.hid ?_, Lib.hid ?_⟩
      · rw [getD_set _ _ _ _ hlm]
        by_cases hij : i = j
        · rw [if_pos hij, hij, hdy, HLJ.out]
        · rw [if_neg hij, HG.out i (by omega) h2]
      · rw [AHeap.get_upd_ne (by omega)]; exact HG0.out
      · rw [AHeap.get_upd_ne (by omega)]; exact HG1.out
      · rw [AHeap.get_upd_same, List.map_set]
end Go.Proofs.Tryz
namespace Go.Proofs.Tryz
open Go Go.Am Go.RowKit
set_option maxRecDepth 100000

end Go.Proofs.Tryz
namespace Go.Proofs.Tryz
open Go Go.Am Go.RowKit Go.Co
set_option maxRecDepth 100000

theorem fitsV_form' (s : Sheet) (c : Copy) (days : List Int) : ∃ n b, fitsV s c days = .tuple #[.int .i64 n, .bool b, .int .i64 (errFits s c days)] ∧ (errFits s c days = 0 → b = true → FitsOk s c days) := by
  unfold fitsV FitsOk
  by_cases h : errFits s c days = 0
  · rw [if_pos h, h]
    cases hf : fitsR s c days with
    | none => exact ⟨0, true, rfl, fun _ _ => ⟨rfl, rfl⟩⟩
    | some i => exact ⟨i, false, rfl, fun _ h => by cases h⟩
  · rw [if_neg h]
    exact ⟨0, false, rfl, fun h1 => absurd h1 h⟩
theorem errExt_ok {s : Sheet} {c : Copy} (h : errExt s c = 0) : errCopy s c = 0 ∧ (courseOf s c).made c.per.toNat = true := by
  unfold errExt at h
  split at h
  · rename_i h1; exact absurd h h1
  · rename_i h1
    split at h
    · rename_i h2; exact ⟨by simpa using h1, h2⟩
    · cases h
end Go.Proofs.Tryz
namespace Go.Proofs.Tryz
open Go Go.Am Go.RowKit Go.Co
set_option maxRecDepth 100000

theorem errCopied_ext (s : Sheet) (c : Copy) : errCopied s c = errExt s c := rfl
theorem refFirst_f {loops : List (Nat × LInfo)} {H : AHeap} {sv cv : Value} {s : Sheet} {c : Copy} (hs : SheetV H sv s) (hc : CopyV H cv c) : CallS Tryz.prog loops 14 [sv, cv] H fun r H' => (∃ v, r = .agg #[v, .int .i64 (errExt s c)] ∧ Ints H' v (firstL s c)) ∧ Ext H H' := by
  have HV := Lib.hid hs
  have HC := Lib.hid hc
  obtain ⟨wv, av, rfl, hw, ha⟩ := hs
  obtain ⟨hwl, wa, wc, rfl⟩ := hw.slice
  obtain ⟨hal, aa, ac, rfl⟩ := ha.slice
  obtain ⟨cv, rfl, hcw⟩ := hc
  obtain ⟨hcl, ca, cc, rfl⟩ := hcw.slice
  clear hw ha hcw
  have HX1 : Hid (Ext H (((H.push (.row [Value.slice wa s.words.length wc, Value.slice aa s.alts.length ac] 25)).push (.row [Value.slice ca c.words.length cc, .int .i64 c.beg, .int .i64 c.fin, .int .i64 c.per] 27)).push (.row [.slice none 0 0, .int .i64 0] 37))) := Lib.hid (((Ext.refl _).push' _).push' _ |>.push' _)
  have HCO := Lib.hid (fun (loops : List (Nat × LInfo)) => copied_s (loops := loops) (s := s) (c := c) (HV.out.ext HX1.out) (HC.out.ext HX1.out))
  rw [errCopied_ext] at HCO
  have hnil : ∀ H : AHeap, Ints H (.slice none 0 0) [] := fun H => ⟨rfl, by simp, none, 0, rfl, by simp⟩
  have HNIL := Lib.hid hnil
  clear hnil
  refine CallS.enter' Tryz.func14 rfl Tryz.ntmps14 (by simp) fun f hd hf => ?_
  have f0 := hf 0
  have f1 := hf 1
  simp at f0 f1
  clear hf
  by_cases he : errExt s c = 0
  · have hcp := (errExt_ok he).1
    have HFI := Lib.hid (fun (loops : List (Nat × LInfo)) => refFirst_e (loops := loops) (s := s) (c := c) (HV.out.ext HX1.out) (HC.out.ext HX1.out) hcp)
    have hfl : firstL s c = (courseOf s c).early c.per.toNat 0 := by rw [firstL, if_pos he]
    have hlen := early_lenU (s := s) (c := c) hcp
    rw [← hfl] at HFI hlen
    rw [he] at HCO ⊢
    generalize firstL s c = F at HFI hlen ⊢
    clear hfl hcp he
    repeat' (first|(with_reducible first|refine zA ?_|refine zB fun K hK=>?_|refine zC fun K2 hK2=>?_|refine zD ?_|refine zE ?_|refine zF ?_|refine zG ?_|refine zH ?_|refine zI ?_|refine zM ?_|refine zN ?_|refine zO ?_|refine zP ?_|refine zQ ?_|refine zR ?_)|((with_reducible refine zU (hK _ _ ?_));clear hK K)|((with_reducible refine zV ?_ ?_ fun K1 K3 d hdst h1 h3=>?_);rfl;exact yB rfl;cases hdst;go_simp)|((with_reducible refine zW fun K1 K3 h1 h3=>?_);go_simp)|((first|refine h1 ?_|refine h3 ?_);clear h1 h3 K1 K3)|((first|refine zX (fun hb=>h1 ?_) (fun hb=>h3 ?_)|refine zX (fun hb=>h3 ?_) (fun hb=>h1 ?_))<;>(clear h1 h3 K1 K3;(try have hb2:=yC hb);(try have hb2:=yD hb);(try have hb2:=yE hb);(try have hb2:=yF hb);(try have hb2:=yG hb)))|(refine fun (K2:_→AHeap→Prop) hK2=>?_)|((with_reducible refine zY ?_ ?_);decide)|((with_reducible first|refine zZ ?_ (fun K hK=>?_)|refine yA ?_ (fun K hK=>?_));(focus go_simp;done);go_simp;refine hK _ _ ?_;clear hK K)|(go_simp;(try go_bits);(try first |((with_reducible show CallS _ _ _ _ _ _);first|(refine CallS.mono (HCO.out _) ?_; rintro _ _ ⟨rfl, h9⟩; rw [h9]; clear h9; go_simp)|(refine CallS.mono (HFI.out _) ?_; rintro _ H2 ⟨ho, hx⟩; (obtain ⟨va, vn, rfl⟩ := own_slice ho); (have HO := Lib.hid ho); (have HX2 := Lib.hid hx); (have hq : H2.get (H.n + 1 + 1) = .row [.slice none 0 0, .int .i64 0] 37 := (hx.get _ (by simp only [AHeap.n_push]; omega)).trans (get_at (by simp only [AHeap.n_push]))); (have hn2 : H.n + 1 + 1 < H2.n := by have := hx.n; simp only [AHeap.n_push] at this; omega); clear ho hx; go_simp)));refine hK2 _ _ ?_;clear hK2 K2))
    refine ⟨⟨_, rfl, ?_⟩, (HX1.out.trans HX2.out).upd (by omega) _⟩
    refine ints_of_own (own_upd HO.out ?_) (by omega)
    simp only [AHeap.n_push]; omega
  · have hfl : firstL s c = [] := by rw [firstL, if_neg he]
    have heb : (errExt s c != 0) = true := by simpa using he
    rw [hfl]
    clear hfl
    repeat' (first|(with_reducible first|refine zA ?_|refine zB fun K hK=>?_|refine zC fun K2 hK2=>?_|refine zD ?_|refine zE ?_|refine zF ?_|refine zG ?_|refine zH ?_|refine zI ?_|refine zM ?_|refine zN ?_|refine zO ?_|refine zP ?_|refine zQ ?_|refine zR ?_)|((with_reducible refine zU (hK _ _ ?_));clear hK K)|((with_reducible refine zV ?_ ?_ fun K1 K3 d hdst h1 h3=>?_);rfl;exact yB rfl;cases hdst;go_simp)|((with_reducible refine zW fun K1 K3 h1 h3=>?_);go_simp)|((first|refine h1 ?_|refine h3 ?_);clear h1 h3 K1 K3)|((first|refine zX (fun hb=>h1 ?_) (fun hb=>h3 ?_)|refine zX (fun hb=>h3 ?_) (fun hb=>h1 ?_))<;>(clear h1 h3 K1 K3;(try have hb2:=yC hb);(try have hb2:=yD hb);(try have hb2:=yE hb);(try have hb2:=yF hb);(try have hb2:=yG hb)))|(refine fun (K2:_→AHeap→Prop) hK2=>?_)|((with_reducible refine zY ?_ ?_);decide)|((with_reducible first|refine zZ ?_ (fun K hK=>?_)|refine yA ?_ (fun K hK=>?_));(focus go_simp;done);go_simp;refine hK _ _ ?_;clear hK K)|(go_simp;(try go_bits);(try first | ((with_reducible show CallS _ _ _ _ _ _);refine CallS.mono (HCO.out _) ?_; rintro _ _ ⟨rfl, h9⟩; rw [h9]; clear h9; go_simp));refine hK2 _ _ ?_;clear hK2 K2))
    exact ⟨⟨_, rfl, HNIL.out _⟩, ((Ext.refl _).push' _).push' _ |>.push' _⟩
theorem refLast_f {loops : List (Nat × LInfo)} {H : AHeap} {sv cv : Value} {s : Sheet} {c : Copy} (hs : SheetV H sv s) (hc : CopyV H cv c) : CallS Tryz.prog loops 16 [sv, cv] H fun r H' => (∃ v, r = .agg #[v, .int .i64 (errExt s c)] ∧ Ints H' v (lastL s c)) ∧ Ext H H' := by
  have HV := Lib.hid hs
  have HC := Lib.hid hc
  obtain ⟨wv, av, rfl, hw, ha⟩ := hs
  obtain ⟨hwl, wa, wc, rfl⟩ := hw.slice
  obtain ⟨hal, aa, ac, rfl⟩ := ha.slice
  obtain ⟨cv, rfl, hcw⟩ := hc
  obtain ⟨hcl, ca, cc, rfl⟩ := hcw.slice
  clear hw ha hcw
  have HX1 : Hid (Ext H (((H.push (.row [Value.slice wa s.words.length wc, Value.slice aa s.alts.length ac] 25)).push (.row [Value.slice ca c.words.length cc, .int .i64 c.beg, .int .i64 c.fin, .int .i64 c.per] 27)).push (.row [.slice none 0 0, .int .i64 0] 37))) := Lib.hid (((Ext.refl _).push' _).push' _ |>.push' _)
  have HCO := Lib.hid (fun (loops : List (Nat × LInfo)) => copied_s (loops := loops) (s := s) (c := c) (HV.out.ext HX1.out) (HC.out.ext HX1.out))
  rw [errCopied_ext] at HCO
  have hnil : ∀ H : AHeap, Ints H (.slice none 0 0) [] := fun H => ⟨rfl, by simp, none, 0, rfl, by simp⟩
  have HNIL := Lib.hid hnil
  clear hnil
  refine CallS.enter' Tryz.func16 rfl Tryz.ntmps16 (by simp) fun f hd hf => ?_
  have f0 := hf 0
  have f1 := hf 1
  simp at f0 f1
  clear hf
  by_cases he : errExt s c = 0
  · obtain ⟨hcp, hmd⟩ := errExt_ok he
    have HFI := Lib.hid (fun (loops : List (Nat × LInfo)) => refLast_e (loops := loops) (s := s) (c := c) (HV.out.ext HX1.out) (HC.out.ext HX1.out) hcp hmd)
    have hfl : lastL s c = (courseOf s c).late c.per.toNat := by rw [lastL, if_pos he]
    have hlen := late_len (courseOf s c) c.per.toNat
    rw [courseOf_len] at hlen
    rw [← hfl] at HFI hlen
    rw [he] at HCO ⊢
    generalize lastL s c = F at HFI hlen ⊢
    clear hfl hcp hmd he
    repeat' (first|(with_reducible first|refine zA ?_|refine zB fun K hK=>?_|refine zC fun K2 hK2=>?_|refine zD ?_|refine zE ?_|refine zF ?_|refine zG ?_|refine zH ?_|refine zI ?_|refine zM ?_|refine zN ?_|refine zO ?_|refine zP ?_|refine zQ ?_|refine zR ?_)|((with_reducible refine zU (hK _ _ ?_));clear hK K)|((with_reducible refine zV ?_ ?_ fun K1 K3 d hdst h1 h3=>?_);rfl;exact yB rfl;cases hdst;go_simp)|((with_reducible refine zW fun K1 K3 h1 h3=>?_);go_simp)|((first|refine h1 ?_|refine h3 ?_);clear h1 h3 K1 K3)|((first|refine zX (fun hb=>h1 ?_) (fun hb=>h3 ?_)|refine zX (fun hb=>h3 ?_) (fun hb=>h1 ?_))<;>(clear h1 h3 K1 K3;(try have hb2:=yC hb);(try have hb2:=yD hb);(try have hb2:=yE hb);(try have hb2:=yF hb);(try have hb2:=yG hb)))|(refine fun (K2:_→AHeap→Prop) hK2=>?_)|((with_reducible refine zY ?_ ?_);decide)|((with_reducible first|refine zZ ?_ (fun K hK=>?_)|refine yA ?_ (fun K hK=>?_));(focus go_simp;done);go_simp;refine hK _ _ ?_;clear hK K)|(go_simp;(try go_bits);(try first |((with_reducible show CallS _ _ _ _ _ _);first|(refine CallS.mono (HCO.out _) ?_; rintro _ _ ⟨rfl, h9⟩; rw [h9]; clear h9; go_simp)|(refine CallS.mono (HFI.out _) ?_; rintro _ H2 ⟨ho, hx⟩; (obtain ⟨va, vn, rfl⟩ := own_slice ho); (have HO := Lib.hid ho); (have HX2 := Lib.hid hx); (have hq : H2.get (H.n + 1 + 1) = .row [.slice none 0 0, .int .i64 0] 37 := (hx.get _ (by simp only [AHeap.n_push]; omega)).trans (get_at (by simp only [AHeap.n_push]))); (have hn2 : H.n + 1 + 1 < H2.n := by have := hx.n; simp only [AHeap.n_push] at this; omega); clear ho hx; go_simp)));refine hK2 _ _ ?_;clear hK2 K2))
    refine ⟨⟨_, rfl, ?_⟩, (HX1.out.trans HX2.out).upd (by omega) _⟩
    refine ints_of_own (own_upd HO.out ?_) (by omega)
    simp only [AHeap.n_push]; omega
  · have hfl : lastL s c = [] := by rw [lastL, if_neg he]
    have heb : (errExt s c != 0) = true := by simpa using he
    rw [hfl]
    clear hfl
    repeat' (first|(with_reducible first|refine zA ?_|refine zB fun K hK=>?_|refine zC fun K2 hK2=>?_|refine zD ?_|refine zE ?_|refine zF ?_|refine zG ?_|refine zH ?_|refine zI ?_|refine zM ?_|refine zN ?_|refine zO ?_|refine zP ?_|refine zQ ?_|refine zR ?_)|((with_reducible refine zU (hK _ _ ?_));clear hK K)|((with_reducible refine zV ?_ ?_ fun K1 K3 d hdst h1 h3=>?_);rfl;exact yB rfl;cases hdst;go_simp)|((with_reducible refine zW fun K1 K3 h1 h3=>?_);go_simp)|((first|refine h1 ?_|refine h3 ?_);clear h1 h3 K1 K3)|((first|refine zX (fun hb=>h1 ?_) (fun hb=>h3 ?_)|refine zX (fun hb=>h3 ?_) (fun hb=>h1 ?_))<;>(clear h1 h3 K1 K3;(try have hb2:=yC hb);(try have hb2:=yD hb);(try have hb2:=yE hb);(try have hb2:=yF hb);(try have hb2:=yG hb)))|(refine fun (K2:_→AHeap→Prop) hK2=>?_)|((with_reducible refine zY ?_ ?_);decide)|((with_reducible first|refine zZ ?_ (fun K hK=>?_)|refine yA ?_ (fun K hK=>?_));(focus go_simp;done);go_simp;refine hK _ _ ?_;clear hK K)|(go_simp;(try go_bits);(try first | ((with_reducible show CallS _ _ _ _ _ _);refine CallS.mono (HCO.out _) ?_; rintro _ _ ⟨rfl, h9⟩; rw [h9]; clear h9; go_simp));refine hK2 _ _ ?_;clear hK2 K2))
    exact ⟨⟨_, rfl, HNIL.out _⟩, ((Ext.refl _).push' _).push' _ |>.push' _⟩
end Go.Proofs.Tryz
namespace Go.Proofs.Tryz
open Go Go.Am Go.RowKit
set_option maxRecDepth 100000

section
variable {H : AHeap} {ev : Operand → Value} {dst : Option Tmp} {ty t' : TypeId} {src : String} {af : Array Edge} {g : Option (Nat × Bool)} {x y : Operand}
theorem eqlF4 (x y : Operand) (a b : Bool) : pureOf Tryz.prog (do eqGuard .eql 4 x y (.bool a) (.bool b); binOp .eql 4 (.bool a) (.bool b)) = some (.bool (a == b)) := by
  rw [pureOf_bind, show pureOf Tryz.prog (eqGuard .eql 4 x y (.bool a) (.bool b)) = some () by kernel_rfl]
  dsimp only [Option.bind]
  rw [show binOp .eql 4 (.bool a) (.bool b) = (do pure (.bool (← Op.equal 4 (.bool a) (.bool b)))) from rfl]
  rw [pureOf_bind, show Op.equal 4 (.bool a) (.bool b) = Op.equalIn (9999 + 1) 4 (.bool a) (.bool b) from rfl, pEq4]
  rfl
theorem eqlB_k {kp : Value → AHeap → Option Prop} {a b : Bool} (hx : ev x = .bool a) (hy : ev y = .bool b) (h : Holds (kp (.bool (a == b)) H)) : Holds (aPlain Tryz.prog ⟨dst, .binOp .eql 4 x y t', ty, src, af, g⟩ ev H kp) := by
  have hr : pureOf Tryz.prog (execOp ev ⟨dst, .binOp .eql 4 x y t', ty, src, af, g⟩) = some (.value (.bool (a == b))) := by
    have h0 : execOp ev ⟨dst, .binOp .eql 4 x y t', ty, src, af, g⟩ = (do pure (.value (← (do eqGuard .eql 4 x y (ev x) (ev y); binOp .eql 4 (ev x) (ev y))))) := rfl
    rw [h0, hx, hy, pureOf_bind, eqlF4]; rfl
  rw [plain_of rfl, hr]
  have ho : (Op.binOp .eql 4 x y t').operands.toList.all (fun x => plainV 6 (ev x)) = true := by
    show (#[x, y].toList.all fun x => plainV 6 (ev x)) = _
    simp [hx, hy]; exact ⟨rfl, rfl⟩
  rw [if_pos ho]; exact h
@[go_sem] theorem aBin_boolE {β : Type} {kk : K β} {other : Unit → Option β} {t : TypeId} {a b : Bool} : aBin Tryz.prog .eql t (.bool a) (.bool b) H kk other = other () := by
  have h : nilEq Tryz.prog t (.bool a) (.bool b) = none := by
    unfold nilEq
    split <;> simp_all
  simp only [aBin, aEq, h]
end
end Go.Proofs.Tryz
