/- Contracts of functions, walked. -/
import Derived.Test.YtgddlpegljkgpaaGreatStTB
import Derived.Test.YtgddlpegljkgpaaGreatStSN
import Derived.Test.YtgddlpegljkgpaaGreatStSA
import Derived.Test.YtgddlpegljkgpaaGreatStTD
import Derived.Test.YtgddlpegljkgpaaGreatAwB
set_option linter.all false
namespace Go.Proofs.Tryz
open Go Go.Am Go.RowKit Go.Co
theorem clampL_get (xs : List Int) {i : Nat} (hi : i < xs.length) : (clampL xs).getD i 0 = clampI (xs.getD i 0) := by
  simp [clampL, List.getD_eq_getElem?_getD, hi]
def Course.holds (x : Course) (p : Nat) (fl : List Int) : Bool := holdGo x p (clampL fl) fl.length 0
theorem Course.holds_le {x : Course} {p : Nat} {fl g : List Int} (h : x.ord) (hp : 1 ≤ p) (hf : x.holds p fl = true) (hl : fl.length ≤ g.length) (hg : x.fit p g) : ∀ i, i < fl.length → fl.getD i 0 ≤ g.getD i 0 := by
  intro i hi
  have h1 := floors_ok (op := x.op) hp (fun i f => x.nx_ok h i f) (clampL fl) g fl.length (fun j hj => (holdGo_iff _ _).1 hf j (Nat.zero_le _) (by omega)) (fun j hj => hg.2 j (by omega)) i hi
  rw [clampL_get fl hi] at h1
  have := x.fit_in h hg i (by omega)
  simp only [clampI] at h1
  omega
theorem clampL_id {g : List Int} (h : ∀ i, i < g.length → -1 ≤ g.getD i 0 ∧ g.getD i 0 ≤ 731) : clampL g = g := by
  refine List.ext_getElem (by rw [clampL_length]) fun i h1 h2 => ?_
  have := h i h2
  have h3 := clampL_get g h2
  rw [List.getD_eq_getElem?_getD, List.getElem?_eq_getElem h1, List.getD_eq_getElem?_getD, List.getElem?_eq_getElem h2] at h3
  rw [List.getD_eq_getElem?_getD, List.getElem?_eq_getElem h2] at this
  simp only [Option.getD_some] at h3 this
  rw [h3]; simp only [clampI]; omega
theorem Course.early_to {x : Course} {p : Nat} (h : x.ord) (hp : 1 ≤ p) : FitTo x.op p (x.early p 0) (x.early p 0).length ∧ (x.early p 0).length ≤ x.open_.length :=
  ⟨(early_ok (op := x.op) hp (fun i f => x.nx_ok h i f) x.open_.length (frm := 0)).2.1, (early_ok (op := x.op) hp (fun i f => x.nx_ok h i f) x.open_.length (frm := 0)).1⟩
theorem Course.early_in0 {x : Course} {p : Nat} (h : x.ord) (hp : 1 ≤ p) : ∀ i, i < (x.early p 0).length → 0 ≤ (x.early p 0).getD i 0 ∧ (x.early p 0).getD i 0 ≤ 730 := fun i hi => x.op_in h i _ ((x.early_to h hp).1 i hi).1
theorem Course.early_nx {x : Course} {p : Nat} (h : x.ord) (hp : 1 ≤ p) {j : Nat} (hj : j < (x.early p 0).length) : (x.early p 0).getD j 0 ≤ x.nx j (lowL p (x.early p 0) j) := by
  obtain ⟨hft, hl⟩ := x.early_to h hp
  have hin := x.early_in0 (p := p) h hp
  have hE := early_ok (op := x.op) hp (fun i f => x.nx_ok h i f) x.open_.length (frm := 0)
  generalize hd : x.nx j (lowL p (x.early p 0) j) = d
  rcases x.nx_ok h j (lowL p (x.early p 0) j) with ⟨h1, _⟩ | ⟨h1, h2, h3, h4⟩
  · have := (hin j hj).2; omega
  · rw [hd] at h1 h2 h3
    have htl : ((x.early p 0).take j).length = j := by simp; omega
    have e0 : ((x.early p 0).take j ++ [d]).getD j 0 = d := by
      have := @getD_snoc ((x.early p 0).take j) d
      rw [htl] at this; exact this
    have hfit : FitTo x.op p ((x.early p 0).take j ++ [d]) (j + 1) := by
      intro i hi
      have hlow : lowL p ((x.early p 0).take j ++ [d]) i = lowL p (x.early p 0) i := lowL_same hp fun k hk => by
        rw [getD_app (by omega)]
        simp [List.getD_eq_getElem?_getD, show k < j by omega]
      rw [hlow]
      by_cases hij : i = j
      · subst hij
        rw [e0]; exact ⟨h3, h2⟩
      · have e : ((x.early p 0).take j ++ [d]).getD i 0 = (x.early p 0).getD i 0 := by
          rw [getD_app (by omega)]
          simp [List.getD_eq_getElem?_getD, show i < j by omega]
        rw [e]; exact hft i (by omega)
    have := (hE.2.2.2 ((x.early p 0).take j ++ [d]) (j + 1) (by omega) hfit (fun i hi => (x.op_in h i _ (hfit i hi).1).1)).2 j (by omega)
    rw [e0] at this
    exact this
theorem early_stop {nx : Nat → Int → Int} {p : Nat} {frm : Int} : ∀ (k : Nat) (days : List Int), (Co.early nx p frm k days).length < days.length + k → nx (Co.early nx p frm k days).length (max frm (lowL p (Co.early nx p frm k days) (Co.early nx p frm k days).length)) = 731
  | 0, days, h => by simp [Co.early] at h
  | k + 1, days, h => by
    rw [Co.early] at h ⊢
    split
    · assumption
    · rename_i h1
      rw [if_neg h1] at h
      exact early_stop k _ (by simp; omega)
theorem Course.clash_holds {x : Course} {p : Nat} {fin : Int} (h : x.ord) (hp : 1 ≤ p) (hm : x.made p = false) (hf : 0 ≤ fin ∧ fin ≤ 730) : x.holds p (x.early p 0 ++ [fin + 1]) = true ∧ (x.early p 0 ++ [fin + 1]).length ≤ x.open_.length := by
  obtain ⟨hft, hl⟩ := x.early_to h hp
  have hin := x.early_in0 (p := p) h hp
  have hlt : (x.early p 0).length < x.open_.length := by
    have : (x.early p 0).length ≠ x.open_.length := by simpa [Course.made] using hm
    omega
  refine ⟨?_, by simp; omega⟩
  have hlen : (x.early p 0 ++ [fin + 1]).length = (x.early p 0).length + 1 := by simp
  rw [Course.holds, clampL_id, holdGo_iff]
  · intro j _ hj
    rw [lowL_app hp (by omega)]
    rcases Nat.lt_or_ge j (x.early p 0).length with h1 | h1
    · rw [getD_app h1]; exact x.early_nx h hp h1
    · have : j = (x.early p 0).length := by omega
      subst this
      rw [getD_snoc]
      have hs := early_stop (nx := x.nx) (p := p) (frm := 0) x.open_.length [] (by rw [List.length_nil, Nat.zero_add]; exact hlt)
      have h0 : 0 ≤ lowL p (x.early p 0) (x.early p 0).length := by
        unfold lowL
        split
        · split
          · have := hin ((x.early p 0).length - 1) (by omega); omega
          · have := hin ((x.early p 0).length - p)
            by_cases h9 : (x.early p 0).length = 0
            · omega
            · omega
        · split
          · exact (hin ((x.early p 0).length - 1) (by omega)).1
          · exact Int.le_refl 0
      change x.nx (x.early p 0).length (max 0 (lowL p (x.early p 0) (x.early p 0).length)) = 731 at hs
      rw [show max 0 (lowL p (x.early p 0) (x.early p 0).length) = lowL p (x.early p 0) (x.early p 0).length by omega] at hs
      omega
  · intro i hi
    rcases Nat.lt_or_ge i (x.early p 0).length with h1 | h1
    · rw [getD_app h1]; have := hin i h1; omega
    · have : i = (x.early p 0).length := by omega
      subst this
      rw [getD_snoc]; omega
theorem Course.not_made {x : Course} {p : Nat} {fin : Int} {fl : List Int} (h : x.ord) (hp : 1 ≤ p) (hf : x.holds p fl = true) (hl : fl.length ≤ x.open_.length) (h1 : 1 ≤ fl.length) (hop : ∀ i d, i < x.open_.length → x.op i d = true → d ≤ fin) (hg : fin < fl.getD (fl.length - 1) 0) : x.made p = false := by
  rw [Bool.eq_false_iff]
  intro hm
  have hfit := x.early_fit h hp hm
  have h2 := x.holds_le h hp hf (by rw [hfit.1]; exact hl) hfit (fl.length - 1) (by omega)
  have h3 := hop _ _ (by omega) (hfit.2 (fl.length - 1) (by rw [hfit.1]; omega)).1
  omega
def Course.ceils (x : Course) (p : Nat) (ce : List Int) : Bool := x.mir.holds p (flipD (clampL ce))
end Go.Proofs.Tryz
namespace Go.Proofs.Tryz
open Go Go.Am Go.RowKit Go.Co
set_option maxRecDepth 100000

def errFloors (s : Sheet) (c : Copy) (fl : List Int) : Int := if errCopy s c ≠ 0 then errCopy s c else if win 1 c.words.length fl.length then (if (courseOf s c).holds c.per.toNat fl then 0 else 8) else 1
def errCeils (s : Sheet) (c : Copy) (fl : List Int) : Int := if errCopy s c ≠ 0 then errCopy s c else if fl.length = c.words.length then (if (courseOf s c).ceils c.per.toNat fl then 0 else 8) else 1

theorem checkFloors_s {loops : List (Nat × LInfo)} {H : AHeap} {sv cv dv : Value} {s : Sheet} {c : Copy} {fl : List Int} (hs : SheetV H sv s) (hc : CopyV H cv c) (hd : Ints H dv fl) : CallS Tryz.prog loops 56 [sv, cv, dv] H fun r H' => r = .int .i64 (errFloors s c fl) ∧ H' = H := by
  refine CallS.forget (R := fun v => v = .int .i64 (errFloors s c fl)) (by rintro v rfl; rfl) ?_
  have HS := Lib.hid hs
  have HC := Lib.hid hc
  have HD := Lib.hid hd
  obtain ⟨wv, av, rfl, hw, ha⟩ := hs
  obtain ⟨hwl, wa, wc, rfl⟩ := hw.slice
  obtain ⟨hal, aa, ac, rfl⟩ := ha.slice
  obtain ⟨cv, rfl, hcw⟩ := hc
  obtain ⟨hcl, ca, cc, rfl⟩ := hcw.slice
  obtain ⟨hdl, da, dc, rfl⟩ := hd.slice
  clear hw ha hcw hd
  generalize hee : errFloors s c fl = er
  have HE : Hid (errFloors s c fl = er) := Lib.hid hee
  clear hee
  refine CallS.enter' Tryz.func56 rfl Tryz.ntmps56 (by simp) fun f hd hf => ?_
  have f0 := hf 0
  have f1 := hf 1
  have f2 := hf 2
  simp at f0 f1 f2
  clear hf
  have HX1 : Hid (Ext H ((H.push (.row [Value.slice wa s.words.length wc, Value.slice aa s.alts.length ac] 25)).push (.row [Value.slice ca c.words.length cc, .int .i64 c.beg, .int .i64 c.fin, .int .i64 c.per] 27))) := Lib.hid (((Ext.refl _).push' _).push' _)
  by_cases hok : errCopy s c = 0
  · obtain ⟨he0, hlen, hwo, -, -, -, hp1, -⟩ := errCopy_ok hok
    have hwn : s.words.length ≤ 40 := by have := (win_iff.1 (err_ok he0).2.1).2; omega
    have hor := courseOf_ord hok
    have hper : (courseOf s c).per = c.per.toNat := by simp [courseOf]; omega
    have hpp : 1 ≤ c.per.toNat := by omega
    have hcn : (courseOf s c).open_.length = c.words.length := courseOf_len s c
    have HCE := Lib.hid (fun (loops : List (Nat × LInfo)) (H' : AHeap) (hx : Ext H H') => courseOf_e (loops := loops) (HS.out.ext hx) (HC.out.ext hx) hok)
    have HEE : Hid (errFloors s c fl = if win 1 c.words.length fl.length then (if (courseOf s c).holds c.per.toNat fl then 0 else 8) else 1) := Lib.hid (by rw [errFloors, if_neg (by simp [hok])])
    have HOK := Lib.hid hok
    have hwn2 : c.words.length ≤ 40 := by omega
    generalize courseOf s c = x at hor hper HCE HEE hcn
    generalize c.per.toNat = p at hper hpp HEE
    have HOR := Lib.hid hor
    have HPE := Lib.hid hper
    have HCN := Lib.hid hcn
    clear he0 hlen hwo hwn hor hper hok hcn
    repeat' (first|(with_reducible first|refine zA ?_|refine zB fun K hK=>?_|refine zC fun K2 hK2=>?_|refine zD ?_|refine zE ?_|refine zF ?_|refine zG ?_|refine zH ?_|refine zI ?_|refine zM ?_|refine zN ?_|refine zO ?_|refine zP ?_|refine zQ ?_|refine zR ?_)|((with_reducible refine zU (hK _ _ ?_));clear hK K)|((with_reducible refine zV ?_ ?_ fun K1 K3 d hdst h1 h3=>?_);rfl;exact yB rfl;cases hdst;go_simp)|((with_reducible refine zW fun K1 K3 h1 h3=>?_);go_simp)|((first|refine h1 ?_|refine h3 ?_);clear h1 h3 K1 K3)|((first|refine zX (fun hb=>h1 ?_) (fun hb=>h3 ?_)|refine zX (fun hb=>h3 ?_) (fun hb=>h1 ?_))<;>(clear h1 h3 K1 K3;(try have hb2:=yC hb);(try have hb2:=yD hb);(try have hb2:=yE hb);(try have hb2:=yF hb);(try have hb2:=yG hb)))|(refine fun (K2:_→AHeap→Prop) hK2=>?_)|((with_reducible refine zY ?_ ?_);decide)|((with_reducible first|refine zZ ?_ (fun K hK=>?_)|refine yA ?_ (fun K hK=>?_));(focus go_simp;done);go_simp;refine hK _ _ ?_;clear hK K)|(go_simp;(try go_bits);(try first |((with_reducible show CallS _ _ _ _ _ _);first|(refine CallS.mono (checkCopy_s (s := s) (c := c) (HS.out.ext HX1.out) (HC.out.ext HX1.out)) ?_; rintro _ _ ⟨rfl, h9⟩; rw [h9, HOK.out]; clear h9)|(refine CallS.mono within_s ?_; rintro _ _ ⟨rfl, h9⟩; rw [h9]; clear h9)|(refine CallS.mono (HCE.out _ _ HX1.out) ?_; rintro xv H1 ⟨hcv, hx⟩; (have HCV := Lib.hid hcv); (have HX2 := Lib.hid (HX1.out.trans hx)); (obtain ⟨ov, rfl, hov⟩ := hcv); (obtain ⟨hol, oa, oc, rfl⟩ := hov.slice); clear hov hx)|(refine CallS.mono (hold_s (x := x) (p := p) (xs := fl) HCV.out (HD.out.ext HX2.out) (by rw [HCN.out]; have := (win_iff.1 (by simpa using ‹(!win 1 c.words.length fl.length) = false›)).2; omega) HPE.out hpp (by have := (win_iff.1 (by simpa using ‹(!win 1 c.words.length fl.length) = false›)).2; omega)) ?_; rintro _ _ ⟨rfl, h9⟩; rw [h9]; clear h9)));refine hK2 _ _ ?_;clear hK2 K2))
    · refine ⟨?_, HX1.out⟩
      have h1 : win 1 c.words.length fl.length = false := by simpa using hb
      rw [← HE.out, HEE.out, if_neg (by rw [h1]; simp)]
    · refine ⟨?_, HX2.out⟩
      have h1 : win 1 c.words.length fl.length = true := by simpa using ‹(!win 1 c.words.length fl.length) = false›
      have h2 : x.holds p fl = false := by rw [Course.holds]; simpa using hb
      rw [← HE.out, HEE.out, if_pos h1, if_neg (by rw [h2]; simp)]
    · refine ⟨?_, HX2.out⟩
      have h1 : win 1 c.words.length fl.length = true := by simpa using ‹(!win 1 c.words.length fl.length) = false›
      have h2 : x.holds p fl = true := by rw [Course.holds]; simpa using hb
      rw [← HE.out, HEE.out, if_pos h1, if_pos h2]
  · repeat' (first|(with_reducible first|refine zA ?_|refine zB fun K hK=>?_|refine zC fun K2 hK2=>?_|refine zD ?_|refine zE ?_|refine zF ?_|refine zG ?_|refine zH ?_|refine zI ?_|refine zM ?_|refine zN ?_|refine zO ?_|refine zP ?_|refine zQ ?_|refine zR ?_)|((with_reducible refine zU (hK _ _ ?_));clear hK K)|((with_reducible refine zV ?_ ?_ fun K1 K3 d hdst h1 h3=>?_);rfl;exact yB rfl;cases hdst;go_simp)|((with_reducible refine zW fun K1 K3 h1 h3=>?_);go_simp)|((first|refine h1 ?_|refine h3 ?_);clear h1 h3 K1 K3)|((first|refine zX (fun hb=>h1 ?_) (fun hb=>h3 ?_)|refine zX (fun hb=>h3 ?_) (fun hb=>h1 ?_))<;>(clear h1 h3 K1 K3;(try have hb2:=yC hb);(try have hb2:=yD hb);(try have hb2:=yE hb);(try have hb2:=yF hb);(try have hb2:=yG hb)))|(refine fun (K2:_→AHeap→Prop) hK2=>?_)|((with_reducible refine zY ?_ ?_);decide)|((with_reducible first|refine zZ ?_ (fun K hK=>?_)|refine yA ?_ (fun K hK=>?_));(focus go_simp;done);go_simp;refine hK _ _ ?_;clear hK K)|(go_simp;(try go_bits);(try first | ((with_reducible show CallS _ _ _ _ _ _);refine CallS.mono (checkCopy_s (s := s) (c := c) (HS.out.ext HX1.out) (HC.out.ext HX1.out)) ?_; rintro _ _ ⟨rfl, h9⟩; rw [h9]; clear h9));refine hK2 _ _ ?_;clear hK2 K2))
    all_goals try (exact absurd (show errCopy s c = 0 by simpa using ‹(errCopy s c != 0) = false›) hok)
    refine ⟨?_, HX1.out⟩
    rw [← HE.out, errFloors, if_pos hok]
theorem checkCeils_s {loops : List (Nat × LInfo)} {H : AHeap} {sv cv dv : Value} {s : Sheet} {c : Copy} {fl : List Int} (hs : SheetV H sv s) (hc : CopyV H cv c) (hd : Ints H dv fl) : CallS Tryz.prog loops 57 [sv, cv, dv] H fun r H' => r = .int .i64 (errCeils s c fl) ∧ H' = H := by
  refine CallS.forget (R := fun v => v = .int .i64 (errCeils s c fl)) (by rintro v rfl; rfl) ?_
  have HS := Lib.hid hs
  have HC := Lib.hid hc
  have HD := Lib.hid hd
  obtain ⟨wv, av, rfl, hw, ha⟩ := hs
  obtain ⟨hwl, wa, wc, rfl⟩ := hw.slice
  obtain ⟨hal, aa, ac, rfl⟩ := ha.slice
  obtain ⟨cv, rfl, hcw⟩ := hc
  obtain ⟨hcl, ca, cc, rfl⟩ := hcw.slice
  obtain ⟨hdl, da, dc, rfl⟩ := hd.slice
  clear hw ha hcw hd
  generalize hee : errCeils s c fl = er
  have HE : Hid (errCeils s c fl = er) := Lib.hid hee
  clear hee
  refine CallS.enter' Tryz.func57 rfl Tryz.ntmps57 (by simp) fun f hd hf => ?_
  have f0 := hf 0
  have f1 := hf 1
  have f2 := hf 2
  simp at f0 f1 f2
  clear hf
  have HX1 : Hid (Ext H ((H.push (.row [Value.slice wa s.words.length wc, Value.slice aa s.alts.length ac] 25)).push (.row [Value.slice ca c.words.length cc, .int .i64 c.beg, .int .i64 c.fin, .int .i64 c.per] 27))) := Lib.hid (((Ext.refl _).push' _).push' _)
  by_cases hok : errCopy s c = 0
  · obtain ⟨he0, hlen, hwo, -, -, -, hp1, -⟩ := errCopy_ok hok
    have hwn : s.words.length ≤ 40 := by have := (win_iff.1 (err_ok he0).2.1).2; omega
    have hor := courseOf_ord hok
    have hper : (courseOf s c).per = c.per.toNat := by simp [courseOf]; omega
    have hpp : 1 ≤ c.per.toNat := by omega
    have hcn : (courseOf s c).open_.length = c.words.length := courseOf_len s c
    have HCE := Lib.hid (fun (loops : List (Nat × LInfo)) (H' : AHeap) (hx : Ext H H') => courseOf_e (loops := loops) (HS.out.ext hx) (HC.out.ext hx) hok)
    have HEE : Hid (errCeils s c fl = if fl.length = c.words.length then (if (courseOf s c).ceils c.per.toNat fl then 0 else 8) else 1) := Lib.hid (by rw [errCeils, if_neg (by simp [hok])])
    have HOK := Lib.hid hok
    have hwn2 : c.words.length ≤ 40 := by omega
    generalize courseOf s c = x at hor hper HCE HEE hcn
    generalize c.per.toNat = p at hper hpp HEE
    have HOR := Lib.hid hor
    have HPE := Lib.hid hper
    have HCN := Lib.hid hcn
    clear he0 hlen hwo hwn hor hper hok hcn
    repeat' (first|(with_reducible first|refine zA ?_|refine zB fun K hK=>?_|refine zC fun K2 hK2=>?_|refine zD ?_|refine zE ?_|refine zF ?_|refine zG ?_|refine zH ?_|refine zI ?_|refine zM ?_|refine zN ?_|refine zO ?_|refine zP ?_|refine zQ ?_|refine zR ?_)|((with_reducible refine zU (hK _ _ ?_));clear hK K)|((with_reducible refine zV ?_ ?_ fun K1 K3 d hdst h1 h3=>?_);rfl;exact yB rfl;cases hdst;go_simp)|((with_reducible refine zW fun K1 K3 h1 h3=>?_);go_simp)|((first|refine h1 ?_|refine h3 ?_);clear h1 h3 K1 K3)|((first|refine zX (fun hb=>h1 ?_) (fun hb=>h3 ?_)|refine zX (fun hb=>h3 ?_) (fun hb=>h1 ?_))<;>(clear h1 h3 K1 K3;(try have hb2:=yC hb);(try have hb2:=yD hb);(try have hb2:=yE hb);(try have hb2:=yF hb);(try have hb2:=yG hb)))|(refine fun (K2:_→AHeap→Prop) hK2=>?_)|((with_reducible refine zY ?_ ?_);decide)|((with_reducible first|refine zZ ?_ (fun K hK=>?_)|refine yA ?_ (fun K hK=>?_));(focus go_simp;done);go_simp;refine hK _ _ ?_;clear hK K)|(go_simp;(try go_bits);(try first |((with_reducible show CallS _ _ _ _ _ _);first|(refine CallS.mono (checkCopy_s (s := s) (c := c) (HS.out.ext HX1.out) (HC.out.ext HX1.out)) ?_; rintro _ _ ⟨rfl, h9⟩; rw [h9, HOK.out]; clear h9)|(refine CallS.mono (HCE.out _ _ HX1.out) ?_; rintro xv H1 ⟨hcv, hx⟩; (have HCV := Lib.hid hcv); (have HX2 := Lib.hid (HX1.out.trans hx)); (obtain ⟨ov, rfl, hov⟩ := hcv); (obtain ⟨hol, oa, oc, rfl⟩ := hov.slice); (have hfl : fl.length = c.words.length := by have h8 := ‹(((fl.length : Int)) != c.words.length) = false›; rw [nat_neb] at h8; simpa using h8); (have HFL := Lib.hid hfl); clear hov hx hfl)|(refine CallS.mono (mirrored_e (x := x) (p := p) HCV.out HPE.out (by rw [HCN.out]; omega) (fun i => by have := ordS_len _ (by omega) (HOR.out i); omega) (fun i y hy => ordS_in _ (Int.le_refl 0) (HOR.out i) y hy)) ?_; rintro mv H2 ⟨hm, hx⟩; (have HM := Lib.hid (show CourseV H2 mv x.mir from hm)); (have HX3 := Lib.hid (HX2.out.trans hx)); clear hm hx)|(refine CallS.mono (clamped_e (HD.out.ext HX3.out) (by rw [HFL.out]; omega)) ?_; rintro kv H3 ⟨ho, hx⟩; (have HCL := Lib.hid (ints_of_own ho (by rw [clampL_length, HFL.out]; omega))); (have HX4 := Lib.hid (HX3.out.trans hx)); (have HM4 := Lib.hid (HM.out.ext hx)); clear ho hx)|(refine CallS.mono (mirroredDays_e HCL.out clampL_in (by rw [clampL_length, HFL.out]; omega)) ?_; rintro gv H4 ⟨ho, hx⟩; (have HFD := Lib.hid (ints_of_own ho (by rw [flipD_len, clampL_length, HFL.out]; omega))); (have HX5 := Lib.hid (HX4.out.trans hx)); (have HM5 := Lib.hid (HM4.out.ext hx)); clear ho hx)|(refine CallS.mono (hold_s (x := x.mir) (p := p) (xs := flipD (clampL fl)) HM5.out HFD.out (by rw [x.mir_len, HCN.out, flipD_len, clampL_length, HFL.out]; exact Nat.le_refl _) HPE.out hpp (by rw [flipD_len, clampL_length, HFL.out]; omega)) ?_; rintro _ _ ⟨rfl, h9⟩; rw [h9]; clear h9)));refine hK2 _ _ ?_;clear hK2 K2))
    · refine ⟨?_, HX1.out⟩
      have h1 : ¬ fl.length = c.words.length := by rw [nat_neb] at hb; simpa using hb
      rw [← HE.out, HEE.out, if_neg h1]
    · refine ⟨?_, HX5.out⟩
      have h2 : x.ceils p fl = false := by rw [Course.ceils, Course.holds]; simpa using hb
      rw [← HE.out, HEE.out, if_pos HFL.out, if_neg (by rw [h2]; simp)]
    · refine ⟨?_, HX5.out⟩
      have h2 : x.ceils p fl = true := by rw [Course.ceils, Course.holds]; simpa using hb
      rw [← HE.out, HEE.out, if_pos HFL.out, if_pos h2]
  · repeat' (first|(with_reducible first|refine zA ?_|refine zB fun K hK=>?_|refine zC fun K2 hK2=>?_|refine zD ?_|refine zE ?_|refine zF ?_|refine zG ?_|refine zH ?_|refine zI ?_|refine zM ?_|refine zN ?_|refine zO ?_|refine zP ?_|refine zQ ?_|refine zR ?_)|((with_reducible refine zU (hK _ _ ?_));clear hK K)|((with_reducible refine zV ?_ ?_ fun K1 K3 d hdst h1 h3=>?_);rfl;exact yB rfl;cases hdst;go_simp)|((with_reducible refine zW fun K1 K3 h1 h3=>?_);go_simp)|((first|refine h1 ?_|refine h3 ?_);clear h1 h3 K1 K3)|((first|refine zX (fun hb=>h1 ?_) (fun hb=>h3 ?_)|refine zX (fun hb=>h3 ?_) (fun hb=>h1 ?_))<;>(clear h1 h3 K1 K3;(try have hb2:=yC hb);(try have hb2:=yD hb);(try have hb2:=yE hb);(try have hb2:=yF hb);(try have hb2:=yG hb)))|(refine fun (K2:_→AHeap→Prop) hK2=>?_)|((with_reducible refine zY ?_ ?_);decide)|((with_reducible first|refine zZ ?_ (fun K hK=>?_)|refine yA ?_ (fun K hK=>?_));(focus go_simp;done);go_simp;refine hK _ _ ?_;clear hK K)|(go_simp;(try go_bits);(try first | ((with_reducible show CallS _ _ _ _ _ _);refine CallS.mono (checkCopy_s (s := s) (c := c) (HS.out.ext HX1.out) (HC.out.ext HX1.out)) ?_; rintro _ _ ⟨rfl, h9⟩; rw [h9]; clear h9));refine hK2 _ _ ?_;clear hK2 K2))
    all_goals try (exact absurd (show errCopy s c = 0 by simpa using ‹(errCopy s c != 0) = false›) hok)
    refine ⟨?_, HX1.out⟩
    rw [← HE.out, errCeils, if_pos hok]
end Go.Proofs.Tryz
namespace Go.Proofs.Tryz
open Go Go.Am Go.RowKit
set_option maxRecDepth 100000

end Go.Proofs.Tryz
namespace Go.Proofs.Tryz
open Go Go.Am Go.RowKit Go.Co
set_option maxRecDepth 100000

def fitAt (x : Course) (p : Nat) (days : List Int) (i : Nat) : Bool := ins (x.at_ i) (days.getD i 0) && decide (lowL p days i ≤ days.getD i 0)
def fitFrom (x : Course) (p : Nat) (days : List Int) : Nat → Nat → Option Nat
  | 0, _ => none
  | r + 1, i => if fitAt x p days i = true then fitFrom x p days r (i + 1) else some i
theorem fitFrom_none {x : Course} {p : Nat} {days : List Int} : ∀ (r i : Nat), fitFrom x p days r i = none ↔ ∀ j, i ≤ j → j < i + r → fitAt x p days j = true
  | 0, i => by simp [fitFrom]; intro j h1 h2; omega
  | r + 1, i => by
    rw [fitFrom]
    by_cases h : fitAt x p days i = true
    · rw [if_pos h, fitFrom_none r (i + 1)]
      constructor
      · intro h1 j h2 h3
        by_cases hj : j = i
        · rw [hj]; exact h
        · exact h1 j (by omega) (by omega)
      · intro h1 j h2 h3; exact h1 j (by omega) (by omega)
    · rw [if_neg h]
      constructor
      · intro h1; cases h1
      · intro h1; exact absurd (h1 i (Nat.le_refl _) (by omega)) h
def errFits (s : Sheet) (c : Copy) (days : List Int) : Int := if errCopy s c ≠ 0 then errCopy s c else if days.length = c.words.length then 0 else 1
def fitsR (s : Sheet) (c : Copy) (days : List Int) : Option Nat := fitFrom (courseOf s c) c.per.toNat days days.length 0
def FitsOk (s : Sheet) (c : Copy) (days : List Int) : Prop := errFits s c days = 0 ∧ fitsR s c days = none
def opOf (s : Sheet) (c : Copy) (i : Nat) (d : Int) : Bool := ins ((courseOf s c).at_ i) d
theorem errFits_ok {s : Sheet} {c : Copy} {days : List Int} (h : errFits s c days = 0) : errCopy s c = 0 ∧ days.length = c.words.length := by
  unfold errFits at h
  split at h
  · rename_i h1; exact absurd h h1
  · rename_i h1
    split at h
    · rename_i h2; exact ⟨by simpa using h1, h2⟩
    · cases h
theorem fitsR_iff {s : Sheet} {c : Copy} {days : List Int} : fitsR s c days = none ↔ FitTo (opOf s c) c.per.toNat days days.length := by
  unfold fitsR
  rw [fitFrom_none]
  simp only [fitAt, Bool.and_eq_true, decide_eq_true_eq, Nat.zero_add, FitTo, opOf]
  exact ⟨fun h i hi => h i (Nat.zero_le _) hi, fun h i _ hi => h i hi⟩
end Go.Proofs.Tryz
namespace Go.Proofs.Tryz
open Go Go.Am Go.RowKit Go.Co
set_option maxRecDepth 100000

structure Known (s : Sheet) (c : Copy) (x : Course) (p n : Nat) : Prop where
  ord : x.ord
  p1 : 1 ≤ p
  len : x.open_.length = n
  n1 : 1 ≤ n
  n40 : n ≤ 40
  ext : errExt s c = if x.made p then 0 else 9
  fin : ∀ i d, i < n → x.op i d = true → c.beg ≤ d ∧ d ≤ c.fin
  fin0 : 0 ≤ c.fin ∧ c.fin ≤ 730
theorem known {s : Sheet} {c : Copy} (h : errCopy s c = 0) : Known s c (courseOf s c) c.per.toNat c.words.length := by
  obtain ⟨he0, hlen, hwo, hb0, hb1, hb2, hp1, -⟩ := errCopy_ok h
  have hwl := win_iff.1 (err_ok he0).2.1
  refine ⟨courseOf_ord h, by omega, courseOf_len s c, by omega, by omega, by rw [errExt, if_neg (by simp [h])], fun i d hi ho => ?_, by omega⟩
  have h1 := courseOf_ins h hi (d := d)
  rw [Course.op, h1] at ho
  simp only [Bool.and_eq_true, decide_eq_true_eq] at ho
  omega
theorem fitsOk_fit {s : Sheet} {c : Copy} {days : List Int} : FitsOk s c days ↔ errCopy s c = 0 ∧ (courseOf s c).fit c.per.toNat days := by
  constructor
  · rintro ⟨h1, h2⟩
    obtain ⟨h3, h4⟩ := errFits_ok h1
    exact ⟨h3, by rw [courseOf_len]; exact h4, fitsR_iff.1 h2⟩
  · rintro ⟨h1, h2, h3⟩
    rw [courseOf_len] at h2
    exact ⟨by rw [errFits, if_neg (by simp [h1]), if_pos h2], fitsR_iff.2 h3⟩
theorem errExt_ok {s : Sheet} {c : Copy} (h : errExt s c = 0) : errCopy s c = 0 ∧ (courseOf s c).made c.per.toNat = true := by
  unfold errExt at h
  split at h
  · rename_i h1; exact absurd h h1
  · rename_i h1
    split at h
    · rename_i h2; exact ⟨by simpa using h1, h2⟩
    · cases h
theorem fit_ext {s : Sheet} {c : Copy} {days : List Int} (h : FitsOk s c days) : errExt s c = 0 := by
  obtain ⟨h1, h2⟩ := fitsOk_fit.1 h
  have k := known h1
  rw [k.ext, ((courseOf s c).fit_early k.ord k.p1 h2).1]; rfl
end Go.Proofs.Tryz
namespace Go.Proofs.Tryz
open Go Go.Am Go.RowKit
set_option maxRecDepth 100000


theorem in_s {loops : List (Nat × LInfo)} {H : AHeap} {n lo hi : Int} : CallS Tryz.prog loops 47 [.int .i64 n, .int .i64 lo, .int .i64 hi] H fun v H' => v = .bool (win lo hi n) ∧ H' = H := by
  refine CallS.enter' Tryz.func47 rfl Tryz.ntmps47 (by simp) fun f hd hf => ?_
  have f0 := hf 0
  have f1 := hf 1
  have f2 := hf 2
  simp at f0 f1 f2
  clear hf
  unfold win
  repeat' (first|(with_reducible first|refine zA ?_|refine zB fun K hK=>?_|refine zC fun K2 hK2=>?_|refine zD ?_|refine zE ?_|refine zF ?_|refine zG ?_|refine zH ?_|refine zI ?_|refine zM ?_|refine zN ?_|refine zO ?_|refine zP ?_|refine zQ ?_|refine zR ?_)|((with_reducible refine zU (hK _ _ ?_));clear hK K)|((with_reducible refine zV ?_ ?_ fun K1 K3 d hdst h1 h3=>?_);rfl;exact yB rfl;cases hdst;go_simp)|((with_reducible refine zW fun K1 K3 h1 h3=>?_);go_simp)|((first|refine h1 ?_|refine h3 ?_);clear h1 h3 K1 K3)|((first|refine zX (fun hb=>h1 ?_) (fun hb=>h3 ?_)|refine zX (fun hb=>h3 ?_) (fun hb=>h1 ?_))<;>(clear h1 h3 K1 K3;(try have hb2:=yC hb);(try have hb2:=yD hb);(try have hb2:=yE hb);(try have hb2:=yF hb);(try have hb2:=yG hb)))|(refine fun (K2:_→AHeap→Prop) hK2=>?_)|((with_reducible refine zY ?_ ?_);decide)|((with_reducible first|refine zZ ?_ (fun K hK=>?_)|refine yA ?_ (fun K hK=>?_));(focus go_simp;done);go_simp;refine hK _ _ ?_;clear hK K)|(go_simp;(try go_bits);refine hK2 _ _ ?_;clear hK2 K2))
  all_goals (refine ⟨?_, rfl⟩; simp [*])
theorem day_s {loops : List (Nat × LInfo)} {H : AHeap} {n : Int} : CallS Tryz.prog loops 117 [.int .i64 n] H fun v H' => v = .bool (win 0 730 n) ∧ H' = H := by
  refine CallS.enter' Tryz.func117 rfl Tryz.ntmps117 (by simp) fun f hd hf => ?_
  have f0 := hf 0
  simp at f0
  clear hf
  repeat' (first|(with_reducible first|refine zA ?_|refine zB fun K hK=>?_|refine zC fun K2 hK2=>?_|refine zD ?_|refine zE ?_|refine zF ?_|refine zG ?_|refine zH ?_|refine zI ?_|refine zM ?_|refine zN ?_|refine zO ?_|refine zP ?_|refine zQ ?_|refine zR ?_)|((with_reducible refine zU (hK _ _ ?_));clear hK K)|((with_reducible refine zV ?_ ?_ fun K1 K3 d hdst h1 h3=>?_);rfl;exact yB rfl;cases hdst;go_simp)|((with_reducible refine zW fun K1 K3 h1 h3=>?_);go_simp)|((first|refine h1 ?_|refine h3 ?_);clear h1 h3 K1 K3)|((first|refine zX (fun hb=>h1 ?_) (fun hb=>h3 ?_)|refine zX (fun hb=>h3 ?_) (fun hb=>h1 ?_))<;>(clear h1 h3 K1 K3;(try have hb2:=yC hb);(try have hb2:=yD hb);(try have hb2:=yE hb);(try have hb2:=yF hb);(try have hb2:=yG hb)))|(refine fun (K2:_→AHeap→Prop) hK2=>?_)|((with_reducible refine zY ?_ ?_);decide)|((with_reducible first|refine zZ ?_ (fun K hK=>?_)|refine yA ?_ (fun K hK=>?_));(focus go_simp;done);go_simp;refine hK _ _ ?_;clear hK K)|(go_simp;(try go_bits);(try first | ((with_reducible show CallS _ _ _ _ _ _);refine CallS.mono in_s ?_; rintro _ _ ⟨rfl, rfl⟩));refine hK2 _ _ ?_;clear hK2 K2))
  exact ⟨rfl, rfl⟩

def refR (a : Alt) (n : Int) : Bool := win 1 1099511627776 a.id && (win 0 730 a.day && (win 0 (n - 1) a.frm && (win a.frm (n - 1) a.to && a.suits)))
theorem refR_eq (a : Alt) (n : Int) : a.right n = refR a n := by
  have h : (win 0 a.to a.frm && win 0 (n - 1) a.to) = (win 0 (n - 1) a.frm && win a.frm (n - 1) a.to) := by
    rw [Bool.eq_iff_iff]; simp only [Bool.and_eq_true, win_iff]; omega
  unfold Alt.right refR
  rw [← Bool.and_assoc (win 0 a.to a.frm), h, Bool.and_assoc]

theorem refRight_s {loops : List (Nat × LInfo)} {H : AHeap} {sv : Value} {s : Sheet} {a : Alt} (hv : SheetV H sv s) : CallS Tryz.prog loops 116 [sv, a.val] H fun v H' => v = .bool (a.right s.words.length) ∧ H' = H := by
  refine CallS.forget (R := fun v => v = .bool (a.right s.words.length)) (by rintro v rfl; rfl) ?_
  obtain ⟨wv, av, rfl, hw, ha⟩ := hv
  obtain ⟨hwl, wa, wc, rfl⟩ := hw.slice
  obtain ⟨hal, aa, ac, rfl⟩ := ha.slice
  clear hw ha
  rw [refR_eq]
  generalize he : refR a s.words.length = er
  have HE := Lib.hid he
  clear he
  obtain ⟨i, kd, dy, fr, to, wd⟩ := a
  refine CallS.enter' Tryz.func116 rfl Tryz.ntmps116 (by simp) fun f hd hf => ?_
  have f0 := hf 0
  have f1 := hf 1
  simp [Alt.val] at f0 f1
  clear hf
  repeat' (first|(with_reducible first|refine zA ?_|refine zB fun K hK=>?_|refine zC fun K2 hK2=>?_|refine zD ?_|refine zE ?_|refine zF ?_|refine zG ?_|refine zH ?_|refine zI ?_|refine zM ?_|refine zN ?_|refine zO ?_|refine zP ?_|refine zQ ?_|refine zR ?_)|((with_reducible refine zU (hK _ _ ?_));clear hK K)|((with_reducible refine zV ?_ ?_ fun K1 K3 d hdst h1 h3=>?_);rfl;exact yB rfl;cases hdst;go_simp)|((with_reducible refine zW fun K1 K3 h1 h3=>?_);go_simp)|((first|refine h1 ?_|refine h3 ?_);clear h1 h3 K1 K3)|((first|refine zX (fun hb=>h1 ?_) (fun hb=>h3 ?_)|refine zX (fun hb=>h3 ?_) (fun hb=>h1 ?_))<;>(clear h1 h3 K1 K3;(try have hb2:=yC hb);(try have hb2:=yD hb);(try have hb2:=yE hb);(try have hb2:=yF hb);(try have hb2:=yG hb)))|(refine fun (K2:_→AHeap→Prop) hK2=>?_)|((with_reducible refine zY ?_ ?_);decide)|((with_reducible first|refine zZ ?_ (fun K hK=>?_)|refine yA ?_ (fun K hK=>?_));(focus go_simp;done);go_simp;refine hK _ _ ?_;clear hK K)|(go_simp;(try go_bits);(try first |((with_reducible show CallS _ _ _ _ _ _);first|(refine CallS.mono in_s ?_; rintro _ _ ⟨rfl, rfl⟩)|(refine CallS.mono day_s ?_; rintro _ _ ⟨rfl, rfl⟩)));refine hK2 _ _ ?_;clear hK2 K2))
  all_goals (refine ⟨?_, ((Ext.refl _).push' _).push' _⟩; rw [← HE.out]; simp_all [refR, Alt.suits]; done)
end Go.Proofs.Tryz
namespace Go.Proofs.Tryz
open Go Go.Am Go.RowKit
set_option maxRecDepth 100000

def prevDay (l : List Alt) (k : Nat) : Int := if k = 0 then 0 else (l.getD (k - 1) ⟨0, 0, 0, 0, 0, 0⟩).day

set_option maxHeartbeats 4000000 in
theorem refCheck_s {loops : List (Nat × LInfo)} {H : AHeap} {v : Value} {s : Sheet} (hv : SheetV H v s) : CallS Tryz.prog loops 92 [v] H fun r H' => r = .int .i64 (err s) ∧ H' = H := by
  refine CallS.forget (R := fun v => v = .int .i64 (err s)) (by rintro v rfl; rfl) ?_
  have HV := Lib.hid hv
  obtain ⟨wv, av, rfl, hw, ha⟩ := hv
  obtain ⟨hwl, wa, wc, rfl⟩ := hw.slice
  obtain ⟨hal, aa, ac, rfl⟩ := ha.slice
  have HW := Lib.hid hw
  have HA := Lib.hid ha
  clear hw ha
  generalize he : err s = er
  have HE := Lib.hid he
  clear he
  refine CallS.enter' Tryz.func92 rfl Tryz.ntmps92 (by simp) fun f hd hf => ?_
  have f0 := hf 0
  simp at f0
  clear hf
  repeat' (first|(with_reducible first|refine zA ?_|refine zB fun K hK=>?_|refine zC fun K2 hK2=>?_|refine zD ?_|refine zE ?_|refine zF ?_|refine zG ?_|refine zH ?_|refine zI ?_|refine zM ?_|refine zN ?_|refine zO ?_|refine zP ?_|refine zQ ?_|refine zR ?_)|((with_reducible refine zU (hK _ _ ?_));clear hK K)|((with_reducible refine zV ?_ ?_ fun K1 K3 d hdst h1 h3=>?_);rfl;exact yB rfl;cases hdst;go_simp)|((with_reducible refine zW fun K1 K3 h1 h3=>?_);go_simp)|((first|refine h1 ?_|refine h3 ?_);clear h1 h3 K1 K3)|((first|refine zX (fun hb=>h1 ?_) (fun hb=>h3 ?_)|refine zX (fun hb=>h3 ?_) (fun hb=>h1 ?_))<;>(clear h1 h3 K1 K3;(try have hb2:=yC hb);(try have hb2:=yD hb);(try have hb2:=yE hb);(try have hb2:=yF hb);(try have hb2:=yG hb)))|(refine fun (K2:_→AHeap→Prop) hK2=>?_)|((with_reducible refine zY ?_ ?_);decide)|((with_reducible first|refine zZ ?_ (fun K hK=>?_)|refine yA ?_ (fun K hK=>?_));(focus go_simp;done);go_simp;refine hK _ _ ?_;clear hK K)|(go_simp;(try go_bits);(try first | ((with_reducible show CallS _ _ _ _ _ _);refine CallS.mono in_s ?_; rintro _ _ ⟨rfl, rfl⟩));refine hK2 _ _ ?_;clear hK2 K2))
  · refine ⟨?_, (Ext.refl _).push' _⟩
    have hw : win 1 40 (s.words.length : Int) = false := by simpa using hb
    rw [← HE.out]; simp [err, hw]
  have hw1 : win 1 40 (s.words.length : Int) = true := by simpa using hb
  refine CodeS.loop (fun m f H' => ∃ k : Nat, k ≤ s.words.length ∧ m = s.words.length - k ∧ f.tmp 3 = .int .i64 k ∧ f.tmp 1 = .pointer (some ⟨H.n, 0, none⟩) ∧ f.defers = [] ∧ Hid (wordsOk 1 (s.words.drop k) = wordsOk 1 s.words) ∧ H' = H.push (.row [Value.slice wa s.words.length wc, Value.slice aa s.alts.length ac] 25)) s.words.length ?_ ?_
  · exact ⟨0, by simp, by simp, (by first|go_simp<;>go_num|assumption), (by first|go_simp<;>go_num|assumption), (by first|go_simp<;>go_num|assumption), Lib.hid (by simp), rfl⟩
  clear f0 hd f hb
  rintro m f H' ⟨k, hk, rfl, f3, f1, hd, HG, rfl⟩
  by_cases hlt : k < s.words.length
  · obtain ⟨b, o, sp, rfl, hb, hx⟩ := HW.out.at_ hlt
    have HD := Lib.hid (List.drop_eq_getElem_cons hlt)
    generalize s.words[k] = y at hx HD
    repeat' (first|(with_reducible first|refine zA ?_|refine zB fun K hK=>?_|refine zC fun K2 hK2=>?_|refine zD ?_|refine zE ?_|refine zF ?_|refine zG ?_|refine zH ?_|refine zI ?_|refine zM ?_|refine zN ?_|refine zO ?_|refine zP ?_|refine zQ ?_|refine zR ?_)|((with_reducible refine zU (hK _ _ ?_));clear hK K)|((with_reducible refine zV ?_ ?_ fun K1 K3 d hdst h1 h3=>?_);rfl;exact yB rfl;cases hdst;go_simp)|((with_reducible refine zW fun K1 K3 h1 h3=>?_);go_simp)|((first|refine h1 ?_|refine h3 ?_);clear h1 h3 K1 K3)|((first|refine zX (fun hb=>h1 ?_) (fun hb=>h3 ?_)|refine zX (fun hb=>h3 ?_) (fun hb=>h1 ?_))<;>(clear h1 h3 K1 K3;(try have hb2:=yC hb);(try have hb2:=yD hb);(try have hb2:=yE hb);(try have hb2:=yF hb);(try have hb2:=yG hb)))|(refine fun (K2:_→AHeap→Prop) hK2=>?_)|((with_reducible refine zY ?_ ?_);decide)|((with_reducible first|refine zZ ?_ (fun K hK=>?_)|refine yA ?_ (fun K hK=>?_));(focus go_simp;done);go_simp;refine hK _ _ ?_;clear hK K)|(go_simp;(try go_bits);(try first | ((with_reducible show CallS _ _ _ _ _ _);refine CallS.mono in_s ?_; rintro _ _ ⟨rfl, rfl⟩));refine hK2 _ _ ?_;clear hK2 K2))
    · refine ⟨?_, Ext.push _⟩
      have hw : win 1 9999 y = false := by simpa using hb
      have hw2 : wordsOk 1 s.words = false := by rw [← HG.out, HD.out]; simp [wordsOk, hw]
      rw [← HE.out]; simp [err, hw2]
    · have hw : win 1 9999 y = true := by simpa using hb
      refine Post.round_normal ⟨s.words.length - (k + 1), by omega, k + 1, by omega, rfl, (by first|go_simp<;>go_num|assumption), (by first|go_simp<;>go_num|assumption), (by first|go_simp<;>go_num|assumption), Lib.hid ?_, rfl⟩
      rw [← HG.out, HD.out]; simp [wordsOk, hw]
  · have hw2 : wordsOk 1 s.words = true := by rw [← HG.out, List.drop_eq_nil_of_le (by omega)]; rfl
    clear HG
    repeat' (first|(with_reducible first|refine zA ?_|refine zB fun K hK=>?_|refine zC fun K2 hK2=>?_|refine zD ?_|refine zE ?_|refine zF ?_|refine zG ?_|refine zH ?_|refine zI ?_|refine zM ?_|refine zN ?_|refine zO ?_|refine zP ?_|refine zQ ?_|refine zR ?_)|((with_reducible refine zU (hK _ _ ?_));clear hK K)|((with_reducible refine zV ?_ ?_ fun K1 K3 d hdst h1 h3=>?_);rfl;exact yB rfl;cases hdst;go_simp)|((with_reducible refine zW fun K1 K3 h1 h3=>?_);go_simp)|((first|refine h1 ?_|refine h3 ?_);clear h1 h3 K1 K3)|((first|refine zX (fun hb=>h1 ?_) (fun hb=>h3 ?_)|refine zX (fun hb=>h3 ?_) (fun hb=>h1 ?_))<;>(clear h1 h3 K1 K3;(try have hb2:=yC hb);(try have hb2:=yD hb);(try have hb2:=yE hb);(try have hb2:=yF hb);(try have hb2:=yG hb)))|(refine fun (K2:_→AHeap→Prop) hK2=>?_)|((with_reducible refine zY ?_ ?_);decide)|((with_reducible first|refine zZ ?_ (fun K hK=>?_)|refine yA ?_ (fun K hK=>?_));(focus go_simp;done);go_simp;refine hK _ _ ?_;clear hK K)|(go_simp;(try go_bits);refine hK2 _ _ ?_;clear hK2 K2))
    · refine ⟨?_, Ext.push _⟩
      rw [← HE.out]; simp [err, hw1, hw2]; omega
    have HE2 : Hid (errGo s.words.length 0 [] s.alts = er) := Lib.hid (by rw [← HE.out]; simp [err, hw1, hw2]; omega)
    clear HE hb hb2 hw1 hw2
    refine CodeS.loop (fun m f H' => ∃ k : Nat, k ≤ s.alts.length ∧ m = s.alts.length - k ∧ f.tmp 4 = .int .i64 k ∧ f.tmp 1 = .pointer (some ⟨H.n, 0, none⟩) ∧ f.defers = [] ∧ Hid (errGo s.words.length (prevDay s.alts k) ((s.alts.take k).map (·.id)) (s.alts.drop k) = er) ∧ Ext (H.push (.row [Value.slice wa s.words.length wc, Value.slice aa s.alts.length ac] 25)) H') s.alts.length ?_ ?_
    · exact ⟨0, by simp, by simp, (by first|go_simp<;>go_num|assumption), (by first|go_simp<;>go_num|assumption), (by first|go_simp<;>go_num|assumption), Lib.hid (by simpa [prevDay] using HE2.out), Ext.refl _⟩
    clear f3 f1 hd HE2 f
    rintro m f H' ⟨k, hk, rfl, f4, f1, hd, HG, hx⟩
    have hc0 : cellAt H' H.n 0 = some (Value.slice wa s.words.length wc) := by rw [hx.cellAt (by rw [AHeap.n_push]; omega), cellAt_new]; rfl
    have hc1 : cellAt H' H.n 1 = some (Value.slice aa s.alts.length ac) := by rw [hx.cellAt (by rw [AHeap.n_push]; omega), cellAt_new]; rfl
    have hc2 : cellsAt H' H.n 0 2 = some [Value.slice wa s.words.length wc, Value.slice aa s.alts.length ac] := by rw [hx.cellsAt (by rw [AHeap.n_push]; omega), cellsAt_new]; rfl
    have hn0 : H.n < H'.n := by have := hx.n; rw [AHeap.n_push] at this; omega
    have HX := Lib.hid hx
    clear hx
    by_cases hlt : k < s.alts.length
    · obtain ⟨b, o, sp, rfl, hb, hx6, -⟩ := (HA.out.ext ((Ext.push _).trans HX.out)).at_ hlt
      have HD := Lib.hid (List.drop_eq_getElem_cons hlt)
      have HT := Lib.hid (List.take_succ_eq_append_getElem hlt)
      have HP : Hid (prevDay s.alts (k + 1) = (s.alts[k]).day) := Lib.hid (by simp [prevDay, hlt])
      generalize s.alts[k] = a at hx6 HD HT HP
      obtain ⟨i, kd, dy, fr, to, wd⟩ := a
      simp only [Alt.cells] at hx6
      have HR1 : Hid (Alt.right ⟨i, kd, dy, fr, to, wd⟩ s.words.length = false ∨ dy < prevDay s.alts k → (1 : Int) = er) := Lib.hid (fun h => by rw [← HG.out, HD.out, errGo, if_pos h])
      have HR2 : Hid (Alt.right ⟨i, kd, dy, fr, to, wd⟩ s.words.length = true → ¬ dy < prevDay s.alts k → errGo s.words.length (prevDay s.alts k) ((s.alts.take k).map (·.id)) (s.alts.drop k) = if i ∈ (s.alts.take k).map (·.id) then 6 else errGo s.words.length dy ((s.alts.take k).map (·.id) ++ [i]) (s.alts.drop (k + 1))) := Lib.hid (fun h h2 => by rw [HD.out, errGo, if_neg (by simp [h, h2])])
      have HR0 : Hid (Alt.right ⟨i, kd, dy, fr, to, wd⟩ s.words.length = true → 0 ≤ dy) := Lib.hid (fun h => by simp only [Alt.right, Bool.and_eq_true, win_iff] at h; exact h.2.1.1)
      have hrr : ∀ (loops : List (Nat × LInfo)) (H2 : AHeap), Ext H' H2 → CallS Tryz.prog loops 116 [.agg #[Value.slice wa s.words.length wc, Value.slice (some ⟨b, o, sp⟩) s.alts.length ac], Alt.val ⟨i, kd, dy, fr, to, wd⟩] H2 fun v H' => v = .bool (Alt.right ⟨i, kd, dy, fr, to, wd⟩ s.words.length) ∧ H' = H2 := fun loops H2 hx => refRight_s (HV.out.ext (((Ext.push _).trans HX.out).trans hx))
      generalize Alt.right ⟨i, kd, dy, fr, to, wd⟩ s.words.length = rr at HR1 HR2 HR0 hrr
      have HRR := Lib.hid hrr
      clear hrr
      rcases Nat.eq_zero_or_pos k with hk0 | hk0
      case' inl =>
        subst hk0
        simp only [Nat.zero_mul, Nat.add_zero] at hx6
        repeat' (first|(with_reducible first|refine zA ?_|refine zB fun K hK=>?_|refine zC fun K2 hK2=>?_|refine zD ?_|refine zE ?_|refine zF ?_|refine zG ?_|refine zH ?_|refine zI ?_|refine zM ?_|refine zN ?_|refine zO ?_|refine zP ?_|refine zQ ?_|refine zR ?_)|((with_reducible refine zU (hK _ _ ?_));clear hK K)|((with_reducible refine zV ?_ ?_ fun K1 K3 d hdst h1 h3=>?_);rfl;exact yB rfl;cases hdst;go_simp)|((with_reducible refine zW fun K1 K3 h1 h3=>?_);go_simp)|((first|refine h1 ?_|refine h3 ?_);clear h1 h3 K1 K3)|((first|refine zX (fun hb=>h1 ?_) (fun hb=>h3 ?_)|refine zX (fun hb=>h3 ?_) (fun hb=>h1 ?_))<;>(clear h1 h3 K1 K3;(try have hb2:=yC hb);(try have hb2:=yD hb);(try have hb2:=yE hb);(try have hb2:=yF hb);(try have hb2:=yG hb)))|(refine fun (K2:_→AHeap→Prop) hK2=>?_)|((with_reducible refine zY ?_ ?_);decide)|((with_reducible first|refine zZ ?_ (fun K hK=>?_)|refine yA ?_ (fun K hK=>?_));(focus go_simp;done);go_simp;refine hK _ _ ?_;clear hK K)|((with_reducible refine yH mixed rfl ?_ 20 fun K0 hK0=>?_);kernel_rfl)|(with_reducible first|exact yI|exact yJ|refine yK ?_|refine yL ?_|refine yM ?_)|((with_reducible first|refine yN ?_ ?_|refine yO ?_ ?_|refine yP ?_ ?_);rfl)|((with_reducible refine yQ ?_ ?_);rfl;refine hK0 _ _ ?_;clear hK0 K0)|((with_reducible refine yR ?_ ?_ ?_ ?_);rfl;rfl;rfl)|((with_reducible refine yS ?_ ?_ ?_ fun K2 hK2=>?_);rfl;rfl;exact yB rfl)|((with_reducible refine yT ?_ ?_ ?_ ?_ fun K1 K3 d hdst h1 h3=>?_);rfl;rfl;rfl;exact yB rfl;cases hdst;go_simp)|((with_reducible refine yU ?_ ?_ ?_ ?_ fun K1 K3 d hdst h1 h3=>?_);rfl;rfl;rfl;exact yB rfl;cases hdst;go_simp)|((with_reducible refine yV ?_ ?_ (fun K2 hK2=>?_) ?_);rfl;exact yB rfl)|((with_reducible refine yW ?_ ?_ ?_ ?_ (fun K2 hK2=>?_) ?_);rfl;exact yB rfl;rfl;(focus go_simp;done))|((with_reducible refine yX ?_ ?_ ?_ (fun K2 hK2=>?_) ?_);rfl;rfl;exact yB rfl)|((with_reducible refine yY ?_ ?_ (fun K2 hK2=>?_) ?_);rfl;rfl)|((with_reducible refine yZ ?_ ?_);(first|rfl|(dsimp only;decide +kernel)))|((with_reducible refine xA ?_ ?_);(focus go_simp;done))|(go_simp;(try go_bits);(try first | ((with_reducible show CallS _ _ _ _ _ _);refine CallS.mono (HRR.out _ _ (Ext.push _)) ?_; rintro _ _ ⟨rfl, rfl⟩));(first|(refine hK2 _ _ ?_ ?_<;>clear hK2 K2)|(refine hK2 _ _ ?_;clear hK2 K2))))
        all_goals (try (exact ⟨by rw [HR1.out (.inl (by simpa using hb))], ((Ext.push _).trans HX.out).push' _⟩))
        have hq1 : rr = true := by simpa using hb
        have hq2 := HR0.out hq1
        have HQ : Hid (rr = true ∧ ¬ dy < prevDay s.alts 0) := Lib.hid ⟨hq1, by simp [prevDay]; omega⟩
        clear hq1 hq2 hb
        have hQ := HR2.out HQ.out.1 HQ.out.2
        have HQ2 := Lib.hid hQ
        clear hQ
        refine CodeS.loop (fun m f H'' => ∃ j : Nat, j ≤ 0 ∧ m = 0 - j ∧ f.tmp 6 = .int .i64 j ∧ f.tmp 4 = .int .i64 0 ∧ f.tmp 1 = .pointer (some ⟨H.n, 0, none⟩) ∧ f.tmp 5 = .pointer (some ⟨H'.n, 0, none⟩) ∧ f.defers = [] ∧ Hid (i ∉ (s.alts.take j).map (·.id)) ∧ H'' = H'.push (AObj.row [Value.int IntKind.i64 i, Value.int IntKind.i64 kd, Value.int IntKind.i64 dy, Value.int IntKind.i64 fr, Value.int IntKind.i64 to, Value.int IntKind.i64 wd] 58)) 0 ?_ ?_
        · exact ⟨0, by simp, by simp, (by first|go_simp<;>go_num|assumption), (by first|go_simp<;>go_num|assumption), (by first|go_simp<;>go_num|assumption), (by first|go_simp<;>go_num|assumption), (by first|go_simp<;>go_num|assumption), Lib.hid (by simp), rfl⟩
        clear f4 f1 hd f HRR
        rintro m f H'' ⟨j, hj, rfl, f6, f4, f1, f5, hd, HN, rfl⟩
        by_cases hjk : j < 0
        · exact absurd hjk (Nat.not_lt_zero _)
        · have hjk2 : j = 0 := by omega
          rw [hjk2] at f6 HN
          clear hj hjk hjk2
          repeat' (first|(with_reducible first|refine zA ?_|refine zB fun K hK=>?_|refine zC fun K2 hK2=>?_|refine zD ?_|refine zE ?_|refine zF ?_|refine zG ?_|refine zH ?_|refine zI ?_|refine zM ?_|refine zN ?_|refine zO ?_|refine zP ?_|refine zQ ?_|refine zR ?_)|((with_reducible refine zU (hK _ _ ?_));clear hK K)|((with_reducible refine zV ?_ ?_ fun K1 K3 d hdst h1 h3=>?_);rfl;exact yB rfl;cases hdst;go_simp)|((with_reducible refine zW fun K1 K3 h1 h3=>?_);go_simp)|((first|refine h1 ?_|refine h3 ?_);clear h1 h3 K1 K3)|((first|refine zX (fun hb=>h1 ?_) (fun hb=>h3 ?_)|refine zX (fun hb=>h3 ?_) (fun hb=>h1 ?_))<;>(clear h1 h3 K1 K3;(try have hb2:=yC hb);(try have hb2:=yD hb);(try have hb2:=yE hb);(try have hb2:=yF hb);(try have hb2:=yG hb)))|(refine fun (K2:_→AHeap→Prop) hK2=>?_)|((with_reducible refine zY ?_ ?_);decide)|((with_reducible first|refine zZ ?_ (fun K hK=>?_)|refine yA ?_ (fun K hK=>?_));(focus go_simp;done);go_simp;refine hK _ _ ?_;clear hK K)|(go_simp;(try go_bits);refine hK2 _ _ ?_;clear hK2 K2))
          refine Post.round_normal ⟨s.alts.length - (0 + 1), by omega, 0 + 1, by omega, rfl, (by first|go_simp<;>go_num|assumption), (by first|go_simp<;>go_num|assumption), (by first|go_simp<;>go_num|assumption), Lib.hid ?_, HX.out.trans (Ext.push _)⟩
          have h9 := HQ2.out
          rw [if_neg HN.out] at h9
          rw [HP.out, HT.out, List.map_append, ← HG.out, h9]
          rfl
      case' inr =>
        obtain ⟨b2, o2, sp2, he2, -, -, hxp⟩ := (HA.out.ext ((Ext.push _).trans HX.out)).at_ (k := k - 1) (by omega)
        cases he2
        have hpd := hxp 2 _ rfl
        have HP2 : Hid (prevDay s.alts k = (s.alts[k - 1]).day) := Lib.hid (by simp [prevDay, show k ≠ 0 by omega, show k - 1 < s.alts.length by omega])
        generalize s.alts[k - 1] = pa at hpd HP2
        obtain ⟨pi, pk, pd, pf, pt, pw⟩ := pa
        simp only at hpd
        clear hxp
        have h0i : (0 : Int) ≤ (k : Int) - 1 := by omega
        have h1i : (k : Int) - 1 < (s.alts.length : Int) := by omega
        have h2i : (1 : Int) ≤ (k : Int) := by omega
        have h3i : 1 ≤ k := by omega
        repeat' (first|(with_reducible first|refine zA ?_|refine zB fun K hK=>?_|refine zC fun K2 hK2=>?_|refine zD ?_|refine zE ?_|refine zF ?_|refine zG ?_|refine zH ?_|refine zI ?_|refine zM ?_|refine zN ?_|refine zO ?_|refine zP ?_|refine zQ ?_|refine zR ?_)|((with_reducible refine zU (hK _ _ ?_));clear hK K)|((with_reducible refine zV ?_ ?_ fun K1 K3 d hdst h1 h3=>?_);rfl;exact yB rfl;cases hdst;go_simp)|((with_reducible refine zW fun K1 K3 h1 h3=>?_);go_simp)|((first|refine h1 ?_|refine h3 ?_);clear h1 h3 K1 K3)|((first|refine zX (fun hb=>h1 ?_) (fun hb=>h3 ?_)|refine zX (fun hb=>h3 ?_) (fun hb=>h1 ?_))<;>(clear h1 h3 K1 K3;(try have hb2:=yC hb);(try have hb2:=yD hb);(try have hb2:=yE hb);(try have hb2:=yF hb);(try have hb2:=yG hb)))|(refine fun (K2:_→AHeap→Prop) hK2=>?_)|((with_reducible refine zY ?_ ?_);decide)|((with_reducible first|refine zZ ?_ (fun K hK=>?_)|refine yA ?_ (fun K hK=>?_));(focus go_simp;done);go_simp;refine hK _ _ ?_;clear hK K)|((with_reducible refine yH mixed rfl ?_ 20 fun K0 hK0=>?_);kernel_rfl)|(with_reducible first|exact yI|exact yJ|refine yK ?_|refine yL ?_|refine yM ?_)|((with_reducible first|refine yN ?_ ?_|refine yO ?_ ?_|refine yP ?_ ?_);rfl)|((with_reducible refine yQ ?_ ?_);rfl;refine hK0 _ _ ?_;clear hK0 K0)|((with_reducible refine yR ?_ ?_ ?_ ?_);rfl;rfl;rfl)|((with_reducible refine yS ?_ ?_ ?_ fun K2 hK2=>?_);rfl;rfl;exact yB rfl)|((with_reducible refine yT ?_ ?_ ?_ ?_ fun K1 K3 d hdst h1 h3=>?_);rfl;rfl;rfl;exact yB rfl;cases hdst;go_simp)|((with_reducible refine yU ?_ ?_ ?_ ?_ fun K1 K3 d hdst h1 h3=>?_);rfl;rfl;rfl;exact yB rfl;cases hdst;go_simp)|((with_reducible refine yV ?_ ?_ (fun K2 hK2=>?_) ?_);rfl;exact yB rfl)|((with_reducible refine yW ?_ ?_ ?_ ?_ (fun K2 hK2=>?_) ?_);rfl;exact yB rfl;rfl;(focus go_simp;done))|((with_reducible refine yX ?_ ?_ ?_ (fun K2 hK2=>?_) ?_);rfl;rfl;exact yB rfl)|((with_reducible refine yY ?_ ?_ (fun K2 hK2=>?_) ?_);rfl;rfl)|((with_reducible refine yZ ?_ ?_);(first|rfl|(dsimp only;decide +kernel)))|((with_reducible refine xA ?_ ?_);(focus go_simp;done))|(go_simp;(try go_bits);(try first | ((with_reducible show CallS _ _ _ _ _ _);refine CallS.mono (HRR.out _ _ (Ext.push _)) ?_; rintro _ _ ⟨rfl, rfl⟩));(first|(refine hK2 _ _ ?_ ?_<;>clear hK2 K2)|(refine hK2 _ _ ?_;clear hK2 K2))))
        all_goals (try (exact ⟨by rw [HR1.out (.inr (by rw [HP2.out]; exact hb2))], ((Ext.push _).trans HX.out).push' _⟩))
        all_goals (try (exact ⟨by rw [HR1.out (.inl (by simpa using hb))], ((Ext.push _).trans HX.out).push' _⟩))
        have HQ : Hid (rr = true ∧ ¬ dy < prevDay s.alts k) := Lib.hid ⟨by simpa using ‹(!rr) = false›, by rw [HP2.out]; simp only; omega⟩
        clear hb hb2
        have hQ := HR2.out HQ.out.1 HQ.out.2
        have HQ2 := Lib.hid hQ
        clear hQ
        refine CodeS.loop (fun m f H'' => ∃ j : Nat, j ≤ k ∧ m = k - j ∧ f.tmp 6 = .int .i64 j ∧ f.tmp 4 = .int .i64 k ∧ f.tmp 1 = .pointer (some ⟨H.n, 0, none⟩) ∧ f.tmp 5 = .pointer (some ⟨H'.n, 0, none⟩) ∧ f.defers = [] ∧ Hid (i ∉ (s.alts.take j).map (·.id)) ∧ H'' = H'.push (AObj.row [Value.int IntKind.i64 i, Value.int IntKind.i64 kd, Value.int IntKind.i64 dy, Value.int IntKind.i64 fr, Value.int IntKind.i64 to, Value.int IntKind.i64 wd] 58)) k ?_ ?_
        · exact ⟨0, by simp, by simp, (by first|go_simp<;>go_num|assumption), (by first|go_simp<;>go_num|assumption), (by first|go_simp<;>go_num|assumption), (by first|go_simp<;>go_num|assumption), (by first|go_simp<;>go_num|assumption), Lib.hid (by simp), rfl⟩
        clear f4 f1 hd f HRR
        rintro m f H'' ⟨j, hj, rfl, f6, f4, f1, f5, hd, HN, rfl⟩
        by_cases hjk : j < k
        · obtain ⟨b3, o3, sp3, he3, -, -, hx3⟩ := (HA.out.ext ((Ext.push _).trans HX.out)).at_ (k := j) (by omega)
          cases he3
          have hc3 := hx3 0 _ rfl
          have HT3 := Lib.hid (List.take_succ_eq_append_getElem (l := s.alts) (i := j) (by omega))
          have HE3 : Hid ((s.alts[j]).id ∈ (s.alts.take k).map (·.id)) := Lib.hid (List.mem_map.2 ⟨s.alts[j], List.mem_take_iff_getElem.2 ⟨j, by omega, rfl⟩, rfl⟩)
          generalize s.alts[j] = aj at hc3 HT3 HE3
          obtain ⟨ji, jk, jd, jf, jt, jw⟩ := aj
          simp only [Nat.add_zero] at hc3
          clear hx3
          have hjn : j < s.alts.length := by omega
          repeat' (first|(with_reducible first|refine zA ?_|refine zB fun K hK=>?_|refine zC fun K2 hK2=>?_|refine zD ?_|refine zE ?_|refine zF ?_|refine zG ?_|refine zH ?_|refine zI ?_|refine zM ?_|refine zN ?_|refine zO ?_|refine zP ?_|refine zQ ?_|refine zR ?_)|((with_reducible refine zU (hK _ _ ?_));clear hK K)|((with_reducible refine zV ?_ ?_ fun K1 K3 d hdst h1 h3=>?_);rfl;exact yB rfl;cases hdst;go_simp)|((with_reducible refine zW fun K1 K3 h1 h3=>?_);go_simp)|((first|refine h1 ?_|refine h3 ?_);clear h1 h3 K1 K3)|((first|refine zX (fun hb=>h1 ?_) (fun hb=>h3 ?_)|refine zX (fun hb=>h3 ?_) (fun hb=>h1 ?_))<;>(clear h1 h3 K1 K3;(try have hb2:=yC hb);(try have hb2:=yD hb);(try have hb2:=yE hb);(try have hb2:=yF hb);(try have hb2:=yG hb)))|(refine fun (K2:_→AHeap→Prop) hK2=>?_)|((with_reducible refine zY ?_ ?_);decide)|((with_reducible first|refine zZ ?_ (fun K hK=>?_)|refine yA ?_ (fun K hK=>?_));(focus go_simp;done);go_simp;refine hK _ _ ?_;clear hK K)|((with_reducible refine yH mixed rfl ?_ 20 fun K0 hK0=>?_);kernel_rfl)|(with_reducible first|exact yI|exact yJ|refine yK ?_|refine yL ?_|refine yM ?_)|((with_reducible first|refine yN ?_ ?_|refine yO ?_ ?_|refine yP ?_ ?_);rfl)|((with_reducible refine yQ ?_ ?_);rfl;refine hK0 _ _ ?_;clear hK0 K0)|((with_reducible refine yR ?_ ?_ ?_ ?_);rfl;rfl;rfl)|((with_reducible refine yS ?_ ?_ ?_ fun K2 hK2=>?_);rfl;rfl;exact yB rfl)|((with_reducible refine yT ?_ ?_ ?_ ?_ fun K1 K3 d hdst h1 h3=>?_);rfl;rfl;rfl;exact yB rfl;cases hdst;go_simp)|((with_reducible refine yU ?_ ?_ ?_ ?_ fun K1 K3 d hdst h1 h3=>?_);rfl;rfl;rfl;exact yB rfl;cases hdst;go_simp)|((with_reducible refine yV ?_ ?_ (fun K2 hK2=>?_) ?_);rfl;exact yB rfl)|((with_reducible refine yW ?_ ?_ ?_ ?_ (fun K2 hK2=>?_) ?_);rfl;exact yB rfl;rfl;(focus go_simp;done))|((with_reducible refine yX ?_ ?_ ?_ (fun K2 hK2=>?_) ?_);rfl;rfl;exact yB rfl)|((with_reducible refine yY ?_ ?_ (fun K2 hK2=>?_) ?_);rfl;rfl)|((with_reducible refine yZ ?_ ?_);(first|rfl|(dsimp only;decide +kernel)))|((with_reducible refine xA ?_ ?_);(focus go_simp;done))|(go_simp;(try go_bits);(first|(refine hK2 _ _ ?_ ?_<;>clear hK2 K2)|(refine hK2 _ _ ?_;clear hK2 K2))))
          · refine ⟨?_, ((Ext.push _).trans HX.out).push' _⟩
            have hq : ji = i := by simpa using hb
            have hm := HE3.out
            rw [hq] at hm
            rw [← HG.out, HQ2.out, if_pos hm]
          · refine Post.round_normal ⟨k - (j + 1), by omega, j + 1, by omega, rfl, (by first|go_simp<;>go_num|assumption), (by first|go_simp<;>go_num|assumption), (by first|go_simp<;>go_num|assumption), (by first|go_simp<;>go_num|assumption), (by first|go_simp<;>go_num|assumption), Lib.hid ?_, rfl⟩
            have hq : ¬ ji = i := by simpa using hb
            rw [HT3.out, List.map_append, List.mem_append]
            rintro (h | h)
            · exact HN.out h
            · simp at h; exact hq h.symm
        · have hjk2 : j = k := by omega
          rw [hjk2] at f6 HN
          clear hj hjk hjk2
          repeat' (first|(with_reducible first|refine zA ?_|refine zB fun K hK=>?_|refine zC fun K2 hK2=>?_|refine zD ?_|refine zE ?_|refine zF ?_|refine zG ?_|refine zH ?_|refine zI ?_|refine zM ?_|refine zN ?_|refine zO ?_|refine zP ?_|refine zQ ?_|refine zR ?_)|((with_reducible refine zU (hK _ _ ?_));clear hK K)|((with_reducible refine zV ?_ ?_ fun K1 K3 d hdst h1 h3=>?_);rfl;exact yB rfl;cases hdst;go_simp)|((with_reducible refine zW fun K1 K3 h1 h3=>?_);go_simp)|((first|refine h1 ?_|refine h3 ?_);clear h1 h3 K1 K3)|((first|refine zX (fun hb=>h1 ?_) (fun hb=>h3 ?_)|refine zX (fun hb=>h3 ?_) (fun hb=>h1 ?_))<;>(clear h1 h3 K1 K3;(try have hb2:=yC hb);(try have hb2:=yD hb);(try have hb2:=yE hb);(try have hb2:=yF hb);(try have hb2:=yG hb)))|(refine fun (K2:_→AHeap→Prop) hK2=>?_)|((with_reducible refine zY ?_ ?_);decide)|((with_reducible first|refine zZ ?_ (fun K hK=>?_)|refine yA ?_ (fun K hK=>?_));(focus go_simp;done);go_simp;refine hK _ _ ?_;clear hK K)|(go_simp;(try go_bits);refine hK2 _ _ ?_;clear hK2 K2))
          refine Post.round_normal ⟨s.alts.length - (k + 1), by omega, k + 1, by omega, rfl, (by first|go_simp<;>go_num|assumption), (by first|go_simp<;>go_num|assumption), (by first|go_simp<;>go_num|assumption), Lib.hid ?_, HX.out.trans (Ext.push _)⟩
          have h9 := HQ2.out
          rw [if_neg HN.out] at h9
          rw [HP.out, HT.out, List.map_append, ← HG.out, h9]
          rfl
    · repeat' (first|(with_reducible first|refine zA ?_|refine zB fun K hK=>?_|refine zC fun K2 hK2=>?_|refine zD ?_|refine zE ?_|refine zF ?_|refine zG ?_|refine zH ?_|refine zI ?_|refine zM ?_|refine zN ?_|refine zO ?_|refine zP ?_|refine zQ ?_|refine zR ?_)|((with_reducible refine zU (hK _ _ ?_));clear hK K)|((with_reducible refine zV ?_ ?_ fun K1 K3 d hdst h1 h3=>?_);rfl;exact yB rfl;cases hdst;go_simp)|((with_reducible refine zW fun K1 K3 h1 h3=>?_);go_simp)|((first|refine h1 ?_|refine h3 ?_);clear h1 h3 K1 K3)|((first|refine zX (fun hb=>h1 ?_) (fun hb=>h3 ?_)|refine zX (fun hb=>h3 ?_) (fun hb=>h1 ?_))<;>(clear h1 h3 K1 K3;(try have hb2:=yC hb);(try have hb2:=yD hb);(try have hb2:=yE hb);(try have hb2:=yF hb);(try have hb2:=yG hb)))|(refine fun (K2:_→AHeap→Prop) hK2=>?_)|((with_reducible refine zY ?_ ?_);decide)|((with_reducible first|refine zZ ?_ (fun K hK=>?_)|refine yA ?_ (fun K hK=>?_));(focus go_simp;done);go_simp;refine hK _ _ ?_;clear hK K)|(go_simp;(try go_bits);refine hK2 _ _ ?_;clear hK2 K2))
      refine ⟨?_, (Ext.push _).trans HX.out⟩
      rw [← HG.out, List.drop_eq_nil_of_le (by omega)]; rfl
end Go.Proofs.Tryz
namespace Go.Proofs.Tryz
open Go Go.Am Go.RowKit
set_option maxRecDepth 100000


def validA (s : Sheet) (c : Copy) : Bool := decide (c.words.length = s.words.length) && (win 0 730 c.beg && (win 0 730 c.fin && (decide (c.beg ≤ c.fin) && win 1 40 c.per)))
theorem copyOk_eq (s : Sheet) (c : Copy) : copyOk s c = (validA s c && wordsOk 0 c.words) := by
  rw [Bool.eq_iff_iff]
  simp only [copyOk, validA, Bool.and_eq_true, decide_eq_true_eq, win_iff]
  constructor
  · rintro ⟨h1, h2, h3, h4, h5⟩; exact ⟨⟨h1, by omega, by omega, by omega, h5⟩, h2⟩
  · rintro ⟨⟨h1, h2, h3, h4, h5⟩, h6⟩; exact ⟨h1, h6, by omega, by omega, h5⟩

theorem valid_s {loops : List (Nat × LInfo)} {H : AHeap} {sv cv : Value} {s : Sheet} {c : Copy} (hs : SheetV H sv s) (hc : CopyV H cv c) : CallS Tryz.prog loops 93 [sv, cv] H fun r H' => r = .bool (copyOk s c) ∧ H' = H := by
  refine CallS.forget (R := fun v => v = .bool (copyOk s c)) (by rintro v rfl; rfl) ?_
  obtain ⟨wv, av, rfl, hw, ha⟩ := hs
  obtain ⟨hwl, wa, wc, rfl⟩ := hw.slice
  obtain ⟨hal, aa, ac, rfl⟩ := ha.slice
  obtain ⟨cv, rfl, hcw⟩ := hc
  obtain ⟨hcl, ca, cc, rfl⟩ := hcw.slice
  have HCW := Lib.hid hcw
  clear hw ha hcw
  rw [copyOk_eq]
  generalize he : (validA s c && wordsOk 0 c.words) = er
  have HE := Lib.hid he
  clear he
  refine CallS.enter' Tryz.func93 rfl Tryz.ntmps93 (by simp) fun f hd hf => ?_
  have f0 := hf 0
  have f1 := hf 1
  simp at f0 f1
  clear hf
  repeat' (first|(with_reducible first|refine zA ?_|refine zB fun K hK=>?_|refine zC fun K2 hK2=>?_|refine zD ?_|refine zE ?_|refine zF ?_|refine zG ?_|refine zH ?_|refine zI ?_|refine zM ?_|refine zN ?_|refine zO ?_|refine zP ?_|refine zQ ?_|refine zR ?_)|((with_reducible refine zU (hK _ _ ?_));clear hK K)|((with_reducible refine zV ?_ ?_ fun K1 K3 d hdst h1 h3=>?_);rfl;exact yB rfl;cases hdst;go_simp)|((with_reducible refine zW fun K1 K3 h1 h3=>?_);go_simp)|((first|refine h1 ?_|refine h3 ?_);clear h1 h3 K1 K3)|((first|refine zX (fun hb=>h1 ?_) (fun hb=>h3 ?_)|refine zX (fun hb=>h3 ?_) (fun hb=>h1 ?_))<;>(clear h1 h3 K1 K3;(try have hb2:=yC hb);(try have hb2:=yD hb);(try have hb2:=yE hb);(try have hb2:=yF hb);(try have hb2:=yG hb)))|(refine fun (K2:_→AHeap→Prop) hK2=>?_)|((with_reducible refine zY ?_ ?_);decide)|((with_reducible first|refine zZ ?_ (fun K hK=>?_)|refine yA ?_ (fun K hK=>?_));(focus go_simp;done);go_simp;refine hK _ _ ?_;clear hK K)|(go_simp;(try go_bits);(try first |((with_reducible show CallS _ _ _ _ _ _);first|(refine CallS.mono in_s ?_; rintro _ _ ⟨rfl, rfl⟩)|(refine CallS.mono day_s ?_; rintro _ _ ⟨rfl, rfl⟩)));refine hK2 _ _ ?_;clear hK2 K2))
  all_goals (try (refine ⟨?_, ((Ext.refl _).push' _).push' _⟩; rw [← HE.out]; simp_all [validA, nat_neb]; done))
  all_goals (try (refine ⟨?_, ((Ext.refl _).push' _).push' _⟩; rw [← HE.out]; simp_all [validA, nat_neb]; omega))
  have hva : validA s c = true := by simp_all [validA, nat_neb]; try omega
  refine CodeS.loop (fun m f H' => ∃ k : Nat, k ≤ c.words.length ∧ m = c.words.length - k ∧ f.tmp 5 = .int .i64 k ∧ f.tmp 3 = .pointer (some ⟨H.n + 1, 0, none⟩) ∧ f.defers = [] ∧ Hid (wordsOk 0 (c.words.drop k) = er) ∧ H' = (H.push (.row [Value.slice wa s.words.length wc, Value.slice aa s.alts.length ac] 25)).push (.row [Value.slice ca c.words.length cc, .int .i64 c.beg, .int .i64 c.fin, .int .i64 c.per] 27)) c.words.length ?_ ?_
  · exact ⟨0, by simp, by simp, (by first|go_simp<;>go_num|assumption), (by first|go_simp<;>go_num|assumption), (by first|go_simp<;>go_num|assumption), Lib.hid (by rw [← HE.out, hva]; simp), rfl⟩
  clear f0 f1 hd f HE hva
  rintro m f H' ⟨k, hk, rfl, f5, f3, hd, HG, rfl⟩
  by_cases hlt : k < c.words.length
  · obtain ⟨b, o, sp, rfl, hb, hx⟩ := HCW.out.at_ hlt
    have HD := Lib.hid (List.drop_eq_getElem_cons hlt)
    generalize c.words[k] = y at hx HD
    have hbn : b < H.n + 1 := by omega
    repeat' (first|(with_reducible first|refine zA ?_|refine zB fun K hK=>?_|refine zC fun K2 hK2=>?_|refine zD ?_|refine zE ?_|refine zF ?_|refine zG ?_|refine zH ?_|refine zI ?_|refine zM ?_|refine zN ?_|refine zO ?_|refine zP ?_|refine zQ ?_|refine zR ?_)|((with_reducible refine zU (hK _ _ ?_));clear hK K)|((with_reducible refine zV ?_ ?_ fun K1 K3 d hdst h1 h3=>?_);rfl;exact yB rfl;cases hdst;go_simp)|((with_reducible refine zW fun K1 K3 h1 h3=>?_);go_simp)|((first|refine h1 ?_|refine h3 ?_);clear h1 h3 K1 K3)|((first|refine zX (fun hb=>h1 ?_) (fun hb=>h3 ?_)|refine zX (fun hb=>h3 ?_) (fun hb=>h1 ?_))<;>(clear h1 h3 K1 K3;(try have hb2:=yC hb);(try have hb2:=yD hb);(try have hb2:=yE hb);(try have hb2:=yF hb);(try have hb2:=yG hb)))|(refine fun (K2:_→AHeap→Prop) hK2=>?_)|((with_reducible refine zY ?_ ?_);decide)|((with_reducible first|refine zZ ?_ (fun K hK=>?_)|refine yA ?_ (fun K hK=>?_));(focus go_simp;done);go_simp;refine hK _ _ ?_;clear hK K)|(go_simp;(try go_bits);(try first | ((with_reducible show CallS _ _ _ _ _ _);refine CallS.mono in_s ?_; rintro _ _ ⟨rfl, rfl⟩));refine hK2 _ _ ?_;clear hK2 K2))
    · refine ⟨?_, ((Ext.refl _).push' _).push' _⟩
      have hw : win 0 9999 y = false := by simpa using ‹(!win 0 9999 y) = true›
      rw [← HG.out, HD.out]; simp [wordsOk, hw]
    · have hw : win 0 9999 y = true := by simpa using ‹(!win 0 9999 y) = false›
      refine Post.round_normal ⟨c.words.length - (k + 1), by omega, k + 1, by omega, rfl, (by first|go_simp<;>go_num|assumption), (by first|go_simp<;>go_num|assumption), (by first|go_simp<;>go_num|assumption), Lib.hid ?_, rfl⟩
      rw [← HG.out, HD.out]; simp [wordsOk, hw]
  · repeat' (first|(with_reducible first|refine zA ?_|refine zB fun K hK=>?_|refine zC fun K2 hK2=>?_|refine zD ?_|refine zE ?_|refine zF ?_|refine zG ?_|refine zH ?_|refine zI ?_|refine zM ?_|refine zN ?_|refine zO ?_|refine zP ?_|refine zQ ?_|refine zR ?_)|((with_reducible refine zU (hK _ _ ?_));clear hK K)|((with_reducible refine zV ?_ ?_ fun K1 K3 d hdst h1 h3=>?_);rfl;exact yB rfl;cases hdst;go_simp)|((with_reducible refine zW fun K1 K3 h1 h3=>?_);go_simp)|((first|refine h1 ?_|refine h3 ?_);clear h1 h3 K1 K3)|((first|refine zX (fun hb=>h1 ?_) (fun hb=>h3 ?_)|refine zX (fun hb=>h3 ?_) (fun hb=>h1 ?_))<;>(clear h1 h3 K1 K3;(try have hb2:=yC hb);(try have hb2:=yD hb);(try have hb2:=yE hb);(try have hb2:=yF hb);(try have hb2:=yG hb)))|(refine fun (K2:_→AHeap→Prop) hK2=>?_)|((with_reducible refine zY ?_ ?_);decide)|((with_reducible first|refine zZ ?_ (fun K hK=>?_)|refine yA ?_ (fun K hK=>?_));(focus go_simp;done);go_simp;refine hK _ _ ?_;clear hK K)|(go_simp;(try go_bits);refine hK2 _ _ ?_;clear hK2 K2))
    refine ⟨?_, ((Ext.refl _).push' _).push' _⟩
    rw [← HG.out, List.drop_eq_nil_of_le (by omega)]; rfl

theorem refCheckCopy_s {loops : List (Nat × LInfo)} {H : AHeap} {sv cv : Value} {s : Sheet} {c : Copy} (hs : SheetV H sv s) (hc : CopyV H cv c) : CallS Tryz.prog loops 46 [sv, cv] H fun r H' => r = .int .i64 (errCopy s c) ∧ H' = H := by
  refine CallS.forget (R := fun v => v = .int .i64 (errCopy s c)) (by rintro v rfl; rfl) ?_
  have HV := Lib.hid hs
  have HC := Lib.hid hc
  obtain ⟨wv, av, rfl, hw, ha⟩ := hs
  obtain ⟨hwl, wa, wc, rfl⟩ := hw.slice
  obtain ⟨hal, aa, ac, rfl⟩ := ha.slice
  obtain ⟨cv, rfl, hcw⟩ := hc
  obtain ⟨hcl, ca, cc, rfl⟩ := hcw.slice
  clear hw ha hcw
  generalize he : errCopy s c = er
  have HE := Lib.hid he
  clear he
  refine CallS.enter' Tryz.func46 rfl Tryz.ntmps46 (by simp) fun f hd hf => ?_
  have f0 := hf 0
  have f1 := hf 1
  simp at f0 f1
  clear hf
  repeat' (first|(with_reducible first|refine zA ?_|refine zB fun K hK=>?_|refine zC fun K2 hK2=>?_|refine zD ?_|refine zE ?_|refine zF ?_|refine zG ?_|refine zH ?_|refine zI ?_|refine zM ?_|refine zN ?_|refine zO ?_|refine zP ?_|refine zQ ?_|refine zR ?_)|((with_reducible refine zU (hK _ _ ?_));clear hK K)|((with_reducible refine zV ?_ ?_ fun K1 K3 d hdst h1 h3=>?_);rfl;exact yB rfl;cases hdst;go_simp)|((with_reducible refine zW fun K1 K3 h1 h3=>?_);go_simp)|((first|refine h1 ?_|refine h3 ?_);clear h1 h3 K1 K3)|((first|refine zX (fun hb=>h1 ?_) (fun hb=>h3 ?_)|refine zX (fun hb=>h3 ?_) (fun hb=>h1 ?_))<;>(clear h1 h3 K1 K3;(try have hb2:=yC hb);(try have hb2:=yD hb);(try have hb2:=yE hb);(try have hb2:=yF hb);(try have hb2:=yG hb)))|(refine fun (K2:_→AHeap→Prop) hK2=>?_)|((with_reducible refine zY ?_ ?_);decide)|((with_reducible first|refine zZ ?_ (fun K hK=>?_)|refine yA ?_ (fun K hK=>?_));(focus go_simp;done);go_simp;refine hK _ _ ?_;clear hK K)|(go_simp;(try go_bits);(try first |((with_reducible show CallS _ _ _ _ _ _);first|(refine CallS.mono (refCheck_s (s := s) (HV.out.ext (((Ext.refl _).push' _).push' _))) ?_; rintro _ _ ⟨rfl, rfl⟩)|(refine CallS.mono (valid_s (s := s) (c := c) (HV.out.ext (((Ext.refl _).push' _).push' _)) (HC.out.ext (((Ext.refl _).push' _).push' _))) ?_; rintro _ _ ⟨rfl, rfl⟩)));refine hK2 _ _ ?_;clear hK2 K2))
  all_goals
    refine ⟨?_, ((Ext.refl _).push' _).push' _⟩
    rw [← HE.out]
    simp_all [errCopy]

theorem on_e {loops : List (Nat × LInfo)} {H : AHeap} {sv : Value} {s : Sheet} {line d : Int} (hs : SheetV H sv s) (hl0 : 0 ≤ line) (hl1 : line < s.words.length) : CallS Tryz.prog loops 94 [sv, .int .i64 line, .int .i64 d] H fun r H' => r = (hasOn s line d).val ∧ Ext H H' := by
  obtain ⟨wv, av, rfl, hw, ha⟩ := hs
  obtain ⟨hwl, wa, wc, rfl⟩ := hw.slice
  obtain ⟨hal, aa, ac, rfl⟩ := ha.slice
  have HA := Lib.hid ha
  obtain ⟨ln, rfl⟩ := Int.eq_ofNat_of_zero_le hl0
  have hln : ln < s.words.length := by omega
  obtain ⟨bw, ow, sw, rfl, hbw, hcw⟩ := hw.at_ hln
  generalize he : hasOn s ln d = er
  have HE : Hid (atDay ln d ⟨s.words[ln], 0, false⟩ s.alts = er) := Lib.hid (by rw [← he, hasOn]; simp [hln])
  generalize s.words[ln] = w0 at hcw HE
  clear hw ha he
  refine CallS.enter' Tryz.func94 rfl Tryz.ntmps94 (by simp) fun f hd hf => ?_
  have f0 := hf 0
  have f1 := hf 1
  have f2 := hf 2
  simp at f0 f1 f2
  clear hf
  repeat' (first|(with_reducible first|refine zA ?_|refine zB fun K hK=>?_|refine zC fun K2 hK2=>?_|refine zD ?_|refine zE ?_|refine zF ?_|refine zG ?_|refine zH ?_|refine zI ?_|refine zM ?_|refine zN ?_|refine zO ?_|refine zP ?_|refine zQ ?_|refine zR ?_)|((with_reducible refine zU (hK _ _ ?_));clear hK K)|((with_reducible refine zV ?_ ?_ fun K1 K3 d hdst h1 h3=>?_);rfl;exact yB rfl;cases hdst;go_simp)|((with_reducible refine zW fun K1 K3 h1 h3=>?_);go_simp)|((first|refine h1 ?_|refine h3 ?_);clear h1 h3 K1 K3)|((first|refine zX (fun hb=>h1 ?_) (fun hb=>h3 ?_)|refine zX (fun hb=>h3 ?_) (fun hb=>h1 ?_))<;>(clear h1 h3 K1 K3;(try have hb2:=yC hb);(try have hb2:=yD hb);(try have hb2:=yE hb);(try have hb2:=yF hb);(try have hb2:=yG hb)))|(refine fun (K2:_→AHeap→Prop) hK2=>?_)|((with_reducible refine zY ?_ ?_);decide)|((with_reducible first|refine zZ ?_ (fun K hK=>?_)|refine yA ?_ (fun K hK=>?_));(focus go_simp;done);go_simp;refine hK _ _ ?_;clear hK K)|(go_simp;(try go_bits);refine hK2 _ _ ?_;clear hK2 K2))
  refine CodeS.loop (fun m f H' => ∃ (k : Nat) (c : Has), k ≤ s.alts.length ∧ m = s.alts.length - k ∧ f.tmp 8 = .int .i64 k ∧ f.tmp 3 = .pointer (some ⟨H.n, 0, none⟩) ∧ f.tmp 1 = .int .i64 ln ∧ f.tmp 2 = .int .i64 d ∧ f.tmp 6 = .pointer (some ⟨H.n + 1, 0, none⟩) ∧ f.tmp 7 = .pointer (some ⟨H.n + 2, 0, none⟩) ∧ f.defers = [] ∧ Hid (atDay ln d c (s.alts.drop k) = er) ∧ H.n + 2 < H'.n ∧ Ext H H' ∧ H'.get H.n = .row [Value.slice (some ⟨bw, ow, sw⟩) s.words.length wc, Value.slice aa s.alts.length ac] 25 ∧ H'.get (H.n + 1) = .row [.int .i64 0, .int .i64 0, .bool false] 126 ∧ H'.get (H.n + 2) = .row [.int .i64 c.text, .int .i64 c.margin, .bool c.lost] 126) s.alts.length ?_ ?_
  · refine ⟨0, ⟨w0, 0, false⟩, by simp, by simp, (by first|go_simp<;>go_num|assumption), (by first|go_simp<;>go_num|assumption), (by first|go_simp<;>go_num|assumption), (by first|go_simp<;>go_num|assumption), (by first|go_simp<;>go_num|assumption), (by first|go_simp<;>go_num|assumption), (by first|go_simp<;>go_num|assumption), HE, by simp only [AHeap.n_push]; omega, ((Ext.refl _).push' _).push' _ |>.push' _, ?_, ?_, ?_⟩
    · rw [AHeap.get_push_old (by simp only [AHeap.n_push]; omega), AHeap.get_push_old (by simp only [AHeap.n_push]; omega), AHeap.get_push_new]
    · rw [AHeap.get_push_old (by simp only [AHeap.n_push]; omega), show H.n + 1 = (H.push (AObj.row [Value.slice (some ⟨bw, ow, sw⟩) s.words.length wc, Value.slice aa s.alts.length ac] 25)).n by rw [AHeap.n_push], AHeap.get_push_new]
    · rw [show H.n + 2 = ((H.push (AObj.row [Value.slice (some ⟨bw, ow, sw⟩) s.words.length wc, Value.slice aa s.alts.length ac] 25)).push (AObj.row [Value.int IntKind.i64 0, Value.int IntKind.i64 0, Value.bool false] 126)).n by rw [AHeap.n_push, AHeap.n_push], AHeap.get_push_new]
  clear f0 f1 f2 hd f HE hcw
  rintro m f H' ⟨k, c, hk, rfl, f8, f3, f1, f2, f6, f7, hd, HG, hn, hx, hg0, hg1, hg2⟩
  obtain ⟨ct, cm, cl⟩ := c
  have hc0 : cellAt H' H.n 0 = some (Value.slice (some ⟨bw, ow, sw⟩) s.words.length wc) := by simp [cellAt, hg0]
  have hc1 : cellAt H' H.n 1 = some (Value.slice aa s.alts.length ac) := by simp [cellAt, hg0]
  have hc2 : cellsAt H' (H.n + 2) 0 3 = some [.int .i64 ct, .int .i64 cm, .bool cl] := by simp [cellsAt, hg2]
  have hc3 : cellAt H' (H.n + 2) 2 = some (.bool cl) := by simp [cellAt, hg2]
  have hn0 : H.n < H'.n := by omega
  have hn1 : H.n + 1 < H'.n := by omega
  have HX := Lib.hid hx
  have HG0 := Lib.hid hg0
  have HG1 := Lib.hid hg1
  clear hx hg0
  by_cases hlt : k < s.alts.length
  · clear hg1
    obtain ⟨b, o, sp, rfl, hb, hx6, -⟩ := (HA.out.ext HX.out).at_ hlt
    have HD := Lib.hid (List.drop_eq_getElem_cons hlt)
    generalize s.alts[k] = a at hx6 HD
    obtain ⟨i, kd, dy, fr, to, wd⟩ := a
    simp only [Alt.cells] at hx6
    have hne : H.n + 2 ≠ H'.n := by omega
    repeat' (first|(with_reducible first|refine zA ?_|refine zB fun K hK=>?_|refine zC fun K2 hK2=>?_|refine zD ?_|refine zE ?_|refine zF ?_|refine zG ?_|refine zH ?_|refine zI ?_|refine zM ?_|refine zN ?_|refine zO ?_|refine zP ?_|refine zQ ?_|refine zR ?_)|((with_reducible refine zU (hK _ _ ?_));clear hK K)|((with_reducible refine zV ?_ ?_ fun K1 K3 d hdst h1 h3=>?_);rfl;exact yB rfl;cases hdst;go_simp)|((with_reducible refine zW fun K1 K3 h1 h3=>?_);go_simp)|((first|refine h1 ?_|refine h3 ?_);clear h1 h3 K1 K3)|((first|refine zX (fun hb=>h1 ?_) (fun hb=>h3 ?_)|refine zX (fun hb=>h3 ?_) (fun hb=>h1 ?_))<;>(clear h1 h3 K1 K3;(try have hb2:=yC hb);(try have hb2:=yD hb);(try have hb2:=yE hb);(try have hb2:=yF hb);(try have hb2:=yG hb)))|(refine fun (K2:_→AHeap→Prop) hK2=>?_)|((with_reducible refine zY ?_ ?_);decide)|((with_reducible first|refine zZ ?_ (fun K hK=>?_)|refine yA ?_ (fun K hK=>?_));(focus go_simp;done);go_simp;refine hK _ _ ?_;clear hK K)|(go_simp;(try go_bits);refine hK2 _ _ ?_;clear hK2 K2))
    all_goals
      refine Post.round_normal ⟨s.alts.length - (k + 1), by omega, k + 1, (if win fr to ln = true ∧ dy ≤ d then Has.after ⟨ct, cm, cl⟩ ⟨i, kd, dy, fr, to, wd⟩ else ⟨ct, cm, cl⟩), by omega, rfl, (by first|go_simp<;>go_num|assumption), (by first|go_simp<;>go_num|assumption), (by first|go_simp<;>go_num|assumption), (by first|go_simp<;>go_num|assumption), (by first|go_simp<;>go_num|assumption), (by first|go_simp<;>go_num|assumption), (by first|go_simp<;>go_num|assumption), Lib.hid ?_, ?_, ?_, ?_, ?_, ?_⟩
      · rw [← HG.out, HD.out, atDay]; split <;> rfl
      · simp only [AHeap.n_push, AHeap.n_upd]; omega
      · first | exact HX.out.push' _ | exact (HX.out.upd (by omega) _).push' _
      · first | (rw [AHeap.get_push_old (by omega)]; exact HG0.out) | (rw [AHeap.get_push_old (by rw [AHeap.n_upd]; omega), AHeap.get_upd_ne (by omega)]; exact HG0.out)
      · first | (rw [AHeap.get_push_old (by omega)]; exact HG1.out) | (rw [AHeap.get_push_old (by rw [AHeap.n_upd]; omega), AHeap.get_upd_ne (by omega)]; exact HG1.out)
      · clear HG HD HX HG0 HG1 hc0 hc1 hc2 hc3 hx6 HA hd f8 f3 f1 f2 f6 f7
        first
          | (rw [AHeap.get_push_old (by omega), if_neg (by rw [win_iff]; omega)]; exact hg2)
          | (rw [if_pos ⟨win_iff.2 ⟨by omega, by omega⟩, by omega⟩, AHeap.get_push_old (by omega)]; rw [hg2]; first | (simp [Has.after, *]; done) | (simp_all [Has.after]; done))
          | (rw [if_pos ⟨win_iff.2 ⟨by omega, by omega⟩, by omega⟩, AHeap.get_push_old (by rw [AHeap.n_upd]; omega), AHeap.get_upd_same]; clear hg2; simp [Has.after, *]; done)
  · repeat' (first|(with_reducible first|refine zA ?_|refine zB fun K hK=>?_|refine zC fun K2 hK2=>?_|refine zD ?_|refine zE ?_|refine zF ?_|refine zG ?_|refine zH ?_|refine zI ?_|refine zM ?_|refine zN ?_|refine zO ?_|refine zP ?_|refine zQ ?_|refine zR ?_)|((with_reducible refine zU (hK _ _ ?_));clear hK K)|((with_reducible refine zV ?_ ?_ fun K1 K3 d hdst h1 h3=>?_);rfl;exact yB rfl;cases hdst;go_simp)|((with_reducible refine zW fun K1 K3 h1 h3=>?_);go_simp)|((first|refine h1 ?_|refine h3 ?_);clear h1 h3 K1 K3)|((first|refine zX (fun hb=>h1 ?_) (fun hb=>h3 ?_)|refine zX (fun hb=>h3 ?_) (fun hb=>h1 ?_))<;>(clear h1 h3 K1 K3;(try have hb2:=yC hb);(try have hb2:=yD hb);(try have hb2:=yE hb);(try have hb2:=yF hb);(try have hb2:=yG hb)))|(refine fun (K2:_→AHeap→Prop) hK2=>?_)|((with_reducible refine zY ?_ ?_);decide)|((with_reducible first|refine zZ ?_ (fun K hK=>?_)|refine yA ?_ (fun K hK=>?_));(focus go_simp;done);go_simp;refine hK _ _ ?_;clear hK K)|(go_simp;(try go_bits);refine hK2 _ _ ?_;clear hK2 K2))
    refine ⟨?_, ?_⟩
    · rw [← HG.out, List.drop_eq_nil_of_le (by omega)]; rfl
    · exact HX.out.upd (by omega) _

theorem can_s {loops : List (Nat × LInfo)} {H : AHeap} {sv : Value} {s : Sheet} {line d w : Int} (hs : SheetV H sv s) (hl0 : 0 ≤ line) (hl1 : line < s.words.length) : CallS Tryz.prog loops 48 [sv, .int .i64 line, .int .i64 d, .int .i64 w] H fun r H' => r = .bool ((hasOn s line d).offers w) ∧ H' = H := by
  refine CallS.forget (R := fun v => v = .bool ((hasOn s line d).offers w)) (by rintro v rfl; rfl) ?_
  have HON := Lib.hid (fun (loops : List (Nat × LInfo)) (H2 : AHeap) (hx : Ext H H2) => on_e (loops := loops) (d := d) (hs.ext hx) hl0 hl1)
  obtain ⟨wv, av, rfl, hw, ha⟩ := hs
  obtain ⟨hwl, wa, wc, rfl⟩ := hw.slice
  obtain ⟨hal, aa, ac, rfl⟩ := ha.slice
  clear hw ha
  generalize hasOn s line d = c at HON
  obtain ⟨ct, cm, cl⟩ := c
  refine CallS.enter' Tryz.func48 rfl Tryz.ntmps48 (by simp) fun f hd hf => ?_
  have f0 := hf 0
  have f1 := hf 1
  have f2 := hf 2
  have f3 := hf 3
  simp at f0 f1 f2 f3
  clear hf
  repeat' (first|(with_reducible first|refine zA ?_|refine zB fun K hK=>?_|refine zC fun K2 hK2=>?_|refine zD ?_|refine zE ?_|refine zF ?_|refine zG ?_|refine zH ?_|refine zI ?_|refine zM ?_|refine zN ?_|refine zO ?_|refine zP ?_|refine zQ ?_|refine zR ?_)|((with_reducible refine zU (hK _ _ ?_));clear hK K)|((with_reducible refine zV ?_ ?_ fun K1 K3 d hdst h1 h3=>?_);rfl;exact yB rfl;cases hdst;go_simp)|((with_reducible refine zW fun K1 K3 h1 h3=>?_);go_simp)|((first|refine h1 ?_|refine h3 ?_);clear h1 h3 K1 K3)|((first|refine zX (fun hb=>h1 ?_) (fun hb=>h3 ?_)|refine zX (fun hb=>h3 ?_) (fun hb=>h1 ?_))<;>(clear h1 h3 K1 K3;(try have hb2:=yC hb);(try have hb2:=yD hb);(try have hb2:=yE hb);(try have hb2:=yF hb);(try have hb2:=yG hb)))|(refine fun (K2:_→AHeap→Prop) hK2=>?_)|((with_reducible refine zY ?_ ?_);decide)|((with_reducible first|refine zZ ?_ (fun K hK=>?_)|refine yA ?_ (fun K hK=>?_));(focus go_simp;done);go_simp;refine hK _ _ ?_;clear hK K)|(go_simp;(try go_bits);(try first | ((with_reducible show CallS _ _ _ _ _ _);refine CallS.mono (HON.out _ _ (Ext.push _)) ?_; rintro _ H2 ⟨rfl, hx⟩; (have HX := Lib.hid hx); clear hx; (try simp only [Has.val])));refine hK2 _ _ ?_;clear hK2 K2))
  all_goals
    refine ⟨?_, (((Ext.push _).trans HX.out)).push' _⟩
    simp_all [Has.offers]
end Go.Proofs.Tryz
