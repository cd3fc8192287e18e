/- Contracts of functions, walked. -/
import Derived.Test.YtgddlpegljkgpaaGreatStSF
import Derived.Test.YtgddlpegljkgpaaGreatAwB
set_option linter.all false
namespace Go.Proofs.Tryz
open Go Go.Am Go.RowKit Go.Co
set_option maxRecDepth 100000

theorem stop_sq {P : Program} {cx : Cx} {f : AF} {H : AHeap} {Q : Post} {n : Nat} {ops : Array Oper} {b : Bool} {z : Code} (h : Stop (CodeS P cx (.seq (.region n ops b) z) f H Q)) : CodeS P cx (.seq (.region n ops b) z) f H Q := h.out
theorem lowL_d {p k : Nat} {days : List Int} {d : Int} (h0 : 0 ≤ d) : lowL p days k ≤ d ↔ (1 ≤ k → days.getD (k - 1) 0 ≤ d) ∧ (p ≤ k → days.getD (k - p) 0 < d) := by
  unfold lowL
  split
  · split
    · constructor
      · intro h; exact ⟨fun _ => by omega, fun _ => by omega⟩
      · rintro ⟨h1, h2⟩; have := h1 ‹_›; have := h2 ‹_›; omega
    · constructor
      · intro h; exact ⟨fun h => by omega, fun _ => by omega⟩
      · rintro ⟨h1, h2⟩; have := h2 ‹_›; omega
  · split
    · constructor
      · intro h; exact ⟨fun _ => by omega, fun _ => by omega⟩
      · rintro ⟨h1, h2⟩; have := h1 ‹_›; omega
    · constructor
      · intro h; exact ⟨fun h => by omega, fun _ => by omega⟩
      · intro _; omega

end Go.Proofs.Tryz
namespace Go.Proofs.Tryz
open Go Go.Am Go.RowKit Go.Co

theorem clampI_le {v d : Int} (h0 : 0 ≤ d) (h1 : d ≤ 730) : clampI v ≤ d ↔ v ≤ d := by simp only [clampI]; omega
theorem clampI_ge {v d : Int} (h0 : 0 ≤ d) (h1 : d ≤ 730) : d ≤ clampI v ↔ d ≤ v := by simp only [clampI]; omega
theorem clampI_gt {v d : Int} (h0 : 0 ≤ d) (h1 : d ≤ 730) : d < clampI v ↔ d < v := by simp only [clampI]; omega
theorem Course.holds_any {x : Course} {p : Nat} {fl : List Int} (h : x.ord) (hc : ∀ i, i < fl.length → -1 ≤ fl.getD i 0 ∧ fl.getD i 0 ≤ 731) : holdGo x p fl fl.length 0 = true ↔ ∀ j, j < fl.length → ∀ d, x.op j d = true → (1 ≤ j → fl.getD (j - 1) 0 ≤ d) → (p ≤ j → fl.getD (j - p) 0 < d) → fl.getD j 0 ≤ d := by
  rw [holdGo_iff]
  constructor
  · intro H j hj d ho h1 h2
    have hin := x.op_in h j d ho
    have h3 := H j (Nat.zero_le _) (by omega)
    have h4 : lowL p fl j ≤ d := (lowL_d hin.1).2 ⟨h1, h2⟩
    rcases x.nx_ok h j (lowL p fl j) with ⟨h5, h6⟩ | ⟨h5, h6, h7, h8⟩
    · have := h6 d h4; rw [Course.op] at ho; rw [ho] at this; cases this
    · have := h8 d h4 ho; omega
  · intro H j _ hj
    rcases x.nx_ok h j (lowL p fl j) with ⟨h5, h6⟩ | ⟨h5, h6, h7, h8⟩
    · rw [h5]; exact (hc j (by omega)).2
    · have hin := x.op_in h j _ h7
      have h9 := (lowL_d hin.1).1 h6
      exact H j (by omega) _ h7 h9.1 h9.2
theorem clampL_in' {fl : List Int} : ∀ i, i < (clampL fl).length → -1 ≤ (clampL fl).getD i 0 ∧ (clampL fl).getD i 0 ≤ 731 := by
  intro i hi
  rw [clampL_length] at hi
  rw [clampL_get fl hi]
  simp only [clampI]; omega
theorem Course.holds_iff {x : Course} {p : Nat} {fl : List Int} (h : x.ord) : x.holds p fl = true ↔ ∀ j, j < fl.length → ∀ d, x.op j d = true → (1 ≤ j → fl.getD (j - 1) 0 ≤ d) → (p ≤ j → fl.getD (j - p) 0 < d) → fl.getD j 0 ≤ d := by
  have h0 := x.holds_any (p := p) (fl := clampL fl) h clampL_in'
  rw [clampL_length] at h0
  rw [Course.holds, h0]
  constructor
  · intro H j hj d ho h1 h2
    have hin := x.op_in h j d ho
    have h3 := H j hj d ho (fun hk => by rw [clampL_get fl (by omega), clampI_le hin.1 hin.2]; exact h1 hk) (fun hk => by rw [clampL_get fl (by omega)]; have := h2 hk; simp only [clampI]; omega)
    rw [clampL_get fl hj, clampI_le hin.1 hin.2] at h3
    exact h3
  · intro H j hj d ho h1 h2
    have hin := x.op_in h j d ho
    rw [clampL_get fl hj, clampI_le hin.1 hin.2]
    exact H j hj d ho (fun hk => by have := h1 hk; rwa [clampL_get fl (by omega), clampI_le hin.1 hin.2] at this) (fun hk => by have := h2 hk; rw [clampL_get fl (by omega)] at this; simp only [clampI] at this; omega)
theorem Course.ceils_iff {x : Course} {p : Nat} {ce : List Int} (h : x.ord) (hl : ce.length = x.open_.length) : x.ceils p ce = true ↔ ∀ i, i < ce.length → ∀ d, x.op i d = true → (i + 1 < ce.length → d ≤ ce.getD (i + 1) 0) → (i + p < ce.length → d < ce.getD (i + p) 0) → d ≤ ce.getD i 0 := by
  have hcl : (flipD (clampL ce)).length = ce.length := by rw [flipD_len, clampL_length]
  have hg : ∀ j, j < ce.length → (flipD (clampL ce)).getD j 0 = 730 - clampI (ce.getD (ce.length - 1 - j) 0) := fun j hj => by
    rw [flipD_get (by rw [clampL_length]; exact hj), clampL_length, clampL_get ce (by omega)]
  rw [Course.ceils, Course.holds_iff (Course.mir_ord h), hcl]
  constructor
  · intro H i hi d ho h1 h2
    have hin := x.op_in h i d ho
    have ho' : x.mir.op (ce.length - 1 - i) (730 - d) = true := by
      rw [x.mir_op (by omega), ← hl, show ce.length - 1 - (ce.length - 1 - i) = i by omega, show (730 : Int) - (730 - d) = d by omega]; exact ho
    have h3 := H (ce.length - 1 - i) (by omega) (730 - d) ho' (fun hk => by
      rw [hg _ (by omega), show ce.length - 1 - (ce.length - 1 - i - 1) = i + 1 by omega]
      have := (clampI_ge (v := ce.getD (i + 1) 0) hin.1 hin.2).2 (h1 (by omega)); omega) (fun hk => by
      rw [hg _ (by omega), show ce.length - 1 - (ce.length - 1 - i - p) = i + p by omega]
      have := (clampI_gt (v := ce.getD (i + p) 0) hin.1 hin.2).2 (h2 (by omega)); omega)
    rw [hg _ (by omega), show ce.length - 1 - (ce.length - 1 - i) = i by omega] at h3
    exact (clampI_ge hin.1 hin.2).1 (by omega)
  · intro H j hj d ho h1 h2
    have hin := x.mir.op_in (Course.mir_ord h) j d ho
    rw [x.mir_op (by omega), ← hl] at ho
    have h3 := H (ce.length - 1 - j) (by omega) (730 - d) ho (fun hk => by
      have h4 := h1 (by omega)
      rw [hg _ (by omega), show ce.length - 1 - (j - 1) = ce.length - 1 - j + 1 by omega] at h4
      exact (clampI_ge (by omega) (by omega)).1 (by omega)) (fun hk => by
      have h4 := h2 (by omega)
      rw [hg _ (by omega), show ce.length - 1 - (j - p) = ce.length - 1 - j + p by omega] at h4
      exact (clampI_gt (by omega) (by omega)).1 (by omega))
    rw [hg _ hj]
    have := (clampI_ge (v := ce.getD (ce.length - 1 - j) 0) (d := 730 - d) (by omega) (by omega)).2 h3
    omega
def BadF (s : Sheet) (c : Copy) (fl : List Int) (p k : Nat) (d : Int) : Prop := (c.beg ≤ d ∧ d ≤ c.fin) ∧ (hasOn s k d).offers (c.words.getD k 0) = true ∧ (1 ≤ k → fl.getD (k - 1) 0 ≤ d) ∧ (p ≤ k → fl.getD (k - p) 0 < d) ∧ d < fl.getD k 0
theorem floors_bad {s : Sheet} {c : Copy} {fl : List Int} (h : errCopy s c = 0) (hl : fl.length ≤ c.words.length) : (courseOf s c).holds c.per.toNat fl = true ↔ ∀ k, k < fl.length → ∀ d, ¬ BadF s c fl c.per.toNat k d := by
  have k0 := known h
  rw [Course.holds_iff k0.ord]
  constructor
  · rintro H k hk d ⟨h1, h2, h3, h4, h5⟩
    have := H k hk d (by rw [Course.op, courseOf_ins h (by omega)]; rw [h2]; simp [h1]) h3 h4
    omega
  · intro H j hj d ho h1 h2
    rw [Course.op, courseOf_ins h (by omega)] at ho
    simp only [Bool.and_eq_true, decide_eq_true_eq] at ho
    rcases Int.lt_or_le d (fl.getD j 0) with h9 | h9
    · exact absurd ⟨ho.1, ho.2, h1, h2, h9⟩ (H j hj d)
    · exact h9
def BadC (s : Sheet) (c : Copy) (ce : List Int) (p k : Nat) (d : Int) : Prop := (c.beg ≤ d ∧ d ≤ c.fin) ∧ (hasOn s k d).offers (c.words.getD k 0) = true ∧ (k + 1 < ce.length → d ≤ ce.getD (k + 1) 0) ∧ (k + p < ce.length → d < ce.getD (k + p) 0) ∧ ce.getD k 0 < d
theorem ceils_bad {s : Sheet} {c : Copy} {ce : List Int} (h : errCopy s c = 0) (hl : ce.length = c.words.length) : (courseOf s c).ceils c.per.toNat ce = true ↔ ∀ k, k < ce.length → ∀ d, ¬ BadC s c ce c.per.toNat k d := by
  have k0 := known h
  rw [Course.ceils_iff k0.ord (by rw [courseOf_len]; exact hl)]
  constructor
  · rintro H k hk d ⟨h1, h2, h3, h4, h5⟩
    have := H k hk d (by rw [Course.op, courseOf_ins h (by omega)]; rw [h2]; simp [h1]) h3 h4
    omega
  · intro H j hj d ho h1 h2
    rw [Course.op, courseOf_ins h (by omega)] at ho
    simp only [Bool.and_eq_true, decide_eq_true_eq] at ho
    rcases Int.lt_or_le (ce.getD j 0) d with h9 | h9
    · exact absurd ⟨ho.1, ho.2, h1, h2, h9⟩ (H j hj d)
    · exact h9
end Go.Proofs.Tryz
namespace Go.Proofs.Tryz
open Go Go.Am Go.RowKit Go.Co
set_option maxRecDepth 100000

set_option maxHeartbeats 16000000 in
theorem refFloors_s {loops : List (Nat × LInfo)} {H : AHeap} {sv cv dv : Value} {s : Sheet} {c : Copy} {fl : List Int} (hs : SheetV H sv s) (hc : CopyV H cv c) (hdv : Ints H dv fl) : CallS Tryz.prog loops 55 [sv, cv, dv] H fun r H' => r = .int .i64 (errFloors s c fl) ∧ H' = H := by
  refine CallS.forget (R := fun v => v = .int .i64 (errFloors s c fl)) (by rintro v rfl; rfl) ?_
  have HV := Lib.hid hs
  have HC := Lib.hid hc
  have HD := Lib.hid hdv
  obtain ⟨wv, av, rfl, hw, ha⟩ := hs
  obtain ⟨hwl, wa, wc, rfl⟩ := hw.slice
  obtain ⟨hal, aa, ac, rfl⟩ := ha.slice
  obtain ⟨cv, rfl, hcw⟩ := hc
  have HCW := Lib.hid hcw
  obtain ⟨hcl, ca, cc, rfl⟩ := hcw.slice
  obtain ⟨hdl, da, dc, rfl⟩ := hdv.slice
  clear hw ha hcw hdv
  generalize hr : errFloors s c fl = r
  have HR : Hid (r = errFloors s c fl) := Lib.hid hr.symm
  clear hr
  refine CallS.enter' Tryz.func55 rfl Tryz.ntmps55 (by simp) fun f hd hf => ?_
  have f0 := hf 0
  have f1 := hf 1
  have f2 := hf 2
  simp at f0 f1 f2
  clear hf
  have HX1 : Hid (Ext H ((H.push (.row [Value.slice wa s.words.length wc, Value.slice aa s.alts.length ac] 25)).push (.row [Value.slice ca c.words.length cc, .int .i64 c.beg, .int .i64 c.fin, .int .i64 c.per] 27))) := Lib.hid (((Ext.refl _).push' _).push' _)
  have HCH := Lib.hid (fun (loops : List (Nat × LInfo)) => refCheckCopy_s (loops := loops) (s := s) (c := c) (HV.out.ext HX1.out) (HC.out.ext HX1.out))
  by_cases he : errCopy s c = 0
  · obtain ⟨h0, h1, h2, h3, h4, h5, h6, h7⟩ := errCopy_ok he
    rw [he] at HCH
    by_cases hl : win 1 s.words.length fl.length = true
    · have hl2 := win_iff.1 hl
      have h8 : errFloors s c fl = if (courseOf s c).holds c.per.toNat fl then 0 else 8 := by rw [errFloors, if_neg (by simp [he]), if_pos (by rw [h1]; exact hl)]
      obtain ⟨p, hp⟩ : ∃ p : Nat, c.per = p := ⟨c.per.toNat, by omega⟩
      have hp1 : 1 ≤ p := by omega
      have hbad := floors_bad (fl := fl) he (by omega)
      rw [show c.per.toNat = p by omega] at hbad h8
      have HBAD : Hid ((∀ k, k < fl.length → ∀ d, ¬ BadF s c fl p k d) → r = 0) := Lib.hid (fun h => by rw [HR.out, h8, if_pos (hbad.2 h)])
      have HB8 : Hid (∀ k d, k < fl.length → BadF s c fl p k d → r = 8) := Lib.hid (fun k d hk h => by
        rw [HR.out, h8, if_neg (fun h9 => hbad.1 h9 k hk d h)])
      have hw40 := (win_iff.1 (err_ok h0).2.1).2
      have HLW := Lib.hid (show fl.length ≤ s.words.length by omega)
      have HLC := Lib.hid h1
      have HBG := Lib.hid h3
      have HFN := Lib.hid h5
      have HBF := Lib.hid h4
      rw [hp] at HX1 HCH HC f1
      have hp40 : p ≤ 40 := by omega
      have hlb : win 1 (s.words.length : Int) (fl.length : Int) = true := hl
      clear HR h8 he h2 h3 h4 h5 h6 h7 hl hl2 h0 h1 hp hbad
      repeat' (first|(with_reducible first|refine zA ?_|refine zB fun K hK=>?_|refine zC fun K2 hK2=>?_|refine zD ?_|refine zE ?_|refine zF ?_|refine zG ?_|refine zH ?_|refine zI ?_|refine zM ?_|refine zN ?_|refine zO ?_|refine zP ?_|refine zQ ?_|refine zR ?_)|((with_reducible refine zU (hK _ _ ?_));clear hK K)|((with_reducible refine zV ?_ ?_ fun K1 K3 d hdst h1 h3=>?_);rfl;exact yB rfl;cases hdst;go_simp)|((with_reducible refine zW fun K1 K3 h1 h3=>?_);go_simp)|((first|refine h1 ?_|refine h3 ?_);clear h1 h3 K1 K3)|((first|refine zX (fun hb=>h1 ?_) (fun hb=>h3 ?_)|refine zX (fun hb=>h3 ?_) (fun hb=>h1 ?_))<;>(clear h1 h3 K1 K3;(try have hb2:=yC hb);(try have hb2:=yD hb);(try have hb2:=yE hb);(try have hb2:=yF hb);(try have hb2:=yG hb)))|(refine fun (K2:_→AHeap→Prop) hK2=>?_)|((with_reducible refine zY ?_ ?_);decide)|((with_reducible first|refine zZ ?_ (fun K hK=>?_)|refine yA ?_ (fun K hK=>?_));(focus go_simp;done);go_simp;refine hK _ _ ?_;clear hK K)|(go_simp;(try go_bits);(try first |((with_reducible show CallS _ _ _ _ _ _);first|(refine CallS.mono (HCH.out _) ?_; rintro _ _ ⟨rfl, h9⟩; rw [h9]; clear h9)|(refine CallS.mono (in_s (n := (fl.length : Int)) (lo := 1) (hi := (s.words.length : Int))) ?_; rintro _ _ ⟨rfl, h9⟩; rw [h9]; clear h9; go_simp)));refine hK2 _ _ ?_;clear hK2 K2))
      refine CodeS.loop (fun m f H' => ∃ k : Nat, k ≤ fl.length ∧ m = fl.length - k ∧ f.tmp 8 = .int .i64 k ∧ f.tmp 2 = .slice da fl.length dc ∧ f.tmp 3 = .pointer (some ⟨H.n, 0, none⟩) ∧ f.tmp 4 = .pointer (some ⟨H.n + 1, 0, none⟩) ∧ f.defers = [] ∧ Hid (∀ j, j < k → ∀ d, ¬ BadF s c fl p j d) ∧ H' = (H.push (.row [Value.slice wa s.words.length wc, Value.slice aa s.alts.length ac] 25)).push (.row [Value.slice ca c.words.length cc, .int .i64 c.beg, .int .i64 c.fin, .int .i64 p] 27)) fl.length ?_ ?_
      · exact ⟨0, by simp, by simp, (by first|go_simp<;>go_num|assumption), (by first|go_simp<;>go_num|assumption), (by first|go_simp<;>go_num|assumption), (by first|go_simp<;>go_num|assumption), (by first|go_simp<;>go_num|assumption), Lib.hid (by intro j hj; omega), rfl⟩
      clear f0 f1 f2 hd f hlb
      rintro m f H' ⟨k, hk, rfl, f8, f2, f3, f4, hd, HF, rfl⟩
      by_cases hlt : k < fl.length
      · obtain ⟨b, o, sp, rfl, hb, hx⟩ := HD.out.at_ hlt
        have hcl2 : k < c.words.length := by have := HLW.out; have := HLC.out; omega
        obtain ⟨b2, o2, sp2, rfl, hb2, hx2⟩ := HCW.out.at_ hcl2
        have hgw : c.words.getD k 0 = c.words[k] := by simp [List.getD_eq_getElem?_getD, hcl2]
        have hgy : fl.getD k 0 = fl[k] := by simp [List.getD_eq_getElem?_getD, hlt]
        generalize c.words[k] = w at hx2 hgw
        generalize fl[k] = y0 at hx hgy
        have HGW := Lib.hid hgw
        have HGY := Lib.hid hgy
        clear hgw hgy
        have hlki : (k : Int) < (c.words.length : Int) := by omega
        have hki : (k : Int) < (fl.length : Int) := by omega
        have hbn : b < H.n + 1 + 1 := by omega
        have hbn2 : b2 < H.n + 1 + 1 := by omega
        have hk40 : k ≤ 40 := by have := HLW.out; omega
        repeat' (first|(with_reducible first|refine zA ?_|refine zB fun K hK=>?_|refine zC fun K2 hK2=>?_|refine zD ?_|refine zE ?_|refine zF ?_|refine zG ?_|refine zH ?_|refine zI ?_|refine zM ?_|refine zN ?_|refine zO ?_|refine zP ?_|refine zQ ?_|refine zR ?_)|((with_reducible refine zU (hK _ _ ?_));clear hK K)|((with_reducible refine zV ?_ ?_ fun K1 K3 d hdst h1 h3=>?_);rfl;exact yB rfl;cases hdst;go_simp)|((with_reducible refine zW fun K1 K3 h1 h3=>?_);go_simp)|((first|refine h1 ?_|refine h3 ?_);clear h1 h3 K1 K3)|((first|refine zX (fun hb=>h1 ?_) (fun hb=>h3 ?_)|refine zX (fun hb=>h3 ?_) (fun hb=>h1 ?_))<;>(clear h1 h3 K1 K3;(try have hb2:=yC hb);(try have hb2:=yD hb);(try have hb2:=yE hb);(try have hb2:=yF hb);(try have hb2:=yG hb)))|(refine fun (K2:_→AHeap→Prop) hK2=>?_)|((with_reducible refine zY ?_ ?_);decide)|((with_reducible first|refine zZ ?_ (fun K hK=>?_)|refine yA ?_ (fun K hK=>?_));(focus go_simp;done);go_simp;refine hK _ _ ?_;clear hK K)|(go_simp;(try go_bits);refine hK2 _ _ ?_;clear hK2 K2))
        refine CodeS.loop (fun m f H' => ∃ d : Int, c.beg ≤ d ∧ d ≤ c.fin + 1 ∧ m = (c.fin + 1 - d).toNat ∧ f.tmp 9 = .int .i64 d ∧ f.tmp 8 = .int .i64 k ∧ f.tmp 2 = .slice (some ⟨b, o, sp⟩) fl.length dc ∧ f.tmp 3 = .pointer (some ⟨H.n, 0, none⟩) ∧ f.tmp 4 = .pointer (some ⟨H.n + 1, 0, none⟩) ∧ f.defers = [] ∧ Hid (∀ e, e < d → ¬ BadF s c fl p k e) ∧ H' = (H.push (.row [Value.slice wa s.words.length wc, Value.slice aa s.alts.length ac] 25)).push (.row [Value.slice (some ⟨b2, o2, sp2⟩) c.words.length cc, .int .i64 c.beg, .int .i64 c.fin, .int .i64 p] 27)) (c.fin + 1 - c.beg).toNat ?_ ?_
        · refine ⟨c.beg, Int.le_refl _, by have := HBF.out; omega, rfl, (by first|go_simp<;>go_num|assumption), (by first|go_simp<;>go_num|assumption), (by first|go_simp<;>go_num|assumption), (by first|go_simp<;>go_num|assumption), (by first|go_simp<;>go_num|assumption), (by first|go_simp<;>go_num|assumption), Lib.hid (fun e h1 h2 => ?_), rfl⟩
          have := h2.1.1; omega
        clear f8 f2 f3 f4 hd f
        rintro m f H' ⟨d, hda, hdb, rfl, f9, f8, f2, f3, f4, hd, HE, rfl⟩
        have hd0 : 0 ≤ d := by have := HBG.out; omega
        have hd1 : d ≤ 731 := by have := HFN.out; omega
        by_cases hle : d ≤ c.fin
        · have hd2 : d ≤ 730 := by have := HFN.out; omega
          have HCAN := Lib.hid (fun (loops : List (Nat × LInfo)) => can_s (loops := loops) (line := (k : Int)) (d := d) (w := w) (HV.out.ext HX1.out) (by omega) (by have := HLW.out; omega))
          have HBD : Hid (BadF s c fl p k d ↔ (hasOn s k d).offers w = true ∧ (1 ≤ k → fl.getD (k - 1) 0 ≤ d) ∧ (p ≤ k → fl.getD (k - p) 0 < d) ∧ d < y0) := Lib.hid (by
            unfold BadF
            rw [HGW.out, HGY.out]
            exact ⟨fun h => h.2, fun h => ⟨⟨hda, hle⟩, h⟩⟩)
          generalize (hasOn s k d).offers w = of at HCAN HBD
          repeat' (first|((with_reducible refine stop_sq (n := 12) ?_))|(with_reducible first|refine zA ?_|refine zB fun K hK=>?_|refine zC fun K2 hK2=>?_|refine zD ?_|refine zE ?_|refine zF ?_|refine zG ?_|refine zH ?_|refine zI ?_|refine zM ?_|refine zN ?_|refine zO ?_|refine zP ?_|refine zQ ?_|refine zR ?_)|((with_reducible refine zU (hK _ _ ?_));clear hK K)|((with_reducible refine zV ?_ ?_ fun K1 K3 d hdst h1 h3=>?_);rfl;exact yB rfl;cases hdst;go_simp)|((with_reducible refine zW fun K1 K3 h1 h3=>?_);go_simp)|((first|refine h1 ?_|refine h3 ?_);clear h1 h3 K1 K3)|((first|refine zX (fun hb=>h1 ?_) (fun hb=>h3 ?_)|refine zX (fun hb=>h3 ?_) (fun hb=>h1 ?_))<;>(clear h1 h3 K1 K3;(try have hb2:=yC hb);(try have hb2:=yD hb);(try have hb2:=yE hb);(try have hb2:=yF hb);(try have hb2:=yG hb)))|(refine fun (K2:_→AHeap→Prop) hK2=>?_)|((with_reducible refine zY ?_ ?_);decide)|((with_reducible first|refine zZ ?_ (fun K hK=>?_)|refine yA ?_ (fun K hK=>?_));(focus go_simp;done);go_simp;refine hK _ _ ?_;clear hK K)|(go_simp;(try go_bits);refine hK2 _ _ ?_;clear hK2 K2))
          refine ⟨CodeS.cut (fun f H' => ∃ ok : Bool, Hid (ok = true ↔ of = true ∧ (1 ≤ k → fl.getD (k - 1) 0 ≤ d) ∧ (p ≤ k → fl.getD (k - p) 0 < d)) ∧ f.tmp 10 = .bool ok ∧ f.tmp 9 = .int .i64 d ∧ f.tmp 8 = .int .i64 k ∧ f.tmp 2 = .slice (some ⟨b, o, sp⟩) fl.length dc ∧ f.tmp 3 = .pointer (some ⟨H.n, 0, none⟩) ∧ f.tmp 4 = .pointer (some ⟨H.n + 1, 0, none⟩) ∧ f.defers = [] ∧ H' = (H.push (.row [Value.slice wa s.words.length wc, Value.slice aa s.alts.length ac] 25)).push (.row [Value.slice (some ⟨b2, o2, sp2⟩) c.words.length cc, .int .i64 c.beg, .int .i64 c.fin, .int .i64 p] 27)) ?_ ?_⟩
          · cases of
            · repeat' (first|(with_reducible first|refine zA ?_|refine zB fun K hK=>?_|refine zC fun K2 hK2=>?_|refine zD ?_|refine zE ?_|refine zF ?_|refine zG ?_|refine zH ?_|refine zI ?_|refine zM ?_|refine zN ?_|refine zO ?_|refine zP ?_|refine zQ ?_|refine zR ?_)|((with_reducible refine zU (hK _ _ ?_));clear hK K)|((with_reducible refine zV ?_ ?_ fun K1 K3 d hdst h1 h3=>?_);rfl;exact yB rfl;cases hdst;go_simp)|((with_reducible refine zW fun K1 K3 h1 h3=>?_);go_simp)|((first|refine h1 ?_|refine h3 ?_);clear h1 h3 K1 K3)|((first|refine zX (fun hb=>h1 ?_) (fun hb=>h3 ?_)|refine zX (fun hb=>h3 ?_) (fun hb=>h1 ?_))<;>(clear h1 h3 K1 K3;(try have hb2:=yC hb);(try have hb2:=yD hb);(try have hb2:=yE hb);(try have hb2:=yF hb);(try have hb2:=yG hb)))|(refine fun (K2:_→AHeap→Prop) hK2=>?_)|((with_reducible refine zY ?_ ?_);decide)|((with_reducible first|refine zZ ?_ (fun K hK=>?_)|refine yA ?_ (fun K hK=>?_));(focus go_simp;done);go_simp;refine hK _ _ ?_;clear hK K)|((with_reducible refine yH mixed rfl ?_ 20 fun K0 hK0=>?_);kernel_rfl)|(with_reducible first|exact yI|exact yJ|refine yK ?_|refine yL ?_|refine yM ?_)|((with_reducible first|refine yN ?_ ?_|refine yO ?_ ?_|refine yP ?_ ?_);rfl)|((with_reducible refine yQ ?_ ?_);rfl;refine hK0 _ _ ?_;clear hK0 K0)|((with_reducible refine yR ?_ ?_ ?_ ?_);rfl;rfl;rfl)|((with_reducible refine yS ?_ ?_ ?_ fun K2 hK2=>?_);rfl;rfl;exact yB rfl)|((with_reducible refine yT ?_ ?_ ?_ ?_ fun K1 K3 d hdst h1 h3=>?_);rfl;rfl;rfl;exact yB rfl;cases hdst;go_simp)|((with_reducible refine yU ?_ ?_ ?_ ?_ fun K1 K3 d hdst h1 h3=>?_);rfl;rfl;rfl;exact yB rfl;cases hdst;go_simp)|((with_reducible refine yV ?_ ?_ (fun K2 hK2=>?_) ?_);rfl;exact yB rfl)|((with_reducible refine yW ?_ ?_ ?_ ?_ (fun K2 hK2=>?_) ?_);rfl;exact yB rfl;rfl;(focus go_simp;done))|((with_reducible refine yX ?_ ?_ ?_ (fun K2 hK2=>?_) ?_);rfl;rfl;exact yB rfl)|((with_reducible refine yY ?_ ?_ (fun K2 hK2=>?_) ?_);rfl;rfl)|((with_reducible refine yZ ?_ ?_);(first|rfl|(dsimp only;decide +kernel)))|((with_reducible refine xA ?_ ?_);(focus go_simp;done))|(go_simp;(try go_bits);(try first | ((with_reducible show CallS _ _ _ _ _ _);refine CallS.mono (HCAN.out _) ?_; rintro _ _ ⟨rfl, h9⟩; rw [h9]; clear h9; go_simp));(first|(refine hK2 _ _ ?_ ?_<;>clear hK2 K2)|(refine hK2 _ _ ?_;clear hK2 K2))))
              exact ⟨false, Lib.hid (by simp), (by first|go_simp<;>go_num|assumption), (by first|go_simp<;>go_num|assumption), (by first|go_simp<;>go_num|assumption), (by first|go_simp<;>go_num|assumption), (by first|go_simp<;>go_num|assumption), (by first|go_simp<;>go_num|assumption), (by first|go_simp<;>go_num|assumption), rfl⟩
            by_cases hk0 : k = 0
            · have hkb : ((k : Int) == 0) = true := by simp [hk0]
              have hkp : (k : Int) < (p : Int) := by omega
              have hok : Hid ((true = true) ↔ true = true ∧ (1 ≤ k → fl.getD (k - 1) 0 ≤ d) ∧ (p ≤ k → fl.getD (k - p) 0 < d)) := Lib.hid ⟨fun _ => ⟨rfl, fun h => by omega, fun h => by omega⟩, fun _ => rfl⟩
              clear hk0
              repeat' (first|(with_reducible first|refine zA ?_|refine zB fun K hK=>?_|refine zC fun K2 hK2=>?_|refine zD ?_|refine zE ?_|refine zF ?_|refine zG ?_|refine zH ?_|refine zI ?_|refine zM ?_|refine zN ?_|refine zO ?_|refine zP ?_|refine zQ ?_|refine zR ?_)|((with_reducible refine zU (hK _ _ ?_));clear hK K)|((with_reducible refine zV ?_ ?_ fun K1 K3 d hdst h1 h3=>?_);rfl;exact yB rfl;cases hdst;go_simp)|((with_reducible refine zW fun K1 K3 h1 h3=>?_);go_simp)|((first|refine h1 ?_|refine h3 ?_);clear h1 h3 K1 K3)|((first|refine zX (fun hb=>h1 ?_) (fun hb=>h3 ?_)|refine zX (fun hb=>h3 ?_) (fun hb=>h1 ?_))<;>(clear h1 h3 K1 K3;(try have hb2:=yC hb);(try have hb2:=yD hb);(try have hb2:=yE hb);(try have hb2:=yF hb);(try have hb2:=yG hb)))|(refine fun (K2:_→AHeap→Prop) hK2=>?_)|((with_reducible refine zY ?_ ?_);decide)|((with_reducible first|refine zZ ?_ (fun K hK=>?_)|refine yA ?_ (fun K hK=>?_));(focus go_simp;done);go_simp;refine hK _ _ ?_;clear hK K)|((with_reducible refine yH mixed rfl ?_ 20 fun K0 hK0=>?_);kernel_rfl)|(with_reducible first|exact yI|exact yJ|refine yK ?_|refine yL ?_|refine yM ?_)|((with_reducible first|refine yN ?_ ?_|refine yO ?_ ?_|refine yP ?_ ?_);rfl)|((with_reducible refine yQ ?_ ?_);rfl;refine hK0 _ _ ?_;clear hK0 K0)|((with_reducible refine yR ?_ ?_ ?_ ?_);rfl;rfl;rfl)|((with_reducible refine yS ?_ ?_ ?_ fun K2 hK2=>?_);rfl;rfl;exact yB rfl)|((with_reducible refine yT ?_ ?_ ?_ ?_ fun K1 K3 d hdst h1 h3=>?_);rfl;rfl;rfl;exact yB rfl;cases hdst;go_simp)|((with_reducible refine yU ?_ ?_ ?_ ?_ fun K1 K3 d hdst h1 h3=>?_);rfl;rfl;rfl;exact yB rfl;cases hdst;go_simp)|((with_reducible refine yV ?_ ?_ (fun K2 hK2=>?_) ?_);rfl;exact yB rfl)|((with_reducible refine yW ?_ ?_ ?_ ?_ (fun K2 hK2=>?_) ?_);rfl;exact yB rfl;rfl;(focus go_simp;done))|((with_reducible refine yX ?_ ?_ ?_ (fun K2 hK2=>?_) ?_);rfl;rfl;exact yB rfl)|((with_reducible refine yY ?_ ?_ (fun K2 hK2=>?_) ?_);rfl;rfl)|((with_reducible refine yZ ?_ ?_);(first|rfl|(dsimp only;decide +kernel)))|((with_reducible refine xA ?_ ?_);(focus go_simp;done))|(go_simp;(try go_bits);(try first | ((with_reducible show CallS _ _ _ _ _ _);refine CallS.mono (HCAN.out _) ?_; rintro _ _ ⟨rfl, h9⟩; rw [h9]; clear h9; go_simp));(first|(refine hK2 _ _ ?_ ?_<;>clear hK2 K2)|(refine hK2 _ _ ?_;clear hK2 K2))))
              exact ⟨true, hok, (by first|go_simp<;>go_num|assumption), (by first|go_simp<;>go_num|assumption), (by first|go_simp<;>go_num|assumption), (by first|go_simp<;>go_num|assumption), (by first|go_simp<;>go_num|assumption), (by first|go_simp<;>go_num|assumption), (by first|go_simp<;>go_num|assumption), rfl⟩
            have hg1 : fl.getD (k - 1) 0 = fl[k - 1]'(by omega) := by simp [List.getD_eq_getElem?_getD, show k - 1 < fl.length by omega]
            obtain ⟨_, _, _, h9, -, hx3⟩ := HD.out.at_ (show k - 1 < fl.length by omega)
            cases h9
            generalize fl[k - 1]'(by omega) = y1 at hg1 hx3
            have hkb : ((k : Int) == 0) = false := by simpa using hk0
            have h0i : (0 : Int) ≤ (k : Int) - 1 := by omega
            have h1i : (k : Int) - 1 < (fl.length : Int) := by omega
            have h2i : (1 : Int) ≤ (k : Int) := by omega
            have h3i : 1 ≤ k := by omega
            have h4i : ((k : Int) - 1).toNat = k - 1 := by omega
            by_cases hpk : p ≤ k
            · have hg2 : fl.getD (k - p) 0 = fl[k - p]'(by omega) := by simp [List.getD_eq_getElem?_getD, show k - p < fl.length by omega]
              obtain ⟨_, _, _, h9, -, hx4⟩ := HD.out.at_ (show k - p < fl.length by omega)
              cases h9
              generalize fl[k - p]'(by omega) = y2 at hg2 hx4
              have hok : Hid (∀ ok : Bool, ok = (decide (y1 ≤ d) && decide (y2 < d)) → (ok = true ↔ true = true ∧ (1 ≤ k → fl.getD (k - 1) 0 ≤ d) ∧ (p ≤ k → fl.getD (k - p) 0 < d))) := Lib.hid (fun ok h => by rw [h, hg1, hg2]; simp [h3i, hpk])
              have h5i : (0 : Int) ≤ (k : Int) - p := by omega
              have h6i : (k : Int) - p < (fl.length : Int) := by omega
              have h7i : (p : Int) ≤ (k : Int) := by omega
              have h8i : ((k : Int) - p).toNat = k - p := by omega
              have h9i : (k : Int) < (fl.length : Int) + p := by omega
              have h10i : ¬ (k : Int) < (p : Int) := by omega
              clear hg1 hg2 hk0
              repeat' (first|(with_reducible first|refine zA ?_|refine zB fun K hK=>?_|refine zC fun K2 hK2=>?_|refine zD ?_|refine zE ?_|refine zF ?_|refine zG ?_|refine zH ?_|refine zI ?_|refine zM ?_|refine zN ?_|refine zO ?_|refine zP ?_|refine zQ ?_|refine zR ?_)|((with_reducible refine zU (hK _ _ ?_));clear hK K)|((with_reducible refine zV ?_ ?_ fun K1 K3 d hdst h1 h3=>?_);rfl;exact yB rfl;cases hdst;go_simp)|((with_reducible refine zW fun K1 K3 h1 h3=>?_);go_simp)|((first|refine h1 ?_|refine h3 ?_);clear h1 h3 K1 K3)|((first|refine zX (fun hb=>h1 ?_) (fun hb=>h3 ?_)|refine zX (fun hb=>h3 ?_) (fun hb=>h1 ?_))<;>(clear h1 h3 K1 K3;(try have hb2:=yC hb);(try have hb2:=yD hb);(try have hb2:=yE hb);(try have hb2:=yF hb);(try have hb2:=yG hb)))|(refine fun (K2:_→AHeap→Prop) hK2=>?_)|((with_reducible refine zY ?_ ?_);decide)|((with_reducible first|refine zZ ?_ (fun K hK=>?_)|refine yA ?_ (fun K hK=>?_));(focus go_simp;done);go_simp;refine hK _ _ ?_;clear hK K)|((with_reducible refine yH mixed rfl ?_ 20 fun K0 hK0=>?_);kernel_rfl)|(with_reducible first|exact yI|exact yJ|refine yK ?_|refine yL ?_|refine yM ?_)|((with_reducible first|refine yN ?_ ?_|refine yO ?_ ?_|refine yP ?_ ?_);rfl)|((with_reducible refine yQ ?_ ?_);rfl;refine hK0 _ _ ?_;clear hK0 K0)|((with_reducible refine yR ?_ ?_ ?_ ?_);rfl;rfl;rfl)|((with_reducible refine yS ?_ ?_ ?_ fun K2 hK2=>?_);rfl;rfl;exact yB rfl)|((with_reducible refine yT ?_ ?_ ?_ ?_ fun K1 K3 d hdst h1 h3=>?_);rfl;rfl;rfl;exact yB rfl;cases hdst;go_simp)|((with_reducible refine yU ?_ ?_ ?_ ?_ fun K1 K3 d hdst h1 h3=>?_);rfl;rfl;rfl;exact yB rfl;cases hdst;go_simp)|((with_reducible refine yV ?_ ?_ (fun K2 hK2=>?_) ?_);rfl;exact yB rfl)|((with_reducible refine yW ?_ ?_ ?_ ?_ (fun K2 hK2=>?_) ?_);rfl;exact yB rfl;rfl;(focus go_simp;done))|((with_reducible refine yX ?_ ?_ ?_ (fun K2 hK2=>?_) ?_);rfl;rfl;exact yB rfl)|((with_reducible refine yY ?_ ?_ (fun K2 hK2=>?_) ?_);rfl;rfl)|((with_reducible refine yZ ?_ ?_);(first|rfl|(dsimp only;decide +kernel)))|((with_reducible refine xA ?_ ?_);(focus go_simp;done))|(go_simp;(try go_bits);(try first | ((with_reducible show CallS _ _ _ _ _ _);refine CallS.mono (HCAN.out _) ?_; rintro _ _ ⟨rfl, h9⟩; rw [h9]; clear h9; go_simp));(first|(refine hK2 _ _ ?_ ?_<;>clear hK2 K2)|(refine hK2 _ _ ?_;clear hK2 K2))))
              all_goals first
                | exact ⟨decide (y2 < d), Lib.hid (hok.out _ (by simp; omega)), (by first|go_simp<;>go_num|assumption), (by first|go_simp<;>go_num|assumption), (by first|go_simp<;>go_num|assumption), (by first|go_simp<;>go_num|assumption), (by first|go_simp<;>go_num|assumption), (by first|go_simp<;>go_num|assumption), (by first|go_simp<;>go_num|assumption), rfl⟩
                | exact ⟨false, Lib.hid (hok.out _ (by simp; omega)), (by first|go_simp<;>go_num|assumption), (by first|go_simp<;>go_num|assumption), (by first|go_simp<;>go_num|assumption), (by first|go_simp<;>go_num|assumption), (by first|go_simp<;>go_num|assumption), (by first|go_simp<;>go_num|assumption), (by first|go_simp<;>go_num|assumption), rfl⟩
            · have hok : Hid (∀ ok : Bool, ok = decide (y1 ≤ d) → (ok = true ↔ true = true ∧ (1 ≤ k → fl.getD (k - 1) 0 ≤ d) ∧ (p ≤ k → fl.getD (k - p) 0 < d))) := Lib.hid (fun ok h => by rw [h, hg1]; simp [h3i, hpk])
              have h10i : (k : Int) < (p : Int) := by omega
              clear hg1 hk0
              repeat' (first|(with_reducible first|refine zA ?_|refine zB fun K hK=>?_|refine zC fun K2 hK2=>?_|refine zD ?_|refine zE ?_|refine zF ?_|refine zG ?_|refine zH ?_|refine zI ?_|refine zM ?_|refine zN ?_|refine zO ?_|refine zP ?_|refine zQ ?_|refine zR ?_)|((with_reducible refine zU (hK _ _ ?_));clear hK K)|((with_reducible refine zV ?_ ?_ fun K1 K3 d hdst h1 h3=>?_);rfl;exact yB rfl;cases hdst;go_simp)|((with_reducible refine zW fun K1 K3 h1 h3=>?_);go_simp)|((first|refine h1 ?_|refine h3 ?_);clear h1 h3 K1 K3)|((first|refine zX (fun hb=>h1 ?_) (fun hb=>h3 ?_)|refine zX (fun hb=>h3 ?_) (fun hb=>h1 ?_))<;>(clear h1 h3 K1 K3;(try have hb2:=yC hb);(try have hb2:=yD hb);(try have hb2:=yE hb);(try have hb2:=yF hb);(try have hb2:=yG hb)))|(refine fun (K2:_→AHeap→Prop) hK2=>?_)|((with_reducible refine zY ?_ ?_);decide)|((with_reducible first|refine zZ ?_ (fun K hK=>?_)|refine yA ?_ (fun K hK=>?_));(focus go_simp;done);go_simp;refine hK _ _ ?_;clear hK K)|((with_reducible refine yH mixed rfl ?_ 20 fun K0 hK0=>?_);kernel_rfl)|(with_reducible first|exact yI|exact yJ|refine yK ?_|refine yL ?_|refine yM ?_)|((with_reducible first|refine yN ?_ ?_|refine yO ?_ ?_|refine yP ?_ ?_);rfl)|((with_reducible refine yQ ?_ ?_);rfl;refine hK0 _ _ ?_;clear hK0 K0)|((with_reducible refine yR ?_ ?_ ?_ ?_);rfl;rfl;rfl)|((with_reducible refine yS ?_ ?_ ?_ fun K2 hK2=>?_);rfl;rfl;exact yB rfl)|((with_reducible refine yT ?_ ?_ ?_ ?_ fun K1 K3 d hdst h1 h3=>?_);rfl;rfl;rfl;exact yB rfl;cases hdst;go_simp)|((with_reducible refine yU ?_ ?_ ?_ ?_ fun K1 K3 d hdst h1 h3=>?_);rfl;rfl;rfl;exact yB rfl;cases hdst;go_simp)|((with_reducible refine yV ?_ ?_ (fun K2 hK2=>?_) ?_);rfl;exact yB rfl)|((with_reducible refine yW ?_ ?_ ?_ ?_ (fun K2 hK2=>?_) ?_);rfl;exact yB rfl;rfl;(focus go_simp;done))|((with_reducible refine yX ?_ ?_ ?_ (fun K2 hK2=>?_) ?_);rfl;rfl;exact yB rfl)|((with_reducible refine yY ?_ ?_ (fun K2 hK2=>?_) ?_);rfl;rfl)|((with_reducible refine yZ ?_ ?_);(first|rfl|(dsimp only;decide +kernel)))|((with_reducible refine xA ?_ ?_);(focus go_simp;done))|(go_simp;(try go_bits);(try first | ((with_reducible show CallS _ _ _ _ _ _);refine CallS.mono (HCAN.out _) ?_; rintro _ _ ⟨rfl, h9⟩; rw [h9]; clear h9; go_simp));(first|(refine hK2 _ _ ?_ ?_<;>clear hK2 K2)|(refine hK2 _ _ ?_;clear hK2 K2))))
              all_goals first
                | exact ⟨true, Lib.hid (hok.out _ (by simp; omega)), (by first|go_simp<;>go_num|assumption), (by first|go_simp<;>go_num|assumption), (by first|go_simp<;>go_num|assumption), (by first|go_simp<;>go_num|assumption), (by first|go_simp<;>go_num|assumption), (by first|go_simp<;>go_num|assumption), (by first|go_simp<;>go_num|assumption), rfl⟩
                | exact ⟨false, Lib.hid (hok.out _ (by simp; omega)), (by first|go_simp<;>go_num|assumption), (by first|go_simp<;>go_num|assumption), (by first|go_simp<;>go_num|assumption), (by first|go_simp<;>go_num|assumption), (by first|go_simp<;>go_num|assumption), (by first|go_simp<;>go_num|assumption), (by first|go_simp<;>go_num|assumption), rfl⟩
          clear f9 f8 f2 f3 f4 hd f HCAN hx2
          rintro f _ ⟨ok, HOK, f10, f9, f8, f2, f3, f4, hd, rfl⟩
          cases ok
          · repeat' (first|(with_reducible first|refine zA ?_|refine zB fun K hK=>?_|refine zC fun K2 hK2=>?_|refine zD ?_|refine zE ?_|refine zF ?_|refine zG ?_|refine zH ?_|refine zI ?_|refine zM ?_|refine zN ?_|refine zO ?_|refine zP ?_|refine zQ ?_|refine zR ?_)|((with_reducible refine zU (hK _ _ ?_));clear hK K)|((with_reducible refine zV ?_ ?_ fun K1 K3 d hdst h1 h3=>?_);rfl;exact yB rfl;cases hdst;go_simp)|((with_reducible refine zW fun K1 K3 h1 h3=>?_);go_simp)|((first|refine h1 ?_|refine h3 ?_);clear h1 h3 K1 K3)|((first|refine zX (fun hb=>h1 ?_) (fun hb=>h3 ?_)|refine zX (fun hb=>h3 ?_) (fun hb=>h1 ?_))<;>(clear h1 h3 K1 K3;(try have hb2:=yC hb);(try have hb2:=yD hb);(try have hb2:=yE hb);(try have hb2:=yF hb);(try have hb2:=yG hb)))|(refine fun (K2:_→AHeap→Prop) hK2=>?_)|((with_reducible refine zY ?_ ?_);decide)|((with_reducible first|refine zZ ?_ (fun K hK=>?_)|refine yA ?_ (fun K hK=>?_));(focus go_simp;done);go_simp;refine hK _ _ ?_;clear hK K)|(go_simp;(try go_bits);refine hK2 _ _ ?_;clear hK2 K2))
            refine Post.round_normal ⟨(c.fin + 1 - (d + 1)).toNat, by omega, d + 1, by omega, by omega, rfl, (by first|go_simp<;>go_num|assumption), (by first|go_simp<;>go_num|assumption), (by first|go_simp<;>go_num|assumption), (by first|go_simp<;>go_num|assumption), (by first|go_simp<;>go_num|assumption), (by first|go_simp<;>go_num|assumption), Lib.hid (fun e he h9 => ?_), rfl⟩
            by_cases hed : e = d
            · subst hed
              have h8 := HBD.out.1 h9
              have := HOK.out.2 ⟨h8.1, h8.2.1, h8.2.2.1⟩
              cases this
            · exact HE.out e (by omega) h9
          · repeat' (first|(with_reducible first|refine zA ?_|refine zB fun K hK=>?_|refine zC fun K2 hK2=>?_|refine zD ?_|refine zE ?_|refine zF ?_|refine zG ?_|refine zH ?_|refine zI ?_|refine zM ?_|refine zN ?_|refine zO ?_|refine zP ?_|refine zQ ?_|refine zR ?_)|((with_reducible refine zU (hK _ _ ?_));clear hK K)|((with_reducible refine zV ?_ ?_ fun K1 K3 d hdst h1 h3=>?_);rfl;exact yB rfl;cases hdst;go_simp)|((with_reducible refine zW fun K1 K3 h1 h3=>?_);go_simp)|((first|refine h1 ?_|refine h3 ?_);clear h1 h3 K1 K3)|((first|refine zX (fun hb=>h1 ?_) (fun hb=>h3 ?_)|refine zX (fun hb=>h3 ?_) (fun hb=>h1 ?_))<;>(clear h1 h3 K1 K3;(try have hb2:=yC hb);(try have hb2:=yD hb);(try have hb2:=yE hb);(try have hb2:=yF hb);(try have hb2:=yG hb)))|(refine fun (K2:_→AHeap→Prop) hK2=>?_)|((with_reducible refine zY ?_ ?_);decide)|((with_reducible first|refine zZ ?_ (fun K hK=>?_)|refine yA ?_ (fun K hK=>?_));(focus go_simp;done);go_simp;refine hK _ _ ?_;clear hK K)|(go_simp;(try go_bits);refine hK2 _ _ ?_;clear hK2 K2))
            · refine ⟨?_, HX1.out⟩
              have h7 := HOK.out.1 rfl
              rw [HB8.out k d hlt (HBD.out.2 ⟨h7.1, h7.2.1, h7.2.2, by simpa using hb⟩)]
            · refine Post.round_normal ⟨(c.fin + 1 - (d + 1)).toNat, by omega, d + 1, by omega, by omega, rfl, (by first|go_simp<;>go_num|assumption), (by first|go_simp<;>go_num|assumption), (by first|go_simp<;>go_num|assumption), (by first|go_simp<;>go_num|assumption), (by first|go_simp<;>go_num|assumption), (by first|go_simp<;>go_num|assumption), Lib.hid (fun e he h9 => ?_), rfl⟩
              by_cases hed : e = d
              · subst hed
                have h8 := HBD.out.1 h9
                have h7 := h8.2.2.2
                simp at hb; omega
              · exact HE.out e (by omega) h9
        · repeat' (first|(with_reducible first|refine zA ?_|refine zB fun K hK=>?_|refine zC fun K2 hK2=>?_|refine zD ?_|refine zE ?_|refine zF ?_|refine zG ?_|refine zH ?_|refine zI ?_|refine zM ?_|refine zN ?_|refine zO ?_|refine zP ?_|refine zQ ?_|refine zR ?_)|((with_reducible refine zU (hK _ _ ?_));clear hK K)|((with_reducible refine zV ?_ ?_ fun K1 K3 d hdst h1 h3=>?_);rfl;exact yB rfl;cases hdst;go_simp)|((with_reducible refine zW fun K1 K3 h1 h3=>?_);go_simp)|((first|refine h1 ?_|refine h3 ?_);clear h1 h3 K1 K3)|((first|refine zX (fun hb=>h1 ?_) (fun hb=>h3 ?_)|refine zX (fun hb=>h3 ?_) (fun hb=>h1 ?_))<;>(clear h1 h3 K1 K3;(try have hb2:=yC hb);(try have hb2:=yD hb);(try have hb2:=yE hb);(try have hb2:=yF hb);(try have hb2:=yG hb)))|(refine fun (K2:_→AHeap→Prop) hK2=>?_)|((with_reducible refine zY ?_ ?_);decide)|((with_reducible first|refine zZ ?_ (fun K hK=>?_)|refine yA ?_ (fun K hK=>?_));(focus go_simp;done);go_simp;refine hK _ _ ?_;clear hK K)|(go_simp;(try go_bits);refine hK2 _ _ ?_;clear hK2 K2))
          refine Post.round_normal ⟨fl.length - (k + 1), by omega, k + 1, by omega, rfl, (by first|go_simp<;>go_num|assumption), (by first|go_simp<;>go_num|assumption), (by first|go_simp<;>go_num|assumption), (by first|go_simp<;>go_num|assumption), (by first|go_simp<;>go_num|assumption), Lib.hid (fun j hj e h9 => ?_), rfl⟩
          by_cases hjk : j = k
          · subst hjk
            exact HE.out e (by have := h9.1.2; omega) h9
          · exact HF.out j (by omega) e h9
      · repeat' (first|(with_reducible first|refine zA ?_|refine zB fun K hK=>?_|refine zC fun K2 hK2=>?_|refine zD ?_|refine zE ?_|refine zF ?_|refine zG ?_|refine zH ?_|refine zI ?_|refine zM ?_|refine zN ?_|refine zO ?_|refine zP ?_|refine zQ ?_|refine zR ?_)|((with_reducible refine zU (hK _ _ ?_));clear hK K)|((with_reducible refine zV ?_ ?_ fun K1 K3 d hdst h1 h3=>?_);rfl;exact yB rfl;cases hdst;go_simp)|((with_reducible refine zW fun K1 K3 h1 h3=>?_);go_simp)|((first|refine h1 ?_|refine h3 ?_);clear h1 h3 K1 K3)|((first|refine zX (fun hb=>h1 ?_) (fun hb=>h3 ?_)|refine zX (fun hb=>h3 ?_) (fun hb=>h1 ?_))<;>(clear h1 h3 K1 K3;(try have hb2:=yC hb);(try have hb2:=yD hb);(try have hb2:=yE hb);(try have hb2:=yF hb);(try have hb2:=yG hb)))|(refine fun (K2:_→AHeap→Prop) hK2=>?_)|((with_reducible refine zY ?_ ?_);decide)|((with_reducible first|refine zZ ?_ (fun K hK=>?_)|refine yA ?_ (fun K hK=>?_));(focus go_simp;done);go_simp;refine hK _ _ ?_;clear hK K)|(go_simp;(try go_bits);refine hK2 _ _ ?_;clear hK2 K2))
        refine ⟨?_, HX1.out⟩
        rw [HBAD.out fun j hj => HF.out j (by omega)]
    · have h8 : errFloors s c fl = 1 := by rw [errFloors, if_neg (by simp [he]), if_neg (by rw [h1]; exact hl)]
      have hlb : win 1 (s.words.length : Int) (fl.length : Int) = false := by simpa using hl
      clear h0 h1 h2 h3 h4 h5 h6 h7 he hl
      repeat' (first|(with_reducible first|refine zA ?_|refine zB fun K hK=>?_|refine zC fun K2 hK2=>?_|refine zD ?_|refine zE ?_|refine zF ?_|refine zG ?_|refine zH ?_|refine zI ?_|refine zM ?_|refine zN ?_|refine zO ?_|refine zP ?_|refine zQ ?_|refine zR ?_)|((with_reducible refine zU (hK _ _ ?_));clear hK K)|((with_reducible refine zV ?_ ?_ fun K1 K3 d hdst h1 h3=>?_);rfl;exact yB rfl;cases hdst;go_simp)|((with_reducible refine zW fun K1 K3 h1 h3=>?_);go_simp)|((first|refine h1 ?_|refine h3 ?_);clear h1 h3 K1 K3)|((first|refine zX (fun hb=>h1 ?_) (fun hb=>h3 ?_)|refine zX (fun hb=>h3 ?_) (fun hb=>h1 ?_))<;>(clear h1 h3 K1 K3;(try have hb2:=yC hb);(try have hb2:=yD hb);(try have hb2:=yE hb);(try have hb2:=yF hb);(try have hb2:=yG hb)))|(refine fun (K2:_→AHeap→Prop) hK2=>?_)|((with_reducible refine zY ?_ ?_);decide)|((with_reducible first|refine zZ ?_ (fun K hK=>?_)|refine yA ?_ (fun K hK=>?_));(focus go_simp;done);go_simp;refine hK _ _ ?_;clear hK K)|(go_simp;(try go_bits);(try first |((with_reducible show CallS _ _ _ _ _ _);first|(refine CallS.mono (HCH.out _) ?_; rintro _ _ ⟨rfl, h9⟩; rw [h9]; clear h9)|(refine CallS.mono (in_s (n := (fl.length : Int)) (lo := 1) (hi := (s.words.length : Int))) ?_; rintro _ _ ⟨rfl, h9⟩; rw [h9]; clear h9; go_simp)));refine hK2 _ _ ?_;clear hK2 K2))
      refine ⟨?_, HX1.out⟩
      rw [HR.out, h8]
  · have h8 : errFloors s c fl = errCopy s c := by rw [errFloors, if_pos he]
    have heb : (errCopy s c == 0) = false := by simpa using he
    have heb2 : (errCopy s c != 0) = true := by simpa using he
    repeat' (first|(with_reducible first|refine zA ?_|refine zB fun K hK=>?_|refine zC fun K2 hK2=>?_|refine zD ?_|refine zE ?_|refine zF ?_|refine zG ?_|refine zH ?_|refine zI ?_|refine zM ?_|refine zN ?_|refine zO ?_|refine zP ?_|refine zQ ?_|refine zR ?_)|((with_reducible refine zU (hK _ _ ?_));clear hK K)|((with_reducible refine zV ?_ ?_ fun K1 K3 d hdst h1 h3=>?_);rfl;exact yB rfl;cases hdst;go_simp)|((with_reducible refine zW fun K1 K3 h1 h3=>?_);go_simp)|((first|refine h1 ?_|refine h3 ?_);clear h1 h3 K1 K3)|((first|refine zX (fun hb=>h1 ?_) (fun hb=>h3 ?_)|refine zX (fun hb=>h3 ?_) (fun hb=>h1 ?_))<;>(clear h1 h3 K1 K3;(try have hb2:=yC hb);(try have hb2:=yD hb);(try have hb2:=yE hb);(try have hb2:=yF hb);(try have hb2:=yG hb)))|(refine fun (K2:_→AHeap→Prop) hK2=>?_)|((with_reducible refine zY ?_ ?_);decide)|((with_reducible first|refine zZ ?_ (fun K hK=>?_)|refine yA ?_ (fun K hK=>?_));(focus go_simp;done);go_simp;refine hK _ _ ?_;clear hK K)|(go_simp;(try go_bits);(try first | ((with_reducible show CallS _ _ _ _ _ _);refine CallS.mono (HCH.out _) ?_; rintro _ _ ⟨rfl, h9⟩; rw [h9]; clear h9));refine hK2 _ _ ?_;clear hK2 K2))
    refine ⟨?_, HX1.out⟩
    rw [HR.out, h8]
end Go.Proofs.Tryz
