/- Contracts of functions, walked. -/
import Derived.Test.YtgddlpegljkgpaaGreatChecked
import Derived.Test.YtgddlpegljkgpaaGreatRows
import Derived.Below
import Derived.Carry
import Derived.Deep.Slices
import Derived.Deep.Fields
import Derived.ChangeSame
import Derived.ProofKit
import Derived.OpenShut
import Derived.ShutString
import Derived.ChangeOld
import Derived.Lib.SmallJoins
import Derived.Test.YtgddlpegljkgpaaGreatStST
import Derived.Test.YtgddlpegljkgpaaGreatStZL
import Derived.Test.YtgddlpegljkgpaaGreatAmS
import Derived.Test.YtgddlpegljkgpaaGreatStSN
import Derived.Test.YtgddlpegljkgpaaGreatStTB
import Derived.Test.YtgddlpegljkgpaaGreatAwB
set_option linter.all false
namespace Go.Proofs.Tryz
open Go Go.Am Go.RowKit Go.Co
set_option maxRecDepth 100000

theorem made_iff {s : Sheet} {c : Copy} : (courseOf s c).made c.per.toNat = decide (((courseOf s c).early c.per.toNat 0).length = c.words.length) := by
  rw [Course.made, courseOf_len]
theorem early_lenU {s : Sheet} {c : Copy} (he : errCopy s c = 0) : ((courseOf s c).early c.per.toNat 0).length ≤ c.words.length := by
  obtain ⟨-, -, -, -, -, -, hp1, -⟩ := errCopy_ok he
  rw [← courseOf_len s c]
  exact (early_ok (op := fun i => ins ((courseOf s c).at_ i)) (by omega) (fun i f => (courseOf s c).nx_ok (courseOf_ord he) i f) (courseOf s c).open_.length).1

def SheetsV (H : AHeap) (v : Value) (l : List Sheet) : Prop := l.length ≤ 9223372036854775807 ∧ ∃ a c, v = .slice a l.length c ∧ (0 < l.length → ∃ b o sp, a = some ⟨b, o, sp⟩ ∧ b < H.n ∧ ∀ k (h : k < l.length), ∃ wv av, cellsAt H b (o + k * 2) 2 = some [wv, av] ∧ SheetV H (.agg #[wv, av]) l[k])
theorem SheetsV.ext {H H' : AHeap} {v : Value} {l : List Sheet} (h : SheetsV H v l) (hx : Ext H H') : SheetsV H' v l := by
  obtain ⟨h1, a, c, h2, h3⟩ := h
  refine ⟨h1, a, c, h2, fun hn => ?_⟩
  obtain ⟨b, o, sp, h4, h5, h6⟩ := h3 hn
  refine ⟨b, o, sp, h4, Nat.lt_of_lt_of_le h5 hx.n, fun k hk => ?_⟩
  obtain ⟨wv, av, h7, h8⟩ := h6 k hk
  exact ⟨wv, av, by rw [hx.cellsAt h5]; exact h7, h8.ext hx⟩
theorem SheetsV.at_ {H : AHeap} {a : Option Addr} {n c : Nat} {l : List Sheet} (h : SheetsV H (.slice a n c) l) {k : Nat} (hk : k < l.length) : ∃ b o sp wv av, a = some ⟨b, o, sp⟩ ∧ b < H.n ∧ cellsAt H b (o + k * 2) 2 = some [wv, av] ∧ SheetV H (.agg #[wv, av]) l[k] := by
  obtain ⟨h1, a', c', h2, h3⟩ := h
  cases h2
  obtain ⟨b, o, sp, h4, h5, h6⟩ := h3 (by omega)
  obtain ⟨wv, av, h7, h8⟩ := h6 k hk
  exact ⟨b, o, sp, wv, av, h4, h5, h7, h8⟩
theorem SheetsV.slice {H : AHeap} {v : Value} {l : List Sheet} (h : SheetsV H v l) : l.length ≤ 9223372036854775807 ∧ ∃ a c, v = .slice a l.length c := by
  obtain ⟨h1, a, c, h2, h3⟩ := h
  exact ⟨h1, a, c, h2⟩

end Go.Proofs.Tryz
namespace Go.Proofs.Tryz
open Go Go.Am Go.RowKit Go.Co
set_option maxRecDepth 100000

set_option maxHeartbeats 4000000 in
theorem refClash_s {loops : List (Nat × LInfo)} {H : AHeap} {sv cv dv : Value} {s : Sheet} {c : Copy} {fl : List Int} (hs : SheetV H sv s) (hc : CopyV H cv c) (hd : Ints H dv fl) : CallS Tryz.prog loops 20 [sv, cv, dv] H fun r H' => r = .int .i64 (errClash s c fl) ∧ H' = H := by
  refine CallS.forget (R := fun v => v = .int .i64 (errClash s c fl)) (by rintro v rfl; rfl) ?_
  have HS := Lib.hid hs
  have HC := Lib.hid hc
  have HD := Lib.hid hd
  obtain ⟨wv, av, rfl, hw, ha⟩ := hs
  obtain ⟨hwl, wa, wc, rfl⟩ := hw.slice
  obtain ⟨hal, aa, ac, rfl⟩ := ha.slice
  obtain ⟨cv, rfl, hcw⟩ := hc
  obtain ⟨hcl, ca, cc, rfl⟩ := hcw.slice
  obtain ⟨hdl, da, dc, rfl⟩ := hd.slice
  clear hw ha hcw hd
  have HEE : Hid (errClash s c fl = if errFloors s c fl ≠ 0 then errFloors s c fl else if fl.getD (fl.length - 1) 0 ≤ c.fin then 8 else 0) := Lib.hid rfl
  have HF1 : Hid (errFloors s c fl = 0 → 1 ≤ fl.length) := Lib.hid fun h => by
    unfold errFloors at h
    split at h
    · rename_i h1; exact absurd h h1
    · split at h
      · rename_i h1; have := (win_iff.1 h1).1; omega
      · cases h
  have HCF := Lib.hid (fun (loops : List (Nat × LInfo)) (H' : AHeap) (hx : Ext H H') => refFloors_s (loops := loops) (HS.out.ext hx) (HC.out.ext hx) (HD.out.ext hx))
  generalize errClash s c fl = er at HEE
  generalize errFloors s c fl = ef at HEE HF1 HCF
  refine CallS.enter' Tryz.func20 rfl Tryz.ntmps20 (by simp) fun f hd hf => ?_
  have f0 := hf 0
  have f1 := hf 1
  have f2 := hf 2
  simp at f0 f1 f2
  clear hf
  have HX1 : Hid (Ext H ((H.push (.row [Value.slice wa s.words.length wc, Value.slice aa s.alts.length ac] 25)).push (.row [Value.slice ca c.words.length cc, .int .i64 c.beg, .int .i64 c.fin, .int .i64 c.per] 27))) := Lib.hid (((Ext.refl _).push' _).push' _)
  by_cases hok : ef = 0
  · have hk0 := HF1.out hok
    obtain ⟨b, o, sp, rfl, hb, hx⟩ := HD.out.at_ (k := fl.length - 1) (by omega)
    have hg1 : Hid (fl.getD (fl.length - 1) 0 = fl[fl.length - 1]) := Lib.hid (by simp [List.getD_eq_getElem?_getD, show fl.length - 1 < fl.length by omega])
    have h0i : (0 : Int) ≤ (fl.length : Int) - 1 := by omega
    have h1i : (fl.length : Int) - 1 < (fl.length : Int) := by omega
    have h3i : ((fl.length : Int) - 1).toNat = fl.length - 1 := by omega
    have h2i : (1 : Int) ≤ (fl.length : Int) := by omega
    have h4i : 0 < fl.length := by omega
    have h5i : (0 : Int) < (fl.length : Int) := by omega
    generalize fl[fl.length - 1] = y at hx hg1
    rw [hok] at HEE HCF
    have hee : er = if y ≤ c.fin then 8 else 0 := by rw [HEE.out, hg1.out, if_neg (by simp)]
    have HER := Lib.hid hee
    clear hee HEE hg1
    repeat' (first|(with_reducible first|refine zA ?_|refine zB fun K hK=>?_|refine zC fun K2 hK2=>?_|refine zD ?_|refine zE ?_|refine zF ?_|refine zG ?_|refine zH ?_|refine zI ?_|refine zM ?_|refine zN ?_|refine zO ?_|refine zP ?_|refine zQ ?_|refine zR ?_)|((with_reducible refine zU (hK _ _ ?_));clear hK K)|((with_reducible refine zV ?_ ?_ fun K1 K3 d hdst h1 h3=>?_);rfl;exact yB rfl;cases hdst;go_simp)|((with_reducible refine zW fun K1 K3 h1 h3=>?_);go_simp)|((first|refine h1 ?_|refine h3 ?_);clear h1 h3 K1 K3)|((first|refine zX (fun hb=>h1 ?_) (fun hb=>h3 ?_)|refine zX (fun hb=>h3 ?_) (fun hb=>h1 ?_))<;>(clear h1 h3 K1 K3;(try have hb2:=yC hb);(try have hb2:=yD hb);(try have hb2:=yE hb);(try have hb2:=yF hb);(try have hb2:=yG hb)))|(refine fun (K2:_→AHeap→Prop) hK2=>?_)|((with_reducible refine zY ?_ ?_);decide)|((with_reducible first|refine zZ ?_ (fun K hK=>?_)|refine yA ?_ (fun K hK=>?_));(focus go_simp;done);go_simp;refine hK _ _ ?_;clear hK K)|((with_reducible refine yH mixed rfl ?_ 20 fun K0 hK0=>?_);kernel_rfl)|(with_reducible first|exact yI|exact yJ|refine yK ?_|refine yL ?_|refine yM ?_)|((with_reducible first|refine yN ?_ ?_|refine yO ?_ ?_|refine yP ?_ ?_);rfl)|((with_reducible refine yQ ?_ ?_);rfl;refine hK0 _ _ ?_;clear hK0 K0)|((with_reducible refine yR ?_ ?_ ?_ ?_);rfl;rfl;rfl)|((with_reducible refine yS ?_ ?_ ?_ fun K2 hK2=>?_);rfl;rfl;exact yB rfl)|((with_reducible refine yT ?_ ?_ ?_ ?_ fun K1 K3 d hdst h1 h3=>?_);rfl;rfl;rfl;exact yB rfl;cases hdst;go_simp)|((with_reducible refine yU ?_ ?_ ?_ ?_ fun K1 K3 d hdst h1 h3=>?_);rfl;rfl;rfl;exact yB rfl;cases hdst;go_simp)|((with_reducible refine yV ?_ ?_ (fun K2 hK2=>?_) ?_);rfl;exact yB rfl)|((with_reducible refine yW ?_ ?_ ?_ ?_ (fun K2 hK2=>?_) ?_);rfl;exact yB rfl;rfl;(focus go_simp;done))|((with_reducible refine yX ?_ ?_ ?_ (fun K2 hK2=>?_) ?_);rfl;rfl;exact yB rfl)|((with_reducible refine yY ?_ ?_ (fun K2 hK2=>?_) ?_);rfl;rfl)|((with_reducible refine yZ ?_ ?_);(first|rfl|(dsimp only;decide +kernel)))|((with_reducible refine xA ?_ ?_);(focus go_simp;done))|(go_simp;(try go_bits);(try first | ((with_reducible show CallS _ _ _ _ _ _);refine CallS.mono (HCF.out _ _ HX1.out) ?_; rintro _ _ ⟨rfl, h9⟩; rw [h9]; clear h9));(first|(refine hK2 _ _ ?_ ?_<;>clear hK2 K2)|(refine hK2 _ _ ?_;clear hK2 K2))))
    · refine ⟨?_, HX1.out⟩
      rw [HER.out, if_pos (by simp at hb; omega)]
    · refine ⟨?_, HX1.out⟩
      rw [HER.out, if_neg (by simp at hb; omega)]
  · have heb : (ef == 0) = false := by simpa using hok
    repeat' (first|(with_reducible first|refine zA ?_|refine zB fun K hK=>?_|refine zC fun K2 hK2=>?_|refine zD ?_|refine zE ?_|refine zF ?_|refine zG ?_|refine zH ?_|refine zI ?_|refine zM ?_|refine zN ?_|refine zO ?_|refine zP ?_|refine zQ ?_|refine zR ?_)|((with_reducible refine zU (hK _ _ ?_));clear hK K)|((with_reducible refine zV ?_ ?_ fun K1 K3 d hdst h1 h3=>?_);rfl;exact yB rfl;cases hdst;go_simp)|((with_reducible refine zW fun K1 K3 h1 h3=>?_);go_simp)|((first|refine h1 ?_|refine h3 ?_);clear h1 h3 K1 K3)|((first|refine zX (fun hb=>h1 ?_) (fun hb=>h3 ?_)|refine zX (fun hb=>h3 ?_) (fun hb=>h1 ?_))<;>(clear h1 h3 K1 K3;(try have hb2:=yC hb);(try have hb2:=yD hb);(try have hb2:=yE hb);(try have hb2:=yF hb);(try have hb2:=yG hb)))|(refine fun (K2:_→AHeap→Prop) hK2=>?_)|((with_reducible refine zY ?_ ?_);decide)|((with_reducible first|refine zZ ?_ (fun K hK=>?_)|refine yA ?_ (fun K hK=>?_));(focus go_simp;done);go_simp;refine hK _ _ ?_;clear hK K)|((with_reducible refine yH mixed rfl ?_ 20 fun K0 hK0=>?_);kernel_rfl)|(with_reducible first|exact yI|exact yJ|refine yK ?_|refine yL ?_|refine yM ?_)|((with_reducible first|refine yN ?_ ?_|refine yO ?_ ?_|refine yP ?_ ?_);rfl)|((with_reducible refine yQ ?_ ?_);rfl;refine hK0 _ _ ?_;clear hK0 K0)|((with_reducible refine yR ?_ ?_ ?_ ?_);rfl;rfl;rfl)|((with_reducible refine yS ?_ ?_ ?_ fun K2 hK2=>?_);rfl;rfl;exact yB rfl)|((with_reducible refine yT ?_ ?_ ?_ ?_ fun K1 K3 d hdst h1 h3=>?_);rfl;rfl;rfl;exact yB rfl;cases hdst;go_simp)|((with_reducible refine yU ?_ ?_ ?_ ?_ fun K1 K3 d hdst h1 h3=>?_);rfl;rfl;rfl;exact yB rfl;cases hdst;go_simp)|((with_reducible refine yV ?_ ?_ (fun K2 hK2=>?_) ?_);rfl;exact yB rfl)|((with_reducible refine yW ?_ ?_ ?_ ?_ (fun K2 hK2=>?_) ?_);rfl;exact yB rfl;rfl;(focus go_simp;done))|((with_reducible refine yX ?_ ?_ ?_ (fun K2 hK2=>?_) ?_);rfl;rfl;exact yB rfl)|((with_reducible refine yY ?_ ?_ (fun K2 hK2=>?_) ?_);rfl;rfl)|((with_reducible refine yZ ?_ ?_);(first|rfl|(dsimp only;decide +kernel)))|((with_reducible refine xA ?_ ?_);(focus go_simp;done))|(go_simp;(try go_bits);(try first | ((with_reducible show CallS _ _ _ _ _ _);refine CallS.mono (HCF.out _ _ HX1.out) ?_; rintro _ _ ⟨rfl, h9⟩; rw [h9]; clear h9));(first|(refine hK2 _ _ ?_ ?_<;>clear hK2 K2)|(refine hK2 _ _ ?_;clear hK2 K2))))
    refine ⟨?_, HX1.out⟩
    rw [HEE.out, if_pos hok]

def shortN (s : Sheet) (c : Copy) : Int := if errCopy s c = 0 then (if (courseOf s c).made c.per.toNat = true then 0 else (((courseOf s c).early c.per.toNat 0).length : Int) + 1) else 0
theorem clash_short (s : Sheet) (c : Copy) : isClash s c = decide (0 < shortN s c) ∧ ((clashL s c).length : Int) = shortN s c := by
  unfold isClash clashL shortN isClash
  by_cases h : errCopy s c = 0
  · cases hm : (courseOf s c).made c.per.toNat
    · simp [h]
    · simp [h]
  · simp [h]
set_option maxHeartbeats 4000000 in
theorem refShort_s {loops : List (Nat × LInfo)} {H : AHeap} {sv cv : Value} {s : Sheet} {c : Copy} (hs : SheetV H sv s) (hc : CopyV H cv c) : CallS Tryz.prog loops 19 [sv, cv] H fun r H' => r = .tuple #[.int .i64 (shortN s c), .int .i64 (errCopy s c)] ∧ H' = H := by
  refine CallS.forget (R := fun v => v = .tuple #[.int .i64 (shortN s c), .int .i64 (errCopy s c)]) (by rintro v rfl; rfl) ?_
  have HS := Lib.hid hs
  have HC := Lib.hid hc
  obtain ⟨wv, av, rfl, hw, ha⟩ := hs
  obtain ⟨hwl, wa, wc, rfl⟩ := hw.slice
  obtain ⟨hal, aa, ac, rfl⟩ := ha.slice
  obtain ⟨cv, rfl, hcw⟩ := hc
  obtain ⟨hcl, ca, cc, rfl⟩ := hcw.slice
  clear hw ha hcw
  have HX1 : Hid (Ext H ((H.push (.row [Value.slice wa s.words.length wc, Value.slice aa s.alts.length ac] 25)).push (.row [Value.slice ca c.words.length cc, .int .i64 c.beg, .int .i64 c.fin, .int .i64 c.per] 27))) := Lib.hid (((Ext.refl _).push' _).push' _)
  have HCH := Lib.hid (fun (loops : List (Nat × LInfo)) => refCheckCopy_s (loops := loops) (s := s) (c := c) (HS.out.ext HX1.out) (HC.out.ext HX1.out))
  refine CallS.enter' Tryz.func19 rfl Tryz.ntmps19 (by simp) fun f hd hf => ?_
  have f0 := hf 0
  have f1 := hf 1
  simp at f0 f1
  clear hf
  by_cases he : errCopy s c = 0
  · have HFI := Lib.hid (fun (loops : List (Nat × LInfo)) => refFirst_e (loops := loops) (s := s) (c := c) (HS.out.ext HX1.out) (HC.out.ext HX1.out) he)
    have hmi : (courseOf s c).made c.per.toNat = true ↔ ((courseOf s c).early c.per.toNat 0).length = c.words.length := by rw [made_iff, decide_eq_true_iff]
    have hle := early_lenU (s := s) (c := c) he
    have hwo := (errCopy_ok he).2.1
    have h40 := (win_iff.1 (err_ok (errCopy_ok he).1).2.1).2
    have hSN : shortN s c = if ((courseOf s c).early c.per.toNat 0).length = c.words.length then 0 else (((courseOf s c).early c.per.toNat 0).length : Int) + 1 := by
      rw [shortN, if_pos he]
      by_cases hm : (courseOf s c).made c.per.toNat = true
      · rw [if_pos hm, if_pos (hmi.1 hm)]
      · rw [if_neg hm, if_neg (fun h => hm (hmi.2 h))]
    rw [he] at HCH ⊢
    rw [hSN]
    clear hSN hmi
    generalize (courseOf s c).early c.per.toNat 0 = F at HFI hle ⊢
    have hl40 : F.length ≤ 40 := by omega
    have HLE := Lib.hid hwo
    clear hwo h40 he
    by_cases hm : F.length = c.words.length
    · rw [if_pos hm]
      have hmb : ((F.length : Int) == (c.words.length : Int)) = true := by simp [hm]
      have HM := Lib.hid hm
      clear hm hle
      repeat' (first|(with_reducible first|refine zA ?_|refine zB fun K hK=>?_|refine zC fun K2 hK2=>?_|refine zD ?_|refine zE ?_|refine zF ?_|refine zG ?_|refine zH ?_|refine zI ?_|refine zM ?_|refine zN ?_|refine zO ?_|refine zP ?_|refine zQ ?_|refine zR ?_)|((with_reducible refine zU (hK _ _ ?_));clear hK K)|((with_reducible refine zV ?_ ?_ fun K1 K3 d hdst h1 h3=>?_);rfl;exact yB rfl;cases hdst;go_simp)|((with_reducible refine zW fun K1 K3 h1 h3=>?_);go_simp)|((first|refine h1 ?_|refine h3 ?_);clear h1 h3 K1 K3)|((first|refine zX (fun hb=>h1 ?_) (fun hb=>h3 ?_)|refine zX (fun hb=>h3 ?_) (fun hb=>h1 ?_))<;>(clear h1 h3 K1 K3;(try have hb2:=yC hb);(try have hb2:=yD hb);(try have hb2:=yE hb);(try have hb2:=yF hb);(try have hb2:=yG hb)))|(refine fun (K2:_→AHeap→Prop) hK2=>?_)|((with_reducible refine zY ?_ ?_);decide)|((with_reducible first|refine zZ ?_ (fun K hK=>?_)|refine yA ?_ (fun K hK=>?_));(focus go_simp;done);go_simp;refine hK _ _ ?_;clear hK K)|(go_simp;(try go_bits);(try first |((with_reducible show CallS _ _ _ _ _ _);first|(refine CallS.mono (HCH.out _) ?_; rintro _ _ ⟨rfl, h9⟩; rw [h9]; clear h9; go_simp)|(refine CallS.mono (HFI.out _) ?_; rintro _ H2 ⟨ho, hx⟩; (have hi := ints_of_own ho (by omega)); (obtain ⟨-, va, vc, rfl⟩ := hi.slice); (have HX2 := Lib.hid (HX1.out.trans hx)); (have hq : cellAt H2 (H.n + 1) 0 = some (Value.slice ca c.words.length cc) := by rw [hx.cellAt (by simp only [AHeap.n_push]; omega), ← AHeap.n_push H, cellAt_new]; rfl); (have hn2 : H.n + 1 < H2.n := by have := hx.n; simp only [AHeap.n_push] at this; omega); clear ho hx hi; go_simp)));refine hK2 _ _ ?_;clear hK2 K2))
      exact ⟨rfl, HX2.out⟩
    · rw [if_neg hm]
      have hmb : ((F.length : Int) == (c.words.length : Int)) = false := by simpa using (show ¬ (F.length : Int) = (c.words.length : Int) by omega)
      clear hm hle
      repeat' (first|(with_reducible first|refine zA ?_|refine zB fun K hK=>?_|refine zC fun K2 hK2=>?_|refine zD ?_|refine zE ?_|refine zF ?_|refine zG ?_|refine zH ?_|refine zI ?_|refine zM ?_|refine zN ?_|refine zO ?_|refine zP ?_|refine zQ ?_|refine zR ?_)|((with_reducible refine zU (hK _ _ ?_));clear hK K)|((with_reducible refine zV ?_ ?_ fun K1 K3 d hdst h1 h3=>?_);rfl;exact yB rfl;cases hdst;go_simp)|((with_reducible refine zW fun K1 K3 h1 h3=>?_);go_simp)|((first|refine h1 ?_|refine h3 ?_);clear h1 h3 K1 K3)|((first|refine zX (fun hb=>h1 ?_) (fun hb=>h3 ?_)|refine zX (fun hb=>h3 ?_) (fun hb=>h1 ?_))<;>(clear h1 h3 K1 K3;(try have hb2:=yC hb);(try have hb2:=yD hb);(try have hb2:=yE hb);(try have hb2:=yF hb);(try have hb2:=yG hb)))|(refine fun (K2:_→AHeap→Prop) hK2=>?_)|((with_reducible refine zY ?_ ?_);decide)|((with_reducible first|refine zZ ?_ (fun K hK=>?_)|refine yA ?_ (fun K hK=>?_));(focus go_simp;done);go_simp;refine hK _ _ ?_;clear hK K)|(go_simp;(try go_bits);(try first |((with_reducible show CallS _ _ _ _ _ _);first|(refine CallS.mono (HCH.out _) ?_; rintro _ _ ⟨rfl, h9⟩; rw [h9]; clear h9; go_simp)|(refine CallS.mono (HFI.out _) ?_; rintro _ H2 ⟨ho, hx⟩; (have hi := ints_of_own ho (by omega)); (obtain ⟨-, va, vc, rfl⟩ := hi.slice); (have HX2 := Lib.hid (HX1.out.trans hx)); (have hq : cellAt H2 (H.n + 1) 0 = some (Value.slice ca c.words.length cc) := by rw [hx.cellAt (by simp only [AHeap.n_push]; omega), ← AHeap.n_push H, cellAt_new]; rfl); (have hn2 : H.n + 1 < H2.n := by have := hx.n; simp only [AHeap.n_push] at this; omega); clear ho hx hi; go_simp)));refine hK2 _ _ ?_;clear hK2 K2))
      exact ⟨rfl, HX2.out⟩
  · have hSN : shortN s c = 0 := by rw [shortN, if_neg he]
    rw [hSN]
    have heb : (errCopy s c != 0) = true := by simpa using he
    repeat' (first|(with_reducible first|refine zA ?_|refine zB fun K hK=>?_|refine zC fun K2 hK2=>?_|refine zD ?_|refine zE ?_|refine zF ?_|refine zG ?_|refine zH ?_|refine zI ?_|refine zM ?_|refine zN ?_|refine zO ?_|refine zP ?_|refine zQ ?_|refine zR ?_)|((with_reducible refine zU (hK _ _ ?_));clear hK K)|((with_reducible refine zV ?_ ?_ fun K1 K3 d hdst h1 h3=>?_);rfl;exact yB rfl;cases hdst;go_simp)|((with_reducible refine zW fun K1 K3 h1 h3=>?_);go_simp)|((first|refine h1 ?_|refine h3 ?_);clear h1 h3 K1 K3)|((first|refine zX (fun hb=>h1 ?_) (fun hb=>h3 ?_)|refine zX (fun hb=>h3 ?_) (fun hb=>h1 ?_))<;>(clear h1 h3 K1 K3;(try have hb2:=yC hb);(try have hb2:=yD hb);(try have hb2:=yE hb);(try have hb2:=yF hb);(try have hb2:=yG hb)))|(refine fun (K2:_→AHeap→Prop) hK2=>?_)|((with_reducible refine zY ?_ ?_);decide)|((with_reducible first|refine zZ ?_ (fun K hK=>?_)|refine yA ?_ (fun K hK=>?_));(focus go_simp;done);go_simp;refine hK _ _ ?_;clear hK K)|(go_simp;(try go_bits);(try first | ((with_reducible show CallS _ _ _ _ _ _);refine CallS.mono (HCH.out _) ?_; rintro _ _ ⟨rfl, h9⟩; rw [h9]; clear h9; go_simp));refine hK2 _ _ ?_;clear hK2 K2))
    exact ⟨rfl, HX1.out⟩

set_option maxHeartbeats 8000000 in
theorem proofs_s {loops : List (Nat × LInfo)} {H : AHeap} {sv cv dv : Value} {s : Sheet} {c : Copy} {fl : List Int} (hs : SheetV H sv s) (hc : CopyV H cv c) (hd : Ints H dv fl) : CallS Tryz.prog loops 21 [sv, cv, dv] H fun r H' => r = .bool true ∧ H' = H := by
  refine CallS.forget (R := fun v => v = .bool true) (by rintro v rfl; rfl) ?_
  have HS := Lib.hid hs
  have HC := Lib.hid hc
  have HD := Lib.hid hd
  obtain ⟨wv, av, rfl, hw, ha⟩ := hs
  obtain ⟨hwl, wa, wc, rfl⟩ := hw.slice
  obtain ⟨hal, aa, ac, rfl⟩ := ha.slice
  obtain ⟨cv, rfl, hcw⟩ := hc
  obtain ⟨hcl, ca, cc, rfl⟩ := hcw.slice
  obtain ⟨hdl, da, dc, rfl⟩ := hd.slice
  clear hw ha hcw hd
  have HX1 : Hid (Ext H ((H.push (.row [Value.slice wa s.words.length wc, Value.slice aa s.alts.length ac] 25)).push (.row [Value.slice ca c.words.length cc, .int .i64 c.beg, .int .i64 c.fin, .int .i64 c.per] 27))) := Lib.hid (((Ext.refl _).push' _).push' _)
  have H1 := Lib.hid (fun (loops : List (Nat × LInfo)) => checkFloors_s (loops := loops) (HS.out.ext HX1.out) (HC.out.ext HX1.out) (HD.out.ext HX1.out))
  have H2 := Lib.hid (fun (loops : List (Nat × LInfo)) => refFloors_s (loops := loops) (HS.out.ext HX1.out) (HC.out.ext HX1.out) (HD.out.ext HX1.out))
  have H3 := Lib.hid (fun (loops : List (Nat × LInfo)) => checkCeils_s (loops := loops) (HS.out.ext HX1.out) (HC.out.ext HX1.out) (HD.out.ext HX1.out))
  have H4 := Lib.hid (fun (loops : List (Nat × LInfo)) => refCeils_s (loops := loops) (HS.out.ext HX1.out) (HC.out.ext HX1.out) (HD.out.ext HX1.out))
  have H5 := Lib.hid (fun (loops : List (Nat × LInfo)) => checkClash_s (loops := loops) (HS.out.ext HX1.out) (HC.out.ext HX1.out) (HD.out.ext HX1.out))
  have H6 := Lib.hid (fun (loops : List (Nat × LInfo)) => refClash_s (loops := loops) (HS.out.ext HX1.out) (HC.out.ext HX1.out) (HD.out.ext HX1.out))
  generalize errFloors s c fl = e1 at H1 H2
  generalize errCeils s c fl = e2 at H3 H4
  generalize errClash s c fl = e3 at H5 H6
  refine CallS.enter' Tryz.func21 rfl Tryz.ntmps21 (by simp) fun f hd hf => ?_
  have f0 := hf 0
  have f1 := hf 1
  have f2 := hf 2
  simp at f0 f1 f2
  clear hf
  repeat' (first|(with_reducible first|refine zA ?_|refine zB fun K hK=>?_|refine zC fun K2 hK2=>?_|refine zD ?_|refine zE ?_|refine zF ?_|refine zG ?_|refine zH ?_|refine zI ?_|refine zM ?_|refine zN ?_|refine zO ?_|refine zP ?_|refine zQ ?_|refine zR ?_)|((with_reducible refine zU (hK _ _ ?_));clear hK K)|((with_reducible refine zV ?_ ?_ fun K1 K3 d hdst h1 h3=>?_);rfl;exact yB rfl;cases hdst;go_simp)|((with_reducible refine zW fun K1 K3 h1 h3=>?_);go_simp)|((first|refine h1 ?_|refine h3 ?_);clear h1 h3 K1 K3)|((first|refine zX (fun hb=>h1 ?_) (fun hb=>h3 ?_)|refine zX (fun hb=>h3 ?_) (fun hb=>h1 ?_))<;>(clear h1 h3 K1 K3;(try have hb2:=yC hb);(try have hb2:=yD hb);(try have hb2:=yE hb);(try have hb2:=yF hb);(try have hb2:=yG hb)))|(refine fun (K2:_→AHeap→Prop) hK2=>?_)|((with_reducible refine zY ?_ ?_);decide)|((with_reducible first|refine zZ ?_ (fun K hK=>?_)|refine yA ?_ (fun K hK=>?_));(focus go_simp;done);go_simp;refine hK _ _ ?_;clear hK K)|((with_reducible refine yH mixed rfl ?_ 20 fun K0 hK0=>?_);kernel_rfl)|(with_reducible first|exact yI|exact yJ|refine yK ?_|refine yL ?_|refine yM ?_)|((with_reducible first|refine yN ?_ ?_|refine yO ?_ ?_|refine yP ?_ ?_);rfl)|((with_reducible refine yQ ?_ ?_);rfl;refine hK0 _ _ ?_;clear hK0 K0)|((with_reducible refine yR ?_ ?_ ?_ ?_);rfl;rfl;rfl)|((with_reducible refine yS ?_ ?_ ?_ fun K2 hK2=>?_);rfl;rfl;exact yB rfl)|((with_reducible refine yT ?_ ?_ ?_ ?_ fun K1 K3 d hdst h1 h3=>?_);rfl;rfl;rfl;exact yB rfl;cases hdst;go_simp)|((with_reducible refine yU ?_ ?_ ?_ ?_ fun K1 K3 d hdst h1 h3=>?_);rfl;rfl;rfl;exact yB rfl;cases hdst;go_simp)|((with_reducible refine yV ?_ ?_ (fun K2 hK2=>?_) ?_);rfl;exact yB rfl)|((with_reducible refine yW ?_ ?_ ?_ ?_ (fun K2 hK2=>?_) ?_);rfl;exact yB rfl;rfl;(focus go_simp;done))|((with_reducible refine yX ?_ ?_ ?_ (fun K2 hK2=>?_) ?_);rfl;rfl;exact yB rfl)|((with_reducible refine yY ?_ ?_ (fun K2 hK2=>?_) ?_);rfl;rfl)|((with_reducible refine yZ ?_ ?_);(first|rfl|(dsimp only;decide +kernel)))|((with_reducible refine xA ?_ ?_);(focus go_simp;done))|(go_simp;(try go_bits);(try first | ((with_reducible refine CallS.mono (H1.out _) ?_); rintro _ _ ⟨rfl, h9⟩; rw [h9]; clear h9; go_simp) | ((with_reducible refine CallS.mono (H2.out _) ?_); rintro _ _ ⟨rfl, h9⟩; rw [h9]; clear h9; go_simp) | ((with_reducible refine CallS.mono (H3.out _) ?_); rintro _ _ ⟨rfl, h9⟩; rw [h9]; clear h9; go_simp) | ((with_reducible refine CallS.mono (H4.out _) ?_); rintro _ _ ⟨rfl, h9⟩; rw [h9]; clear h9; go_simp) | ((with_reducible refine CallS.mono (H5.out _) ?_); rintro _ _ ⟨rfl, h9⟩; rw [h9]; clear h9; go_simp) | ((with_reducible refine CallS.mono (H6.out _) ?_); rintro _ _ ⟨rfl, h9⟩; rw [h9]; clear h9; go_simp));(first|(refine hK2 _ _ ?_ ?_<;>clear hK2 K2)|(refine hK2 _ _ ?_;clear hK2 K2))))
  exact ⟨rfl, HX1.out⟩
end Go.Proofs.Tryz
namespace Go.Proofs.Tryz
open Go Go.Am Go.RowKit Go.Co
set_option maxRecDepth 100000

theorem clash_cases (s : Sheet) (c : Copy) (days fl : List Int) : ((errCopy s c != 0) = true ∧ errExt s c = errCopy s c) ∨ (errCopy s c = 0 ∧ isClash s c = true ∧ errExt s c = 9 ∧ errClash s c (clashL s c) = 0 ∧ ¬ FitsOk s c days) ∨ (errCopy s c = 0 ∧ isClash s c = false ∧ errExt s c = 0 ∧ clashL s c = [] ∧ (errClash s c fl == 0) = false) := by
  by_cases h : errCopy s c = 0
  · have k := known h
    have hi : isClash s c = !(courseOf s c).made c.per.toNat := by rw [isClash, h]; simp
    cases hm : (courseOf s c).made c.per.toNat
    · have h1 : isClash s c = true := by rw [hi, hm]; rfl
      have h2 : errExt s c = 9 := by rw [k.ext, hm]; rfl
      refine .inr (.inl ⟨h, h1, h2, ?_, fun hf => by have := fit_ext hf; omega⟩)
      obtain ⟨h3, h4⟩ := (courseOf s c).clash_holds (fin := c.fin) k.ord k.p1 hm k.fin0
      have h5 := k.len
      have h6 : errFloors s c (clashL s c) = 0 := by
        rw [clashL, if_pos h1, errFloors, if_neg (by simp [h]), if_pos, if_pos h3]
        exact win_iff.2 ⟨by simp; omega, by omega⟩
      rw [errClash, if_neg (by simp [h6]), if_neg]
      rw [clashL, if_pos h1]
      have h7 := @getD_snoc ((courseOf s c).early c.per.toNat 0) (c.fin + 1)
      rw [List.length_append, List.length_singleton, Nat.add_sub_cancel, h7]
      omega
    · have h1 : isClash s c = false := by rw [hi, hm]; rfl
      have h2 : errExt s c = 0 := by rw [k.ext, hm]; rfl
      refine .inr (.inr ⟨h, h1, h2, by rw [clashL, if_neg (by simp [h1])], ?_⟩)
      rw [beq_eq_false_iff_ne]
      intro hc
      rw [errClash] at hc
      split at hc
      · rename_i h3; exact h3 hc
      · rename_i h3
        split at hc
        · cases hc
        · rename_i h4
          have h5 : errFloors s c fl = 0 := by simpa using h3
          rw [errFloors, if_neg (by simp [h])] at h5
          split at h5
          · rename_i h6
            split at h5
            · rename_i h7
              have h8 := win_iff.1 h6
              have h9 := k.len
              have := (courseOf s c).not_made k.ord k.p1 h7 (by omega) (by omega) (fun i d hi ho => (k.fin i d (by omega) ho).2) (by omega)
              rw [hm] at this; cases this
            · cases h5
          · cases h5
  · exact .inl ⟨by simpa using h, by rw [errExt, if_pos h]⟩

end Go.Proofs.Tryz
namespace Go.Proofs.Tryz
open Go Go.Am Go.RowKit Go.Co
set_option maxRecDepth 100000

theorem conv5 {dst : Option Tmp} {x : Operand} {ty : TypeId} {src : String} {af : Array Edge} {g : Option (Nat × Bool)} {a : Int} (ev : Operand → Value) (hx : ev x = .int .u8 a) : pureOf Tryz.prog (execOp ev ⟨dst, .convert 5 3 x, ty, src, af, g⟩) = some (.value (.int .i64 (IntKind.i64.wrap a))) := by
  simp only [execOp, hx]
  kernel_rfl
def convV {β : Type} (v : Value) (H : AHeap) (kk : K β) (other : Unit → Option β) : Option β := match v with
  | .int .u8 a => kk (.int .i64 (IntKind.i64.wrap a)) H
  | _ => other ()
@[go_sem] theorem convV_u8 {β : Type} {a : Int} {H : AHeap} {kk : K β} {other : Unit → Option β} : convV (.int .u8 a) H kk other = kk (.int .i64 (IntKind.i64.wrap a)) H := rfl
theorem aPlain_conv5 {β : Type} {dst : Option Tmp} {x : Operand} {ty : TypeId} {src : String} {af : Array Edge} {g : Option (Nat × Bool)} {ev : Operand → Value} {H : AHeap} {kk : K β} : aPlain Tryz.prog ⟨dst, .convert 5 3 x, ty, src, af, g⟩ ev H kk = convV (ev x) H kk fun _ => aPlain Tryz.prog ⟨dst, .convert 5 3 x, ty, src, af, g⟩ ev H kk := by
  unfold convV
  split
  · rename_i a hx
    rw [plain_of rfl]
    have e1 : ((Op.convert 5 3 x).operands.toList.all fun x => plainV 6 (ev x)) = true := by
      show ([x].all fun x => plainV 6 (ev x)) = true
      simp [hx]
      rfl
    rw [if_pos e1, conv5 ev hx]
    rfl
  · rfl
@[go_sem] theorem opP_conv5 {cx : Cx} {H : AHeap} {f : AF} {k : AF → AHeap → Prop} {dst : Option Tmp} {x : Operand} {ty : TypeId} {src : String} {af : Array Edge} {g : Option (Nat × Bool)} : opP Tryz.prog cx ⟨dst, .convert 5 3 x, ty, src, af, g⟩ f H k = Holds (convV (f.eval x) H (fun v H' => some (putP cx.sz f dst v fun f' => k f' H')) fun _ => aPlain Tryz.prog ⟨dst, .convert 5 3 x, ty, src, af, g⟩ f.eval H fun v H' => some (putP cx.sz f dst v fun f' => k f' H')) :=
  opP_convert.trans (congrArg Holds aPlain_conv5)
set_option maxHeartbeats 4000000 in
theorem bent_e {loops : List (Nat × LInfo)} {H : AHeap} {v : Value} {xs : List Int} {at_ n : Int} (hv : Ints H v xs) (h8 : 0 ≤ at_ ∧ at_ ≤ 255) (hl : xs.length ≤ 1000) : CallS Tryz.prog loops 22 [v, .int .u8 at_, .int .i64 n] H fun r H' => (∃ a c ys, r = .slice a ys.length c ∧ Ints H' (.slice a ys.length c) ys) ∧ Ext H H' := by
  have HXI := Lib.hid hv
  obtain ⟨-, a, c, rfl⟩ := hv.slice
  obtain ⟨h80, h81⟩ := h8
  refine CallS.enter' Tryz.func22 rfl Tryz.ntmps22 (by simp) fun f hd hf => ?_
  have f0 := hf 0
  have f1 := hf 1
  have f2 := hf 2
  simp at f0 f1 f2
  clear hf
  by_cases h0 : xs.length = 0
  · have HK0 := Lib.hid h0
    have h0i : ¬ (0 : Int) < (xs.length : Int) := by omega
    rw [h0] at f0
    clear h0 hv
    repeat' (first|(with_reducible first|refine zA ?_|refine zB fun K hK=>?_|refine zC fun K2 hK2=>?_|refine zD ?_|refine zE ?_|refine zF ?_|refine zG ?_|refine zH ?_|refine zI ?_|refine zM ?_|refine zN ?_|refine zO ?_|refine zP ?_|refine zQ ?_|refine zR ?_)|((with_reducible refine zU (hK _ _ ?_));clear hK K)|((with_reducible refine zV ?_ ?_ fun K1 K3 d hdst h1 h3=>?_);rfl;exact yB rfl;cases hdst;go_simp)|((with_reducible refine zW fun K1 K3 h1 h3=>?_);go_simp)|((first|refine h1 ?_|refine h3 ?_);clear h1 h3 K1 K3)|((first|refine zX (fun hb=>h1 ?_) (fun hb=>h3 ?_)|refine zX (fun hb=>h3 ?_) (fun hb=>h1 ?_))<;>(clear h1 h3 K1 K3;(try have hb2:=yC hb);(try have hb2:=yD hb);(try have hb2:=yE hb);(try have hb2:=yF hb);(try have hb2:=yG hb)))|(refine fun (K2:_→AHeap→Prop) hK2=>?_)|((with_reducible refine zY ?_ ?_);decide)|((with_reducible first|refine zZ ?_ (fun K hK=>?_)|refine yA ?_ (fun K hK=>?_));(focus go_simp;done);go_simp;refine hK _ _ ?_;clear hK K)|(go_simp;(try go_bits);(try first | ((refine lit0_k el22 sz3 ze3 rfl (by decide) ?_); go_simp) | ((refine appendNil_k el22 sz3 srcCells_none ?_); go_simp));refine hK2 _ _ ?_;clear hK2 K2))
    exact ⟨⟨_, _, [], rfl, rfl, by simp, _, _, rfl, fun h => by simp at h⟩, Ext.push _⟩
  · have h1 : 0 < xs.length := by omega
    obtain ⟨b, o, sp, rfl, hb, hcell⟩ := hv.at_ h1
    obtain ⟨-, -, a', c', h9, hsome⟩ := hv
    cases h9
    obtain ⟨_, _, _, h9, -, hcell2⟩ := hsome h1
    cases h9
    have hcells : cellsAt H b o (xs.length * 1) = some (xs.map (Value.int .i64)) := by
      have := cellsAt_of (H := H) (b := b) (o := o) (us := xs.map (Value.int .i64)) (by cases xs; exact absurd h1 (by simp); simp) hcell2
      simpa using this
    have HCS := Lib.hid hcells
    have h0i : (0 : Int) < (xs.length : Int) := by omega
    obtain ⟨q, hq⟩ : ∃ q : Nat, at_ % (xs.length : Int) = (q : Int) := ⟨(at_ % (xs.length : Int)).toNat, by have := Int.emod_nonneg at_ (show (xs.length : Int) ≠ 0 by omega); omega⟩
    have hqlt : q < xs.length := by have := Int.emod_lt_of_pos at_ (show (0 : Int) < xs.length by omega); omega
    have hqi : (q : Int) < (xs.length : Nat) := by omega
    have hpos : (1 : Int) ≤ (xs.length : Int) := by omega
    have HQ := Lib.hid hq
    have hxq : (xs.map (Value.int .i64))[q]? = some (.int .i64 xs[q]) := by simp [hqlt]
    have HXQ := Lib.hid hxq
    clear hcell hcell2 hsome hcells h0 hq hxq
    generalize xs[q] = y at HXQ
    repeat' (first|(with_reducible first|refine zA ?_|refine zB fun K hK=>?_|refine zC fun K2 hK2=>?_|refine zD ?_|refine zE ?_|refine zF ?_|refine zG ?_|refine zH ?_|refine zI ?_|refine zM ?_|refine zN ?_|refine zO ?_|refine zP ?_|refine zQ ?_|refine zR ?_)|((with_reducible refine zU (hK _ _ ?_));clear hK K)|((with_reducible refine zV ?_ ?_ fun K1 K3 d hdst h1 h3=>?_);rfl;exact yB rfl;cases hdst;go_simp)|((with_reducible refine zW fun K1 K3 h1 h3=>?_);go_simp)|((first|refine h1 ?_|refine h3 ?_);clear h1 h3 K1 K3)|((first|refine zX (fun hb=>h1 ?_) (fun hb=>h3 ?_)|refine zX (fun hb=>h3 ?_) (fun hb=>h1 ?_))<;>(clear h1 h3 K1 K3;(try have hb2:=yC hb);(try have hb2:=yD hb);(try have hb2:=yE hb);(try have hb2:=yF hb);(try have hb2:=yG hb)))|(refine fun (K2:_→AHeap→Prop) hK2=>?_)|((with_reducible refine zY ?_ ?_);decide)|((with_reducible first|refine zZ ?_ (fun K hK=>?_)|refine yA ?_ (fun K hK=>?_));(focus go_simp;done);go_simp;refine hK _ _ ?_;clear hK K)|(go_simp;(try go_bits);(try first | ((refine lit0_k el22 sz3 ze3 rfl (by decide) ?_); go_simp) | ((refine append0_g (b := H.n) el22 sz3 by3 ze3 rfl (by decide) (AHeap.get_push_new) (by rw [AHeap.n_push]; omega) (srcCells_some h1 (((Ext.push _).cellsAt hb).trans HCS.out)) h1 (by simp) oneV_list_int (by rw [List.length_map]; show xs.length * 8 ≤ 1073741824; omega) fun H7 hn7 hg7 hk7 => ?_); (have HX7 := Lib.hid (grown_ext (Ext.push _) (Nat.le_refl _) hn7 hk7)); (have hn7' : H.n + 1 < H7.n := by rw [hn7, AHeap.n_push]; omega); (have hg7' : H7.get (H.n + 1) = .row (xs.map (Value.int .i64)) 3 := by rw [AHeap.n_push] at hg7; exact hg7); (have hcq : cellAt H7 (H.n + 1) q = some (.int .i64 y) := by simp only [cellAt, hg7']; exact HXQ.out); clear hn7 hg7 hk7; go_simp) | ((rw [aPlain_rem (a := at_) (b := (xs.length : Int)) (by go_simp) (by go_simp) h80 hpos, HQ.out]); go_simp));refine hK2 _ _ ?_;clear hK2 K2))
    have ho := own_new (base := 0) (size := 1) (n := xs.length) (H := H7.upd (H.n + 1) (.row ((xs.set q (wrap64 (y + n))).map (Value.int .i64)) 3)) (b := H.n + 1) (Nat.zero_le _) (by rw [AHeap.n_upd]; omega) AHeap.get_upd_same (by simp) h1
    refine ⟨⟨_, _, xs.set q (wrap64 (y + n)), by rw [List.length_set], ?_⟩, HX7.out.upd (by omega) _⟩
    rw [List.length_set, ← List.map_set]
    exact ints_of_own ho (by rw [List.length_set]; omega)
theorem ends_len40 (s : Sheet) (c : Copy) : (firstL s c).length ≤ 40 ∧ (lastL s c).length ≤ 40 ∧ (clashL s c).length ≤ 41 := by
  refine ⟨?_, ?_, ?_⟩
  · by_cases h : errExt s c = 0
    · obtain ⟨h0, -⟩ := errExt_ok h
      have h40 := (win_iff.1 (err_ok (errCopy_ok h0).1).2.1).2
      have := early_lenU (s := s) (c := c) h0
      have := (errCopy_ok h0).2.1
      rw [firstL, if_pos h]; omega
    · rw [firstL, if_neg h]; simp
  · by_cases h : errExt s c = 0
    · obtain ⟨h0, -⟩ := errExt_ok h
      have h40 := (win_iff.1 (err_ok (errCopy_ok h0).1).2.1).2
      have h1 := late_len (courseOf s c) c.per.toNat
      rw [courseOf_len] at h1
      have := (errCopy_ok h0).2.1
      rw [lastL, if_pos h]; omega
    · rw [lastL, if_neg h]; simp
  · by_cases h : isClash s c = true
    · have h0 : errCopy s c = 0 := by
        rw [isClash, Bool.and_eq_true, decide_eq_true_eq] at h; exact h.1
      have h40 := (win_iff.1 (err_ok (errCopy_ok h0).1).2.1).2
      have := early_lenU (s := s) (c := c) h0
      have := (errCopy_ok h0).2.1
      rw [clashL, if_pos h, List.length_append, List.length_singleton]; omega
    · rw [clashL, if_neg h]; simp
theorem clash_ok {s : Sheet} {c : Copy} (h : isClash s c = true) : errClash s c (clashL s c) = 0 := by
  rcases clash_cases s c [] [] with ⟨h1, -⟩ | ⟨-, -, -, h4, -⟩ | ⟨-, h2, -⟩
  · rw [isClash, Bool.and_eq_true, decide_eq_true_eq] at h
    rw [h.1] at h1; cases h1
  · exact h4
  · rw [h] at h2; cases h2

set_option maxHeartbeats 16000000 in
theorem law4 {H : AHeap} {sv cv lv : Value} {s : Sheet} {c : Copy} {xs : List Int} {at_ n : Int} (hv : SheetV H sv s) (hc : CopyV H cv c) (hl : Ints H lv xs) (h8 : (Lit.int .u8 at_).wf = true) : CallS Tryz.prog [] 4 [sv, cv, lv, .int .u8 at_, .int .i64 n] H fun r _ => r = .bool true := by
  have HV := Lib.hid hv
  have HC := Lib.hid hc
  have HLX := Lib.hid hl
  have h8' : 0 ≤ at_ ∧ at_ ≤ 255 := by
    have h2 : IntKind.u8.min ≤ at_ ∧ at_ ≤ IntKind.u8.max := by simpa [Lit.wf] using h8
    exact h2
  have H8 := Lib.hid h8'
  clear h8 h8'
  obtain ⟨wv, av, rfl, hw, ha⟩ := hv
  obtain ⟨hwl, wa, wc, rfl⟩ := hw.slice
  obtain ⟨hal, aa, ac, rfl⟩ := ha.slice
  obtain ⟨cv, rfl, hcw⟩ := hc
  obtain ⟨hcl, ca, cc, rfl⟩ := hcw.slice
  obtain ⟨hll, la, lc, rfl⟩ := hl.slice
  clear hw ha hcw hl
  obtain ⟨hn1, hn2, hn3⟩ := ends_len40 s c
  obtain ⟨hs1, hs2⟩ := clash_short s c
  have HX1 : Hid (Ext H ((H.push (.row [Value.slice wa s.words.length wc, Value.slice aa s.alts.length ac] 25)).push (.row [Value.slice ca c.words.length cc, .int .i64 c.beg, .int .i64 c.fin, .int .i64 c.per] 27))) := Lib.hid (((Ext.refl _).push' _).push' _)
  have HCL := Lib.hid (fun (loops : List (Nat × LInfo)) (G : AHeap) (hx : Ext H G) => clash_e (loops := loops) (HV.out.ext hx) (HC.out.ext hx))
  have HSH := Lib.hid (fun (loops : List (Nat × LInfo)) (G : AHeap) (hx : Ext H G) => refShort_s (loops := loops) (HV.out.ext hx) (HC.out.ext hx))
  have HCC := Lib.hid (fun (loops : List (Nat × LInfo)) (G : AHeap) (v : Value) (hx : Ext H G) (hi : Ints G v (clashL s c)) => refClash_s (loops := loops) (HV.out.ext hx) (HC.out.ext hx) hi)
  have HF1 := Lib.hid (fun (loops : List (Nat × LInfo)) (G : AHeap) (hx : Ext H G) => first_e (loops := loops) (HV.out.ext hx) (HC.out.ext hx))
  have HL1 := Lib.hid (fun (loops : List (Nat × LInfo)) (G : AHeap) (hx : Ext H G) => last_e (loops := loops) (HV.out.ext hx) (HC.out.ext hx))
  have HPR := Lib.hid (fun (loops : List (Nat × LInfo)) (G : AHeap) (v : Value) (fl : List Int) (hx : Ext H G) (hi : Ints G v fl) => proofs_s (loops := loops) (HV.out.ext hx) (HC.out.ext hx) hi)
  have HBE := Lib.hid (fun (loops : List (Nat × LInfo)) (G : AHeap) (v : Value) (ys : List Int) (hi : Ints G v ys) (hl : ys.length ≤ 1000) => bent_e (loops := loops) (at_ := at_) (n := n) hi H8.out hl)
  have HCK : Hid (isClash s c = true → errClash s c (clashL s c) = 0) := Lib.hid clash_ok
  generalize firstL s c = F at HF1 hn1
  generalize lastL s c = L at HL1 hn2
  generalize clashL s c = K at HCL HCC hn3 hs2 HCK
  generalize isClash s c = ic at HCL hs1 HCK
  generalize shortN s c = m at HSH hs1 hs2
  generalize errCopy s c = ec at HCL HSH
  generalize errClash s c K = ek at HCC HCK
  generalize errExt s c = ex at HF1 HL1
  have HN1 := Lib.hid (show F.length ≤ 1000 by omega)
  have HN2 := Lib.hid (show L.length ≤ 1000 by omega)
  have HN3 := Lib.hid (show K.length ≤ 1000 by omega)
  have hlb : ((K.length : Int) != m) = false := by simp [hs2]
  clear hn1 hn2 hn3 hs2
  have HCELLS : Hid (∀ G : AHeap, Ext ((H.push (.row [Value.slice wa s.words.length wc, Value.slice aa s.alts.length ac] 25)).push (.row [Value.slice ca c.words.length cc, .int .i64 c.beg, .int .i64 c.fin, .int .i64 c.per] 27)) G → cellsAt G H.n 0 2 = some [Value.slice wa s.words.length wc, Value.slice aa s.alts.length ac] ∧ cellsAt G (H.n + 1) 0 4 = some [Value.slice ca c.words.length cc, .int .i64 c.beg, .int .i64 c.fin, .int .i64 c.per] ∧ H.n + 1 < G.n ∧ H.n < G.n) := Lib.hid (fun G hx => by
    refine ⟨?_, ?_, ?_, ?_⟩
    · rw [hx.cellsAt (by simp only [AHeap.n_push]; omega), cellsAt_push, if_neg (by simp only [AHeap.n_push]; omega), cellsAt_push, if_pos rfl]; rfl
    · rw [hx.cellsAt (by simp only [AHeap.n_push]; omega), cellsAt_push, if_pos (by simp only [AHeap.n_push])]; rfl
    · have := hx.n; simp only [AHeap.n_push] at this; omega
    · have := hx.n; simp only [AHeap.n_push] at this; omega)
  refine CallS.enter' Tryz.func4 rfl Tryz.ntmps4 (by simp) fun f hd hf => ?_
  have f0 := hf 0
  have f1 := hf 1
  have f2 := hf 2
  have f3 := hf 3
  have f4 := hf 4
  simp at f0 f1 f2 f3 f4
  clear hf
  cases ic
  · have hm : ¬ 0 < m := by simpa using hs1.symm
    clear hs1
    repeat' (first|(with_reducible first|refine zA ?_|refine zB fun K hK=>?_|refine zC fun K2 hK2=>?_|refine zD ?_|refine zE ?_|refine zF ?_|refine zG ?_|refine zH ?_|refine zI ?_|refine zM ?_|refine zN ?_|refine zO ?_|refine zP ?_|refine zQ ?_|refine zR ?_)|((with_reducible refine zU (hK _ _ ?_));clear hK K)|((with_reducible refine zV ?_ ?_ fun K1 K3 d hdst h1 h3=>?_);rfl;exact yB rfl;cases hdst;go_simp)|((with_reducible refine zW fun K1 K3 h1 h3=>?_);go_simp)|((first|refine h1 ?_|refine h3 ?_);clear h1 h3 K1 K3)|((first|refine zX (fun hb=>h1 ?_) (fun hb=>h3 ?_)|refine zX (fun hb=>h3 ?_) (fun hb=>h1 ?_))<;>(clear h1 h3 K1 K3;(try have hb2:=yC hb);(try have hb2:=yD hb);(try have hb2:=yE hb);(try have hb2:=yF hb);(try have hb2:=yG hb)))|(refine fun (K2:_→AHeap→Prop) hK2=>?_)|((with_reducible refine zY ?_ ?_);decide)|((with_reducible first|refine zZ ?_ (fun K hK=>?_)|refine yA ?_ (fun K hK=>?_));(focus go_simp;done);go_simp;refine hK _ _ ?_;clear hK K)|((with_reducible refine yH mixed rfl ?_ 20 fun K0 hK0=>?_);kernel_rfl)|(with_reducible first|exact yI|exact yJ|refine yK ?_|refine yL ?_|refine yM ?_)|((with_reducible first|refine yN ?_ ?_|refine yO ?_ ?_|refine yP ?_ ?_);rfl)|((with_reducible refine yQ ?_ ?_);rfl;refine hK0 _ _ ?_;clear hK0 K0)|((with_reducible refine yR ?_ ?_ ?_ ?_);rfl;rfl;rfl)|((with_reducible refine yS ?_ ?_ ?_ fun K2 hK2=>?_);rfl;rfl;exact yB rfl)|((with_reducible refine yT ?_ ?_ ?_ ?_ fun K1 K3 d hdst h1 h3=>?_);rfl;rfl;rfl;exact yB rfl;cases hdst;go_simp)|((with_reducible refine yU ?_ ?_ ?_ ?_ fun K1 K3 d hdst h1 h3=>?_);rfl;rfl;rfl;exact yB rfl;cases hdst;go_simp)|((with_reducible refine yV ?_ ?_ (fun K2 hK2=>?_) ?_);rfl;exact yB rfl)|((with_reducible refine yW ?_ ?_ ?_ ?_ (fun K2 hK2=>?_) ?_);rfl;exact yB rfl;rfl;(focus go_simp;done))|((with_reducible refine yX ?_ ?_ ?_ (fun K2 hK2=>?_) ?_);rfl;rfl;exact yB rfl)|((with_reducible refine yY ?_ ?_ (fun K2 hK2=>?_) ?_);rfl;rfl)|((with_reducible refine yZ ?_ ?_);(first|rfl|(dsimp only;decide +kernel)))|((with_reducible refine xA ?_ ?_);(focus go_simp;done))|(go_simp;(try go_bits);(try first |((with_reducible show CallS _ _ _ _ _ _);first|(refine CallS.mono head_s ?_; rintro _ _ ⟨rfl, h9⟩; rw [h9]; clear h9; go_simp)|(refine CallS.mono (few_s (s := s) (HV.out.ext HX1.out)) ?_; rintro _ _ ⟨rfl, h9⟩; rw [h9]; clear h9; go_simp)|(refine CallS.mono (brief_s (c := c) (HC.out.ext HX1.out)) ?_; rintro _ _ ⟨rfl, h9⟩; rw [h9]; clear h9; go_simp))|((with_reducible refine CallS.mono (HCL.out _ _ HX1.out) ?_); rintro _ H2 ⟨⟨kv, rfl, hi⟩, hx⟩; (obtain ⟨-, ka, kc, rfl⟩ := hi.slice); (have HK2 := Lib.hid hi); (have HX2 := Lib.hid hx); (obtain ⟨k20, k21, k22, k23⟩ := HCELLS.out _ hx); clear hi hx; go_simp)|((with_reducible refine CallS.mono (HSH.out _ _ (HX1.out.trans HX2.out)) ?_); rintro _ _ ⟨rfl, h9⟩; rw [h9]; clear h9; go_simp)|((refine neqB_k (by first | (go_simp; done) | (go_simp; rfl)) (by first | (go_simp; done) | (go_simp; rfl)) ?_); go_simp)|((with_reducible refine CallS.mono (HCC.out _ _ _ (HX1.out.trans HX2.out) HK2.out) ?_); rintro _ _ ⟨rfl, h9⟩; rw [h9]; clear h9; go_simp)|((with_reducible refine CallS.mono (HF1.out _ _ (HX1.out.trans HX2.out)) ?_); rintro _ H3 ⟨⟨fv, rfl, hi⟩, hx⟩; (obtain ⟨-, fa, fc, rfl⟩ := hi.slice); (have HF3 := Lib.hid hi); (have HX3 := Lib.hid (HX2.out.trans hx)); (have HK3 := Lib.hid (HK2.out.ext hx)); (obtain ⟨k30, k31, k32, k33⟩ := HCELLS.out _ HX3.out); clear hi hx; go_simp)|((with_reducible refine CallS.mono (HL1.out _ _ (HX1.out.trans HX3.out)) ?_); rintro _ H4 ⟨⟨gv, rfl, hi⟩, hx⟩; (obtain ⟨-, ga, gc, rfl⟩ := hi.slice); (have HG4 := Lib.hid hi); (have HX4 := Lib.hid (HX3.out.trans hx)); (have HK4 := Lib.hid (HK3.out.ext hx)); (have HF4 := Lib.hid (HF3.out.ext hx)); (obtain ⟨k40, k41, k42, k43⟩ := HCELLS.out _ HX4.out); clear hi hx; go_simp)|((with_reducible refine CallS.mono (HPR.out _ _ _ _ (HX1.out.trans HX4.out) (HLX.out.ext (HX1.out.trans HX4.out))) ?_); rintro _ _ ⟨rfl, h9⟩; rw [h9]; clear h9; go_simp)|((with_reducible refine CallS.mono (HBE.out _ _ _ _ HF4.out HN1.out) ?_); rintro _ H5 ⟨⟨ba, bc, bs, rfl, hi⟩, hx⟩; (have HB5 := Lib.hid hi); (have HX5 := Lib.hid (HX4.out.trans hx)); (have HK5 := Lib.hid (HK4.out.ext hx)); (have HG5 := Lib.hid (HG4.out.ext hx)); (obtain ⟨k50, k51, k52, k53⟩ := HCELLS.out _ HX5.out); clear hi hx; go_simp)|((with_reducible refine CallS.mono (HPR.out _ _ _ _ (HX1.out.trans HX5.out) HB5.out) ?_); rintro _ _ ⟨rfl, h9⟩; rw [h9]; clear h9; go_simp)|((with_reducible refine CallS.mono (HBE.out _ _ _ _ HG5.out HN2.out) ?_); rintro _ H6 ⟨⟨ba6, bc6, bs6, rfl, hi⟩, hx⟩; (have HB6 := Lib.hid hi); (have HX6 := Lib.hid (HX5.out.trans hx)); (have HK6 := Lib.hid (HK5.out.ext hx)); (obtain ⟨k60, k61, k62, k63⟩ := HCELLS.out _ HX6.out); clear hi hx; go_simp)|((with_reducible refine CallS.mono (HPR.out _ _ _ _ (HX1.out.trans HX6.out) HB6.out) ?_); rintro _ _ ⟨rfl, h9⟩; rw [h9]; clear h9; go_simp)|((with_reducible refine CallS.mono (HBE.out _ _ _ _ HK6.out HN3.out) ?_); rintro _ H7 ⟨⟨ba7, bc7, bs7, rfl, hi⟩, hx⟩; (have HB7 := Lib.hid hi); (have HX7 := Lib.hid (HX6.out.trans hx)); (obtain ⟨k70, k71, k72, k73⟩ := HCELLS.out _ HX7.out); clear hi hx; go_simp)|((with_reducible refine CallS.mono (HPR.out _ _ _ _ (HX1.out.trans HX7.out) HB7.out) ?_); rintro _ _ ⟨rfl, h9⟩; rw [h9]; clear h9; go_simp));(first|(refine hK2 _ _ ?_ ?_<;>clear hK2 K2)|(refine hK2 _ _ ?_;clear hK2 K2))))
    all_goals rfl
  · have hm : 0 < m := by simpa using hs1.symm
    clear hs1
    have hek := HCK.out rfl
    rw [hek] at HCC
    clear hek HCK
    repeat' (first|(with_reducible first|refine zA ?_|refine zB fun K hK=>?_|refine zC fun K2 hK2=>?_|refine zD ?_|refine zE ?_|refine zF ?_|refine zG ?_|refine zH ?_|refine zI ?_|refine zM ?_|refine zN ?_|refine zO ?_|refine zP ?_|refine zQ ?_|refine zR ?_)|((with_reducible refine zU (hK _ _ ?_));clear hK K)|((with_reducible refine zV ?_ ?_ fun K1 K3 d hdst h1 h3=>?_);rfl;exact yB rfl;cases hdst;go_simp)|((with_reducible refine zW fun K1 K3 h1 h3=>?_);go_simp)|((first|refine h1 ?_|refine h3 ?_);clear h1 h3 K1 K3)|((first|refine zX (fun hb=>h1 ?_) (fun hb=>h3 ?_)|refine zX (fun hb=>h3 ?_) (fun hb=>h1 ?_))<;>(clear h1 h3 K1 K3;(try have hb2:=yC hb);(try have hb2:=yD hb);(try have hb2:=yE hb);(try have hb2:=yF hb);(try have hb2:=yG hb)))|(refine fun (K2:_→AHeap→Prop) hK2=>?_)|((with_reducible refine zY ?_ ?_);decide)|((with_reducible first|refine zZ ?_ (fun K hK=>?_)|refine yA ?_ (fun K hK=>?_));(focus go_simp;done);go_simp;refine hK _ _ ?_;clear hK K)|((with_reducible refine yH mixed rfl ?_ 20 fun K0 hK0=>?_);kernel_rfl)|(with_reducible first|exact yI|exact yJ|refine yK ?_|refine yL ?_|refine yM ?_)|((with_reducible first|refine yN ?_ ?_|refine yO ?_ ?_|refine yP ?_ ?_);rfl)|((with_reducible refine yQ ?_ ?_);rfl;refine hK0 _ _ ?_;clear hK0 K0)|((with_reducible refine yR ?_ ?_ ?_ ?_);rfl;rfl;rfl)|((with_reducible refine yS ?_ ?_ ?_ fun K2 hK2=>?_);rfl;rfl;exact yB rfl)|((with_reducible refine yT ?_ ?_ ?_ ?_ fun K1 K3 d hdst h1 h3=>?_);rfl;rfl;rfl;exact yB rfl;cases hdst;go_simp)|((with_reducible refine yU ?_ ?_ ?_ ?_ fun K1 K3 d hdst h1 h3=>?_);rfl;rfl;rfl;exact yB rfl;cases hdst;go_simp)|((with_reducible refine yV ?_ ?_ (fun K2 hK2=>?_) ?_);rfl;exact yB rfl)|((with_reducible refine yW ?_ ?_ ?_ ?_ (fun K2 hK2=>?_) ?_);rfl;exact yB rfl;rfl;(focus go_simp;done))|((with_reducible refine yX ?_ ?_ ?_ (fun K2 hK2=>?_) ?_);rfl;rfl;exact yB rfl)|((with_reducible refine yY ?_ ?_ (fun K2 hK2=>?_) ?_);rfl;rfl)|((with_reducible refine yZ ?_ ?_);(first|rfl|(dsimp only;decide +kernel)))|((with_reducible refine xA ?_ ?_);(focus go_simp;done))|(go_simp;(try go_bits);(try first |((with_reducible show CallS _ _ _ _ _ _);first|(refine CallS.mono head_s ?_; rintro _ _ ⟨rfl, h9⟩; rw [h9]; clear h9; go_simp)|(refine CallS.mono (few_s (s := s) (HV.out.ext HX1.out)) ?_; rintro _ _ ⟨rfl, h9⟩; rw [h9]; clear h9; go_simp)|(refine CallS.mono (brief_s (c := c) (HC.out.ext HX1.out)) ?_; rintro _ _ ⟨rfl, h9⟩; rw [h9]; clear h9; go_simp))|((with_reducible refine CallS.mono (HCL.out _ _ HX1.out) ?_); rintro _ H2 ⟨⟨kv, rfl, hi⟩, hx⟩; (obtain ⟨-, ka, kc, rfl⟩ := hi.slice); (have HK2 := Lib.hid hi); (have HX2 := Lib.hid hx); (obtain ⟨k20, k21, k22, k23⟩ := HCELLS.out _ hx); clear hi hx; go_simp)|((with_reducible refine CallS.mono (HSH.out _ _ (HX1.out.trans HX2.out)) ?_); rintro _ _ ⟨rfl, h9⟩; rw [h9]; clear h9; go_simp)|((refine neqB_k (by first | (go_simp; done) | (go_simp; rfl)) (by first | (go_simp; done) | (go_simp; rfl)) ?_); go_simp)|((with_reducible refine CallS.mono (HCC.out _ _ _ (HX1.out.trans HX2.out) HK2.out) ?_); rintro _ _ ⟨rfl, h9⟩; rw [h9]; clear h9; go_simp)|((with_reducible refine CallS.mono (HF1.out _ _ (HX1.out.trans HX2.out)) ?_); rintro _ H3 ⟨⟨fv, rfl, hi⟩, hx⟩; (obtain ⟨-, fa, fc, rfl⟩ := hi.slice); (have HF3 := Lib.hid hi); (have HX3 := Lib.hid (HX2.out.trans hx)); (have HK3 := Lib.hid (HK2.out.ext hx)); (obtain ⟨k30, k31, k32, k33⟩ := HCELLS.out _ HX3.out); clear hi hx; go_simp)|((with_reducible refine CallS.mono (HL1.out _ _ (HX1.out.trans HX3.out)) ?_); rintro _ H4 ⟨⟨gv, rfl, hi⟩, hx⟩; (obtain ⟨-, ga, gc, rfl⟩ := hi.slice); (have HG4 := Lib.hid hi); (have HX4 := Lib.hid (HX3.out.trans hx)); (have HK4 := Lib.hid (HK3.out.ext hx)); (have HF4 := Lib.hid (HF3.out.ext hx)); (obtain ⟨k40, k41, k42, k43⟩ := HCELLS.out _ HX4.out); clear hi hx; go_simp)|((with_reducible refine CallS.mono (HPR.out _ _ _ _ (HX1.out.trans HX4.out) (HLX.out.ext (HX1.out.trans HX4.out))) ?_); rintro _ _ ⟨rfl, h9⟩; rw [h9]; clear h9; go_simp)|((with_reducible refine CallS.mono (HBE.out _ _ _ _ HF4.out HN1.out) ?_); rintro _ H5 ⟨⟨ba, bc, bs, rfl, hi⟩, hx⟩; (have HB5 := Lib.hid hi); (have HX5 := Lib.hid (HX4.out.trans hx)); (have HK5 := Lib.hid (HK4.out.ext hx)); (have HG5 := Lib.hid (HG4.out.ext hx)); (obtain ⟨k50, k51, k52, k53⟩ := HCELLS.out _ HX5.out); clear hi hx; go_simp)|((with_reducible refine CallS.mono (HPR.out _ _ _ _ (HX1.out.trans HX5.out) HB5.out) ?_); rintro _ _ ⟨rfl, h9⟩; rw [h9]; clear h9; go_simp)|((with_reducible refine CallS.mono (HBE.out _ _ _ _ HG5.out HN2.out) ?_); rintro _ H6 ⟨⟨ba6, bc6, bs6, rfl, hi⟩, hx⟩; (have HB6 := Lib.hid hi); (have HX6 := Lib.hid (HX5.out.trans hx)); (have HK6 := Lib.hid (HK5.out.ext hx)); (obtain ⟨k60, k61, k62, k63⟩ := HCELLS.out _ HX6.out); clear hi hx; go_simp)|((with_reducible refine CallS.mono (HPR.out _ _ _ _ (HX1.out.trans HX6.out) HB6.out) ?_); rintro _ _ ⟨rfl, h9⟩; rw [h9]; clear h9; go_simp)|((with_reducible refine CallS.mono (HBE.out _ _ _ _ HK6.out HN3.out) ?_); rintro _ H7 ⟨⟨ba7, bc7, bs7, rfl, hi⟩, hx⟩; (have HB7 := Lib.hid hi); (have HX7 := Lib.hid (HX6.out.trans hx)); (obtain ⟨k70, k71, k72, k73⟩ := HCELLS.out _ HX7.out); clear hi hx; go_simp)|((with_reducible refine CallS.mono (HPR.out _ _ _ _ (HX1.out.trans HX7.out) HB7.out) ?_); rintro _ _ ⟨rfl, h9⟩; rw [h9]; clear h9; go_simp));(first|(refine hK2 _ _ ?_ ?_<;>clear hK2 K2)|(refine hK2 _ _ ?_;clear hK2 K2))))
    all_goals rfl
end Go.Proofs.Tryz
namespace Go.Proofs.Tryz
open Go.ChangeShapes Go.WideShapes Go.ChangeAt Go.RowKit Go.Joins Go.Deep Go.Am
set_option maxRecDepth 100000


section
variable {H : Type} {enc : TypeId × Value → H} {P : Program} {w : World} {base : Nat} {spare : Nat → Bool} {held : Bool}
theorem open_slice_fields {t e : TypeId} {fs : Array Field} {fuel : Nat} {cs : List Value} {x : DataW H × List MemPlace} (ht : P.underlying t = some (.slice e)) (he : P.underlying e = some (.struct fs))
    (hone : oneCellFields P fs = true) (hC : P.cellsOf e = fs.size) (h : DataW.trod enc P w base spare held fuel t cs = some x) :
    (cs = [.slice none 0 0] ∧ x = (.nil, [])) ∨
    ∃ (a : Addr) (len cap m : Nat) (D : Nat → DataW H) (Pl : Nat → List MemPlace), cs = [.slice (some a) len cap] ∧ base ≤ a.block ∧ len ≤ cap ∧ cap ≤ maxLen ∧ m = (if spare a.block then cap else len) ∧
      x = (.slice ((List.range len).map D) ((List.range (m - len)).map fun j => D (len + j)), MemPlace.row a (m * fs.size) ++ (List.range m).flatMap Pl) ∧
      ∀ i, i < m → ∃ (ys : List (DataW H × List MemPlace)) (n : Nat), D i = .agg (ys.map (·.1)) ∧ Pl i = ys.flatMap (·.2) ∧ ys.length = fs.size ∧
        ∀ (j : Nat) (f : Field), fs[j]? = some f → ∃ (v : Value) (y : DataW H × List MemPlace), w.cell? (a.add (i * fs.size + j)) = some v ∧ ys[j]? = some y ∧ DataW.trod enc P w base spare held n f.type [v] = some y := by
  rcases open_slice ht h with h0 | ⟨a, len, cap, m, n, D, Pl, hcs, hb, hl, hm, hmm, hx, hi⟩
  · exact .inl h0
  · refine .inr ⟨a, len, cap, m, D, Pl, hcs, hb, hl, hm, hmm, by rw [hC] at hx; exact hx, fun i him => ?_⟩
    obtain ⟨cs', hc, ht'⟩ := hi i him
    rw [hC] at hc
    obtain ⟨ys, n', hn', hy, hlen, hyl, hf⟩ := DataW.trod_struct he ht'
    obtain ⟨_, hcl, hat⟩ := World.cells?_some hc
    simp only [Prod.mk.injEq] at hy
    refine ⟨ys, n', hy.1, hy.2, hyl, fun j f hj => ?_⟩
    obtain ⟨ho, hk⟩ := hone_of hone j f hj
    have hjl : j < fs.size := (Array.getElem?_eq_some_iff.1 hj).1
    have hcell := hat j hjl
    have hv : cs'[j]? = some (cs'[j]'(by omega)) := List.getElem?_eq_getElem (by omega)
    have h1 := hf j f hj
    rw [ho, hk] at h1
    have hone' : (cs'.drop j).take 1 = [cs'[j]'(by omega)] := by
      rw [List.drop_eq_getElem_cons (by omega)]
      rfl
    rw [hone'] at h1
    have hys : ys[j]? = some (ys[j]'(by omega)) := List.getElem?_eq_getElem (by omega)
    refine ⟨_, _, ?_, hys, h1.trans hys⟩
    rw [← Go.Deep.add_add, hcell, hv]
end
theorem add_at (b o j : Nat) : (⟨b, o, none⟩ : Addr).add j = ⟨b, o + j, none⟩ := by
  unfold Addr.add
  split
  · rename_i h; subst h; rfl
  · rfl
theorem cell_lt {w : World} {p : Addr} {v : Value} (h : w.cell? p = some v) : p.block < w.heap.size := by
  rcases Nat.lt_or_ge p.block w.heap.size with hlt | hge
  · exact hlt
  · unfold World.cell? at h
    rw [Array.getElem?_eq_none hge] at h
    cases h
theorem cell_spot {w : World} {p : Addr} {v : Value} (h : w.cell? p = some v) : p.spot = none := by
  unfold World.cell? at h
  split at h
  · split at h
    · cases h
    · rename_i h0; simpa using h0
  · cases h

theorem slice_abs {w : World} {a : Addr} {len cap size d : Nat} {us : List Value} (hl : len ≤ cap) (hc : len ≤ 9223372036854775807) (hus : us.length = len * size) (hsz : 0 < size) (hplain : ∀ (j : Nat) (u : Value), us[j]? = some u → absV w.heap.size 8 u = u) (hcell : ∀ (j : Nat) (u : Value), us[j]? = some u → w.cell? (a.add j) = some u) : Cells (absH w) (absV w.heap.size (d + 1) (.slice (some a) len cap)) size len us := by
  by_cases h0 : len = 0
  · subst h0
    simp only [absV]
    split
    · exact ⟨hus, hc, _, _, rfl, by omega⟩
    · rw [if_pos trivial]; exact ⟨hus, hc, _, _, rfl, by omega⟩
  · have hpos : 0 < us.length := by rw [hus]; exact Nat.mul_pos (by omega) hsz
    have h1 := hcell 0 _ (List.getElem?_eq_getElem hpos)
    have e0 : a.add 0 = a := by unfold Addr.add; rw [if_pos rfl]
    rw [e0] at h1
    have hsp := cell_spot h1
    have hlt := cell_lt h1
    obtain ⟨b, o, sp⟩ := a
    simp only at hsp hlt
    subst hsp
    simp only [absV]
    rw [if_pos ⟨trivial, hlt, hl⟩]
    refine ⟨hus, hc, _, _, rfl, fun _ => ⟨b, o, none, rfl, by rw [absH_n]; exact hlt, fun j u hu => ?_⟩⟩
    have h2 := hcell j u hu
    rw [add_at] at h2
    rw [abs_cell h2, hplain j u hu]

section
variable {H : Type} {enc : TypeId × Value → H} {w : World}
theorem ints_abs {fuel d : Nat} {v : Value} {x : DataW H × List MemPlace} (h : DataW.trod enc Tryz.prog w 0 (fun _ => true) true fuel 22 [v] = some x) : ∃ xs, Ints (absH w) (absV w.heap.size (d + 1) v) xs := by
  rcases open_ints Tryz.underlying22 Tryz.underlying3 (by kernel_rfl) h with ⟨hcs, _⟩ | ⟨a, l, c, zs, hcs, _, hl, hm, hz, _, hcell, _⟩
  · injection hcs with hcs _
    subst hcs
    exact ⟨[], rfl, by simp, none, 0, rfl, by simp⟩
  · injection hcs with hcs _
    subst hcs
    simp only [if_true] at hz
    have hlen : (zs.take l).length = l := by rw [List.length_take]; omega
    refine ⟨zs.take l, ?_⟩
    unfold Ints
    rw [hlen]
    refine slice_abs hl (by unfold maxLen at hm; omega) (by rw [List.length_map, hlen]; omega) (by decide) (fun j u hu => ?_) (fun j u hu => ?_)
    · rw [List.getElem?_map] at hu
      obtain ⟨z, _, rfl⟩ := Option.map_eq_some_iff.1 hu
      rfl
    · rw [List.getElem?_map] at hu
      obtain ⟨z, hz1, rfl⟩ := Option.map_eq_some_iff.1 hu
      rw [List.getElem?_take] at hz1
      split at hz1
      · have hj : j < zs.length := (List.getElem?_eq_some_iff.1 hz1).1
        rw [hcell j hj, List.getD_eq_getElem?_getD, hz1]
        rfl
      · cases hz1

theorem alts_abs {fuel d : Nat} {v : Value} {x : DataW H × List MemPlace} (h : DataW.trod enc Tryz.prog w 0 (fun _ => true) true fuel 23 [v] = some x) : ∃ l, Alts (absH w) (absV w.heap.size (d + 1) v) l := by
  rcases open_slice_fields Tryz.underlying23 Tryz.underlying58 (by kernel_rfl) (by kernel_rfl) h with ⟨hcs, _⟩ | ⟨a, len, cap, m, D, Pl, hcs, _, hl, hm, hmm, _, hf⟩
  · injection hcs with hcs _
    subst hcs
    exact ⟨[], rfl, by simp, none, 0, rfl, by simp⟩
  · injection hcs with hcs _
    subst hcs
    simp only [if_true] at hmm
    have hq : ∀ i, i < len → ∃ q : Alt, ∀ j u, q.cells[j]? = some u → w.cell? (a.add (i * 6 + j)) = some u := by
      intro i hi
      obtain ⟨ys, n, _, _, _, hj⟩ := hf i (by omega)
      obtain ⟨v0, y0, hc0, _, ht0⟩ := hj 0 _ rfl
      obtain ⟨v1, y1, hc1, _, ht1⟩ := hj 1 _ rfl
      obtain ⟨v2, y2, hc2, _, ht2⟩ := hj 2 _ rfl
      obtain ⟨v3, y3, hc3, _, ht3⟩ := hj 3 _ rfl
      obtain ⟨v4, y4, hc4, _, ht4⟩ := hj 4 _ rfl
      obtain ⟨v5, y5, hc5, _, ht5⟩ := hj 5 _ rfl
      obtain ⟨z0, hz0, _, _⟩ := DataW.trod_int Tryz.underlying3 ht0
      obtain ⟨z1, hz1, _, _⟩ := DataW.trod_int Tryz.underlying3 ht1
      obtain ⟨z2, hz2, _, _⟩ := DataW.trod_int Tryz.underlying3 ht2
      obtain ⟨z3, hz3, _, _⟩ := DataW.trod_int Tryz.underlying3 ht3
      obtain ⟨z4, hz4, _, _⟩ := DataW.trod_int Tryz.underlying3 ht4
      obtain ⟨z5, hz5, _, _⟩ := DataW.trod_int Tryz.underlying3 ht5
      injection hz0 with hz0 _
      injection hz1 with hz1 _
      injection hz2 with hz2 _
      injection hz3 with hz3 _
      injection hz4 with hz4 _
      injection hz5 with hz5 _
      subst hz0 hz1 hz2 hz3 hz4 hz5
      refine ⟨⟨z0, z1, z2, z3, z4, z5⟩, fun j u hu => ?_⟩
      match j, hu with
      | 0, hu => cases hu; exact hc0
      | 1, hu => cases hu; exact hc1
      | 2, hu => cases hu; exact hc2
      | 3, hu => cases hu; exact hc3
      | 4, hu => cases hu; exact hc4
      | 5, hu => cases hu; exact hc5
      | j + 6, hu => simp [Alt.cells] at hu
    obtain ⟨f, hf'⟩ := Classical.skolem.1 (fun i => show ∃ q : Alt, i < len → ∀ j u, q.cells[j]? = some u → w.cell? (a.add (i * 6 + j)) = some u by
      by_cases hi : i < len
      · obtain ⟨q, hq⟩ := hq i hi; exact ⟨q, fun _ => hq⟩
      · exact ⟨⟨0, 0, 0, 0, 0, 0⟩, fun h => absurd h hi⟩)
    have hlen : ((List.range len).map f).length = len := by simp
    refine ⟨(List.range len).map f, ?_⟩
    unfold Alts
    rw [hlen]
    have hget : ∀ j u, (altCells ((List.range len).map f))[j]? = some u → ∃ k i, k < len ∧ j = k * 6 + i ∧ (f k).cells[i]? = some u := by
      intro j u hu
      have hj : j < len * 6 := by
        have := (List.getElem?_eq_some_iff.1 hu).1
        rw [altCells_length, hlen] at this; exact this
      have hk : j / 6 < len := by omega
      have hi : j % 6 < 6 := Nat.mod_lt _ (by decide)
      have hcl : (f (j / 6)).cells.length = 6 := rfl
      have h1 := altCells_get ((List.range len).map f) (j / 6) (by rw [hlen]; exact hk) (j % 6) ((f (j / 6)).cells[j % 6]'(by rw [hcl]; exact hi)) (by simp)
      have e : j / 6 * 6 + j % 6 = j := by omega
      rw [e, hu] at h1
      refine ⟨j / 6, j % 6, hk, e.symm, ?_⟩
      rw [List.getElem?_eq_getElem (by rw [hcl]; exact hi)]
      exact h1.symm ▸ rfl
    refine slice_abs hl (by unfold maxLen at hm; omega) (by rw [altCells_length, hlen]) (by decide) (fun j u hu => ?_) (fun j u hu => ?_)
    · obtain ⟨k, i, hk, rfl, hi⟩ := hget j u hu
      match i, hi with
      | 0, hi => cases hi; rfl
      | 1, hi => cases hi; rfl
      | 2, hi => cases hi; rfl
      | 3, hi => cases hi; rfl
      | 4, hi => cases hi; rfl
      | 5, hi => cases hi; rfl
      | i + 6, hi => simp [Alt.cells] at hi
    · obtain ⟨k, i, hk, rfl, hi⟩ := hget j u hu
      exact hf' k hk i u hi
end

theorem ownOne : ownKnob Tryz.prog.godebug = none := by kernel_rfl
theorem laidOut : laidOutB Tryz.prog = true := by kernel_rfl

theorem fields25 : ∃ f0 f1 : Field, Tryz.prog.underlying 25 = some (.struct #[f0, f1]) ∧ f0.type = 22 ∧ f1.type = 23 ∧ f0.offset = 0 ∧ f1.offset = 1 ∧ Tryz.prog.cellsOf 22 = 1 ∧ Tryz.prog.cellsOf 23 = 1 ∧ Tryz.prog.cellsOf 25 = 2 :=
  ⟨(fieldOf Tryz.prog 25 0).getD default, (fieldOf Tryz.prog 25 1).getD default, by kernel_rfl, by kernel_rfl, by kernel_rfl, by kernel_rfl, by kernel_rfl, by kernel_rfl, by kernel_rfl, by kernel_rfl⟩

section
variable {H : Type} {enc : TypeId × Value → H} {w : World}
theorem sheet_abs {r : Reach} {b0 : Nat} {v : Value} {d : DataW H} {p : List MemPlace} (hval : Value.okWide Tryz.prog w r b0 25 v) (h : DataW.Trod enc Tryz.prog w 0 (fun _ => true) true 25 v d p) : ∃ s, SheetV (absH w) (absV w.heap.size 8 v) s := by
  obtain ⟨f0, f1, hu, h0, h1, h2, h3, h4, h5, h6⟩ := fields25
  obtain ⟨cs, rfl, hcs⟩ := okWide_struct hu hval
  obtain ⟨fuel, hf⟩ := h
  obtain ⟨y0, y1, n, _, _, ht0, ht1⟩ := trod_struct2 hu hf
  rw [h6] at hcs
  obtain ⟨a, b, rfl⟩ : ∃ a b, cs = #[a, b] := by
    obtain ⟨l⟩ := cs
    match l, hcs with
    | [a, b], _ => exact ⟨a, b, rfl⟩
  rw [h0, h2, h4] at ht0
  rw [h1, h3, h5] at ht1
  obtain ⟨xs, hx⟩ := ints_abs (d := 6) (v := a) (by simpa [Value.cells] using ht0)
  obtain ⟨l, hl⟩ := alts_abs (d := 6) (v := b) (by simpa [Value.cells] using ht1)
  exact ⟨⟨xs, l⟩, _, _, by simp [absV], hx, hl⟩
end

theorem fields27 : ∃ f0 f1 f2 f3 : Field, Tryz.prog.underlying 27 = some (.struct #[f0, f1, f2, f3]) ∧ (f0.type = 22 ∧ f1.type = 3 ∧ f2.type = 3 ∧ f3.type = 3) ∧ (f0.offset = 0 ∧ f1.offset = 1 ∧ f2.offset = 2 ∧ f3.offset = 3) ∧ Tryz.prog.cellsOf 22 = 1 ∧ Tryz.prog.cellsOf 3 = 1 ∧ Tryz.prog.cellsOf 27 = 4 :=
  ⟨(fieldOf Tryz.prog 27 0).getD default, (fieldOf Tryz.prog 27 1).getD default, (fieldOf Tryz.prog 27 2).getD default, (fieldOf Tryz.prog 27 3).getD default, by kernel_rfl, by refine ⟨?_, ?_, ?_, ?_⟩ <;> kernel_rfl, by refine ⟨?_, ?_, ?_, ?_⟩ <;> kernel_rfl, by kernel_rfl, by kernel_rfl, by kernel_rfl⟩
section
variable {H : Type} {enc : TypeId × Value → H} {w : World}
theorem copy_abs {r : Reach} {b0 : Nat} {v : Value} {d : DataW H} {p : List MemPlace} (hval : Value.okWide Tryz.prog w r b0 27 v) (h : DataW.Trod enc Tryz.prog w 0 (fun _ => true) true 27 v d p) : ∃ c, CopyV (absH w) (absV w.heap.size 8 v) c := by
  obtain ⟨f0, f1, f2, f3, hu, ⟨t0, t1, t2, t3⟩, ⟨o0, o1, o2, o3⟩, h4, h5, h6⟩ := fields27
  obtain ⟨cs, rfl, hcs⟩ := okWide_struct hu hval
  obtain ⟨fuel, hf⟩ := h
  obtain ⟨xs, n, _, _, _, _, ht⟩ := DataW.trod_struct hu hf
  rw [h6] at hcs
  obtain ⟨a, b, c, e, rfl⟩ : ∃ a b c e, cs = #[a, b, c, e] := by
    obtain ⟨l⟩ := cs
    match l, hcs with
    | [a, b, c, e], _ => exact ⟨a, b, c, e, rfl⟩
  have ht0 := ht 0 f0 rfl
  have ht1 := ht 1 f1 rfl
  have ht2 := ht 2 f2 rfl
  have ht3 := ht 3 f3 rfl
  rw [t0, o0, h4] at ht0
  rw [t1, o1, h5] at ht1
  rw [t2, o2, h5] at ht2
  rw [t3, o3, h5] at ht3
  have hlen : xs.length = 4 := by assumption
  rw [List.getElem?_eq_getElem (by omega)] at ht0 ht1 ht2 ht3
  obtain ⟨ws, hx⟩ := ints_abs (d := 6) (v := a) (by simpa [Value.cells] using ht0)
  obtain ⟨z1, hz1, _, _⟩ := DataW.trod_int Tryz.underlying3 (show DataW.trod enc Tryz.prog w 0 (fun _ => true) true n 3 [b] = _ by simpa [Value.cells] using ht1)
  obtain ⟨z2, hz2, _, _⟩ := DataW.trod_int Tryz.underlying3 (show DataW.trod enc Tryz.prog w 0 (fun _ => true) true n 3 [c] = _ by simpa [Value.cells] using ht2)
  obtain ⟨z3, hz3, _, _⟩ := DataW.trod_int Tryz.underlying3 (show DataW.trod enc Tryz.prog w 0 (fun _ => true) true n 3 [e] = _ by simpa [Value.cells] using ht3)
  injection hz1 with hz1 _
  injection hz2 with hz2 _
  injection hz3 with hz3 _
  subst hz1 hz2 hz3
  exact ⟨⟨ws, z1, z2, z3⟩, _, by simp [absV], hx⟩
theorem list_abs {r : Reach} {b0 : Nat} {v : Value} {d : DataW H} {p : List MemPlace} (hval : Value.okWide Tryz.prog w r b0 22 v) (h : DataW.Trod enc Tryz.prog w 0 (fun _ => true) true 22 v d p) : ∃ xs, Ints (absH w) (absV w.heap.size 8 v) xs := by
  obtain ⟨a, len, cap, rfl⟩ := okWide_slice Tryz.underlying22 hval
  obtain ⟨fuel, hf⟩ := h
  exact ints_abs (d := 7) hf
end
end Go.Proofs.Tryz
