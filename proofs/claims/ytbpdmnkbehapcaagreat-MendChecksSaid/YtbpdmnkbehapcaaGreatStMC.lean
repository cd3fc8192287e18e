/- Contracts of functions, walked. -/
import Derived.Test.YtbpdmnkbehapcaaGreatStN6
import Derived.Test.YtbpdmnkbehapcaaGreatStMA
set_option linter.all false
namespace Go.Proofs.Tryz
open Go Go.Am Go.RowKit
set_option maxRecDepth 100000


theorem rcan_s {loops : List (Nat × LInfo)} {H : AHeap} {v lv : Value} {t : Tour} {ids : List Int} (hv : TourV H v t) (hl : Ints H lv ids) :
    CallS Tryz.prog loops 19 [v, lv] H fun r H' => r = .tuple #[.bool (t.can ids), .int .i64 (errList t ids)] ∧ H' = H := by
  refine CallS.forget (R := fun r => r = .tuple #[.bool (t.can ids), .int .i64 (errList t ids)]) (by rintro v rfl; rfl) ?_
  have HV := Lib.hid hv
  have HL := Lib.hid hl
  have HLI := Lib.hid (fun (loops : List (Nat × LInfo)) (H2 : AHeap) (hx : Ext H H2) => rlisted_s (loops := loops) (HV.out.ext hx) (HL.out.ext hx))
  by_cases he : errList t ids = 0
  case' neg =>
    have HE : t.can ids = false := by rw [Tour.can, decide_eq_false he]; rfl
    rw [HE]
    generalize errList t ids = er at HLI he ⊢
    have heb : (er != 0) = true := by simpa using he
    obtain ⟨cv, fv, rfl, hc, hf⟩ := hv
    obtain ⟨hcl', ca, cc, rfl⟩ := hc.slice
    obtain ⟨hfl, fa, fc, rfl⟩ := hf.slice
    obtain ⟨hll, la, lc, rfl⟩ := hl.slice
    clear hc hf hl he HE
    refine CallS.enter' Tryz.func19 rfl Tryz.ntmps19 (by simp) fun f hd hf => ?_
    have f0 := hf 0
    have f1 := hf 1
    simp at f0 f1
    clear hf
    repeat' (first|(with_reducible first|refine zA ?_|refine zB fun K hK=>?_|refine zC fun K2 hK2=>?_|refine zD ?_|refine zE ?_|refine zF ?_|refine zG ?_|refine zH ?_|refine zI ?_|refine zM ?_|refine zN ?_|refine zO ?_|refine zP ?_|refine zQ ?_|refine zR ?_)|((with_reducible refine zU (hK _ _ ?_));clear hK K)|((with_reducible refine zV ?_ ?_ fun K1 K3 d hdst h1 h3=>?_);rfl;exact yB rfl;cases hdst;go_simp)|((with_reducible refine zW fun K1 K3 h1 h3=>?_);go_simp)|((first|refine h1 ?_|refine h3 ?_);clear h1 h3 K1 K3)|((first|refine zX (fun hb=>h1 ?_) (fun hb=>h3 ?_)|refine zX (fun hb=>h3 ?_) (fun hb=>h1 ?_))<;>(clear h1 h3 K1 K3;(try have hb2:=yC hb);(try have hb2:=yD hb);(try have hb2:=yE hb);(try have hb2:=yF hb);(try have hb2:=yG hb)))|(refine fun (K2:_→AHeap→Prop) hK2=>?_)|((with_reducible refine zY ?_ ?_);decide)|((with_reducible first|refine zZ ?_ (fun K hK=>?_)|refine yA ?_ (fun K hK=>?_));(focus go_simp;done);go_simp;refine hK _ _ ?_;clear hK K)|(go_simp;(try go_bits);(try first | ((with_reducible show CallS _ _ _ _ _ _);refine CallS.mono (HLI.out _ _ (by first | exact (Ext.refl _).push' _ | exact ((Ext.refl _).push' _).push' _ | exact (((Ext.refl _).push' _).push' _).push' _)) ?_; rintro _ _ ⟨rfl, rfl⟩));refine hK2 _ _ ?_;clear hK2 K2))
    exact ⟨rfl, by first | exact (Ext.refl _).push' _ | exact ((Ext.refl _).push' _).push' _⟩
  have hg := good_list he
  have HFI := Lib.hid (fun (loops : List (Nat × LInfo)) (H2 : AHeap) (hx : Ext H H2) => rfirst_s (loops := loops) (HV.out.ext hx) (HL.out.ext hx) hg.1 hg.2)
  have HC : t.can ids = (t.jam ids).isNone := by rw [Tour.can, decide_eq_true he]; rfl
  rw [HC, he]
  rw [he] at HLI
  obtain ⟨cv, fv, rfl, hc, hf⟩ := hv
  obtain ⟨hcl', ca, cc, rfl⟩ := hc.slice
  obtain ⟨hfl, fa, fc, rfl⟩ := hf.slice
  obtain ⟨hll, la, lc, rfl⟩ := hl.slice
  clear hc hf hl he hg HC
  generalize t.jam ids = o at HFI ⊢
  refine CallS.enter' Tryz.func19 rfl Tryz.ntmps19 (by simp) fun f hd hf => ?_
  have f0 := hf 0
  have f1 := hf 1
  simp at f0 f1
  clear hf
  cases o with
  | none =>
    repeat' (first|(with_reducible first|refine zA ?_|refine zB fun K hK=>?_|refine zC fun K2 hK2=>?_|refine zD ?_|refine zE ?_|refine zF ?_|refine zG ?_|refine zH ?_|refine zI ?_|refine zM ?_|refine zN ?_|refine zO ?_|refine zP ?_|refine zQ ?_|refine zR ?_)|((with_reducible refine zU (hK _ _ ?_));clear hK K)|((with_reducible refine zV ?_ ?_ fun K1 K3 d hdst h1 h3=>?_);rfl;exact yB rfl;cases hdst;go_simp)|((with_reducible refine zW fun K1 K3 h1 h3=>?_);go_simp)|((first|refine h1 ?_|refine h3 ?_);clear h1 h3 K1 K3)|((first|refine zX (fun hb=>h1 ?_) (fun hb=>h3 ?_)|refine zX (fun hb=>h3 ?_) (fun hb=>h1 ?_))<;>(clear h1 h3 K1 K3;(try have hb2:=yC hb);(try have hb2:=yD hb);(try have hb2:=yE hb);(try have hb2:=yF hb);(try have hb2:=yG hb)))|(refine fun (K2:_→AHeap→Prop) hK2=>?_)|((with_reducible refine zY ?_ ?_);decide)|((with_reducible first|refine zZ ?_ (fun K hK=>?_)|refine yA ?_ (fun K hK=>?_));(focus go_simp;done);go_simp;refine hK _ _ ?_;clear hK K)|(go_simp;(try go_bits);(try first |((with_reducible show CallS _ _ _ _ _ _);first|(refine CallS.mono (HLI.out _ _ (by first | exact (Ext.refl _).push' _ | exact ((Ext.refl _).push' _).push' _ | exact (((Ext.refl _).push' _).push' _).push' _)) ?_; rintro _ _ ⟨rfl, rfl⟩)|(refine CallS.mono (HFI.out _ _ (by first | exact (Ext.refl _).push' _ | exact ((Ext.refl _).push' _).push' _ | exact (((Ext.refl _).push' _).push' _).push' _)) ?_; rintro _ _ ⟨rfl, rfl⟩; simp only [firstR])));refine hK2 _ _ ?_;clear hK2 K2))
    exact ⟨rfl, by first | exact (Ext.refl _).push' _ | exact ((Ext.refl _).push' _).push' _⟩
  | some x =>
    obtain ⟨lo, hi⟩ := x
    repeat' (first|(with_reducible first|refine zA ?_|refine zB fun K hK=>?_|refine zC fun K2 hK2=>?_|refine zD ?_|refine zE ?_|refine zF ?_|refine zG ?_|refine zH ?_|refine zI ?_|refine zM ?_|refine zN ?_|refine zO ?_|refine zP ?_|refine zQ ?_|refine zR ?_)|((with_reducible refine zU (hK _ _ ?_));clear hK K)|((with_reducible refine zV ?_ ?_ fun K1 K3 d hdst h1 h3=>?_);rfl;exact yB rfl;cases hdst;go_simp)|((with_reducible refine zW fun K1 K3 h1 h3=>?_);go_simp)|((first|refine h1 ?_|refine h3 ?_);clear h1 h3 K1 K3)|((first|refine zX (fun hb=>h1 ?_) (fun hb=>h3 ?_)|refine zX (fun hb=>h3 ?_) (fun hb=>h1 ?_))<;>(clear h1 h3 K1 K3;(try have hb2:=yC hb);(try have hb2:=yD hb);(try have hb2:=yE hb);(try have hb2:=yF hb);(try have hb2:=yG hb)))|(refine fun (K2:_→AHeap→Prop) hK2=>?_)|((with_reducible refine zY ?_ ?_);decide)|((with_reducible first|refine zZ ?_ (fun K hK=>?_)|refine yA ?_ (fun K hK=>?_));(focus go_simp;done);go_simp;refine hK _ _ ?_;clear hK K)|(go_simp;(try go_bits);(try first |((with_reducible show CallS _ _ _ _ _ _);first|(refine CallS.mono (HLI.out _ _ (by first | exact (Ext.refl _).push' _ | exact ((Ext.refl _).push' _).push' _ | exact (((Ext.refl _).push' _).push' _).push' _)) ?_; rintro _ _ ⟨rfl, rfl⟩)|(refine CallS.mono (HFI.out _ _ (by first | exact (Ext.refl _).push' _ | exact ((Ext.refl _).push' _).push' _ | exact (((Ext.refl _).push' _).push' _).push' _)) ?_; rintro _ _ ⟨rfl, rfl⟩; simp only [firstR])));refine hK2 _ _ ?_;clear hK2 K2))
    exact ⟨rfl, by first | exact (Ext.refl _).push' _ | exact ((Ext.refl _).push' _).push' _⟩

theorem rJam_s {loops : List (Nat × LInfo)} {H : AHeap} {v lv : Value} {t : Tour} {ids : List Int} (hv : TourV H v t) (hl : Ints H lv ids) :
    CallS Tryz.prog loops 21 [v, lv] H fun r H' => r = jamR (errList t ids) (if errList t ids = 0 then t.jam ids else none) ∧ H' = H := by
  refine CallS.forget (R := fun r => r = jamR (errList t ids) (if errList t ids = 0 then t.jam ids else none)) (by rintro v rfl; cases (if errList t ids = 0 then t.jam ids else none) <;> rfl) ?_
  have HV := Lib.hid hv
  have HL := Lib.hid hl
  have HLI := Lib.hid (fun (loops : List (Nat × LInfo)) (H2 : AHeap) (hx : Ext H H2) => rlisted_s (loops := loops) (HV.out.ext hx) (HL.out.ext hx))
  by_cases he : errList t ids = 0
  case' neg =>
    rw [if_neg he]
    generalize errList t ids = er at HLI he ⊢
    have heb : (er != 0) = true := by simpa using he
    obtain ⟨cv, fv, rfl, hc, hf⟩ := hv
    obtain ⟨hcl', ca, cc, rfl⟩ := hc.slice
    obtain ⟨hfl, fa, fc, rfl⟩ := hf.slice
    obtain ⟨hll, la, lc, rfl⟩ := hl.slice
    clear hc hf hl he
    refine CallS.enter' Tryz.func21 rfl Tryz.ntmps21 (by simp) fun f hd hf => ?_
    have f0 := hf 0
    have f1 := hf 1
    simp at f0 f1
    clear hf
    repeat' (first|(with_reducible first|refine zA ?_|refine zB fun K hK=>?_|refine zC fun K2 hK2=>?_|refine zD ?_|refine zE ?_|refine zF ?_|refine zG ?_|refine zH ?_|refine zI ?_|refine zM ?_|refine zN ?_|refine zO ?_|refine zP ?_|refine zQ ?_|refine zR ?_)|((with_reducible refine zU (hK _ _ ?_));clear hK K)|((with_reducible refine zV ?_ ?_ fun K1 K3 d hdst h1 h3=>?_);rfl;exact yB rfl;cases hdst;go_simp)|((with_reducible refine zW fun K1 K3 h1 h3=>?_);go_simp)|((first|refine h1 ?_|refine h3 ?_);clear h1 h3 K1 K3)|((first|refine zX (fun hb=>h1 ?_) (fun hb=>h3 ?_)|refine zX (fun hb=>h3 ?_) (fun hb=>h1 ?_))<;>(clear h1 h3 K1 K3;(try have hb2:=yC hb);(try have hb2:=yD hb);(try have hb2:=yE hb);(try have hb2:=yF hb);(try have hb2:=yG hb)))|(refine fun (K2:_→AHeap→Prop) hK2=>?_)|((with_reducible refine zY ?_ ?_);decide)|((with_reducible first|refine zZ ?_ (fun K hK=>?_)|refine yA ?_ (fun K hK=>?_));(focus go_simp;done);go_simp;refine hK _ _ ?_;clear hK K)|(go_simp;(try go_bits);(try first | ((with_reducible show CallS _ _ _ _ _ _);refine CallS.mono (HLI.out _ _ (by first | exact (Ext.refl _).push' _ | exact ((Ext.refl _).push' _).push' _ | exact (((Ext.refl _).push' _).push' _).push' _)) ?_; rintro _ _ ⟨rfl, rfl⟩));refine hK2 _ _ ?_;clear hK2 K2))
    exact ⟨rfl, by first | exact ((Ext.refl _).push' _).push' _ | exact (Ext.refl _).push' _⟩
  have hg := good_list he
  have HFI := Lib.hid (fun (loops : List (Nat × LInfo)) (H2 : AHeap) (hx : Ext H H2) => rfirst_s (loops := loops) (HV.out.ext hx) (HL.out.ext hx) hg.1 hg.2)
  rw [if_pos he, he]
  rw [he] at HLI
  obtain ⟨cv, fv, rfl, hc, hf⟩ := hv
  obtain ⟨hcl', ca, cc, rfl⟩ := hc.slice
  obtain ⟨hfl, fa, fc, rfl⟩ := hf.slice
  obtain ⟨hll, la, lc, rfl⟩ := hl.slice
  clear hc hf hl he hg
  generalize t.jam ids = o at HFI ⊢
  refine CallS.enter' Tryz.func21 rfl Tryz.ntmps21 (by simp) fun f hd hf => ?_
  have f0 := hf 0
  have f1 := hf 1
  simp at f0 f1
  clear hf
  cases o with
  | none =>
    repeat' (first|(with_reducible first|refine zA ?_|refine zB fun K hK=>?_|refine zC fun K2 hK2=>?_|refine zD ?_|refine zE ?_|refine zF ?_|refine zG ?_|refine zH ?_|refine zI ?_|refine zM ?_|refine zN ?_|refine zO ?_|refine zP ?_|refine zQ ?_|refine zR ?_)|((with_reducible refine zU (hK _ _ ?_));clear hK K)|((with_reducible refine zV ?_ ?_ fun K1 K3 d hdst h1 h3=>?_);rfl;exact yB rfl;cases hdst;go_simp)|((with_reducible refine zW fun K1 K3 h1 h3=>?_);go_simp)|((first|refine h1 ?_|refine h3 ?_);clear h1 h3 K1 K3)|((first|refine zX (fun hb=>h1 ?_) (fun hb=>h3 ?_)|refine zX (fun hb=>h3 ?_) (fun hb=>h1 ?_))<;>(clear h1 h3 K1 K3;(try have hb2:=yC hb);(try have hb2:=yD hb);(try have hb2:=yE hb);(try have hb2:=yF hb);(try have hb2:=yG hb)))|(refine fun (K2:_→AHeap→Prop) hK2=>?_)|((with_reducible refine zY ?_ ?_);decide)|((with_reducible first|refine zZ ?_ (fun K hK=>?_)|refine yA ?_ (fun K hK=>?_));(focus go_simp;done);go_simp;refine hK _ _ ?_;clear hK K)|(go_simp;(try go_bits);(try first |((with_reducible show CallS _ _ _ _ _ _);first|(refine CallS.mono (HLI.out _ _ (by first | exact (Ext.refl _).push' _ | exact ((Ext.refl _).push' _).push' _ | exact (((Ext.refl _).push' _).push' _).push' _)) ?_; rintro _ _ ⟨rfl, rfl⟩)|(refine CallS.mono (HFI.out _ _ (by first | exact (Ext.refl _).push' _ | exact ((Ext.refl _).push' _).push' _ | exact (((Ext.refl _).push' _).push' _).push' _)) ?_; rintro _ _ ⟨rfl, rfl⟩; simp only [firstR])));refine hK2 _ _ ?_;clear hK2 K2))
    refine ⟨rfl, ?_⟩
    first | exact (((Ext.refl _).push' _).push' _).push' _ | exact ((Ext.refl _).push' _).push' _ | exact (Ext.refl _).push' _ | exact (((Ext.refl _).push' _).push' _).upd (by simp only [AHeap.n_push]; omega) _ | exact ((((Ext.refl _).push' _).push' _).upd (by simp only [AHeap.n_push]; omega) _).push' _
  | some x =>
    obtain ⟨lo, hi⟩ := x
    repeat' (first|(with_reducible first|refine zA ?_|refine zB fun K hK=>?_|refine zC fun K2 hK2=>?_|refine zD ?_|refine zE ?_|refine zF ?_|refine zG ?_|refine zH ?_|refine zI ?_|refine zM ?_|refine zN ?_|refine zO ?_|refine zP ?_|refine zQ ?_|refine zR ?_)|((with_reducible refine zU (hK _ _ ?_));clear hK K)|((with_reducible refine zV ?_ ?_ fun K1 K3 d hdst h1 h3=>?_);rfl;exact yB rfl;cases hdst;go_simp)|((with_reducible refine zW fun K1 K3 h1 h3=>?_);go_simp)|((first|refine h1 ?_|refine h3 ?_);clear h1 h3 K1 K3)|((first|refine zX (fun hb=>h1 ?_) (fun hb=>h3 ?_)|refine zX (fun hb=>h3 ?_) (fun hb=>h1 ?_))<;>(clear h1 h3 K1 K3;(try have hb2:=yC hb);(try have hb2:=yD hb);(try have hb2:=yE hb);(try have hb2:=yF hb);(try have hb2:=yG hb)))|(refine fun (K2:_→AHeap→Prop) hK2=>?_)|((with_reducible refine zY ?_ ?_);decide)|((with_reducible first|refine zZ ?_ (fun K hK=>?_)|refine yA ?_ (fun K hK=>?_));(focus go_simp;done);go_simp;refine hK _ _ ?_;clear hK K)|(go_simp;(try go_bits);(try first |((with_reducible show CallS _ _ _ _ _ _);first|(refine CallS.mono (HLI.out _ _ (by first | exact (Ext.refl _).push' _ | exact ((Ext.refl _).push' _).push' _ | exact (((Ext.refl _).push' _).push' _).push' _)) ?_; rintro _ _ ⟨rfl, rfl⟩)|(refine CallS.mono (HFI.out _ _ (by first | exact (Ext.refl _).push' _ | exact ((Ext.refl _).push' _).push' _ | exact (((Ext.refl _).push' _).push' _).push' _)) ?_; rintro _ _ ⟨rfl, rfl⟩; simp only [firstR])));refine hK2 _ _ ?_;clear hK2 K2))
    refine ⟨rfl, ?_⟩
    first | exact (((Ext.refl _).push' _).push' _).push' _ | exact ((Ext.refl _).push' _).push' _ | exact (Ext.refl _).push' _ | exact (((Ext.refl _).push' _).push' _).upd (by simp only [AHeap.n_push]; omega) _ | exact ((((Ext.refl _).push' _).push' _).upd (by simp only [AHeap.n_push]; omega) _).push' _

theorem rcheckJam_s {loops : List (Nat × LInfo)} {H : AHeap} {v lv : Value} {t : Tour} {ids : List Int} {lo hi : Int} (hv : TourV H v t) (hl : Ints H lv ids) :
    CallS Tryz.prog loops 26 [v, lv, .agg #[.int .i64 lo, .int .i64 hi]] H fun r H' => r = .int .i64 (t.checkJam ids lo hi) ∧ H' = H := by
  refine CallS.forget (R := fun r => r = .int .i64 (t.checkJam ids lo hi)) (by rintro v rfl; rfl) ?_
  have HV := Lib.hid hv
  have HL := Lib.hid hl
  have HLI := Lib.hid (fun (loops : List (Nat × LInfo)) (H2 : AHeap) (hx : Ext H H2) => rlisted_s (loops := loops) (HV.out.ext hx) (HL.out.ext hx))
  unfold Tour.checkJam
  by_cases he : errList t ids = 0
  case' neg =>
    rw [if_pos he]
    generalize errList t ids = er at HLI he ⊢
    have heb : (er == 0) = false := by simpa using he
    obtain ⟨cv, fv, rfl, hc, hf⟩ := hv
    obtain ⟨hcl', ca, cc, rfl⟩ := hc.slice
    obtain ⟨hfl, fa, fc, rfl⟩ := hf.slice
    obtain ⟨hll, la, lc, rfl⟩ := hl.slice
    clear hc hf hl he
    refine CallS.enter' Tryz.func26 rfl Tryz.ntmps26 (by simp) fun f hd hf => ?_
    have f0 := hf 0
    have f1 := hf 1
    have f2 := hf 2
    simp at f0 f1 f2
    clear hf
    repeat' (first|(with_reducible first|refine zA ?_|refine zB fun K hK=>?_|refine zC fun K2 hK2=>?_|refine zD ?_|refine zE ?_|refine zF ?_|refine zG ?_|refine zH ?_|refine zI ?_|refine zM ?_|refine zN ?_|refine zO ?_|refine zP ?_|refine zQ ?_|refine zR ?_)|((with_reducible refine zU (hK _ _ ?_));clear hK K)|((with_reducible refine zV ?_ ?_ fun K1 K3 d hdst h1 h3=>?_);rfl;exact yB rfl;cases hdst;go_simp)|((with_reducible refine zW fun K1 K3 h1 h3=>?_);go_simp)|((first|refine h1 ?_|refine h3 ?_);clear h1 h3 K1 K3)|((first|refine zX (fun hb=>h1 ?_) (fun hb=>h3 ?_)|refine zX (fun hb=>h3 ?_) (fun hb=>h1 ?_))<;>(clear h1 h3 K1 K3;(try have hb2:=yC hb);(try have hb2:=yD hb);(try have hb2:=yE hb);(try have hb2:=yF hb);(try have hb2:=yG hb)))|(refine fun (K2:_→AHeap→Prop) hK2=>?_)|((with_reducible refine zY ?_ ?_);decide)|((with_reducible first|refine zZ ?_ (fun K hK=>?_)|refine yA ?_ (fun K hK=>?_));(focus go_simp;done);go_simp;refine hK _ _ ?_;clear hK K)|(go_simp;(try go_bits);(try first | ((with_reducible show CallS _ _ _ _ _ _);refine CallS.mono (HLI.out _ _ (((Ext.refl _).push' _).push' _)) ?_; rintro _ _ ⟨rfl, rfl⟩));refine hK2 _ _ ?_;clear hK2 K2))
    exact ⟨rfl, ((Ext.refl _).push' _).push' _⟩
  have hg := good_list he
  have HSP := Lib.hid (fun (loops : List (Nat × LInfo)) (H2 : AHeap) (hx : Ext H H2) => span_s (loops := loops) (lo := lo) (hi := hi) (HV.out.ext hx))
  rw [if_neg (by simp [he])]
  rw [he] at HLI
  by_cases hs : t.isSpan lo hi = true
  case' neg =>
    have hsf : t.isSpan lo hi = false := by simpa using hs
    have HJ : t.isJam ids lo hi = false := by rw [Tour.isJam, hsf]; rfl
    rw [HJ]
    rw [hsf] at HSP
    obtain ⟨cv, fv, rfl, hc, hf⟩ := hv
    obtain ⟨hcl', ca, cc, rfl⟩ := hc.slice
    obtain ⟨hfl, fa, fc, rfl⟩ := hf.slice
    obtain ⟨hll, la, lc, rfl⟩ := hl.slice
    clear hc hf hl he hg hs hsf HJ
    refine CallS.enter' Tryz.func26 rfl Tryz.ntmps26 (by simp) fun f hd hf => ?_
    have f0 := hf 0
    have f1 := hf 1
    have f2 := hf 2
    simp at f0 f1 f2
    clear hf
    repeat' (first|(with_reducible first|refine zA ?_|refine zB fun K hK=>?_|refine zC fun K2 hK2=>?_|refine zD ?_|refine zE ?_|refine zF ?_|refine zG ?_|refine zH ?_|refine zI ?_|refine zM ?_|refine zN ?_|refine zO ?_|refine zP ?_|refine zQ ?_|refine zR ?_)|((with_reducible refine zU (hK _ _ ?_));clear hK K)|((with_reducible refine zV ?_ ?_ fun K1 K3 d hdst h1 h3=>?_);rfl;exact yB rfl;cases hdst;go_simp)|((with_reducible refine zW fun K1 K3 h1 h3=>?_);go_simp)|((first|refine h1 ?_|refine h3 ?_);clear h1 h3 K1 K3)|((first|refine zX (fun hb=>h1 ?_) (fun hb=>h3 ?_)|refine zX (fun hb=>h3 ?_) (fun hb=>h1 ?_))<;>(clear h1 h3 K1 K3;(try have hb2:=yC hb);(try have hb2:=yD hb);(try have hb2:=yE hb);(try have hb2:=yF hb);(try have hb2:=yG hb)))|(refine fun (K2:_→AHeap→Prop) hK2=>?_)|((with_reducible refine zY ?_ ?_);decide)|((with_reducible first|refine zZ ?_ (fun K hK=>?_)|refine yA ?_ (fun K hK=>?_));(focus go_simp;done);go_simp;refine hK _ _ ?_;clear hK K)|(go_simp;(try go_bits);(try first |((with_reducible show CallS _ _ _ _ _ _);first|(refine CallS.mono (HLI.out _ _ (((Ext.refl _).push' _).push' _)) ?_; rintro _ _ ⟨rfl, rfl⟩)|(refine CallS.mono (HSP.out _ _ (((Ext.refl _).push' _).push' _)) ?_; rintro _ _ ⟨rfl, rfl⟩)));refine hK2 _ _ ?_;clear hK2 K2))
    exact ⟨rfl, ((Ext.refl _).push' _).push' _⟩
  have hd6 := hg.1.days
  rw [win_iff] at hd6
  have HRJ := Lib.hid (fun (loops : List (Nat × LInfo)) (H2 : AHeap) (hx : Ext H H2) => rjam_s (loops := loops) (HV.out.ext hx) (HL.out.ext hx) hd6.2 hg.2 hs)
  rw [hs] at HSP
  generalize t.isJam ids lo hi = ij at HRJ ⊢
  obtain ⟨cv, fv, rfl, hc, hf⟩ := hv
  obtain ⟨hcl', ca, cc, rfl⟩ := hc.slice
  obtain ⟨hfl, fa, fc, rfl⟩ := hf.slice
  obtain ⟨hll, la, lc, rfl⟩ := hl.slice
  clear hc hf hl he hg hs hd6
  refine CallS.enter' Tryz.func26 rfl Tryz.ntmps26 (by simp) fun f hd hf => ?_
  have f0 := hf 0
  have f1 := hf 1
  have f2 := hf 2
  simp at f0 f1 f2
  clear hf
  cases ij
  all_goals (repeat' (first|(with_reducible first|refine zA ?_|refine zB fun K hK=>?_|refine zC fun K2 hK2=>?_|refine zD ?_|refine zE ?_|refine zF ?_|refine zG ?_|refine zH ?_|refine zI ?_|refine zM ?_|refine zN ?_|refine zO ?_|refine zP ?_|refine zQ ?_|refine zR ?_)|((with_reducible refine zU (hK _ _ ?_));clear hK K)|((with_reducible refine zV ?_ ?_ fun K1 K3 d hdst h1 h3=>?_);rfl;exact yB rfl;cases hdst;go_simp)|((with_reducible refine zW fun K1 K3 h1 h3=>?_);go_simp)|((first|refine h1 ?_|refine h3 ?_);clear h1 h3 K1 K3)|((first|refine zX (fun hb=>h1 ?_) (fun hb=>h3 ?_)|refine zX (fun hb=>h3 ?_) (fun hb=>h1 ?_))<;>(clear h1 h3 K1 K3;(try have hb2:=yC hb);(try have hb2:=yD hb);(try have hb2:=yE hb);(try have hb2:=yF hb);(try have hb2:=yG hb)))|(refine fun (K2:_→AHeap→Prop) hK2=>?_)|((with_reducible refine zY ?_ ?_);decide)|((with_reducible first|refine zZ ?_ (fun K hK=>?_)|refine yA ?_ (fun K hK=>?_));(focus go_simp;done);go_simp;refine hK _ _ ?_;clear hK K)|(go_simp;(try go_bits);(try first |((with_reducible show CallS _ _ _ _ _ _);first|(refine CallS.mono (HLI.out _ _ (((Ext.refl _).push' _).push' _)) ?_; rintro _ _ ⟨rfl, rfl⟩)|(refine CallS.mono (HSP.out _ _ (((Ext.refl _).push' _).push' _)) ?_; rintro _ _ ⟨rfl, rfl⟩)|(refine CallS.mono (HRJ.out _ _ (((Ext.refl _).push' _).push' _)) ?_; rintro _ _ ⟨rfl, rfl⟩)));refine hK2 _ _ ?_;clear hK2 K2)))
  all_goals exact ⟨rfl, ((Ext.refl _).push' _).push' _⟩
end Go.Proofs.Tryz
namespace Go.Proofs.Tryz
open Go Go.Am Go.RowKit
set_option maxRecDepth 100000


theorem put_e {loops : List (Nat × LInfo)} {H : AHeap} {p i : Nat} {fa : Option Addr} {fc : Nat} {fls : List Flaw} {D : Nat → Int} {d : Int} (hp : p < H.n) (gp : H.get p = .row (planCells (.slice fa fls.length fc) D) 116) (hf : Flaws H (.slice fa fls.length fc) fls) (hi : i < fls.length)
    (hd : ∀ a ∈ fls, 0 ≤ a.lo ∧ a.hi < 60) : CallS Tryz.prog loops 141 [.pointer (some ⟨p, 0, none⟩), .int .i64 i, .int .i64 0, .int .i64 d] H fun r H' => r = .bool (putOk (fls.getD i ⟨0, 0, 0, 0⟩) D d) ∧ H'.n = H.n + 1 ∧ H'.get p = .row (planCells (.slice fa fls.length fc) (if putOk (fls.getD i ⟨0, 0, 0, 0⟩) D d = true then putD D d.toNat i else D)) 116 ∧ ∀ j, j < H.n → j ≠ p → H'.get j = H.get j := by
  have HF := Lib.hid hf
  have hc0 : cellAt H p 0 = some (.slice fa fls.length fc) := by simp only [cellAt, gp]; rfl
  have hspan := hd _ (List.getElem_mem hi)
  have hgd : fls.getD i ⟨0, 0, 0, 0⟩ = fls[i] := by rw [List.getD_eq_getElem?_getD, List.getElem?_eq_getElem hi]; rfl
  rw [hgd]
  obtain ⟨b, o, sp, rfl, hb, -, hcl⟩ := hf.at_ hi
  have hx4 := Flaws.days_ hcl
  generalize fls[i] = w at hx4 hspan ⊢
  obtain ⟨wi, wl, wh, wm⟩ := w
  simp only at hx4 hspan
  obtain ⟨hs1, hs2⟩ := hspan
  have HGP := Lib.hid gp
  clear hcl hf hd hgd
  by_cases hw : win wl wh d = true
  case' neg =>
    have hw0 : win wl wh d = false := by simpa using hw
    have HW := Lib.hid hw0
    have HR : Hid (putOk ⟨wi, wl, wh, wm⟩ D d = false) := Lib.hid (by simp [putOk, hw0])
    clear hw hw0 gp
    rw [HR.out]
    refine CallS.enter' Tryz.func141 rfl Tryz.ntmps141 (by simp) fun f hd hf => ?_
    have f0 := hf 0
    have f1 := hf 1
    have f2 := hf 2
    have f3 := hf 3
    simp at f0 f1 f2 f3
    clear hf
    repeat' (first|(with_reducible first|refine zA ?_|refine zB fun K hK=>?_|refine zC fun K2 hK2=>?_|refine zD ?_|refine zE ?_|refine zF ?_|refine zG ?_|refine zH ?_|refine zI ?_|refine zM ?_|refine zN ?_|refine zO ?_|refine zP ?_|refine zQ ?_|refine zR ?_)|((with_reducible refine zU (hK _ _ ?_));clear hK K)|((with_reducible refine zV ?_ ?_ fun K1 K3 d hdst h1 h3=>?_);rfl;exact yB rfl;cases hdst;go_simp)|((with_reducible refine zW fun K1 K3 h1 h3=>?_);go_simp)|((first|refine h1 ?_|refine h3 ?_);clear h1 h3 K1 K3)|((first|refine zX (fun hb=>h1 ?_) (fun hb=>h3 ?_)|refine zX (fun hb=>h3 ?_) (fun hb=>h1 ?_))<;>(clear h1 h3 K1 K3;(try have hb2:=yC hb);(try have hb2:=yD hb);(try have hb2:=yE hb);(try have hb2:=yF hb);(try have hb2:=yG hb)))|(refine fun (K2:_→AHeap→Prop) hK2=>?_)|((with_reducible refine zY ?_ ?_);decide)|((with_reducible first|refine zZ ?_ (fun K hK=>?_)|refine yA ?_ (fun K hK=>?_));(focus go_simp;done);go_simp;refine hK _ _ ?_;clear hK K)|(go_simp;(try go_bits);(try first |((with_reducible show CallS _ _ _ _ _ _);first|(refine CallS.mono within_s ?_; rw [show win 0 1 0 = true from rfl]; rintro _ _ ⟨rfl, rfl⟩)|(refine CallS.mono within_s ?_; rw [HW.out]; rintro _ _ ⟨rfl, rfl⟩)));refine hK2 _ _ ?_;clear hK2 K2))
    refine ⟨rfl, AHeap.n_push _ _, (AHeap.get_push_old hp).trans ?_, fun j hj _ => AHeap.get_push_old hj⟩
    rw [HGP.out]; rfl
  case' pos =>
    have hwd := win_iff.1 hw
    obtain ⟨e, rfl⟩ := Int.eq_ofNat_of_zero_le (show 0 ≤ d by omega)
    have he1 : (e : Int) < 120 := by omega
    have he2 : e < 120 := by omega
    have hcD : cellAt H p (1 + e) = some (.int .i64 (D e)) := by simp only [cellAt, gp]; exact planCells_get he2
    have HPO : Hid (putOk ⟨wi, wl, wh, wm⟩ D e = (D e == -1)) := Lib.hid (by simp [putOk, hw])
    have HW := Lib.hid hw
    rw [HPO.out]
    generalize hx : D e = x at hcD HPO ⊢
    clear hw hx hwd
    by_cases hx1 : x = -1
    case' neg =>
      have hxb : (x != -1) = true := by simpa using hx1
      have hxb2 : (x == -1) = false := by simpa using hx1
      rw [hxb2]
      clear hx1 gp hxb2
      refine CallS.enter' Tryz.func141 rfl Tryz.ntmps141 (by simp) fun f hd hf => ?_
      have f0 := hf 0
      have f1 := hf 1
      have f2 := hf 2
      have f3 := hf 3
      simp at f0 f1 f2 f3
      clear hf
      repeat' (first|(with_reducible first|refine zA ?_|refine zB fun K hK=>?_|refine zC fun K2 hK2=>?_|refine zD ?_|refine zE ?_|refine zF ?_|refine zG ?_|refine zH ?_|refine zI ?_|refine zM ?_|refine zN ?_|refine zO ?_|refine zP ?_|refine zQ ?_|refine zR ?_)|((with_reducible refine zU (hK _ _ ?_));clear hK K)|((with_reducible refine zV ?_ ?_ fun K1 K3 d hdst h1 h3=>?_);rfl;exact yB rfl;cases hdst;go_simp)|((with_reducible refine zW fun K1 K3 h1 h3=>?_);go_simp)|((first|refine h1 ?_|refine h3 ?_);clear h1 h3 K1 K3)|((first|refine zX (fun hb=>h1 ?_) (fun hb=>h3 ?_)|refine zX (fun hb=>h3 ?_) (fun hb=>h1 ?_))<;>(clear h1 h3 K1 K3;(try have hb2:=yC hb);(try have hb2:=yD hb);(try have hb2:=yE hb);(try have hb2:=yF hb);(try have hb2:=yG hb)))|(refine fun (K2:_→AHeap→Prop) hK2=>?_)|((with_reducible refine zY ?_ ?_);decide)|((with_reducible first|refine zZ ?_ (fun K hK=>?_)|refine yA ?_ (fun K hK=>?_));(focus go_simp;done);go_simp;refine hK _ _ ?_;clear hK K)|(go_simp;(try go_bits);(try first |((with_reducible show CallS _ _ _ _ _ _);first|(refine CallS.mono within_s ?_; rw [show win 0 1 0 = true from rfl]; rintro _ _ ⟨rfl, rfl⟩)|(refine CallS.mono within_s ?_; rw [HW.out]; rintro _ _ ⟨rfl, rfl⟩)));refine hK2 _ _ ?_;clear hK2 K2))
      refine ⟨rfl, AHeap.n_push _ _, (AHeap.get_push_old hp).trans ?_, fun j hj _ => AHeap.get_push_old hj⟩
      rw [HGP.out]; rfl
    case' pos =>
      subst hx1
      have hg2 : (H.push (.row [.int .i64 wl, .int .i64 wh] 27)).get p = .row (planCells (.slice (some ⟨b, o, sp⟩) fls.length fc) D) 116 := (AHeap.get_push_old hp).trans gp
      have hpn : p ≠ H.n := by omega
      refine CallS.enter' Tryz.func141 rfl Tryz.ntmps141 (by simp) fun f hd hf => ?_
      have f0 := hf 0
      have f1 := hf 1
      have f2 := hf 2
      have f3 := hf 3
      simp at f0 f1 f2 f3
      clear hf
      repeat' (first|(with_reducible first|refine zA ?_|refine zB fun K hK=>?_|refine zC fun K2 hK2=>?_|refine zD ?_|refine zE ?_|refine zF ?_|refine zG ?_|refine zH ?_|refine zI ?_|refine zM ?_|refine zN ?_|refine zO ?_|refine zP ?_|refine zQ ?_|refine zR ?_)|((with_reducible refine zU (hK _ _ ?_));clear hK K)|((with_reducible refine zV ?_ ?_ fun K1 K3 d hdst h1 h3=>?_);rfl;exact yB rfl;cases hdst;go_simp)|((with_reducible refine zW fun K1 K3 h1 h3=>?_);go_simp)|((first|refine h1 ?_|refine h3 ?_);clear h1 h3 K1 K3)|((first|refine zX (fun hb=>h1 ?_) (fun hb=>h3 ?_)|refine zX (fun hb=>h3 ?_) (fun hb=>h1 ?_))<;>(clear h1 h3 K1 K3;(try have hb2:=yC hb);(try have hb2:=yD hb);(try have hb2:=yE hb);(try have hb2:=yF hb);(try have hb2:=yG hb)))|(refine fun (K2:_→AHeap→Prop) hK2=>?_)|((with_reducible refine zY ?_ ?_);decide)|((with_reducible first|refine zZ ?_ (fun K hK=>?_)|refine yA ?_ (fun K hK=>?_));(focus go_simp;done);go_simp;refine hK _ _ ?_;clear hK K)|(go_simp;(try go_bits);(try first |((with_reducible show CallS _ _ _ _ _ _);first|(refine CallS.mono within_s ?_; rw [show win 0 1 0 = true from rfl]; rintro _ _ ⟨rfl, rfl⟩)|(refine CallS.mono within_s ?_; rw [HW.out]; rintro _ _ ⟨rfl, rfl⟩)));refine hK2 _ _ ?_;clear hK2 K2))
      refine ⟨rfl, rfl, ?_, fun j hj hne => ?_⟩
      · rw [AHeap.get_push_old (by rw [AHeap.n_upd]; exact hp), AHeap.get_upd_same]; rfl
      · rw [AHeap.get_push_old (by rw [AHeap.n_upd]; exact hj), AHeap.get_upd_ne hne]

theorem Ints.keep {H H' : AHeap} {a : Option Addr} {n c : Nat} {l : List Int} (h : Ints H (.slice a n c) l) (hn : H.n ≤ H'.n) (hk : 0 < l.length → ∀ x, a = some x → x.block < H.n → H'.get x.block = H.get x.block) : Ints H' (.slice a n c) l := by
  obtain ⟨h1, h2, a', c', h3, h0, h4⟩ := h
  cases h3
  refine ⟨h1, h2, _, _, rfl, h0, fun hp => ?_⟩
  obtain ⟨b, o, sp, rfl, h6, h7⟩ := h4 hp
  exact ⟨b, o, sp, rfl, Nat.lt_of_lt_of_le h6 hn, fun j u hu => by rw [cellAt_get (hk hp _ rfl h6)]; exact h7 j u hu⟩
theorem Flaws.keep0 {H H' : AHeap} {a : Option Addr} {n c : Nat} {l : List Flaw} (h : Flaws H (.slice a n c) l) (hn : H.n ≤ H'.n) (hk : 0 < l.length → ∀ x, a = some x → x.block < H.n → H'.get x.block = H.get x.block) : Flaws H' (.slice a n c) l := by
  obtain ⟨h1, h2, a', c', h3, h0, h4⟩ := h
  cases h3
  refine ⟨h1, h2, _, _, rfl, h0, fun hp => ?_⟩
  obtain ⟨b, o, sp, rfl, h6, h7⟩ := h4 hp
  exact ⟨b, o, sp, rfl, Nat.lt_of_lt_of_le h6 hn, fun j u hu => by rw [cellAt_get (hk hp _ rfl h6)]; exact h7 j u hu⟩

set_option maxHeartbeats 2000000 in
theorem follow_e {loops : List (Nat × LInfo)} {H : AHeap} {p : Nat} {fa la : Option Addr} {fc lc : Nat} {fls : List Flaw} {D : Nat → Int} {on : List Int} (hp : p < H.n) (gp : H.get p = .row (planCells (.slice fa fls.length fc) D) 116) (hf : Flaws H (.slice fa fls.length fc) fls) (hon : Ints H (.slice la on.length lc) on) (hlen : on.length = fls.length)
    (hd : ∀ a ∈ fls, 0 ≤ a.lo ∧ a.hi < 60) (hfp : 0 < fls.length → ∀ x, fa = some x → x.block ≠ p) (hlp : 0 < on.length → ∀ x, la = some x → x.block ≠ p) :
    CallS Tryz.prog loops 74 [.pointer (some ⟨p, 0, none⟩), .slice la on.length lc] H fun r H' => r = .int .i64 ((followL fls on 0 D).1 : Nat) ∧ H.n ≤ H'.n ∧ H'.get p = .row (planCells (.slice fa fls.length fc) (followL fls on 0 D).2) 116 ∧ ∀ j, j < H.n → j ≠ p → H'.get j = H.get j := by
  have HF := Lib.hid hf
  have HON := Lib.hid hon
  have HDD := Lib.hid hd
  have HFP := Lib.hid hfp
  have HLP := Lib.hid hlp
  have HGP := Lib.hid gp
  have hll := hon.slice.1
  have HLEN := Lib.hid hlen
  generalize hR : followL fls on 0 D = R
  have HRR := Lib.hid hR
  clear hf hon hd hfp hlp gp hR hlen
  refine CallS.enter' Tryz.func74 rfl Tryz.ntmps74 (by simp) fun f hd hf => ?_
  have f0 := hf 0
  have f1 := hf 1
  simp at f0 f1
  clear hf
  repeat' (first|(with_reducible first|refine zA ?_|refine zB fun K hK=>?_|refine zC fun K2 hK2=>?_|refine zD ?_|refine zE ?_|refine zF ?_|refine zG ?_|refine zH ?_|refine zI ?_|refine zM ?_|refine zN ?_|refine zO ?_|refine zP ?_|refine zQ ?_|refine zR ?_)|((with_reducible refine zU (hK _ _ ?_));clear hK K)|((with_reducible refine zV ?_ ?_ fun K1 K3 d hdst h1 h3=>?_);rfl;exact yB rfl;cases hdst;go_simp)|((with_reducible refine zW fun K1 K3 h1 h3=>?_);go_simp)|((first|refine h1 ?_|refine h3 ?_);clear h1 h3 K1 K3)|((first|refine zX (fun hb=>h1 ?_) (fun hb=>h3 ?_)|refine zX (fun hb=>h3 ?_) (fun hb=>h1 ?_))<;>(clear h1 h3 K1 K3;(try have hb2:=yC hb);(try have hb2:=yD hb);(try have hb2:=yE hb);(try have hb2:=yF hb);(try have hb2:=yG hb)))|(refine fun (K2:_→AHeap→Prop) hK2=>?_)|((with_reducible refine zY ?_ ?_);decide)|((with_reducible first|refine zZ ?_ (fun K hK=>?_)|refine yA ?_ (fun K hK=>?_));(focus go_simp;done);go_simp;refine hK _ _ ?_;clear hK K)|(go_simp;(try go_bits);refine hK2 _ _ ?_;clear hK2 K2))
  refine CodeS.loop (fun m f H' => ∃ (k : Nat) (E : Nat → Int), k ≤ on.length ∧ m = on.length - k ∧ f.tmp 9 = .int .i64 k ∧ f.tmp 8 = .int .i64 on.length ∧ f.tmp 7 = .slice la on.length lc ∧ f.tmp 1 = .slice la on.length lc ∧ f.tmp 0 = .pointer (some ⟨p, 0, none⟩) ∧ f.defers = [] ∧ H.n ≤ H'.n ∧ Hid (H'.get p = .row (planCells (.slice fa fls.length fc) E) 116) ∧ Hid (∀ j, j < H.n → j ≠ p → H'.get j = H.get j) ∧ Hid (followL fls (on.drop k) k E = R)) on.length ?_ ?_
  · exact ⟨0, D, by simp, by simp, (by first|go_simp<;>go_num|assumption), (by first|go_simp<;>go_num|assumption), (by first|go_simp<;>go_num|assumption), (by first|go_simp<;>go_num|assumption), (by first|go_simp<;>go_num|assumption), (by first|go_simp<;>go_num|assumption), Nat.le_refl _, HGP, Lib.hid (fun _ _ _ => rfl), Lib.hid (by simpa using HRR.out)⟩
  clear f0 f1 hd f HGP HRR
  rintro m f H' ⟨k, E, hk, rfl, f9, f8, f7, f1, f0, hd, hn, HG, HK, HFO⟩
  have HF' : Hid (Flaws H' (.slice fa fls.length fc) fls) := Lib.hid (HF.out.keep0 hn (fun h0 x hx hb => HK.out _ hb (HFP.out h0 x hx)))
  by_cases hlt : k < on.length
  · obtain ⟨b, o, sp, rfl, hb, hx⟩ := (HON.out.keep (H' := H') hn (fun h0 x hx hb => HK.out _ hb (HLP.out h0 x hx))).at_ hlt
    have HD := Lib.hid (List.drop_eq_getElem_cons hlt)
    generalize on[k] = d at hx HD
    by_cases hd1 : d = -1
    · subst hd1
      repeat' (first|(with_reducible first|refine zA ?_|refine zB fun K hK=>?_|refine zC fun K2 hK2=>?_|refine zD ?_|refine zE ?_|refine zF ?_|refine zG ?_|refine zH ?_|refine zI ?_|refine zM ?_|refine zN ?_|refine zO ?_|refine zP ?_|refine zQ ?_|refine zR ?_)|((with_reducible refine zU (hK _ _ ?_));clear hK K)|((with_reducible refine zV ?_ ?_ fun K1 K3 d hdst h1 h3=>?_);rfl;exact yB rfl;cases hdst;go_simp)|((with_reducible refine zW fun K1 K3 h1 h3=>?_);go_simp)|((first|refine h1 ?_|refine h3 ?_);clear h1 h3 K1 K3)|((first|refine zX (fun hb=>h1 ?_) (fun hb=>h3 ?_)|refine zX (fun hb=>h3 ?_) (fun hb=>h1 ?_))<;>(clear h1 h3 K1 K3;(try have hb2:=yC hb);(try have hb2:=yD hb);(try have hb2:=yE hb);(try have hb2:=yF hb);(try have hb2:=yG hb)))|(refine fun (K2:_→AHeap→Prop) hK2=>?_)|((with_reducible refine zY ?_ ?_);decide)|((with_reducible first|refine zZ ?_ (fun K hK=>?_)|refine yA ?_ (fun K hK=>?_));(focus go_simp;done);go_simp;refine hK _ _ ?_;clear hK K)|(go_simp;(try go_bits);refine hK2 _ _ ?_;clear hK2 K2))
      refine Post.round_normal ⟨on.length - (k + 1), by omega, k + 1, E, by omega, rfl, (by first|go_simp<;>go_num|assumption), (by first|go_simp<;>go_num|assumption), (by first|go_simp<;>go_num|assumption), (by first|go_simp<;>go_num|assumption), (by first|go_simp<;>go_num|assumption), (by first|go_simp<;>go_num|assumption), hn, HG, HK, Lib.hid ?_⟩
      rw [← HFO.out, HD.out, followL, if_pos rfl]
    · have hdb : (d != -1) = true := by simpa using hd1
      have HPU := Lib.hid (fun (loops : List (Nat × LInfo)) => put_e (loops := loops) (i := k) (d := d) (Nat.lt_of_lt_of_le hp hn) HG.out HF'.out (by have := HLEN.out; omega) HDD.out)
      have HST : Hid (followL fls (d :: on.drop (k + 1)) k E = if putOk (fls.getD k ⟨0, 0, 0, 0⟩) E d = true then followL fls (on.drop (k + 1)) (k + 1) (putD E d.toNat k) else (k, E)) := Lib.hid (by rw [followL, if_neg hd1])
      generalize putOk (fls.getD k ⟨0, 0, 0, 0⟩) E d = ok at HPU HST
      clear hd1
      repeat' (first|(with_reducible first|refine zA ?_|refine zB fun K hK=>?_|refine zC fun K2 hK2=>?_|refine zD ?_|refine zE ?_|refine zF ?_|refine zG ?_|refine zH ?_|refine zI ?_|refine zM ?_|refine zN ?_|refine zO ?_|refine zP ?_|refine zQ ?_|refine zR ?_)|((with_reducible refine zU (hK _ _ ?_));clear hK K)|((with_reducible refine zV ?_ ?_ fun K1 K3 d hdst h1 h3=>?_);rfl;exact yB rfl;cases hdst;go_simp)|((with_reducible refine zW fun K1 K3 h1 h3=>?_);go_simp)|((first|refine h1 ?_|refine h3 ?_);clear h1 h3 K1 K3)|((first|refine zX (fun hb=>h1 ?_) (fun hb=>h3 ?_)|refine zX (fun hb=>h3 ?_) (fun hb=>h1 ?_))<;>(clear h1 h3 K1 K3;(try have hb2:=yC hb);(try have hb2:=yD hb);(try have hb2:=yE hb);(try have hb2:=yF hb);(try have hb2:=yG hb)))|(refine fun (K2:_→AHeap→Prop) hK2=>?_)|((with_reducible refine zY ?_ ?_);decide)|((with_reducible first|refine zZ ?_ (fun K hK=>?_)|refine yA ?_ (fun K hK=>?_));(focus go_simp;done);go_simp;refine hK _ _ ?_;clear hK K)|(go_simp;(try go_bits);(try first | ((with_reducible show CallS _ _ _ _ _ _);refine CallS.mono (HPU.out _) ?_; rintro _ H3 ⟨rfl, hn3, hg3, hk3⟩; (have HG3 := Lib.hid hg3); (have HK3 := Lib.hid hk3); clear hg3 hk3));refine hK2 _ _ ?_;clear hK2 K2))
      · have hok : ok = false := by simpa using hb
        have hr := HFO.out
        rw [HD.out, HST.out, hok] at hr
        rw [← hr]
        refine ⟨rfl, by omega, ?_, fun j hj hne => by rw [HK3.out j (by omega) hne]; exact HK.out j hj hne⟩
        have := HG3.out
        rw [hok] at this
        exact this
      · have hok : ok = true := by simpa using hb
        refine Post.round_normal ⟨on.length - (k + 1), by omega, k + 1, putD E d.toNat k, by omega, rfl, (by first|go_simp<;>go_num|assumption), (by first|go_simp<;>go_num|assumption), (by first|go_simp<;>go_num|assumption), (by first|go_simp<;>go_num|assumption), (by first|go_simp<;>go_num|assumption), (by first|go_simp<;>go_num|assumption), by omega, Lib.hid ?_, Lib.hid (fun j hj hne => by rw [HK3.out j (by omega) hne]; exact HK.out j hj hne), Lib.hid ?_⟩
        · have := HG3.out
          rw [hok, if_pos rfl] at this
          exact this
        · rw [← HFO.out, HD.out, HST.out, hok, if_pos rfl]
  · have hkk : R = (on.length, E) := by
      have h := HFO.out
      rw [List.drop_eq_nil_of_le (by omega), followL, show k = on.length by omega] at h
      exact h.symm
    subst hkk
    repeat' (first|(with_reducible first|refine zA ?_|refine zB fun K hK=>?_|refine zC fun K2 hK2=>?_|refine zD ?_|refine zE ?_|refine zF ?_|refine zG ?_|refine zH ?_|refine zI ?_|refine zM ?_|refine zN ?_|refine zO ?_|refine zP ?_|refine zQ ?_|refine zR ?_)|((with_reducible refine zU (hK _ _ ?_));clear hK K)|((with_reducible refine zV ?_ ?_ fun K1 K3 d hdst h1 h3=>?_);rfl;exact yB rfl;cases hdst;go_simp)|((with_reducible refine zW fun K1 K3 h1 h3=>?_);go_simp)|((first|refine h1 ?_|refine h3 ?_);clear h1 h3 K1 K3)|((first|refine zX (fun hb=>h1 ?_) (fun hb=>h3 ?_)|refine zX (fun hb=>h3 ?_) (fun hb=>h1 ?_))<;>(clear h1 h3 K1 K3;(try have hb2:=yC hb);(try have hb2:=yD hb);(try have hb2:=yE hb);(try have hb2:=yF hb);(try have hb2:=yG hb)))|(refine fun (K2:_→AHeap→Prop) hK2=>?_)|((with_reducible refine zY ?_ ?_);decide)|((with_reducible first|refine zZ ?_ (fun K hK=>?_)|refine yA ?_ (fun K hK=>?_));(focus go_simp;done);go_simp;refine hK _ _ ?_;clear hK K)|(go_simp;(try go_bits);refine hK2 _ _ ?_;clear hK2 K2))
    exact ⟨rfl, hn, HG.out, HK.out⟩
end Go.Proofs.Tryz
namespace Go.Proofs.Tryz
open Go Go.Am Go.RowKit
set_option maxRecDepth 100000


theorem intsL_one2 {H : AHeap} {n : Nat} {cv : Value} {l : List Int} (h : cellAt H n 0 = some cv) (hn : n < H.n) (hi : Ints H cv l) : IntsL H (.slice (some ⟨n, 0, none⟩) 1 1) [l] :=
  ⟨[cv], rfl, ⟨rfl, (show 1 ≤ 9223372036854775807 by omega), _, _, rfl, (fun h => by cases h), fun _ => ⟨n, 0, none, rfl, hn, fun j u hu => by
    match j, hu with
    | 0, hu => cases hu; exact h⟩⟩, fun i hlt u hu => by
    match i, hlt, hu with
    | 0, _, hu => cases hu; exact hi⟩
def Tour.fits (t : Tour) (on : List Int) : Int × Bool × Int :=
  if err t ≠ 0 then (0, false, err t) else if on.length ≠ t.flaws.length then (0, false, 1) else
    if (followL t.flaws on 0 (dayD t.days [t.closed])).1 < on.length then ((t.flaws.getD (followL t.flaws on 0 (dayD t.days [t.closed])).1 nowhere).id, false, 0) else (0, true, 0)

theorem Good.spans {t : Tour} (hg : Good t) : ∀ a ∈ t.flaws, 0 ≤ a.lo ∧ a.hi < 60 := by
  intro a ha
  have h := hg.right a ha
  have hd := hg.days
  simp only [Flaw.right, Tour.isSpan, Tour.isDay, Bool.and_eq_true, win_iff, decide_eq_true_eq] at h hd
  omega

set_option maxHeartbeats 2000000 in
theorem fits_s {loops : List (Nat × LInfo)} {H : AHeap} {v lv : Value} {t : Tour} {on : List Int} (hv : TourV H v t) (hl : Ints H lv on) :
    CallS Tryz.prog loops 16 [v, lv] H fun r H' => r = .tuple #[.int .i64 (t.fits on).1, .bool (t.fits on).2.1, .int .i64 (t.fits on).2.2] ∧ H' = H := by
  refine CallS.forget (R := fun r => r = .tuple #[.int .i64 (t.fits on).1, .bool (t.fits on).2.1, .int .i64 (t.fits on).2.2]) (by rintro v rfl; rfl) ?_
  have HV := Lib.hid hv
  have HL := Lib.hid hl
  have HCE := Lib.hid (fun (loops : List (Nat × LInfo)) (H2 : AHeap) (hx : Ext H H2) => check_s (loops := loops) (HV.out.ext hx))
  generalize hR : t.fits on = R
  have HR := Lib.hid hR
  clear hR
  obtain ⟨cv, fv, rfl, hc, hf⟩ := hv
  obtain ⟨hcl, ca, cc, rfl⟩ := hc.slice
  obtain ⟨hfl, fa, fc, rfl⟩ := hf.slice
  obtain ⟨hll, la, lc, rfl⟩ := hl.slice
  have HC := Lib.hid hc
  have HF := Lib.hid hf
  clear hc hf hl
  by_cases he : err t = 0
  case' neg =>
    have HE : Hid (R = (0, false, err t)) := Lib.hid (by rw [← HR.out, Tour.fits, if_pos he])
    generalize err t = er at HCE he HE
    have heb : (er != 0) = true := by simpa using he
    clear he
    refine CallS.enter' Tryz.func16 rfl Tryz.ntmps16 (by simp) fun f hd hf => ?_
    have f0 := hf 0
    have f1 := hf 1
    simp at f0 f1
    clear hf
    repeat' (first|(with_reducible first|refine zA ?_|refine zB fun K hK=>?_|refine zC fun K2 hK2=>?_|refine zD ?_|refine zE ?_|refine zF ?_|refine zG ?_|refine zH ?_|refine zI ?_|refine zM ?_|refine zN ?_|refine zO ?_|refine zP ?_|refine zQ ?_|refine zR ?_)|((with_reducible refine zU (hK _ _ ?_));clear hK K)|((with_reducible refine zV ?_ ?_ fun K1 K3 d hdst h1 h3=>?_);rfl;exact yB rfl;cases hdst;go_simp)|((with_reducible refine zW fun K1 K3 h1 h3=>?_);go_simp)|((first|refine h1 ?_|refine h3 ?_);clear h1 h3 K1 K3)|((first|refine zX (fun hb=>h1 ?_) (fun hb=>h3 ?_)|refine zX (fun hb=>h3 ?_) (fun hb=>h1 ?_))<;>(clear h1 h3 K1 K3;(try have hb2:=yC hb);(try have hb2:=yD hb);(try have hb2:=yE hb);(try have hb2:=yF hb);(try have hb2:=yG hb)))|(refine fun (K2:_→AHeap→Prop) hK2=>?_)|((with_reducible refine zY ?_ ?_);decide)|((with_reducible first|refine zZ ?_ (fun K hK=>?_)|refine yA ?_ (fun K hK=>?_));(focus go_simp;done);go_simp;refine hK _ _ ?_;clear hK K)|(go_simp;(try go_bits);(try first | ((with_reducible show CallS _ _ _ _ _ _);refine CallS.mono (HCE.out _ _ ((Ext.refl _).push' _)) ?_; rintro _ _ ⟨rfl, rfl⟩));refine hK2 _ _ ?_;clear hK2 K2))
    exact ⟨by rw [HE.out], (Ext.refl _).push' _⟩
  have hg := good_of he
  rw [he] at HCE
  have HG := Lib.hid hg
  have HERR := Lib.hid he
  clear hg he
  by_cases hlen : on.length = t.flaws.length
  case' neg =>
    have HE : Hid (R = (0, false, 1)) := Lib.hid (by rw [← HR.out, Tour.fits, if_neg (by simp [HERR.out]), if_pos hlen])
    have hlb : ((on.length : Int) != (t.flaws.length : Int)) = true := by simp; omega
    refine CallS.enter' Tryz.func16 rfl Tryz.ntmps16 (by simp) fun f hd hf => ?_
    have f0 := hf 0
    have f1 := hf 1
    simp at f0 f1
    clear hf
    repeat' (first|(with_reducible first|refine zA ?_|refine zB fun K hK=>?_|refine zC fun K2 hK2=>?_|refine zD ?_|refine zE ?_|refine zF ?_|refine zG ?_|refine zH ?_|refine zI ?_|refine zM ?_|refine zN ?_|refine zO ?_|refine zP ?_|refine zQ ?_|refine zR ?_)|((with_reducible refine zU (hK _ _ ?_));clear hK K)|((with_reducible refine zV ?_ ?_ fun K1 K3 d hdst h1 h3=>?_);rfl;exact yB rfl;cases hdst;go_simp)|((with_reducible refine zW fun K1 K3 h1 h3=>?_);go_simp)|((first|refine h1 ?_|refine h3 ?_);clear h1 h3 K1 K3)|((first|refine zX (fun hb=>h1 ?_) (fun hb=>h3 ?_)|refine zX (fun hb=>h3 ?_) (fun hb=>h1 ?_))<;>(clear h1 h3 K1 K3;(try have hb2:=yC hb);(try have hb2:=yD hb);(try have hb2:=yE hb);(try have hb2:=yF hb);(try have hb2:=yG hb)))|(refine fun (K2:_→AHeap→Prop) hK2=>?_)|((with_reducible refine zY ?_ ?_);decide)|((with_reducible first|refine zZ ?_ (fun K hK=>?_)|refine yA ?_ (fun K hK=>?_));(focus go_simp;done);go_simp;refine hK _ _ ?_;clear hK K)|(go_simp;(try go_bits);(try first | ((with_reducible show CallS _ _ _ _ _ _);refine CallS.mono (HCE.out _ _ ((Ext.refl _).push' _)) ?_; rintro _ _ ⟨rfl, rfl⟩));refine hK2 _ _ ?_;clear hK2 K2))
    exact ⟨by rw [HE.out], (Ext.refl _).push' _⟩
  have HLEN := Lib.hid hlen
  have HE : Hid (R = if (followL t.flaws on 0 (dayD t.days [t.closed])).1 < on.length then ((t.flaws.getD (followL t.flaws on 0 (dayD t.days [t.closed])).1 nowhere).id, false, 0) else (0, true, 0)) := Lib.hid (by rw [← HR.out, Tour.fits, if_neg (by simp [HERR.out]), if_neg (by simp [HLEN.out])])
  have hlb : ((on.length : Int) != (t.flaws.length : Int)) = false := by simp; omega
  have HFW := Lib.hid (Nat.le_trans HG.out.few (show 40 ≤ 1000 by decide))
  have HPL := Lib.hid (fun (loops : List (Nat × LInfo)) (H2 : AHeap) (n : Nat) (hx : Ext H H2) (hc : cellAt H2 n 0 = some (.slice ca t.closed.length cc)) (hn : n < H2.n) => planOf_e (loops := loops) (sh := [t.closed]) (HV.out.ext hx) (intsL_one2 hc hn (HC.out.ext hx)) HG.out.days (show 1 ≤ 2 by omega) HFW.out)
  have hfle := (followL_le t.flaws on 0 (dayD t.days [t.closed])).2
  have HLB : Hid (0 < on.length → ∀ x, la = some x → x.block < H.n) := Lib.hid (fun h0 x hx => by
    obtain ⟨b, o, sp, h1, h2, -⟩ := HL.out.at_ h0
    rw [h1] at hx; cases hx; exact h2)
  clear hlen
  refine CallS.enter' Tryz.func16 rfl Tryz.ntmps16 (by simp) fun f hd hf => ?_
  have f0 := hf 0
  have f1 := hf 1
  simp at f0 f1
  clear hf
  repeat' (first|(with_reducible first|refine zA ?_|refine zB fun K hK=>?_|refine zC fun K2 hK2=>?_|refine zD ?_|refine zE ?_|refine zF ?_|refine zG ?_|refine zH ?_|refine zI ?_|refine zM ?_|refine zN ?_|refine zO ?_|refine zP ?_|refine zQ ?_|refine zR ?_)|((with_reducible refine zU (hK _ _ ?_));clear hK K)|((with_reducible refine zV ?_ ?_ fun K1 K3 d hdst h1 h3=>?_);rfl;exact yB rfl;cases hdst;go_simp)|((with_reducible refine zW fun K1 K3 h1 h3=>?_);go_simp)|((first|refine h1 ?_|refine h3 ?_);clear h1 h3 K1 K3)|((first|refine zX (fun hb=>h1 ?_) (fun hb=>h3 ?_)|refine zX (fun hb=>h3 ?_) (fun hb=>h1 ?_))<;>(clear h1 h3 K1 K3;(try have hb2:=yC hb);(try have hb2:=yD hb);(try have hb2:=yE hb);(try have hb2:=yF hb);(try have hb2:=yG hb)))|(refine fun (K2:_→AHeap→Prop) hK2=>?_)|((with_reducible refine zY ?_ ?_);decide)|((with_reducible first|refine zZ ?_ (fun K hK=>?_)|refine yA ?_ (fun K hK=>?_));(focus go_simp;done);go_simp;refine hK _ _ ?_;clear hK K)|(go_simp;(try go_bits);(try first |((with_reducible show CallS _ _ _ _ _ _);first|(refine CallS.mono (HCE.out _ _ ((Ext.refl _).push' _)) ?_; rintro _ _ ⟨rfl, rfl⟩)|(refine CallS.mono (HPL.out _ _ _ (((Ext.refl _).push' _).push' _) (by go_simp) (by simp only [AHeap.n_push]; omega)) ?_; rintro _ H2 ⟨⟨ga, gc, rfl, hF2, hfr⟩, hx2⟩; (have HF2 := Lib.hid hF2); (have HFR := Lib.hid hfr); (have HX2 := Lib.hid hx2); clear hF2 hfr hx2)|(refine CallS.mono (follow_e (by rw [AHeap.n_push]; exact Nat.lt_succ_self _) AHeap.get_push_new (HF2.out.ext (Ext.push _)) (HL.out.ext (((((Ext.refl _).push' _).push' _).trans HX2.out).push' _)) HLEN.out HG.out.spans (fun _ x hx => Nat.ne_of_lt (HFR.out x hx).2) (fun h0 x hx => Nat.ne_of_lt (Nat.lt_of_lt_of_le (HLB.out h0 x hx) (((((Ext.refl _).push' _).push' _).trans HX2.out).n)))) ?_; rintro _ H4 ⟨rfl, hn4, -, hk4⟩; (have HX4 : Hid (Ext ((H.push (.row [.int .i64 t.days, .slice ca t.closed.length cc, .slice fa t.flaws.length fc] 25)).push (.row [.slice ca t.closed.length cc] 22)) H4) := Lib.hid ⟨Nat.le_trans HX2.out.n (Nat.le_trans (Nat.le_succ _) hn4), fun i hi => (hk4 i (Nat.lt_succ_of_lt (Nat.lt_of_lt_of_le hi HX2.out.n)) (Nat.ne_of_lt (Nat.lt_of_lt_of_le hi HX2.out.n))).trans ((AHeap.get_push_old (Nat.lt_of_lt_of_le hi HX2.out.n)).trans (HX2.out.get i hi))⟩); (have hcq : cellAt H4 H.n 2 = some (.slice fa t.flaws.length fc) := (HX4.out.cellAt (by simp only [AHeap.n_push]; omega)).trans (by go_simp)); clear hn4 hk4))|((refine one_k el74 sz22 ze22 rfl (by decide) (by decide) rfl rfl ?_); go_simp));refine hK2 _ _ ?_;clear hK2 K2))
  · have hlt : (followL t.flaws on 0 (dayD t.days [t.closed])).1 < t.flaws.length := by have := HLEN.out; omega
    have hlt1 : (followL t.flaws on 0 (dayD t.days [t.closed])).1 < on.length := by assumption
    have hr := HE.out
    rw [if_pos hlt1, List.getD_eq_getElem?_getD, List.getElem?_eq_getElem hlt] at hr
    obtain ⟨b, o, sp, rfl, hb9, -, hx4⟩ := (HF.out.ext ((((Ext.refl _).push' _).push' _).trans HX4.out)).at_ hlt
    have hxi := hx4 0 _ rfl
    generalize (followL t.flaws on 0 (dayD t.days [t.closed])).1 = nn at hlt hr hxi hlt1
    simp only [Option.getD_some] at hr
    simp only [Nat.add_zero] at hxi
    generalize (t.flaws[nn]'hlt).id = fid at hxi hr
    have HR9 := Lib.hid hr
    clear hr hx4 hb hb2
    repeat' (first|(with_reducible first|refine zA ?_|refine zB fun K hK=>?_|refine zC fun K2 hK2=>?_|refine zD ?_|refine zE ?_|refine zF ?_|refine zG ?_|refine zH ?_|refine zI ?_|refine zM ?_|refine zN ?_|refine zO ?_|refine zP ?_|refine zQ ?_|refine zR ?_)|((with_reducible refine zU (hK _ _ ?_));clear hK K)|((with_reducible refine zV ?_ ?_ fun K1 K3 d hdst h1 h3=>?_);rfl;exact yB rfl;cases hdst;go_simp)|((with_reducible refine zW fun K1 K3 h1 h3=>?_);go_simp)|((first|refine h1 ?_|refine h3 ?_);clear h1 h3 K1 K3)|((first|refine zX (fun hb=>h1 ?_) (fun hb=>h3 ?_)|refine zX (fun hb=>h3 ?_) (fun hb=>h1 ?_))<;>(clear h1 h3 K1 K3;(try have hb2:=yC hb);(try have hb2:=yD hb);(try have hb2:=yE hb);(try have hb2:=yF hb);(try have hb2:=yG hb)))|(refine fun (K2:_→AHeap→Prop) hK2=>?_)|((with_reducible refine zY ?_ ?_);decide)|((with_reducible first|refine zZ ?_ (fun K hK=>?_)|refine yA ?_ (fun K hK=>?_));(focus go_simp;done);go_simp;refine hK _ _ ?_;clear hK K)|(go_simp;(try go_bits);refine hK2 _ _ ?_;clear hK2 K2))
    rw [HR9.out]
    exact ⟨rfl, (((Ext.refl _).push' _).push' _).trans HX4.out⟩
  · have hr := HE.out
    rw [if_neg (by omega)] at hr
    rw [hr]
    exact ⟨rfl, (((Ext.refl _).push' _).push' _).trans HX4.out⟩
end Go.Proofs.Tryz
