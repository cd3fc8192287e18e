/- Contracts of functions, walked. -/
import Derived.Test.YtgddlpegljkgpaaChecked
import Derived.Test.YtgddlpegljkgpaaRows
import Derived.Below
import Derived.Carry
import Derived.Deep.Slices
import Derived.Deep.Fields
import Derived.ChangeSame
import Derived.ProofKit
import Derived.OpenShut
import Derived.ShutString
import Derived.ChangeOld
import Derived.Lib.SmallJoins
import Derived.Test.YtgddlpegljkgpaaStUP
import Derived.Test.YtgddlpegljkgpaaStSN
set_option linter.all false
namespace Go.Proofs.Try
open Go Go.Am Go.RowKit Go.Co
set_option maxRecDepth 100000

set_option maxHeartbeats 16000000 in
theorem refBetween_e {loops : List (Nat × LInfo)} {H : AHeap} {sv cv dv : Value} {s : Sheet} {c d : Copy} (hs : SheetV H sv s) (hc : CopyV H cv c) (hdv : CopyV H dv d) : CallS Try.prog loops 34 [sv, cv, dv] H fun r H' => (∃ av bv, r = .agg #[av, bv, .int .i64 (errExts s c d)] ∧ Ints H' av (bSure s c d) ∧ Ints H' bv (bMay s c d)) ∧ Ext H H' := by
  have HV := Lib.hid hs
  have HC := Lib.hid hc
  have HD := Lib.hid hdv
  obtain ⟨wv, av, rfl, hw, ha⟩ := hs
  obtain ⟨hwl, wa, wc, rfl⟩ := hw.slice
  obtain ⟨hal, aa, ac, rfl⟩ := ha.slice
  have HA := Lib.hid ha
  obtain ⟨cv, rfl, hcw⟩ := hc
  obtain ⟨hcl, ca, cc, rfl⟩ := hcw.slice
  obtain ⟨dv, rfl, hdw⟩ := hdv
  obtain ⟨hdl, da, dc, rfl⟩ := hdw.slice
  clear hw ha hcw hdw
  have HK1 := Lib.hid (fun (loops : List (Nat × LInfo)) (H' : AHeap) (hx : Ext H H') => refCheckCopy_s (loops := loops) (HV.out.ext hx) (HC.out.ext hx))
  have HK2 := Lib.hid (fun (loops : List (Nat × LInfo)) (H' : AHeap) (hx : Ext H H') => refCheckCopy_s (loops := loops) (HV.out.ext hx) (HD.out.ext hx))
  have HE1 := Lib.hid (fun (loops : List (Nat × LInfo)) (H' : AHeap) (hx : Ext H H') => copied_s (loops := loops) (HV.out.ext hx) (HC.out.ext hx))
  have HE2 := Lib.hid (fun (loops : List (Nat × LInfo)) (H' : AHeap) (hx : Ext H H') => copied_s (loops := loops) (HV.out.ext hx) (HD.out.ext hx))
  have hee : errCopied s c = errExt s c := rfl
  have hee2 : errCopied s d = errExt s d := rfl
  rw [hee] at HE1
  rw [hee2] at HE2
  clear hee hee2
  have HF1 := Lib.hid (fun (loops : List (Nat × LInfo)) (H' : AHeap) (hx : Ext H H') (h : errExt s c = 0) => (ends_n h).2.2.1 ▸ refFirst_e (loops := loops) (HV.out.ext hx) (HC.out.ext hx) (ends_n h).1)
  have HL1 := Lib.hid (fun (loops : List (Nat × LInfo)) (H' : AHeap) (hx : Ext H H') (h : errExt s c = 0) => (ends_n h).2.2.2.1 ▸ refLast_e (loops := loops) (HV.out.ext hx) (HC.out.ext hx) (ends_n h).1 (ends_n h).2.1)
  have HF2 := Lib.hid (fun (loops : List (Nat × LInfo)) (H' : AHeap) (hx : Ext H H') (h : errExt s d = 0) => (ends_n h).2.2.1 ▸ refFirst_e (loops := loops) (HV.out.ext hx) (HD.out.ext hx) (ends_n h).1)
  have HL2 := Lib.hid (fun (loops : List (Nat × LInfo)) (H' : AHeap) (hx : Ext H H') (h : errExt s d = 0) => (ends_n h).2.2.2.1 ▸ refLast_e (loops := loops) (HV.out.ext hx) (HD.out.ext hx) (ends_n h).1 (ends_n h).2.1)
  have HOK : Hid (errExt s c = 0 → errExt s d = 0 → s.alts.length ≤ 40 ∧ (firstL s c).length ≤ 40 ∧ (lastL s c).length ≤ 40 ∧ (firstL s d).length ≤ 40 ∧ (lastL s d).length ≤ 40 ∧ ∀ a, a ∈ s.alts → 0 ≤ a.to ∧ a.to < (firstL s c).length ∧ a.to < (lastL s c).length ∧ a.to < (firstL s d).length ∧ a.to < (lastL s d).length) := Lib.hid (fun h h' => by
    obtain ⟨g1, -, -, -, g2, g3, -, g4⟩ := ends_n h
    obtain ⟨-, -, -, -, g5, g6, -, -⟩ := ends_n h'
    refine ⟨(err_ok (errCopy_ok g1).1).2.2.2, by omega, by omega, by omega, by omega, fun a ha => ?_⟩
    have := (err_alts (errCopy_ok g1).1).1 a ha
    rw [g2, g3, g5, g6]; omega)
  have HER : Hid (errExts s c d = if errCopy s c ≠ 0 then errCopy s c else if errCopy s d ≠ 0 then errCopy s d else if errExt s c ≠ 0 then errExt s c else errExt s d) := Lib.hid rfl
  have HSL : Hid (bSure s c d = if errExts s c d = 0 then idsL s (fun a => !bef (lastL s c) a && bef (firstL s d) a) else []) := Lib.hid rfl
  have HML : Hid (bMay s c d = if errExts s c d = 0 then idsL s (fun a => !bef (firstL s c) a && bef (lastL s d) a) else []) := Lib.hid rfl
  generalize bSure s c d = S1 at HSL
  generalize bMay s c d = S2 at HML
  generalize errExts s c d = er at HER HSL HML
  generalize errCopy s c = k1 at HK1 HER
  generalize errCopy s d = k2 at HK2 HER
  generalize errExt s c = e1 at HE1 HF1 HL1 HOK HER
  generalize errExt s d = e2 at HE2 HF2 HL2 HOK HER
  generalize firstL s c = F1 at HF1 HOK HML
  generalize lastL s c = L1 at HL1 HOK HSL
  generalize firstL s d = F2 at HF2 HOK HSL
  generalize lastL s d = L2 at HL2 HOK HML
  have HX1 : Hid (Ext H ((((H.push (.row [Value.slice wa s.words.length wc, Value.slice aa s.alts.length ac] 25)).push (.row [Value.slice ca c.words.length cc, .int .i64 c.beg, .int .i64 c.fin, .int .i64 c.per] 27)).push (.row [Value.slice da d.words.length dc, .int .i64 d.beg, .int .i64 d.fin, .int .i64 d.per] 27)).push (.row [Value.slice none 0 0, Value.slice none 0 0, .int .i64 0] 51))) := Lib.hid (((((Ext.refl _).push' _).push' _).push' _).push' _)
  have HCELLS : Hid (∀ H' : AHeap, Ext ((((H.push (.row [Value.slice wa s.words.length wc, Value.slice aa s.alts.length ac] 25)).push (.row [Value.slice ca c.words.length cc, .int .i64 c.beg, .int .i64 c.fin, .int .i64 c.per] 27)).push (.row [Value.slice da d.words.length dc, .int .i64 d.beg, .int .i64 d.fin, .int .i64 d.per] 27)).push (.row [Value.slice none 0 0, Value.slice none 0 0, .int .i64 0] 51)) H' → cellsAt H' H.n 0 2 = some [Value.slice wa s.words.length wc, Value.slice aa s.alts.length ac] ∧ cellsAt H' (H.n + 1) 0 4 = some [Value.slice ca c.words.length cc, .int .i64 c.beg, .int .i64 c.fin, .int .i64 c.per] ∧ cellsAt H' (H.n + 1 + 1) 0 4 = some [Value.slice da d.words.length dc, .int .i64 d.beg, .int .i64 d.fin, .int .i64 d.per] ∧ H'.get (H.n + 1 + 1 + 1) = .row [Value.slice none 0 0, Value.slice none 0 0, .int .i64 0] 51 ∧ H.n + 1 + 1 + 1 < H'.n ∧ cellAt H' H.n 1 = some (Value.slice aa s.alts.length ac)) := Lib.hid (fun H' hx => by
    refine ⟨?_, ?_, ?_, ?_, ?_, ?_⟩
    · rw [hx.cellsAt (by simp only [AHeap.n_push]; omega), cellsAt_push, if_neg (by simp only [AHeap.n_push]; omega), cellsAt_push, if_neg (by simp only [AHeap.n_push]; omega), cellsAt_push, if_neg (by simp only [AHeap.n_push]; omega), cellsAt_push, if_pos rfl]; rfl
    · rw [hx.cellsAt (by simp only [AHeap.n_push]; omega), cellsAt_push, if_neg (by simp only [AHeap.n_push]; omega), cellsAt_push, if_neg (by simp only [AHeap.n_push]; omega), cellsAt_push, if_pos (by simp only [AHeap.n_push])]; rfl
    · rw [hx.cellsAt (by simp only [AHeap.n_push]; omega), cellsAt_push, if_neg (by simp only [AHeap.n_push]; omega), cellsAt_push, if_pos (by simp only [AHeap.n_push])]; rfl
    · rw [hx.get _ (by simp only [AHeap.n_push]; omega), get_at (by simp only [AHeap.n_push])]
    · have := hx.n; simp only [AHeap.n_push] at this; omega
    · rw [hx.cellAt (by simp only [AHeap.n_push]; omega), cellAt_push, if_neg (by simp only [AHeap.n_push]; omega), cellAt_push, if_neg (by simp only [AHeap.n_push]; omega), cellAt_push, if_neg (by simp only [AHeap.n_push]; omega), cellAt_push, if_pos rfl]; rfl)
  refine CallS.enter' Try.func34 rfl Try.ntmps34 (by simp) fun f hd hf => ?_
  have f0 := hf 0
  have f1 := hf 1
  have f2 := hf 2
  simp at f0 f1 f2
  clear hf
  by_cases hall : k1 = 0 ∧ k2 = 0 ∧ e1 = 0 ∧ e2 = 0
  · obtain ⟨hk1, hk2, he1, he2⟩ := hall
    obtain ⟨h40, hF1, hL1, hF2, hL2, hto⟩ := HOK.out he1 he2
    have hr : er = 0 := by rw [HER.out, if_neg (by simp [hk1]), if_neg (by simp [hk2]), if_neg (by simp [he1]), he2]
    have HTO := Lib.hid hto
    have HR0 := Lib.hid hr
    have HE10 := Lib.hid he1
    have HE20 := Lib.hid he2
    rw [if_pos hr] at HSL HML
    have z1 : (k1 == 0) = true := by simp [hk1]
    have z2 : (k2 == 0) = true := by simp [hk2]
    have z3 : (e1 == 0) = true := by simp [he1]
    have z4 : (e2 == 0) = true := by simp [he2]
    have z5 : (e2 != 0) = false := by simp [he2]
    clear hto HOK HER hr hk1 hk2 he1 he2
    repeat' (first|(with_reducible first|refine zA ?_|refine zB fun K hK=>?_|refine zC fun K2 hK2=>?_|refine zD ?_|refine zE ?_|refine zF ?_|refine zG ?_|refine zH ?_|refine zI ?_|refine zM ?_|refine zN ?_|refine zO ?_|refine zP ?_|refine zQ ?_|refine zR ?_)|((with_reducible refine zU (hK _ _ ?_));clear hK K)|((with_reducible refine zV ?_ ?_ fun K1 K3 d hdst h1 h3=>?_);rfl;exact yB rfl;cases hdst;go_simp)|((with_reducible refine zW fun K1 K3 h1 h3=>?_);go_simp)|((first|refine h1 ?_|refine h3 ?_);clear h1 h3 K1 K3)|((first|refine zX (fun hb=>h1 ?_) (fun hb=>h3 ?_)|refine zX (fun hb=>h3 ?_) (fun hb=>h1 ?_))<;>(clear h1 h3 K1 K3;(try have hb2:=yC hb);(try have hb2:=yD hb);(try have hb2:=yE hb);(try have hb2:=yF hb);(try have hb2:=yG hb)))|(refine fun (K2:_→AHeap→Prop) hK2=>?_)|((with_reducible refine zY ?_ ?_);decide)|((with_reducible first|refine zZ ?_ (fun K hK=>?_)|refine yA ?_ (fun K hK=>?_));(focus go_simp;done);go_simp;refine hK _ _ ?_;clear hK K)|(go_simp;(try go_bits);(try first |((with_reducible show CallS _ _ _ _ _ _);first|(refine CallS.mono (HK1.out _ _ HX1.out) ?_; rintro _ _ ⟨rfl, h9⟩; rw [h9]; clear h9)|(refine CallS.mono (HK2.out _ _ HX1.out) ?_; rintro _ _ ⟨rfl, h9⟩; rw [h9]; clear h9)|(refine CallS.mono (HE1.out _ _ HX1.out) ?_; rintro _ _ ⟨rfl, h9⟩; rw [h9]; clear h9)|(refine CallS.mono (HE2.out _ _ HX1.out) ?_; rintro _ _ ⟨rfl, h9⟩; rw [h9]; clear h9)|(refine CallS.mono (HF1.out _ _ HX1.out HE10.out) ?_; rintro _ H3 ⟨ho, hx⟩; (obtain ⟨fa, fn, rfl⟩ := own_slice ho); (have HFV := Lib.hid (ints_of_own ho (by omega))); (have HZ3 := Lib.hid hx); (obtain ⟨ck0, ck1, ck2, -, ck3, -⟩ := HCELLS.out _ hx); clear ho hx)|(refine CallS.mono (HL1.out _ _ (HX1.out.trans HZ3.out) HE10.out) ?_; rintro _ H4 ⟨ho, hx⟩; (obtain ⟨la, ln, rfl⟩ := own_slice ho); (have HLV := Lib.hid (ints_of_own ho (by omega))); (have HFV4 := Lib.hid (HFV.out.ext hx)); (have HZ4 := Lib.hid (HZ3.out.trans hx)); (obtain ⟨dk0, dk1, dk2, -, dk3, -⟩ := HCELLS.out _ HZ4.out); clear ho hx)|(refine CallS.mono (HF2.out _ _ (HX1.out.trans HZ4.out) HE20.out) ?_; rintro _ H5 ⟨ho, hx⟩; (obtain ⟨ga, gn, rfl⟩ := own_slice ho); (have HGV := Lib.hid (ints_of_own ho (by omega))); (have HFV5 := Lib.hid (HFV4.out.ext hx)); (have HLV5 := Lib.hid (HLV.out.ext hx)); (have HZ5 := Lib.hid (HZ4.out.trans hx)); (obtain ⟨ek0, ek1, ek2, -, ek3, -⟩ := HCELLS.out _ HZ5.out); clear ho hx)|(refine CallS.mono (HL2.out _ _ (HX1.out.trans HZ5.out) HE20.out) ?_; rintro _ H2 ⟨ho, hx⟩; (obtain ⟨ka, kn, rfl⟩ := own_slice ho); (have HKV := Lib.hid (ints_of_own ho (by omega))); (have HFV2 := Lib.hid (HFV5.out.ext hx)); (have HLV2 := Lib.hid (HLV5.out.ext hx)); (have HGV2 := Lib.hid (HGV.out.ext hx)); (have HZ2 := Lib.hid (HZ5.out.trans hx)); (obtain ⟨gk0, gk1, gk2, gk4, gk3, gk5⟩ := HCELLS.out _ HZ2.out); clear ho hx)));refine hK2 _ _ ?_;clear hK2 K2))
    all_goals try (exact absurd (HE20.out) (by simpa using ‹(e2 != 0) = true›))
    obtain ⟨-, x1, x2, hxe⟩ := HFV2.out.slice
    obtain ⟨h1, h2, h3⟩ : fa = x1 ∧ fn = F1.length ∧ fn = x2 := by injection hxe with a b c; exact ⟨a, b, c⟩
    subst h1 h3
    have Hfn := Lib.hid h2
    clear hxe h2
    obtain ⟨-, x1, x2, hxe⟩ := HLV2.out.slice
    obtain ⟨h1, h2, h3⟩ : la = x1 ∧ ln = L1.length ∧ ln = x2 := by injection hxe with a b c; exact ⟨a, b, c⟩
    subst h1 h3
    have Hln := Lib.hid h2
    clear hxe h2
    obtain ⟨-, x1, x2, hxe⟩ := HGV2.out.slice
    obtain ⟨h1, h2, h3⟩ : ga = x1 ∧ gn = F2.length ∧ gn = x2 := by injection hxe with a b c; exact ⟨a, b, c⟩
    subst h1 h3
    have Hgn := Lib.hid h2
    clear hxe h2
    obtain ⟨-, x1, x2, hxe⟩ := HKV.out.slice
    obtain ⟨h1, h2, h3⟩ : ka = x1 ∧ kn = L2.length ∧ kn = x2 := by injection hxe with a b c; exact ⟨a, b, c⟩
    subst h1 h3
    have Hkn := Lib.hid h2
    clear hxe h2
    clear ck0 ck1 ck2 ck3 dk0 dk1 dk2 dk3 ek0 ek1 ek2 ek3 gk0 gk1 gk2
    refine CodeS.loop (fun m f H' => ∃ (k : Nat) (av bv : Value), k ≤ s.alts.length ∧ m = s.alts.length - k ∧ f.tmp 13 = .int .i64 k ∧ f.tmp 3 = .pointer (some ⟨H.n, 0, none⟩) ∧ f.tmp 6 = .pointer (some ⟨H.n + 1 + 1 + 1, 0, none⟩) ∧ f.tmp 8 = .slice fa fn fn ∧ f.tmp 9 = .slice la ln ln ∧ f.tmp 10 = .slice ga gn gn ∧ f.tmp 11 = .slice ka kn kn ∧ f.tmp 12 = .pointer (some ⟨H2.n, 0, none⟩) ∧ f.defers = [] ∧ H2.n < H'.n ∧ Hid (∀ i, i < H2.n → H'.get i = H2.get i) ∧ Hid (H'.get H2.n = .row [av, bv, .int .i64 0] 51) ∧ Hid (Own H' (H2.n + 1) av 3 1 ((idsT s (fun a => !bef L1 a && bef F2 a) k).map (Value.int .i64))) ∧ Hid (Own H' (H2.n + 1) bv 3 1 ((idsT s (fun a => !bef F1 a && bef L2 a) k).map (Value.int .i64)))) s.alts.length ?_ ?_
    · exact ⟨0, .slice none 0 0, .slice none 0 0, by simp, by simp, (by first|go_simp<;>go_num|assumption), (by first|go_simp<;>go_num|assumption), (by first|go_simp<;>go_num|assumption), (by first|go_simp<;>go_num|assumption), (by first|go_simp<;>go_num|assumption), (by first|go_simp<;>go_num|assumption), (by first|go_simp<;>go_num|assumption), (by first|go_simp<;>go_num|assumption), (by first|go_simp<;>go_num|assumption), by rw [AHeap.n_push]; omega, Lib.hid (fun i hi => AHeap.get_push_old hi), Lib.hid AHeap.get_push_new, Lib.hid Own.nil, Lib.hid Own.nil⟩
    clear f0 f1 f2 hd f z1 z2 z3 z4 z5
    rintro m f H' ⟨k, av, bv, hk, rfl, f13, f3, f6, f8, f9, f10, f11, f12, hd, hq1, HK, HG, HOA, HOB⟩
    have HX2 : Hid (Ext H2 H') := Lib.hid ⟨by omega, HK.out⟩
    obtain ⟨ava, avn, rfl⟩ := own_slice HOA.out
    obtain ⟨bva, bvn, rfl⟩ := own_slice HOB.out
    have hn0 : H.n < H'.n := by omega
    have hc1 : cellAt H' H.n 1 = some (Value.slice aa s.alts.length ac) := (HX2.out.cellAt (by omega)).trans gk5
    have hg := HG.out
    have hga : cellAt H' H2.n 0 = some (.slice ava avn avn) := by simp [cellAt, hg]
    have hgb : cellAt H' H2.n 1 = some (.slice bva bvn bvn) := by simp [cellAt, hg]
    have hgc : cellsAt H' H2.n 0 3 = some [.slice ava avn avn, .slice bva bvn bvn, .int .i64 0] := by simp [cellsAt, hg]
    have hg2 : H'.get (H.n + 1 + 1 + 1) = .row [Value.slice none 0 0, Value.slice none 0 0, .int .i64 0] 51 := (HK.out _ gk3).trans gk4
    by_cases hlt : k < s.alts.length
    · obtain ⟨b, o, sp, rfl, hb, hx6, -⟩ := (HA.out.ext (HX1.out.trans (HZ2.out.trans HX2.out))).at_ hlt
      have hto := HTO.out _ (List.getElem_mem hlt)
      have HTA := Lib.hid (idsT_succ (acc := (fun a => !bef L1 a && bef F2 a)) hlt)
      have HTB := Lib.hid (idsT_succ (acc := (fun a => !bef F1 a && bef L2 a)) hlt)
      generalize s.alts[k] = a at hx6 hto HTA HTB
      obtain ⟨i1, i2, i3, i4, i5, i6⟩ := a
      obtain ⟨t, rfl⟩ : ∃ t : Nat, i5 = (t : Int) := ⟨i5.toNat, by simp only at hto; omega⟩
      have hx6' : cellsAt H' b (o + k * 6) 6 = some [.int .i64 i1, .int .i64 i2, .int .i64 i3, .int .i64 i4, .int .i64 (t : Nat), .int .i64 i6] := hx6
      clear hx6
      have ht1 : t < F1.length := by have := hto.2.1; simp only at this; omega
      have ht2 : t < L1.length := by have := hto.2.2.1; simp only at this; omega
      have ht3 : t < F2.length := by have := hto.2.2.2.1; simp only at this; omega
      have ht4 : t < L2.length := by have := hto.2.2.2.2; simp only at this; omega
      obtain ⟨fb, fo, fs, rfl, hfb, hfx⟩ := (HFV2.out.ext HX2.out).at_ ht1
      obtain ⟨lb, lo, ls, rfl, hlb, hlx⟩ := (HLV2.out.ext HX2.out).at_ ht2
      obtain ⟨gb, go, gs, rfl, hgb', hgx⟩ := (HGV2.out.ext HX2.out).at_ ht3
      obtain ⟨kb, ko, ks, rfl, hkb, hkx⟩ := (HKV.out.ext HX2.out).at_ ht4
      have e1' : bef F1 ⟨i1, i2, i3, i4, (t : Int), i6⟩ = decide (i3 ≤ F1[t]) := by simp [bef, List.getD_eq_getElem?_getD, ht1]
      have e2' : bef L1 ⟨i1, i2, i3, i4, (t : Int), i6⟩ = decide (i3 ≤ L1[t]) := by simp [bef, List.getD_eq_getElem?_getD, ht2]
      have e3' : bef F2 ⟨i1, i2, i3, i4, (t : Int), i6⟩ = decide (i3 ≤ F2[t]) := by simp [bef, List.getD_eq_getElem?_getD, ht3]
      have e4' : bef L2 ⟨i1, i2, i3, i4, (t : Int), i6⟩ = decide (i3 ≤ L2[t]) := by simp [bef, List.getD_eq_getElem?_getD, ht4]
      rw [e2', e3'] at HTA
      rw [e1', e4'] at HTB
      generalize F1[t] = y1 at hfx HTB
      generalize L1[t] = y2 at hlx HTA
      generalize F2[t] = y3 at hgx HTA
      generalize L2[t] = y4 at hkx HTB
      have hlA := idsT_len s (fun a => !bef L1 a && bef F2 a) k
      have hlB := idsT_len s (fun a => !bef F1 a && bef L2 a) k
      have HLA := Lib.hid (show (idsT s (fun a => !bef L1 a && bef F2 a) k).length ≤ 1000 by omega)
      have HLB := Lib.hid (show (idsT s (fun a => !bef F1 a && bef L2 a) k).length ≤ 1000 by omega)
      have hz0 : (0 : Int) ≤ (t : Int) := by omega
      have hz1 : (t : Int) < (fn : Nat) := by have := Hfn.out; omega
      have hz2 : (t : Int) < (ln : Nat) := by have := Hln.out; omega
      have hz3 : (t : Int) < (gn : Nat) := by have := Hgn.out; omega
      have hz4 : (t : Int) < (kn : Nat) := by have := Hkn.out; omega
      clear e1' e2' e3' e4' hto ht1 ht2 ht3 ht4 hlA hlB
      generalize hA2 : idsT s (fun a => !bef L1 a && bef F2 a) (k + 1) = A2 at HTA
      generalize hB2 : idsT s (fun a => !bef F1 a && bef L2 a) (k + 1) = B2 at HTB
      have HA2 := Lib.hid hA2
      have HB2 := Lib.hid hB2
      clear hA2 hB2
      generalize idsT s (fun a => !bef L1 a && bef F2 a) k = A1 at HTA HOA HLA
      generalize idsT s (fun a => !bef F1 a && bef L2 a) k = B1 at HTB HOB HLB
      have hb1 : b < H'.n := hb
      repeat' (first|((with_reducible refine stop_if (n := 19) ?_))|(with_reducible first|refine zA ?_|refine zB fun K hK=>?_|refine zC fun K2 hK2=>?_|refine zD ?_|refine zE ?_|refine zF ?_|refine zG ?_|refine zH ?_|refine zI ?_|refine zM ?_|refine zN ?_|refine zO ?_|refine zP ?_|refine zQ ?_|refine zR ?_)|((with_reducible refine zU (hK _ _ ?_));clear hK K)|((with_reducible refine zV ?_ ?_ fun K1 K3 d hdst h1 h3=>?_);rfl;exact yB rfl;cases hdst;go_simp)|((with_reducible refine zW fun K1 K3 h1 h3=>?_);go_simp)|((first|refine h1 ?_|refine h3 ?_);clear h1 h3 K1 K3)|((first|refine zX (fun hb=>h1 ?_) (fun hb=>h3 ?_)|refine zX (fun hb=>h3 ?_) (fun hb=>h1 ?_))<;>(clear h1 h3 K1 K3;(try have hb2:=yC hb);(try have hb2:=yD hb);(try have hb2:=yE hb);(try have hb2:=yF hb);(try have hb2:=yG hb)))|(refine fun (K2:_→AHeap→Prop) hK2=>?_)|((with_reducible refine zY ?_ ?_);decide)|((with_reducible first|refine zZ ?_ (fun K hK=>?_)|refine yA ?_ (fun K hK=>?_));(focus go_simp;done);go_simp;refine hK _ _ ?_;clear hK K)|(go_simp;(try go_bits);refine hK2 _ _ ?_;clear hK2 K2))
      refine ⟨CodeS.cut (fun f H3 => ∃ av2 : Value, f.tmp 13 = .int .i64 k ∧ f.tmp 14 = .pointer (some ⟨H'.n, 0, none⟩) ∧ f.tmp 3 = .pointer (some ⟨H.n, 0, none⟩) ∧ f.tmp 6 = .pointer (some ⟨H.n + 1 + 1 + 1, 0, none⟩) ∧ f.tmp 8 = .slice (some ⟨fb, fo, fs⟩) fn fn ∧ f.tmp 9 = .slice (some ⟨lb, lo, ls⟩) ln ln ∧ f.tmp 10 = .slice (some ⟨gb, go, gs⟩) gn gn ∧ f.tmp 11 = .slice (some ⟨kb, ko, ks⟩) kn kn ∧ f.tmp 12 = .pointer (some ⟨H2.n, 0, none⟩) ∧ f.defers = [] ∧ H'.n < H3.n ∧ Hid (∀ i, i < H'.n → i ≠ H2.n → H3.get i = H'.get i) ∧ Hid (H3.get H'.n = .row [.int .i64 i1, .int .i64 i2, .int .i64 i3, .int .i64 i4, .int .i64 (t : Nat), .int .i64 i6] 61) ∧ Hid (H3.get H2.n = .row [av2, .slice bva bvn bvn, .int .i64 0] 51) ∧ Hid (Own H3 (H2.n + 1) av2 3 1 (A2.map (Value.int .i64))) ∧ Hid (Own H3 (H2.n + 1) (.slice bva bvn bvn) 3 1 (B1.map (Value.int .i64)))) ?_ ?_⟩
      · repeat' (first|(with_reducible first|refine zA ?_|refine zB fun K hK=>?_|refine zC fun K2 hK2=>?_|refine zD ?_|refine zE ?_|refine zF ?_|refine zG ?_|refine zH ?_|refine zI ?_|refine zM ?_|refine zN ?_|refine zO ?_|refine zP ?_|refine zQ ?_|refine zR ?_)|((with_reducible refine zU (hK _ _ ?_));clear hK K)|((with_reducible refine zV ?_ ?_ fun K1 K3 d hdst h1 h3=>?_);rfl;exact yB rfl;cases hdst;go_simp)|((with_reducible refine zW fun K1 K3 h1 h3=>?_);go_simp)|((first|refine h1 ?_|refine h3 ?_);clear h1 h3 K1 K3)|((first|refine zX (fun hb=>h1 ?_) (fun hb=>h3 ?_)|refine zX (fun hb=>h3 ?_) (fun hb=>h1 ?_))<;>(clear h1 h3 K1 K3;(try have hb2:=yC hb);(try have hb2:=yD hb);(try have hb2:=yE hb);(try have hb2:=yF hb);(try have hb2:=yG hb)))|(refine fun (K2:_→AHeap→Prop) hK2=>?_)|((with_reducible refine zY ?_ ?_);decide)|((with_reducible first|refine zZ ?_ (fun K hK=>?_)|refine yA ?_ (fun K hK=>?_));(focus go_simp;done);go_simp;refine hK _ _ ?_;clear hK K)|((with_reducible refine yH mixed rfl ?_ 20 fun K0 hK0=>?_);kernel_rfl)|(with_reducible first|exact yI|exact yJ|refine yK ?_|refine yL ?_|refine yM ?_)|((with_reducible first|refine yN ?_ ?_|refine yO ?_ ?_|refine yP ?_ ?_);rfl)|((with_reducible refine yQ ?_ ?_);rfl;refine hK0 _ _ ?_;clear hK0 K0)|((with_reducible refine yR ?_ ?_ ?_ ?_);rfl;rfl;rfl)|((with_reducible refine yS ?_ ?_ ?_ fun K2 hK2=>?_);rfl;rfl;exact yB rfl)|((with_reducible refine yT ?_ ?_ ?_ ?_ fun K1 K3 d hdst h1 h3=>?_);rfl;rfl;rfl;exact yB rfl;cases hdst;go_simp)|((with_reducible refine yU ?_ ?_ ?_ ?_ fun K1 K3 d hdst h1 h3=>?_);rfl;rfl;rfl;exact yB rfl;cases hdst;go_simp)|((with_reducible refine yV ?_ ?_ (fun K2 hK2=>?_) ?_);rfl;exact yB rfl)|((with_reducible refine yW ?_ ?_ ?_ ?_ (fun K2 hK2=>?_) ?_);rfl;exact yB rfl;rfl;(focus go_simp;done))|((with_reducible refine yX ?_ ?_ ?_ (fun K2 hK2=>?_) ?_);rfl;rfl;exact yB rfl)|((with_reducible refine yY ?_ ?_ (fun K2 hK2=>?_) ?_);rfl;rfl)|((with_reducible refine yZ ?_ ?_);(first|rfl|(dsimp only;decide +kernel)))|((with_reducible refine xA ?_ ?_);(focus go_simp;done))|(go_simp;(try go_bits);(try first | ((with_reducible show CallS _ _ _ _ _ _);refine CallS.mono (insert_o (HOA.out.ext (Ext.push _)) HLA.out) ?_; rintro _ H5 ⟨ho, hx⟩; (obtain ⟨ra, rn, rfl⟩ := own_slice ho); (have HR := Lib.hid ho); (have HX5 := Lib.hid hx); (have hg5 : H5.get H2.n = .row [.slice ava avn avn, .slice bva bvn bvn, .int .i64 0] 51 := (hx.get _ (by rw [AHeap.n_push]; omega)).trans ((AHeap.get_push_old hq1).trans hg)); (have hn5 : H'.n < H5.n := by have := hx.n; rw [AHeap.n_push] at this; omega); clear ho hx));(first|(refine hK2 _ _ ?_ ?_<;>clear hK2 K2)|(refine hK2 _ _ ?_;clear hK2 K2))))
        all_goals first
          | (have hya : A2 = insL A1 i1 := by
               have g1 : i3 ≤ y3 := by simpa using ‹decide (i3 ≤ y3) = true›
               have g2 : y2 < i3 := by simpa using ‹decide (y2 < i3) = true›
               rw [HTA.out, if_pos (by simp; omega)]
             refine ⟨.slice ra rn rn, (by first|go_simp<;>go_num|assumption), (by first|go_simp<;>go_num|assumption), (by first|go_simp<;>go_num|assumption), (by first|go_simp<;>go_num|assumption), (by first|go_simp<;>go_num|assumption), (by first|go_simp<;>go_num|assumption), (by first|go_simp<;>go_num|assumption), (by first|go_simp<;>go_num|assumption), (by first|go_simp<;>go_num|assumption), (by first|go_simp<;>go_num|assumption), by rw [AHeap.n_upd]; omega, Lib.hid (fun i hi hne => ?_), Lib.hid ?_, Lib.hid ?_, Lib.hid ?_, Lib.hid ?_⟩
             · rw [AHeap.get_upd_ne hne, HX5.out.get _ (by rw [AHeap.n_push]; omega), AHeap.get_push_old hi]
             · rw [AHeap.get_upd_ne (by omega), HX5.out.get _ (by rw [AHeap.n_push]; omega), AHeap.get_push_new]
             · rw [AHeap.get_upd_same]
             · rw [hya]; exact (own_upd HR.out (by rw [AHeap.n_push]; omega)).mono (by rw [AHeap.n_push]; omega)
             · exact own_upd ((HOB.out.ext (Ext.push _)).ext HX5.out) (by omega))
          | (have hya : A2 = A1 := by
               have g : ¬ (i3 ≤ y3) ∨ ¬ (y2 < i3) := by
                 first
                   | exact .inl (by simpa using ‹decide (i3 ≤ y3) = false›)
                   | exact .inr (by simpa using ‹decide (y2 < i3) = false›)
               rw [HTA.out, if_neg (by simp; omega)]
             refine ⟨.slice ava avn avn, (by first|go_simp<;>go_num|assumption), (by first|go_simp<;>go_num|assumption), (by first|go_simp<;>go_num|assumption), (by first|go_simp<;>go_num|assumption), (by first|go_simp<;>go_num|assumption), (by first|go_simp<;>go_num|assumption), (by first|go_simp<;>go_num|assumption), (by first|go_simp<;>go_num|assumption), (by first|go_simp<;>go_num|assumption), (by first|go_simp<;>go_num|assumption), by rw [AHeap.n_push]; omega, Lib.hid (fun i hi hne => AHeap.get_push_old hi), Lib.hid AHeap.get_push_new, Lib.hid ((AHeap.get_push_old hq1).trans hg), Lib.hid ?_, Lib.hid (HOB.out.ext (Ext.push _))⟩
             rw [hya]; exact HOA.out.ext (Ext.push _))
      · clear f13 f3 f6 f8 f9 f10 f11 f12 hd f hg hga hgb hgc hg2 hx6' hlx hgx
        rintro f H3 ⟨av2, f13, f14, f3, f6, f8, f9, f10, f11, f12, hd, hn3, HK3, HG3, HQ3, HOA3, HOB3⟩
        obtain ⟨aw, awn, rfl⟩ := own_slice HOA3.out
        have hg3 := HG3.out
        have hq3 := HQ3.out
        have ha0 : cellAt H3 H'.n 0 = some (.int .i64 i1) := by simp [cellAt, hg3]
        have ha2 : cellAt H3 H'.n 2 = some (.int .i64 i3) := by simp [cellAt, hg3]
        have ha4 : cellAt H3 H'.n 4 = some (.int .i64 (t : Nat)) := by simp [cellAt, hg3]
        have hgb : cellAt H3 H2.n 1 = some (.slice bva bvn bvn) := by simp [cellAt, hq3]
        have hkx3 : cellAt H3 kb (ko + t) = some (.int .i64 y4) := by
          have hlb2 : kb < H2.n := by
            obtain ⟨_, _, _, hq, hlb2, _⟩ := HKV.out.at_ (k := t) (by have := Hkn.out; omega)
            cases hq; exact hlb2
          have := hkx
          simp only [cellAt] at this ⊢
          rw [HK3.out kb hkb (by omega)]; exact this
        have hfx3 : cellAt H3 fb (fo + t) = some (.int .i64 y1) := by
          have hlb2 : fb < H2.n := by
            obtain ⟨_, _, _, hq, hlb2, _⟩ := HFV2.out.at_ (k := t) (by have := Hfn.out; omega)
            cases hq; exact hlb2
          have := hfx
          simp only [cellAt] at this ⊢
          rw [HK3.out fb hfb (by omega)]; exact this
        have hkb3 : kb < H3.n := by omega
        have hfb3 : fb < H3.n := by omega
        have hq3n : H2.n < H3.n := by omega
        clear hg3 hkx hfx
        repeat' (first|(with_reducible first|refine zA ?_|refine zB fun K hK=>?_|refine zC fun K2 hK2=>?_|refine zD ?_|refine zE ?_|refine zF ?_|refine zG ?_|refine zH ?_|refine zI ?_|refine zM ?_|refine zN ?_|refine zO ?_|refine zP ?_|refine zQ ?_|refine zR ?_)|((with_reducible refine zU (hK _ _ ?_));clear hK K)|((with_reducible refine zV ?_ ?_ fun K1 K3 d hdst h1 h3=>?_);rfl;exact yB rfl;cases hdst;go_simp)|((with_reducible refine zW fun K1 K3 h1 h3=>?_);go_simp)|((first|refine h1 ?_|refine h3 ?_);clear h1 h3 K1 K3)|((first|refine zX (fun hb=>h1 ?_) (fun hb=>h3 ?_)|refine zX (fun hb=>h3 ?_) (fun hb=>h1 ?_))<;>(clear h1 h3 K1 K3;(try have hb2:=yC hb);(try have hb2:=yD hb);(try have hb2:=yE hb);(try have hb2:=yF hb);(try have hb2:=yG hb)))|(refine fun (K2:_→AHeap→Prop) hK2=>?_)|((with_reducible refine zY ?_ ?_);decide)|((with_reducible first|refine zZ ?_ (fun K hK=>?_)|refine yA ?_ (fun K hK=>?_));(focus go_simp;done);go_simp;refine hK _ _ ?_;clear hK K)|((with_reducible refine yH mixed rfl ?_ 20 fun K0 hK0=>?_);kernel_rfl)|(with_reducible first|exact yI|exact yJ|refine yK ?_|refine yL ?_|refine yM ?_)|((with_reducible first|refine yN ?_ ?_|refine yO ?_ ?_|refine yP ?_ ?_);rfl)|((with_reducible refine yQ ?_ ?_);rfl;refine hK0 _ _ ?_;clear hK0 K0)|((with_reducible refine yR ?_ ?_ ?_ ?_);rfl;rfl;rfl)|((with_reducible refine yS ?_ ?_ ?_ fun K2 hK2=>?_);rfl;rfl;exact yB rfl)|((with_reducible refine yT ?_ ?_ ?_ ?_ fun K1 K3 d hdst h1 h3=>?_);rfl;rfl;rfl;exact yB rfl;cases hdst;go_simp)|((with_reducible refine yU ?_ ?_ ?_ ?_ fun K1 K3 d hdst h1 h3=>?_);rfl;rfl;rfl;exact yB rfl;cases hdst;go_simp)|((with_reducible refine yV ?_ ?_ (fun K2 hK2=>?_) ?_);rfl;exact yB rfl)|((with_reducible refine yW ?_ ?_ ?_ ?_ (fun K2 hK2=>?_) ?_);rfl;exact yB rfl;rfl;(focus go_simp;done))|((with_reducible refine yX ?_ ?_ ?_ (fun K2 hK2=>?_) ?_);rfl;rfl;exact yB rfl)|((with_reducible refine yY ?_ ?_ (fun K2 hK2=>?_) ?_);rfl;rfl)|((with_reducible refine yZ ?_ ?_);(first|rfl|(dsimp only;decide +kernel)))|((with_reducible refine xA ?_ ?_);(focus go_simp;done))|(go_simp;(try go_bits);(try first | ((with_reducible show CallS _ _ _ _ _ _);refine CallS.mono (insert_o HOB3.out HLB.out) ?_; rintro _ H5 ⟨ho, hx⟩; (obtain ⟨ra, rn, rfl⟩ := own_slice ho); (have HR := Lib.hid ho); (have HX5 := Lib.hid hx); (have hg5 : H5.get H2.n = .row [.slice aw awn awn, .slice bva bvn bvn, .int .i64 0] 51 := (hx.get _ hq3n).trans hq3); (have hn5 : H3.n ≤ H5.n := hx.n); clear ho hx));(first|(refine hK2 _ _ ?_ ?_<;>clear hK2 K2)|(refine hK2 _ _ ?_;clear hK2 K2))))
        all_goals first
          | (have hyb : B2 = insL B1 i1 := by
               have g1 : i3 ≤ y4 := by simpa using ‹decide (i3 ≤ y4) = true›
               have g2 : y1 < i3 := by simpa using ‹decide (y1 < i3) = true›
               rw [HTB.out, if_pos (by simp; omega)]
             refine Post.round_normal ⟨s.alts.length - (k + 1), by omega, k + 1, .slice aw awn awn, .slice ra rn rn, by omega, rfl, (by first|go_simp<;>go_num|assumption), (by first|go_simp<;>go_num|assumption), (by first|go_simp<;>go_num|assumption), (by first|go_simp<;>go_num|assumption), (by first|go_simp<;>go_num|assumption), (by first|go_simp<;>go_num|assumption), (by first|go_simp<;>go_num|assumption), (by first|go_simp<;>go_num|assumption), (by first|go_simp<;>go_num|assumption), by rw [AHeap.n_upd]; omega, Lib.hid (fun i hi => ?_), Lib.hid ?_, Lib.hid ?_, Lib.hid ?_⟩
             · rw [AHeap.get_upd_ne (by omega), HX5.out.get _ (by omega), HK3.out i (by omega) (by omega), HK.out i hi]
             · rw [AHeap.get_upd_same]
             · rw [HA2.out]; exact own_upd (HOA3.out.ext HX5.out) (by omega)
             · rw [HB2.out, hyb]; exact (own_upd HR.out (by omega)).mono (by omega))
          | (have hyb : B2 = B1 := by
               have g : ¬ (i3 ≤ y4) ∨ ¬ (y1 < i3) := by
                 first
                   | exact .inl (by simpa using ‹decide (i3 ≤ y4) = false›)
                   | exact .inr (by simpa using ‹decide (y1 < i3) = false›)
               rw [HTB.out, if_neg (by simp; omega)]
             refine Post.round_normal ⟨s.alts.length - (k + 1), by omega, k + 1, .slice aw awn awn, .slice bva bvn bvn, by omega, rfl, (by first|go_simp<;>go_num|assumption), (by first|go_simp<;>go_num|assumption), (by first|go_simp<;>go_num|assumption), (by first|go_simp<;>go_num|assumption), (by first|go_simp<;>go_num|assumption), (by first|go_simp<;>go_num|assumption), (by first|go_simp<;>go_num|assumption), (by first|go_simp<;>go_num|assumption), (by first|go_simp<;>go_num|assumption), by omega, Lib.hid (fun i hi => ?_), HQ3, Lib.hid ?_, Lib.hid ?_⟩
             · rw [HK3.out i (by omega) (by omega), HK.out i hi]
             · rw [HA2.out]; exact HOA3.out
             · rw [HB2.out, hyb]; exact HOB3.out)
    · repeat' (first|(with_reducible first|refine zA ?_|refine zB fun K hK=>?_|refine zC fun K2 hK2=>?_|refine zD ?_|refine zE ?_|refine zF ?_|refine zG ?_|refine zH ?_|refine zI ?_|refine zM ?_|refine zN ?_|refine zO ?_|refine zP ?_|refine zQ ?_|refine zR ?_)|((with_reducible refine zU (hK _ _ ?_));clear hK K)|((with_reducible refine zV ?_ ?_ fun K1 K3 d hdst h1 h3=>?_);rfl;exact yB rfl;cases hdst;go_simp)|((with_reducible refine zW fun K1 K3 h1 h3=>?_);go_simp)|((first|refine h1 ?_|refine h3 ?_);clear h1 h3 K1 K3)|((first|refine zX (fun hb=>h1 ?_) (fun hb=>h3 ?_)|refine zX (fun hb=>h3 ?_) (fun hb=>h1 ?_))<;>(clear h1 h3 K1 K3;(try have hb2:=yC hb);(try have hb2:=yD hb);(try have hb2:=yE hb);(try have hb2:=yF hb);(try have hb2:=yG hb)))|(refine fun (K2:_→AHeap→Prop) hK2=>?_)|((with_reducible refine zY ?_ ?_);decide)|((with_reducible first|refine zZ ?_ (fun K hK=>?_)|refine yA ?_ (fun K hK=>?_));(focus go_simp;done);go_simp;refine hK _ _ ?_;clear hK K)|(go_simp;(try go_bits);refine hK2 _ _ ?_;clear hK2 K2))
      have hke : k = s.alts.length := by omega
      subst hke
      rw [idsT_all] at HOA HOB
      have hlA : (idsL s (fun a => !bef L1 a && bef F2 a)).length ≤ 9223372036854775807 := by rw [← idsT_all]; have := idsT_len s (fun a => !bef L1 a && bef F2 a) s.alts.length; omega
      have hlB : (idsL s (fun a => !bef F1 a && bef L2 a)).length ≤ 9223372036854775807 := by rw [← idsT_all]; have := idsT_len s (fun a => !bef F1 a && bef L2 a) s.alts.length; omega
      refine ⟨⟨_, _, by rw [HR0.out], ?_, ?_⟩, ((HX1.out.trans HZ2.out).trans HX2.out |>.upd (by omega) _)⟩
      · rw [HSL.out]; exact ints_of_own (own_upd HOA.out (by omega)) hlA
      · rw [HML.out]; exact ints_of_own (own_upd HOB.out (by omega)) hlB
  · clear HF1 HL1 HF2 HL2
    repeat' (first|(with_reducible first|refine zA ?_|refine zB fun K hK=>?_|refine zC fun K2 hK2=>?_|refine zD ?_|refine zE ?_|refine zF ?_|refine zG ?_|refine zH ?_|refine zI ?_|refine zM ?_|refine zN ?_|refine zO ?_|refine zP ?_|refine zQ ?_|refine zR ?_)|((with_reducible refine zU (hK _ _ ?_));clear hK K)|((with_reducible refine zV ?_ ?_ fun K1 K3 d hdst h1 h3=>?_);rfl;exact yB rfl;cases hdst;go_simp)|((with_reducible refine zW fun K1 K3 h1 h3=>?_);go_simp)|((first|refine h1 ?_|refine h3 ?_);clear h1 h3 K1 K3)|((first|refine zX (fun hb=>h1 ?_) (fun hb=>h3 ?_)|refine zX (fun hb=>h3 ?_) (fun hb=>h1 ?_))<;>(clear h1 h3 K1 K3;(try have hb2:=yC hb);(try have hb2:=yD hb);(try have hb2:=yE hb);(try have hb2:=yF hb);(try have hb2:=yG hb)))|(refine fun (K2:_→AHeap→Prop) hK2=>?_)|((with_reducible refine zY ?_ ?_);decide)|((with_reducible first|refine zZ ?_ (fun K hK=>?_)|refine yA ?_ (fun K hK=>?_));(focus go_simp;done);go_simp;refine hK _ _ ?_;clear hK K)|(go_simp;(try go_bits);(try first |((with_reducible show CallS _ _ _ _ _ _);first|(refine CallS.mono (HK1.out _ _ HX1.out) ?_; rintro _ _ ⟨rfl, h9⟩; rw [h9]; clear h9)|(refine CallS.mono (HK2.out _ _ HX1.out) ?_; rintro _ _ ⟨rfl, h9⟩; rw [h9]; clear h9)|(refine CallS.mono (HE1.out _ _ HX1.out) ?_; rintro _ _ ⟨rfl, h9⟩; rw [h9]; clear h9)|(refine CallS.mono (HE2.out _ _ HX1.out) ?_; rintro _ _ ⟨rfl, h9⟩; rw [h9]; clear h9)));refine hK2 _ _ ?_;clear hK2 K2))
    all_goals first
      | (exfalso
         have g1 : (k1 == 0) = false := ‹(k1 == 0) = false›
         have g2 : (k1 != 0) = false := ‹(k1 != 0) = false›
         simp at g1 g2
         exact g1 g2)
      | (exfalso
         have g1 : (k2 == 0) = false := ‹(k2 == 0) = false›
         have g2 : (k2 != 0) = false := ‹(k2 != 0) = false›
         simp at g1 g2
         exact g1 g2)
      | (exfalso
         have g1 : (e1 == 0) = false := ‹(e1 == 0) = false›
         have g2 : (e1 != 0) = false := ‹(e1 != 0) = false›
         simp at g1 g2
         exact g1 g2)
      | (exfalso
         have g1 : k1 = 0 := by simpa using ‹(k1 == 0) = true›
         have g2 : k2 = 0 := by simpa using ‹(k2 == 0) = true›
         have g3 : e1 = 0 := by simpa using ‹(e1 == 0) = true›
         have g4 : e2 = 0 := by simpa using ‹(e2 != 0) = false›
         exact hall ⟨g1, g2, g3, g4⟩)
      | (have g1 : ¬ k1 = 0 := by simpa using ‹(k1 == 0) = false›
         have hr : er = k1 := by rw [HER.out, if_pos g1]
         exact ⟨⟨_, _, by rw [hr], by rw [HSL.out, if_neg (by rw [hr]; exact g1)]; exact ints_nil _, by rw [HML.out, if_neg (by rw [hr]; exact g1)]; exact ints_nil _⟩, ((((Ext.refl _).push' _).push' _).push' _).push' _⟩)
      | (have gk1 : k1 = 0 := by simpa using ‹(k1 == 0) = true›
         have g1 : ¬ k2 = 0 := by simpa using ‹(k2 == 0) = false›
         have hr : er = k2 := by rw [HER.out, if_neg (by simp [gk1]), if_pos g1]
         exact ⟨⟨_, _, by rw [hr], by rw [HSL.out, if_neg (by rw [hr]; exact g1)]; exact ints_nil _, by rw [HML.out, if_neg (by rw [hr]; exact g1)]; exact ints_nil _⟩, ((((Ext.refl _).push' _).push' _).push' _).push' _⟩)
      | (have gk1 : k1 = 0 := by simpa using ‹(k1 == 0) = true›
         have gk2 : k2 = 0 := by simpa using ‹(k2 == 0) = true›
         have g1 : ¬ e1 = 0 := by simpa using ‹(e1 == 0) = false›
         have hr : er = e1 := by rw [HER.out, if_neg (by simp [gk1]), if_neg (by simp [gk2]), if_pos g1]
         exact ⟨⟨_, _, by rw [hr], by rw [HSL.out, if_neg (by rw [hr]; exact g1)]; exact ints_nil _, by rw [HML.out, if_neg (by rw [hr]; exact g1)]; exact ints_nil _⟩, ((((Ext.refl _).push' _).push' _).push' _).push' _⟩)
      | (have gk1 : k1 = 0 := by simpa using ‹(k1 == 0) = true›
         have gk2 : k2 = 0 := by simpa using ‹(k2 == 0) = true›
         have ge1 : e1 = 0 := by simpa using ‹(e1 == 0) = true›
         have g1 : ¬ e2 = 0 := by simpa using ‹(e2 != 0) = true›
         have hr : er = e2 := by rw [HER.out, if_neg (by simp [gk1]), if_neg (by simp [gk2]), if_neg (by simp [ge1])]
         exact ⟨⟨_, _, by rw [hr], by rw [HSL.out, if_neg (by rw [hr]; exact g1)]; exact ints_nil _, by rw [HML.out, if_neg (by rw [hr]; exact g1)]; exact ints_nil _⟩, ((((Ext.refl _).push' _).push' _).push' _).push' _⟩)
end Go.Proofs.Try
namespace Go.Proofs.Try
open Go Go.Am Go.RowKit Go.Co

theorem few_alts {s : Sheet} (hf : fewB s = true) (h : err s = 0) : s.alts.length ≤ 12 := by
  have := (err_ok h).2.2.2
  simp only [fewB, Bool.and_eq_true, Bool.or_eq_true, decide_eq_true_eq] at hf
  omega
theorem fewX {s : Sheet} {c d : Copy} (hf : fewB s = true) (h : errExts s c d = 0) : s.alts.length ≤ 12 := few_alts hf (errCopy_ok (ends_n (errExts_ok h).1).1).1
theorem fewY {s : Sheet} {c : Copy} (hf : fewB s = true) (h : errExt s c = 0) : s.alts.length ≤ 12 := few_alts hf (errCopy_ok (ends_n h).1).1
theorem cell_of {H : AHeap} {b n : Nat} {l : List Value} {u : Value} {j : Nat} (h : cellsAt H b 0 n = some l) (hl : l[j]? = some u) : cellAt H b j = some u := by
  unfold cellsAt at h
  unfold cellAt
  cases hg : H.get b with
  | row c e =>
    rw [hg] at h
    simp only [Nat.zero_add, List.drop_zero] at h
    split at h
    · injection h with h; subst h
      rw [List.getElem?_take] at hl
      split at hl
      · exact hl
      · cases hl
    · cases h
  | ext c e =>
    rw [hg] at h
    simp only [Nat.zero_add, List.drop_zero] at h
    split at h
    · injection h with h; subst h
      rw [List.getElem?_take] at hl
      split at hl
      · exact hl
      · cases hl
    · cases h
  | _ => rw [hg] at h; cases h
end Go.Proofs.Try
namespace Go.Proofs.Try
open Go Go.Am Go.RowKit Go.Co
set_option maxRecDepth 100000

set_option maxHeartbeats 8000000 in
theorem law4 {H : AHeap} {sv cv dv : Value} {s : Sheet} {c d : Copy} (hv : SheetV H sv s) (hc : CopyV H cv c) (hdv : CopyV H dv d) : CallS Try.prog [] 4 [sv, cv, dv] H fun r _ => r = .bool true := by
  have HV := Lib.hid hv
  have HC := Lib.hid hc
  have HD := Lib.hid hdv
  obtain ⟨wv, av, rfl, hw, ha⟩ := hv
  obtain ⟨hwl, wa, wc, rfl⟩ := hw.slice
  obtain ⟨hal, aa, ac, rfl⟩ := ha.slice
  obtain ⟨cv, rfl, hcw⟩ := hc
  obtain ⟨hcl, ca, cc, rfl⟩ := hcw.slice
  obtain ⟨dv, rfl, hdw⟩ := hdv
  obtain ⟨hdl, da, dc, rfl⟩ := hdw.slice
  clear hw ha hcw hdw
  have HS1 := Lib.hid (fun (loops : List (Nat × LInfo)) (H' : AHeap) (hx : Ext H H') (hf : fewB s = true) => seen_e (loops := loops) (HV.out.ext hx) (HC.out.ext hx) (fun h => fewY hf h))
  have HR1 := Lib.hid (fun (loops : List (Nat × LInfo)) (H' : AHeap) (hx : Ext H H') => refSeen_e (loops := loops) (HV.out.ext hx) (HC.out.ext hx))
  have HB1 := Lib.hid (fun (loops : List (Nat × LInfo)) (H' : AHeap) (hx : Ext H H') (hf : fewB s = true) => between_e (loops := loops) (HV.out.ext hx) (HC.out.ext hx) (HD.out.ext hx) (fun h => fewX hf h))
  have HR2 := Lib.hid (fun (loops : List (Nat × LInfo)) (H' : AHeap) (hx : Ext H H') => refBetween_e (loops := loops) (HV.out.ext hx) (HC.out.ext hx) (HD.out.ext hx))
  generalize hfw : fewB s = fw at HS1 HB1
  have HFW := Lib.hid hfw
  clear hfw
  generalize sureL s c = A1 at HS1 HR1
  generalize maybeL s c = A2 at HS1 HR1
  generalize bSure s c d = B1 at HB1 HR2
  generalize bMay s c d = B2 at HB1 HR2
  generalize errExt s c = e1 at HS1 HR1
  generalize errExts s c d = e2 at HB1 HR2
  have HX1 : Hid (Ext H (((H.push (.row [Value.slice wa s.words.length wc, Value.slice aa s.alts.length ac] 25)).push (.row [Value.slice ca c.words.length cc, .int .i64 c.beg, .int .i64 c.fin, .int .i64 c.per] 27)).push (.row [Value.slice da d.words.length dc, .int .i64 d.beg, .int .i64 d.fin, .int .i64 d.per] 27))) := Lib.hid ((((Ext.refl _).push' _).push' _).push' _)
  have HCELLS : Hid (∀ H' : AHeap, Ext (((H.push (.row [Value.slice wa s.words.length wc, Value.slice aa s.alts.length ac] 25)).push (.row [Value.slice ca c.words.length cc, .int .i64 c.beg, .int .i64 c.fin, .int .i64 c.per] 27)).push (.row [Value.slice da d.words.length dc, .int .i64 d.beg, .int .i64 d.fin, .int .i64 d.per] 27)) H' → cellsAt H' H.n 0 2 = some [Value.slice wa s.words.length wc, Value.slice aa s.alts.length ac] ∧ cellsAt H' (H.n + 1) 0 4 = some [Value.slice ca c.words.length cc, .int .i64 c.beg, .int .i64 c.fin, .int .i64 c.per] ∧ cellsAt H' (H.n + 1 + 1) 0 4 = some [Value.slice da d.words.length dc, .int .i64 d.beg, .int .i64 d.fin, .int .i64 d.per] ∧ H.n + 1 + 1 < H'.n ∧ H.n + 1 < H'.n ∧ H.n < H'.n) := Lib.hid (fun H' hx => by
    refine ⟨?_, ?_, ?_, ?_, ?_, ?_⟩
    · rw [hx.cellsAt (by simp only [AHeap.n_push]; omega), cellsAt_push, if_neg (by simp only [AHeap.n_push]; omega), cellsAt_push, if_neg (by simp only [AHeap.n_push]; omega), cellsAt_push, if_pos rfl]; rfl
    · rw [hx.cellsAt (by simp only [AHeap.n_push]; omega), cellsAt_push, if_neg (by simp only [AHeap.n_push]; omega), cellsAt_push, if_pos (by simp only [AHeap.n_push])]; rfl
    · rw [hx.cellsAt (by simp only [AHeap.n_push]; omega), cellsAt_push, if_pos (by simp only [AHeap.n_push])]; rfl
    · have := hx.n; simp only [AHeap.n_push] at this; omega
    · have := hx.n; simp only [AHeap.n_push] at this; omega
    · have := hx.n; simp only [AHeap.n_push] at this; omega)
  refine CallS.enter' Try.func4 rfl Try.ntmps4 (by simp) fun f hd hf => ?_
  have f0 := hf 0
  have f1 := hf 1
  have f2 := hf 2
  simp at f0 f1 f2
  clear hf
  repeat' (first|(with_reducible first|refine zA ?_|refine zB fun K hK=>?_|refine zC fun K2 hK2=>?_|refine zD ?_|refine zE ?_|refine zF ?_|refine zG ?_|refine zH ?_|refine zI ?_|refine zM ?_|refine zN ?_|refine zO ?_|refine zP ?_|refine zQ ?_|refine zR ?_)|((with_reducible refine zU (hK _ _ ?_));clear hK K)|((with_reducible refine zV ?_ ?_ fun K1 K3 d hdst h1 h3=>?_);rfl;exact yB rfl;cases hdst;go_simp)|((with_reducible refine zW fun K1 K3 h1 h3=>?_);go_simp)|((first|refine h1 ?_|refine h3 ?_);clear h1 h3 K1 K3)|((first|refine zX (fun hb=>h1 ?_) (fun hb=>h3 ?_)|refine zX (fun hb=>h3 ?_) (fun hb=>h1 ?_))<;>(clear h1 h3 K1 K3;(try have hb2:=yC hb);(try have hb2:=yD hb);(try have hb2:=yE hb);(try have hb2:=yF hb);(try have hb2:=yG hb)))|(refine fun (K2:_→AHeap→Prop) hK2=>?_)|((with_reducible refine zY ?_ ?_);decide)|((with_reducible first|refine zZ ?_ (fun K hK=>?_)|refine yA ?_ (fun K hK=>?_));(focus go_simp;done);go_simp;refine hK _ _ ?_;clear hK K)|(go_simp;(try go_bits);(try first |((with_reducible show CallS _ _ _ _ _ _);first|(refine CallS.mono head_s ?_; rintro _ _ ⟨rfl, h9⟩; rw [h9]; clear h9; go_simp)|(refine CallS.mono (few_s (s := s) (HV.out.ext HX1.out)) ?_; rintro _ _ ⟨rfl, h9⟩; rw [h9, HFW.out]; clear h9; go_simp)|(refine CallS.mono (brief_s (c := c) (HC.out.ext HX1.out)) ?_; rintro _ _ ⟨rfl, h9⟩; rw [h9]; clear h9; go_simp)|(refine CallS.mono (brief_s (c := d) (HD.out.ext HX1.out)) ?_; rintro _ _ ⟨rfl, h9⟩; rw [h9]; clear h9; go_simp)|(refine CallS.mono (HS1.out _ _ HX1.out (by simpa using ‹(!fw) = false›)) ?_; rintro _ H2 ⟨⟨xv, yv, rfl, hi1, hi2⟩, hx⟩; (have HI1 := Lib.hid hi1); (have HI2 := Lib.hid hi2); (have HZ2 := Lib.hid hx); (obtain ⟨ck0, ck1, ck2, ck3, ck4, ck5⟩ := HCELLS.out _ hx); clear hi1 hi2 hx)|(refine CallS.mono (HR1.out _ _ (HX1.out.trans HZ2.out)) ?_; rintro _ H3 ⟨⟨xv3, yv3, rfl, hi1, hi2⟩, hx⟩; (obtain ⟨-, pa, pc, rfl⟩ := hi1.slice); (obtain ⟨-, qa, qc, rfl⟩ := hi2.slice); (have HJ1 := Lib.hid hi1); (have HJ2 := Lib.hid hi2); (have HI13 := Lib.hid (HI1.out.ext hx)); (have HI23 := Lib.hid (HI2.out.ext hx)); (have HZ3 := Lib.hid (HZ2.out.trans hx)); (obtain ⟨dk0, dk1, dk2, dk3, dk4, dk5⟩ := HCELLS.out _ HZ3.out); clear hi1 hi2 hx)|(refine CallS.mono (HB1.out _ _ (HX1.out.trans (HZ3.out.push' _)) (by simpa using ‹(!fw) = false›)) ?_; rintro _ H4 ⟨⟨xv4, yv4, rfl, hi1, hi2⟩, hx⟩; (have HK1 := Lib.hid hi1); (have HK2 := Lib.hid hi2); (have HW4 := Lib.hid ((Ext.push _).trans hx)); (have HZ4 := Lib.hid ((HZ3.out.push' _).trans hx)); (have hq4 : cellsAt H4 H3.n 0 3 = some [.slice pa A1.length pc, .slice qa A2.length qc, .int .i64 e1] := by rw [hx.cellsAt (by rw [AHeap.n_push]; omega), cellsAt_push, if_pos rfl]; rfl); (have hn4 : H3.n < H4.n := by have := hx.n; rw [AHeap.n_push] at this; omega); (obtain ⟨ek0, ek1, ek2, ek3, ek4, ek5⟩ := HCELLS.out _ HZ4.out); clear hi1 hi2 hx)|(refine CallS.mono (HR2.out _ _ (HX1.out.trans HZ4.out)) ?_; rintro _ H5 ⟨⟨xv5, yv5, rfl, hi1, hi2⟩, hx⟩; (obtain ⟨-, ra, rc, rfl⟩ := hi1.slice); (obtain ⟨-, ta, tc, rfl⟩ := hi2.slice); (have HL1 := Lib.hid hi1); (have HL2 := Lib.hid hi2); (have HW5 := Lib.hid (HW4.out.trans hx)); (have HV5 := Lib.hid hx); (have hq0 : cellAt H5 H3.n 0 = some (.slice pa A1.length pc) := by have h8 := hq4; rw [← hx.cellsAt hn4] at h8; exact cell_of h8 rfl); (have hq1 : cellAt H5 H3.n 1 = some (.slice qa A2.length qc) := by have h8 := hq4; rw [← hx.cellsAt hn4] at h8; exact cell_of h8 rfl); (have hq2 : cellAt H5 H3.n 2 = some (.int .i64 e1) := by have h8 := hq4; rw [← hx.cellsAt hn4] at h8; exact cell_of h8 rfl); (have hn5 : H3.n < H5.n := by have := hx.n; omega); clear hi1 hi2 hx)|(refine CallS.mono (sameInts_s (xs := A1) (ys := A1) ((HI13.out.ext HW5.out).ext (Ext.push _)) ((HJ1.out.ext HW5.out).ext (Ext.push _))) ?_; rintro _ _ ⟨rfl, h9⟩; rw [h9]; clear h9; go_simp)|(refine CallS.mono (sameInts_s (xs := A2) (ys := A2) ((HI23.out.ext HW5.out).ext (Ext.push _)) ((HJ2.out.ext HW5.out).ext (Ext.push _))) ?_; rintro _ _ ⟨rfl, h9⟩; rw [h9]; clear h9; go_simp)|(refine CallS.mono (sameInts_s (xs := B1) (ys := B1) ((HK1.out.ext HV5.out).ext (Ext.push _)) (HL1.out.ext (Ext.push _))) ?_; rintro _ _ ⟨rfl, h9⟩; rw [h9]; clear h9; go_simp)|(refine CallS.mono (sameInts_s (xs := B2) (ys := B2) ((HK2.out.ext HV5.out).ext (Ext.push _)) (HL2.out.ext (Ext.push _))) ?_; rintro _ _ ⟨rfl, h9⟩; rw [h9]; clear h9; go_simp)));refine hK2 _ _ ?_;clear hK2 K2))
  all_goals try rfl
end Go.Proofs.Try
namespace Go.Proofs.Try
open Go.ChangeShapes Go.WideShapes Go.ChangeAt Go.RowKit Go.Joins Go.Deep Go.Am
set_option maxRecDepth 100000


section
variable {H : Type} {enc : TypeId × Value → H} {P : Program} {w : World} {base : Nat} {spare : Nat → Bool} {held : Bool}
theorem open_slice_fields {t e : TypeId} {fs : Array Field} {fuel : Nat} {cs : List Value} {x : DataW H × List MemPlace} (ht : P.underlying t = some (.slice e)) (he : P.underlying e = some (.struct fs))
    (hone : oneCellFields P fs = true) (hC : P.cellsOf e = fs.size) (h : DataW.trod enc P w base spare held fuel t cs = some x) :
    (cs = [.slice none 0 0] ∧ x = (.nil, [])) ∨
    ∃ (a : Addr) (len cap m : Nat) (D : Nat → DataW H) (Pl : Nat → List MemPlace), cs = [.slice (some a) len cap] ∧ base ≤ a.block ∧ len ≤ cap ∧ cap ≤ maxLen ∧ m = (if spare a.block then cap else len) ∧
      x = (.slice ((List.range len).map D) ((List.range (m - len)).map fun j => D (len + j)), MemPlace.row a (m * fs.size) ++ (List.range m).flatMap Pl) ∧
      ∀ i, i < m → ∃ (ys : List (DataW H × List MemPlace)) (n : Nat), D i = .agg (ys.map (·.1)) ∧ Pl i = ys.flatMap (·.2) ∧ ys.length = fs.size ∧
        ∀ (j : Nat) (f : Field), fs[j]? = some f → ∃ (v : Value) (y : DataW H × List MemPlace), w.cell? (a.add (i * fs.size + j)) = some v ∧ ys[j]? = some y ∧ DataW.trod enc P w base spare held n f.type [v] = some y := by
  rcases open_slice ht h with h0 | ⟨a, len, cap, m, n, D, Pl, hcs, hb, hl, hm, hmm, hx, hi⟩
  · exact .inl h0
  · refine .inr ⟨a, len, cap, m, D, Pl, hcs, hb, hl, hm, hmm, by rw [hC] at hx; exact hx, fun i him => ?_⟩
    obtain ⟨cs', hc, ht'⟩ := hi i him
    rw [hC] at hc
    obtain ⟨ys, n', hn', hy, hlen, hyl, hf⟩ := DataW.trod_struct he ht'
    obtain ⟨_, hcl, hat⟩ := World.cells?_some hc
    simp only [Prod.mk.injEq] at hy
    refine ⟨ys, n', hy.1, hy.2, hyl, fun j f hj => ?_⟩
    obtain ⟨ho, hk⟩ := hone_of hone j f hj
    have hjl : j < fs.size := (Array.getElem?_eq_some_iff.1 hj).1
    have hcell := hat j hjl
    have hv : cs'[j]? = some (cs'[j]'(by omega)) := List.getElem?_eq_getElem (by omega)
    have h1 := hf j f hj
    rw [ho, hk] at h1
    have hone' : (cs'.drop j).take 1 = [cs'[j]'(by omega)] := by
      rw [List.drop_eq_getElem_cons (by omega)]
      rfl
    rw [hone'] at h1
    have hys : ys[j]? = some (ys[j]'(by omega)) := List.getElem?_eq_getElem (by omega)
    refine ⟨_, _, ?_, hys, h1.trans hys⟩
    rw [← Go.Deep.add_add, hcell, hv]
end
theorem add_at (b o j : Nat) : (⟨b, o, none⟩ : Addr).add j = ⟨b, o + j, none⟩ := by
  unfold Addr.add
  split
  · rename_i h; subst h; rfl
  · rfl
theorem cell_lt {w : World} {p : Addr} {v : Value} (h : w.cell? p = some v) : p.block < w.heap.size := by
  rcases Nat.lt_or_ge p.block w.heap.size with hlt | hge
  · exact hlt
  · unfold World.cell? at h
    rw [Array.getElem?_eq_none hge] at h
    cases h
theorem cell_spot {w : World} {p : Addr} {v : Value} (h : w.cell? p = some v) : p.spot = none := by
  unfold World.cell? at h
  split at h
  · split at h
    · cases h
    · rename_i h0; simpa using h0
  · cases h

theorem slice_abs {w : World} {a : Addr} {len cap size d : Nat} {us : List Value} (hl : len ≤ cap) (hc : len ≤ 9223372036854775807) (hus : us.length = len * size) (hsz : 0 < size) (hplain : ∀ (j : Nat) (u : Value), us[j]? = some u → absV w.heap.size 8 u = u) (hcell : ∀ (j : Nat) (u : Value), us[j]? = some u → w.cell? (a.add j) = some u) : Cells (absH w) (absV w.heap.size (d + 1) (.slice (some a) len cap)) size len us := by
  by_cases h0 : len = 0
  · subst h0
    simp only [absV]
    split
    · exact ⟨hus, hc, _, _, rfl, by omega⟩
    · rw [if_pos trivial]; exact ⟨hus, hc, _, _, rfl, by omega⟩
  · have hpos : 0 < us.length := by rw [hus]; exact Nat.mul_pos (by omega) hsz
    have h1 := hcell 0 _ (List.getElem?_eq_getElem hpos)
    have e0 : a.add 0 = a := by unfold Addr.add; rw [if_pos rfl]
    rw [e0] at h1
    have hsp := cell_spot h1
    have hlt := cell_lt h1
    obtain ⟨b, o, sp⟩ := a
    simp only at hsp hlt
    subst hsp
    simp only [absV]
    rw [if_pos ⟨trivial, hlt, hl⟩]
    refine ⟨hus, hc, _, _, rfl, fun _ => ⟨b, o, none, rfl, by rw [absH_n]; exact hlt, fun j u hu => ?_⟩⟩
    have h2 := hcell j u hu
    rw [add_at] at h2
    rw [abs_cell h2, hplain j u hu]

section
variable {H : Type} {enc : TypeId × Value → H} {w : World}
theorem ints_abs {fuel d : Nat} {v : Value} {x : DataW H × List MemPlace} (h : DataW.trod enc Try.prog w 0 (fun _ => true) true fuel 22 [v] = some x) : ∃ xs, Ints (absH w) (absV w.heap.size (d + 1) v) xs := by
  rcases open_ints Try.underlying22 Try.underlying3 (by kernel_rfl) h with ⟨hcs, _⟩ | ⟨a, l, c, zs, hcs, _, hl, hm, hz, _, hcell, _⟩
  · injection hcs with hcs _
    subst hcs
    exact ⟨[], rfl, by simp, none, 0, rfl, by simp⟩
  · injection hcs with hcs _
    subst hcs
    simp only [if_true] at hz
    have hlen : (zs.take l).length = l := by rw [List.length_take]; omega
    refine ⟨zs.take l, ?_⟩
    unfold Ints
    rw [hlen]
    refine slice_abs hl (by unfold maxLen at hm; omega) (by rw [List.length_map, hlen]; omega) (by decide) (fun j u hu => ?_) (fun j u hu => ?_)
    · rw [List.getElem?_map] at hu
      obtain ⟨z, _, rfl⟩ := Option.map_eq_some_iff.1 hu
      rfl
    · rw [List.getElem?_map] at hu
      obtain ⟨z, hz1, rfl⟩ := Option.map_eq_some_iff.1 hu
      rw [List.getElem?_take] at hz1
      split at hz1
      · have hj : j < zs.length := (List.getElem?_eq_some_iff.1 hz1).1
        rw [hcell j hj, List.getD_eq_getElem?_getD, hz1]
        rfl
      · cases hz1

theorem alts_abs {fuel d : Nat} {v : Value} {x : DataW H × List MemPlace} (h : DataW.trod enc Try.prog w 0 (fun _ => true) true fuel 23 [v] = some x) : ∃ l, Alts (absH w) (absV w.heap.size (d + 1) v) l := by
  rcases open_slice_fields Try.underlying23 Try.underlying61 (by kernel_rfl) (by kernel_rfl) h with ⟨hcs, _⟩ | ⟨a, len, cap, m, D, Pl, hcs, _, hl, hm, hmm, _, hf⟩
  · injection hcs with hcs _
    subst hcs
    exact ⟨[], rfl, by simp, none, 0, rfl, by simp⟩
  · injection hcs with hcs _
    subst hcs
    simp only [if_true] at hmm
    have hq : ∀ i, i < len → ∃ q : Alt, ∀ j u, q.cells[j]? = some u → w.cell? (a.add (i * 6 + j)) = some u := by
      intro i hi
      obtain ⟨ys, n, _, _, _, hj⟩ := hf i (by omega)
      obtain ⟨v0, y0, hc0, _, ht0⟩ := hj 0 _ rfl
      obtain ⟨v1, y1, hc1, _, ht1⟩ := hj 1 _ rfl
      obtain ⟨v2, y2, hc2, _, ht2⟩ := hj 2 _ rfl
      obtain ⟨v3, y3, hc3, _, ht3⟩ := hj 3 _ rfl
      obtain ⟨v4, y4, hc4, _, ht4⟩ := hj 4 _ rfl
      obtain ⟨v5, y5, hc5, _, ht5⟩ := hj 5 _ rfl
      obtain ⟨z0, hz0, _, _⟩ := DataW.trod_int Try.underlying3 ht0
      obtain ⟨z1, hz1, _, _⟩ := DataW.trod_int Try.underlying3 ht1
      obtain ⟨z2, hz2, _, _⟩ := DataW.trod_int Try.underlying3 ht2
      obtain ⟨z3, hz3, _, _⟩ := DataW.trod_int Try.underlying3 ht3
      obtain ⟨z4, hz4, _, _⟩ := DataW.trod_int Try.underlying3 ht4
      obtain ⟨z5, hz5, _, _⟩ := DataW.trod_int Try.underlying3 ht5
      injection hz0 with hz0 _
      injection hz1 with hz1 _
      injection hz2 with hz2 _
      injection hz3 with hz3 _
      injection hz4 with hz4 _
      injection hz5 with hz5 _
      subst hz0 hz1 hz2 hz3 hz4 hz5
      refine ⟨⟨z0, z1, z2, z3, z4, z5⟩, fun j u hu => ?_⟩
      match j, hu with
      | 0, hu => cases hu; exact hc0
      | 1, hu => cases hu; exact hc1
      | 2, hu => cases hu; exact hc2
      | 3, hu => cases hu; exact hc3
      | 4, hu => cases hu; exact hc4
      | 5, hu => cases hu; exact hc5
      | j + 6, hu => simp [Alt.cells] at hu
    obtain ⟨f, hf'⟩ := Classical.skolem.1 (fun i => show ∃ q : Alt, i < len → ∀ j u, q.cells[j]? = some u → w.cell? (a.add (i * 6 + j)) = some u by
      by_cases hi : i < len
      · obtain ⟨q, hq⟩ := hq i hi; exact ⟨q, fun _ => hq⟩
      · exact ⟨⟨0, 0, 0, 0, 0, 0⟩, fun h => absurd h hi⟩)
    have hlen : ((List.range len).map f).length = len := by simp
    refine ⟨(List.range len).map f, ?_⟩
    unfold Alts
    rw [hlen]
    have hget : ∀ j u, (altCells ((List.range len).map f))[j]? = some u → ∃ k i, k < len ∧ j = k * 6 + i ∧ (f k).cells[i]? = some u := by
      intro j u hu
      have hj : j < len * 6 := by
        have := (List.getElem?_eq_some_iff.1 hu).1
        rw [altCells_length, hlen] at this; exact this
      have hk : j / 6 < len := by omega
      have hi : j % 6 < 6 := Nat.mod_lt _ (by decide)
      have hcl : (f (j / 6)).cells.length = 6 := rfl
      have h1 := altCells_get ((List.range len).map f) (j / 6) (by rw [hlen]; exact hk) (j % 6) ((f (j / 6)).cells[j % 6]'(by rw [hcl]; exact hi)) (by simp)
      have e : j / 6 * 6 + j % 6 = j := by omega
      rw [e, hu] at h1
      refine ⟨j / 6, j % 6, hk, e.symm, ?_⟩
      rw [List.getElem?_eq_getElem (by rw [hcl]; exact hi)]
      exact h1.symm ▸ rfl
    refine slice_abs hl (by unfold maxLen at hm; omega) (by rw [altCells_length, hlen]) (by decide) (fun j u hu => ?_) (fun j u hu => ?_)
    · obtain ⟨k, i, hk, rfl, hi⟩ := hget j u hu
      match i, hi with
      | 0, hi => cases hi; rfl
      | 1, hi => cases hi; rfl
      | 2, hi => cases hi; rfl
      | 3, hi => cases hi; rfl
      | 4, hi => cases hi; rfl
      | 5, hi => cases hi; rfl
      | i + 6, hi => simp [Alt.cells] at hi
    · obtain ⟨k, i, hk, rfl, hi⟩ := hget j u hu
      exact hf' k hk i u hi
end

theorem ownOne : ownKnob Try.prog.godebug = none := by kernel_rfl
theorem laidOut : laidOutB Try.prog = true := by kernel_rfl

theorem fields25 : ∃ f0 f1 : Field, Try.prog.underlying 25 = some (.struct #[f0, f1]) ∧ f0.type = 22 ∧ f1.type = 23 ∧ f0.offset = 0 ∧ f1.offset = 1 ∧ Try.prog.cellsOf 22 = 1 ∧ Try.prog.cellsOf 23 = 1 ∧ Try.prog.cellsOf 25 = 2 :=
  ⟨(fieldOf Try.prog 25 0).getD default, (fieldOf Try.prog 25 1).getD default, by kernel_rfl, by kernel_rfl, by kernel_rfl, by kernel_rfl, by kernel_rfl, by kernel_rfl, by kernel_rfl, by kernel_rfl⟩

section
variable {H : Type} {enc : TypeId × Value → H} {w : World}
theorem sheet_abs {r : Reach} {b0 : Nat} {v : Value} {d : DataW H} {p : List MemPlace} (hval : Value.okWide Try.prog w r b0 25 v) (h : DataW.Trod enc Try.prog w 0 (fun _ => true) true 25 v d p) : ∃ s, SheetV (absH w) (absV w.heap.size 8 v) s := by
  obtain ⟨f0, f1, hu, h0, h1, h2, h3, h4, h5, h6⟩ := fields25
  obtain ⟨cs, rfl, hcs⟩ := okWide_struct hu hval
  obtain ⟨fuel, hf⟩ := h
  obtain ⟨y0, y1, n, _, _, ht0, ht1⟩ := trod_struct2 hu hf
  rw [h6] at hcs
  obtain ⟨a, b, rfl⟩ : ∃ a b, cs = #[a, b] := by
    obtain ⟨l⟩ := cs
    match l, hcs with
    | [a, b], _ => exact ⟨a, b, rfl⟩
  rw [h0, h2, h4] at ht0
  rw [h1, h3, h5] at ht1
  obtain ⟨xs, hx⟩ := ints_abs (d := 6) (v := a) (by simpa [Value.cells] using ht0)
  obtain ⟨l, hl⟩ := alts_abs (d := 6) (v := b) (by simpa [Value.cells] using ht1)
  exact ⟨⟨xs, l⟩, _, _, by simp [absV], hx, hl⟩
end

theorem fields27 : ∃ f0 f1 f2 f3 : Field, Try.prog.underlying 27 = some (.struct #[f0, f1, f2, f3]) ∧ (f0.type = 22 ∧ f1.type = 3 ∧ f2.type = 3 ∧ f3.type = 3) ∧ (f0.offset = 0 ∧ f1.offset = 1 ∧ f2.offset = 2 ∧ f3.offset = 3) ∧ Try.prog.cellsOf 22 = 1 ∧ Try.prog.cellsOf 3 = 1 ∧ Try.prog.cellsOf 27 = 4 :=
  ⟨(fieldOf Try.prog 27 0).getD default, (fieldOf Try.prog 27 1).getD default, (fieldOf Try.prog 27 2).getD default, (fieldOf Try.prog 27 3).getD default, by kernel_rfl, by refine ⟨?_, ?_, ?_, ?_⟩ <;> kernel_rfl, by refine ⟨?_, ?_, ?_, ?_⟩ <;> kernel_rfl, by kernel_rfl, by kernel_rfl, by kernel_rfl⟩
section
variable {H : Type} {enc : TypeId × Value → H} {w : World}
theorem copy_abs {r : Reach} {b0 : Nat} {v : Value} {d : DataW H} {p : List MemPlace} (hval : Value.okWide Try.prog w r b0 27 v) (h : DataW.Trod enc Try.prog w 0 (fun _ => true) true 27 v d p) : ∃ c, CopyV (absH w) (absV w.heap.size 8 v) c := by
  obtain ⟨f0, f1, f2, f3, hu, ⟨t0, t1, t2, t3⟩, ⟨o0, o1, o2, o3⟩, h4, h5, h6⟩ := fields27
  obtain ⟨cs, rfl, hcs⟩ := okWide_struct hu hval
  obtain ⟨fuel, hf⟩ := h
  obtain ⟨xs, n, _, _, _, _, ht⟩ := DataW.trod_struct hu hf
  rw [h6] at hcs
  obtain ⟨a, b, c, e, rfl⟩ : ∃ a b c e, cs = #[a, b, c, e] := by
    obtain ⟨l⟩ := cs
    match l, hcs with
    | [a, b, c, e], _ => exact ⟨a, b, c, e, rfl⟩
  have ht0 := ht 0 f0 rfl
  have ht1 := ht 1 f1 rfl
  have ht2 := ht 2 f2 rfl
  have ht3 := ht 3 f3 rfl
  rw [t0, o0, h4] at ht0
  rw [t1, o1, h5] at ht1
  rw [t2, o2, h5] at ht2
  rw [t3, o3, h5] at ht3
  have hlen : xs.length = 4 := by assumption
  rw [List.getElem?_eq_getElem (by omega)] at ht0 ht1 ht2 ht3
  obtain ⟨ws, hx⟩ := ints_abs (d := 6) (v := a) (by simpa [Value.cells] using ht0)
  obtain ⟨z1, hz1, _, _⟩ := DataW.trod_int Try.underlying3 (show DataW.trod enc Try.prog w 0 (fun _ => true) true n 3 [b] = _ by simpa [Value.cells] using ht1)
  obtain ⟨z2, hz2, _, _⟩ := DataW.trod_int Try.underlying3 (show DataW.trod enc Try.prog w 0 (fun _ => true) true n 3 [c] = _ by simpa [Value.cells] using ht2)
  obtain ⟨z3, hz3, _, _⟩ := DataW.trod_int Try.underlying3 (show DataW.trod enc Try.prog w 0 (fun _ => true) true n 3 [e] = _ by simpa [Value.cells] using ht3)
  injection hz1 with hz1 _
  injection hz2 with hz2 _
  injection hz3 with hz3 _
  subst hz1 hz2 hz3
  exact ⟨⟨ws, z1, z2, z3⟩, _, by simp [absV], hx⟩
theorem list_abs {r : Reach} {b0 : Nat} {v : Value} {d : DataW H} {p : List MemPlace} (hval : Value.okWide Try.prog w r b0 22 v) (h : DataW.Trod enc Try.prog w 0 (fun _ => true) true 22 v d p) : ∃ xs, Ints (absH w) (absV w.heap.size 8 v) xs := by
  obtain ⟨a, len, cap, rfl⟩ := okWide_slice Try.underlying22 hval
  obtain ⟨fuel, hf⟩ := h
  exact ints_abs (d := 7) hf
end
end Go.Proofs.Try
