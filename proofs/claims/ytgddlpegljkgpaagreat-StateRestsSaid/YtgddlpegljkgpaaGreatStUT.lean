/- Contracts of functions, walked. -/
import Derived.Test.YtgddlpegljkgpaaGreatStUI
import Derived.Test.YtgddlpegljkgpaaGreatStSF
import Derived.Test.YtgddlpegljkgpaaGreatAwB
import Derived.Test.YtgddlpegljkgpaaGreatStSA
import Derived.Test.YtgddlpegljkgpaaGreatStSN
import Derived.Test.YtgddlpegljkgpaaGreatStTB
import Derived.Test.YtgddlpegljkgpaaGreatStSU
set_option linter.all false
namespace Go.Proofs.Tryz
open Go Go.Am Go.RowKit Go.Co
set_option maxRecDepth 100000

set_option maxHeartbeats 8000000 in
theorem refLast_e {loops : List (Nat × LInfo)} {H : AHeap} {sv cv : Value} {s : Sheet} {c : Copy} (hs : SheetV H sv s) (hc : CopyV H cv c) (he : errCopy s c = 0) (hm : (courseOf s c).made c.per.toNat = true) : CallS Tryz.prog loops 52 [sv, cv] H fun r H' => Own H' H.n r 3 1 (((courseOf s c).late c.per.toNat).map (Value.int .i64)) ∧ Ext H H' := by
  have HV := Lib.hid hs
  obtain ⟨wv, av, rfl, hw, ha⟩ := hs
  obtain ⟨hwl, wa, wc, rfl⟩ := hw.slice
  obtain ⟨hal, aa, ac, rfl⟩ := ha.slice
  obtain ⟨cv, rfl, hcw⟩ := hc
  obtain ⟨hcl, ca, cc, rfl⟩ := hcw.slice
  have HCW := Lib.hid hcw
  clear hw ha hcw
  have HL := late_ok he hm
  obtain ⟨he0, hlen, hwo, hb0, hb1, hb2, hp1, hp2⟩ := errCopy_ok he
  have hwn : s.words.length ≤ 40 := by have := (win_iff.1 (err_ok he0).2.1).2; omega
  have hw1 : 1 ≤ s.words.length := by have := (win_iff.1 (err_ok he0).2.1).1; omega
  have hcn : c.words.length ≤ 40 := by omega
  have hc1 : 0 < c.words.length := by omega
  have HLEN := Lib.hid hlen
  have hper : c.per = ((c.per.toNat : Nat) : Int) := by omega
  have hp3 : 1 ≤ c.per.toNat := by omega
  generalize (courseOf s c).late c.per.toNat = lt at HL
  generalize c.per.toNat = p at HL hper hp3
  rw [hper] at hp1 hp2
  have HLO := Lib.hid HL
  have HIN : ∀ i, i < c.words.length → 0 ≤ lt.getD i 0 ∧ lt.getD i 0 ≤ 730 := fun i hi => by have := HL.at_ i hi; omega
  have HINH := Lib.hid HIN
  clear HL HIN he he0 hlen hwo hm hw1
  have HCL : Hid (c.words.length = c.words.length) := Lib.hid rfl
  refine CallS.enter' Tryz.func52 rfl Tryz.ntmps52 (by simp) fun f hd hf => ?_
  have f0 := hf 0
  have f1 := hf 1
  simp at f0 f1
  clear hf
  rw [hper] at f1
  clear hper
  repeat' (first|(with_reducible first|refine zA ?_|refine zB fun K hK=>?_|refine zC fun K2 hK2=>?_|refine zD ?_|refine zE ?_|refine zF ?_|refine zG ?_|refine zH ?_|refine zI ?_|refine zM ?_|refine zN ?_|refine zO ?_|refine zP ?_|refine zQ ?_|refine zR ?_)|((with_reducible refine zU (hK _ _ ?_));clear hK K)|((with_reducible refine zV ?_ ?_ fun K1 K3 d hdst h1 h3=>?_);rfl;exact yB rfl;cases hdst;go_simp)|((with_reducible refine zW fun K1 K3 h1 h3=>?_);go_simp)|((first|refine h1 ?_|refine h3 ?_);clear h1 h3 K1 K3)|((first|refine zX (fun hb=>h1 ?_) (fun hb=>h3 ?_)|refine zX (fun hb=>h3 ?_) (fun hb=>h1 ?_))<;>(clear h1 h3 K1 K3;(try have hb2:=yC hb);(try have hb2:=yD hb);(try have hb2:=yE hb);(try have hb2:=yF hb);(try have hb2:=yG hb)))|(refine fun (K2:_→AHeap→Prop) hK2=>?_)|((with_reducible refine zY ?_ ?_);decide)|((with_reducible first|refine zZ ?_ (fun K hK=>?_)|refine yA ?_ (fun K hK=>?_));(focus go_simp;done);go_simp;refine hK _ _ ?_;clear hK K)|(go_simp;(try go_bits);(try first | (refine makeSlice_k el22 sz3 by3 ze3 rfl (by show c.words.length * 8 ≤ 1073741824; omega) (by omega) ?_; go_simp));refine hK2 _ _ ?_;clear hK2 K2))
  refine CodeS.loop (fun m f H' => ∃ (k : Nat) (i : Int) (L : List Int), k ≤ c.words.length ∧ i = (k : Int) - 1 ∧ k = m ∧ L.length = c.words.length ∧ f.tmp 7 = .int .i64 i ∧ f.tmp 5 = .int .i64 (c.words.length : Nat) ∧ f.tmp 6 = .slice (some ⟨H.n + 2, 0, none⟩) c.words.length c.words.length ∧ f.tmp 2 = .pointer (some ⟨H.n, 0, none⟩) ∧ f.tmp 3 = .pointer (some ⟨H.n + 1, 0, none⟩) ∧ f.defers = [] ∧ Hid (∀ i, k ≤ i → i < c.words.length → L.getD i 0 = lt.getD i 0) ∧ H.n + 2 < H'.n ∧ Hid (Ext H H') ∧ Hid (H'.get H.n = .row [Value.slice wa s.words.length wc, Value.slice aa s.alts.length ac] 25) ∧ Hid (H'.get (H.n + 1) = .row [Value.slice ca c.words.length cc, .int .i64 c.beg, .int .i64 c.fin, .int .i64 p] 27) ∧ Hid (H'.get (H.n + 2) = .row (L.map (Value.int .i64)) 3)) c.words.length ?_ ?_
  · refine ⟨c.words.length, (c.words.length : Int) - 1, List.replicate c.words.length 0, by omega, rfl, rfl, by simp, (by first|go_simp<;>go_num|assumption), (by first|go_simp<;>go_num|assumption), (by first|go_simp<;>go_num|assumption), (by first|go_simp<;>go_num|assumption), (by first|go_simp<;>go_num|assumption), (by first|go_simp<;>go_num|assumption), Lib.hid (fun i h1 h2 => by omega), by simp only [AHeap.n_push]; omega, Lib.hid ((((Ext.refl _).push' _).push' _).push' _), Lib.hid ?_, Lib.hid ?_, Lib.hid ?_⟩
    · rw [AHeap.get_push_old (by simp only [AHeap.n_push]; omega), AHeap.get_push_old (by simp only [AHeap.n_push]; omega), get_at rfl]
    · rw [AHeap.get_push_old (by simp only [AHeap.n_push]; omega), get_at (by simp only [AHeap.n_push])]
    · rw [get_at (by simp only [AHeap.n_push]), List.map_replicate]
  clear f0 f1 hd f
  rintro m f H' ⟨k, i, L, hk, hik, rfl, hLl, f7, f5, f6, f2, f3, hd, HG, hn2, HX, HG0, HG1, HG2⟩
  have hg0 := HG0.out
  have hg1 := HG1.out
  have hg2 := HG2.out
  have hc2 : cellsAt H' H.n 0 2 = some [Value.slice wa s.words.length wc, Value.slice aa s.alts.length ac] := by simp [cellsAt, hg0]
  have hd0 : cellAt H' (H.n + 1) 0 = some (Value.slice ca c.words.length cc) := by simp [cellAt, hg1]
  have hd1 : cellAt H' (H.n + 1) 1 = some (.int .i64 c.beg) := by simp [cellAt, hg1]
  have hd2 : cellAt H' (H.n + 1) 2 = some (.int .i64 c.fin) := by simp [cellAt, hg1]
  have hd3 : cellAt H' (H.n + 1) 3 = some (.int .i64 p) := by simp [cellAt, hg1]
  have hn1 : H.n < H'.n := by omega
  have hn1' : H.n + 1 < H'.n := by omega
  have HLL := Lib.hid hLl
  have HCELL : Hid (∀ j, j < c.words.length → cellAt H' (H.n + 2) j = some (.int .i64 (L.getD j 0))) := Lib.hid (fun j hj => by rw [rowCell hg2 (by omega)])
  clear hg0 hg1 hLl
  rcases Nat.eq_zero_or_pos k with hk0 | hk0
  · subst hk0
    have hi2 : i = -1 := by omega
    subst hi2
    clear hik
    repeat' (first|(with_reducible first|refine zA ?_|refine zB fun K hK=>?_|refine zC fun K2 hK2=>?_|refine zD ?_|refine zE ?_|refine zF ?_|refine zG ?_|refine zH ?_|refine zI ?_|refine zM ?_|refine zN ?_|refine zO ?_|refine zP ?_|refine zQ ?_|refine zR ?_)|((with_reducible refine zU (hK _ _ ?_));clear hK K)|((with_reducible refine zV ?_ ?_ fun K1 K3 d hdst h1 h3=>?_);rfl;exact yB rfl;cases hdst;go_simp)|((with_reducible refine zW fun K1 K3 h1 h3=>?_);go_simp)|((first|refine h1 ?_|refine h3 ?_);clear h1 h3 K1 K3)|((first|refine zX (fun hb=>h1 ?_) (fun hb=>h3 ?_)|refine zX (fun hb=>h3 ?_) (fun hb=>h1 ?_))<;>(clear h1 h3 K1 K3;(try have hb2:=yC hb);(try have hb2:=yD hb);(try have hb2:=yE hb);(try have hb2:=yF hb);(try have hb2:=yG hb)))|(refine fun (K2:_→AHeap→Prop) hK2=>?_)|((with_reducible refine zY ?_ ?_);decide)|((with_reducible first|refine zZ ?_ (fun K hK=>?_)|refine yA ?_ (fun K hK=>?_));(focus go_simp;done);go_simp;refine hK _ _ ?_;clear hK K)|(go_simp;(try go_bits);refine hK2 _ _ ?_;clear hK2 K2))
    refine ⟨?_, HX.out⟩
    have hLe : L = lt := by
      refine List.ext_getElem (by rw [HLL.out, HLO.out.len]) fun j h1 h2 => ?_
      have := HG.out j (by omega) (by rw [← HLL.out]; exact h1)
      simpa [List.getD_eq_getElem?_getD, h1, h2] using this
    rw [← hLe]
    exact own_new (by omega) hn2 hg2 (by rw [List.length_map, HLL.out]; omega) hc1
  · obtain ⟨j, rfl⟩ : ∃ j : Nat, k = j + 1 := ⟨k - 1, by omega⟩
    have hij : i = (j : Int) := by omega
    subst hij
    clear hik hk0
    have hj : j < c.words.length := by omega
    obtain ⟨b, o, sp, rfl, hb, hxw⟩ := (HCW.out.ext HX.out).at_ hj
    have HWD : Hid (c.words.getD j 0 = c.words[j]) := Lib.hid (by simp [List.getD_eq_getElem?_getD, hj])
    generalize c.words[j] = w at hxw HWD
    have HCAN := Lib.hid (fun (loops : List (Nat × LInfo)) (d : Int) => can_s (loops := loops) (d := d) (w := w) (HV.out.ext HX.out) (show (0 : Int) ≤ (j : Int) by omega) (by have := HLEN.out; omega))
    have hljin := HINH.out j hj
    obtain ⟨hAt, hAb, hAf⟩ := HLO.out.at_ j hj
    have HAT := Lib.hid hAt
    have HTOP := Lib.hid (fun e => HLO.out.top j e hj)
    have HN1 := Lib.hid (HLO.out.next j)
    have HNP := Lib.hid (HLO.out.per j)
    clear hAt
    generalize hlj : lt.getD j 0 = y at hljin hAb hAf HAT HTOP HN1 HNP
    have HLJ := Lib.hid hlj
    clear hlj
    repeat' (first|((with_reducible refine stop_if (n := 7) ?_))|(with_reducible first|refine zA ?_|refine zB fun K hK=>?_|refine zC fun K2 hK2=>?_|refine zD ?_|refine zE ?_|refine zF ?_|refine zG ?_|refine zH ?_|refine zI ?_|refine zM ?_|refine zN ?_|refine zO ?_|refine zP ?_|refine zQ ?_|refine zR ?_)|((with_reducible refine zU (hK _ _ ?_));clear hK K)|((with_reducible refine zV ?_ ?_ fun K1 K3 d hdst h1 h3=>?_);rfl;exact yB rfl;cases hdst;go_simp)|((with_reducible refine zW fun K1 K3 h1 h3=>?_);go_simp)|((first|refine h1 ?_|refine h3 ?_);clear h1 h3 K1 K3)|((first|refine zX (fun hb=>h1 ?_) (fun hb=>h3 ?_)|refine zX (fun hb=>h3 ?_) (fun hb=>h1 ?_))<;>(clear h1 h3 K1 K3;(try have hb2:=yC hb);(try have hb2:=yD hb);(try have hb2:=yE hb);(try have hb2:=yF hb);(try have hb2:=yG hb)))|(refine fun (K2:_→AHeap→Prop) hK2=>?_)|((with_reducible refine zY ?_ ?_);decide)|((with_reducible first|refine zZ ?_ (fun K hK=>?_)|refine yA ?_ (fun K hK=>?_));(focus go_simp;done);go_simp;refine hK _ _ ?_;clear hK K)|(go_simp;(try go_bits);refine hK2 _ _ ?_;clear hK2 K2))
    refine ⟨CodeS.cut (fun f H'' => ∃ D : Int, 0 ≤ D ∧ D ≤ 730 ∧ f.tmp 8 = .int .i64 D ∧ f.tmp 7 = .int .i64 (j : Nat) ∧ f.tmp 5 = .int .i64 (c.words.length : Nat) ∧ f.tmp 6 = .slice (some ⟨H.n + 2, 0, none⟩) c.words.length c.words.length ∧ f.tmp 2 = .pointer (some ⟨H.n, 0, none⟩) ∧ f.tmp 3 = .pointer (some ⟨H.n + 1, 0, none⟩) ∧ f.defers = [] ∧ Hid (y ≤ D ∧ D ≤ c.fin ∧ (j + 1 < c.words.length → D ≤ lt.getD (j + 1) 0)) ∧ Hid (∀ e, e ≤ c.fin → (j + 1 < c.words.length → e ≤ lt.getD (j + 1) 0) → e ≤ D) ∧ H'' = H') ?_ ?_⟩
    · by_cases h1 : j + 1 < c.words.length
      · have hy1 := HINH.out (j + 1) h1
        have hc9 : cellAt H' (H.n + 2) (j + 1) = some (.int .i64 (lt.getD (j + 1) 0)) := by rw [HCELL.out _ h1, HG.out _ (by omega) h1]
        have hyn := HN1.out h1
        generalize lt.getD (j + 1) 0 = y1 at hy1 hc9 hyn
        have h1i : (j : Int) + 1 < (c.words.length : Nat) := by omega
        have h0i : (0 : Int) ≤ (j : Int) + 1 := by omega
        repeat' (first|(with_reducible first|refine zA ?_|refine zB fun K hK=>?_|refine zC fun K2 hK2=>?_|refine zD ?_|refine zE ?_|refine zF ?_|refine zG ?_|refine zH ?_|refine zI ?_|refine zM ?_|refine zN ?_|refine zO ?_|refine zP ?_|refine zQ ?_|refine zR ?_)|((with_reducible refine zU (hK _ _ ?_));clear hK K)|((with_reducible refine zV ?_ ?_ fun K1 K3 d hdst h1 h3=>?_);rfl;exact yB rfl;cases hdst;go_simp)|((with_reducible refine zW fun K1 K3 h1 h3=>?_);go_simp)|((first|refine h1 ?_|refine h3 ?_);clear h1 h3 K1 K3)|((first|refine zX (fun hb=>h1 ?_) (fun hb=>h3 ?_)|refine zX (fun hb=>h3 ?_) (fun hb=>h1 ?_))<;>(clear h1 h3 K1 K3;(try have hb2:=yC hb);(try have hb2:=yD hb);(try have hb2:=yE hb);(try have hb2:=yF hb);(try have hb2:=yG hb)))|(refine fun (K2:_→AHeap→Prop) hK2=>?_)|((with_reducible refine zY ?_ ?_);decide)|((with_reducible first|refine zZ ?_ (fun K hK=>?_)|refine yA ?_ (fun K hK=>?_));(focus go_simp;done);go_simp;refine hK _ _ ?_;clear hK K)|(go_simp;(try go_bits);refine hK2 _ _ ?_;clear hK2 K2))
        exact ⟨min c.fin y1, by omega, by omega, (by first|go_simp<;>go_num|assumption), (by first|go_simp<;>go_num|assumption), (by first|go_simp<;>go_num|assumption), (by first|go_simp<;>go_num|assumption), (by first|go_simp<;>go_num|assumption), (by first|go_simp<;>go_num|assumption), (by first|go_simp<;>go_num|assumption), Lib.hid ⟨by omega, by omega, fun _ => by omega⟩, Lib.hid (fun e h2 h3 => by have := h3 h1; omega), rfl⟩
      · have h1i : ¬ ((j : Int) + 1 < (c.words.length : Nat)) := by omega
        repeat' (first|(with_reducible first|refine zA ?_|refine zB fun K hK=>?_|refine zC fun K2 hK2=>?_|refine zD ?_|refine zE ?_|refine zF ?_|refine zG ?_|refine zH ?_|refine zI ?_|refine zM ?_|refine zN ?_|refine zO ?_|refine zP ?_|refine zQ ?_|refine zR ?_)|((with_reducible refine zU (hK _ _ ?_));clear hK K)|((with_reducible refine zV ?_ ?_ fun K1 K3 d hdst h1 h3=>?_);rfl;exact yB rfl;cases hdst;go_simp)|((with_reducible refine zW fun K1 K3 h1 h3=>?_);go_simp)|((first|refine h1 ?_|refine h3 ?_);clear h1 h3 K1 K3)|((first|refine zX (fun hb=>h1 ?_) (fun hb=>h3 ?_)|refine zX (fun hb=>h3 ?_) (fun hb=>h1 ?_))<;>(clear h1 h3 K1 K3;(try have hb2:=yC hb);(try have hb2:=yD hb);(try have hb2:=yE hb);(try have hb2:=yF hb);(try have hb2:=yG hb)))|(refine fun (K2:_→AHeap→Prop) hK2=>?_)|((with_reducible refine zY ?_ ?_);decide)|((with_reducible first|refine zZ ?_ (fun K hK=>?_)|refine yA ?_ (fun K hK=>?_));(focus go_simp;done);go_simp;refine hK _ _ ?_;clear hK K)|(go_simp;(try go_bits);refine hK2 _ _ ?_;clear hK2 K2))
        exact ⟨c.fin, by omega, by omega, (by first|go_simp<;>go_num|assumption), (by first|go_simp<;>go_num|assumption), (by first|go_simp<;>go_num|assumption), (by first|go_simp<;>go_num|assumption), (by first|go_simp<;>go_num|assumption), (by first|go_simp<;>go_num|assumption), (by first|go_simp<;>go_num|assumption), Lib.hid ⟨by omega, by omega, fun h => absurd h h1⟩, Lib.hid (fun e h2 h3 => h2), rfl⟩
    · clear f5 f6 f7 f2 f3 hd f
      rintro f H9 ⟨D, hD0, hD1, f8, f7, f5, f6, f2, f3, hd, HD, HDA, rfl⟩
      repeat' (first|((with_reducible refine stop_if (n := 9) ?_))|(with_reducible first|refine zA ?_|refine zB fun K hK=>?_|refine zC fun K2 hK2=>?_|refine zD ?_|refine zE ?_|refine zF ?_|refine zG ?_|refine zH ?_|refine zI ?_|refine zM ?_|refine zN ?_|refine zO ?_|refine zP ?_|refine zQ ?_|refine zR ?_)|((with_reducible refine zU (hK _ _ ?_));clear hK K)|((with_reducible refine zV ?_ ?_ fun K1 K3 d hdst h1 h3=>?_);rfl;exact yB rfl;cases hdst;go_simp)|((with_reducible refine zW fun K1 K3 h1 h3=>?_);go_simp)|((first|refine h1 ?_|refine h3 ?_);clear h1 h3 K1 K3)|((first|refine zX (fun hb=>h1 ?_) (fun hb=>h3 ?_)|refine zX (fun hb=>h3 ?_) (fun hb=>h1 ?_))<;>(clear h1 h3 K1 K3;(try have hb2:=yC hb);(try have hb2:=yD hb);(try have hb2:=yE hb);(try have hb2:=yF hb);(try have hb2:=yG hb)))|(refine fun (K2:_→AHeap→Prop) hK2=>?_)|((with_reducible refine zY ?_ ?_);decide)|((with_reducible first|refine zZ ?_ (fun K hK=>?_)|refine yA ?_ (fun K hK=>?_));(focus go_simp;done);go_simp;refine hK _ _ ?_;clear hK K)|(go_simp;(try go_bits);refine hK2 _ _ ?_;clear hK2 K2))
      refine ⟨CodeS.cut (fun f H'' => ∃ D : Int, y ≤ D ∧ D ≤ 730 ∧ f.tmp 8 = .int .i64 D ∧ f.tmp 7 = .int .i64 (j : Nat) ∧ f.tmp 5 = .int .i64 (c.words.length : Nat) ∧ f.tmp 6 = .slice (some ⟨H.n + 2, 0, none⟩) c.words.length c.words.length ∧ f.tmp 2 = .pointer (some ⟨H.n, 0, none⟩) ∧ f.tmp 3 = .pointer (some ⟨H.n + 1, 0, none⟩) ∧ f.defers = [] ∧ Hid (D ≤ c.fin ∧ (j + 1 < c.words.length → D ≤ lt.getD (j + 1) 0) ∧ (j + p < c.words.length → D + 1 ≤ lt.getD (j + p) 0)) ∧ H'' = H9) ?_ ?_⟩
      · by_cases h1 : j + p < c.words.length
        · have hy1 := HINH.out (j + p) h1
          have hc9 : cellAt H9 (H.n + 2) (j + p) = some (.int .i64 (lt.getD (j + p) 0)) := by rw [HCELL.out _ h1, HG.out _ (by omega) h1]
          have hyn := HNP.out h1
          generalize hy2 : lt.getD (j + p) 0 = y2 at hy1 hc9 hyn
          have HY2 := Lib.hid hy2
          have h1i : (j : Int) + (p : Int) < (c.words.length : Nat) := by omega
          have h0i : (0 : Int) ≤ (j : Int) + (p : Int) := by omega
          have hti : ((j : Int) + (p : Int)).toNat = j + p := by omega
          clear hy2
          repeat' (first|(with_reducible first|refine zA ?_|refine zB fun K hK=>?_|refine zC fun K2 hK2=>?_|refine zD ?_|refine zE ?_|refine zF ?_|refine zG ?_|refine zH ?_|refine zI ?_|refine zM ?_|refine zN ?_|refine zO ?_|refine zP ?_|refine zQ ?_|refine zR ?_)|((with_reducible refine zU (hK _ _ ?_));clear hK K)|((with_reducible refine zV ?_ ?_ fun K1 K3 d hdst h1 h3=>?_);rfl;exact yB rfl;cases hdst;go_simp)|((with_reducible refine zW fun K1 K3 h1 h3=>?_);go_simp)|((first|refine h1 ?_|refine h3 ?_);clear h1 h3 K1 K3)|((first|refine zX (fun hb=>h1 ?_) (fun hb=>h3 ?_)|refine zX (fun hb=>h3 ?_) (fun hb=>h1 ?_))<;>(clear h1 h3 K1 K3;(try have hb2:=yC hb);(try have hb2:=yD hb);(try have hb2:=yE hb);(try have hb2:=yF hb);(try have hb2:=yG hb)))|(refine fun (K2:_→AHeap→Prop) hK2=>?_)|((with_reducible refine zY ?_ ?_);decide)|((with_reducible first|refine zZ ?_ (fun K hK=>?_)|refine yA ?_ (fun K hK=>?_));(focus go_simp;done);go_simp;refine hK _ _ ?_;clear hK K)|(go_simp;(try go_bits);refine hK2 _ _ ?_;clear hK2 K2))
          exact ⟨min D (y2 - 1), by have := HD.out; omega, by omega, (by first|go_simp<;>go_num|assumption), (by first|go_simp<;>go_num|assumption), (by first|go_simp<;>go_num|assumption), (by first|go_simp<;>go_num|assumption), (by first|go_simp<;>go_num|assumption), (by first|go_simp<;>go_num|assumption), (by first|go_simp<;>go_num|assumption), Lib.hid ⟨by have := HD.out; omega, fun h => by have := HD.out.2.2 h; omega, fun h => by omega⟩, rfl⟩
        · have h1i : ¬ ((j : Int) + (p : Int) < (c.words.length : Nat)) := by omega
          repeat' (first|(with_reducible first|refine zA ?_|refine zB fun K hK=>?_|refine zC fun K2 hK2=>?_|refine zD ?_|refine zE ?_|refine zF ?_|refine zG ?_|refine zH ?_|refine zI ?_|refine zM ?_|refine zN ?_|refine zO ?_|refine zP ?_|refine zQ ?_|refine zR ?_)|((with_reducible refine zU (hK _ _ ?_));clear hK K)|((with_reducible refine zV ?_ ?_ fun K1 K3 d hdst h1 h3=>?_);rfl;exact yB rfl;cases hdst;go_simp)|((with_reducible refine zW fun K1 K3 h1 h3=>?_);go_simp)|((first|refine h1 ?_|refine h3 ?_);clear h1 h3 K1 K3)|((first|refine zX (fun hb=>h1 ?_) (fun hb=>h3 ?_)|refine zX (fun hb=>h3 ?_) (fun hb=>h1 ?_))<;>(clear h1 h3 K1 K3;(try have hb2:=yC hb);(try have hb2:=yD hb);(try have hb2:=yE hb);(try have hb2:=yF hb);(try have hb2:=yG hb)))|(refine fun (K2:_→AHeap→Prop) hK2=>?_)|((with_reducible refine zY ?_ ?_);decide)|((with_reducible first|refine zZ ?_ (fun K hK=>?_)|refine yA ?_ (fun K hK=>?_));(focus go_simp;done);go_simp;refine hK _ _ ?_;clear hK K)|(go_simp;(try go_bits);refine hK2 _ _ ?_;clear hK2 K2))
          exact ⟨D, HD.out.1, by omega, (by first|go_simp<;>go_num|assumption), (by first|go_simp<;>go_num|assumption), (by first|go_simp<;>go_num|assumption), (by first|go_simp<;>go_num|assumption), (by first|go_simp<;>go_num|assumption), (by first|go_simp<;>go_num|assumption), (by first|go_simp<;>go_num|assumption), Lib.hid ⟨HD.out.2.1, HD.out.2.2, fun h => absurd h h1⟩, rfl⟩
      clear HD HDA hD0 hD1 f8 f7 f5 f6 f2 f3 hd f D
      rintro f H9 ⟨D, hD0, hD1, f8, f7, f5, f6, f2, f3, hd, HD, rfl⟩
      repeat' (first|(with_reducible first|refine zA ?_|refine zB fun K hK=>?_|refine zC fun K2 hK2=>?_|refine zD ?_|refine zE ?_|refine zF ?_|refine zG ?_|refine zH ?_|refine zI ?_|refine zM ?_|refine zN ?_|refine zO ?_|refine zP ?_|refine zQ ?_|refine zR ?_)|((with_reducible refine zU (hK _ _ ?_));clear hK K)|((with_reducible refine zV ?_ ?_ fun K1 K3 d hdst h1 h3=>?_);rfl;exact yB rfl;cases hdst;go_simp)|((with_reducible refine zW fun K1 K3 h1 h3=>?_);go_simp)|((first|refine h1 ?_|refine h3 ?_);clear h1 h3 K1 K3)|((first|refine zX (fun hb=>h1 ?_) (fun hb=>h3 ?_)|refine zX (fun hb=>h3 ?_) (fun hb=>h1 ?_))<;>(clear h1 h3 K1 K3;(try have hb2:=yC hb);(try have hb2:=yD hb);(try have hb2:=yE hb);(try have hb2:=yF hb);(try have hb2:=yG hb)))|(refine fun (K2:_→AHeap→Prop) hK2=>?_)|((with_reducible refine zY ?_ ?_);decide)|((with_reducible first|refine zZ ?_ (fun K hK=>?_)|refine yA ?_ (fun K hK=>?_));(focus go_simp;done);go_simp;refine hK _ _ ?_;clear hK K)|(go_simp;(try go_bits);refine hK2 _ _ ?_;clear hK2 K2))
      refine CodeS.loop (fun m f H'' => ∃ d : Int, y ≤ d ∧ d ≤ D ∧ m = (d - y).toNat ∧ f.tmp 8 = .int .i64 d ∧ f.tmp 7 = .int .i64 (j : Nat) ∧ f.tmp 5 = .int .i64 (c.words.length : Nat) ∧ f.tmp 6 = .slice (some ⟨H.n + 2, 0, none⟩) c.words.length c.words.length ∧ f.tmp 2 = .pointer (some ⟨H.n, 0, none⟩) ∧ f.tmp 3 = .pointer (some ⟨H.n + 1, 0, none⟩) ∧ f.defers = [] ∧ H'' = H9) (D - y).toNat ?_ ?_
      · exact ⟨D, hD0, Int.le_refl _, rfl, (by first|go_simp<;>go_num|assumption), (by first|go_simp<;>go_num|assumption), (by first|go_simp<;>go_num|assumption), (by first|go_simp<;>go_num|assumption), (by first|go_simp<;>go_num|assumption), (by first|go_simp<;>go_num|assumption), (by first|go_simp<;>go_num|assumption), rfl⟩
      clear f8 f7 f5 f6 f2 f3 hd f
      rintro m f H8 ⟨d, hd1', hd2', rfl, f8, f7, f5, f6, f2, f3, hd, hH8⟩
      subst hH8
      have hcn2 := fun (loops : List (Nat × LInfo)) => HCAN.out loops d
      have HEQ : Hid ((hasOn s j d).offers w = true → d = y) := Lib.hid (fun h => by
        have := HTOP.out d (by omega) (by have := HD.out.1; omega) (by rw [HWD.out]; exact h) (fun h1 => by have := HD.out.2.1 h1; omega) (fun h1 => by have := HD.out.2.2 h1; omega)
        omega)
      have HNE : Hid ((hasOn s j d).offers w = false → y < d) := Lib.hid (fun h => by
        rcases Int.lt_or_le y d with h1 | h1
        · exact h1
        · have h2 : d = y := by omega
          have h3 := HAT.out
          rw [HWD.out, ← h2, h] at h3; cases h3)
      generalize (hasOn s j d).offers w = bb at hcn2 HEQ HNE
      have HCN := Lib.hid hcn2
      clear hcn2
      have hdb : c.beg ≤ d := by omega
      have hj1 : (j : Int) < (c.words.length : Nat) := by omega
      have hlm : j < L.length := by rw [HLL.out]; exact hj
      repeat' (first|(with_reducible first|refine zA ?_|refine zB fun K hK=>?_|refine zC fun K2 hK2=>?_|refine zD ?_|refine zE ?_|refine zF ?_|refine zG ?_|refine zH ?_|refine zI ?_|refine zM ?_|refine zN ?_|refine zO ?_|refine zP ?_|refine zQ ?_|refine zR ?_)|((with_reducible refine zU (hK _ _ ?_));clear hK K)|((with_reducible refine zV ?_ ?_ fun K1 K3 d hdst h1 h3=>?_);rfl;exact yB rfl;cases hdst;go_simp)|((with_reducible refine zW fun K1 K3 h1 h3=>?_);go_simp)|((first|refine h1 ?_|refine h3 ?_);clear h1 h3 K1 K3)|((first|refine zX (fun hb=>h1 ?_) (fun hb=>h3 ?_)|refine zX (fun hb=>h3 ?_) (fun hb=>h1 ?_))<;>(clear h1 h3 K1 K3;(try have hb2:=yC hb);(try have hb2:=yD hb);(try have hb2:=yE hb);(try have hb2:=yF hb);(try have hb2:=yG hb)))|(refine fun (K2:_→AHeap→Prop) hK2=>?_)|((with_reducible refine zY ?_ ?_);decide)|((with_reducible first|refine zZ ?_ (fun K hK=>?_)|refine yA ?_ (fun K hK=>?_));(focus go_simp;done);go_simp;refine hK _ _ ?_;clear hK K)|((with_reducible refine yH mixed rfl ?_ 20 fun K0 hK0=>?_);kernel_rfl)|(with_reducible first|exact yI|exact yJ|refine yK ?_|refine yL ?_|refine yM ?_)|((with_reducible first|refine yN ?_ ?_|refine yO ?_ ?_|refine yP ?_ ?_);rfl)|((with_reducible refine yQ ?_ ?_);rfl;refine hK0 _ _ ?_;clear hK0 K0)|((with_reducible refine yR ?_ ?_ ?_ ?_);rfl;rfl;rfl)|((with_reducible refine yS ?_ ?_ ?_ fun K2 hK2=>?_);rfl;rfl;exact yB rfl)|((with_reducible refine yT ?_ ?_ ?_ ?_ fun K1 K3 d hdst h1 h3=>?_);rfl;rfl;rfl;exact yB rfl;cases hdst;go_simp)|((with_reducible refine yU ?_ ?_ ?_ ?_ fun K1 K3 d hdst h1 h3=>?_);rfl;rfl;rfl;exact yB rfl;cases hdst;go_simp)|((with_reducible refine yV ?_ ?_ (fun K2 hK2=>?_) ?_);rfl;exact yB rfl)|((with_reducible refine yW ?_ ?_ ?_ ?_ (fun K2 hK2=>?_) ?_);rfl;exact yB rfl;rfl;(focus go_simp;done))|((with_reducible refine yX ?_ ?_ ?_ (fun K2 hK2=>?_) ?_);rfl;rfl;exact yB rfl)|((with_reducible refine yY ?_ ?_ (fun K2 hK2=>?_) ?_);rfl;rfl)|((with_reducible refine yZ ?_ ?_);(first|rfl|(dsimp only;decide +kernel)))|((with_reducible refine xA ?_ ?_);(focus go_simp;done))|(go_simp;(try go_bits);(try first | ((with_reducible show CallS _ _ _ _ _ _);refine CallS.mono (HCN.out _) ?_; rintro _ _ ⟨rfl, h9⟩; rw [h9]; clear h9));(first|(refine hK2 _ _ ?_ ?_<;>clear hK2 K2)|(refine hK2 _ _ ?_;clear hK2 K2))))
      all_goals first
        | (exfalso; omega)
        | (have hbf : bb = false := by simpa using ‹(!bb) = true›
           have := HNE.out hbf
           exact Post.round_normal ⟨(d - 1 - y).toNat, by omega, d - 1, by omega, by omega, rfl, (by first|go_simp<;>go_num|assumption), (by first|go_simp<;>go_num|assumption), (by first|go_simp<;>go_num|assumption), (by first|go_simp<;>go_num|assumption), (by first|go_simp<;>go_num|assumption), (by first|go_simp<;>go_num|assumption), (by first|go_simp<;>go_num|assumption), rfl⟩)
        | skip
      have hbt : bb = true := by simpa using ‹(!bb) = false›
      have hdy := HEQ.out hbt
      refine Post.round_normal ⟨j, by omega, j, (j : Int) - 1, L.set j d, by omega, rfl, rfl, by simp [HLL.out], (by first|go_simp<;>go_num|assumption), (by first|go_simp<;>go_num|assumption), (by first|go_simp<;>go_num|assumption), (by first|go_simp<;>go_num|assumption), (by first|go_simp<;>go_num|assumption), (by first|go_simp<;>go_num|assumption), Lib.hid (fun i h1 h2 => ?_), by rw [AHeap.n_upd]; omega, Lib.hid (HX.out.upd (by omega) _), Lib.hid ?_, Lib.hid ?_, Lib.hid ?_⟩
      · rw [getD_set _ _ _ _ hlm]
        by_cases hij : i = j
        · rw [if_pos hij, hij, hdy, HLJ.out]
        · rw [if_neg hij, HG.out i (by omega) h2]
      · rw [AHeap.get_upd_ne (by omega)]; exact HG0.out
      · rw [AHeap.get_upd_ne (by omega)]; exact HG1.out
      · rw [AHeap.get_upd_same, List.map_set]
end Go.Proofs.Tryz
namespace Go.Proofs.Tryz
open Go Go.Am Go.RowKit
set_option maxRecDepth 100000

end Go.Proofs.Tryz
namespace Go.Proofs.Tryz
open Go Go.Am Go.RowKit Go.Co
set_option maxRecDepth 100000

theorem errExt_ok {s : Sheet} {c : Copy} (h : errExt s c = 0) : errCopy s c = 0 ∧ (courseOf s c).made c.per.toNat = true := by
  unfold errExt at h
  split at h
  · rename_i h1; exact absurd h h1
  · rename_i h1
    split at h
    · rename_i h2; exact ⟨by simpa using h1, h2⟩
    · cases h
end Go.Proofs.Tryz
namespace Go.Proofs.Tryz
open Go Go.Am Go.RowKit Go.Co
set_option maxRecDepth 100000

theorem errCopied_ext (s : Sheet) (c : Copy) : errCopied s c = errExt s c := rfl
end Go.Proofs.Tryz
namespace Go.Proofs.Tryz
open Go Go.Am Go.RowKit Go.Co
set_option maxRecDepth 100000

theorem equal_s {loops : List (Nat × LInfo)} {H : AHeap} {u v : Value} {xs ys : List Int} (hu : Ints H u xs) (hv : Ints H v ys) : CallS Tryz.prog loops 66 [u, v] H fun r H' => r = .bool (decide (xs = ys)) ∧ H' = H := by
  obtain ⟨hlen, a, c, rfl⟩ := hu.slice
  obtain ⟨hlen2, a2, c2, rfl⟩ := hv.slice
  have HU := Lib.hid hu
  have HV := Lib.hid hv
  clear hu hv
  generalize he : decide (xs = ys) = er
  have HE := Lib.hid he
  clear he
  refine CallS.enter' Tryz.func66 rfl Tryz.ntmps66 (by simp) fun f hd hf => ?_
  have f0 := hf 0
  have f1 := hf 1
  simp at f0 f1
  clear hf
  repeat' (first|(with_reducible first|refine zA ?_|refine zB fun K hK=>?_|refine zC fun K2 hK2=>?_|refine zD ?_|refine zE ?_|refine zF ?_|refine zG ?_|refine zH ?_|refine zI ?_|refine zM ?_|refine zN ?_|refine zO ?_|refine zP ?_|refine zQ ?_|refine zR ?_)|((with_reducible refine zU (hK _ _ ?_));clear hK K)|((with_reducible refine zV ?_ ?_ fun K1 K3 d hdst h1 h3=>?_);rfl;exact yB rfl;cases hdst;go_simp)|((with_reducible refine zW fun K1 K3 h1 h3=>?_);go_simp)|((first|refine h1 ?_|refine h3 ?_);clear h1 h3 K1 K3)|((first|refine zX (fun hb=>h1 ?_) (fun hb=>h3 ?_)|refine zX (fun hb=>h3 ?_) (fun hb=>h1 ?_))<;>(clear h1 h3 K1 K3;(try have hb2:=yC hb);(try have hb2:=yD hb);(try have hb2:=yE hb);(try have hb2:=yF hb);(try have hb2:=yG hb)))|(refine fun (K2:_→AHeap→Prop) hK2=>?_)|((with_reducible refine zY ?_ ?_);decide)|((with_reducible first|refine zZ ?_ (fun K hK=>?_)|refine yA ?_ (fun K hK=>?_));(focus go_simp;done);go_simp;refine hK _ _ ?_;clear hK K)|(go_simp;(try go_bits);refine hK2 _ _ ?_;clear hK2 K2))
  · refine ⟨?_, rfl⟩
    have h0 : ¬ (xs.length : Int) = ys.length := by simpa using hb
    have h1 : ¬ xs.length = ys.length := by omega
    rw [← HE.out]
    simp only [Value.bool.injEq]
    exact (decide_eq_false fun e => h1 (by rw [e])).symm
  have h0 : (xs.length : Int) = ys.length := by simpa using hb
  have hll : xs.length = ys.length := by omega
  have HLL := Lib.hid hll
  clear hll h0
  refine CodeS.loop (fun m f H' => ∃ k : Nat, k ≤ xs.length ∧ m = xs.length - k ∧ f.tmp 13 = .int .i64 k ∧ f.tmp 12 = .int .i64 (xs.length : Nat) ∧ f.tmp 0 = .slice a xs.length c ∧ f.tmp 1 = .slice a2 ys.length c2 ∧ f.defers = [] ∧ Hid (decide (xs.drop k = ys.drop k) = er) ∧ H' = H) xs.length ?_ ?_
  · exact ⟨0, by simp, by simp, (by first|go_simp<;>go_num|assumption), (by first|go_simp<;>go_num|assumption), (by first|go_simp<;>go_num|assumption), (by first|go_simp<;>go_num|assumption), (by first|go_simp<;>go_num|assumption), Lib.hid (by simpa using HE.out), rfl⟩
  clear f0 f1 hd f HE hb
  rintro m f H' ⟨k, hk, rfl, f13, f12, f0, f1, hd, HG, rfl⟩
  by_cases hlt : k < xs.length
  · have hlt2 : k < ys.length := by have := HLL.out; omega
    obtain ⟨b, o, sp, rfl, hb, hx⟩ := HU.out.at_ hlt
    obtain ⟨b2, o2, sp2, rfl, hb2, hx2⟩ := HV.out.at_ hlt2
    have HD := Lib.hid (List.drop_eq_getElem_cons hlt)
    have HD2 := Lib.hid (List.drop_eq_getElem_cons hlt2)
    generalize xs[k] = y at hx HD
    generalize ys[k] = y2 at hx2 HD2
    repeat' (first|(with_reducible first|refine zA ?_|refine zB fun K hK=>?_|refine zC fun K2 hK2=>?_|refine zD ?_|refine zE ?_|refine zF ?_|refine zG ?_|refine zH ?_|refine zI ?_|refine zM ?_|refine zN ?_|refine zO ?_|refine zP ?_|refine zQ ?_|refine zR ?_)|((with_reducible refine zU (hK _ _ ?_));clear hK K)|((with_reducible refine zV ?_ ?_ fun K1 K3 d hdst h1 h3=>?_);rfl;exact yB rfl;cases hdst;go_simp)|((with_reducible refine zW fun K1 K3 h1 h3=>?_);go_simp)|((first|refine h1 ?_|refine h3 ?_);clear h1 h3 K1 K3)|((first|refine zX (fun hb=>h1 ?_) (fun hb=>h3 ?_)|refine zX (fun hb=>h3 ?_) (fun hb=>h1 ?_))<;>(clear h1 h3 K1 K3;(try have hb2:=yC hb);(try have hb2:=yD hb);(try have hb2:=yE hb);(try have hb2:=yF hb);(try have hb2:=yG hb)))|(refine fun (K2:_→AHeap→Prop) hK2=>?_)|((with_reducible refine zY ?_ ?_);decide)|((with_reducible first|refine zZ ?_ (fun K hK=>?_)|refine yA ?_ (fun K hK=>?_));(focus go_simp;done);go_simp;refine hK _ _ ?_;clear hK K)|((with_reducible refine yH mixed rfl ?_ 20 fun K0 hK0=>?_);kernel_rfl)|(with_reducible first|exact yI|exact yJ|refine yK ?_|refine yL ?_|refine yM ?_)|((with_reducible first|refine yN ?_ ?_|refine yO ?_ ?_|refine yP ?_ ?_);rfl)|((with_reducible refine yQ ?_ ?_);rfl;refine hK0 _ _ ?_;clear hK0 K0)|((with_reducible refine yR ?_ ?_ ?_ ?_);rfl;rfl;rfl)|((with_reducible refine yS ?_ ?_ ?_ fun K2 hK2=>?_);rfl;rfl;exact yB rfl)|((with_reducible refine yT ?_ ?_ ?_ ?_ fun K1 K3 d hdst h1 h3=>?_);rfl;rfl;rfl;exact yB rfl;cases hdst;go_simp)|((with_reducible refine yU ?_ ?_ ?_ ?_ fun K1 K3 d hdst h1 h3=>?_);rfl;rfl;rfl;exact yB rfl;cases hdst;go_simp)|((with_reducible refine yV ?_ ?_ (fun K2 hK2=>?_) ?_);rfl;exact yB rfl)|((with_reducible refine yW ?_ ?_ ?_ ?_ (fun K2 hK2=>?_) ?_);rfl;exact yB rfl;rfl;(focus go_simp;done))|((with_reducible refine yX ?_ ?_ ?_ (fun K2 hK2=>?_) ?_);rfl;rfl;exact yB rfl)|((with_reducible refine yY ?_ ?_ (fun K2 hK2=>?_) ?_);rfl;rfl)|((with_reducible refine yZ ?_ ?_);(first|rfl|(dsimp only;decide +kernel)))|((with_reducible refine xA ?_ ?_);(focus go_simp;done))|(go_simp;(try go_bits);(first|(refine hK2 _ _ ?_ ?_<;>clear hK2 K2)|(refine hK2 _ _ ?_;clear hK2 K2))))
    · refine ⟨?_, rfl⟩
      have h1 : ¬ y = y2 := by simpa using hb
      rw [← HG.out, HD.out, HD2.out]
      simp only [Value.bool.injEq]
      exact (decide_eq_false fun e => h1 (by simp at e; exact e.1)).symm
    · have h1 : y = y2 := by simpa using hb
      refine Post.round_normal ⟨xs.length - (k + 1), by omega, k + 1, by omega, rfl, (by first|go_simp<;>go_num|assumption), (by first|go_simp<;>go_num|assumption), (by first|go_simp<;>go_num|assumption), (by first|go_simp<;>go_num|assumption), (by first|go_simp<;>go_num|assumption), Lib.hid ?_, rfl⟩
      rw [← HG.out, HD.out, HD2.out, h1]; simp
  · have hke : k = xs.length := by omega
    subst hke
    repeat' (first|(with_reducible first|refine zA ?_|refine zB fun K hK=>?_|refine zC fun K2 hK2=>?_|refine zD ?_|refine zE ?_|refine zF ?_|refine zG ?_|refine zH ?_|refine zI ?_|refine zM ?_|refine zN ?_|refine zO ?_|refine zP ?_|refine zQ ?_|refine zR ?_)|((with_reducible refine zU (hK _ _ ?_));clear hK K)|((with_reducible refine zV ?_ ?_ fun K1 K3 d hdst h1 h3=>?_);rfl;exact yB rfl;cases hdst;go_simp)|((with_reducible refine zW fun K1 K3 h1 h3=>?_);go_simp)|((first|refine h1 ?_|refine h3 ?_);clear h1 h3 K1 K3)|((first|refine zX (fun hb=>h1 ?_) (fun hb=>h3 ?_)|refine zX (fun hb=>h3 ?_) (fun hb=>h1 ?_))<;>(clear h1 h3 K1 K3;(try have hb2:=yC hb);(try have hb2:=yD hb);(try have hb2:=yE hb);(try have hb2:=yF hb);(try have hb2:=yG hb)))|(refine fun (K2:_→AHeap→Prop) hK2=>?_)|((with_reducible refine zY ?_ ?_);decide)|((with_reducible first|refine zZ ?_ (fun K hK=>?_)|refine yA ?_ (fun K hK=>?_));(focus go_simp;done);go_simp;refine hK _ _ ?_;clear hK K)|(go_simp;(try go_bits);refine hK2 _ _ ?_;clear hK2 K2))
    refine ⟨?_, rfl⟩
    rw [← HG.out]
    simp [HLL.out]

set_option maxHeartbeats 4000000 in
theorem less_f {loops : List (Nat × LInfo)} {Hq H : AHeap} {sv iv : Value} {s : Sheet} {ids : List Int} (hsq : SheetV Hq sv s) (hxq : Ext Hq H) (hi : Ints H iv ids) (ha2 : s.alts.length ≤ 1000) : CallS Tryz.prog loops 63 [sv, iv] H fun r H' => (∀ G : AHeap, H'.n ≤ G.n → (∀ i, i < Hq.n → G.get i = Hq.get i) → (∀ i, H.n ≤ i → i < H'.n → G.get i = H'.get i) → SheetV G r (lessS s ids)) ∧ (∃ wa wn wc aa an ac, r = .agg #[.slice wa wn wc, .slice aa an ac]) ∧ Ext H H' := by
  have hs := hsq.ext hxq
  obtain ⟨wq, aq, hqe, hwq, -⟩ := hsq
  obtain ⟨wv, av, rfl, hw, ha⟩ := hs
  cases hqe
  have HWI := Lib.hid hwq
  have HXQ := Lib.hid hxq
  clear hwq hxq
  have HA := Lib.hid ha
  have HII := Lib.hid hi
  obtain ⟨hwl, wa, wc, rfl⟩ := hw.slice
  obtain ⟨hal, aa, ac, rfl⟩ := ha.slice
  obtain ⟨hil, ia, ic, rfl⟩ := hi.slice
  clear hw ha hi
  refine CallS.enter' Tryz.func63 rfl Tryz.ntmps63 (by simp) fun f hd hf => ?_
  have f0 := hf 0
  have f1 := hf 1
  simp at f0 f1
  clear hf
  repeat' (first|(with_reducible first|refine zA ?_|refine zB fun K hK=>?_|refine zC fun K2 hK2=>?_|refine zD ?_|refine zE ?_|refine zF ?_|refine zG ?_|refine zH ?_|refine zI ?_|refine zM ?_|refine zN ?_|refine zO ?_|refine zP ?_|refine zQ ?_|refine zR ?_)|((with_reducible refine zU (hK _ _ ?_));clear hK K)|((with_reducible refine zV ?_ ?_ fun K1 K3 d hdst h1 h3=>?_);rfl;exact yB rfl;cases hdst;go_simp)|((with_reducible refine zW fun K1 K3 h1 h3=>?_);go_simp)|((first|refine h1 ?_|refine h3 ?_);clear h1 h3 K1 K3)|((first|refine zX (fun hb=>h1 ?_) (fun hb=>h3 ?_)|refine zX (fun hb=>h3 ?_) (fun hb=>h1 ?_))<;>(clear h1 h3 K1 K3;(try have hb2:=yC hb);(try have hb2:=yD hb);(try have hb2:=yE hb);(try have hb2:=yF hb);(try have hb2:=yG hb)))|(refine fun (K2:_→AHeap→Prop) hK2=>?_)|((with_reducible refine zY ?_ ?_);decide)|((with_reducible first|refine zZ ?_ (fun K hK=>?_)|refine yA ?_ (fun K hK=>?_));(focus go_simp;done);go_simp;refine hK _ _ ?_;clear hK K)|(go_simp;(try go_bits);refine hK2 _ _ ?_;clear hK2 K2))
  refine CodeS.loop (fun m f H' => ∃ (k : Nat) (av : Value), k ≤ s.alts.length ∧ m = s.alts.length - k ∧ f.tmp 6 = .int .i64 k ∧ f.tmp 1 = .slice ia ids.length ic ∧ f.tmp 2 = .pointer (some ⟨H.n, 0, none⟩) ∧ f.tmp 4 = .pointer (some ⟨H.n + 1, 0, none⟩) ∧ f.tmp 5 = .pointer (some ⟨H.n + 1 + 1, 0, none⟩) ∧ f.defers = [] ∧ H.n + 1 + 1 < H'.n ∧ Hid (Ext H H') ∧ Hid (H'.get H.n = .row [Value.slice wa s.words.length wc, Value.slice aa s.alts.length ac] 25) ∧ Hid (H'.get (H.n + 1) = .row [.slice none 0 0, .slice none 0 0] 25) ∧ Hid (H'.get (H.n + 1 + 1) = .row [Value.slice wa s.words.length wc, av] 25) ∧ Hid (Own H' (H.n + 3) av 58 6 (altCells ((s.alts.take k).filter (fun a => !decide (a.id ∈ ids)))))) s.alts.length ?_ ?_
  · refine ⟨0, .slice none 0 0, by simp, by simp, (by first|go_simp<;>go_num|assumption), (by first|go_simp<;>go_num|assumption), (by first|go_simp<;>go_num|assumption), (by first|go_simp<;>go_num|assumption), (by first|go_simp<;>go_num|assumption), (by first|go_simp<;>go_num|assumption), by simp only [AHeap.n_push]; omega, Lib.hid ((((Ext.refl _).push' _).push' _).push' _), Lib.hid ?_, Lib.hid ?_, Lib.hid ?_, Lib.hid Own.nil⟩
    · rw [AHeap.get_push_old (by simp only [AHeap.n_push]; omega), AHeap.get_push_old (by simp only [AHeap.n_push]; omega), AHeap.get_push_new]
    · rw [AHeap.get_push_old (by simp only [AHeap.n_push]; omega), get_at (by simp only [AHeap.n_push])]
    · rw [get_at (by simp only [AHeap.n_push])]
  clear f0 f1 hd f
  rintro m f H' ⟨k, av, hk, rfl, f6, f1, f2, f4, f5, hd, hn2, HX, HG0, HG1, HG2, HO⟩
  obtain ⟨ava, avn, rfl⟩ := own_slice HO.out
  have hg0 := HG0.out
  have hg2 := HG2.out
  have hn0 : H.n < H'.n := by omega
  have hn1 : H.n + 1 < H'.n := by omega
  have hs1 : cellAt H' H.n 1 = some (Value.slice aa s.alts.length ac) := by simp [cellAt, hg0]
  have hq1 : cellAt H' (H.n + 1 + 1) 1 = some (.slice ava avn avn) := by simp [cellAt, hg2]
  have hqc : cellsAt H' (H.n + 1 + 1) 0 2 = some [Value.slice wa s.words.length wc, .slice ava avn avn] := by simp [cellsAt, hg2]
  clear hg0
  by_cases hlt : k < s.alts.length
  · obtain ⟨b, o, sp, rfl, hb, hx6, hx7⟩ := (HA.out.ext HX.out).at_ hlt
    have HT : Hid (altCells ((s.alts.take (k + 1)).filter (fun a => !decide (a.id ∈ ids))) = altCells ((s.alts.take k).filter (fun a => !decide (a.id ∈ ids))) ++ if (s.alts[k]).id ∈ ids then [] else (s.alts[k]).cells) := Lib.hid (by
      rw [List.take_succ_eq_append_getElem hlt, List.filter_append, altCells, List.flatMap_append]
      by_cases hc : (s.alts[k]).id ∈ ids <;> simp [List.filter, hc, altCells])
    have hlen : (altCells ((s.alts.take k).filter (fun a => !decide (a.id ∈ ids)))).length ≤ 6000 := by
      have h1 := List.length_filter_le (fun a => !decide (a.id ∈ ids)) (s.alts.take k)
      rw [List.length_take] at h1
      rw [altCells_length]; omega
    have HLEN := Lib.hid hlen
    have HON := Lib.hid (altCells_one ((s.alts.take k).filter (fun a => !decide (a.id ∈ ids))))
    generalize hC2 : altCells ((s.alts.take (k + 1)).filter (fun a => !decide (a.id ∈ ids))) = C2 at HT
    have HC2 := Lib.hid hC2
    generalize altCells ((s.alts.take k).filter (fun a => !decide (a.id ∈ ids))) = C1 at HT HO HLEN HON
    generalize s.alts[k] = a at hx6 hx7 HT
    obtain ⟨i1, i2, i3, i4, i5, i6⟩ := a
    have hx6' : cellsAt H' b (o + k * 6) 6 = some [.int .i64 i1, .int .i64 i2, .int .i64 i3, .int .i64 i4, .int .i64 i5, .int .i64 i6] := hx6
    have hb1 : b < H'.n := hb
    have HHS := Lib.hid (fun (loops : List (Nat × LInfo)) => has_s (loops := loops) (w := i1) (HII.out.ext HX.out))
    have hy1 : cellAt H' b (o + k * 6) = some (.int .i64 i1) := hx7 0 (.int .i64 i1) rfl
    clear hx6 hx7 hlen hC2 hs1 hq1
    have hs1 : cellAt H' H.n 1 = some (Value.slice (some ⟨b, o, sp⟩) s.alts.length ac) := by simp [cellAt, HG0.out]
    have hq1 : cellAt H' (H.n + 1 + 1) 1 = some (.slice ava avn avn) := by simp [cellAt, hg2]
    repeat' (first|(with_reducible first|refine zA ?_|refine zB fun K hK=>?_|refine zC fun K2 hK2=>?_|refine zD ?_|refine zE ?_|refine zF ?_|refine zG ?_|refine zH ?_|refine zI ?_|refine zM ?_|refine zN ?_|refine zO ?_|refine zP ?_|refine zQ ?_|refine zR ?_)|((with_reducible refine zU (hK _ _ ?_));clear hK K)|((with_reducible refine zV ?_ ?_ fun K1 K3 d hdst h1 h3=>?_);rfl;exact yB rfl;cases hdst;go_simp)|((with_reducible refine zW fun K1 K3 h1 h3=>?_);go_simp)|((first|refine h1 ?_|refine h3 ?_);clear h1 h3 K1 K3)|((first|refine zX (fun hb=>h1 ?_) (fun hb=>h3 ?_)|refine zX (fun hb=>h3 ?_) (fun hb=>h1 ?_))<;>(clear h1 h3 K1 K3;(try have hb2:=yC hb);(try have hb2:=yD hb);(try have hb2:=yE hb);(try have hb2:=yF hb);(try have hb2:=yG hb)))|(refine fun (K2:_→AHeap→Prop) hK2=>?_)|((with_reducible refine zY ?_ ?_);decide)|((with_reducible first|refine zZ ?_ (fun K hK=>?_)|refine yA ?_ (fun K hK=>?_));(focus go_simp;done);go_simp;refine hK _ _ ?_;clear hK K)|((with_reducible refine yH mixed rfl ?_ 20 fun K0 hK0=>?_);kernel_rfl)|(with_reducible first|exact yI|exact yJ|refine yK ?_|refine yL ?_|refine yM ?_)|((with_reducible first|refine yN ?_ ?_|refine yO ?_ ?_|refine yP ?_ ?_);rfl)|((with_reducible refine yQ ?_ ?_);rfl;refine hK0 _ _ ?_;clear hK0 K0)|((with_reducible refine yR ?_ ?_ ?_ ?_);rfl;rfl;rfl)|((with_reducible refine yS ?_ ?_ ?_ fun K2 hK2=>?_);rfl;rfl;exact yB rfl)|((with_reducible refine yT ?_ ?_ ?_ ?_ fun K1 K3 d hdst h1 h3=>?_);rfl;rfl;rfl;exact yB rfl;cases hdst;go_simp)|((with_reducible refine yU ?_ ?_ ?_ ?_ fun K1 K3 d hdst h1 h3=>?_);rfl;rfl;rfl;exact yB rfl;cases hdst;go_simp)|((with_reducible refine yV ?_ ?_ (fun K2 hK2=>?_) ?_);rfl;exact yB rfl)|((with_reducible refine yW ?_ ?_ ?_ ?_ (fun K2 hK2=>?_) ?_);rfl;exact yB rfl;rfl;(focus go_simp;done))|((with_reducible refine yX ?_ ?_ ?_ (fun K2 hK2=>?_) ?_);rfl;rfl;exact yB rfl)|((with_reducible refine yY ?_ ?_ (fun K2 hK2=>?_) ?_);rfl;rfl)|((with_reducible refine yZ ?_ ?_);(first|rfl|(dsimp only;decide +kernel)))|((with_reducible refine xA ?_ ?_);(focus go_simp;done))|(go_simp;(try go_bits);(try first | ((with_reducible show CallS _ _ _ _ _ _);refine CallS.mono (HHS.out _) ?_; rintro _ _ ⟨rfl, h9⟩; rw [h9]; clear h9; go_simp) | ((refine one_v el23 sz58 ze58 rfl (by decide) (by decide) rfl rfl ?_); go_simp) | ((refine append_v el23 sz58 by58 ze58 rfl (by decide) (HO.out.ext (Ext.push _)) (srcCells_new rfl) (by decide) rfl (by rw [List.all_append, HON.out]; rfl) (by have := HLEN.out; show (C1.length + 6) * 48 ≤ 1073741824; omega) (by simp only [AHeap.n_push]; omega) fun v2 H5 ho5 hg5 => ?_); (have HO5 := Lib.hid (ho5.mono (base' := H.n + 3) (by simp only [AHeap.n_push]; omega))); (obtain ⟨wa2, wn2, rfl⟩ := own_slice ho5); (have HG5 := Lib.hid hg5); (have hn5 : H'.n < H5.n := by have := hg5.1; simp only [AHeap.n_push] at this; omega); (have HK5 : Hid (∀ i, i < H.n + 3 → H5.get i = H'.get i) := Lib.hid (fun i hi => by rw [hg5.2 i (by simp only [AHeap.n_push]; omega) (fun b n hv hn => by have := (own_block HO.out hv hn).1; omega), AHeap.get_push_old (by omega)])); (have hq5 : H5.get (H.n + 1 + 1) = .row [Value.slice wa s.words.length wc, .slice ava avn avn] 25 := (HK5.out _ (by omega)).trans hg2); (have hn5' : H.n + 1 + 1 < H5.n := by omega); clear ho5 hg5; go_simp));(first|(refine hK2 _ _ ?_ ?_<;>clear hK2 K2)|(refine hK2 _ _ ?_;clear hK2 K2))))
    · have hni : ¬ i1 ∈ ids := by simpa using ‹(!decide (i1 ∈ ids)) = true›
      refine Post.round_normal ⟨s.alts.length - (k + 1), by omega, k + 1, .slice wa2 wn2 wn2, by omega, rfl, (by first|go_simp<;>go_num|assumption), (by first|go_simp<;>go_num|assumption), (by first|go_simp<;>go_num|assumption), (by first|go_simp<;>go_num|assumption), (by first|go_simp<;>go_num|assumption), (by first|go_simp<;>go_num|assumption), by rw [AHeap.n_upd]; omega, Lib.hid ⟨by rw [AHeap.n_upd]; have := HX.out.n; omega, fun i hi => ?_⟩, Lib.hid ?_, Lib.hid ?_, Lib.hid ?_, Lib.hid ?_⟩
      · rw [AHeap.get_upd_ne (by omega), HK5.out i (by omega)]; exact HX.out.get i hi
      · rw [AHeap.get_upd_ne (by omega), HK5.out _ (by omega)]; exact HG0.out
      · rw [AHeap.get_upd_ne (by omega), HK5.out _ (by omega)]; exact HG1.out
      · rw [AHeap.get_upd_same]
      · rw [HC2.out, HT.out, if_neg hni]
        exact own_upd HO5.out (by omega)
    · have hni : i1 ∈ ids := by simpa using ‹(!decide (i1 ∈ ids)) = false›
      refine Post.round_normal ⟨s.alts.length - (k + 1), by omega, k + 1, .slice ava avn avn, by omega, rfl, (by first|go_simp<;>go_num|assumption), (by first|go_simp<;>go_num|assumption), (by first|go_simp<;>go_num|assumption), (by first|go_simp<;>go_num|assumption), (by first|go_simp<;>go_num|assumption), (by first|go_simp<;>go_num|assumption), by omega, HX, HG0, HG1, HG2, Lib.hid ?_⟩
      rw [HC2.out, HT.out, if_pos hni, List.append_nil]
      exact HO.out
  · have hke : k = s.alts.length := by omega
    subst hke
    have HO' : Hid (Own H' (H.n + 3) (.slice ava avn avn) 58 6 (altCells (lessS s ids).alts)) := Lib.hid (by have := HO.out; rwa [List.take_length] at this)
    have hg1 := HG1.out
    repeat' (first|(with_reducible first|refine zA ?_|refine zB fun K hK=>?_|refine zC fun K2 hK2=>?_|refine zD ?_|refine zE ?_|refine zF ?_|refine zG ?_|refine zH ?_|refine zI ?_|refine zM ?_|refine zN ?_|refine zO ?_|refine zP ?_|refine zQ ?_|refine zR ?_)|((with_reducible refine zU (hK _ _ ?_));clear hK K)|((with_reducible refine zV ?_ ?_ fun K1 K3 d hdst h1 h3=>?_);rfl;exact yB rfl;cases hdst;go_simp)|((with_reducible refine zW fun K1 K3 h1 h3=>?_);go_simp)|((first|refine h1 ?_|refine h3 ?_);clear h1 h3 K1 K3)|((first|refine zX (fun hb=>h1 ?_) (fun hb=>h3 ?_)|refine zX (fun hb=>h3 ?_) (fun hb=>h1 ?_))<;>(clear h1 h3 K1 K3;(try have hb2:=yC hb);(try have hb2:=yD hb);(try have hb2:=yE hb);(try have hb2:=yF hb);(try have hb2:=yG hb)))|(refine fun (K2:_→AHeap→Prop) hK2=>?_)|((with_reducible refine zY ?_ ?_);decide)|((with_reducible first|refine zZ ?_ (fun K hK=>?_)|refine yA ?_ (fun K hK=>?_));(focus go_simp;done);go_simp;refine hK _ _ ?_;clear hK K)|(go_simp;(try go_bits);refine hK2 _ _ ?_;clear hK2 K2))
    have HXX := Lib.hid (HX.out.upd (i := H.n + 1) (by omega) (.row [Value.slice wa s.words.length wc, .slice ava avn avn] 25))
    have hHn := HX.out.n
    have hQn := HXQ.out.n
    refine ⟨fun G hG hq hsame => ⟨_, _, rfl, HWI.out.ext ⟨?_, hq⟩, ?_⟩, ⟨_, _, _, _, _, _, rfl⟩, HXX.out⟩
    · have := HXX.out.n; omega
    · have h1 := own_upd (i := H.n + 1) (o := .row [Value.slice wa s.words.length wc, .slice ava avn avn] 25) HO'.out (by omega)
      exact alts_of_own (own_at h1 hG fun i n hv hn => hsame i (by have := (own_block h1 hv hn).1; omega) (own_block h1 hv hn).2.1) (by have := List.length_filter_le (fun a : Alt => !decide (a.id ∈ ids)) s.alts; show (s.alts.filter _).length ≤ _; omega)
theorem less_e {loops : List (Nat × LInfo)} {H : AHeap} {sv iv : Value} {s : Sheet} {ids : List Int} (hs : SheetV H sv s) (hi : Ints H iv ids) (ha2 : s.alts.length ≤ 1000) : CallS Tryz.prog loops 63 [sv, iv] H fun r H' => SheetV H' r (lessS s ids) ∧ (∃ wa wn wc aa an ac, r = .agg #[.slice wa wn wc, .slice aa an ac]) ∧ Ext H H' :=
  CallS.mono (less_f hs (Ext.refl _) hi ha2) fun _ H' ⟨h1, h2, h3⟩ => ⟨h1 H' (Nat.le_refl _) h3.get (fun _ _ _ => rfl), h2, h3⟩
end Go.Proofs.Tryz
namespace Go.Proofs.Tryz
open Go Go.Am Go.RowKit Go.Co
set_option maxRecDepth 100000

end Go.Proofs.Tryz
namespace Go.Proofs.Tryz
open Go Go.Am Go.RowKit Go.Co

end Go.Proofs.Tryz
namespace Go.Proofs.Tryz
open Go Go.Am Go.RowKit Go.Co

end Go.Proofs.Tryz
namespace Go.Proofs.Tryz
open Go Go.Am Go.RowKit Go.Co

end Go.Proofs.Tryz
namespace Go.Proofs.Tryz
open Go Go.Am Go.RowKit Go.Co

theorem errGo_filter (n : Int) (p : Alt → Bool) : ∀ (l : List Alt) (d d' : Int) (seen seen' : List Int), errGo n d seen l = 0 → d' ≤ d → (∀ i, i ∈ seen' → i ∈ seen) → errGo n d' seen' (l.filter p) = 0
  | [], _, _, _, _, _, _, _ => rfl
  | a :: t, d, d', seen, seen', h, hd, hs => by
    rw [errGo] at h
    split at h
    · cases h
    · rename_i h1
      split at h
      · cases h
      · rename_i h2
        have hr : a.right n = true := by
          cases hx : a.right n with
          | true => rfl
          | false => exact absurd (.inl hx) h1
        have hda : d ≤ a.day := by
          rcases Int.lt_or_le a.day d with hx | hx
          · exact absurd (.inr hx) h1
          · exact hx
        by_cases hp : p a = true
        · rw [List.filter_cons_of_pos hp, errGo, if_neg (by simp [hr]; omega), if_neg (fun h9 => h2 (hs _ h9))]
          exact errGo_filter n p t _ _ _ _ h (Int.le_refl _) (fun i hi => by
            rcases List.mem_append.1 hi with hi | hi
            · exact List.mem_append.2 (.inl (hs i hi))
            · exact List.mem_append.2 (.inr hi))
        · rw [List.filter_cons_of_neg hp]
          exact errGo_filter n p t _ _ _ _ h (by omega) (fun i hi => List.mem_append.2 (.inl (hs i hi)))
theorem err_less {s : Sheet} (h : err s = 0) (ids : List Int) : err (lessS s ids) = 0 := by
  unfold err at h ⊢
  split at h
  · cases h
  · rename_i h1
    split at h
    · cases h
    · rename_i h2
      rw [if_neg (show ¬ (win 1 40 ((lessS s ids).words.length : Int) = false ∨ wordsOk 1 (lessS s ids).words = false) from h1), if_neg (show ¬ 40 < (lessS s ids).alts.length by have := List.length_filter_le (fun a : Alt => !decide (a.id ∈ ids)) s.alts; show ¬ 40 < (s.alts.filter _).length; omega)]
      exact errGo_filter _ _ _ _ _ _ _ h (Int.le_refl _) (fun _ h => h)
theorem errCopy_less {s : Sheet} {c : Copy} (h : errCopy s c = 0) (ids : List Int) : errCopy (lessS s ids) c = 0 := by
  have he := err_less (errCopy_ok h).1 ids
  have h0 := (errCopy_ok h).1
  rw [errCopy, if_neg (by simp [h0])] at h
  rw [errCopy, if_neg (by simp [he])]
  exact h
end Go.Proofs.Tryz
