/- Contracts of functions, walked. -/
import Derived.Test.YtgddlpegljkgpaaStTB
import Derived.Test.YtgddlpegljkgpaaAwB
import Derived.Test.YtgddlpegljkgpaaStUH
import Derived.Test.YtgddlpegljkgpaaStSF
set_option linter.all false
namespace Go.Proofs.Try
open Go Go.Am Go.RowKit Go.Co
set_option maxRecDepth 100000

def ExtO (H : AHeap) (base : Nat) (v : Value) (s : Sheet) (c : Copy) : Prop := ∃ oa on oc pi fa fn la ln, v = .agg #[.slice oa on oc, .int .i64 pi, .slice fa fn fn, .slice la ln ln] ∧ Own H base (.slice fa fn fn) 3 1 ((firstL s c).map (Value.int .i64)) ∧ Own H base (.slice la ln ln) 3 1 ((lastL s c).map (Value.int .i64))
theorem ExtO.ext {H H' : AHeap} {base : Nat} {v : Value} {s : Sheet} {c : Copy} (h : ExtO H base v s c) (hx : Ext H H') : ExtO H' base v s c := by
  obtain ⟨oa, on, oc, pi, fa, fn, la, ln, rfl, h1, h2⟩ := h
  exact ⟨oa, on, oc, pi, fa, fn, la, ln, rfl, h1.ext hx, h2.ext hx⟩
theorem extentOf_x {loops : List (Nat × LInfo)} {H : AHeap} {sv cv : Value} {s : Sheet} {c : Copy} (hs : SheetV H sv s) (hc : CopyV H cv c) : CallS Try.prog loops 71 [sv, cv] H fun r H' => (∃ ev, r = .tuple #[ev, .int .i64 (errExt s c)] ∧ ExtO H' H.n ev s c) ∧ Ext H H' :=
  CallS.mono (extentOf_o hs hc) fun _ _ ⟨⟨oa, on, oc, pi, fv, lv, h1, h2, h3, _⟩, h5⟩ => by
    obtain ⟨fa, fn, rfl⟩ := own_slice h2
    obtain ⟨la, ln, rfl⟩ := own_slice h3
    exact ⟨⟨_, h1, oa, on, oc, pi, fa, fn, la, ln, rfl, h2, h3⟩, h5⟩
def errExts (s : Sheet) (c d : Copy) : Int := if errCopy s c ≠ 0 then errCopy s c else if errCopy s d ≠ 0 then errCopy s d else if errExt s c ≠ 0 then errExt s c else errExt s d

theorem errExts_ok {s : Sheet} {c d : Copy} (h : errExts s c d = 0) : errExt s c = 0 ∧ errExt s d = 0 := by
  unfold errExts at h
  split at h
  · rename_i h1; exact absurd h h1
  · split at h
    · rename_i h1; exact absurd h h1
    · split at h
      · rename_i h1; exact absurd h h1
      · rename_i h1; exact ⟨by simpa using h1, h⟩
set_option maxHeartbeats 2000000 in
theorem extentsOf_x {loops : List (Nat × LInfo)} {H : AHeap} {sv cv dv : Value} {s : Sheet} {c d : Copy} (hs : SheetV H sv s) (hc : CopyV H cv c) (hdv : CopyV H dv d) : CallS Try.prog loops 80 [sv, cv, dv] H fun r H' => (∃ oa on oc pi fa fn la ln oa' on' oc' pi' fa' fn' la' ln', r = .tuple #[.agg #[.slice oa on oc, .int .i64 pi, .slice fa fn fn, .slice la ln ln], .agg #[.slice oa' on' oc', .int .i64 pi', .slice fa' fn' fn', .slice la' ln' ln'], .int .i64 (errExts s c d)] ∧ (errExts s c d = 0 → Own H' H.n (.slice fa fn fn) 3 1 ((firstL s c).map (Value.int .i64)) ∧ Own H' H.n (.slice la ln ln) 3 1 ((lastL s c).map (Value.int .i64)) ∧ Own H' H.n (.slice fa' fn' fn') 3 1 ((firstL s d).map (Value.int .i64)) ∧ Own H' H.n (.slice la' ln' ln') 3 1 ((lastL s d).map (Value.int .i64)))) ∧ Ext H H' := by
  have HS := Lib.hid hs
  have HC := Lib.hid hc
  have HD := Lib.hid hdv
  obtain ⟨wv, av, rfl, hw, ha⟩ := hs
  obtain ⟨hwl, wa, wc, rfl⟩ := hw.slice
  obtain ⟨hal, aa, ac, rfl⟩ := ha.slice
  obtain ⟨cv, rfl, hcw⟩ := hc
  obtain ⟨hcl, ca, cc, rfl⟩ := hcw.slice
  obtain ⟨dv, rfl, hdw⟩ := hdv
  obtain ⟨hdl, da, dc, rfl⟩ := hdw.slice
  clear hw ha hcw hdw
  have HEX : Hid (errExts s c d = if errCopy s c ≠ 0 then errCopy s c else if errCopy s d ≠ 0 then errCopy s d else if errExt s c ≠ 0 then errExt s c else errExt s d) := Lib.hid rfl
  have HK1 := Lib.hid (fun (loops : List (Nat × LInfo)) (H' : AHeap) (hx : Ext H H') => checkCopy_s (loops := loops) (HS.out.ext hx) (HC.out.ext hx))
  have HK2 := Lib.hid (fun (loops : List (Nat × LInfo)) (H' : AHeap) (hx : Ext H H') => checkCopy_s (loops := loops) (HS.out.ext hx) (HD.out.ext hx))
  have HE1 := Lib.hid (fun (loops : List (Nat × LInfo)) (H' : AHeap) (hx : Ext H H') => extentOf_x (loops := loops) (HS.out.ext hx) (HC.out.ext hx))
  have HE2 := Lib.hid (fun (loops : List (Nat × LInfo)) (H' : AHeap) (hx : Ext H H') => extentOf_x (loops := loops) (HS.out.ext hx) (HD.out.ext hx))
  generalize errExts s c d = er at HEX
  generalize errCopy s c = k1 at HEX HK1
  generalize errCopy s d = k2 at HEX HK2
  generalize errExt s c = e1 at HEX HE1
  generalize errExt s d = e2 at HEX HE2
  refine CallS.enter' Try.func80 rfl Try.ntmps80 (by simp) fun f hd hf => ?_
  have f0 := hf 0
  have f1 := hf 1
  have f2 := hf 2
  simp at f0 f1 f2
  clear hf
  repeat' (first|(with_reducible first|refine zA ?_|refine zB fun K hK=>?_|refine zC fun K2 hK2=>?_|refine zD ?_|refine zE ?_|refine zF ?_|refine zG ?_|refine zH ?_|refine zI ?_|refine zM ?_|refine zN ?_|refine zO ?_|refine zP ?_|refine zQ ?_|refine zR ?_)|((with_reducible refine zU (hK _ _ ?_));clear hK K)|((with_reducible refine zV ?_ ?_ fun K1 K3 d hdst h1 h3=>?_);rfl;exact yB rfl;cases hdst;go_simp)|((with_reducible refine zW fun K1 K3 h1 h3=>?_);go_simp)|((first|refine h1 ?_|refine h3 ?_);clear h1 h3 K1 K3)|((first|refine zX (fun hb=>h1 ?_) (fun hb=>h3 ?_)|refine zX (fun hb=>h3 ?_) (fun hb=>h1 ?_))<;>(clear h1 h3 K1 K3;(try have hb2:=yC hb);(try have hb2:=yD hb);(try have hb2:=yE hb);(try have hb2:=yF hb);(try have hb2:=yG hb)))|(refine fun (K2:_→AHeap→Prop) hK2=>?_)|((with_reducible refine zY ?_ ?_);decide)|((with_reducible first|refine zZ ?_ (fun K hK=>?_)|refine yA ?_ (fun K hK=>?_));(focus go_simp;done);go_simp;refine hK _ _ ?_;clear hK K)|(go_simp;(try go_bits);(try first | ((refine two_k el159 sz27 ze27 rfl (by decide) (by decide) rfl rfl rfl rfl ?_); go_simp));refine hK2 _ _ ?_;clear hK2 K2))
  refine CodeS.loop (fun m f H' => ∃ k : Nat, k ≤ 2 ∧ m = 2 - k ∧ f.tmp 19 = .int .i64 k ∧ f.tmp 18 = .int .i64 2 ∧ f.tmp 17 = .slice (some ⟨H.n + 5, 0, none⟩) 2 2 ∧ f.tmp 3 = .pointer (some ⟨H.n, 0, none⟩) ∧ f.tmp 4 = .pointer (some ⟨H.n + 1, 0, none⟩) ∧ f.tmp 5 = .pointer (some ⟨H.n + 2, 0, none⟩) ∧ f.tmp 6 = .pointer (some ⟨H.n + 3, 0, none⟩) ∧ f.tmp 7 = .pointer (some ⟨H.n + 4, 0, none⟩) ∧ f.defers = [] ∧ Hid (1 ≤ k → k1 = 0) ∧ Hid (2 ≤ k → k2 = 0) ∧ H.n + 5 < H'.n ∧ Hid (Ext H H') ∧ Hid (H'.get H.n = .row [Value.slice wa s.words.length wc, Value.slice aa s.alts.length ac] 25) ∧ Hid (H'.get (H.n + 1) = .row [Value.slice ca c.words.length cc, .int .i64 c.beg, .int .i64 c.fin, .int .i64 c.per] 27) ∧ Hid (H'.get (H.n + 2) = .row [Value.slice da d.words.length dc, .int .i64 d.beg, .int .i64 d.fin, .int .i64 d.per] 27) ∧ Hid (H'.get (H.n + 3) = .row [Value.slice none 0 0, .int .i64 0, Value.slice none 0 0, Value.slice none 0 0] 120) ∧ Hid (H'.get (H.n + 4) = .row [Value.slice none 0 0, .int .i64 0, Value.slice none 0 0, Value.slice none 0 0] 120) ∧ Hid (H'.get (H.n + 5) = .row ([Value.slice ca c.words.length cc, .int .i64 c.beg, .int .i64 c.fin, .int .i64 c.per] ++ [Value.slice da d.words.length dc, .int .i64 d.beg, .int .i64 d.fin, .int .i64 d.per]) 27)) 2 ?_ ?_
  · refine ⟨0, by omega, rfl, (by first|go_simp<;>go_num|assumption), (by first|go_simp<;>go_num|assumption), (by first|go_simp<;>go_num|assumption), (by first|go_simp<;>go_num|assumption), (by first|go_simp<;>go_num|assumption), (by first|go_simp<;>go_num|assumption), (by first|go_simp<;>go_num|assumption), (by first|go_simp<;>go_num|assumption), (by first|go_simp<;>go_num|assumption), Lib.hid (fun h => by omega), Lib.hid (fun h => by omega), by simp only [AHeap.n_push]; omega, Lib.hid ((((((Ext.refl _).push' _).push' _).push' _).push' _).push' _ |>.push' _), Lib.hid ?_, Lib.hid ?_, Lib.hid ?_, Lib.hid ?_, Lib.hid ?_, Lib.hid ?_⟩
    all_goals simp only [AHeap.get_push, AHeap.n_push, Nat.add_assoc, Nat.reduceAdd]
    all_goals simp
  clear f0 f1 f2 hd f
  rintro m f H' ⟨k, hk, rfl, f19, f18, f17, f3, f4, f5, f6, f7, hd, HK1', HK2', hn5, HX, HG0, HG1, HG2, HG3, HG4, HG5⟩
  have hg0 := HG0.out
  have hg1 := HG1.out
  have hg2 := HG2.out
  have hg3 := HG3.out
  have hg4 := HG4.out
  have hg5 := HG5.out
  have hc0 : cellsAt H' H.n 0 2 = some [Value.slice wa s.words.length wc, Value.slice aa s.alts.length ac] := by simp [cellsAt, hg0]
  have hc1 : cellsAt H' (H.n + 1) 0 4 = some [Value.slice ca c.words.length cc, .int .i64 c.beg, .int .i64 c.fin, .int .i64 c.per] := by simp [cellsAt, hg1]
  have hc2 : cellsAt H' (H.n + 2) 0 4 = some [Value.slice da d.words.length dc, .int .i64 d.beg, .int .i64 d.fin, .int .i64 d.per] := by simp [cellsAt, hg2]
  have hc5 : cellsAt H' (H.n + 5) 0 4 = some [Value.slice ca c.words.length cc, .int .i64 c.beg, .int .i64 c.fin, .int .i64 c.per] := by simp [cellsAt, hg5]
  have hc54 : cellsAt H' (H.n + 5) 4 4 = some [Value.slice da d.words.length dc, .int .i64 d.beg, .int .i64 d.fin, .int .i64 d.per] := by simp [cellsAt, hg5]
  have hl0 : H.n < H'.n := by omega
  have hl1 : H.n + 1 < H'.n := by omega
  have hl2 : H.n + 2 < H'.n := by omega
  have hl3 : H.n + 3 < H'.n := by omega
  have hl4 : H.n + 4 < H'.n := by omega
  have hgp3 : ∀ o, (H'.push o).get (H.n + 3) = .row [Value.slice none 0 0, .int .i64 0, Value.slice none 0 0, Value.slice none 0 0] 120 := fun o => (AHeap.get_push_old hl3).trans hg3
  have hgp4 : ∀ o, (H'.push o).get (H.n + 4) = .row [Value.slice none 0 0, .int .i64 0, Value.slice none 0 0, Value.slice none 0 0] 120 := fun o => (AHeap.get_push_old hl4).trans hg4
  have hgq4 : ∀ o o', ((H'.upd (H.n + 3) o).push o').get (H.n + 4) = .row [Value.slice none 0 0, .int .i64 0, Value.slice none 0 0, Value.slice none 0 0] 120 := fun o o' => (AHeap.get_push_old (by rw [AHeap.n_upd]; exact hl4)).trans ((AHeap.get_upd_ne (by omega)).trans hg4)
  rcases Nat.eq_zero_or_pos k with hk0 | hk0
  · subst hk0
    repeat' (first|(with_reducible first|refine zA ?_|refine zB fun K hK=>?_|refine zC fun K2 hK2=>?_|refine zD ?_|refine zE ?_|refine zF ?_|refine zG ?_|refine zH ?_|refine zI ?_|refine zM ?_|refine zN ?_|refine zO ?_|refine zP ?_|refine zQ ?_|refine zR ?_)|((with_reducible refine zU (hK _ _ ?_));clear hK K)|((with_reducible refine zV ?_ ?_ fun K1 K3 d hdst h1 h3=>?_);rfl;exact yB rfl;cases hdst;go_simp)|((with_reducible refine zW fun K1 K3 h1 h3=>?_);go_simp)|((first|refine h1 ?_|refine h3 ?_);clear h1 h3 K1 K3)|((first|refine zX (fun hb=>h1 ?_) (fun hb=>h3 ?_)|refine zX (fun hb=>h3 ?_) (fun hb=>h1 ?_))<;>(clear h1 h3 K1 K3;(try have hb2:=yC hb);(try have hb2:=yD hb);(try have hb2:=yE hb);(try have hb2:=yF hb);(try have hb2:=yG hb)))|(refine fun (K2:_→AHeap→Prop) hK2=>?_)|((with_reducible refine zY ?_ ?_);decide)|((with_reducible first|refine zZ ?_ (fun K hK=>?_)|refine yA ?_ (fun K hK=>?_));(focus go_simp;done);go_simp;refine hK _ _ ?_;clear hK K)|(go_simp;(try go_bits);(try first | ((with_reducible show CallS _ _ _ _ _ _);refine CallS.mono (HK1.out _ _ (HX.out.push' _)) ?_; rintro _ _ ⟨rfl, h9⟩; rw [h9]; clear h9));refine hK2 _ _ ?_;clear hK2 K2))
    · have hz : ¬ k1 = 0 := by simpa using hb
      have hr : er = k1 := by rw [HEX.out, if_pos hz]
      exact ⟨⟨_, _, _, _, _, _, _, _, _, _, _, _, _, _, _, _, by rw [hr], fun h0 => absurd h0 (by rw [hr]; exact hz)⟩, ((HX.out.upd (by omega) _).upd (by omega) _).push' _⟩
    have HZ : k1 = 0 := by simpa using hb
    · refine Post.round_normal ⟨1, by omega, 1, by omega, rfl, (by first|go_simp<;>go_num|assumption), (by first|go_simp<;>go_num|assumption), (by first|go_simp<;>go_num|assumption), (by first|go_simp<;>go_num|assumption), (by first|go_simp<;>go_num|assumption), (by first|go_simp<;>go_num|assumption), (by first|go_simp<;>go_num|assumption), (by first|go_simp<;>go_num|assumption), (by first|go_simp<;>go_num|assumption), Lib.hid (fun h => HZ), Lib.hid (fun h => by omega), by rw [AHeap.n_push]; omega, Lib.hid (HX.out.push' _), Lib.hid ?_, Lib.hid ?_, Lib.hid ?_, Lib.hid ?_, Lib.hid ?_, Lib.hid ?_⟩
      · rw [AHeap.get_push_old hl0]; exact HG0.out
      · rw [AHeap.get_push_old hl1]; exact HG1.out
      · rw [AHeap.get_push_old hl2]; exact HG2.out
      · rw [AHeap.get_push_old hl3]; exact HG3.out
      · rw [AHeap.get_push_old hl4]; exact HG4.out
      · rw [AHeap.get_push_old hn5]; exact HG5.out
  rcases Nat.eq_or_lt_of_le (show 1 ≤ k by omega) with hk1 | hk1
  · subst hk1
    have HZ0 := HK1'.out (Nat.le_refl _)
    clear hk0
    repeat' (first|(with_reducible first|refine zA ?_|refine zB fun K hK=>?_|refine zC fun K2 hK2=>?_|refine zD ?_|refine zE ?_|refine zF ?_|refine zG ?_|refine zH ?_|refine zI ?_|refine zM ?_|refine zN ?_|refine zO ?_|refine zP ?_|refine zQ ?_|refine zR ?_)|((with_reducible refine zU (hK _ _ ?_));clear hK K)|((with_reducible refine zV ?_ ?_ fun K1 K3 d hdst h1 h3=>?_);rfl;exact yB rfl;cases hdst;go_simp)|((with_reducible refine zW fun K1 K3 h1 h3=>?_);go_simp)|((first|refine h1 ?_|refine h3 ?_);clear h1 h3 K1 K3)|((first|refine zX (fun hb=>h1 ?_) (fun hb=>h3 ?_)|refine zX (fun hb=>h3 ?_) (fun hb=>h1 ?_))<;>(clear h1 h3 K1 K3;(try have hb2:=yC hb);(try have hb2:=yD hb);(try have hb2:=yE hb);(try have hb2:=yF hb);(try have hb2:=yG hb)))|(refine fun (K2:_→AHeap→Prop) hK2=>?_)|((with_reducible refine zY ?_ ?_);decide)|((with_reducible first|refine zZ ?_ (fun K hK=>?_)|refine yA ?_ (fun K hK=>?_));(focus go_simp;done);go_simp;refine hK _ _ ?_;clear hK K)|(go_simp;(try go_bits);(try first | ((with_reducible show CallS _ _ _ _ _ _);refine CallS.mono (HK2.out _ _ (HX.out.push' _)) ?_; rintro _ _ ⟨rfl, h9⟩; rw [h9]; clear h9));refine hK2 _ _ ?_;clear hK2 K2))
    · have hz : ¬ k2 = 0 := by simpa using hb
      have hr : er = k2 := by rw [HEX.out, if_neg (by simp [HZ0]), if_pos hz]
      exact ⟨⟨_, _, _, _, _, _, _, _, _, _, _, _, _, _, _, _, by rw [hr], fun h0 => absurd h0 (by rw [hr]; exact hz)⟩, ((HX.out.upd (by omega) _).upd (by omega) _).push' _⟩
    have HZ : k2 = 0 := by simpa using hb
    · refine Post.round_normal ⟨0, by omega, 2, by omega, rfl, (by first|go_simp<;>go_num|assumption), (by first|go_simp<;>go_num|assumption), (by first|go_simp<;>go_num|assumption), (by first|go_simp<;>go_num|assumption), (by first|go_simp<;>go_num|assumption), (by first|go_simp<;>go_num|assumption), (by first|go_simp<;>go_num|assumption), (by first|go_simp<;>go_num|assumption), (by first|go_simp<;>go_num|assumption), Lib.hid (fun h => HZ0), Lib.hid (fun h => HZ), by rw [AHeap.n_push]; omega, Lib.hid (HX.out.push' _), Lib.hid ?_, Lib.hid ?_, Lib.hid ?_, Lib.hid ?_, Lib.hid ?_, Lib.hid ?_⟩
      · rw [AHeap.get_push_old hl0]; exact HG0.out
      · rw [AHeap.get_push_old hl1]; exact HG1.out
      · rw [AHeap.get_push_old hl2]; exact HG2.out
      · rw [AHeap.get_push_old hl3]; exact HG3.out
      · rw [AHeap.get_push_old hl4]; exact HG4.out
      · rw [AHeap.get_push_old hn5]; exact HG5.out
  have hk2 : k = 2 := by omega
  subst hk2
  have HZ0 := HK1'.out (by omega)
  have HZ1 := HK2'.out (by omega)
  have HER : Hid (er = if e1 ≠ 0 then e1 else e2) := Lib.hid (by rw [HEX.out, if_neg (by simp [HZ0]), if_neg (by simp [HZ1])])
  clear hk0 hk1 hk HZ0 HZ1 HEX hgp3 hgp4 hgq4 hc5 hc54 hg5
  repeat' (first|(with_reducible first|refine zA ?_|refine zB fun K hK=>?_|refine zC fun K2 hK2=>?_|refine zD ?_|refine zE ?_|refine zF ?_|refine zG ?_|refine zH ?_|refine zI ?_|refine zM ?_|refine zN ?_|refine zO ?_|refine zP ?_|refine zQ ?_|refine zR ?_)|((with_reducible refine zU (hK _ _ ?_));clear hK K)|((with_reducible refine zV ?_ ?_ fun K1 K3 d hdst h1 h3=>?_);rfl;exact yB rfl;cases hdst;go_simp)|((with_reducible refine zW fun K1 K3 h1 h3=>?_);go_simp)|((first|refine h1 ?_|refine h3 ?_);clear h1 h3 K1 K3)|((first|refine zX (fun hb=>h1 ?_) (fun hb=>h3 ?_)|refine zX (fun hb=>h3 ?_) (fun hb=>h1 ?_))<;>(clear h1 h3 K1 K3;(try have hb2:=yC hb);(try have hb2:=yD hb);(try have hb2:=yE hb);(try have hb2:=yF hb);(try have hb2:=yG hb)))|(refine fun (K2:_→AHeap→Prop) hK2=>?_)|((with_reducible refine zY ?_ ?_);decide)|((with_reducible first|refine zZ ?_ (fun K hK=>?_)|refine yA ?_ (fun K hK=>?_));(focus go_simp;done);go_simp;refine hK _ _ ?_;clear hK K)|(go_simp;(try go_bits);(try first |((with_reducible show CallS _ _ _ _ _ _);first|(refine CallS.mono (HE1.out _ _ HX.out) ?_; rintro _ H1 ⟨⟨ev, rfl, hev⟩, hx⟩; (obtain ⟨oa, on, oc, pi, fa, fn, la, ln, rfl, hi1, hi2⟩ := hev); (have HI1 := Lib.hid hi1); (have HI2 := Lib.hid hi2); (have HX1 := Lib.hid (HX.out.trans hx)); (have hn1 : H.n + 5 < H1.n := by have := hx.n; omega); (have hc01 : cellsAt H1 H.n 0 2 = some [Value.slice wa s.words.length wc, Value.slice aa s.alts.length ac] := by rw [hx.cellsAt (by omega)]; exact hc0); (have hc21 : cellsAt H1 (H.n + 2) 0 4 = some [Value.slice da d.words.length dc, .int .i64 d.beg, .int .i64 d.fin, .int .i64 d.per] := by rw [hx.cellsAt (by omega)]; exact hc2); (have hm0 : H.n < H1.n := by omega); (have hm2 : H.n + 2 < H1.n := by omega); (have hm3 : H.n + 3 < H1.n := by omega); (have hm4 : H.n + 4 < H1.n := by omega); (have hg31 : H1.get (H.n + 3) = .row [Value.slice none 0 0, .int .i64 0, Value.slice none 0 0, Value.slice none 0 0] 120 := (hx.get _ hl3).trans HG3.out); (have hg41 : H1.get (H.n + 4) = .row [Value.slice none 0 0, .int .i64 0, Value.slice none 0 0, Value.slice none 0 0] 120 := (hx.get _ hl4).trans HG4.out); (have hgp3 : ∀ o, (H1.push o).get (H.n + 3) = .row [Value.slice none 0 0, .int .i64 0, Value.slice none 0 0, Value.slice none 0 0] 120 := fun o => (AHeap.get_push_old hm3).trans hg31); (have hgq4 : ∀ o o', ((H1.upd (H.n + 3) o).push o').get (H.n + 4) = .row [Value.slice none 0 0, .int .i64 0, Value.slice none 0 0, Value.slice none 0 0] 120 := fun o o' => (AHeap.get_push_old (by rw [AHeap.n_upd]; exact hm4)).trans ((AHeap.get_upd_ne (by omega)).trans hg41)); clear hi1 hi2 hx hc0 hc1 hc2 hg0 hg1 hg2 hg3 hg4)|(refine CallS.mono (HE2.out _ _ (HX1.out.push' _)) ?_; rintro _ H2 ⟨⟨ev, rfl, hev⟩, hx⟩; (obtain ⟨oa', on', oc', pi', fa', fn', la', ln', rfl, hj1, hj2⟩ := hev); (have HJ1 := Lib.hid hj1); (have HJ2 := Lib.hid hj2); (have HX2 := Lib.hid ((HX1.out.push' _).trans hx)); (have HI12 := Lib.hid ((HI1.out.ext (Ext.push _)).ext hx)); (have HI22 := Lib.hid ((HI2.out.ext (Ext.push _)).ext hx)); (have HY2 := Lib.hid ((Ext.push _).trans hx)); (have hn2 : H1.n < H2.n := by have := hx.n; rw [AHeap.n_push] at this; omega); (have hcx : cellsAt H2 H1.n 0 4 = some [.slice oa on oc, .int .i64 pi, .slice fa fn fn, .slice la ln ln] := by rw [hx.cellsAt (by rw [AHeap.n_push]; omega)]; simp [cellsAt, get_at (H := H1) rfl]); (have ho3 : H.n + 3 < H2.n := by omega); (have ho4 : H.n + 4 < H2.n := by omega); (have hg32 : H2.get (H.n + 3) = .row [Value.slice none 0 0, .int .i64 0, Value.slice none 0 0, Value.slice none 0 0] 120 := (hx.get _ (by rw [AHeap.n_push]; omega)).trans (hgp3 _)); (have hg42 : H2.get (H.n + 4) = .row [Value.slice none 0 0, .int .i64 0, Value.slice none 0 0, Value.slice none 0 0] 120 := (hx.get _ (by rw [AHeap.n_push]; omega)).trans ((AHeap.get_push_old hm4).trans hg41)); (have hgp32 : ∀ o, (H2.push o).get (H.n + 3) = .row [Value.slice none 0 0, .int .i64 0, Value.slice none 0 0, Value.slice none 0 0] 120 := fun o => (AHeap.get_push_old ho3).trans hg32); (have hgq42 : ∀ o o', ((H2.upd (H.n + 3) o).push o').get (H.n + 4) = .row [Value.slice none 0 0, .int .i64 0, Value.slice none 0 0, Value.slice none 0 0] 120 := fun o o' => (AHeap.get_push_old (by rw [AHeap.n_upd]; exact ho4)).trans ((AHeap.get_upd_ne (by omega)).trans hg42)); clear hj1 hj2 hx)));refine hK2 _ _ ?_;clear hK2 K2))
  · have hz : ¬ e1 = 0 := by simpa using hb
    have hr : er = e1 := by rw [HER.out, if_pos hz]
    exact ⟨⟨_, _, _, _, _, _, _, _, _, _, _, _, _, _, _, _, by rw [hr], fun h0 => absurd h0 (by rw [hr]; exact hz)⟩, ((HX1.out.upd (by omega) _).upd (by omega) _).push' _⟩
  have hz : e1 = 0 := by simpa using hb
  have hr : er = e2 := by rw [HER.out, if_neg (by simp [hz])]
  have hne1 : ¬ (H1.n = H.n + 3) := by omega
  have hne2 : ¬ (H1.n = H.n + 4) := by omega
  have hne3 : ¬ (H2.n = H.n + 3) := by omega
  have hne4 : ¬ (H2.n = H.n + 4) := by omega
  clear HER
  repeat' (first|(with_reducible first|refine zA ?_|refine zB fun K hK=>?_|refine zC fun K2 hK2=>?_|refine zD ?_|refine zE ?_|refine zF ?_|refine zG ?_|refine zH ?_|refine zI ?_|refine zM ?_|refine zN ?_|refine zO ?_|refine zP ?_|refine zQ ?_|refine zR ?_)|((with_reducible refine zU (hK _ _ ?_));clear hK K)|((with_reducible refine zV ?_ ?_ fun K1 K3 d hdst h1 h3=>?_);rfl;exact yB rfl;cases hdst;go_simp)|((with_reducible refine zW fun K1 K3 h1 h3=>?_);go_simp)|((first|refine h1 ?_|refine h3 ?_);clear h1 h3 K1 K3)|((first|refine zX (fun hb=>h1 ?_) (fun hb=>h3 ?_)|refine zX (fun hb=>h3 ?_) (fun hb=>h1 ?_))<;>(clear h1 h3 K1 K3;(try have hb2:=yC hb);(try have hb2:=yD hb);(try have hb2:=yE hb);(try have hb2:=yF hb);(try have hb2:=yG hb)))|(refine fun (K2:_→AHeap→Prop) hK2=>?_)|((with_reducible refine zY ?_ ?_);decide)|((with_reducible first|refine zZ ?_ (fun K hK=>?_)|refine yA ?_ (fun K hK=>?_));(focus go_simp;done);go_simp;refine hK _ _ ?_;clear hK K)|((with_reducible refine yH mixed rfl ?_ 20 fun K0 hK0=>?_);kernel_rfl)|(with_reducible first|exact yI|exact yJ|refine yK ?_|refine yL ?_|refine yM ?_)|((with_reducible first|refine yN ?_ ?_|refine yO ?_ ?_|refine yP ?_ ?_);rfl)|((with_reducible refine yQ ?_ ?_);rfl;refine hK0 _ _ ?_;clear hK0 K0)|((with_reducible refine yR ?_ ?_ ?_ ?_);rfl;rfl;rfl)|((with_reducible refine yS ?_ ?_ ?_ fun K2 hK2=>?_);rfl;rfl;exact yB rfl)|((with_reducible refine yT ?_ ?_ ?_ ?_ fun K1 K3 d hdst h1 h3=>?_);rfl;rfl;rfl;exact yB rfl;cases hdst;go_simp)|((with_reducible refine yU ?_ ?_ ?_ ?_ fun K1 K3 d hdst h1 h3=>?_);rfl;rfl;rfl;exact yB rfl;cases hdst;go_simp)|((with_reducible refine yV ?_ ?_ (fun K2 hK2=>?_) ?_);rfl;exact yB rfl)|((with_reducible refine yW ?_ ?_ ?_ ?_ (fun K2 hK2=>?_) ?_);rfl;exact yB rfl;rfl;(focus go_simp;done))|((with_reducible refine yX ?_ ?_ ?_ (fun K2 hK2=>?_) ?_);rfl;rfl;exact yB rfl)|((with_reducible refine yY ?_ ?_ (fun K2 hK2=>?_) ?_);rfl;rfl)|((with_reducible refine yZ ?_ ?_);(first|rfl|(dsimp only;decide +kernel)))|((with_reducible refine xA ?_ ?_);(focus go_simp;done))|(go_simp;(try go_bits);(first|(refine hK2 _ _ ?_ ?_<;>clear hK2 K2)|(refine hK2 _ _ ?_;clear hK2 K2))))
  refine ⟨⟨_, _, _, _, _, _, _, _, _, _, _, _, _, _, _, _, by rw [hr], fun _ => ⟨?_, ?_, ?_, ?_⟩⟩, ((HX2.out.upd (by omega) _).upd (by omega) _).push' _⟩
  · exact ((own_upd (own_upd HI12.out (by omega)) (by omega)).ext (Ext.push _)).mono (by omega)
  · exact ((own_upd (own_upd HI22.out (by omega)) (by omega)).ext (Ext.push _)).mono (by omega)
  · exact ((own_upd (own_upd HJ1.out (by rw [AHeap.n_push]; omega)) (by rw [AHeap.n_push]; omega)).ext (Ext.push _)).mono (by rw [AHeap.n_push]; omega)
  · exact ((own_upd (own_upd HJ2.out (by rw [AHeap.n_push]; omega)) (by rw [AHeap.n_push]; omega)).ext (Ext.push _)).mono (by rw [AHeap.n_push]; omega)
end Go.Proofs.Try
namespace Go.Proofs.Try
open Go Go.Am Go.RowKit Go.Co
set_option maxRecDepth 100000

def bef (days : List Int) (a : Alt) : Bool := decide (a.day ≤ days.getD a.to.toNat 0)

theorem wasBefore_s {loops : List (Nat × LInfo)} {H : AHeap} {dv : Value} {days : List Int} {a : Alt} (hd : Ints H dv days) (h0 : 0 ≤ a.to) (h1 : a.to < days.length) : CallS Try.prog loops 74 [a.val, dv] H fun r H' => r = .bool (bef days a) ∧ H' = H := by
  refine CallS.forget (R := fun v => v = .bool (bef days a)) (by rintro v rfl; rfl) ?_
  obtain ⟨i1, i2, i3, i4, i5, i6⟩ := a
  obtain ⟨k, rfl⟩ : ∃ k : Nat, i5 = (k : Int) := ⟨i5.toNat, by simp only at h0; omega⟩
  have hk : k < days.length := by simp only at h1; omega
  obtain ⟨hdl, da, dc, rfl⟩ := hd.slice
  obtain ⟨b, o, sp, rfl, hb, hx⟩ := hd.at_ hk
  have HB : Hid (bef days ⟨i1, i2, i3, i4, (k : Int), i6⟩ = decide (i3 ≤ days[k])) := Lib.hid (by simp [bef, List.getD_eq_getElem?_getD, hk])
  generalize days[k] = y at hx HB
  have hk2 : (k : Int) < (days.length : Nat) := by omega
  clear hd h0 h1 hdl
  rw [HB.out]
  clear HB
  refine CallS.enter' Try.func74 rfl Try.ntmps74 (by simp) fun f hd hf => ?_
  have f0 := hf 0
  have f1 := hf 1
  simp [Alt.val] at f0 f1
  clear hf
  repeat' (first|(with_reducible first|refine zA ?_|refine zB fun K hK=>?_|refine zC fun K2 hK2=>?_|refine zD ?_|refine zE ?_|refine zF ?_|refine zG ?_|refine zH ?_|refine zI ?_|refine zM ?_|refine zN ?_|refine zO ?_|refine zP ?_|refine zQ ?_|refine zR ?_)|((with_reducible refine zU (hK _ _ ?_));clear hK K)|((with_reducible refine zV ?_ ?_ fun K1 K3 d hdst h1 h3=>?_);rfl;exact yB rfl;cases hdst;go_simp)|((with_reducible refine zW fun K1 K3 h1 h3=>?_);go_simp)|((first|refine h1 ?_|refine h3 ?_);clear h1 h3 K1 K3)|((first|refine zX (fun hb=>h1 ?_) (fun hb=>h3 ?_)|refine zX (fun hb=>h3 ?_) (fun hb=>h1 ?_))<;>(clear h1 h3 K1 K3;(try have hb2:=yC hb);(try have hb2:=yD hb);(try have hb2:=yE hb);(try have hb2:=yF hb);(try have hb2:=yG hb)))|(refine fun (K2:_→AHeap→Prop) hK2=>?_)|((with_reducible refine zY ?_ ?_);decide)|((with_reducible first|refine zZ ?_ (fun K hK=>?_)|refine yA ?_ (fun K hK=>?_));(focus go_simp;done);go_simp;refine hK _ _ ?_;clear hK K)|((with_reducible refine yH mixed rfl ?_ 20 fun K0 hK0=>?_);kernel_rfl)|(with_reducible first|exact yI|exact yJ|refine yK ?_|refine yL ?_|refine yM ?_)|((with_reducible first|refine yN ?_ ?_|refine yO ?_ ?_|refine yP ?_ ?_);rfl)|((with_reducible refine yQ ?_ ?_);rfl;refine hK0 _ _ ?_;clear hK0 K0)|((with_reducible refine yR ?_ ?_ ?_ ?_);rfl;rfl;rfl)|((with_reducible refine yS ?_ ?_ ?_ fun K2 hK2=>?_);rfl;rfl;exact yB rfl)|((with_reducible refine yT ?_ ?_ ?_ ?_ fun K1 K3 d hdst h1 h3=>?_);rfl;rfl;rfl;exact yB rfl;cases hdst;go_simp)|((with_reducible refine yU ?_ ?_ ?_ ?_ fun K1 K3 d hdst h1 h3=>?_);rfl;rfl;rfl;exact yB rfl;cases hdst;go_simp)|((with_reducible refine yV ?_ ?_ (fun K2 hK2=>?_) ?_);rfl;exact yB rfl)|((with_reducible refine yW ?_ ?_ ?_ ?_ (fun K2 hK2=>?_) ?_);rfl;exact yB rfl;rfl;(focus go_simp;done))|((with_reducible refine yX ?_ ?_ ?_ (fun K2 hK2=>?_) ?_);rfl;rfl;exact yB rfl)|((with_reducible refine yY ?_ ?_ (fun K2 hK2=>?_) ?_);rfl;rfl)|((with_reducible refine yZ ?_ ?_);(first|rfl|(dsimp only;decide +kernel)))|((with_reducible refine xA ?_ ?_);(focus go_simp;done))|(go_simp;(try go_bits);(first|(refine hK2 _ _ ?_ ?_<;>clear hK2 K2)|(refine hK2 _ _ ?_;clear hK2 K2))))
  exact ⟨rfl, (Ext.refl _).push' _⟩
theorem seen1_s {loops : List (Nat × LInfo)} {H : AHeap} {q : Nat} {dv : Value} {days : List Int} {a : Alt} (hq : q < H.n) (hc : cellAt H q 2 = some dv) (hdy : Ints H dv days) (h0 : 0 ≤ a.to) (h1 : a.to < days.length) : CallS Try.prog loops 73 (a.val :: #[Value.pointer (some ⟨q, 0, none⟩)].toList) H fun r H' => r = .bool (bef days a) ∧ H' = H := by
  refine CallS.forget (R := fun v => v = .bool (bef days a)) (by rintro v rfl; rfl) ?_
  have HW := Lib.hid (fun (loops : List (Nat × LInfo)) (H' : AHeap) (hx : Ext H H') => wasBefore_s (loops := loops) (hdy.ext hx) h0 h1)
  obtain ⟨hdl, da, dc, rfl⟩ := hdy.slice
  generalize bef days a = bb at HW
  obtain ⟨i1, i2, i3, i4, i5, i6⟩ := a
  clear hdy h0 h1
  refine CallS.enter' Try.func73 rfl Try.ntmps73 (by simp) fun f hd hf => ?_
  have f0 := hf 0
  have f1 := hf 1
  simp [Alt.val] at f0 f1
  clear hf
  repeat' (first|(with_reducible first|refine zA ?_|refine zB fun K hK=>?_|refine zC fun K2 hK2=>?_|refine zD ?_|refine zE ?_|refine zF ?_|refine zG ?_|refine zH ?_|refine zI ?_|refine zM ?_|refine zN ?_|refine zO ?_|refine zP ?_|refine zQ ?_|refine zR ?_)|((with_reducible refine zU (hK _ _ ?_));clear hK K)|((with_reducible refine zV ?_ ?_ fun K1 K3 d hdst h1 h3=>?_);rfl;exact yB rfl;cases hdst;go_simp)|((with_reducible refine zW fun K1 K3 h1 h3=>?_);go_simp)|((first|refine h1 ?_|refine h3 ?_);clear h1 h3 K1 K3)|((first|refine zX (fun hb=>h1 ?_) (fun hb=>h3 ?_)|refine zX (fun hb=>h3 ?_) (fun hb=>h1 ?_))<;>(clear h1 h3 K1 K3;(try have hb2:=yC hb);(try have hb2:=yD hb);(try have hb2:=yE hb);(try have hb2:=yF hb);(try have hb2:=yG hb)))|(refine fun (K2:_→AHeap→Prop) hK2=>?_)|((with_reducible refine zY ?_ ?_);decide)|((with_reducible first|refine zZ ?_ (fun K hK=>?_)|refine yA ?_ (fun K hK=>?_));(focus go_simp;done);go_simp;refine hK _ _ ?_;clear hK K)|(go_simp;(try go_bits);(try first | ((with_reducible show CallS _ _ _ _ _ _);refine CallS.mono (HW.out _ _ (Ext.push _)) ?_; rintro _ _ ⟨rfl, h9⟩; rw [h9]; clear h9));refine hK2 _ _ ?_;clear hK2 K2))
  exact ⟨rfl, (Ext.refl _).push' _⟩
theorem seen2_s {loops : List (Nat × LInfo)} {H : AHeap} {q : Nat} {dv : Value} {days : List Int} {a : Alt} (hq : q < H.n) (hc : cellAt H q 3 = some dv) (hdy : Ints H dv days) (h0 : 0 ≤ a.to) (h1 : a.to < days.length) : CallS Try.prog loops 75 (a.val :: #[Value.pointer (some ⟨q, 0, none⟩)].toList) H fun r H' => r = .bool (bef days a) ∧ H' = H := by
  refine CallS.forget (R := fun v => v = .bool (bef days a)) (by rintro v rfl; rfl) ?_
  have HW := Lib.hid (fun (loops : List (Nat × LInfo)) (H' : AHeap) (hx : Ext H H') => wasBefore_s (loops := loops) (hdy.ext hx) h0 h1)
  obtain ⟨hdl, da, dc, rfl⟩ := hdy.slice
  generalize bef days a = bb at HW
  obtain ⟨i1, i2, i3, i4, i5, i6⟩ := a
  clear hdy h0 h1
  refine CallS.enter' Try.func75 rfl Try.ntmps75 (by simp) fun f hd hf => ?_
  have f0 := hf 0
  have f1 := hf 1
  simp [Alt.val] at f0 f1
  clear hf
  repeat' (first|(with_reducible first|refine zA ?_|refine zB fun K hK=>?_|refine zC fun K2 hK2=>?_|refine zD ?_|refine zE ?_|refine zF ?_|refine zG ?_|refine zH ?_|refine zI ?_|refine zM ?_|refine zN ?_|refine zO ?_|refine zP ?_|refine zQ ?_|refine zR ?_)|((with_reducible refine zU (hK _ _ ?_));clear hK K)|((with_reducible refine zV ?_ ?_ fun K1 K3 d hdst h1 h3=>?_);rfl;exact yB rfl;cases hdst;go_simp)|((with_reducible refine zW fun K1 K3 h1 h3=>?_);go_simp)|((first|refine h1 ?_|refine h3 ?_);clear h1 h3 K1 K3)|((first|refine zX (fun hb=>h1 ?_) (fun hb=>h3 ?_)|refine zX (fun hb=>h3 ?_) (fun hb=>h1 ?_))<;>(clear h1 h3 K1 K3;(try have hb2:=yC hb);(try have hb2:=yD hb);(try have hb2:=yE hb);(try have hb2:=yF hb);(try have hb2:=yG hb)))|(refine fun (K2:_→AHeap→Prop) hK2=>?_)|((with_reducible refine zY ?_ ?_);decide)|((with_reducible first|refine zZ ?_ (fun K hK=>?_)|refine yA ?_ (fun K hK=>?_));(focus go_simp;done);go_simp;refine hK _ _ ?_;clear hK K)|(go_simp;(try go_bits);(try first | ((with_reducible show CallS _ _ _ _ _ _);refine CallS.mono (HW.out _ _ (Ext.push _)) ?_; rintro _ _ ⟨rfl, h9⟩; rw [h9]; clear h9));refine hK2 _ _ ?_;clear hK2 K2))
  exact ⟨rfl, (Ext.refl _).push' _⟩
theorem betw1_s {loops : List (Nat × LInfo)} {H : AHeap} {q p : Nat} {dv ev : Value} {days mays : List Int} {a : Alt} (hq : q < H.n) (hp : p < H.n) (hc : cellAt H q 3 = some dv) (hc2 : cellAt H p 2 = some ev) (hdy : Ints H dv days) (hey : Ints H ev mays) (h0 : 0 ≤ a.to) (h1 : a.to < days.length) (h2 : a.to < mays.length) : CallS Try.prog loops 81 (a.val :: #[Value.pointer (some ⟨q, 0, none⟩), Value.pointer (some ⟨p, 0, none⟩)].toList) H fun r H' => r = .bool (!bef days a && bef mays a) ∧ H' = H := by
  refine CallS.forget (R := fun v => v = .bool (!bef days a && bef mays a)) (by rintro v rfl; rfl) ?_
  have HW := Lib.hid (fun (loops : List (Nat × LInfo)) (H' : AHeap) (hx : Ext H H') => wasBefore_s (loops := loops) (hdy.ext hx) h0 h1)
  have HV := Lib.hid (fun (loops : List (Nat × LInfo)) (H' : AHeap) (hx : Ext H H') => wasBefore_s (loops := loops) (hey.ext hx) h0 h2)
  obtain ⟨hdl, da, dc, rfl⟩ := hdy.slice
  obtain ⟨hel, ea, ec, rfl⟩ := hey.slice
  generalize bef days a = bb at HW
  generalize bef mays a = cc at HV
  obtain ⟨i1, i2, i3, i4, i5, i6⟩ := a
  clear hdy hey h0 h1 h2
  refine CallS.enter' Try.func81 rfl Try.ntmps81 (by simp) fun f hd hf => ?_
  have f0 := hf 0
  have f1 := hf 1
  have f2 := hf 2
  simp [Alt.val] at f0 f1 f2
  clear hf
  repeat' (first|(with_reducible first|refine zA ?_|refine zB fun K hK=>?_|refine zC fun K2 hK2=>?_|refine zD ?_|refine zE ?_|refine zF ?_|refine zG ?_|refine zH ?_|refine zI ?_|refine zM ?_|refine zN ?_|refine zO ?_|refine zP ?_|refine zQ ?_|refine zR ?_)|((with_reducible refine zU (hK _ _ ?_));clear hK K)|((with_reducible refine zV ?_ ?_ fun K1 K3 d hdst h1 h3=>?_);rfl;exact yB rfl;cases hdst;go_simp)|((with_reducible refine zW fun K1 K3 h1 h3=>?_);go_simp)|((first|refine h1 ?_|refine h3 ?_);clear h1 h3 K1 K3)|((first|refine zX (fun hb=>h1 ?_) (fun hb=>h3 ?_)|refine zX (fun hb=>h3 ?_) (fun hb=>h1 ?_))<;>(clear h1 h3 K1 K3;(try have hb2:=yC hb);(try have hb2:=yD hb);(try have hb2:=yE hb);(try have hb2:=yF hb);(try have hb2:=yG hb)))|(refine fun (K2:_→AHeap→Prop) hK2=>?_)|((with_reducible refine zY ?_ ?_);decide)|((with_reducible first|refine zZ ?_ (fun K hK=>?_)|refine yA ?_ (fun K hK=>?_));(focus go_simp;done);go_simp;refine hK _ _ ?_;clear hK K)|(go_simp;(try go_bits);(try first |((with_reducible show CallS _ _ _ _ _ _);first|(refine CallS.mono (HW.out _ _ (Ext.push _)) ?_; rintro _ _ ⟨rfl, h9⟩; rw [h9]; clear h9)|(refine CallS.mono (HV.out _ _ (Ext.push _)) ?_; rintro _ _ ⟨rfl, h9⟩; rw [h9]; clear h9)));refine hK2 _ _ ?_;clear hK2 K2))
  all_goals (refine ⟨?_, (Ext.refl _).push' _⟩; simp_all)
theorem betw2_s {loops : List (Nat × LInfo)} {H : AHeap} {q p : Nat} {dv ev : Value} {days mays : List Int} {a : Alt} (hq : q < H.n) (hp : p < H.n) (hc : cellAt H q 2 = some dv) (hc2 : cellAt H p 3 = some ev) (hdy : Ints H dv days) (hey : Ints H ev mays) (h0 : 0 ≤ a.to) (h1 : a.to < days.length) (h2 : a.to < mays.length) : CallS Try.prog loops 82 (a.val :: #[Value.pointer (some ⟨q, 0, none⟩), Value.pointer (some ⟨p, 0, none⟩)].toList) H fun r H' => r = .bool (!bef days a && bef mays a) ∧ H' = H := by
  refine CallS.forget (R := fun v => v = .bool (!bef days a && bef mays a)) (by rintro v rfl; rfl) ?_
  have HW := Lib.hid (fun (loops : List (Nat × LInfo)) (H' : AHeap) (hx : Ext H H') => wasBefore_s (loops := loops) (hdy.ext hx) h0 h1)
  have HV := Lib.hid (fun (loops : List (Nat × LInfo)) (H' : AHeap) (hx : Ext H H') => wasBefore_s (loops := loops) (hey.ext hx) h0 h2)
  obtain ⟨hdl, da, dc, rfl⟩ := hdy.slice
  obtain ⟨hel, ea, ec, rfl⟩ := hey.slice
  generalize bef days a = bb at HW
  generalize bef mays a = cc at HV
  obtain ⟨i1, i2, i3, i4, i5, i6⟩ := a
  clear hdy hey h0 h1 h2
  refine CallS.enter' Try.func82 rfl Try.ntmps82 (by simp) fun f hd hf => ?_
  have f0 := hf 0
  have f1 := hf 1
  have f2 := hf 2
  simp [Alt.val] at f0 f1 f2
  clear hf
  repeat' (first|(with_reducible first|refine zA ?_|refine zB fun K hK=>?_|refine zC fun K2 hK2=>?_|refine zD ?_|refine zE ?_|refine zF ?_|refine zG ?_|refine zH ?_|refine zI ?_|refine zM ?_|refine zN ?_|refine zO ?_|refine zP ?_|refine zQ ?_|refine zR ?_)|((with_reducible refine zU (hK _ _ ?_));clear hK K)|((with_reducible refine zV ?_ ?_ fun K1 K3 d hdst h1 h3=>?_);rfl;exact yB rfl;cases hdst;go_simp)|((with_reducible refine zW fun K1 K3 h1 h3=>?_);go_simp)|((first|refine h1 ?_|refine h3 ?_);clear h1 h3 K1 K3)|((first|refine zX (fun hb=>h1 ?_) (fun hb=>h3 ?_)|refine zX (fun hb=>h3 ?_) (fun hb=>h1 ?_))<;>(clear h1 h3 K1 K3;(try have hb2:=yC hb);(try have hb2:=yD hb);(try have hb2:=yE hb);(try have hb2:=yF hb);(try have hb2:=yG hb)))|(refine fun (K2:_→AHeap→Prop) hK2=>?_)|((with_reducible refine zY ?_ ?_);decide)|((with_reducible first|refine zZ ?_ (fun K hK=>?_)|refine yA ?_ (fun K hK=>?_));(focus go_simp;done);go_simp;refine hK _ _ ?_;clear hK K)|(go_simp;(try go_bits);(try first |((with_reducible show CallS _ _ _ _ _ _);first|(refine CallS.mono (HW.out _ _ (Ext.push _)) ?_; rintro _ _ ⟨rfl, h9⟩; rw [h9]; clear h9)|(refine CallS.mono (HV.out _ _ (Ext.push _)) ?_; rintro _ _ ⟨rfl, h9⟩; rw [h9]; clear h9)));refine hK2 _ _ ?_;clear hK2 K2))
  all_goals (refine ⟨?_, (Ext.refl _).push' _⟩; simp_all)
end Go.Proofs.Try
namespace Go.Proofs.Try
open Go Go.Am Go.RowKit Go.Co
set_option maxRecDepth 100000

theorem errGo_all (n : Int) : ∀ (l : List Alt) (day : Int) (seen : List Int), errGo n day seen l = 0 → (∀ a, a ∈ l → a.right n = true) ∧ (l.map Alt.id).Nodup ∧ ∀ a, a ∈ l → ¬ a.id ∈ seen
  | [], _, _, _ => ⟨fun _ h => (by cases h), List.nodup_nil, fun _ h => (by cases h)⟩
  | a :: t, day, seen, h => by
    rw [errGo] at h
    split at h
    · cases h
    · rename_i h1
      split at h
      · cases h
      · rename_i h2
        obtain ⟨i1, i2, i3⟩ := errGo_all n t _ _ h
        refine ⟨fun b hb => ?_, ?_, fun b hb => ?_⟩
        · rcases List.mem_cons.1 hb with rfl | hb
          · simp at h1; exact h1.1
          · exact i1 b hb
        · rw [List.map_cons, List.nodup_cons]
          refine ⟨fun hm => ?_, i2⟩
          obtain ⟨b, hb, hbe⟩ := List.mem_map.1 hm
          exact i3 b hb (by rw [hbe]; simp)
        · rcases List.mem_cons.1 hb with rfl | hb
          · exact h2
          · intro hc; exact i3 b hb (by simp [hc])
theorem err_alts {s : Sheet} (h : err s = 0) : (∀ a, a ∈ s.alts → 0 ≤ a.frm ∧ a.frm ≤ a.to ∧ a.to < s.words.length ∧ 0 ≤ a.day ∧ a.day ≤ 730) ∧ (s.alts.map Alt.id).Nodup := by
  have hg : errGo s.words.length 0 [] s.alts = 0 := by
    unfold err at h
    split at h
    · cases h
    · split at h
      · cases h
      · exact h
  obtain ⟨h1, h2, -⟩ := errGo_all _ _ _ _ hg
  refine ⟨fun a ha => ?_, h2⟩
  have := h1 a ha
  simp only [Alt.right, Bool.and_eq_true, win_iff] at this
  omega

def sureL (s : Sheet) (c : Copy) : List Int := if errExt s c = 0 then idsL s (bef (firstL s c)) else []
def maybeL (s : Sheet) (c : Copy) : List Int := if errExt s c = 0 then idsL s (bef (lastL s c)) else []
theorem ids_own {H : AHeap} {bs : Nat} {v : Value} {s : Sheet} {acc : Alt → Bool} (h : Own H bs v 3 1 ((idsL s acc).map (Value.int .i64))) (hn : s.alts.length ≤ 12) : Ints H v (idsL s acc) :=
  ints_of_own h (by
    have := List.length_filter_le acc s.alts
    rw [idsL, sortL_len, List.length_map]; omega)
theorem ints_nil (H : AHeap) : Ints H (.slice none 0 0) [] := ⟨rfl, by simp, none, 0, rfl, by simp⟩

set_option maxHeartbeats 2000000 in
theorem seen_e {loops : List (Nat × LInfo)} {H : AHeap} {sv cv : Value} {s : Sheet} {c : Copy} (hs : SheetV H sv s) (hc : CopyV H cv c) (hn : errExt s c = 0 → s.alts.length ≤ 12) : CallS Try.prog loops 31 [sv, cv] H fun r H' => (∃ av bv, r = .tuple #[av, bv, .int .i64 (errExt s c)] ∧ Ints H' av (sureL s c) ∧ Ints H' bv (maybeL s c)) ∧ Ext H H' := by
  have HS := Lib.hid hs
  have HC := Lib.hid hc
  obtain ⟨wv, av, rfl, hw, ha⟩ := hs
  obtain ⟨hwl, wa, wc, rfl⟩ := hw.slice
  obtain ⟨hal, aa, ac, rfl⟩ := ha.slice
  obtain ⟨cv, rfl, hcw⟩ := hc
  obtain ⟨hcl, ca, cc, rfl⟩ := hcw.slice
  clear hw ha hcw
  have HE := Lib.hid (fun (loops : List (Nat × LInfo)) (H' : AHeap) (hx : Ext H H') => extentOf_x (loops := loops) (HS.out.ext hx) (HC.out.ext hx))
  have HSL : Hid (sureL s c = if errExt s c = 0 then idsL s (bef (firstL s c)) else []) := Lib.hid rfl
  have HML : Hid (maybeL s c = if errExt s c = 0 then idsL s (bef (lastL s c)) else []) := Lib.hid rfl
  have HB : Hid (errExt s c = 0 → ∀ a, a ∈ s.alts → 0 ≤ a.to ∧ a.to < (firstL s c).length ∧ a.to < (lastL s c).length) := Lib.hid (fun h a ha => by
    obtain ⟨g1, -, -, -, g2, g3, -⟩ := ends_n h
    have := (err_alts (errCopy_ok g1).1).1 a ha
    rw [g2, g3]; omega)
  have HI := Lib.hid (fun (loops : List (Nat × LInfo)) (H' : AHeap) (hx : Ext H H') (h12 : s.alts.length ≤ 12) (g : FuncId) (caps : Array Value) (acc : Alt → Bool) (hok : okFn Try.prog g = true) (hacc : ∀ (loops : List (Nat × LInfo)) (H2 : AHeap) (a : Alt), Ext H' H2 → a ∈ s.alts → CallS Try.prog loops g (a.val :: caps.toList) H2 fun r H'' => r = .bool (acc a) ∧ H'' = H2) => idsOf_o (loops := loops) (HS.out.ext hx) h12 hok hacc)
  have HN := Lib.hid hn
  clear hn
  generalize sureL s c = S1 at HSL
  generalize maybeL s c = S2 at HML
  generalize errExt s c = er at HE HSL HML HB HN
  have HX1 : Hid (Ext H ((H.push (.row [Value.slice wa s.words.length wc, Value.slice aa s.alts.length ac] 25)).push (.row [Value.slice ca c.words.length cc, .int .i64 c.beg, .int .i64 c.fin, .int .i64 c.per] 27))) := Lib.hid (((Ext.refl _).push' _).push' _)
  have ok73 : okFn Try.prog 73 = true := by kernel_rfl
  have ok75 : okFn Try.prog 75 = true := by kernel_rfl
  refine CallS.enter' Try.func31 rfl Try.ntmps31 (by simp) fun f hd hf => ?_
  have f0 := hf 0
  have f1 := hf 1
  simp at f0 f1
  clear hf
  repeat' (first|(with_reducible first|refine zA ?_|refine zB fun K hK=>?_|refine zC fun K2 hK2=>?_|refine zD ?_|refine zE ?_|refine zF ?_|refine zG ?_|refine zH ?_|refine zI ?_|refine zM ?_|refine zN ?_|refine zO ?_|refine zP ?_|refine zQ ?_|refine zR ?_)|((with_reducible refine zU (hK _ _ ?_));clear hK K)|((with_reducible refine zV ?_ ?_ fun K1 K3 d hdst h1 h3=>?_);rfl;exact yB rfl;cases hdst;go_simp)|((with_reducible refine zW fun K1 K3 h1 h3=>?_);go_simp)|((first|refine h1 ?_|refine h3 ?_);clear h1 h3 K1 K3)|((first|refine zX (fun hb=>h1 ?_) (fun hb=>h3 ?_)|refine zX (fun hb=>h3 ?_) (fun hb=>h1 ?_))<;>(clear h1 h3 K1 K3;(try have hb2:=yC hb);(try have hb2:=yD hb);(try have hb2:=yE hb);(try have hb2:=yF hb);(try have hb2:=yG hb)))|(refine fun (K2:_→AHeap→Prop) hK2=>?_)|((with_reducible refine zY ?_ ?_);decide)|((with_reducible first|refine zZ ?_ (fun K hK=>?_)|refine yA ?_ (fun K hK=>?_));(focus go_simp;done);go_simp;refine hK _ _ ?_;clear hK K)|(go_simp;(try go_bits);(try first | ((with_reducible show CallS _ _ _ _ _ _);refine CallS.mono (HE.out _ _ HX1.out) ?_; rintro _ H1 ⟨⟨ev, rfl, hev⟩, hx⟩; (obtain ⟨oa, on, oc, pi, fa, fn, la, ln, rfl, hi1, hi2⟩ := hev); (have HI1 := Lib.hid hi1); (have HI2 := Lib.hid hi2); (have HX2 := Lib.hid (HX1.out.trans hx)); (have hn1 : H.n < H1.n := by have := hx.n; simp only [AHeap.n_push] at this; omega); (have hc01 : cellsAt H1 H.n 0 2 = some [Value.slice wa s.words.length wc, Value.slice aa s.alts.length ac] := by rw [hx.cellsAt (by simp only [AHeap.n_push]; omega), cellsAt_push, if_neg (by simp only [AHeap.n_push]; omega), cellsAt_push, if_pos rfl]; rfl); clear hi1 hi2 hx));refine hK2 _ _ ?_;clear hK2 K2))
  · have hz : ¬ er = 0 := by simpa using hb
    refine ⟨⟨_, _, rfl, ?_, ?_⟩, HX2.out.push' _⟩
    · rw [HSL.out, if_neg hz]; exact ints_nil _
    · rw [HML.out, if_neg hz]; exact ints_nil _
  have hz : er = 0 := by simpa using hb
  have h12 := HN.out hz
  have hI1 : Ints H1 (.slice fa fn fn) (firstL s c) := ints_of_own HI1.out (ends_len s c).1
  have hI2 : Ints H1 (.slice la ln ln) (lastL s c) := ints_of_own HI2.out (ends_len s c).2
  have HC1 := Lib.hid (fun (loops : List (Nat × LInfo)) (H3 : AHeap) (hx3 : Ext (H1.push (.row [.slice oa on oc, .int .i64 pi, .slice fa fn fn, .slice la ln ln] 120)) H3) => HI.out loops H3 ((HX2.out.push' _).trans hx3) h12 73 #[.pointer (some ⟨H1.n, 0, none⟩)] (bef (firstL s c)) ok73 (fun loops H2 a hx ha => seen1_s (by have h1 := hx3.n; have h2 := hx.n; rw [AHeap.n_push] at h1; omega) (by have h1 := hx3.n; rw [AHeap.n_push] at h1; rw [hx.cellAt (by omega), hx3.cellAt (by rw [AHeap.n_push]; omega), cellAt_new]; rfl) (((hI1.ext (Ext.push _)).ext hx3).ext hx) (HB.out hz a ha).1 (HB.out hz a ha).2.1))
  have HC2 := Lib.hid (fun (loops : List (Nat × LInfo)) (H3 : AHeap) (hx3 : Ext (H1.push (.row [.slice oa on oc, .int .i64 pi, .slice fa fn fn, .slice la ln ln] 120)) H3) => HI.out loops H3 ((HX2.out.push' _).trans hx3) h12 75 #[.pointer (some ⟨H1.n, 0, none⟩)] (bef (lastL s c)) ok75 (fun loops H2 a hx ha => seen2_s (by have h1 := hx3.n; have h2 := hx.n; rw [AHeap.n_push] at h1; omega) (by have h1 := hx3.n; rw [AHeap.n_push] at h1; rw [hx.cellAt (by omega), hx3.cellAt (by rw [AHeap.n_push]; omega), cellAt_new]; rfl) (((hI2.ext (Ext.push _)).ext hx3).ext hx) (HB.out hz a ha).1 (HB.out hz a ha).2.2))
  rw [if_pos hz] at HSL HML
  have HO1 := Lib.hid (fun (H' : AHeap) (bs : Nat) (v : Value) (h : Own H' bs v 3 1 ((idsL s (bef (firstL s c))).map (Value.int .i64))) => ids_own h h12)
  have HO2 := Lib.hid (fun (H' : AHeap) (bs : Nat) (v : Value) (h : Own H' bs v 3 1 ((idsL s (bef (lastL s c))).map (Value.int .i64))) => ids_own h h12)
  generalize idsL s (bef (firstL s c)) = I1 at HSL HC1 HO1
  generalize idsL s (bef (lastL s c)) = I2 at HML HC2 HO2
  have hnz : er = 0 := hz
  clear hI1 hI2 HI HE HB HN hb
  repeat' (first|(with_reducible first|refine zA ?_|refine zB fun K hK=>?_|refine zC fun K2 hK2=>?_|refine zD ?_|refine zE ?_|refine zF ?_|refine zG ?_|refine zH ?_|refine zI ?_|refine zM ?_|refine zN ?_|refine zO ?_|refine zP ?_|refine zQ ?_|refine zR ?_)|((with_reducible refine zU (hK _ _ ?_));clear hK K)|((with_reducible refine zV ?_ ?_ fun K1 K3 d hdst h1 h3=>?_);rfl;exact yB rfl;cases hdst;go_simp)|((with_reducible refine zW fun K1 K3 h1 h3=>?_);go_simp)|((first|refine h1 ?_|refine h3 ?_);clear h1 h3 K1 K3)|((first|refine zX (fun hb=>h1 ?_) (fun hb=>h3 ?_)|refine zX (fun hb=>h3 ?_) (fun hb=>h1 ?_))<;>(clear h1 h3 K1 K3;(try have hb2:=yC hb);(try have hb2:=yD hb);(try have hb2:=yE hb);(try have hb2:=yF hb);(try have hb2:=yG hb)))|(refine fun (K2:_→AHeap→Prop) hK2=>?_)|((with_reducible refine zY ?_ ?_);decide)|((with_reducible first|refine zZ ?_ (fun K hK=>?_)|refine yA ?_ (fun K hK=>?_));(focus go_simp;done);go_simp;refine hK _ _ ?_;clear hK K)|(go_simp;(try go_bits);(try first |((with_reducible show CallS _ _ _ _ _ _);first|(refine CallS.mono (HC1.out _ _ (Ext.refl _)) ?_; rintro v1 H2 ⟨ho, hx⟩; (have HV1 := Lib.hid (HO1.out _ _ _ ho)); (have HX3 := Lib.hid hx); (have hc02 : cellsAt H2 H.n 0 2 = some [Value.slice wa s.words.length wc, Value.slice aa s.alts.length ac] := by rw [hx.cellsAt (by rw [AHeap.n_push]; omega), cellsAt_push, if_neg (by omega)]; exact hc01); (have hn2 : H1.n < H2.n := by have := hx.n; rw [AHeap.n_push] at this; omega); clear ho hx)|(refine CallS.mono (HC2.out _ _ HX3.out) ?_; rintro v2 H3 ⟨ho, hx⟩; (have HV2 := Lib.hid (HO2.out _ _ _ ho)); (have HV12 := Lib.hid (HV1.out.ext hx)); (have HX4 := Lib.hid (HX3.out.trans hx)); clear ho hx)));refine hK2 _ _ ?_;clear hK2 K2))
  refine ⟨⟨_, _, by rw [hnz], ?_, ?_⟩, (HX2.out.push' _).trans HX4.out⟩
  · rw [HSL.out]; exact HV12.out
  · rw [HML.out]; exact HV2.out

def bSure (s : Sheet) (c d : Copy) : List Int := if errExts s c d = 0 then idsL s (fun a => !bef (lastL s c) a && bef (firstL s d) a) else []
def bMay (s : Sheet) (c d : Copy) : List Int := if errExts s c d = 0 then idsL s (fun a => !bef (firstL s c) a && bef (lastL s d) a) else []
set_option maxHeartbeats 2000000 in
theorem between_e {loops : List (Nat × LInfo)} {H : AHeap} {sv cv dv : Value} {s : Sheet} {c d : Copy} (hs : SheetV H sv s) (hc : CopyV H cv c) (hdv : CopyV H dv d) (hn : errExts s c d = 0 → s.alts.length ≤ 12) : CallS Try.prog loops 33 [sv, cv, dv] H fun r H' => (∃ av bv, r = .tuple #[av, bv, .int .i64 (errExts s c d)] ∧ Ints H' av (bSure s c d) ∧ Ints H' bv (bMay s c d)) ∧ Ext H H' := by
  have HS := Lib.hid hs
  have HC := Lib.hid hc
  have HD := Lib.hid hdv
  obtain ⟨wv, av, rfl, hw, ha⟩ := hs
  obtain ⟨hwl, wa, wc, rfl⟩ := hw.slice
  obtain ⟨hal, aa, ac, rfl⟩ := ha.slice
  obtain ⟨cv, rfl, hcw⟩ := hc
  obtain ⟨hcl, ca, cc, rfl⟩ := hcw.slice
  obtain ⟨dv, rfl, hdw⟩ := hdv
  obtain ⟨hdl, da, dc, rfl⟩ := hdw.slice
  clear hw ha hcw hdw
  have HE := Lib.hid (fun (loops : List (Nat × LInfo)) (H' : AHeap) (hx : Ext H H') => extentsOf_x (loops := loops) (HS.out.ext hx) (HC.out.ext hx) (HD.out.ext hx))
  have HSL : Hid (bSure s c d = if errExts s c d = 0 then idsL s (fun a => !bef (lastL s c) a && bef (firstL s d) a) else []) := Lib.hid rfl
  have HML : Hid (bMay s c d = if errExts s c d = 0 then idsL s (fun a => !bef (firstL s c) a && bef (lastL s d) a) else []) := Lib.hid rfl
  have HB : Hid (errExts s c d = 0 → ∀ a, a ∈ s.alts → 0 ≤ a.to ∧ a.to < (firstL s c).length ∧ a.to < (lastL s c).length ∧ a.to < (firstL s d).length ∧ a.to < (lastL s d).length) := Lib.hid (fun h a ha => by
    obtain ⟨h1, h2⟩ := errExts_ok h
    obtain ⟨g1, -, -, -, g2, g3, -⟩ := ends_n h1
    obtain ⟨-, -, -, -, g4, g5, -⟩ := ends_n h2
    have := (err_alts (errCopy_ok g1).1).1 a ha
    rw [g2, g3, g4, g5]; omega)
  have HI := Lib.hid (fun (loops : List (Nat × LInfo)) (H' : AHeap) (hx : Ext H H') (h12 : s.alts.length ≤ 12) (g : FuncId) (caps : Array Value) (acc : Alt → Bool) (hok : okFn Try.prog g = true) (hacc : ∀ (loops : List (Nat × LInfo)) (H2 : AHeap) (a : Alt), Ext H' H2 → a ∈ s.alts → CallS Try.prog loops g (a.val :: caps.toList) H2 fun r H'' => r = .bool (acc a) ∧ H'' = H2) => idsOf_o (loops := loops) (HS.out.ext hx) h12 hok hacc)
  have HN := Lib.hid hn
  clear hn
  generalize bSure s c d = S1 at HSL
  generalize bMay s c d = S2 at HML
  generalize errExts s c d = er at HE HSL HML HB HN
  have HX1 : Hid (Ext H (((H.push (.row [Value.slice wa s.words.length wc, Value.slice aa s.alts.length ac] 25)).push (.row [Value.slice ca c.words.length cc, .int .i64 c.beg, .int .i64 c.fin, .int .i64 c.per] 27)).push (.row [Value.slice da d.words.length dc, .int .i64 d.beg, .int .i64 d.fin, .int .i64 d.per] 27))) := Lib.hid ((((Ext.refl _).push' _).push' _).push' _)
  have ok81 : okFn Try.prog 81 = true := by kernel_rfl
  have ok82 : okFn Try.prog 82 = true := by kernel_rfl
  refine CallS.enter' Try.func33 rfl Try.ntmps33 (by simp) fun f hd hf => ?_
  have f0 := hf 0
  have f1 := hf 1
  have f2 := hf 2
  simp at f0 f1 f2
  clear hf
  repeat' (first|(with_reducible first|refine zA ?_|refine zB fun K hK=>?_|refine zC fun K2 hK2=>?_|refine zD ?_|refine zE ?_|refine zF ?_|refine zG ?_|refine zH ?_|refine zI ?_|refine zM ?_|refine zN ?_|refine zO ?_|refine zP ?_|refine zQ ?_|refine zR ?_)|((with_reducible refine zU (hK _ _ ?_));clear hK K)|((with_reducible refine zV ?_ ?_ fun K1 K3 d hdst h1 h3=>?_);rfl;exact yB rfl;cases hdst;go_simp)|((with_reducible refine zW fun K1 K3 h1 h3=>?_);go_simp)|((first|refine h1 ?_|refine h3 ?_);clear h1 h3 K1 K3)|((first|refine zX (fun hb=>h1 ?_) (fun hb=>h3 ?_)|refine zX (fun hb=>h3 ?_) (fun hb=>h1 ?_))<;>(clear h1 h3 K1 K3;(try have hb2:=yC hb);(try have hb2:=yD hb);(try have hb2:=yE hb);(try have hb2:=yF hb);(try have hb2:=yG hb)))|(refine fun (K2:_→AHeap→Prop) hK2=>?_)|((with_reducible refine zY ?_ ?_);decide)|((with_reducible first|refine zZ ?_ (fun K hK=>?_)|refine yA ?_ (fun K hK=>?_));(focus go_simp;done);go_simp;refine hK _ _ ?_;clear hK K)|(go_simp;(try go_bits);(try first | ((with_reducible show CallS _ _ _ _ _ _);refine CallS.mono (HE.out _ _ HX1.out) ?_; rintro _ H1 ⟨⟨oa, on, oc, pi, fa, fn, la, ln, oa', on', oc', pi', fa', fn', la', ln', rfl, hres⟩, hx⟩; (have HR := Lib.hid hres); (have HX2 := Lib.hid (HX1.out.trans hx)); (have hn1 : H.n < H1.n := by have := hx.n; simp only [AHeap.n_push] at this; omega); (have hc01 : cellsAt H1 H.n 0 2 = some [Value.slice wa s.words.length wc, Value.slice aa s.alts.length ac] := by rw [hx.cellsAt (by simp only [AHeap.n_push]; omega), cellsAt_push, if_neg (by simp only [AHeap.n_push]; omega), cellsAt_push, if_neg (by simp only [AHeap.n_push]; omega), cellsAt_push, if_pos rfl]; rfl); clear hres hx));refine hK2 _ _ ?_;clear hK2 K2))
  · have hz : ¬ er = 0 := by simpa using hb
    refine ⟨⟨_, _, rfl, ?_, ?_⟩, (HX2.out.push' _).push' _⟩
    · rw [HSL.out, if_neg hz]; exact ints_nil _
    · rw [HML.out, if_neg hz]; exact ints_nil _
  have hz : er = 0 := by simpa using hb
  have h12 := HN.out hz
  obtain ⟨o1, o2, o3, o4⟩ := HR.out hz
  have hI1 : Ints H1 (.slice fa fn fn) (firstL s c) := ints_of_own o1 (ends_len s c).1
  have hI2 : Ints H1 (.slice la ln ln) (lastL s c) := ints_of_own o2 (ends_len s c).2
  have hI3 : Ints H1 (.slice fa' fn' fn') (firstL s d) := ints_of_own o3 (ends_len s d).1
  have hI4 : Ints H1 (.slice la' ln' ln') (lastL s d) := ints_of_own o4 (ends_len s d).2
  have HC1 := Lib.hid (fun (loops : List (Nat × LInfo)) (H3 : AHeap) (hx3 : Ext ((H1.push (.row [.slice oa on oc, .int .i64 pi, .slice fa fn fn, .slice la ln ln] 120)).push (.row [.slice oa' on' oc', .int .i64 pi', .slice fa' fn' fn', .slice la' ln' ln'] 120)) H3) => HI.out loops H3 (((HX2.out.push' _).push' _).trans hx3) h12 81 #[.pointer (some ⟨H1.n, 0, none⟩), .pointer (some ⟨H1.n + 1, 0, none⟩)] (fun a => !bef (lastL s c) a && bef (firstL s d) a) ok81 (fun loops H2 a hx ha => betw1_s (by have h1 := hx3.n; have h2 := hx.n; simp only [AHeap.n_push] at h1; omega) (by have h1 := hx3.n; have h2 := hx.n; simp only [AHeap.n_push] at h1; omega) (by have h1 := hx3.n; simp only [AHeap.n_push] at h1; rw [hx.cellAt (by omega), hx3.cellAt (by simp only [AHeap.n_push]; omega), cellAt_push, if_neg (by rw [AHeap.n_push]; omega), cellAt_new]; rfl) (by have h1 := hx3.n; simp only [AHeap.n_push] at h1; rw [hx.cellAt (by omega), hx3.cellAt (by simp only [AHeap.n_push]; omega), cellAt_push, if_pos (by rw [AHeap.n_push])]; rfl) ((((hI2.ext (Ext.push _)).ext (Ext.push _)).ext hx3).ext hx) ((((hI3.ext (Ext.push _)).ext (Ext.push _)).ext hx3).ext hx) (HB.out hz a ha).1 (HB.out hz a ha).2.2.1 (HB.out hz a ha).2.2.2.1))
  have HC2 := Lib.hid (fun (loops : List (Nat × LInfo)) (H3 : AHeap) (hx3 : Ext ((H1.push (.row [.slice oa on oc, .int .i64 pi, .slice fa fn fn, .slice la ln ln] 120)).push (.row [.slice oa' on' oc', .int .i64 pi', .slice fa' fn' fn', .slice la' ln' ln'] 120)) H3) => HI.out loops H3 (((HX2.out.push' _).push' _).trans hx3) h12 82 #[.pointer (some ⟨H1.n, 0, none⟩), .pointer (some ⟨H1.n + 1, 0, none⟩)] (fun a => !bef (firstL s c) a && bef (lastL s d) a) ok82 (fun loops H2 a hx ha => betw2_s (by have h1 := hx3.n; have h2 := hx.n; simp only [AHeap.n_push] at h1; omega) (by have h1 := hx3.n; have h2 := hx.n; simp only [AHeap.n_push] at h1; omega) (by have h1 := hx3.n; simp only [AHeap.n_push] at h1; rw [hx.cellAt (by omega), hx3.cellAt (by simp only [AHeap.n_push]; omega), cellAt_push, if_neg (by rw [AHeap.n_push]; omega), cellAt_new]; rfl) (by have h1 := hx3.n; simp only [AHeap.n_push] at h1; rw [hx.cellAt (by omega), hx3.cellAt (by simp only [AHeap.n_push]; omega), cellAt_push, if_pos (by rw [AHeap.n_push])]; rfl) ((((hI1.ext (Ext.push _)).ext (Ext.push _)).ext hx3).ext hx) ((((hI4.ext (Ext.push _)).ext (Ext.push _)).ext hx3).ext hx) (HB.out hz a ha).1 (HB.out hz a ha).2.1 (HB.out hz a ha).2.2.2.2))
  rw [if_pos hz] at HSL HML
  have HO1 := Lib.hid (fun (H' : AHeap) (bs : Nat) (v : Value) (h : Own H' bs v 3 1 ((idsL s (fun a => !bef (lastL s c) a && bef (firstL s d) a)).map (Value.int .i64))) => ids_own h h12)
  have HO2 := Lib.hid (fun (H' : AHeap) (bs : Nat) (v : Value) (h : Own H' bs v 3 1 ((idsL s (fun a => !bef (firstL s c) a && bef (lastL s d) a)).map (Value.int .i64))) => ids_own h h12)
  generalize idsL s (fun a => !bef (lastL s c) a && bef (firstL s d) a) = I1 at HSL HC1 HO1
  generalize idsL s (fun a => !bef (firstL s c) a && bef (lastL s d) a) = I2 at HML HC2 HO2
  have hnz : er = 0 := hz
  clear hI1 hI2 hI3 hI4 HI HE HB HN HR o1 o2 o3 o4 hb
  repeat' (first|(with_reducible first|refine zA ?_|refine zB fun K hK=>?_|refine zC fun K2 hK2=>?_|refine zD ?_|refine zE ?_|refine zF ?_|refine zG ?_|refine zH ?_|refine zI ?_|refine zM ?_|refine zN ?_|refine zO ?_|refine zP ?_|refine zQ ?_|refine zR ?_)|((with_reducible refine zU (hK _ _ ?_));clear hK K)|((with_reducible refine zV ?_ ?_ fun K1 K3 d hdst h1 h3=>?_);rfl;exact yB rfl;cases hdst;go_simp)|((with_reducible refine zW fun K1 K3 h1 h3=>?_);go_simp)|((first|refine h1 ?_|refine h3 ?_);clear h1 h3 K1 K3)|((first|refine zX (fun hb=>h1 ?_) (fun hb=>h3 ?_)|refine zX (fun hb=>h3 ?_) (fun hb=>h1 ?_))<;>(clear h1 h3 K1 K3;(try have hb2:=yC hb);(try have hb2:=yD hb);(try have hb2:=yE hb);(try have hb2:=yF hb);(try have hb2:=yG hb)))|(refine fun (K2:_→AHeap→Prop) hK2=>?_)|((with_reducible refine zY ?_ ?_);decide)|((with_reducible first|refine zZ ?_ (fun K hK=>?_)|refine yA ?_ (fun K hK=>?_));(focus go_simp;done);go_simp;refine hK _ _ ?_;clear hK K)|(go_simp;(try go_bits);(try first |((with_reducible show CallS _ _ _ _ _ _);first|(refine CallS.mono (HC1.out _ _ (Ext.refl _)) ?_; rintro v1 H2 ⟨ho, hx⟩; (have HV1 := Lib.hid (HO1.out _ _ _ ho)); (have HX3 := Lib.hid hx); (have hc02 : cellsAt H2 H.n 0 2 = some [Value.slice wa s.words.length wc, Value.slice aa s.alts.length ac] := by rw [hx.cellsAt (by simp only [AHeap.n_push]; omega), cellsAt_push, if_neg (by simp only [AHeap.n_push]; omega), cellsAt_push, if_neg (by omega)]; exact hc01); (have hn2 : H1.n < H2.n := by have := hx.n; simp only [AHeap.n_push] at this; omega); clear ho hx)|(refine CallS.mono (HC2.out _ _ HX3.out) ?_; rintro v2 H3 ⟨ho, hx⟩; (have HV2 := Lib.hid (HO2.out _ _ _ ho)); (have HV12 := Lib.hid (HV1.out.ext hx)); (have HX4 := Lib.hid (HX3.out.trans hx)); clear ho hx)));refine hK2 _ _ ?_;clear hK2 K2))
  refine ⟨⟨_, _, by rw [hnz], ?_, ?_⟩, ((HX2.out.push' _).push' _).trans HX4.out⟩
  · rw [HSL.out]; exact HV12.out
  · rw [HML.out]; exact HV2.out
end Go.Proofs.Try
namespace Go.Proofs.Try
open Go Go.Am Go.RowKit Go.Co
set_option maxRecDepth 100000

def idsT (s : Sheet) (acc : Alt → Bool) (k : Nat) : List Int := sortL (((s.alts.take k).filter acc).map Alt.id)
theorem idsT_len (s : Sheet) (acc : Alt → Bool) (k : Nat) : (idsT s acc k).length ≤ k := by
  rw [idsT, sortL_len, List.length_map]
  have h1 := List.length_filter_le acc (s.alts.take k)
  rw [List.length_take] at h1
  omega
theorem idsT_succ {s : Sheet} {acc : Alt → Bool} {k : Nat} (h : k < s.alts.length) : idsT s acc (k + 1) = if acc s.alts[k] then insL (idsT s acc k) s.alts[k].id else idsT s acc k := by
  rw [idsT, List.take_succ_eq_append_getElem h, List.filter_append, List.map_append]
  cases hc : acc s.alts[k]
  · simp [List.filter, hc, idsT]
  · rw [if_pos rfl, idsT, ← sortL_snoc]; simp [List.filter, hc]
theorem idsT_all (s : Sheet) (acc : Alt → Bool) : idsT s acc s.alts.length = idsL s acc := by rw [idsT, List.take_length]; rfl

set_option maxHeartbeats 8000000 in
theorem refSeen_e {loops : List (Nat × LInfo)} {H : AHeap} {sv cv : Value} {s : Sheet} {c : Copy} (hs : SheetV H sv s) (hc : CopyV H cv c) : CallS Try.prog loops 32 [sv, cv] H fun r H' => (∃ av bv, r = .agg #[av, bv, .int .i64 (errExt s c)] ∧ Ints H' av (sureL s c) ∧ Ints H' bv (maybeL s c)) ∧ Ext H H' := by
  have HV := Lib.hid hs
  have HC := Lib.hid hc
  obtain ⟨wv, av, rfl, hw, ha⟩ := hs
  obtain ⟨hwl, wa, wc, rfl⟩ := hw.slice
  obtain ⟨hal, aa, ac, rfl⟩ := ha.slice
  have HA := Lib.hid ha
  obtain ⟨cv, rfl, hcw⟩ := hc
  obtain ⟨hcl, ca, cc, rfl⟩ := hcw.slice
  clear hw ha hcw
  have HE1 := Lib.hid (fun (loops : List (Nat × LInfo)) (H' : AHeap) (hx : Ext H H') => copied_s (loops := loops) (HV.out.ext hx) (HC.out.ext hx))
  have hee : errCopied s c = errExt s c := rfl
  rw [hee] at HE1
  clear hee
  have HF1 := Lib.hid (fun (loops : List (Nat × LInfo)) (H' : AHeap) (hx : Ext H H') (h : errExt s c = 0) => (ends_n h).2.2.1 ▸ refFirst_e (loops := loops) (HV.out.ext hx) (HC.out.ext hx) (ends_n h).1)
  have HL1 := Lib.hid (fun (loops : List (Nat × LInfo)) (H' : AHeap) (hx : Ext H H') (h : errExt s c = 0) => (ends_n h).2.2.2.1 ▸ refLast_e (loops := loops) (HV.out.ext hx) (HC.out.ext hx) (ends_n h).1 (ends_n h).2.1)
  have HOK : Hid (errExt s c = 0 → s.alts.length ≤ 40 ∧ (firstL s c).length ≤ 40 ∧ (lastL s c).length ≤ 40 ∧ ∀ a, a ∈ s.alts → 0 ≤ a.to ∧ a.to < (firstL s c).length ∧ a.to < (lastL s c).length) := Lib.hid (fun h => by
    obtain ⟨g1, -, -, -, g2, g3, -, g4⟩ := ends_n h
    refine ⟨(err_ok (errCopy_ok g1).1).2.2.2, by omega, by omega, fun a ha => ?_⟩
    have := (err_alts (errCopy_ok g1).1).1 a ha
    rw [g2, g3]; omega)
  have HSL : Hid (sureL s c = if errExt s c = 0 then idsL s (bef (firstL s c)) else []) := Lib.hid rfl
  have HML : Hid (maybeL s c = if errExt s c = 0 then idsL s (bef (lastL s c)) else []) := Lib.hid rfl
  generalize sureL s c = S1 at HSL
  generalize maybeL s c = S2 at HML
  generalize errExt s c = er at HE1 HF1 HL1 HOK HSL HML
  generalize firstL s c = F1 at HF1 HOK HSL
  generalize lastL s c = L1 at HL1 HOK HML
  have HX1 : Hid (Ext H (((H.push (.row [Value.slice wa s.words.length wc, Value.slice aa s.alts.length ac] 25)).push (.row [Value.slice ca c.words.length cc, .int .i64 c.beg, .int .i64 c.fin, .int .i64 c.per] 27)).push (.row [Value.slice none 0 0, Value.slice none 0 0, .int .i64 0] 51))) := Lib.hid ((((Ext.refl _).push' _).push' _).push' _)
  have HCELLS : Hid (∀ H' : AHeap, Ext (((H.push (.row [Value.slice wa s.words.length wc, Value.slice aa s.alts.length ac] 25)).push (.row [Value.slice ca c.words.length cc, .int .i64 c.beg, .int .i64 c.fin, .int .i64 c.per] 27)).push (.row [Value.slice none 0 0, Value.slice none 0 0, .int .i64 0] 51)) H' → cellsAt H' H.n 0 2 = some [Value.slice wa s.words.length wc, Value.slice aa s.alts.length ac] ∧ cellsAt H' (H.n + 1) 0 4 = some [Value.slice ca c.words.length cc, .int .i64 c.beg, .int .i64 c.fin, .int .i64 c.per] ∧ H'.get (H.n + 1 + 1) = .row [Value.slice none 0 0, Value.slice none 0 0, .int .i64 0] 51 ∧ H.n + 1 + 1 < H'.n ∧ cellAt H' H.n 1 = some (Value.slice aa s.alts.length ac)) := Lib.hid (fun H' hx => by
    refine ⟨?_, ?_, ?_, ?_, ?_⟩
    · rw [hx.cellsAt (by simp only [AHeap.n_push]; omega), cellsAt_push, if_neg (by simp only [AHeap.n_push]; omega), cellsAt_push, if_neg (by simp only [AHeap.n_push]; omega), cellsAt_push, if_pos rfl]; rfl
    · rw [hx.cellsAt (by simp only [AHeap.n_push]; omega), cellsAt_push, if_neg (by simp only [AHeap.n_push]; omega), cellsAt_push, if_pos (by simp only [AHeap.n_push])]; rfl
    · rw [hx.get _ (by simp only [AHeap.n_push]; omega), get_at (by simp only [AHeap.n_push])]
    · have := hx.n; simp only [AHeap.n_push] at this; omega
    · rw [hx.cellAt (by simp only [AHeap.n_push]; omega), cellAt_push, if_neg (by simp only [AHeap.n_push]; omega), cellAt_push, if_neg (by simp only [AHeap.n_push]; omega), cellAt_push, if_pos rfl]; rfl)
  refine CallS.enter' Try.func32 rfl Try.ntmps32 (by simp) fun f hd hf => ?_
  have f0 := hf 0
  have f1 := hf 1
  simp at f0 f1
  clear hf
  by_cases her : er = 0
  · obtain ⟨h40, hF40, hL40, hto⟩ := HOK.out her
    have HTO := Lib.hid hto
    have HER := Lib.hid her
    rw [if_pos her] at HSL HML
    clear hto HOK
    have hez : (er != 0) = false := by rw [her]; rfl
    repeat' (first|(with_reducible first|refine zA ?_|refine zB fun K hK=>?_|refine zC fun K2 hK2=>?_|refine zD ?_|refine zE ?_|refine zF ?_|refine zG ?_|refine zH ?_|refine zI ?_|refine zM ?_|refine zN ?_|refine zO ?_|refine zP ?_|refine zQ ?_|refine zR ?_)|((with_reducible refine zU (hK _ _ ?_));clear hK K)|((with_reducible refine zV ?_ ?_ fun K1 K3 d hdst h1 h3=>?_);rfl;exact yB rfl;cases hdst;go_simp)|((with_reducible refine zW fun K1 K3 h1 h3=>?_);go_simp)|((first|refine h1 ?_|refine h3 ?_);clear h1 h3 K1 K3)|((first|refine zX (fun hb=>h1 ?_) (fun hb=>h3 ?_)|refine zX (fun hb=>h3 ?_) (fun hb=>h1 ?_))<;>(clear h1 h3 K1 K3;(try have hb2:=yC hb);(try have hb2:=yD hb);(try have hb2:=yE hb);(try have hb2:=yF hb);(try have hb2:=yG hb)))|(refine fun (K2:_→AHeap→Prop) hK2=>?_)|((with_reducible refine zY ?_ ?_);decide)|((with_reducible first|refine zZ ?_ (fun K hK=>?_)|refine yA ?_ (fun K hK=>?_));(focus go_simp;done);go_simp;refine hK _ _ ?_;clear hK K)|(go_simp;(try go_bits);(try first |((with_reducible show CallS _ _ _ _ _ _);first|(refine CallS.mono (HE1.out _ _ HX1.out) ?_; rintro _ _ ⟨rfl, h9⟩; rw [h9]; clear h9)|(refine CallS.mono (HF1.out _ _ HX1.out HER.out) ?_; rintro _ H1 ⟨ho, hx⟩; (obtain ⟨fa, fn, rfl⟩ := own_slice ho); (have HFV := Lib.hid (ints_of_own ho (by omega))); (have HZ1 := Lib.hid hx); (obtain ⟨ck0, ck1, ck2, ck3, -⟩ := HCELLS.out _ hx); clear ho hx)|(refine CallS.mono (HL1.out _ _ (HX1.out.trans HZ1.out) HER.out) ?_; rintro _ H2 ⟨ho, hx⟩; (obtain ⟨la, ln, rfl⟩ := own_slice ho); (have HLV := Lib.hid (ints_of_own ho (by omega))); (have HFV2 := Lib.hid (HFV.out.ext hx)); (have HZ2 := Lib.hid (HZ1.out.trans hx)); (obtain ⟨dk0, dk1, dk2, dk3, dk4⟩ := HCELLS.out _ HZ2.out); clear ho hx)));refine hK2 _ _ ?_;clear hK2 K2))
    obtain ⟨-, fa', fc', hfe⟩ := HFV2.out.slice
    obtain ⟨-, la', lc', hle⟩ := HLV.out.slice
    obtain ⟨h1, h2, h3⟩ : fa = fa' ∧ fn = F1.length ∧ fn = fc' := by injection hfe with a b c; exact ⟨a, b, c⟩
    obtain ⟨h4, h5, h6⟩ : la = la' ∧ ln = L1.length ∧ ln = lc' := by injection hle with a b c; exact ⟨a, b, c⟩
    subst h1 h3 h4 h6
    clear hfe hle ck0 ck1 ck2 ck3
    have HF5 := Lib.hid h2
    have HL5 := Lib.hid h5
    clear h2 h5
    refine CodeS.loop (fun m f H' => ∃ (k : Nat) (av bv : Value), k ≤ s.alts.length ∧ m = s.alts.length - k ∧ f.tmp 9 = .int .i64 k ∧ f.tmp 2 = .pointer (some ⟨H.n, 0, none⟩) ∧ f.tmp 4 = .pointer (some ⟨H.n + 1 + 1, 0, none⟩) ∧ f.tmp 6 = .slice fa fn fn ∧ f.tmp 7 = .slice la ln ln ∧ f.tmp 8 = .pointer (some ⟨H2.n, 0, none⟩) ∧ f.defers = [] ∧ H2.n < H'.n ∧ Hid (∀ i, i < H2.n → H'.get i = H2.get i) ∧ Hid (H'.get H2.n = .row [av, bv, .int .i64 0] 51) ∧ Hid (Own H' (H2.n + 1) av 3 1 ((idsT s (bef F1) k).map (Value.int .i64))) ∧ Hid (Own H' (H2.n + 1) bv 3 1 ((idsT s (bef L1) k).map (Value.int .i64)))) s.alts.length ?_ ?_
    · exact ⟨0, .slice none 0 0, .slice none 0 0, by simp, by simp, (by first|go_simp<;>go_num|assumption), (by first|go_simp<;>go_num|assumption), (by first|go_simp<;>go_num|assumption), (by first|go_simp<;>go_num|assumption), (by first|go_simp<;>go_num|assumption), (by first|go_simp<;>go_num|assumption), (by first|go_simp<;>go_num|assumption), by rw [AHeap.n_push]; omega, Lib.hid (fun i hi => AHeap.get_push_old hi), Lib.hid AHeap.get_push_new, Lib.hid Own.nil, Lib.hid Own.nil⟩
    clear f0 f1 hd f
    rintro m f H' ⟨k, av, bv, hk, rfl, f9, f2, f4, f6, f7, f8, hd, hq1, HK, HG, HOA, HOB⟩
    have HX2 : Hid (Ext H2 H') := Lib.hid ⟨by omega, HK.out⟩
    obtain ⟨ava, avn, rfl⟩ := own_slice HOA.out
    obtain ⟨bva, bvn, rfl⟩ := own_slice HOB.out
    have hn0 : H.n < H'.n := by omega
    have hc1 : cellAt H' H.n 1 = some (Value.slice aa s.alts.length ac) := (HX2.out.cellAt (by omega)).trans dk4
    have hg := HG.out
    have hga : cellAt H' H2.n 0 = some (.slice ava avn avn) := by simp [cellAt, hg]
    have hgb : cellAt H' H2.n 1 = some (.slice bva bvn bvn) := by simp [cellAt, hg]
    have hgc : cellsAt H' H2.n 0 3 = some [.slice ava avn avn, .slice bva bvn bvn, .int .i64 0] := by simp [cellsAt, hg]
    have hg2 : H'.get (H.n + 1 + 1) = .row [Value.slice none 0 0, Value.slice none 0 0, .int .i64 0] 51 := (HK.out _ dk3).trans dk2
    by_cases hlt : k < s.alts.length
    · obtain ⟨b, o, sp, rfl, hb, hx6, -⟩ := (HA.out.ext (HX1.out.trans (HZ2.out.trans HX2.out))).at_ hlt
      have hto := HTO.out _ (List.getElem_mem hlt)
      have HTA := Lib.hid (idsT_succ (acc := bef F1) hlt)
      have HTB := Lib.hid (idsT_succ (acc := bef L1) hlt)
      generalize s.alts[k] = a at hx6 hto HTA HTB
      obtain ⟨i1, i2, i3, i4, i5, i6⟩ := a
      obtain ⟨t, rfl⟩ : ∃ t : Nat, i5 = (t : Int) := ⟨i5.toNat, by simp only at hto; omega⟩
      have hx6' : cellsAt H' b (o + k * 6) 6 = some [.int .i64 i1, .int .i64 i2, .int .i64 i3, .int .i64 i4, .int .i64 (t : Nat), .int .i64 i6] := hx6
      clear hx6
      have ht1 : t < F1.length := by have := hto.2.1; simp only at this; omega
      have ht2 : t < L1.length := by have := hto.2.2; simp only at this; omega
      obtain ⟨fb, fo, fs, rfl, hfb, hfx⟩ := (HFV2.out.ext HX2.out).at_ ht1
      obtain ⟨lb, lo, ls, rfl, hlb, hlx⟩ := (HLV.out.ext HX2.out).at_ ht2
      have hbf : bef F1 ⟨i1, i2, i3, i4, (t : Int), i6⟩ = decide (i3 ≤ F1[t]) := by simp [bef, List.getD_eq_getElem?_getD, ht1]
      have hbl : bef L1 ⟨i1, i2, i3, i4, (t : Int), i6⟩ = decide (i3 ≤ L1[t]) := by simp [bef, List.getD_eq_getElem?_getD, ht2]
      rw [hbf] at HTA
      rw [hbl] at HTB
      generalize F1[t] = y1 at hfx HTA
      generalize L1[t] = y2 at hlx HTB
      have hlA := idsT_len s (bef F1) k
      have hlB := idsT_len s (bef L1) k
      have HLA := Lib.hid (show (idsT s (bef F1) k).length ≤ 1000 by omega)
      have HLB := Lib.hid (show (idsT s (bef L1) k).length ≤ 1000 by omega)
      have hz0 : (0 : Int) ≤ (t : Int) := by omega
      have hz1 : (t : Int) < (fn : Nat) := by have := HF5.out; omega
      have hz2 : (t : Int) < (ln : Nat) := by have := HL5.out; omega
      clear hbf hbl hto ht1 ht2 hlA hlB
      generalize hA2 : idsT s (bef F1) (k + 1) = A2 at HTA
      generalize hB2 : idsT s (bef L1) (k + 1) = B2 at HTB
      have HA2 := Lib.hid hA2
      have HB2 := Lib.hid hB2
      clear hA2 hB2
      generalize idsT s (bef F1) k = A1 at HTA HOA HLA
      generalize idsT s (bef L1) k = B1 at HTB HOB HLB
      have hb1 : b < H'.n := hb
      repeat' (first|((with_reducible refine stop_if (n := 11) ?_))|(with_reducible first|refine zA ?_|refine zB fun K hK=>?_|refine zC fun K2 hK2=>?_|refine zD ?_|refine zE ?_|refine zF ?_|refine zG ?_|refine zH ?_|refine zI ?_|refine zM ?_|refine zN ?_|refine zO ?_|refine zP ?_|refine zQ ?_|refine zR ?_)|((with_reducible refine zU (hK _ _ ?_));clear hK K)|((with_reducible refine zV ?_ ?_ fun K1 K3 d hdst h1 h3=>?_);rfl;exact yB rfl;cases hdst;go_simp)|((with_reducible refine zW fun K1 K3 h1 h3=>?_);go_simp)|((first|refine h1 ?_|refine h3 ?_);clear h1 h3 K1 K3)|((first|refine zX (fun hb=>h1 ?_) (fun hb=>h3 ?_)|refine zX (fun hb=>h3 ?_) (fun hb=>h1 ?_))<;>(clear h1 h3 K1 K3;(try have hb2:=yC hb);(try have hb2:=yD hb);(try have hb2:=yE hb);(try have hb2:=yF hb);(try have hb2:=yG hb)))|(refine fun (K2:_→AHeap→Prop) hK2=>?_)|((with_reducible refine zY ?_ ?_);decide)|((with_reducible first|refine zZ ?_ (fun K hK=>?_)|refine yA ?_ (fun K hK=>?_));(focus go_simp;done);go_simp;refine hK _ _ ?_;clear hK K)|(go_simp;(try go_bits);refine hK2 _ _ ?_;clear hK2 K2))
      refine ⟨CodeS.cut (fun f H3 => ∃ av2 : Value, f.tmp 9 = .int .i64 k ∧ f.tmp 10 = .pointer (some ⟨H'.n, 0, none⟩) ∧ f.tmp 2 = .pointer (some ⟨H.n, 0, none⟩) ∧ f.tmp 4 = .pointer (some ⟨H.n + 1 + 1, 0, none⟩) ∧ f.tmp 6 = .slice (some ⟨fb, fo, fs⟩) fn fn ∧ f.tmp 7 = .slice (some ⟨lb, lo, ls⟩) ln ln ∧ f.tmp 8 = .pointer (some ⟨H2.n, 0, none⟩) ∧ f.defers = [] ∧ H'.n < H3.n ∧ Hid (∀ i, i < H'.n → i ≠ H2.n → H3.get i = H'.get i) ∧ Hid (H3.get H'.n = .row [.int .i64 i1, .int .i64 i2, .int .i64 i3, .int .i64 i4, .int .i64 (t : Nat), .int .i64 i6] 61) ∧ Hid (H3.get H2.n = .row [av2, .slice bva bvn bvn, .int .i64 0] 51) ∧ Hid (Own H3 (H2.n + 1) av2 3 1 (A2.map (Value.int .i64))) ∧ Hid (Own H3 (H2.n + 1) (.slice bva bvn bvn) 3 1 (B1.map (Value.int .i64)))) ?_ ?_⟩
      · repeat' (first|(with_reducible first|refine zA ?_|refine zB fun K hK=>?_|refine zC fun K2 hK2=>?_|refine zD ?_|refine zE ?_|refine zF ?_|refine zG ?_|refine zH ?_|refine zI ?_|refine zM ?_|refine zN ?_|refine zO ?_|refine zP ?_|refine zQ ?_|refine zR ?_)|((with_reducible refine zU (hK _ _ ?_));clear hK K)|((with_reducible refine zV ?_ ?_ fun K1 K3 d hdst h1 h3=>?_);rfl;exact yB rfl;cases hdst;go_simp)|((with_reducible refine zW fun K1 K3 h1 h3=>?_);go_simp)|((first|refine h1 ?_|refine h3 ?_);clear h1 h3 K1 K3)|((first|refine zX (fun hb=>h1 ?_) (fun hb=>h3 ?_)|refine zX (fun hb=>h3 ?_) (fun hb=>h1 ?_))<;>(clear h1 h3 K1 K3;(try have hb2:=yC hb);(try have hb2:=yD hb);(try have hb2:=yE hb);(try have hb2:=yF hb);(try have hb2:=yG hb)))|(refine fun (K2:_→AHeap→Prop) hK2=>?_)|((with_reducible refine zY ?_ ?_);decide)|((with_reducible first|refine zZ ?_ (fun K hK=>?_)|refine yA ?_ (fun K hK=>?_));(focus go_simp;done);go_simp;refine hK _ _ ?_;clear hK K)|((with_reducible refine yH mixed rfl ?_ 20 fun K0 hK0=>?_);kernel_rfl)|(with_reducible first|exact yI|exact yJ|refine yK ?_|refine yL ?_|refine yM ?_)|((with_reducible first|refine yN ?_ ?_|refine yO ?_ ?_|refine yP ?_ ?_);rfl)|((with_reducible refine yQ ?_ ?_);rfl;refine hK0 _ _ ?_;clear hK0 K0)|((with_reducible refine yR ?_ ?_ ?_ ?_);rfl;rfl;rfl)|((with_reducible refine yS ?_ ?_ ?_ fun K2 hK2=>?_);rfl;rfl;exact yB rfl)|((with_reducible refine yT ?_ ?_ ?_ ?_ fun K1 K3 d hdst h1 h3=>?_);rfl;rfl;rfl;exact yB rfl;cases hdst;go_simp)|((with_reducible refine yU ?_ ?_ ?_ ?_ fun K1 K3 d hdst h1 h3=>?_);rfl;rfl;rfl;exact yB rfl;cases hdst;go_simp)|((with_reducible refine yV ?_ ?_ (fun K2 hK2=>?_) ?_);rfl;exact yB rfl)|((with_reducible refine yW ?_ ?_ ?_ ?_ (fun K2 hK2=>?_) ?_);rfl;exact yB rfl;rfl;(focus go_simp;done))|((with_reducible refine yX ?_ ?_ ?_ (fun K2 hK2=>?_) ?_);rfl;rfl;exact yB rfl)|((with_reducible refine yY ?_ ?_ (fun K2 hK2=>?_) ?_);rfl;rfl)|((with_reducible refine yZ ?_ ?_);(first|rfl|(dsimp only;decide +kernel)))|((with_reducible refine xA ?_ ?_);(focus go_simp;done))|(go_simp;(try go_bits);(try first | ((with_reducible show CallS _ _ _ _ _ _);refine CallS.mono (insert_o (HOA.out.ext (Ext.push _)) HLA.out) ?_; rintro _ H5 ⟨ho, hx⟩; (obtain ⟨ra, rn, rfl⟩ := own_slice ho); (have HR := Lib.hid ho); (have HX5 := Lib.hid hx); (have hg5 : H5.get H2.n = .row [.slice ava avn avn, .slice bva bvn bvn, .int .i64 0] 51 := (hx.get _ (by rw [AHeap.n_push]; omega)).trans ((AHeap.get_push_old hq1).trans hg)); (have hn5 : H'.n < H5.n := by have := hx.n; rw [AHeap.n_push] at this; omega); clear ho hx));(first|(refine hK2 _ _ ?_ ?_<;>clear hK2 K2)|(refine hK2 _ _ ?_;clear hK2 K2))))
        · have hya : A2 = insL A1 i1 := by rw [HTA.out, if_pos (by simpa using ‹decide (i3 ≤ y1) = true›)]
          refine ⟨.slice ra rn rn, (by first|go_simp<;>go_num|assumption), (by first|go_simp<;>go_num|assumption), (by first|go_simp<;>go_num|assumption), (by first|go_simp<;>go_num|assumption), (by first|go_simp<;>go_num|assumption), (by first|go_simp<;>go_num|assumption), (by first|go_simp<;>go_num|assumption), (by first|go_simp<;>go_num|assumption), by rw [AHeap.n_upd]; omega, Lib.hid (fun i hi hne => ?_), Lib.hid ?_, Lib.hid ?_, Lib.hid ?_, Lib.hid ?_⟩
          · rw [AHeap.get_upd_ne hne, HX5.out.get _ (by rw [AHeap.n_push]; omega), AHeap.get_push_old hi]
          · rw [AHeap.get_upd_ne (by omega), HX5.out.get _ (by rw [AHeap.n_push]; omega), AHeap.get_push_new]
          · rw [AHeap.get_upd_same]
          · rw [hya]; exact (own_upd HR.out (by rw [AHeap.n_push]; omega)).mono (by rw [AHeap.n_push]; omega)
          · exact own_upd ((HOB.out.ext (Ext.push _)).ext HX5.out) (by omega)
        · have hya : A2 = A1 := by rw [HTA.out, if_neg (by simpa using ‹decide (i3 ≤ y1) = false›)]
          refine ⟨.slice ava avn avn, (by first|go_simp<;>go_num|assumption), (by first|go_simp<;>go_num|assumption), (by first|go_simp<;>go_num|assumption), (by first|go_simp<;>go_num|assumption), (by first|go_simp<;>go_num|assumption), (by first|go_simp<;>go_num|assumption), (by first|go_simp<;>go_num|assumption), (by first|go_simp<;>go_num|assumption), by rw [AHeap.n_push]; omega, Lib.hid (fun i hi hne => AHeap.get_push_old hi), Lib.hid AHeap.get_push_new, Lib.hid ((AHeap.get_push_old hq1).trans hg), Lib.hid ?_, Lib.hid (HOB.out.ext (Ext.push _))⟩
          rw [hya]; exact HOA.out.ext (Ext.push _)
      · clear f9 f2 f4 f6 f7 f8 hd f hg hga hgb hgc hg2 hx6' hfx
        rintro f H3 ⟨av2, f9, f10, f2, f4, f6, f7, f8, hd, hn3, HK3, HG3, HQ3, HOA3, HOB3⟩
        obtain ⟨aw, awn, rfl⟩ := own_slice HOA3.out
        have hg3 := HG3.out
        have hq3 := HQ3.out
        have ha0 : cellAt H3 H'.n 0 = some (.int .i64 i1) := by simp [cellAt, hg3]
        have ha2 : cellAt H3 H'.n 2 = some (.int .i64 i3) := by simp [cellAt, hg3]
        have ha4 : cellAt H3 H'.n 4 = some (.int .i64 (t : Nat)) := by simp [cellAt, hg3]
        have hgb : cellAt H3 H2.n 1 = some (.slice bva bvn bvn) := by simp [cellAt, hq3]
        have hlx3 : cellAt H3 lb (lo + t) = some (.int .i64 y2) := by
          have hlb2 : lb < H2.n := by
            obtain ⟨_, _, _, hq, hlb2, _⟩ := HLV.out.at_ (k := t) (by have := HL5.out; omega)
            cases hq; exact hlb2
          have := hlx
          simp only [cellAt] at this ⊢
          rw [HK3.out lb hlb (by omega)]; exact this
        have hlb3 : lb < H3.n := by omega
        have hq3n : H2.n < H3.n := by omega
        clear hg3 hlx
        repeat' (first|(with_reducible first|refine zA ?_|refine zB fun K hK=>?_|refine zC fun K2 hK2=>?_|refine zD ?_|refine zE ?_|refine zF ?_|refine zG ?_|refine zH ?_|refine zI ?_|refine zM ?_|refine zN ?_|refine zO ?_|refine zP ?_|refine zQ ?_|refine zR ?_)|((with_reducible refine zU (hK _ _ ?_));clear hK K)|((with_reducible refine zV ?_ ?_ fun K1 K3 d hdst h1 h3=>?_);rfl;exact yB rfl;cases hdst;go_simp)|((with_reducible refine zW fun K1 K3 h1 h3=>?_);go_simp)|((first|refine h1 ?_|refine h3 ?_);clear h1 h3 K1 K3)|((first|refine zX (fun hb=>h1 ?_) (fun hb=>h3 ?_)|refine zX (fun hb=>h3 ?_) (fun hb=>h1 ?_))<;>(clear h1 h3 K1 K3;(try have hb2:=yC hb);(try have hb2:=yD hb);(try have hb2:=yE hb);(try have hb2:=yF hb);(try have hb2:=yG hb)))|(refine fun (K2:_→AHeap→Prop) hK2=>?_)|((with_reducible refine zY ?_ ?_);decide)|((with_reducible first|refine zZ ?_ (fun K hK=>?_)|refine yA ?_ (fun K hK=>?_));(focus go_simp;done);go_simp;refine hK _ _ ?_;clear hK K)|((with_reducible refine yH mixed rfl ?_ 20 fun K0 hK0=>?_);kernel_rfl)|(with_reducible first|exact yI|exact yJ|refine yK ?_|refine yL ?_|refine yM ?_)|((with_reducible first|refine yN ?_ ?_|refine yO ?_ ?_|refine yP ?_ ?_);rfl)|((with_reducible refine yQ ?_ ?_);rfl;refine hK0 _ _ ?_;clear hK0 K0)|((with_reducible refine yR ?_ ?_ ?_ ?_);rfl;rfl;rfl)|((with_reducible refine yS ?_ ?_ ?_ fun K2 hK2=>?_);rfl;rfl;exact yB rfl)|((with_reducible refine yT ?_ ?_ ?_ ?_ fun K1 K3 d hdst h1 h3=>?_);rfl;rfl;rfl;exact yB rfl;cases hdst;go_simp)|((with_reducible refine yU ?_ ?_ ?_ ?_ fun K1 K3 d hdst h1 h3=>?_);rfl;rfl;rfl;exact yB rfl;cases hdst;go_simp)|((with_reducible refine yV ?_ ?_ (fun K2 hK2=>?_) ?_);rfl;exact yB rfl)|((with_reducible refine yW ?_ ?_ ?_ ?_ (fun K2 hK2=>?_) ?_);rfl;exact yB rfl;rfl;(focus go_simp;done))|((with_reducible refine yX ?_ ?_ ?_ (fun K2 hK2=>?_) ?_);rfl;rfl;exact yB rfl)|((with_reducible refine yY ?_ ?_ (fun K2 hK2=>?_) ?_);rfl;rfl)|((with_reducible refine yZ ?_ ?_);(first|rfl|(dsimp only;decide +kernel)))|((with_reducible refine xA ?_ ?_);(focus go_simp;done))|(go_simp;(try go_bits);(try first | ((with_reducible show CallS _ _ _ _ _ _);refine CallS.mono (insert_o HOB3.out HLB.out) ?_; rintro _ H5 ⟨ho, hx⟩; (obtain ⟨ra, rn, rfl⟩ := own_slice ho); (have HR := Lib.hid ho); (have HX5 := Lib.hid hx); (have hg5 : H5.get H2.n = .row [.slice aw awn awn, .slice bva bvn bvn, .int .i64 0] 51 := (hx.get _ hq3n).trans hq3); (have hn5 : H3.n ≤ H5.n := hx.n); clear ho hx));(first|(refine hK2 _ _ ?_ ?_<;>clear hK2 K2)|(refine hK2 _ _ ?_;clear hK2 K2))))
        · have hyb : B2 = insL B1 i1 := by rw [HTB.out, if_pos (by simpa using ‹decide (i3 ≤ y2) = true›)]
          refine Post.round_normal ⟨s.alts.length - (k + 1), by omega, k + 1, .slice aw awn awn, .slice ra rn rn, by omega, rfl, (by first|go_simp<;>go_num|assumption), (by first|go_simp<;>go_num|assumption), (by first|go_simp<;>go_num|assumption), (by first|go_simp<;>go_num|assumption), (by first|go_simp<;>go_num|assumption), (by first|go_simp<;>go_num|assumption), (by first|go_simp<;>go_num|assumption), by rw [AHeap.n_upd]; omega, Lib.hid (fun i hi => ?_), Lib.hid ?_, Lib.hid ?_, Lib.hid ?_⟩
          · rw [AHeap.get_upd_ne (by omega), HX5.out.get _ (by omega), HK3.out i (by omega) (by omega), HK.out i hi]
          · rw [AHeap.get_upd_same]
          · rw [HA2.out]; exact own_upd (HOA3.out.ext HX5.out) (by omega)
          · rw [HB2.out, hyb]; exact (own_upd HR.out (by omega)).mono (by omega)
        · have hyb : B2 = B1 := by rw [HTB.out, if_neg (by simpa using ‹decide (i3 ≤ y2) = false›)]
          refine Post.round_normal ⟨s.alts.length - (k + 1), by omega, k + 1, .slice aw awn awn, .slice bva bvn bvn, by omega, rfl, (by first|go_simp<;>go_num|assumption), (by first|go_simp<;>go_num|assumption), (by first|go_simp<;>go_num|assumption), (by first|go_simp<;>go_num|assumption), (by first|go_simp<;>go_num|assumption), (by first|go_simp<;>go_num|assumption), (by first|go_simp<;>go_num|assumption), by omega, Lib.hid (fun i hi => ?_), HQ3, Lib.hid ?_, Lib.hid ?_⟩
          · rw [HK3.out i (by omega) (by omega), HK.out i hi]
          · rw [HA2.out]; exact HOA3.out
          · rw [HB2.out, hyb]; exact HOB3.out
    · repeat' (first|(with_reducible first|refine zA ?_|refine zB fun K hK=>?_|refine zC fun K2 hK2=>?_|refine zD ?_|refine zE ?_|refine zF ?_|refine zG ?_|refine zH ?_|refine zI ?_|refine zM ?_|refine zN ?_|refine zO ?_|refine zP ?_|refine zQ ?_|refine zR ?_)|((with_reducible refine zU (hK _ _ ?_));clear hK K)|((with_reducible refine zV ?_ ?_ fun K1 K3 d hdst h1 h3=>?_);rfl;exact yB rfl;cases hdst;go_simp)|((with_reducible refine zW fun K1 K3 h1 h3=>?_);go_simp)|((first|refine h1 ?_|refine h3 ?_);clear h1 h3 K1 K3)|((first|refine zX (fun hb=>h1 ?_) (fun hb=>h3 ?_)|refine zX (fun hb=>h3 ?_) (fun hb=>h1 ?_))<;>(clear h1 h3 K1 K3;(try have hb2:=yC hb);(try have hb2:=yD hb);(try have hb2:=yE hb);(try have hb2:=yF hb);(try have hb2:=yG hb)))|(refine fun (K2:_→AHeap→Prop) hK2=>?_)|((with_reducible refine zY ?_ ?_);decide)|((with_reducible first|refine zZ ?_ (fun K hK=>?_)|refine yA ?_ (fun K hK=>?_));(focus go_simp;done);go_simp;refine hK _ _ ?_;clear hK K)|(go_simp;(try go_bits);refine hK2 _ _ ?_;clear hK2 K2))
      have hke : k = s.alts.length := by omega
      subst hke
      rw [idsT_all] at HOA HOB
      have hlA : (idsL s (bef F1)).length ≤ 9223372036854775807 := by rw [← idsT_all]; have := idsT_len s (bef F1) s.alts.length; omega
      have hlB : (idsL s (bef L1)).length ≤ 9223372036854775807 := by rw [← idsT_all]; have := idsT_len s (bef L1) s.alts.length; omega
      refine ⟨⟨_, _, by rw [HER.out], ?_, ?_⟩, ((HX1.out.trans HZ2.out).trans HX2.out |>.upd (by omega) _)⟩
      · rw [HSL.out]; exact ints_of_own (own_upd HOA.out (by omega)) hlA
      · rw [HML.out]; exact ints_of_own (own_upd HOB.out (by omega)) hlB
  · repeat' (first|(with_reducible first|refine zA ?_|refine zB fun K hK=>?_|refine zC fun K2 hK2=>?_|refine zD ?_|refine zE ?_|refine zF ?_|refine zG ?_|refine zH ?_|refine zI ?_|refine zM ?_|refine zN ?_|refine zO ?_|refine zP ?_|refine zQ ?_|refine zR ?_)|((with_reducible refine zU (hK _ _ ?_));clear hK K)|((with_reducible refine zV ?_ ?_ fun K1 K3 d hdst h1 h3=>?_);rfl;exact yB rfl;cases hdst;go_simp)|((with_reducible refine zW fun K1 K3 h1 h3=>?_);go_simp)|((first|refine h1 ?_|refine h3 ?_);clear h1 h3 K1 K3)|((first|refine zX (fun hb=>h1 ?_) (fun hb=>h3 ?_)|refine zX (fun hb=>h3 ?_) (fun hb=>h1 ?_))<;>(clear h1 h3 K1 K3;(try have hb2:=yC hb);(try have hb2:=yD hb);(try have hb2:=yE hb);(try have hb2:=yF hb);(try have hb2:=yG hb)))|(refine fun (K2:_→AHeap→Prop) hK2=>?_)|((with_reducible refine zY ?_ ?_);decide)|((with_reducible first|refine zZ ?_ (fun K hK=>?_)|refine yA ?_ (fun K hK=>?_));(focus go_simp;done);go_simp;refine hK _ _ ?_;clear hK K)|(go_simp;(try go_bits);(try first | ((with_reducible show CallS _ _ _ _ _ _);refine CallS.mono (HE1.out _ _ HX1.out) ?_; rintro _ _ ⟨rfl, h9⟩; rw [h9]; clear h9));refine hK2 _ _ ?_;clear hK2 K2))
    · refine ⟨⟨_, _, rfl, ?_, ?_⟩, ?_⟩
      · rw [HSL.out, if_neg her]; exact ints_nil _
      · rw [HML.out, if_neg her]; exact ints_nil _
      · exact (((Ext.refl _).push' _).push' _).push' _
    · exact absurd (show er = 0 by simpa using hb) her
end Go.Proofs.Try
