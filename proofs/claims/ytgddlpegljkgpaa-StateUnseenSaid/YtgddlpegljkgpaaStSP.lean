/- Contracts of functions, walked. -/
import Derived.Test.YtgddlpegljkgpaaStTB
import Derived.Test.YtgddlpegljkgpaaAwB
import Derived.Test.YtgddlpegljkgpaaStUH
import Derived.Test.YtgddlpegljkgpaaStSA
import Derived.Test.YtgddlpegljkgpaaStSN
import Derived.Test.YtgddlpegljkgpaaStTD
set_option linter.all false
namespace Go.Proofs.Try
open Go Go.Am Go.RowKit Go.Co
set_option maxRecDepth 100000

def ExtO (H : AHeap) (base : Nat) (v : Value) (s : Sheet) (c : Copy) : Prop := ∃ oa on oc pi fa fn la ln, v = .agg #[.slice oa on oc, .int .i64 pi, .slice fa fn fn, .slice la ln ln] ∧ Own H base (.slice fa fn fn) 3 1 ((firstL s c).map (Value.int .i64)) ∧ Own H base (.slice la ln ln) 3 1 ((lastL s c).map (Value.int .i64))
theorem ExtO.ext {H H' : AHeap} {base : Nat} {v : Value} {s : Sheet} {c : Copy} (h : ExtO H base v s c) (hx : Ext H H') : ExtO H' base v s c := by
  obtain ⟨oa, on, oc, pi, fa, fn, la, ln, rfl, h1, h2⟩ := h
  exact ⟨oa, on, oc, pi, fa, fn, la, ln, rfl, h1.ext hx, h2.ext hx⟩
theorem extentOf_x {loops : List (Nat × LInfo)} {H : AHeap} {sv cv : Value} {s : Sheet} {c : Copy} (hs : SheetV H sv s) (hc : CopyV H cv c) : CallS Try.prog loops 71 [sv, cv] H fun r H' => (∃ ev, r = .tuple #[ev, .int .i64 (errExt s c)] ∧ ExtO H' H.n ev s c) ∧ Ext H H' :=
  CallS.mono (extentOf_o hs hc) fun _ _ ⟨⟨oa, on, oc, pi, fv, lv, h1, h2, h3, _⟩, h5⟩ => by
    obtain ⟨fa, fn, rfl⟩ := own_slice h2
    obtain ⟨la, ln, rfl⟩ := own_slice h3
    exact ⟨⟨_, h1, oa, on, oc, pi, fa, fn, la, ln, rfl, h2, h3⟩, h5⟩
def errExts (s : Sheet) (c d : Copy) : Int := if errCopy s c ≠ 0 then errCopy s c else if errCopy s d ≠ 0 then errCopy s d else if errExt s c ≠ 0 then errExt s c else errExt s d

theorem errExts_ok {s : Sheet} {c d : Copy} (h : errExts s c d = 0) : errExt s c = 0 ∧ errExt s d = 0 := by
  unfold errExts at h
  split at h
  · rename_i h1; exact absurd h h1
  · split at h
    · rename_i h1; exact absurd h h1
    · split at h
      · rename_i h1; exact absurd h h1
      · rename_i h1; exact ⟨by simpa using h1, h⟩
set_option maxHeartbeats 2000000 in
theorem extentsOf_x {loops : List (Nat × LInfo)} {H : AHeap} {sv cv dv : Value} {s : Sheet} {c d : Copy} (hs : SheetV H sv s) (hc : CopyV H cv c) (hdv : CopyV H dv d) : CallS Try.prog loops 80 [sv, cv, dv] H fun r H' => (∃ oa on oc pi fa fn la ln oa' on' oc' pi' fa' fn' la' ln', r = .tuple #[.agg #[.slice oa on oc, .int .i64 pi, .slice fa fn fn, .slice la ln ln], .agg #[.slice oa' on' oc', .int .i64 pi', .slice fa' fn' fn', .slice la' ln' ln'], .int .i64 (errExts s c d)] ∧ (errExts s c d = 0 → Own H' H.n (.slice fa fn fn) 3 1 ((firstL s c).map (Value.int .i64)) ∧ Own H' H.n (.slice la ln ln) 3 1 ((lastL s c).map (Value.int .i64)) ∧ Own H' H.n (.slice fa' fn' fn') 3 1 ((firstL s d).map (Value.int .i64)) ∧ Own H' H.n (.slice la' ln' ln') 3 1 ((lastL s d).map (Value.int .i64)))) ∧ Ext H H' := by
  have HS := Lib.hid hs
  have HC := Lib.hid hc
  have HD := Lib.hid hdv
  obtain ⟨wv, av, rfl, hw, ha⟩ := hs
  obtain ⟨hwl, wa, wc, rfl⟩ := hw.slice
  obtain ⟨hal, aa, ac, rfl⟩ := ha.slice
  obtain ⟨cv, rfl, hcw⟩ := hc
  obtain ⟨hcl, ca, cc, rfl⟩ := hcw.slice
  obtain ⟨dv, rfl, hdw⟩ := hdv
  obtain ⟨hdl, da, dc, rfl⟩ := hdw.slice
  clear hw ha hcw hdw
  have HEX : Hid (errExts s c d = if errCopy s c ≠ 0 then errCopy s c else if errCopy s d ≠ 0 then errCopy s d else if errExt s c ≠ 0 then errExt s c else errExt s d) := Lib.hid rfl
  have HK1 := Lib.hid (fun (loops : List (Nat × LInfo)) (H' : AHeap) (hx : Ext H H') => checkCopy_s (loops := loops) (HS.out.ext hx) (HC.out.ext hx))
  have HK2 := Lib.hid (fun (loops : List (Nat × LInfo)) (H' : AHeap) (hx : Ext H H') => checkCopy_s (loops := loops) (HS.out.ext hx) (HD.out.ext hx))
  have HE1 := Lib.hid (fun (loops : List (Nat × LInfo)) (H' : AHeap) (hx : Ext H H') => extentOf_x (loops := loops) (HS.out.ext hx) (HC.out.ext hx))
  have HE2 := Lib.hid (fun (loops : List (Nat × LInfo)) (H' : AHeap) (hx : Ext H H') => extentOf_x (loops := loops) (HS.out.ext hx) (HD.out.ext hx))
  generalize errExts s c d = er at HEX
  generalize errCopy s c = k1 at HEX HK1
  generalize errCopy s d = k2 at HEX HK2
  generalize errExt s c = e1 at HEX HE1
  generalize errExt s d = e2 at HEX HE2
  refine CallS.enter' Try.func80 rfl Try.ntmps80 (by simp) fun f hd hf => ?_
  have f0 := hf 0
  have f1 := hf 1
  have f2 := hf 2
  simp at f0 f1 f2
  clear hf
  repeat' (first|(with_reducible first|refine zA ?_|refine zB fun K hK=>?_|refine zC fun K2 hK2=>?_|refine zD ?_|refine zE ?_|refine zF ?_|refine zG ?_|refine zH ?_|refine zI ?_|refine zM ?_|refine zN ?_|refine zO ?_|refine zP ?_|refine zQ ?_|refine zR ?_)|((with_reducible refine zU (hK _ _ ?_));clear hK K)|((with_reducible refine zV ?_ ?_ fun K1 K3 d hdst h1 h3=>?_);rfl;exact yB rfl;cases hdst;go_simp)|((with_reducible refine zW fun K1 K3 h1 h3=>?_);go_simp)|((first|refine h1 ?_|refine h3 ?_);clear h1 h3 K1 K3)|((first|refine zX (fun hb=>h1 ?_) (fun hb=>h3 ?_)|refine zX (fun hb=>h3 ?_) (fun hb=>h1 ?_))<;>(clear h1 h3 K1 K3;(try have hb2:=yC hb);(try have hb2:=yD hb);(try have hb2:=yE hb);(try have hb2:=yF hb);(try have hb2:=yG hb)))|(refine fun (K2:_→AHeap→Prop) hK2=>?_)|((with_reducible refine zY ?_ ?_);decide)|((with_reducible first|refine zZ ?_ (fun K hK=>?_)|refine yA ?_ (fun K hK=>?_));(focus go_simp;done);go_simp;refine hK _ _ ?_;clear hK K)|(go_simp;(try go_bits);(try first | ((refine two_k el159 sz27 ze27 rfl (by decide) (by decide) rfl rfl rfl rfl ?_); go_simp));refine hK2 _ _ ?_;clear hK2 K2))
  refine CodeS.loop (fun m f H' => ∃ k : Nat, k ≤ 2 ∧ m = 2 - k ∧ f.tmp 19 = .int .i64 k ∧ f.tmp 18 = .int .i64 2 ∧ f.tmp 17 = .slice (some ⟨H.n + 5, 0, none⟩) 2 2 ∧ f.tmp 3 = .pointer (some ⟨H.n, 0, none⟩) ∧ f.tmp 4 = .pointer (some ⟨H.n + 1, 0, none⟩) ∧ f.tmp 5 = .pointer (some ⟨H.n + 2, 0, none⟩) ∧ f.tmp 6 = .pointer (some ⟨H.n + 3, 0, none⟩) ∧ f.tmp 7 = .pointer (some ⟨H.n + 4, 0, none⟩) ∧ f.defers = [] ∧ Hid (1 ≤ k → k1 = 0) ∧ Hid (2 ≤ k → k2 = 0) ∧ H.n + 5 < H'.n ∧ Hid (Ext H H') ∧ Hid (H'.get H.n = .row [Value.slice wa s.words.length wc, Value.slice aa s.alts.length ac] 25) ∧ Hid (H'.get (H.n + 1) = .row [Value.slice ca c.words.length cc, .int .i64 c.beg, .int .i64 c.fin, .int .i64 c.per] 27) ∧ Hid (H'.get (H.n + 2) = .row [Value.slice da d.words.length dc, .int .i64 d.beg, .int .i64 d.fin, .int .i64 d.per] 27) ∧ Hid (H'.get (H.n + 3) = .row [Value.slice none 0 0, .int .i64 0, Value.slice none 0 0, Value.slice none 0 0] 120) ∧ Hid (H'.get (H.n + 4) = .row [Value.slice none 0 0, .int .i64 0, Value.slice none 0 0, Value.slice none 0 0] 120) ∧ Hid (H'.get (H.n + 5) = .row ([Value.slice ca c.words.length cc, .int .i64 c.beg, .int .i64 c.fin, .int .i64 c.per] ++ [Value.slice da d.words.length dc, .int .i64 d.beg, .int .i64 d.fin, .int .i64 d.per]) 27)) 2 ?_ ?_
  · refine ⟨0, by omega, rfl, (by first|go_simp<;>go_num|assumption), (by first|go_simp<;>go_num|assumption), (by first|go_simp<;>go_num|assumption), (by first|go_simp<;>go_num|assumption), (by first|go_simp<;>go_num|assumption), (by first|go_simp<;>go_num|assumption), (by first|go_simp<;>go_num|assumption), (by first|go_simp<;>go_num|assumption), (by first|go_simp<;>go_num|assumption), Lib.hid (fun h => by omega), Lib.hid (fun h => by omega), by simp only [AHeap.n_push]; omega, Lib.hid ((((((Ext.refl _).push' _).push' _).push' _).push' _).push' _ |>.push' _), Lib.hid ?_, Lib.hid ?_, Lib.hid ?_, Lib.hid ?_, Lib.hid ?_, Lib.hid ?_⟩
    all_goals simp only [AHeap.get_push, AHeap.n_push, Nat.add_assoc, Nat.reduceAdd]
    all_goals simp
  clear f0 f1 f2 hd f
  rintro m f H' ⟨k, hk, rfl, f19, f18, f17, f3, f4, f5, f6, f7, hd, HK1', HK2', hn5, HX, HG0, HG1, HG2, HG3, HG4, HG5⟩
  have hg0 := HG0.out
  have hg1 := HG1.out
  have hg2 := HG2.out
  have hg3 := HG3.out
  have hg4 := HG4.out
  have hg5 := HG5.out
  have hc0 : cellsAt H' H.n 0 2 = some [Value.slice wa s.words.length wc, Value.slice aa s.alts.length ac] := by simp [cellsAt, hg0]
  have hc1 : cellsAt H' (H.n + 1) 0 4 = some [Value.slice ca c.words.length cc, .int .i64 c.beg, .int .i64 c.fin, .int .i64 c.per] := by simp [cellsAt, hg1]
  have hc2 : cellsAt H' (H.n + 2) 0 4 = some [Value.slice da d.words.length dc, .int .i64 d.beg, .int .i64 d.fin, .int .i64 d.per] := by simp [cellsAt, hg2]
  have hc5 : cellsAt H' (H.n + 5) 0 4 = some [Value.slice ca c.words.length cc, .int .i64 c.beg, .int .i64 c.fin, .int .i64 c.per] := by simp [cellsAt, hg5]
  have hc54 : cellsAt H' (H.n + 5) 4 4 = some [Value.slice da d.words.length dc, .int .i64 d.beg, .int .i64 d.fin, .int .i64 d.per] := by simp [cellsAt, hg5]
  have hl0 : H.n < H'.n := by omega
  have hl1 : H.n + 1 < H'.n := by omega
  have hl2 : H.n + 2 < H'.n := by omega
  have hl3 : H.n + 3 < H'.n := by omega
  have hl4 : H.n + 4 < H'.n := by omega
  have hgp3 : ∀ o, (H'.push o).get (H.n + 3) = .row [Value.slice none 0 0, .int .i64 0, Value.slice none 0 0, Value.slice none 0 0] 120 := fun o => (AHeap.get_push_old hl3).trans hg3
  have hgp4 : ∀ o, (H'.push o).get (H.n + 4) = .row [Value.slice none 0 0, .int .i64 0, Value.slice none 0 0, Value.slice none 0 0] 120 := fun o => (AHeap.get_push_old hl4).trans hg4
  have hgq4 : ∀ o o', ((H'.upd (H.n + 3) o).push o').get (H.n + 4) = .row [Value.slice none 0 0, .int .i64 0, Value.slice none 0 0, Value.slice none 0 0] 120 := fun o o' => (AHeap.get_push_old (by rw [AHeap.n_upd]; exact hl4)).trans ((AHeap.get_upd_ne (by omega)).trans hg4)
  rcases Nat.eq_zero_or_pos k with hk0 | hk0
  · subst hk0
    repeat' (first|(with_reducible first|refine zA ?_|refine zB fun K hK=>?_|refine zC fun K2 hK2=>?_|refine zD ?_|refine zE ?_|refine zF ?_|refine zG ?_|refine zH ?_|refine zI ?_|refine zM ?_|refine zN ?_|refine zO ?_|refine zP ?_|refine zQ ?_|refine zR ?_)|((with_reducible refine zU (hK _ _ ?_));clear hK K)|((with_reducible refine zV ?_ ?_ fun K1 K3 d hdst h1 h3=>?_);rfl;exact yB rfl;cases hdst;go_simp)|((with_reducible refine zW fun K1 K3 h1 h3=>?_);go_simp)|((first|refine h1 ?_|refine h3 ?_);clear h1 h3 K1 K3)|((first|refine zX (fun hb=>h1 ?_) (fun hb=>h3 ?_)|refine zX (fun hb=>h3 ?_) (fun hb=>h1 ?_))<;>(clear h1 h3 K1 K3;(try have hb2:=yC hb);(try have hb2:=yD hb);(try have hb2:=yE hb);(try have hb2:=yF hb);(try have hb2:=yG hb)))|(refine fun (K2:_→AHeap→Prop) hK2=>?_)|((with_reducible refine zY ?_ ?_);decide)|((with_reducible first|refine zZ ?_ (fun K hK=>?_)|refine yA ?_ (fun K hK=>?_));(focus go_simp;done);go_simp;refine hK _ _ ?_;clear hK K)|(go_simp;(try go_bits);(try first | ((with_reducible show CallS _ _ _ _ _ _);refine CallS.mono (HK1.out _ _ (HX.out.push' _)) ?_; rintro _ _ ⟨rfl, h9⟩; rw [h9]; clear h9));refine hK2 _ _ ?_;clear hK2 K2))
    · have hz : ¬ k1 = 0 := by simpa using hb
      have hr : er = k1 := by rw [HEX.out, if_pos hz]
      exact ⟨⟨_, _, _, _, _, _, _, _, _, _, _, _, _, _, _, _, by rw [hr], fun h0 => absurd h0 (by rw [hr]; exact hz)⟩, ((HX.out.upd (by omega) _).upd (by omega) _).push' _⟩
    have HZ : k1 = 0 := by simpa using hb
    · refine Post.round_normal ⟨1, by omega, 1, by omega, rfl, (by first|go_simp<;>go_num|assumption), (by first|go_simp<;>go_num|assumption), (by first|go_simp<;>go_num|assumption), (by first|go_simp<;>go_num|assumption), (by first|go_simp<;>go_num|assumption), (by first|go_simp<;>go_num|assumption), (by first|go_simp<;>go_num|assumption), (by first|go_simp<;>go_num|assumption), (by first|go_simp<;>go_num|assumption), Lib.hid (fun h => HZ), Lib.hid (fun h => by omega), by rw [AHeap.n_push]; omega, Lib.hid (HX.out.push' _), Lib.hid ?_, Lib.hid ?_, Lib.hid ?_, Lib.hid ?_, Lib.hid ?_, Lib.hid ?_⟩
      · rw [AHeap.get_push_old hl0]; exact HG0.out
      · rw [AHeap.get_push_old hl1]; exact HG1.out
      · rw [AHeap.get_push_old hl2]; exact HG2.out
      · rw [AHeap.get_push_old hl3]; exact HG3.out
      · rw [AHeap.get_push_old hl4]; exact HG4.out
      · rw [AHeap.get_push_old hn5]; exact HG5.out
  rcases Nat.eq_or_lt_of_le (show 1 ≤ k by omega) with hk1 | hk1
  · subst hk1
    have HZ0 := HK1'.out (Nat.le_refl _)
    clear hk0
    repeat' (first|(with_reducible first|refine zA ?_|refine zB fun K hK=>?_|refine zC fun K2 hK2=>?_|refine zD ?_|refine zE ?_|refine zF ?_|refine zG ?_|refine zH ?_|refine zI ?_|refine zM ?_|refine zN ?_|refine zO ?_|refine zP ?_|refine zQ ?_|refine zR ?_)|((with_reducible refine zU (hK _ _ ?_));clear hK K)|((with_reducible refine zV ?_ ?_ fun K1 K3 d hdst h1 h3=>?_);rfl;exact yB rfl;cases hdst;go_simp)|((with_reducible refine zW fun K1 K3 h1 h3=>?_);go_simp)|((first|refine h1 ?_|refine h3 ?_);clear h1 h3 K1 K3)|((first|refine zX (fun hb=>h1 ?_) (fun hb=>h3 ?_)|refine zX (fun hb=>h3 ?_) (fun hb=>h1 ?_))<;>(clear h1 h3 K1 K3;(try have hb2:=yC hb);(try have hb2:=yD hb);(try have hb2:=yE hb);(try have hb2:=yF hb);(try have hb2:=yG hb)))|(refine fun (K2:_→AHeap→Prop) hK2=>?_)|((with_reducible refine zY ?_ ?_);decide)|((with_reducible first|refine zZ ?_ (fun K hK=>?_)|refine yA ?_ (fun K hK=>?_));(focus go_simp;done);go_simp;refine hK _ _ ?_;clear hK K)|(go_simp;(try go_bits);(try first | ((with_reducible show CallS _ _ _ _ _ _);refine CallS.mono (HK2.out _ _ (HX.out.push' _)) ?_; rintro _ _ ⟨rfl, h9⟩; rw [h9]; clear h9));refine hK2 _ _ ?_;clear hK2 K2))
    · have hz : ¬ k2 = 0 := by simpa using hb
      have hr : er = k2 := by rw [HEX.out, if_neg (by simp [HZ0]), if_pos hz]
      exact ⟨⟨_, _, _, _, _, _, _, _, _, _, _, _, _, _, _, _, by rw [hr], fun h0 => absurd h0 (by rw [hr]; exact hz)⟩, ((HX.out.upd (by omega) _).upd (by omega) _).push' _⟩
    have HZ : k2 = 0 := by simpa using hb
    · refine Post.round_normal ⟨0, by omega, 2, by omega, rfl, (by first|go_simp<;>go_num|assumption), (by first|go_simp<;>go_num|assumption), (by first|go_simp<;>go_num|assumption), (by first|go_simp<;>go_num|assumption), (by first|go_simp<;>go_num|assumption), (by first|go_simp<;>go_num|assumption), (by first|go_simp<;>go_num|assumption), (by first|go_simp<;>go_num|assumption), (by first|go_simp<;>go_num|assumption), Lib.hid (fun h => HZ0), Lib.hid (fun h => HZ), by rw [AHeap.n_push]; omega, Lib.hid (HX.out.push' _), Lib.hid ?_, Lib.hid ?_, Lib.hid ?_, Lib.hid ?_, Lib.hid ?_, Lib.hid ?_⟩
      · rw [AHeap.get_push_old hl0]; exact HG0.out
      · rw [AHeap.get_push_old hl1]; exact HG1.out
      · rw [AHeap.get_push_old hl2]; exact HG2.out
      · rw [AHeap.get_push_old hl3]; exact HG3.out
      · rw [AHeap.get_push_old hl4]; exact HG4.out
      · rw [AHeap.get_push_old hn5]; exact HG5.out
  have hk2 : k = 2 := by omega
  subst hk2
  have HZ0 := HK1'.out (by omega)
  have HZ1 := HK2'.out (by omega)
  have HER : Hid (er = if e1 ≠ 0 then e1 else e2) := Lib.hid (by rw [HEX.out, if_neg (by simp [HZ0]), if_neg (by simp [HZ1])])
  clear hk0 hk1 hk HZ0 HZ1 HEX hgp3 hgp4 hgq4 hc5 hc54 hg5
  repeat' (first|(with_reducible first|refine zA ?_|refine zB fun K hK=>?_|refine zC fun K2 hK2=>?_|refine zD ?_|refine zE ?_|refine zF ?_|refine zG ?_|refine zH ?_|refine zI ?_|refine zM ?_|refine zN ?_|refine zO ?_|refine zP ?_|refine zQ ?_|refine zR ?_)|((with_reducible refine zU (hK _ _ ?_));clear hK K)|((with_reducible refine zV ?_ ?_ fun K1 K3 d hdst h1 h3=>?_);rfl;exact yB rfl;cases hdst;go_simp)|((with_reducible refine zW fun K1 K3 h1 h3=>?_);go_simp)|((first|refine h1 ?_|refine h3 ?_);clear h1 h3 K1 K3)|((first|refine zX (fun hb=>h1 ?_) (fun hb=>h3 ?_)|refine zX (fun hb=>h3 ?_) (fun hb=>h1 ?_))<;>(clear h1 h3 K1 K3;(try have hb2:=yC hb);(try have hb2:=yD hb);(try have hb2:=yE hb);(try have hb2:=yF hb);(try have hb2:=yG hb)))|(refine fun (K2:_→AHeap→Prop) hK2=>?_)|((with_reducible refine zY ?_ ?_);decide)|((with_reducible first|refine zZ ?_ (fun K hK=>?_)|refine yA ?_ (fun K hK=>?_));(focus go_simp;done);go_simp;refine hK _ _ ?_;clear hK K)|(go_simp;(try go_bits);(try first |((with_reducible show CallS _ _ _ _ _ _);first|(refine CallS.mono (HE1.out _ _ HX.out) ?_; rintro _ H1 ⟨⟨ev, rfl, hev⟩, hx⟩; (obtain ⟨oa, on, oc, pi, fa, fn, la, ln, rfl, hi1, hi2⟩ := hev); (have HI1 := Lib.hid hi1); (have HI2 := Lib.hid hi2); (have HX1 := Lib.hid (HX.out.trans hx)); (have hn1 : H.n + 5 < H1.n := by have := hx.n; omega); (have hc01 : cellsAt H1 H.n 0 2 = some [Value.slice wa s.words.length wc, Value.slice aa s.alts.length ac] := by rw [hx.cellsAt (by omega)]; exact hc0); (have hc21 : cellsAt H1 (H.n + 2) 0 4 = some [Value.slice da d.words.length dc, .int .i64 d.beg, .int .i64 d.fin, .int .i64 d.per] := by rw [hx.cellsAt (by omega)]; exact hc2); (have hm0 : H.n < H1.n := by omega); (have hm2 : H.n + 2 < H1.n := by omega); (have hm3 : H.n + 3 < H1.n := by omega); (have hm4 : H.n + 4 < H1.n := by omega); (have hg31 : H1.get (H.n + 3) = .row [Value.slice none 0 0, .int .i64 0, Value.slice none 0 0, Value.slice none 0 0] 120 := (hx.get _ hl3).trans HG3.out); (have hg41 : H1.get (H.n + 4) = .row [Value.slice none 0 0, .int .i64 0, Value.slice none 0 0, Value.slice none 0 0] 120 := (hx.get _ hl4).trans HG4.out); (have hgp3 : ∀ o, (H1.push o).get (H.n + 3) = .row [Value.slice none 0 0, .int .i64 0, Value.slice none 0 0, Value.slice none 0 0] 120 := fun o => (AHeap.get_push_old hm3).trans hg31); (have hgq4 : ∀ o o', ((H1.upd (H.n + 3) o).push o').get (H.n + 4) = .row [Value.slice none 0 0, .int .i64 0, Value.slice none 0 0, Value.slice none 0 0] 120 := fun o o' => (AHeap.get_push_old (by rw [AHeap.n_upd]; exact hm4)).trans ((AHeap.get_upd_ne (by omega)).trans hg41)); clear hi1 hi2 hx hc0 hc1 hc2 hg0 hg1 hg2 hg3 hg4)|(refine CallS.mono (HE2.out _ _ (HX1.out.push' _)) ?_; rintro _ H2 ⟨⟨ev, rfl, hev⟩, hx⟩; (obtain ⟨oa', on', oc', pi', fa', fn', la', ln', rfl, hj1, hj2⟩ := hev); (have HJ1 := Lib.hid hj1); (have HJ2 := Lib.hid hj2); (have HX2 := Lib.hid ((HX1.out.push' _).trans hx)); (have HI12 := Lib.hid ((HI1.out.ext (Ext.push _)).ext hx)); (have HI22 := Lib.hid ((HI2.out.ext (Ext.push _)).ext hx)); (have HY2 := Lib.hid ((Ext.push _).trans hx)); (have hn2 : H1.n < H2.n := by have := hx.n; rw [AHeap.n_push] at this; omega); (have hcx : cellsAt H2 H1.n 0 4 = some [.slice oa on oc, .int .i64 pi, .slice fa fn fn, .slice la ln ln] := by rw [hx.cellsAt (by rw [AHeap.n_push]; omega)]; simp [cellsAt, get_at (H := H1) rfl]); (have ho3 : H.n + 3 < H2.n := by omega); (have ho4 : H.n + 4 < H2.n := by omega); (have hg32 : H2.get (H.n + 3) = .row [Value.slice none 0 0, .int .i64 0, Value.slice none 0 0, Value.slice none 0 0] 120 := (hx.get _ (by rw [AHeap.n_push]; omega)).trans (hgp3 _)); (have hg42 : H2.get (H.n + 4) = .row [Value.slice none 0 0, .int .i64 0, Value.slice none 0 0, Value.slice none 0 0] 120 := (hx.get _ (by rw [AHeap.n_push]; omega)).trans ((AHeap.get_push_old hm4).trans hg41)); (have hgp32 : ∀ o, (H2.push o).get (H.n + 3) = .row [Value.slice none 0 0, .int .i64 0, Value.slice none 0 0, Value.slice none 0 0] 120 := fun o => (AHeap.get_push_old ho3).trans hg32); (have hgq42 : ∀ o o', ((H2.upd (H.n + 3) o).push o').get (H.n + 4) = .row [Value.slice none 0 0, .int .i64 0, Value.slice none 0 0, Value.slice none 0 0] 120 := fun o o' => (AHeap.get_push_old (by rw [AHeap.n_upd]; exact ho4)).trans ((AHeap.get_upd_ne (by omega)).trans hg42)); clear hj1 hj2 hx)));refine hK2 _ _ ?_;clear hK2 K2))
  · have hz : ¬ e1 = 0 := by simpa using hb
    have hr : er = e1 := by rw [HER.out, if_pos hz]
    exact ⟨⟨_, _, _, _, _, _, _, _, _, _, _, _, _, _, _, _, by rw [hr], fun h0 => absurd h0 (by rw [hr]; exact hz)⟩, ((HX1.out.upd (by omega) _).upd (by omega) _).push' _⟩
  have hz : e1 = 0 := by simpa using hb
  have hr : er = e2 := by rw [HER.out, if_neg (by simp [hz])]
  have hne1 : ¬ (H1.n = H.n + 3) := by omega
  have hne2 : ¬ (H1.n = H.n + 4) := by omega
  have hne3 : ¬ (H2.n = H.n + 3) := by omega
  have hne4 : ¬ (H2.n = H.n + 4) := by omega
  clear HER
  repeat' (first|(with_reducible first|refine zA ?_|refine zB fun K hK=>?_|refine zC fun K2 hK2=>?_|refine zD ?_|refine zE ?_|refine zF ?_|refine zG ?_|refine zH ?_|refine zI ?_|refine zM ?_|refine zN ?_|refine zO ?_|refine zP ?_|refine zQ ?_|refine zR ?_)|((with_reducible refine zU (hK _ _ ?_));clear hK K)|((with_reducible refine zV ?_ ?_ fun K1 K3 d hdst h1 h3=>?_);rfl;exact yB rfl;cases hdst;go_simp)|((with_reducible refine zW fun K1 K3 h1 h3=>?_);go_simp)|((first|refine h1 ?_|refine h3 ?_);clear h1 h3 K1 K3)|((first|refine zX (fun hb=>h1 ?_) (fun hb=>h3 ?_)|refine zX (fun hb=>h3 ?_) (fun hb=>h1 ?_))<;>(clear h1 h3 K1 K3;(try have hb2:=yC hb);(try have hb2:=yD hb);(try have hb2:=yE hb);(try have hb2:=yF hb);(try have hb2:=yG hb)))|(refine fun (K2:_→AHeap→Prop) hK2=>?_)|((with_reducible refine zY ?_ ?_);decide)|((with_reducible first|refine zZ ?_ (fun K hK=>?_)|refine yA ?_ (fun K hK=>?_));(focus go_simp;done);go_simp;refine hK _ _ ?_;clear hK K)|((with_reducible refine yH mixed rfl ?_ 20 fun K0 hK0=>?_);kernel_rfl)|(with_reducible first|exact yI|exact yJ|refine yK ?_|refine yL ?_|refine yM ?_)|((with_reducible first|refine yN ?_ ?_|refine yO ?_ ?_|refine yP ?_ ?_);rfl)|((with_reducible refine yQ ?_ ?_);rfl;refine hK0 _ _ ?_;clear hK0 K0)|((with_reducible refine yR ?_ ?_ ?_ ?_);rfl;rfl;rfl)|((with_reducible refine yS ?_ ?_ ?_ fun K2 hK2=>?_);rfl;rfl;exact yB rfl)|((with_reducible refine yT ?_ ?_ ?_ ?_ fun K1 K3 d hdst h1 h3=>?_);rfl;rfl;rfl;exact yB rfl;cases hdst;go_simp)|((with_reducible refine yU ?_ ?_ ?_ ?_ fun K1 K3 d hdst h1 h3=>?_);rfl;rfl;rfl;exact yB rfl;cases hdst;go_simp)|((with_reducible refine yV ?_ ?_ (fun K2 hK2=>?_) ?_);rfl;exact yB rfl)|((with_reducible refine yW ?_ ?_ ?_ ?_ (fun K2 hK2=>?_) ?_);rfl;exact yB rfl;rfl;(focus go_simp;done))|((with_reducible refine yX ?_ ?_ ?_ (fun K2 hK2=>?_) ?_);rfl;rfl;exact yB rfl)|((with_reducible refine yY ?_ ?_ (fun K2 hK2=>?_) ?_);rfl;rfl)|((with_reducible refine yZ ?_ ?_);(first|rfl|(dsimp only;decide +kernel)))|((with_reducible refine xA ?_ ?_);(focus go_simp;done))|(go_simp;(try go_bits);(first|(refine hK2 _ _ ?_ ?_<;>clear hK2 K2)|(refine hK2 _ _ ?_;clear hK2 K2))))
  refine ⟨⟨_, _, _, _, _, _, _, _, _, _, _, _, _, _, _, _, by rw [hr], fun _ => ⟨?_, ?_, ?_, ?_⟩⟩, ((HX2.out.upd (by omega) _).upd (by omega) _).push' _⟩
  · exact ((own_upd (own_upd HI12.out (by omega)) (by omega)).ext (Ext.push _)).mono (by omega)
  · exact ((own_upd (own_upd HI22.out (by omega)) (by omega)).ext (Ext.push _)).mono (by omega)
  · exact ((own_upd (own_upd HJ1.out (by rw [AHeap.n_push]; omega)) (by rw [AHeap.n_push]; omega)).ext (Ext.push _)).mono (by rw [AHeap.n_push]; omega)
  · exact ((own_upd (own_upd HJ2.out (by rw [AHeap.n_push]; omega)) (by rw [AHeap.n_push]; omega)).ext (Ext.push _)).mono (by rw [AHeap.n_push]; omega)
end Go.Proofs.Try
namespace Go.Proofs.Try
open Go Go.Am Go.RowKit Go.Co
set_option maxRecDepth 100000

def bef (days : List Int) (a : Alt) : Bool := decide (a.day ≤ days.getD a.to.toNat 0)

theorem wasBefore_s {loops : List (Nat × LInfo)} {H : AHeap} {dv : Value} {days : List Int} {a : Alt} (hd : Ints H dv days) (h0 : 0 ≤ a.to) (h1 : a.to < days.length) : CallS Try.prog loops 74 [a.val, dv] H fun r H' => r = .bool (bef days a) ∧ H' = H := by
  refine CallS.forget (R := fun v => v = .bool (bef days a)) (by rintro v rfl; rfl) ?_
  obtain ⟨i1, i2, i3, i4, i5, i6⟩ := a
  obtain ⟨k, rfl⟩ : ∃ k : Nat, i5 = (k : Int) := ⟨i5.toNat, by simp only at h0; omega⟩
  have hk : k < days.length := by simp only at h1; omega
  obtain ⟨hdl, da, dc, rfl⟩ := hd.slice
  obtain ⟨b, o, sp, rfl, hb, hx⟩ := hd.at_ hk
  have HB : Hid (bef days ⟨i1, i2, i3, i4, (k : Int), i6⟩ = decide (i3 ≤ days[k])) := Lib.hid (by simp [bef, List.getD_eq_getElem?_getD, hk])
  generalize days[k] = y at hx HB
  have hk2 : (k : Int) < (days.length : Nat) := by omega
  clear hd h0 h1 hdl
  rw [HB.out]
  clear HB
  refine CallS.enter' Try.func74 rfl Try.ntmps74 (by simp) fun f hd hf => ?_
  have f0 := hf 0
  have f1 := hf 1
  simp [Alt.val] at f0 f1
  clear hf
  repeat' (first|(with_reducible first|refine zA ?_|refine zB fun K hK=>?_|refine zC fun K2 hK2=>?_|refine zD ?_|refine zE ?_|refine zF ?_|refine zG ?_|refine zH ?_|refine zI ?_|refine zM ?_|refine zN ?_|refine zO ?_|refine zP ?_|refine zQ ?_|refine zR ?_)|((with_reducible refine zU (hK _ _ ?_));clear hK K)|((with_reducible refine zV ?_ ?_ fun K1 K3 d hdst h1 h3=>?_);rfl;exact yB rfl;cases hdst;go_simp)|((with_reducible refine zW fun K1 K3 h1 h3=>?_);go_simp)|((first|refine h1 ?_|refine h3 ?_);clear h1 h3 K1 K3)|((first|refine zX (fun hb=>h1 ?_) (fun hb=>h3 ?_)|refine zX (fun hb=>h3 ?_) (fun hb=>h1 ?_))<;>(clear h1 h3 K1 K3;(try have hb2:=yC hb);(try have hb2:=yD hb);(try have hb2:=yE hb);(try have hb2:=yF hb);(try have hb2:=yG hb)))|(refine fun (K2:_→AHeap→Prop) hK2=>?_)|((with_reducible refine zY ?_ ?_);decide)|((with_reducible first|refine zZ ?_ (fun K hK=>?_)|refine yA ?_ (fun K hK=>?_));(focus go_simp;done);go_simp;refine hK _ _ ?_;clear hK K)|((with_reducible refine yH mixed rfl ?_ 20 fun K0 hK0=>?_);kernel_rfl)|(with_reducible first|exact yI|exact yJ|refine yK ?_|refine yL ?_|refine yM ?_)|((with_reducible first|refine yN ?_ ?_|refine yO ?_ ?_|refine yP ?_ ?_);rfl)|((with_reducible refine yQ ?_ ?_);rfl;refine hK0 _ _ ?_;clear hK0 K0)|((with_reducible refine yR ?_ ?_ ?_ ?_);rfl;rfl;rfl)|((with_reducible refine yS ?_ ?_ ?_ fun K2 hK2=>?_);rfl;rfl;exact yB rfl)|((with_reducible refine yT ?_ ?_ ?_ ?_ fun K1 K3 d hdst h1 h3=>?_);rfl;rfl;rfl;exact yB rfl;cases hdst;go_simp)|((with_reducible refine yU ?_ ?_ ?_ ?_ fun K1 K3 d hdst h1 h3=>?_);rfl;rfl;rfl;exact yB rfl;cases hdst;go_simp)|((with_reducible refine yV ?_ ?_ (fun K2 hK2=>?_) ?_);rfl;exact yB rfl)|((with_reducible refine yW ?_ ?_ ?_ ?_ (fun K2 hK2=>?_) ?_);rfl;exact yB rfl;rfl;(focus go_simp;done))|((with_reducible refine yX ?_ ?_ ?_ (fun K2 hK2=>?_) ?_);rfl;rfl;exact yB rfl)|((with_reducible refine yY ?_ ?_ (fun K2 hK2=>?_) ?_);rfl;rfl)|((with_reducible refine yZ ?_ ?_);(first|rfl|(dsimp only;decide +kernel)))|((with_reducible refine xA ?_ ?_);(focus go_simp;done))|(go_simp;(try go_bits);(first|(refine hK2 _ _ ?_ ?_<;>clear hK2 K2)|(refine hK2 _ _ ?_;clear hK2 K2))))
  exact ⟨rfl, (Ext.refl _).push' _⟩
theorem seen1_s {loops : List (Nat × LInfo)} {H : AHeap} {q : Nat} {dv : Value} {days : List Int} {a : Alt} (hq : q < H.n) (hc : cellAt H q 2 = some dv) (hdy : Ints H dv days) (h0 : 0 ≤ a.to) (h1 : a.to < days.length) : CallS Try.prog loops 73 (a.val :: #[Value.pointer (some ⟨q, 0, none⟩)].toList) H fun r H' => r = .bool (bef days a) ∧ H' = H := by
  refine CallS.forget (R := fun v => v = .bool (bef days a)) (by rintro v rfl; rfl) ?_
  have HW := Lib.hid (fun (loops : List (Nat × LInfo)) (H' : AHeap) (hx : Ext H H') => wasBefore_s (loops := loops) (hdy.ext hx) h0 h1)
  obtain ⟨hdl, da, dc, rfl⟩ := hdy.slice
  generalize bef days a = bb at HW
  obtain ⟨i1, i2, i3, i4, i5, i6⟩ := a
  clear hdy h0 h1
  refine CallS.enter' Try.func73 rfl Try.ntmps73 (by simp) fun f hd hf => ?_
  have f0 := hf 0
  have f1 := hf 1
  simp [Alt.val] at f0 f1
  clear hf
  repeat' (first|(with_reducible first|refine zA ?_|refine zB fun K hK=>?_|refine zC fun K2 hK2=>?_|refine zD ?_|refine zE ?_|refine zF ?_|refine zG ?_|refine zH ?_|refine zI ?_|refine zM ?_|refine zN ?_|refine zO ?_|refine zP ?_|refine zQ ?_|refine zR ?_)|((with_reducible refine zU (hK _ _ ?_));clear hK K)|((with_reducible refine zV ?_ ?_ fun K1 K3 d hdst h1 h3=>?_);rfl;exact yB rfl;cases hdst;go_simp)|((with_reducible refine zW fun K1 K3 h1 h3=>?_);go_simp)|((first|refine h1 ?_|refine h3 ?_);clear h1 h3 K1 K3)|((first|refine zX (fun hb=>h1 ?_) (fun hb=>h3 ?_)|refine zX (fun hb=>h3 ?_) (fun hb=>h1 ?_))<;>(clear h1 h3 K1 K3;(try have hb2:=yC hb);(try have hb2:=yD hb);(try have hb2:=yE hb);(try have hb2:=yF hb);(try have hb2:=yG hb)))|(refine fun (K2:_→AHeap→Prop) hK2=>?_)|((with_reducible refine zY ?_ ?_);decide)|((with_reducible first|refine zZ ?_ (fun K hK=>?_)|refine yA ?_ (fun K hK=>?_));(focus go_simp;done);go_simp;refine hK _ _ ?_;clear hK K)|(go_simp;(try go_bits);(try first | ((with_reducible show CallS _ _ _ _ _ _);refine CallS.mono (HW.out _ _ (Ext.push _)) ?_; rintro _ _ ⟨rfl, h9⟩; rw [h9]; clear h9));refine hK2 _ _ ?_;clear hK2 K2))
  exact ⟨rfl, (Ext.refl _).push' _⟩
theorem seen2_s {loops : List (Nat × LInfo)} {H : AHeap} {q : Nat} {dv : Value} {days : List Int} {a : Alt} (hq : q < H.n) (hc : cellAt H q 3 = some dv) (hdy : Ints H dv days) (h0 : 0 ≤ a.to) (h1 : a.to < days.length) : CallS Try.prog loops 75 (a.val :: #[Value.pointer (some ⟨q, 0, none⟩)].toList) H fun r H' => r = .bool (bef days a) ∧ H' = H := by
  refine CallS.forget (R := fun v => v = .bool (bef days a)) (by rintro v rfl; rfl) ?_
  have HW := Lib.hid (fun (loops : List (Nat × LInfo)) (H' : AHeap) (hx : Ext H H') => wasBefore_s (loops := loops) (hdy.ext hx) h0 h1)
  obtain ⟨hdl, da, dc, rfl⟩ := hdy.slice
  generalize bef days a = bb at HW
  obtain ⟨i1, i2, i3, i4, i5, i6⟩ := a
  clear hdy h0 h1
  refine CallS.enter' Try.func75 rfl Try.ntmps75 (by simp) fun f hd hf => ?_
  have f0 := hf 0
  have f1 := hf 1
  simp [Alt.val] at f0 f1
  clear hf
  repeat' (first|(with_reducible first|refine zA ?_|refine zB fun K hK=>?_|refine zC fun K2 hK2=>?_|refine zD ?_|refine zE ?_|refine zF ?_|refine zG ?_|refine zH ?_|refine zI ?_|refine zM ?_|refine zN ?_|refine zO ?_|refine zP ?_|refine zQ ?_|refine zR ?_)|((with_reducible refine zU (hK _ _ ?_));clear hK K)|((with_reducible refine zV ?_ ?_ fun K1 K3 d hdst h1 h3=>?_);rfl;exact yB rfl;cases hdst;go_simp)|((with_reducible refine zW fun K1 K3 h1 h3=>?_);go_simp)|((first|refine h1 ?_|refine h3 ?_);clear h1 h3 K1 K3)|((first|refine zX (fun hb=>h1 ?_) (fun hb=>h3 ?_)|refine zX (fun hb=>h3 ?_) (fun hb=>h1 ?_))<;>(clear h1 h3 K1 K3;(try have hb2:=yC hb);(try have hb2:=yD hb);(try have hb2:=yE hb);(try have hb2:=yF hb);(try have hb2:=yG hb)))|(refine fun (K2:_→AHeap→Prop) hK2=>?_)|((with_reducible refine zY ?_ ?_);decide)|((with_reducible first|refine zZ ?_ (fun K hK=>?_)|refine yA ?_ (fun K hK=>?_));(focus go_simp;done);go_simp;refine hK _ _ ?_;clear hK K)|(go_simp;(try go_bits);(try first | ((with_reducible show CallS _ _ _ _ _ _);refine CallS.mono (HW.out _ _ (Ext.push _)) ?_; rintro _ _ ⟨rfl, h9⟩; rw [h9]; clear h9));refine hK2 _ _ ?_;clear hK2 K2))
  exact ⟨rfl, (Ext.refl _).push' _⟩
theorem betw1_s {loops : List (Nat × LInfo)} {H : AHeap} {q p : Nat} {dv ev : Value} {days mays : List Int} {a : Alt} (hq : q < H.n) (hp : p < H.n) (hc : cellAt H q 3 = some dv) (hc2 : cellAt H p 2 = some ev) (hdy : Ints H dv days) (hey : Ints H ev mays) (h0 : 0 ≤ a.to) (h1 : a.to < days.length) (h2 : a.to < mays.length) : CallS Try.prog loops 81 (a.val :: #[Value.pointer (some ⟨q, 0, none⟩), Value.pointer (some ⟨p, 0, none⟩)].toList) H fun r H' => r = .bool (!bef days a && bef mays a) ∧ H' = H := by
  refine CallS.forget (R := fun v => v = .bool (!bef days a && bef mays a)) (by rintro v rfl; rfl) ?_
  have HW := Lib.hid (fun (loops : List (Nat × LInfo)) (H' : AHeap) (hx : Ext H H') => wasBefore_s (loops := loops) (hdy.ext hx) h0 h1)
  have HV := Lib.hid (fun (loops : List (Nat × LInfo)) (H' : AHeap) (hx : Ext H H') => wasBefore_s (loops := loops) (hey.ext hx) h0 h2)
  obtain ⟨hdl, da, dc, rfl⟩ := hdy.slice
  obtain ⟨hel, ea, ec, rfl⟩ := hey.slice
  generalize bef days a = bb at HW
  generalize bef mays a = cc at HV
  obtain ⟨i1, i2, i3, i4, i5, i6⟩ := a
  clear hdy hey h0 h1 h2
  refine CallS.enter' Try.func81 rfl Try.ntmps81 (by simp) fun f hd hf => ?_
  have f0 := hf 0
  have f1 := hf 1
  have f2 := hf 2
  simp [Alt.val] at f0 f1 f2
  clear hf
  repeat' (first|(with_reducible first|refine zA ?_|refine zB fun K hK=>?_|refine zC fun K2 hK2=>?_|refine zD ?_|refine zE ?_|refine zF ?_|refine zG ?_|refine zH ?_|refine zI ?_|refine zM ?_|refine zN ?_|refine zO ?_|refine zP ?_|refine zQ ?_|refine zR ?_)|((with_reducible refine zU (hK _ _ ?_));clear hK K)|((with_reducible refine zV ?_ ?_ fun K1 K3 d hdst h1 h3=>?_);rfl;exact yB rfl;cases hdst;go_simp)|((with_reducible refine zW fun K1 K3 h1 h3=>?_);go_simp)|((first|refine h1 ?_|refine h3 ?_);clear h1 h3 K1 K3)|((first|refine zX (fun hb=>h1 ?_) (fun hb=>h3 ?_)|refine zX (fun hb=>h3 ?_) (fun hb=>h1 ?_))<;>(clear h1 h3 K1 K3;(try have hb2:=yC hb);(try have hb2:=yD hb);(try have hb2:=yE hb);(try have hb2:=yF hb);(try have hb2:=yG hb)))|(refine fun (K2:_→AHeap→Prop) hK2=>?_)|((with_reducible refine zY ?_ ?_);decide)|((with_reducible first|refine zZ ?_ (fun K hK=>?_)|refine yA ?_ (fun K hK=>?_));(focus go_simp;done);go_simp;refine hK _ _ ?_;clear hK K)|(go_simp;(try go_bits);(try first |((with_reducible show CallS _ _ _ _ _ _);first|(refine CallS.mono (HW.out _ _ (Ext.push _)) ?_; rintro _ _ ⟨rfl, h9⟩; rw [h9]; clear h9)|(refine CallS.mono (HV.out _ _ (Ext.push _)) ?_; rintro _ _ ⟨rfl, h9⟩; rw [h9]; clear h9)));refine hK2 _ _ ?_;clear hK2 K2))
  all_goals (refine ⟨?_, (Ext.refl _).push' _⟩; simp_all)
theorem betw2_s {loops : List (Nat × LInfo)} {H : AHeap} {q p : Nat} {dv ev : Value} {days mays : List Int} {a : Alt} (hq : q < H.n) (hp : p < H.n) (hc : cellAt H q 2 = some dv) (hc2 : cellAt H p 3 = some ev) (hdy : Ints H dv days) (hey : Ints H ev mays) (h0 : 0 ≤ a.to) (h1 : a.to < days.length) (h2 : a.to < mays.length) : CallS Try.prog loops 82 (a.val :: #[Value.pointer (some ⟨q, 0, none⟩), Value.pointer (some ⟨p, 0, none⟩)].toList) H fun r H' => r = .bool (!bef days a && bef mays a) ∧ H' = H := by
  refine CallS.forget (R := fun v => v = .bool (!bef days a && bef mays a)) (by rintro v rfl; rfl) ?_
  have HW := Lib.hid (fun (loops : List (Nat × LInfo)) (H' : AHeap) (hx : Ext H H') => wasBefore_s (loops := loops) (hdy.ext hx) h0 h1)
  have HV := Lib.hid (fun (loops : List (Nat × LInfo)) (H' : AHeap) (hx : Ext H H') => wasBefore_s (loops := loops) (hey.ext hx) h0 h2)
  obtain ⟨hdl, da, dc, rfl⟩ := hdy.slice
  obtain ⟨hel, ea, ec, rfl⟩ := hey.slice
  generalize bef days a = bb at HW
  generalize bef mays a = cc at HV
  obtain ⟨i1, i2, i3, i4, i5, i6⟩ := a
  clear hdy hey h0 h1 h2
  refine CallS.enter' Try.func82 rfl Try.ntmps82 (by simp) fun f hd hf => ?_
  have f0 := hf 0
  have f1 := hf 1
  have f2 := hf 2
  simp [Alt.val] at f0 f1 f2
  clear hf
  repeat' (first|(with_reducible first|refine zA ?_|refine zB fun K hK=>?_|refine zC fun K2 hK2=>?_|refine zD ?_|refine zE ?_|refine zF ?_|refine zG ?_|refine zH ?_|refine zI ?_|refine zM ?_|refine zN ?_|refine zO ?_|refine zP ?_|refine zQ ?_|refine zR ?_)|((with_reducible refine zU (hK _ _ ?_));clear hK K)|((with_reducible refine zV ?_ ?_ fun K1 K3 d hdst h1 h3=>?_);rfl;exact yB rfl;cases hdst;go_simp)|((with_reducible refine zW fun K1 K3 h1 h3=>?_);go_simp)|((first|refine h1 ?_|refine h3 ?_);clear h1 h3 K1 K3)|((first|refine zX (fun hb=>h1 ?_) (fun hb=>h3 ?_)|refine zX (fun hb=>h3 ?_) (fun hb=>h1 ?_))<;>(clear h1 h3 K1 K3;(try have hb2:=yC hb);(try have hb2:=yD hb);(try have hb2:=yE hb);(try have hb2:=yF hb);(try have hb2:=yG hb)))|(refine fun (K2:_→AHeap→Prop) hK2=>?_)|((with_reducible refine zY ?_ ?_);decide)|((with_reducible first|refine zZ ?_ (fun K hK=>?_)|refine yA ?_ (fun K hK=>?_));(focus go_simp;done);go_simp;refine hK _ _ ?_;clear hK K)|(go_simp;(try go_bits);(try first |((with_reducible show CallS _ _ _ _ _ _);first|(refine CallS.mono (HW.out _ _ (Ext.push _)) ?_; rintro _ _ ⟨rfl, h9⟩; rw [h9]; clear h9)|(refine CallS.mono (HV.out _ _ (Ext.push _)) ?_; rintro _ _ ⟨rfl, h9⟩; rw [h9]; clear h9)));refine hK2 _ _ ?_;clear hK2 K2))
  all_goals (refine ⟨?_, (Ext.refl _).push' _⟩; simp_all)
end Go.Proofs.Try
namespace Go.Proofs.Try
open Go Go.Am Go.RowKit Go.Co
set_option maxRecDepth 100000

theorem errGo_all (n : Int) : ∀ (l : List Alt) (day : Int) (seen : List Int), errGo n day seen l = 0 → (∀ a, a ∈ l → a.right n = true) ∧ (l.map Alt.id).Nodup ∧ ∀ a, a ∈ l → ¬ a.id ∈ seen
  | [], _, _, _ => ⟨fun _ h => (by cases h), List.nodup_nil, fun _ h => (by cases h)⟩
  | a :: t, day, seen, h => by
    rw [errGo] at h
    split at h
    · cases h
    · rename_i h1
      split at h
      · cases h
      · rename_i h2
        obtain ⟨i1, i2, i3⟩ := errGo_all n t _ _ h
        refine ⟨fun b hb => ?_, ?_, fun b hb => ?_⟩
        · rcases List.mem_cons.1 hb with rfl | hb
          · simp at h1; exact h1.1
          · exact i1 b hb
        · rw [List.map_cons, List.nodup_cons]
          refine ⟨fun hm => ?_, i2⟩
          obtain ⟨b, hb, hbe⟩ := List.mem_map.1 hm
          exact i3 b hb (by rw [hbe]; simp)
        · rcases List.mem_cons.1 hb with rfl | hb
          · exact h2
          · intro hc; exact i3 b hb (by simp [hc])
theorem err_alts {s : Sheet} (h : err s = 0) : (∀ a, a ∈ s.alts → 0 ≤ a.frm ∧ a.frm ≤ a.to ∧ a.to < s.words.length ∧ 0 ≤ a.day ∧ a.day ≤ 730) ∧ (s.alts.map Alt.id).Nodup := by
  have hg : errGo s.words.length 0 [] s.alts = 0 := by
    unfold err at h
    split at h
    · cases h
    · split at h
      · cases h
      · exact h
  obtain ⟨h1, h2, -⟩ := errGo_all _ _ _ _ hg
  refine ⟨fun a ha => ?_, h2⟩
  have := h1 a ha
  simp only [Alt.right, Bool.and_eq_true, win_iff] at this
  omega

def sureL (s : Sheet) (c : Copy) : List Int := if errExt s c = 0 then idsL s (bef (firstL s c)) else []
def maybeL (s : Sheet) (c : Copy) : List Int := if errExt s c = 0 then idsL s (bef (lastL s c)) else []
theorem ids_own {H : AHeap} {bs : Nat} {v : Value} {s : Sheet} {acc : Alt → Bool} (h : Own H bs v 3 1 ((idsL s acc).map (Value.int .i64))) (hn : s.alts.length ≤ 12) : Ints H v (idsL s acc) :=
  ints_of_own h (by
    have := List.length_filter_le acc s.alts
    rw [idsL, sortL_len, List.length_map]; omega)
theorem ints_nil (H : AHeap) : Ints H (.slice none 0 0) [] := ⟨rfl, by simp, none, 0, rfl, by simp⟩

set_option maxHeartbeats 2000000 in
theorem seen_e {loops : List (Nat × LInfo)} {H : AHeap} {sv cv : Value} {s : Sheet} {c : Copy} (hs : SheetV H sv s) (hc : CopyV H cv c) (hn : errExt s c = 0 → s.alts.length ≤ 12) : CallS Try.prog loops 31 [sv, cv] H fun r H' => (∃ av bv, r = .tuple #[av, bv, .int .i64 (errExt s c)] ∧ Ints H' av (sureL s c) ∧ Ints H' bv (maybeL s c)) ∧ Ext H H' := by
  have HS := Lib.hid hs
  have HC := Lib.hid hc
  obtain ⟨wv, av, rfl, hw, ha⟩ := hs
  obtain ⟨hwl, wa, wc, rfl⟩ := hw.slice
  obtain ⟨hal, aa, ac, rfl⟩ := ha.slice
  obtain ⟨cv, rfl, hcw⟩ := hc
  obtain ⟨hcl, ca, cc, rfl⟩ := hcw.slice
  clear hw ha hcw
  have HE := Lib.hid (fun (loops : List (Nat × LInfo)) (H' : AHeap) (hx : Ext H H') => extentOf_x (loops := loops) (HS.out.ext hx) (HC.out.ext hx))
  have HSL : Hid (sureL s c = if errExt s c = 0 then idsL s (bef (firstL s c)) else []) := Lib.hid rfl
  have HML : Hid (maybeL s c = if errExt s c = 0 then idsL s (bef (lastL s c)) else []) := Lib.hid rfl
  have HB : Hid (errExt s c = 0 → ∀ a, a ∈ s.alts → 0 ≤ a.to ∧ a.to < (firstL s c).length ∧ a.to < (lastL s c).length) := Lib.hid (fun h a ha => by
    obtain ⟨g1, -, -, -, g2, g3, -⟩ := ends_n h
    have := (err_alts (errCopy_ok g1).1).1 a ha
    rw [g2, g3]; omega)
  have HI := Lib.hid (fun (loops : List (Nat × LInfo)) (H' : AHeap) (hx : Ext H H') (h12 : s.alts.length ≤ 12) (g : FuncId) (caps : Array Value) (acc : Alt → Bool) (hok : okFn Try.prog g = true) (hacc : ∀ (loops : List (Nat × LInfo)) (H2 : AHeap) (a : Alt), Ext H' H2 → a ∈ s.alts → CallS Try.prog loops g (a.val :: caps.toList) H2 fun r H'' => r = .bool (acc a) ∧ H'' = H2) => idsOf_o (loops := loops) (HS.out.ext hx) h12 hok hacc)
  have HN := Lib.hid hn
  clear hn
  generalize sureL s c = S1 at HSL
  generalize maybeL s c = S2 at HML
  generalize errExt s c = er at HE HSL HML HB HN
  have HX1 : Hid (Ext H ((H.push (.row [Value.slice wa s.words.length wc, Value.slice aa s.alts.length ac] 25)).push (.row [Value.slice ca c.words.length cc, .int .i64 c.beg, .int .i64 c.fin, .int .i64 c.per] 27))) := Lib.hid (((Ext.refl _).push' _).push' _)
  have ok73 : okFn Try.prog 73 = true := by kernel_rfl
  have ok75 : okFn Try.prog 75 = true := by kernel_rfl
  refine CallS.enter' Try.func31 rfl Try.ntmps31 (by simp) fun f hd hf => ?_
  have f0 := hf 0
  have f1 := hf 1
  simp at f0 f1
  clear hf
  repeat' (first|(with_reducible first|refine zA ?_|refine zB fun K hK=>?_|refine zC fun K2 hK2=>?_|refine zD ?_|refine zE ?_|refine zF ?_|refine zG ?_|refine zH ?_|refine zI ?_|refine zM ?_|refine zN ?_|refine zO ?_|refine zP ?_|refine zQ ?_|refine zR ?_)|((with_reducible refine zU (hK _ _ ?_));clear hK K)|((with_reducible refine zV ?_ ?_ fun K1 K3 d hdst h1 h3=>?_);rfl;exact yB rfl;cases hdst;go_simp)|((with_reducible refine zW fun K1 K3 h1 h3=>?_);go_simp)|((first|refine h1 ?_|refine h3 ?_);clear h1 h3 K1 K3)|((first|refine zX (fun hb=>h1 ?_) (fun hb=>h3 ?_)|refine zX (fun hb=>h3 ?_) (fun hb=>h1 ?_))<;>(clear h1 h3 K1 K3;(try have hb2:=yC hb);(try have hb2:=yD hb);(try have hb2:=yE hb);(try have hb2:=yF hb);(try have hb2:=yG hb)))|(refine fun (K2:_→AHeap→Prop) hK2=>?_)|((with_reducible refine zY ?_ ?_);decide)|((with_reducible first|refine zZ ?_ (fun K hK=>?_)|refine yA ?_ (fun K hK=>?_));(focus go_simp;done);go_simp;refine hK _ _ ?_;clear hK K)|(go_simp;(try go_bits);(try first | ((with_reducible show CallS _ _ _ _ _ _);refine CallS.mono (HE.out _ _ HX1.out) ?_; rintro _ H1 ⟨⟨ev, rfl, hev⟩, hx⟩; (obtain ⟨oa, on, oc, pi, fa, fn, la, ln, rfl, hi1, hi2⟩ := hev); (have HI1 := Lib.hid hi1); (have HI2 := Lib.hid hi2); (have HX2 := Lib.hid (HX1.out.trans hx)); (have hn1 : H.n < H1.n := by have := hx.n; simp only [AHeap.n_push] at this; omega); (have hc01 : cellsAt H1 H.n 0 2 = some [Value.slice wa s.words.length wc, Value.slice aa s.alts.length ac] := by rw [hx.cellsAt (by simp only [AHeap.n_push]; omega), cellsAt_push, if_neg (by simp only [AHeap.n_push]; omega), cellsAt_push, if_pos rfl]; rfl); clear hi1 hi2 hx));refine hK2 _ _ ?_;clear hK2 K2))
  · have hz : ¬ er = 0 := by simpa using hb
    refine ⟨⟨_, _, rfl, ?_, ?_⟩, HX2.out.push' _⟩
    · rw [HSL.out, if_neg hz]; exact ints_nil _
    · rw [HML.out, if_neg hz]; exact ints_nil _
  have hz : er = 0 := by simpa using hb
  have h12 := HN.out hz
  have hI1 : Ints H1 (.slice fa fn fn) (firstL s c) := ints_of_own HI1.out (ends_len s c).1
  have hI2 : Ints H1 (.slice la ln ln) (lastL s c) := ints_of_own HI2.out (ends_len s c).2
  have HC1 := Lib.hid (fun (loops : List (Nat × LInfo)) (H3 : AHeap) (hx3 : Ext (H1.push (.row [.slice oa on oc, .int .i64 pi, .slice fa fn fn, .slice la ln ln] 120)) H3) => HI.out loops H3 ((HX2.out.push' _).trans hx3) h12 73 #[.pointer (some ⟨H1.n, 0, none⟩)] (bef (firstL s c)) ok73 (fun loops H2 a hx ha => seen1_s (by have h1 := hx3.n; have h2 := hx.n; rw [AHeap.n_push] at h1; omega) (by have h1 := hx3.n; rw [AHeap.n_push] at h1; rw [hx.cellAt (by omega), hx3.cellAt (by rw [AHeap.n_push]; omega), cellAt_new]; rfl) (((hI1.ext (Ext.push _)).ext hx3).ext hx) (HB.out hz a ha).1 (HB.out hz a ha).2.1))
  have HC2 := Lib.hid (fun (loops : List (Nat × LInfo)) (H3 : AHeap) (hx3 : Ext (H1.push (.row [.slice oa on oc, .int .i64 pi, .slice fa fn fn, .slice la ln ln] 120)) H3) => HI.out loops H3 ((HX2.out.push' _).trans hx3) h12 75 #[.pointer (some ⟨H1.n, 0, none⟩)] (bef (lastL s c)) ok75 (fun loops H2 a hx ha => seen2_s (by have h1 := hx3.n; have h2 := hx.n; rw [AHeap.n_push] at h1; omega) (by have h1 := hx3.n; rw [AHeap.n_push] at h1; rw [hx.cellAt (by omega), hx3.cellAt (by rw [AHeap.n_push]; omega), cellAt_new]; rfl) (((hI2.ext (Ext.push _)).ext hx3).ext hx) (HB.out hz a ha).1 (HB.out hz a ha).2.2))
  rw [if_pos hz] at HSL HML
  have HO1 := Lib.hid (fun (H' : AHeap) (bs : Nat) (v : Value) (h : Own H' bs v 3 1 ((idsL s (bef (firstL s c))).map (Value.int .i64))) => ids_own h h12)
  have HO2 := Lib.hid (fun (H' : AHeap) (bs : Nat) (v : Value) (h : Own H' bs v 3 1 ((idsL s (bef (lastL s c))).map (Value.int .i64))) => ids_own h h12)
  generalize idsL s (bef (firstL s c)) = I1 at HSL HC1 HO1
  generalize idsL s (bef (lastL s c)) = I2 at HML HC2 HO2
  have hnz : er = 0 := hz
  clear hI1 hI2 HI HE HB HN hb
  repeat' (first|(with_reducible first|refine zA ?_|refine zB fun K hK=>?_|refine zC fun K2 hK2=>?_|refine zD ?_|refine zE ?_|refine zF ?_|refine zG ?_|refine zH ?_|refine zI ?_|refine zM ?_|refine zN ?_|refine zO ?_|refine zP ?_|refine zQ ?_|refine zR ?_)|((with_reducible refine zU (hK _ _ ?_));clear hK K)|((with_reducible refine zV ?_ ?_ fun K1 K3 d hdst h1 h3=>?_);rfl;exact yB rfl;cases hdst;go_simp)|((with_reducible refine zW fun K1 K3 h1 h3=>?_);go_simp)|((first|refine h1 ?_|refine h3 ?_);clear h1 h3 K1 K3)|((first|refine zX (fun hb=>h1 ?_) (fun hb=>h3 ?_)|refine zX (fun hb=>h3 ?_) (fun hb=>h1 ?_))<;>(clear h1 h3 K1 K3;(try have hb2:=yC hb);(try have hb2:=yD hb);(try have hb2:=yE hb);(try have hb2:=yF hb);(try have hb2:=yG hb)))|(refine fun (K2:_→AHeap→Prop) hK2=>?_)|((with_reducible refine zY ?_ ?_);decide)|((with_reducible first|refine zZ ?_ (fun K hK=>?_)|refine yA ?_ (fun K hK=>?_));(focus go_simp;done);go_simp;refine hK _ _ ?_;clear hK K)|(go_simp;(try go_bits);(try first |((with_reducible show CallS _ _ _ _ _ _);first|(refine CallS.mono (HC1.out _ _ (Ext.refl _)) ?_; rintro v1 H2 ⟨ho, hx⟩; (have HV1 := Lib.hid (HO1.out _ _ _ ho)); (have HX3 := Lib.hid hx); (have hc02 : cellsAt H2 H.n 0 2 = some [Value.slice wa s.words.length wc, Value.slice aa s.alts.length ac] := by rw [hx.cellsAt (by rw [AHeap.n_push]; omega), cellsAt_push, if_neg (by omega)]; exact hc01); (have hn2 : H1.n < H2.n := by have := hx.n; rw [AHeap.n_push] at this; omega); clear ho hx)|(refine CallS.mono (HC2.out _ _ HX3.out) ?_; rintro v2 H3 ⟨ho, hx⟩; (have HV2 := Lib.hid (HO2.out _ _ _ ho)); (have HV12 := Lib.hid (HV1.out.ext hx)); (have HX4 := Lib.hid (HX3.out.trans hx)); clear ho hx)));refine hK2 _ _ ?_;clear hK2 K2))
  refine ⟨⟨_, _, by rw [hnz], ?_, ?_⟩, (HX2.out.push' _).trans HX4.out⟩
  · rw [HSL.out]; exact HV12.out
  · rw [HML.out]; exact HV2.out

def bSure (s : Sheet) (c d : Copy) : List Int := if errExts s c d = 0 then idsL s (fun a => !bef (lastL s c) a && bef (firstL s d) a) else []
def bMay (s : Sheet) (c d : Copy) : List Int := if errExts s c d = 0 then idsL s (fun a => !bef (firstL s c) a && bef (lastL s d) a) else []
set_option maxHeartbeats 2000000 in
theorem between_e {loops : List (Nat × LInfo)} {H : AHeap} {sv cv dv : Value} {s : Sheet} {c d : Copy} (hs : SheetV H sv s) (hc : CopyV H cv c) (hdv : CopyV H dv d) (hn : errExts s c d = 0 → s.alts.length ≤ 12) : CallS Try.prog loops 33 [sv, cv, dv] H fun r H' => (∃ av bv, r = .tuple #[av, bv, .int .i64 (errExts s c d)] ∧ Ints H' av (bSure s c d) ∧ Ints H' bv (bMay s c d)) ∧ Ext H H' := by
  have HS := Lib.hid hs
  have HC := Lib.hid hc
  have HD := Lib.hid hdv
  obtain ⟨wv, av, rfl, hw, ha⟩ := hs
  obtain ⟨hwl, wa, wc, rfl⟩ := hw.slice
  obtain ⟨hal, aa, ac, rfl⟩ := ha.slice
  obtain ⟨cv, rfl, hcw⟩ := hc
  obtain ⟨hcl, ca, cc, rfl⟩ := hcw.slice
  obtain ⟨dv, rfl, hdw⟩ := hdv
  obtain ⟨hdl, da, dc, rfl⟩ := hdw.slice
  clear hw ha hcw hdw
  have HE := Lib.hid (fun (loops : List (Nat × LInfo)) (H' : AHeap) (hx : Ext H H') => extentsOf_x (loops := loops) (HS.out.ext hx) (HC.out.ext hx) (HD.out.ext hx))
  have HSL : Hid (bSure s c d = if errExts s c d = 0 then idsL s (fun a => !bef (lastL s c) a && bef (firstL s d) a) else []) := Lib.hid rfl
  have HML : Hid (bMay s c d = if errExts s c d = 0 then idsL s (fun a => !bef (firstL s c) a && bef (lastL s d) a) else []) := Lib.hid rfl
  have HB : Hid (errExts s c d = 0 → ∀ a, a ∈ s.alts → 0 ≤ a.to ∧ a.to < (firstL s c).length ∧ a.to < (lastL s c).length ∧ a.to < (firstL s d).length ∧ a.to < (lastL s d).length) := Lib.hid (fun h a ha => by
    obtain ⟨h1, h2⟩ := errExts_ok h
    obtain ⟨g1, -, -, -, g2, g3, -⟩ := ends_n h1
    obtain ⟨-, -, -, -, g4, g5, -⟩ := ends_n h2
    have := (err_alts (errCopy_ok g1).1).1 a ha
    rw [g2, g3, g4, g5]; omega)
  have HI := Lib.hid (fun (loops : List (Nat × LInfo)) (H' : AHeap) (hx : Ext H H') (h12 : s.alts.length ≤ 12) (g : FuncId) (caps : Array Value) (acc : Alt → Bool) (hok : okFn Try.prog g = true) (hacc : ∀ (loops : List (Nat × LInfo)) (H2 : AHeap) (a : Alt), Ext H' H2 → a ∈ s.alts → CallS Try.prog loops g (a.val :: caps.toList) H2 fun r H'' => r = .bool (acc a) ∧ H'' = H2) => idsOf_o (loops := loops) (HS.out.ext hx) h12 hok hacc)
  have HN := Lib.hid hn
  clear hn
  generalize bSure s c d = S1 at HSL
  generalize bMay s c d = S2 at HML
  generalize errExts s c d = er at HE HSL HML HB HN
  have HX1 : Hid (Ext H (((H.push (.row [Value.slice wa s.words.length wc, Value.slice aa s.alts.length ac] 25)).push (.row [Value.slice ca c.words.length cc, .int .i64 c.beg, .int .i64 c.fin, .int .i64 c.per] 27)).push (.row [Value.slice da d.words.length dc, .int .i64 d.beg, .int .i64 d.fin, .int .i64 d.per] 27))) := Lib.hid ((((Ext.refl _).push' _).push' _).push' _)
  have ok81 : okFn Try.prog 81 = true := by kernel_rfl
  have ok82 : okFn Try.prog 82 = true := by kernel_rfl
  refine CallS.enter' Try.func33 rfl Try.ntmps33 (by simp) fun f hd hf => ?_
  have f0 := hf 0
  have f1 := hf 1
  have f2 := hf 2
  simp at f0 f1 f2
  clear hf
  repeat' (first|(with_reducible first|refine zA ?_|refine zB fun K hK=>?_|refine zC fun K2 hK2=>?_|refine zD ?_|refine zE ?_|refine zF ?_|refine zG ?_|refine zH ?_|refine zI ?_|refine zM ?_|refine zN ?_|refine zO ?_|refine zP ?_|refine zQ ?_|refine zR ?_)|((with_reducible refine zU (hK _ _ ?_));clear hK K)|((with_reducible refine zV ?_ ?_ fun K1 K3 d hdst h1 h3=>?_);rfl;exact yB rfl;cases hdst;go_simp)|((with_reducible refine zW fun K1 K3 h1 h3=>?_);go_simp)|((first|refine h1 ?_|refine h3 ?_);clear h1 h3 K1 K3)|((first|refine zX (fun hb=>h1 ?_) (fun hb=>h3 ?_)|refine zX (fun hb=>h3 ?_) (fun hb=>h1 ?_))<;>(clear h1 h3 K1 K3;(try have hb2:=yC hb);(try have hb2:=yD hb);(try have hb2:=yE hb);(try have hb2:=yF hb);(try have hb2:=yG hb)))|(refine fun (K2:_→AHeap→Prop) hK2=>?_)|((with_reducible refine zY ?_ ?_);decide)|((with_reducible first|refine zZ ?_ (fun K hK=>?_)|refine yA ?_ (fun K hK=>?_));(focus go_simp;done);go_simp;refine hK _ _ ?_;clear hK K)|(go_simp;(try go_bits);(try first | ((with_reducible show CallS _ _ _ _ _ _);refine CallS.mono (HE.out _ _ HX1.out) ?_; rintro _ H1 ⟨⟨oa, on, oc, pi, fa, fn, la, ln, oa', on', oc', pi', fa', fn', la', ln', rfl, hres⟩, hx⟩; (have HR := Lib.hid hres); (have HX2 := Lib.hid (HX1.out.trans hx)); (have hn1 : H.n < H1.n := by have := hx.n; simp only [AHeap.n_push] at this; omega); (have hc01 : cellsAt H1 H.n 0 2 = some [Value.slice wa s.words.length wc, Value.slice aa s.alts.length ac] := by rw [hx.cellsAt (by simp only [AHeap.n_push]; omega), cellsAt_push, if_neg (by simp only [AHeap.n_push]; omega), cellsAt_push, if_neg (by simp only [AHeap.n_push]; omega), cellsAt_push, if_pos rfl]; rfl); clear hres hx));refine hK2 _ _ ?_;clear hK2 K2))
  · have hz : ¬ er = 0 := by simpa using hb
    refine ⟨⟨_, _, rfl, ?_, ?_⟩, (HX2.out.push' _).push' _⟩
    · rw [HSL.out, if_neg hz]; exact ints_nil _
    · rw [HML.out, if_neg hz]; exact ints_nil _
  have hz : er = 0 := by simpa using hb
  have h12 := HN.out hz
  obtain ⟨o1, o2, o3, o4⟩ := HR.out hz
  have hI1 : Ints H1 (.slice fa fn fn) (firstL s c) := ints_of_own o1 (ends_len s c).1
  have hI2 : Ints H1 (.slice la ln ln) (lastL s c) := ints_of_own o2 (ends_len s c).2
  have hI3 : Ints H1 (.slice fa' fn' fn') (firstL s d) := ints_of_own o3 (ends_len s d).1
  have hI4 : Ints H1 (.slice la' ln' ln') (lastL s d) := ints_of_own o4 (ends_len s d).2
  have HC1 := Lib.hid (fun (loops : List (Nat × LInfo)) (H3 : AHeap) (hx3 : Ext ((H1.push (.row [.slice oa on oc, .int .i64 pi, .slice fa fn fn, .slice la ln ln] 120)).push (.row [.slice oa' on' oc', .int .i64 pi', .slice fa' fn' fn', .slice la' ln' ln'] 120)) H3) => HI.out loops H3 (((HX2.out.push' _).push' _).trans hx3) h12 81 #[.pointer (some ⟨H1.n, 0, none⟩), .pointer (some ⟨H1.n + 1, 0, none⟩)] (fun a => !bef (lastL s c) a && bef (firstL s d) a) ok81 (fun loops H2 a hx ha => betw1_s (by have h1 := hx3.n; have h2 := hx.n; simp only [AHeap.n_push] at h1; omega) (by have h1 := hx3.n; have h2 := hx.n; simp only [AHeap.n_push] at h1; omega) (by have h1 := hx3.n; simp only [AHeap.n_push] at h1; rw [hx.cellAt (by omega), hx3.cellAt (by simp only [AHeap.n_push]; omega), cellAt_push, if_neg (by rw [AHeap.n_push]; omega), cellAt_new]; rfl) (by have h1 := hx3.n; simp only [AHeap.n_push] at h1; rw [hx.cellAt (by omega), hx3.cellAt (by simp only [AHeap.n_push]; omega), cellAt_push, if_pos (by rw [AHeap.n_push])]; rfl) ((((hI2.ext (Ext.push _)).ext (Ext.push _)).ext hx3).ext hx) ((((hI3.ext (Ext.push _)).ext (Ext.push _)).ext hx3).ext hx) (HB.out hz a ha).1 (HB.out hz a ha).2.2.1 (HB.out hz a ha).2.2.2.1))
  have HC2 := Lib.hid (fun (loops : List (Nat × LInfo)) (H3 : AHeap) (hx3 : Ext ((H1.push (.row [.slice oa on oc, .int .i64 pi, .slice fa fn fn, .slice la ln ln] 120)).push (.row [.slice oa' on' oc', .int .i64 pi', .slice fa' fn' fn', .slice la' ln' ln'] 120)) H3) => HI.out loops H3 (((HX2.out.push' _).push' _).trans hx3) h12 82 #[.pointer (some ⟨H1.n, 0, none⟩), .pointer (some ⟨H1.n + 1, 0, none⟩)] (fun a => !bef (firstL s c) a && bef (lastL s d) a) ok82 (fun loops H2 a hx ha => betw2_s (by have h1 := hx3.n; have h2 := hx.n; simp only [AHeap.n_push] at h1; omega) (by have h1 := hx3.n; have h2 := hx.n; simp only [AHeap.n_push] at h1; omega) (by have h1 := hx3.n; simp only [AHeap.n_push] at h1; rw [hx.cellAt (by omega), hx3.cellAt (by simp only [AHeap.n_push]; omega), cellAt_push, if_neg (by rw [AHeap.n_push]; omega), cellAt_new]; rfl) (by have h1 := hx3.n; simp only [AHeap.n_push] at h1; rw [hx.cellAt (by omega), hx3.cellAt (by simp only [AHeap.n_push]; omega), cellAt_push, if_pos (by rw [AHeap.n_push])]; rfl) ((((hI1.ext (Ext.push _)).ext (Ext.push _)).ext hx3).ext hx) ((((hI4.ext (Ext.push _)).ext (Ext.push _)).ext hx3).ext hx) (HB.out hz a ha).1 (HB.out hz a ha).2.1 (HB.out hz a ha).2.2.2.2))
  rw [if_pos hz] at HSL HML
  have HO1 := Lib.hid (fun (H' : AHeap) (bs : Nat) (v : Value) (h : Own H' bs v 3 1 ((idsL s (fun a => !bef (lastL s c) a && bef (firstL s d) a)).map (Value.int .i64))) => ids_own h h12)
  have HO2 := Lib.hid (fun (H' : AHeap) (bs : Nat) (v : Value) (h : Own H' bs v 3 1 ((idsL s (fun a => !bef (firstL s c) a && bef (lastL s d) a)).map (Value.int .i64))) => ids_own h h12)
  generalize idsL s (fun a => !bef (lastL s c) a && bef (firstL s d) a) = I1 at HSL HC1 HO1
  generalize idsL s (fun a => !bef (firstL s c) a && bef (lastL s d) a) = I2 at HML HC2 HO2
  have hnz : er = 0 := hz
  clear hI1 hI2 hI3 hI4 HI HE HB HN HR o1 o2 o3 o4 hb
  repeat' (first|(with_reducible first|refine zA ?_|refine zB fun K hK=>?_|refine zC fun K2 hK2=>?_|refine zD ?_|refine zE ?_|refine zF ?_|refine zG ?_|refine zH ?_|refine zI ?_|refine zM ?_|refine zN ?_|refine zO ?_|refine zP ?_|refine zQ ?_|refine zR ?_)|((with_reducible refine zU (hK _ _ ?_));clear hK K)|((with_reducible refine zV ?_ ?_ fun K1 K3 d hdst h1 h3=>?_);rfl;exact yB rfl;cases hdst;go_simp)|((with_reducible refine zW fun K1 K3 h1 h3=>?_);go_simp)|((first|refine h1 ?_|refine h3 ?_);clear h1 h3 K1 K3)|((first|refine zX (fun hb=>h1 ?_) (fun hb=>h3 ?_)|refine zX (fun hb=>h3 ?_) (fun hb=>h1 ?_))<;>(clear h1 h3 K1 K3;(try have hb2:=yC hb);(try have hb2:=yD hb);(try have hb2:=yE hb);(try have hb2:=yF hb);(try have hb2:=yG hb)))|(refine fun (K2:_→AHeap→Prop) hK2=>?_)|((with_reducible refine zY ?_ ?_);decide)|((with_reducible first|refine zZ ?_ (fun K hK=>?_)|refine yA ?_ (fun K hK=>?_));(focus go_simp;done);go_simp;refine hK _ _ ?_;clear hK K)|(go_simp;(try go_bits);(try first |((with_reducible show CallS _ _ _ _ _ _);first|(refine CallS.mono (HC1.out _ _ (Ext.refl _)) ?_; rintro v1 H2 ⟨ho, hx⟩; (have HV1 := Lib.hid (HO1.out _ _ _ ho)); (have HX3 := Lib.hid hx); (have hc02 : cellsAt H2 H.n 0 2 = some [Value.slice wa s.words.length wc, Value.slice aa s.alts.length ac] := by rw [hx.cellsAt (by simp only [AHeap.n_push]; omega), cellsAt_push, if_neg (by simp only [AHeap.n_push]; omega), cellsAt_push, if_neg (by omega)]; exact hc01); (have hn2 : H1.n < H2.n := by have := hx.n; simp only [AHeap.n_push] at this; omega); clear ho hx)|(refine CallS.mono (HC2.out _ _ HX3.out) ?_; rintro v2 H3 ⟨ho, hx⟩; (have HV2 := Lib.hid (HO2.out _ _ _ ho)); (have HV12 := Lib.hid (HV1.out.ext hx)); (have HX4 := Lib.hid (HX3.out.trans hx)); clear ho hx)));refine hK2 _ _ ?_;clear hK2 K2))
  refine ⟨⟨_, _, by rw [hnz], ?_, ?_⟩, ((HX2.out.push' _).push' _).trans HX4.out⟩
  · rw [HSL.out]; exact HV12.out
  · rw [HML.out]; exact HV2.out
end Go.Proofs.Try
namespace Go.Proofs.Try
open Go Go.Am Go.RowKit Go.Co
set_option maxRecDepth 100000

def befV (s : Sheet) (c d : Copy) : Value := if errExts s c d = 0 then .tuple #[.bool (decide ((lastL s c).getD (s.words.length - 1) 0 < (firstL s d).getD 0 0)), .bool (decide ((firstL s c).getD (s.words.length - 1) 0 < (lastL s d).getD 0 0)), .int .i64 0] else .tuple #[.bool false, .bool false, .int .i64 (errExts s c d)]
theorem befV_plain (s : Sheet) (c d : Copy) : plainV 6 (befV s c d) = true := by
  unfold befV; split <;> rfl

set_option maxHeartbeats 2000000 in
theorem before_s {loops : List (Nat × LInfo)} {H : AHeap} {sv cv dv : Value} {s : Sheet} {c d : Copy} (hs : SheetV H sv s) (hc : CopyV H cv c) (hdv : CopyV H dv d) : CallS Try.prog loops 42 [sv, cv, dv] H fun r H' => r = befV s c d ∧ H' = H := by
  refine CallS.forget (R := fun v => v = befV s c d) (by rintro v rfl; exact befV_plain s c d) ?_
  have HS := Lib.hid hs
  have HC := Lib.hid hc
  have HD := Lib.hid hdv
  obtain ⟨wv, av, rfl, hw, ha⟩ := hs
  obtain ⟨hwl, wa, wc, rfl⟩ := hw.slice
  obtain ⟨hal, aa, ac, rfl⟩ := ha.slice
  obtain ⟨cv, rfl, hcw⟩ := hc
  obtain ⟨hcl, ca, cc, rfl⟩ := hcw.slice
  obtain ⟨dv, rfl, hdw⟩ := hdv
  obtain ⟨hdl, da, dc, rfl⟩ := hdw.slice
  clear hw ha hcw hdw
  have HE := Lib.hid (fun (loops : List (Nat × LInfo)) (H' : AHeap) (hx : Ext H H') => extentsOf_x (loops := loops) (HS.out.ext hx) (HC.out.ext hx) (HD.out.ext hx))
  have HOK : Hid (errExts s c d = 0 → (firstL s c).length = s.words.length ∧ (lastL s c).length = s.words.length ∧ (firstL s d).length = s.words.length ∧ (lastL s d).length = s.words.length ∧ 1 ≤ s.words.length ∧ s.words.length ≤ 40) := Lib.hid (fun h => by
    obtain ⟨h1, h2⟩ := errExts_ok h
    obtain ⟨-, -, -, -, g1, g2, g3, g4⟩ := ends_n h1
    obtain ⟨-, -, -, -, g5, g6, -, -⟩ := ends_n h2
    exact ⟨g1, g2, g5, g6, g3, g4⟩)
  have HBV : Hid (befV s c d = if errExts s c d = 0 then .tuple #[.bool (decide ((lastL s c).getD (s.words.length - 1) 0 < (firstL s d).getD 0 0)), .bool (decide ((firstL s c).getD (s.words.length - 1) 0 < (lastL s d).getD 0 0)), .int .i64 0] else .tuple #[.bool false, .bool false, .int .i64 (errExts s c d)]) := Lib.hid rfl
  generalize befV s c d = bv at HBV
  generalize errExts s c d = er at HE HOK HBV
  generalize firstL s c = F1 at HE HOK HBV
  generalize lastL s c = L1 at HE HOK HBV
  generalize firstL s d = F2 at HE HOK HBV
  generalize lastL s d = L2 at HE HOK HBV
  refine CallS.enter' Try.func42 rfl Try.ntmps42 (by simp) fun f hd hf => ?_
  have f0 := hf 0
  have f1 := hf 1
  have f2 := hf 2
  simp at f0 f1 f2
  clear hf
  have HX1 : Hid (Ext H (((H.push (.row [Value.slice wa s.words.length wc, Value.slice aa s.alts.length ac] 25)).push (.row [Value.slice ca c.words.length cc, .int .i64 c.beg, .int .i64 c.fin, .int .i64 c.per] 27)).push (.row [Value.slice da d.words.length dc, .int .i64 d.beg, .int .i64 d.fin, .int .i64 d.per] 27))) := Lib.hid ((((Ext.refl _).push' _).push' _).push' _)
  by_cases her : er = 0
  · obtain ⟨hl1, hl2, hl3, hl4, hn1, hn2⟩ := HOK.out her
    rw [if_pos her] at HBV
    have hw1 : (0 : Int) ≤ (s.words.length : Int) - 1 := by omega
    have hw2 : (s.words.length : Int) - 1 < (s.words.length : Nat) := by omega
    have hw3 : ((s.words.length : Int) - 1).toNat = s.words.length - 1 := by omega
    have hw4 : (1 : Int) ≤ (s.words.length : Nat) := by omega
    have hw5 : (0 : Int) < (s.words.length : Nat) := by omega
    have hw6 : 0 < s.words.length := by omega
    generalize hy1 : F1.getD (s.words.length - 1) 0 = y1 at HBV
    generalize hy2 : L1.getD (s.words.length - 1) 0 = y2 at HBV
    generalize hy3 : F2.getD 0 0 = y3 at HBV
    generalize hy4 : L2.getD 0 0 = y4 at HBV
    have HY1 := Lib.hid hy1
    have HY2 := Lib.hid hy2
    have HY3 := Lib.hid hy3
    have HY4 := Lib.hid hy4
    clear hy1 hy2 hy3 hy4
    subst her
    repeat' (first|(with_reducible first|refine zA ?_|refine zB fun K hK=>?_|refine zC fun K2 hK2=>?_|refine zD ?_|refine zE ?_|refine zF ?_|refine zG ?_|refine zH ?_|refine zI ?_|refine zM ?_|refine zN ?_|refine zO ?_|refine zP ?_|refine zQ ?_|refine zR ?_)|((with_reducible refine zU (hK _ _ ?_));clear hK K)|((with_reducible refine zV ?_ ?_ fun K1 K3 d hdst h1 h3=>?_);rfl;exact yB rfl;cases hdst;go_simp)|((with_reducible refine zW fun K1 K3 h1 h3=>?_);go_simp)|((first|refine h1 ?_|refine h3 ?_);clear h1 h3 K1 K3)|((first|refine zX (fun hb=>h1 ?_) (fun hb=>h3 ?_)|refine zX (fun hb=>h3 ?_) (fun hb=>h1 ?_))<;>(clear h1 h3 K1 K3;(try have hb2:=yC hb);(try have hb2:=yD hb);(try have hb2:=yE hb);(try have hb2:=yF hb);(try have hb2:=yG hb)))|(refine fun (K2:_→AHeap→Prop) hK2=>?_)|((with_reducible refine zY ?_ ?_);decide)|((with_reducible first|refine zZ ?_ (fun K hK=>?_)|refine yA ?_ (fun K hK=>?_));(focus go_simp;done);go_simp;refine hK _ _ ?_;clear hK K)|(go_simp;(try go_bits);(try first | ((with_reducible show CallS _ _ _ _ _ _);refine CallS.mono (HE.out _ _ HX1.out) ?_; rintro _ H1 ⟨⟨oa, on, oc, pi, fa, fn, la, ln, oa', on', oc', pi', fa', fn', la', ln', rfl, hres⟩, hx⟩; (obtain ⟨h1, h2, h3, h4⟩ := hres rfl); (obtain ⟨b1, hv1, -, hb1, hg1⟩ := own_posn h1 hl1 hw6); (obtain ⟨b2, hv2, -, hb2, hg2⟩ := own_posn h2 hl2 hw6); (obtain ⟨b3, hv3, -, hb3, hg3⟩ := own_posn h3 hl3 hw6); (obtain ⟨b4, hv4, -, hb4, hg4⟩ := own_posn h4 hl4 hw6); cases hv1; cases hv2; cases hv3; cases hv4; (have HX2 := Lib.hid (HX1.out.trans hx)); (have hk1 : cellAt H1 b1 (s.words.length - 1) = some (.int .i64 y1) := by rw [← HY1.out]; exact rowCell hg1 (by omega)); (have hk2 : cellAt H1 b2 (s.words.length - 1) = some (.int .i64 y2) := by rw [← HY2.out]; exact rowCell hg2 (by omega)); (have hk3 : cellAt H1 b3 0 = some (.int .i64 y3) := by rw [← HY3.out]; exact rowCell hg3 (by omega)); (have hk4 : cellAt H1 b4 0 = some (.int .i64 y4) := by rw [← HY4.out]; exact rowCell hg4 (by omega)); (have hc0 : cellAt H1 H.n 0 = some (Value.slice wa s.words.length wc) := by rw [hx.cellAt (by simp only [AHeap.n_push]; omega), cellAt_push, if_neg (by simp only [AHeap.n_push]; omega), cellAt_push, if_neg (by simp only [AHeap.n_push]; omega), cellAt_push, if_pos rfl]; rfl); (have hn0 : H.n < H1.n := by have := hx.n; simp only [AHeap.n_push] at this; omega); clear hx hres h1 h2 h3 h4 hg1 hg2 hg3 hg4));refine hK2 _ _ ?_;clear hK2 K2))
    repeat' (first|(with_reducible first|refine zA ?_|refine zB fun K hK=>?_|refine zC fun K2 hK2=>?_|refine zD ?_|refine zE ?_|refine zF ?_|refine zG ?_|refine zH ?_|refine zI ?_|refine zM ?_|refine zN ?_|refine zO ?_|refine zP ?_|refine zQ ?_|refine zR ?_)|((with_reducible refine zU (hK _ _ ?_));clear hK K)|((with_reducible refine zV ?_ ?_ fun K1 K3 d hdst h1 h3=>?_);rfl;exact yB rfl;cases hdst;go_simp)|((with_reducible refine zW fun K1 K3 h1 h3=>?_);go_simp)|((first|refine h1 ?_|refine h3 ?_);clear h1 h3 K1 K3)|((first|refine zX (fun hb=>h1 ?_) (fun hb=>h3 ?_)|refine zX (fun hb=>h3 ?_) (fun hb=>h1 ?_))<;>(clear h1 h3 K1 K3;(try have hb2:=yC hb);(try have hb2:=yD hb);(try have hb2:=yE hb);(try have hb2:=yF hb);(try have hb2:=yG hb)))|(refine fun (K2:_→AHeap→Prop) hK2=>?_)|((with_reducible refine zY ?_ ?_);decide)|((with_reducible first|refine zZ ?_ (fun K hK=>?_)|refine yA ?_ (fun K hK=>?_));(focus go_simp;done);go_simp;refine hK _ _ ?_;clear hK K)|((with_reducible refine yH mixed rfl ?_ 20 fun K0 hK0=>?_);kernel_rfl)|(with_reducible first|exact yI|exact yJ|refine yK ?_|refine yL ?_|refine yM ?_)|((with_reducible first|refine yN ?_ ?_|refine yO ?_ ?_|refine yP ?_ ?_);rfl)|((with_reducible refine yQ ?_ ?_);rfl;refine hK0 _ _ ?_;clear hK0 K0)|((with_reducible refine yR ?_ ?_ ?_ ?_);rfl;rfl;rfl)|((with_reducible refine yS ?_ ?_ ?_ fun K2 hK2=>?_);rfl;rfl;exact yB rfl)|((with_reducible refine yT ?_ ?_ ?_ ?_ fun K1 K3 d hdst h1 h3=>?_);rfl;rfl;rfl;exact yB rfl;cases hdst;go_simp)|((with_reducible refine yU ?_ ?_ ?_ ?_ fun K1 K3 d hdst h1 h3=>?_);rfl;rfl;rfl;exact yB rfl;cases hdst;go_simp)|((with_reducible refine yV ?_ ?_ (fun K2 hK2=>?_) ?_);rfl;exact yB rfl)|((with_reducible refine yW ?_ ?_ ?_ ?_ (fun K2 hK2=>?_) ?_);rfl;exact yB rfl;rfl;(focus go_simp;done))|((with_reducible refine yX ?_ ?_ ?_ (fun K2 hK2=>?_) ?_);rfl;rfl;exact yB rfl)|((with_reducible refine yY ?_ ?_ (fun K2 hK2=>?_) ?_);rfl;rfl)|((with_reducible refine yZ ?_ ?_);(first|rfl|(dsimp only;decide +kernel)))|((with_reducible refine xA ?_ ?_);(focus go_simp;done))|(go_simp;(try go_bits);(first|(refine hK2 _ _ ?_ ?_<;>clear hK2 K2)|(refine hK2 _ _ ?_;clear hK2 K2))))
    exact ⟨HBV.out.symm, (HX2.out.push' _).push' _⟩
  · rw [if_neg her] at HBV
    repeat' (first|(with_reducible first|refine zA ?_|refine zB fun K hK=>?_|refine zC fun K2 hK2=>?_|refine zD ?_|refine zE ?_|refine zF ?_|refine zG ?_|refine zH ?_|refine zI ?_|refine zM ?_|refine zN ?_|refine zO ?_|refine zP ?_|refine zQ ?_|refine zR ?_)|((with_reducible refine zU (hK _ _ ?_));clear hK K)|((with_reducible refine zV ?_ ?_ fun K1 K3 d hdst h1 h3=>?_);rfl;exact yB rfl;cases hdst;go_simp)|((with_reducible refine zW fun K1 K3 h1 h3=>?_);go_simp)|((first|refine h1 ?_|refine h3 ?_);clear h1 h3 K1 K3)|((first|refine zX (fun hb=>h1 ?_) (fun hb=>h3 ?_)|refine zX (fun hb=>h3 ?_) (fun hb=>h1 ?_))<;>(clear h1 h3 K1 K3;(try have hb2:=yC hb);(try have hb2:=yD hb);(try have hb2:=yE hb);(try have hb2:=yF hb);(try have hb2:=yG hb)))|(refine fun (K2:_→AHeap→Prop) hK2=>?_)|((with_reducible refine zY ?_ ?_);decide)|((with_reducible first|refine zZ ?_ (fun K hK=>?_)|refine yA ?_ (fun K hK=>?_));(focus go_simp;done);go_simp;refine hK _ _ ?_;clear hK K)|(go_simp;(try go_bits);(try first | ((with_reducible show CallS _ _ _ _ _ _);refine CallS.mono (HE.out _ _ HX1.out) ?_; rintro _ H1 ⟨⟨oa, on, oc, pi, fa, fn, la, ln, oa', on', oc', pi', fa', fn', la', ln', rfl, hres⟩, hx⟩; (have HX2 := Lib.hid (HX1.out.trans hx)); clear hx hres));refine hK2 _ _ ?_;clear hK2 K2))
    all_goals try (exact absurd (show er = 0 by simpa using hb) her)
    exact ⟨HBV.out.symm, (HX2.out.push' _).push' _⟩
end Go.Proofs.Try
namespace Go.Proofs.Try
open Go Go.Am Go.RowKit Go.Co

theorem Course.early_late {x : Course} {p : Nat} (h : x.ord) (hp : 1 ≤ p) (hm : x.made p = true) : ∀ i, i < x.open_.length → (x.early p 0).getD i 0 ≤ (x.late p).getD i 0 := by
  have hf := x.early_fit h hp hm
  exact fun i hi => x.fit_late h hp hf i (by rw [hf.1]; exact hi)
def mixL (a b : List Int) (k : Nat) (d : Int) : List Int := (a.take k ++ [d]) ++ b.drop (k + 1)
theorem mixL_len {a b : List Int} {k : Nat} {d : Int} (hl : a.length = b.length) (hk : k < a.length) : (mixL a b k d).length = a.length := by
  simp [mixL]; omega
theorem mixL_get {a b : List Int} {k : Nat} {d : Int} (hl : a.length = b.length) (hk : k < a.length) (i : Nat) : (mixL a b k d).getD i 0 = if i < k then a.getD i 0 else if i = k then d else b.getD i 0 := by
  have htl : (a.take k ++ [d]).length = k + 1 := by simp; omega
  have htl0 : (a.take k).length = k := by simp; omega
  unfold mixL
  rcases Nat.lt_trichotomy i k with h | h | h
  · rw [if_pos h, getD_app (by omega), getD_app (by omega)]
    simp [List.getD_eq_getElem?_getD, h]
  · rw [if_neg (by omega), if_pos h, getD_app (by omega), h]
    have := @getD_snoc (a.take k) d
    rw [htl0] at this; exact this
  · rw [if_neg (by omega), if_neg (by omega), List.getD_eq_getElem?_getD, List.getElem?_append_right (by omega), htl, List.getElem?_drop, List.getD_eq_getElem?_getD, show k + 1 + (i - (k + 1)) = i by omega]
theorem Course.mix_fit {x : Course} {p k : Nat} {d : Int} {a b : List Int} (hp : 1 ≤ p) (ha : x.fit p a) (hb : x.fit p b) (hk : k < a.length) (hop : x.op k d = true) (h1 : a.getD k 0 ≤ d) (h2 : d ≤ b.getD k 0) (hab : ∀ i, i < a.length → a.getD i 0 ≤ b.getD i 0) : x.fit p (mixL a b k d) := by
  have hl : a.length = b.length := by rw [ha.1, hb.1]
  have hg := mixL_get (d := d) hl hk
  have hll := mixL_len (d := d) hl hk
  refine ⟨by rw [hll]; exact ha.1, fun i hi => ?_⟩
  rw [hll] at hi
  have hle : ∀ j, j < a.length → (mixL a b k d).getD j 0 ≤ b.getD j 0 := by
    intro j hj
    rw [hg j]
    split
    · exact hab j hj
    · split
      · rename_i h3; rw [h3]; exact h2
      · exact Int.le_refl _
  rw [hg i]
  rcases Nat.lt_trichotomy i k with h | h | h
  · rw [if_pos h]
    have e : lowL p (mixL a b k d) i = lowL p a i := lowL_same hp fun j hj => by rw [hg j, if_pos (by omega)]
    rw [e]; exact ha.2 i hi
  · subst h
    rw [if_neg (by omega), if_pos rfl]
    have e : lowL p (mixL a b i d) i = lowL p a i := lowL_same hp fun j hj => by rw [hg j, if_pos (by omega)]
    rw [e]
    have := (ha.2 i hi).2
    exact ⟨hop, by omega⟩
  · rw [if_neg (by omega), if_neg (by omega)]
    have hb2 := hb.2 i (by omega)
    exact ⟨hb2.1, Int.le_trans (lowL_mono hp fun j hj => hle j (by omega)) hb2.2⟩

theorem Course.fit_mono {x : Course} {p : Nat} {g : List Int} (h : x.ord) (hg : x.fit p g) : ∀ (n i : Nat), i + n < g.length → g.getD i 0 ≤ g.getD (i + n) 0
  | 0, i, _ => Int.le_refl _
  | n + 1, i, hn => by
    have h1 := x.fit_mono h hg n i (by omega)
    have h2 := (lowL_iff (x.fit_in h hg (i + (n + 1)) hn).1).1 (hg.2 (i + (n + 1)) hn).2
    have h3 := h2.1 (by omega)
    rw [show i + (n + 1) - 1 = i + n by omega] at h3
    omega
theorem Course.fit_narrow {x y : Course} {p q : Nat} {g : List Int} (hy : y.ord) (hl : y.open_.length = x.open_.length) (hqp : q ≤ p) (hop : ∀ i d, i < x.open_.length → y.op i d = true → x.op i d = true) (hg : y.fit q g) : x.fit p g := by
  refine ⟨by rw [hg.1, hl], fun i hi => ?_⟩
  obtain ⟨h1, h2⟩ := hg.2 i hi
  have h0 := (y.fit_in hy hg i hi).1
  refine ⟨hop i _ (by rw [← hl, ← hg.1]; exact hi) h1, ?_⟩
  rw [lowL_iff h0] at h2 ⊢
  refine ⟨h2.1, fun hpi => ?_⟩
  have h3 := h2.2 (by omega)
  have h4 := y.fit_mono hy hg (p - q) (i - p) (by omega)
  rw [show i - p + (p - q) = i - q by omega] at h4
  omega
theorem Course.fit_bound {x : Course} {p : Nat} {g : List Int} (h : x.ord) (hg : x.fit p g) : ∀ (k : Nat), k * p < g.length → g.getD 0 0 + k ≤ g.getD (k * p) 0
  | 0, _ => by simp
  | k + 1, hk => by
    have e : (k + 1) * p = k * p + p := Nat.succ_mul k p
    have h1 := x.fit_bound h hg k (by omega)
    have h2 := ((lowL_iff (x.fit_in h hg ((k + 1) * p) hk).1).1 (hg.2 ((k + 1) * p) hk).2).2 (by omega)
    rw [show (k + 1) * p - p = k * p by omega] at h2
    omega

theorem Course.early_from {x : Course} {p : Nat} {g : List Int} {b : Int} (h : x.ord) (hp : 1 ≤ p) (hg : x.fit p g) (hb : b ≤ g.getD 0 0) : (x.early p b).length = x.open_.length ∧ x.fit p (x.early p b) ∧ (∀ i, i < g.length → (x.early p b).getD i 0 ≤ g.getD i 0) ∧ ∀ i, i < g.length → b ≤ (x.early p b).getD i 0 := by
  obtain ⟨h1, h2, h3, h4⟩ := early_ok (op := x.op) hp (fun i f => x.nx_ok h i f) x.open_.length (frm := b)
  obtain ⟨h5, h6⟩ := h4 g g.length (by have := hg.1; omega) hg.2 (fun i hi => by have := x.fit_mono h hg i 0 (by omega); rw [Nat.zero_add] at this; omega)
  have h7 : (x.early p b).length = x.open_.length := by
    have h8 : g.length ≤ (x.early p b).length := h5
    have h9 : (x.early p b).length ≤ x.open_.length := h1
    have := hg.1
    omega
  exact ⟨h7, ⟨h7, h2⟩, h6, fun i hi => h3 i (by have := hg.1; change i < (x.early p b).length; omega)⟩
def Course.poss (x : Course) (p k : Nat) : List (Int × Int) := cutS ((x.early p 0).getD k 0) ((x.late p).getD k 0) (x.at_ k)
theorem Course.poss_iff {x : Course} {p k : Nat} {d : Int} : ins (x.poss p k) d = true ↔ x.op k d = true ∧ (x.early p 0).getD k 0 ≤ d ∧ d ≤ (x.late p).getD k 0 := by
  rw [Course.poss, cutS_ins]; simp [Course.op]
theorem Course.poss_fit {x : Course} {p k : Nat} {d : Int} (h : x.ord) (hp : 1 ≤ p) (hm : x.made p = true) (hk : k < x.open_.length) (hd : ins (x.poss p k) d = true) : x.fit p (mixL (x.early p 0) (x.late p) k d) := by
  obtain ⟨h1, h2, h3⟩ := x.poss_iff.1 hd
  have hf := x.early_fit h hp hm
  exact x.mix_fit hp hf (x.late_fit h hp hm) (by rw [hf.1]; exact hk) h1 h2 h3 (fun i hi => x.early_late h hp hm i (by rw [← hf.1]; exact hi))
theorem Course.fit_poss {x : Course} {p k : Nat} {g : List Int} (h : x.ord) (hp : 1 ≤ p) (hg : x.fit p g) (hk : k < g.length) : ins (x.poss p k) (g.getD k 0) = true :=
  x.poss_iff.2 ⟨(hg.2 k hk).1, (x.fit_early h hp hg).2 k hk, x.fit_late h hp hg k hk⟩
def Course.took (x : Course) (p : Nat) (b : Int) : Int := (x.early p b).getD (x.open_.length - 1) 0 - b
structure Course.Short (x : Course) (p : Nat) (l : Int) : Prop where
  at_ : ∃ b, ins (x.poss p 0) b = true ∧ l = x.took p b
  le : ∀ b, ins (x.poss p 0) b = true → l ≤ x.took p b
theorem Course.took_fit {x : Course} {p : Nat} {b : Int} (h : x.ord) (hp : 1 ≤ p) (hm : x.made p = true) (hn : 0 < x.open_.length) (hb : ins (x.poss p 0) b = true) : x.fit p (x.early p b) ∧ (x.early p b).getD 0 0 = b ∧ x.took p b = (x.early p b).getD (x.open_.length - 1) 0 - (x.early p b).getD 0 0 := by
  have hg := x.poss_fit h hp hm hn hb
  have hf := x.early_fit h hp hm
  have hlt := x.late_fit h hp hm
  have hll : (x.early p 0).length = (x.late p).length := by rw [hf.1, hlt.1]
  have h0 : (mixL (x.early p 0) (x.late p) 0 b).getD 0 0 = b := by rw [mixL_get hll (by rw [hf.1]; exact hn)]; simp
  obtain ⟨h1, h2, h3, h4⟩ := x.early_from (b := b) h hp hg (by rw [h0]; exact Int.le_refl _)
  have h5 := h3 0 (by rw [hg.1]; exact hn)
  have h6 := h4 0 (by rw [hg.1]; exact hn)
  have h7 : (x.early p b).getD 0 0 = b := by omega
  exact ⟨h2, h7, by rw [Course.took, h7]⟩
theorem Course.took_bound {x : Course} {p : Nat} {b : Int} (h : x.ord) (hp : 1 ≤ p) (hm : x.made p = true) (hn : 0 < x.open_.length) (hb : ins (x.poss p 0) b = true) : (((x.open_.length - 1) / p : Nat) : Int) ≤ x.took p b ∧ x.took p b ≤ 730 := by
  obtain ⟨h1, h2, h3⟩ := x.took_fit h hp hm hn hb
  have hdm : (x.open_.length - 1) / p * p ≤ x.open_.length - 1 := Nat.div_mul_le_self _ _
  have h4 := x.fit_bound h h1 ((x.open_.length - 1) / p) (by rw [h1.1]; omega)
  have h5 := x.fit_mono h h1 (x.open_.length - 1 - (x.open_.length - 1) / p * p) ((x.open_.length - 1) / p * p) (by rw [h1.1]; omega)
  rw [show (x.open_.length - 1) / p * p + (x.open_.length - 1 - (x.open_.length - 1) / p * p) = x.open_.length - 1 by omega] at h5
  have h6 := x.fit_in h h1 0 (by rw [h1.1]; exact hn)
  have h7 := x.fit_in h h1 (x.open_.length - 1) (by rw [h1.1]; omega)
  rw [h3]
  omega
theorem Course.poss_ex {x : Course} {p : Nat} (h : x.ord) (hp : 1 ≤ p) (hm : x.made p = true) (hn : 0 < x.open_.length) : ins (x.poss p 0) ((x.early p 0).getD 0 0) = true := by
  have hf := x.early_fit h hp hm
  exact x.fit_poss h hp hf (by rw [hf.1]; exact hn)
theorem Course.short_narrow {x y : Course} {p q : Nat} {l m : Int} (hx : x.ord) (hy : y.ord) (hl : y.open_.length = x.open_.length) (hq : 1 ≤ q) (hqp : q ≤ p) (hop : ∀ i d, i < x.open_.length → y.op i d = true → x.op i d = true) (hm : y.made q = true) (hn : 0 < x.open_.length) (h1 : x.Short p l) (h2 : y.Short q m) : l ≤ m := by
  obtain ⟨b, hb, rfl⟩ := h2.at_
  obtain ⟨hf, h0, ht⟩ := y.took_fit hy hq hm (by omega) hb
  have hfx := Course.fit_narrow hy hl hqp hop hf
  have hp : 1 ≤ p := by omega
  have hbx := x.fit_poss hx hp hfx (k := 0) (by rw [hfx.1]; exact hn)
  rw [h0] at hbx
  have h3 := h1.le b hbx
  obtain ⟨h4, h5, h6, h7⟩ := x.early_from (b := b) hx hp hfx (by rw [h0]; exact Int.le_refl _)
  have h8 := h6 (x.open_.length - 1) (by rw [hfx.1]; omega)
  have h9 : y.took q b = (y.early q b).getD (x.open_.length - 1) 0 - b := by rw [Course.took, hl]
  have h10 : x.took p b = (x.early p b).getD (x.open_.length - 1) 0 - b := rfl
  omega
end Go.Proofs.Try
namespace Go.Proofs.Try
open Go Go.Am Go.RowKit
set_option maxRecDepth 100000

def belowL (a b : List Int) (n : Nat) : Bool := decide (n ≤ a.length) && decide (n ≤ b.length) && (List.range n).all fun i => decide (a.getD i 0 ≤ b.getD i 0)
theorem belowL_iff {a b : List Int} {n : Nat} : belowL a b n = true ↔ n ≤ a.length ∧ n ≤ b.length ∧ ∀ i, i < n → a.getD i 0 ≤ b.getD i 0 := by
  simp [belowL, and_assoc]

theorem below_s {loops : List (Nat × LInfo)} {H : AHeap} {u v : Value} {xs ys : List Int} {n : Nat} (hu : Ints H u xs) (hv : Ints H v ys) : CallS Try.prog loops 50 [u, v, .int .i64 n] H fun r H' => r = .bool (belowL xs ys n) ∧ H' = H := by
  obtain ⟨hlen, a, c, rfl⟩ := hu.slice
  obtain ⟨hlen2, a2, c2, rfl⟩ := hv.slice
  have HU := Lib.hid hu
  have HV := Lib.hid hv
  clear hu hv
  generalize he : belowL xs ys n = er
  have HE := Lib.hid he
  clear he
  refine CallS.enter' Try.func50 rfl Try.ntmps50 (by simp) fun f hd hf => ?_
  have f0 := hf 0
  have f1 := hf 1
  have f2 := hf 2
  simp at f0 f1 f2
  clear hf
  repeat' (first|(with_reducible first|refine zA ?_|refine zB fun K hK=>?_|refine zC fun K2 hK2=>?_|refine zD ?_|refine zE ?_|refine zF ?_|refine zG ?_|refine zH ?_|refine zI ?_|refine zM ?_|refine zN ?_|refine zO ?_|refine zP ?_|refine zQ ?_|refine zR ?_)|((with_reducible refine zU (hK _ _ ?_));clear hK K)|((with_reducible refine zV ?_ ?_ fun K1 K3 d hdst h1 h3=>?_);rfl;exact yB rfl;cases hdst;go_simp)|((with_reducible refine zW fun K1 K3 h1 h3=>?_);go_simp)|((first|refine h1 ?_|refine h3 ?_);clear h1 h3 K1 K3)|((first|refine zX (fun hb=>h1 ?_) (fun hb=>h3 ?_)|refine zX (fun hb=>h3 ?_) (fun hb=>h1 ?_))<;>(clear h1 h3 K1 K3;(try have hb2:=yC hb);(try have hb2:=yD hb);(try have hb2:=yE hb);(try have hb2:=yF hb);(try have hb2:=yG hb)))|(refine fun (K2:_→AHeap→Prop) hK2=>?_)|((with_reducible refine zY ?_ ?_);decide)|((with_reducible first|refine zZ ?_ (fun K hK=>?_)|refine yA ?_ (fun K hK=>?_));(focus go_simp;done);go_simp;refine hK _ _ ?_;clear hK K)|(go_simp;(try go_bits);refine hK2 _ _ ?_;clear hK2 K2))
  all_goals first
    | (refine ⟨?_, rfl⟩
       have h0 : ¬ (n ≤ xs.length ∧ n ≤ ys.length) := by omega
       have h1 : belowL xs ys n = false := by rw [Bool.eq_false_iff]; intro h; have := belowL_iff.1 h; exact h0 ⟨this.1, this.2.1⟩
       rw [← HE.out, h1])
    | skip
  have h1 : n ≤ xs.length := by omega
  have h2 : n ≤ ys.length := by omega
  refine CodeS.loop (fun m f H' => ∃ k : Nat, k ≤ n ∧ m = n - k ∧ f.tmp 7 = .int .i64 k ∧ f.tmp 0 = .slice a xs.length c ∧ f.tmp 1 = .slice a2 ys.length c2 ∧ f.tmp 2 = .int .i64 n ∧ f.defers = [] ∧ Hid (∀ i, i < k → xs.getD i 0 ≤ ys.getD i 0) ∧ H' = H) n ?_ ?_
  · exact ⟨0, by simp, by simp, (by first|go_simp<;>go_num|assumption), (by first|go_simp<;>go_num|assumption), (by first|go_simp<;>go_num|assumption), (by first|go_simp<;>go_num|assumption), (by first|go_simp<;>go_num|assumption), Lib.hid (by intro i hi; omega), rfl⟩
  clear f0 f1 f2 hd f
  rintro m f H' ⟨k, hk, rfl, f7, f0, f1, f2, hd, HG, rfl⟩
  by_cases hlt : k < n
  · have hlx : k < xs.length := by omega
    have hly : k < ys.length := by omega
    obtain ⟨b, o, sp, rfl, hb, hx⟩ := HU.out.at_ hlx
    obtain ⟨b2, o2, sp2, rfl, hb2, hx2⟩ := HV.out.at_ hly
    have HX : Hid (xs.getD k 0 = xs[k]) := Lib.hid (by simp [List.getD_eq_getElem?_getD, hlx])
    have HY : Hid (ys.getD k 0 = ys[k]) := Lib.hid (by simp [List.getD_eq_getElem?_getD, hly])
    generalize xs[k] = x at hx HX
    generalize ys[k] = y at hx2 HY
    repeat' (first|(with_reducible first|refine zA ?_|refine zB fun K hK=>?_|refine zC fun K2 hK2=>?_|refine zD ?_|refine zE ?_|refine zF ?_|refine zG ?_|refine zH ?_|refine zI ?_|refine zM ?_|refine zN ?_|refine zO ?_|refine zP ?_|refine zQ ?_|refine zR ?_)|((with_reducible refine zU (hK _ _ ?_));clear hK K)|((with_reducible refine zV ?_ ?_ fun K1 K3 d hdst h1 h3=>?_);rfl;exact yB rfl;cases hdst;go_simp)|((with_reducible refine zW fun K1 K3 h1 h3=>?_);go_simp)|((first|refine h1 ?_|refine h3 ?_);clear h1 h3 K1 K3)|((first|refine zX (fun hb=>h1 ?_) (fun hb=>h3 ?_)|refine zX (fun hb=>h3 ?_) (fun hb=>h1 ?_))<;>(clear h1 h3 K1 K3;(try have hb2:=yC hb);(try have hb2:=yD hb);(try have hb2:=yE hb);(try have hb2:=yF hb);(try have hb2:=yG hb)))|(refine fun (K2:_→AHeap→Prop) hK2=>?_)|((with_reducible refine zY ?_ ?_);decide)|((with_reducible first|refine zZ ?_ (fun K hK=>?_)|refine yA ?_ (fun K hK=>?_));(focus go_simp;done);go_simp;refine hK _ _ ?_;clear hK K)|((with_reducible refine yH mixed rfl ?_ 20 fun K0 hK0=>?_);kernel_rfl)|(with_reducible first|exact yI|exact yJ|refine yK ?_|refine yL ?_|refine yM ?_)|((with_reducible first|refine yN ?_ ?_|refine yO ?_ ?_|refine yP ?_ ?_);rfl)|((with_reducible refine yQ ?_ ?_);rfl;refine hK0 _ _ ?_;clear hK0 K0)|((with_reducible refine yR ?_ ?_ ?_ ?_);rfl;rfl;rfl)|((with_reducible refine yS ?_ ?_ ?_ fun K2 hK2=>?_);rfl;rfl;exact yB rfl)|((with_reducible refine yT ?_ ?_ ?_ ?_ fun K1 K3 d hdst h1 h3=>?_);rfl;rfl;rfl;exact yB rfl;cases hdst;go_simp)|((with_reducible refine yU ?_ ?_ ?_ ?_ fun K1 K3 d hdst h1 h3=>?_);rfl;rfl;rfl;exact yB rfl;cases hdst;go_simp)|((with_reducible refine yV ?_ ?_ (fun K2 hK2=>?_) ?_);rfl;exact yB rfl)|((with_reducible refine yW ?_ ?_ ?_ ?_ (fun K2 hK2=>?_) ?_);rfl;exact yB rfl;rfl;(focus go_simp;done))|((with_reducible refine yX ?_ ?_ ?_ (fun K2 hK2=>?_) ?_);rfl;rfl;exact yB rfl)|((with_reducible refine yY ?_ ?_ (fun K2 hK2=>?_) ?_);rfl;rfl)|((with_reducible refine yZ ?_ ?_);(first|rfl|(dsimp only;decide +kernel)))|((with_reducible refine xA ?_ ?_);(focus go_simp;done))|(go_simp;(try go_bits);(first|(refine hK2 _ _ ?_ ?_<;>clear hK2 K2)|(refine hK2 _ _ ?_;clear hK2 K2))))
    · refine ⟨?_, rfl⟩
      have h3 : belowL xs ys n = false := by rw [Bool.eq_false_iff]; intro h; have := (belowL_iff.1 h).2.2 k hlt; rw [HX.out, HY.out] at this; omega
      rw [← HE.out, h3]
    · refine Post.round_normal ⟨n - (k + 1), by omega, k + 1, by omega, rfl, (by first|go_simp<;>go_num|assumption), (by first|go_simp<;>go_num|assumption), (by first|go_simp<;>go_num|assumption), (by first|go_simp<;>go_num|assumption), (by first|go_simp<;>go_num|assumption), Lib.hid ?_, rfl⟩
      intro i hi
      rcases Nat.lt_or_ge i k with h3 | h3
      · exact HG.out i h3
      · have : i = k := by omega
        rw [this, HX.out, HY.out]; omega
  · repeat' (first|(with_reducible first|refine zA ?_|refine zB fun K hK=>?_|refine zC fun K2 hK2=>?_|refine zD ?_|refine zE ?_|refine zF ?_|refine zG ?_|refine zH ?_|refine zI ?_|refine zM ?_|refine zN ?_|refine zO ?_|refine zP ?_|refine zQ ?_|refine zR ?_)|((with_reducible refine zU (hK _ _ ?_));clear hK K)|((with_reducible refine zV ?_ ?_ fun K1 K3 d hdst h1 h3=>?_);rfl;exact yB rfl;cases hdst;go_simp)|((with_reducible refine zW fun K1 K3 h1 h3=>?_);go_simp)|((first|refine h1 ?_|refine h3 ?_);clear h1 h3 K1 K3)|((first|refine zX (fun hb=>h1 ?_) (fun hb=>h3 ?_)|refine zX (fun hb=>h3 ?_) (fun hb=>h1 ?_))<;>(clear h1 h3 K1 K3;(try have hb2:=yC hb);(try have hb2:=yD hb);(try have hb2:=yE hb);(try have hb2:=yF hb);(try have hb2:=yG hb)))|(refine fun (K2:_→AHeap→Prop) hK2=>?_)|((with_reducible refine zY ?_ ?_);decide)|((with_reducible first|refine zZ ?_ (fun K hK=>?_)|refine yA ?_ (fun K hK=>?_));(focus go_simp;done);go_simp;refine hK _ _ ?_;clear hK K)|(go_simp;(try go_bits);refine hK2 _ _ ?_;clear hK2 K2))
    refine ⟨?_, rfl⟩
    have h3 : belowL xs ys n = true := belowL_iff.2 ⟨h1, h2, fun i hi => HG.out i (by omega)⟩
    rw [← HE.out, h3]
end Go.Proofs.Try
namespace Go.Proofs.Try
open Go Go.Am Go.RowKit Go.Co
set_option maxRecDepth 100000

def fitAt (x : Course) (p : Nat) (days : List Int) (i : Nat) : Bool := ins (x.at_ i) (days.getD i 0) && decide (lowL p days i ≤ days.getD i 0)
def fitFrom (x : Course) (p : Nat) (days : List Int) : Nat → Nat → Option Nat
  | 0, _ => none
  | r + 1, i => if fitAt x p days i = true then fitFrom x p days r (i + 1) else some i
theorem fitFrom_none {x : Course} {p : Nat} {days : List Int} : ∀ (r i : Nat), fitFrom x p days r i = none ↔ ∀ j, i ≤ j → j < i + r → fitAt x p days j = true
  | 0, i => by simp [fitFrom]; intro j h1 h2; omega
  | r + 1, i => by
    rw [fitFrom]
    by_cases h : fitAt x p days i = true
    · rw [if_pos h, fitFrom_none r (i + 1)]
      constructor
      · intro h1 j h2 h3
        by_cases hj : j = i
        · rw [hj]; exact h
        · exact h1 j (by omega) (by omega)
      · intro h1 j h2 h3; exact h1 j (by omega) (by omega)
    · rw [if_neg h]
      constructor
      · intro h1; cases h1
      · intro h1; exact absurd (h1 i (Nat.le_refl _) (by omega)) h
def errFits (s : Sheet) (c : Copy) (days : List Int) : Int := if errCopy s c ≠ 0 then errCopy s c else if days.length = c.words.length then 0 else 1
def fitsR (s : Sheet) (c : Copy) (days : List Int) : Option Nat := fitFrom (courseOf s c) c.per.toNat days days.length 0
def fitsV (s : Sheet) (c : Copy) (days : List Int) : Value := if errFits s c days = 0 then (match fitsR s c days with | none => .tuple #[.int .i64 0, .bool true, .int .i64 0] | some i => .tuple #[.int .i64 i, .bool false, .int .i64 0]) else .tuple #[.int .i64 0, .bool false, .int .i64 (errFits s c days)]

set_option maxHeartbeats 4000000 in
theorem fits_s {loops : List (Nat × LInfo)} {H : AHeap} {sv cv dv : Value} {s : Sheet} {c : Copy} {days : List Int} (hs : SheetV H sv s) (hc : CopyV H cv c) (hdv : Ints H dv days) : CallS Try.prog loops 48 [sv, cv, dv] H fun r H' => r = fitsV s c days ∧ H' = H := by
  refine CallS.forget (R := fun v => v = fitsV s c days) (by rintro v rfl; unfold fitsV; split; (split <;> rfl); rfl) ?_
  have HV := Lib.hid hs
  have HC := Lib.hid hc
  have HD := Lib.hid hdv
  obtain ⟨wv, av, rfl, hw, ha⟩ := hs
  obtain ⟨hwl, wa, wc, rfl⟩ := hw.slice
  obtain ⟨hal, aa, ac, rfl⟩ := ha.slice
  obtain ⟨cv, rfl, hcw⟩ := hc
  obtain ⟨hcl, ca, cc, rfl⟩ := hcw.slice
  obtain ⟨hdl, da, dc, rfl⟩ := hdv.slice
  clear hw ha hcw hdv
  generalize hr : fitsV s c days = r
  have HR : Hid (r = fitsV s c days) := Lib.hid hr.symm
  clear hr
  refine CallS.enter' Try.func48 rfl Try.ntmps48 (by simp) fun f hd hf => ?_
  have f0 := hf 0
  have f1 := hf 1
  have f2 := hf 2
  simp at f0 f1 f2
  clear hf
  have HX1 : Hid (Ext H ((H.push (.row [Value.slice wa s.words.length wc, Value.slice aa s.alts.length ac] 25)).push (.row [Value.slice ca c.words.length cc, .int .i64 c.beg, .int .i64 c.fin, .int .i64 c.per] 27))) := Lib.hid (((Ext.refl _).push' _).push' _)
  repeat' (first|(with_reducible first|refine zA ?_|refine zB fun K hK=>?_|refine zC fun K2 hK2=>?_|refine zD ?_|refine zE ?_|refine zF ?_|refine zG ?_|refine zH ?_|refine zI ?_|refine zM ?_|refine zN ?_|refine zO ?_|refine zP ?_|refine zQ ?_|refine zR ?_)|((with_reducible refine zU (hK _ _ ?_));clear hK K)|((with_reducible refine zV ?_ ?_ fun K1 K3 d hdst h1 h3=>?_);rfl;exact yB rfl;cases hdst;go_simp)|((with_reducible refine zW fun K1 K3 h1 h3=>?_);go_simp)|((first|refine h1 ?_|refine h3 ?_);clear h1 h3 K1 K3)|((first|refine zX (fun hb=>h1 ?_) (fun hb=>h3 ?_)|refine zX (fun hb=>h3 ?_) (fun hb=>h1 ?_))<;>(clear h1 h3 K1 K3;(try have hb2:=yC hb);(try have hb2:=yD hb);(try have hb2:=yE hb);(try have hb2:=yF hb);(try have hb2:=yG hb)))|(refine fun (K2:_→AHeap→Prop) hK2=>?_)|((with_reducible refine zY ?_ ?_);decide)|((with_reducible first|refine zZ ?_ (fun K hK=>?_)|refine yA ?_ (fun K hK=>?_));(focus go_simp;done);go_simp;refine hK _ _ ?_;clear hK K)|(go_simp;(try go_bits);(try first |((with_reducible show CallS _ _ _ _ _ _);first|(refine CallS.mono (checkCopy_s (s := s) (c := c) (HV.out.ext HX1.out) (HC.out.ext HX1.out)) ?_; rintro _ _ ⟨rfl, h9⟩; rw [h9]; clear h9)|(refine CallS.mono (courseOf_e (s := s) (c := c) (HV.out.ext HX1.out) (HC.out.ext HX1.out) (by simpa using ‹(errCopy s c != 0) = false›)) ?_; rintro xv H2 ⟨hx, hx2⟩; (have HXC := Lib.hid hx); (have HX2 := Lib.hid (HX1.out.trans hx2)); (obtain ⟨ov, rfl, hov⟩ := hx); (obtain ⟨-, oa, oc, rfl⟩ := hov.slice); clear hov hx2)));refine hK2 _ _ ?_;clear hK2 K2))
  · refine ⟨?_, HX1.out⟩
    have h1 : errCopy s c ≠ 0 := by simpa using hb
    have h2 : errFits s c days = errCopy s c := by rw [errFits, if_pos h1]
    rw [HR.out, fitsV, h2, if_neg h1]
  · refine ⟨?_, HX1.out⟩
    have h1 : errCopy s c = 0 := by simpa using ‹(errCopy s c != 0) = false›
    have h3 : ¬ days.length = c.words.length := by rw [nat_neb] at hb; simpa using hb
    have h2 : errFits s c days = 1 := by rw [errFits, if_neg (by simp [h1]), if_neg h3]
    rw [HR.out, fitsV, h2, if_neg (by decide)]
  have h1 : errCopy s c = 0 := by simpa using ‹(errCopy s c != 0) = false›
  have h3 : days.length = c.words.length := by rw [nat_neb] at hb; simpa using hb
  have h2 : errFits s c days = 0 := by rw [errFits, if_neg (by simp [h1]), if_pos h3]
  have HR2 : Hid (r = (match fitFrom (courseOf s c) c.per.toNat days days.length 0 with | none => .tuple #[.int .i64 0, .bool true, .int .i64 0] | some i => .tuple #[.int .i64 i, .bool false, .int .i64 0])) := Lib.hid (by rw [HR.out, fitsV, if_pos h2]; rfl)
  have hor := courseOf_ord h1
  obtain ⟨-, -, -, -, -, -, hp1, hp2⟩ := errCopy_ok h1
  have hper : (courseOf s c).per = ((c.per.toNat : Nat) : Int) := by show c.per = _; omega
  have hp3 : 1 ≤ c.per.toNat := by omega
  have hxl : (courseOf s c).open_.length = days.length := by rw [courseOf_len, h3]
  have HPER := Lib.hid hper
  have HXL := Lib.hid hxl
  have HOR := Lib.hid hor
  clear hper hxl hor HR h2 hp1 hp2
  clear h1 h3 HV HC
  generalize courseOf s c = x at HXC HR2 HPER HXL HOR
  generalize c.per.toNat = p at HR2 HPER hp3
  generalize hpe : x.per = pe at HXC HPER
  have HPE := Lib.hid hpe
  clear hpe
  refine CodeS.loop (fun m f H' => ∃ k : Nat, k ≤ days.length ∧ m = days.length - k ∧ f.tmp 30 = .int .i64 k ∧ f.tmp 29 = .int .i64 days.length ∧ f.tmp 28 = .slice da days.length dc ∧ f.tmp 2 = .slice da days.length dc ∧ f.tmp 10 = .pointer (some ⟨H2.n, 0, none⟩) ∧ f.defers = [] ∧ Hid (∀ j, j < k → fitAt x p days j = true) ∧ H' = H2.push (.row [Value.slice oa x.open_.length oc, .int .i64 pe] 118)) days.length ?_ ?_
  · exact ⟨0, by simp, by simp, (by first|go_simp<;>go_num|assumption), (by first|go_simp<;>go_num|assumption), (by first|go_simp<;>go_num|assumption), (by first|go_simp<;>go_num|assumption), (by first|go_simp<;>go_num|assumption), (by first|go_simp<;>go_num|assumption), Lib.hid (by intro j hj; omega), rfl⟩
  clear f0 f1 f2 hd f hb
  rintro m f H' ⟨k, hk, rfl, f30, f29, f28, f2, f10, hd, HF, rfl⟩
  by_cases hlt : k < days.length
  · have HLW := Lib.hid (fun (loops : List (Nat × LInfo)) => lowest_s (loops := loops) (k := k) (HXC.out.ext (Ext.push (.row [Value.slice oa x.open_.length oc, .int .i64 pe] 118))) (HD.out.ext ((HX2.out.push' _))) hk (HPE.out.trans HPER.out) hp3 (fun j hj => by
      have h := HF.out j hj
      simp only [fitAt, Bool.and_eq_true] at h
      have := ordS_ins _ (HOR.out j) _ h.1
      omega))
    have HOP := Lib.hid (fun (loops : List (Nat × LInfo)) (d : Int) => isOpen_s (loops := loops) (d := d) (HXC.out.ext (Ext.push (.row [Value.slice oa x.open_.length oc, .int .i64 pe] 118))) (show k < x.open_.length by rw [HXL.out]; exact hlt))
    obtain ⟨b, o, sp, rfl, hb, hx⟩ := (HD.out.ext HX2.out).at_ hlt
    have hgd : days.getD k 0 = days[k] := by simp [List.getD_eq_getElem?_getD, hlt]
    have HFA : Hid (fitAt x p days k = (ins (x.at_ k) days[k] && decide (lowL p days k ≤ days[k]))) := Lib.hid (by rw [fitAt, hgd])
    have HST : Hid (fitAt x p days k = false → fitFrom x p days days.length 0 = some k) := Lib.hid (fun h => by
      have go : ∀ (r i : Nat), i ≤ k → k < i + r → fitFrom x p days r i = some k := by
        intro r
        induction r with
        | zero => intro i h1 h2; omega
        | succ r ih =>
          intro i h1 h2
          rw [fitFrom]
          by_cases hik : i = k
          · subst hik; rw [if_neg (by rw [h]; simp)]
          · rw [if_pos (HF.out i (by omega))]; exact ih (i + 1) (by omega) (by omega)
      exact go days.length 0 (by omega) (by omega))
    clear hgd
    generalize lowL p days k = lw at HLW HFA
    generalize days[k] = d at hx HFA
    have hop := fun (loops : List (Nat × LInfo)) => HOP.out loops d
    generalize ins (x.at_ k) d = io at hop HFA
    have HOP2 := Lib.hid hop
    clear hop
    repeat' (first|(with_reducible first|refine zA ?_|refine zB fun K hK=>?_|refine zC fun K2 hK2=>?_|refine zD ?_|refine zE ?_|refine zF ?_|refine zG ?_|refine zH ?_|refine zI ?_|refine zM ?_|refine zN ?_|refine zO ?_|refine zP ?_|refine zQ ?_|refine zR ?_)|((with_reducible refine zU (hK _ _ ?_));clear hK K)|((with_reducible refine zV ?_ ?_ fun K1 K3 d hdst h1 h3=>?_);rfl;exact yB rfl;cases hdst;go_simp)|((with_reducible refine zW fun K1 K3 h1 h3=>?_);go_simp)|((first|refine h1 ?_|refine h3 ?_);clear h1 h3 K1 K3)|((first|refine zX (fun hb=>h1 ?_) (fun hb=>h3 ?_)|refine zX (fun hb=>h3 ?_) (fun hb=>h1 ?_))<;>(clear h1 h3 K1 K3;(try have hb2:=yC hb);(try have hb2:=yD hb);(try have hb2:=yE hb);(try have hb2:=yF hb);(try have hb2:=yG hb)))|(refine fun (K2:_→AHeap→Prop) hK2=>?_)|((with_reducible refine zY ?_ ?_);decide)|((with_reducible first|refine zZ ?_ (fun K hK=>?_)|refine yA ?_ (fun K hK=>?_));(focus go_simp;done);go_simp;refine hK _ _ ?_;clear hK K)|(go_simp;(try go_bits);(try first |((with_reducible show CallS _ _ _ _ _ _);first|(refine CallS.mono (HLW.out _) ?_; rintro _ _ ⟨rfl, rfl⟩)|(refine CallS.mono (HOP2.out _) ?_; rintro _ _ ⟨rfl, rfl⟩)));refine hK2 _ _ ?_;clear hK2 K2))
    · refine ⟨?_, HX2.out.push' _⟩
      have h9 : io = false := by simpa using hb
      rw [HR2.out, HST.out (by rw [HFA.out, h9]; rfl)]
    · refine ⟨?_, HX2.out.push' _⟩
      have h9 : decide (lw ≤ d) = false := by simp; omega
      rw [HR2.out, HST.out (by rw [HFA.out, h9, Bool.and_false])]
    · refine Post.round_normal ⟨days.length - (k + 1), by omega, k + 1, by omega, rfl, (by first|go_simp<;>go_num|assumption), (by first|go_simp<;>go_num|assumption), (by first|go_simp<;>go_num|assumption), (by first|go_simp<;>go_num|assumption), (by first|go_simp<;>go_num|assumption), (by first|go_simp<;>go_num|assumption), Lib.hid ?_, rfl⟩
      intro j hj
      by_cases hjk : j = k
      · have h9 : decide (lw ≤ d) = true := by simp; omega
        have h8 : io = true := by simpa using ‹(!io) = false›
        rw [hjk, HFA.out, h9, h8]; rfl
      · exact HF.out j (by omega)
  · repeat' (first|(with_reducible first|refine zA ?_|refine zB fun K hK=>?_|refine zC fun K2 hK2=>?_|refine zD ?_|refine zE ?_|refine zF ?_|refine zG ?_|refine zH ?_|refine zI ?_|refine zM ?_|refine zN ?_|refine zO ?_|refine zP ?_|refine zQ ?_|refine zR ?_)|((with_reducible refine zU (hK _ _ ?_));clear hK K)|((with_reducible refine zV ?_ ?_ fun K1 K3 d hdst h1 h3=>?_);rfl;exact yB rfl;cases hdst;go_simp)|((with_reducible refine zW fun K1 K3 h1 h3=>?_);go_simp)|((first|refine h1 ?_|refine h3 ?_);clear h1 h3 K1 K3)|((first|refine zX (fun hb=>h1 ?_) (fun hb=>h3 ?_)|refine zX (fun hb=>h3 ?_) (fun hb=>h1 ?_))<;>(clear h1 h3 K1 K3;(try have hb2:=yC hb);(try have hb2:=yD hb);(try have hb2:=yE hb);(try have hb2:=yF hb);(try have hb2:=yG hb)))|(refine fun (K2:_→AHeap→Prop) hK2=>?_)|((with_reducible refine zY ?_ ?_);decide)|((with_reducible first|refine zZ ?_ (fun K hK=>?_)|refine yA ?_ (fun K hK=>?_));(focus go_simp;done);go_simp;refine hK _ _ ?_;clear hK K)|(go_simp;(try go_bits);refine hK2 _ _ ?_;clear hK2 K2))
    refine ⟨?_, HX2.out.push' _⟩
    have h9 : fitFrom x p days days.length 0 = none := (fitFrom_none _ _).2 fun j _ hj => HF.out j (by omega)
    rw [HR2.out, h9]

def FitsOk (s : Sheet) (c : Copy) (days : List Int) : Prop := errFits s c days = 0 ∧ fitsR s c days = none
def opOf (s : Sheet) (c : Copy) (i : Nat) (d : Int) : Bool := ins ((courseOf s c).at_ i) d
theorem opOf_in {s : Sheet} {c : Copy} (h : errCopy s c = 0) (i : Nat) (d : Int) (ho : opOf s c i d = true) : 0 ≤ d ∧ d ≤ 730 := ordS_ins _ (courseOf_ord h i) d ho
theorem errFits_ok {s : Sheet} {c : Copy} {days : List Int} (h : errFits s c days = 0) : errCopy s c = 0 ∧ days.length = c.words.length := by
  unfold errFits at h
  split at h
  · rename_i h1; exact absurd h h1
  · rename_i h1
    split at h
    · rename_i h2; exact ⟨by simpa using h1, h2⟩
    · cases h
theorem fitsR_iff {s : Sheet} {c : Copy} {days : List Int} : fitsR s c days = none ↔ FitTo (opOf s c) c.per.toNat days days.length := by
  unfold fitsR
  rw [fitFrom_none]
  simp only [fitAt, Bool.and_eq_true, decide_eq_true_eq, Nat.zero_add, FitTo, opOf]
  exact ⟨fun h i hi => h i (Nat.zero_le _) hi, fun h i _ hi => h i hi⟩
theorem fitsV_ok {s : Sheet} {c : Copy} {days : List Int} (h : errFits s c days = 0) (hf : FitTo (opOf s c) c.per.toNat days days.length) : fitsV s c days = .tuple #[.int .i64 0, .bool true, .int .i64 0] := by
  rw [fitsV, if_pos h, fitsR_iff.2 hf]
end Go.Proofs.Try
