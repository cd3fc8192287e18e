/- Contracts of functions, walked. -/
import Derived.Test.YtgddlpegljkgpaaStTB
import Derived.Test.YtgddlpegljkgpaaStS8
import Derived.Test.YtgddlpegljkgpaaStSN
import Derived.Test.YtgddlpegljkgpaaAwB
set_option linter.all false
namespace Go.Proofs.Try
open Go Go.Am Go.RowKit Go.Co
def Course.holds (x : Course) (p : Nat) (fl : List Int) : Bool := holdGo x p (clampL fl) fl.length 0
end Go.Proofs.Try
namespace Go.Proofs.Try
open Go Go.Am Go.RowKit Go.Co

theorem Course.late_len_made {x : Course} {p : Nat} (h : x.ord) (hp : 1 ≤ p) (hm : x.made p = true) : (x.late p).length = x.open_.length := (x.late_fit h hp hm).1
theorem ends_n {s : Sheet} {c : Copy} (h : errExt s c = 0) : errCopy s c = 0 ∧ (courseOf s c).made c.per.toNat = true ∧ firstL s c = (courseOf s c).early c.per.toNat 0 ∧ lastL s c = (courseOf s c).late c.per.toNat ∧ (firstL s c).length = s.words.length ∧ (lastL s c).length = s.words.length ∧ 1 ≤ s.words.length ∧ s.words.length ≤ 40 := by
  have h0 : errCopy s c = 0 := by
    unfold errExt at h
    split at h
    · rename_i h1; exact absurd h h1
    · rename_i h1; simpa using h1
  have hm : (courseOf s c).made c.per.toNat = true := by
    rw [errExt, if_neg (by simp [h0])] at h
    split at h
    · rename_i h1; exact h1
    · cases h
  obtain ⟨he0, hlen, -, -, -, -, hp1, -⟩ := errCopy_ok h0
  have hw := win_iff.1 (err_ok he0).2.1
  have hl := courseOf_len s c
  have e1 : firstL s c = (courseOf s c).early c.per.toNat 0 := by rw [firstL, if_pos h]
  have e2 : lastL s c = (courseOf s c).late c.per.toNat := by rw [lastL, if_pos h]
  refine ⟨h0, hm, e1, e2, ?_, ?_, by omega, by omega⟩
  · rw [e1, ((courseOf s c).early_fit (courseOf_ord h0) (by omega) hm).1]; omega
  · rw [e2, (courseOf s c).late_len_made (courseOf_ord h0) (by omega) hm]; omega
end Go.Proofs.Try
namespace Go.Proofs.Try
open Go Go.Am Go.RowKit Go.Co
set_option maxRecDepth 100000

def idsL (s : Sheet) (acc : Alt → Bool) : List Int := sortL ((s.alts.filter acc).map Alt.id)

set_option maxHeartbeats 2000000 in
theorem idsOf_o {loops : List (Nat × LInfo)} {H : AHeap} {sv : Value} {s : Sheet} {g : FuncId} {caps : Array Value} {acc : Alt → Bool} (hs : SheetV H sv s) (hn : s.alts.length ≤ 12) (hok : okFn Try.prog g = true) (hacc : ∀ (loops : List (Nat × LInfo)) (H' : AHeap) (a : Alt), Ext H H' → a ∈ s.alts → CallS Try.prog loops g (a.val :: caps.toList) H' fun r H'' => r = .bool (acc a) ∧ H'' = H') : CallS Try.prog loops 72 [sv, .func (.func g) #[] caps] H fun r H' => Own H' H.n r 3 1 ((idsL s acc).map (Value.int .i64)) ∧ Ext H H' := by
  obtain ⟨wv, av, rfl, hw, ha⟩ := hs
  obtain ⟨hwl, wa, wc, rfl⟩ := hw.slice
  obtain ⟨hal, aa, ac, rfl⟩ := ha.slice
  have HA := Lib.hid ha
  have HACC := Lib.hid hacc
  clear hw ha hacc
  refine CallS.enter' Try.func72 rfl Try.ntmps72 (by simp) fun f hd hf => ?_
  have f0 := hf 0
  have f1 := hf 1
  simp at f0 f1
  clear hf
  have HRES : Hid (((s.alts.take 0).filter acc).map Alt.id = []) := Lib.hid rfl
  repeat' (first|(with_reducible first|refine zA ?_|refine zB fun K hK=>?_|refine zC fun K2 hK2=>?_|refine zD ?_|refine zE ?_|refine zF ?_|refine zG ?_|refine zH ?_|refine zI ?_|refine zM ?_|refine zN ?_|refine zO ?_|refine zP ?_|refine zQ ?_|refine zR ?_)|((with_reducible refine zU (hK _ _ ?_));clear hK K)|((with_reducible refine zV ?_ ?_ fun K1 K3 d hdst h1 h3=>?_);rfl;exact yB rfl;cases hdst;go_simp)|((with_reducible refine zW fun K1 K3 h1 h3=>?_);go_simp)|((first|refine h1 ?_|refine h3 ?_);clear h1 h3 K1 K3)|((first|refine zX (fun hb=>h1 ?_) (fun hb=>h3 ?_)|refine zX (fun hb=>h3 ?_) (fun hb=>h1 ?_))<;>(clear h1 h3 K1 K3;(try have hb2:=yC hb);(try have hb2:=yD hb);(try have hb2:=yE hb);(try have hb2:=yF hb);(try have hb2:=yG hb)))|(refine fun (K2:_→AHeap→Prop) hK2=>?_)|((with_reducible refine zY ?_ ?_);decide)|((with_reducible first|refine zZ ?_ (fun K hK=>?_)|refine yA ?_ (fun K hK=>?_));(focus go_simp;done);go_simp;refine hK _ _ ?_;clear hK K)|(go_simp;(try go_bits);refine hK2 _ _ ?_;clear hK2 K2))
  refine CodeS.loop (fun m f H' => ∃ (k : Nat) (v : Value) (l : List Int), k ≤ s.alts.length ∧ m = s.alts.length - k ∧ f.tmp 11 = .int .i64 k ∧ f.tmp 10 = .int .i64 (s.alts.length : Nat) ∧ f.tmp 9 = .slice aa s.alts.length ac ∧ f.tmp 1 = .func (.func g) #[] caps ∧ f.tmp 5 = v ∧ f.defers = [] ∧ Hid (((s.alts.take k).filter acc).map Alt.id = l) ∧ Hid (l.length ≤ k) ∧ H.n < H'.n ∧ Hid (Ext H H') ∧ Hid (Own H' (H.n + 1) v 3 1 (l.map (Value.int .i64)))) s.alts.length ?_ ?_
  · exact ⟨0, .slice none 0 0, [], by simp, by simp, (by first|go_simp<;>go_num|assumption), (by first|go_simp<;>go_num|assumption), (by first|go_simp<;>go_num|assumption), (by first|go_simp<;>go_num|assumption), (by first|go_simp<;>go_num|assumption), (by first|go_simp<;>go_num|assumption), Lib.hid rfl, Lib.hid (by simp), by rw [AHeap.n_push]; omega, Lib.hid (Ext.push _), Lib.hid Own.nil⟩
  clear f0 f1 hd f HRES
  rintro m f H' ⟨k, v, l, hk, rfl, f11, f10, f9, f1, f5, hd, HG, HLE, hn1, HX, HO⟩
  by_cases hlt : k < s.alts.length
  · obtain ⟨b, o, sp, rfl, hb, hx6, -⟩ := (HA.out.ext HX.out).at_ hlt
    have hm : s.alts[k] ∈ s.alts := List.getElem_mem hlt
    have hac := fun (loops : List (Nat × LInfo)) (H2 : AHeap) (hx : Ext H H2) => HACC.out loops H2 s.alts[k] hx hm
    have HT : Hid (((s.alts.take (k + 1)).filter acc).map Alt.id = l ++ if acc s.alts[k] then [s.alts[k].id] else []) := Lib.hid (by
      rw [List.take_succ_eq_append_getElem hlt, List.filter_append, List.map_append, HG.out]
      cases hcc : acc s.alts[k] <;> simp [List.filter, hcc])
    generalize acc s.alts[k] = bb at hac HT
    generalize s.alts[k] = a at hac HT hx6 hm
    have HAC := Lib.hid hac
    clear hac hm
    obtain ⟨i1, i2, i3, i4, i5, i6⟩ := a
    have hx6' : cellsAt H' b (o + k * 6) 6 = some [.int .i64 i1, .int .i64 i2, .int .i64 i3, .int .i64 i4, .int .i64 i5, .int .i64 i6] := hx6
    clear hx6
    have hbig : ((l.map (Value.int .i64)).length + 1) * max 8 1 ≤ 1073741824 := by have := HLE.out; simp; omega
    have HBIG := Lib.hid hbig
    clear hbig
    have hv := HO.out
    repeat' (first|(with_reducible first|refine zA ?_|refine zB fun K hK=>?_|refine zC fun K2 hK2=>?_|refine zD ?_|refine zE ?_|refine zF ?_|refine zG ?_|refine zH ?_|refine zI ?_|refine zM ?_|refine zN ?_|refine zO ?_|refine zP ?_|refine zQ ?_|refine zR ?_)|((with_reducible refine zU (hK _ _ ?_));clear hK K)|((with_reducible refine zV ?_ ?_ fun K1 K3 d hdst h1 h3=>?_);rfl;exact yB rfl;cases hdst;go_simp)|((with_reducible refine zW fun K1 K3 h1 h3=>?_);go_simp)|((first|refine h1 ?_|refine h3 ?_);clear h1 h3 K1 K3)|((first|refine zX (fun hb=>h1 ?_) (fun hb=>h3 ?_)|refine zX (fun hb=>h3 ?_) (fun hb=>h1 ?_))<;>(clear h1 h3 K1 K3;(try have hb2:=yC hb);(try have hb2:=yD hb);(try have hb2:=yE hb);(try have hb2:=yF hb);(try have hb2:=yG hb)))|(refine fun (K2:_→AHeap→Prop) hK2=>?_)|((with_reducible refine zY ?_ ?_);decide)|((with_reducible first|refine zZ ?_ (fun K hK=>?_)|refine yA ?_ (fun K hK=>?_));(focus go_simp;done);go_simp;refine hK _ _ ?_;clear hK K)|(go_simp;(try go_bits);(try first | ((with_reducible show CallS _ _ _ _ _ _);refine CallS.mono (HAC.out _ _ (HX.out.push' _)) ?_; rintro _ _ ⟨rfl, h9⟩; rw [h9]; clear h9) | ((refine one_k el22 sz3 ze3 rfl (by decide) (by decide) rfl rfl ?_); go_simp) | ((refine append_k2 el22 sz3 by3 ze3 rfl (by decide) (HO.out.ext ((Ext.push _).push' _)) (srcCells_new rfl) (by decide) rfl (by rw [List.all_append, oneV_list_int]; rfl) HBIG.out (by simp only [AHeap.n_push]; omega) fun v2 H4 ho4 hg4 => ?_); (have HO4 := Lib.hid ho4); (have HG4 := Lib.hid hg4); clear ho4 hg4; go_simp));refine hK2 _ _ ?_;clear hK2 K2))
    · have hcc : bb = true := hb
      have hx4 := HG4.out.ext (HO.out.ext ((Ext.push _).push' _)) (by omega) ((HX.out.push' _).push' _)
      refine Post.round_normal ⟨s.alts.length - (k + 1), by omega, k + 1, v2, l ++ [i1], by omega, rfl, (by first|go_simp<;>go_num|assumption), (by first|go_simp<;>go_num|assumption), (by first|go_simp<;>go_num|assumption), (by first|go_simp<;>go_num|assumption), (by first|go_simp<;>go_num|assumption), (by first|go_simp<;>go_num|assumption), Lib.hid (by rw [HT.out, if_pos hcc]), Lib.hid (by have := HLE.out; simp; omega), ?_, Lib.hid hx4, Lib.hid ?_⟩
      · have := HG4.out.1; simp only [AHeap.n_push] at this; omega
      · rw [List.map_append]; exact HO4.out.mono (by simp only [AHeap.n_push]; omega)
    · have hcc : bb = false := hb
      exact Post.round_normal ⟨s.alts.length - (k + 1), by omega, k + 1, v, l, by omega, rfl, (by first|go_simp<;>go_num|assumption), (by first|go_simp<;>go_num|assumption), (by first|go_simp<;>go_num|assumption), (by first|go_simp<;>go_num|assumption), (by first|go_simp<;>go_num|assumption), (by first|go_simp<;>go_num|assumption), Lib.hid (by rw [HT.out, hcc]; simp), Lib.hid (by have := HLE.out; omega), by rw [AHeap.n_push]; omega, Lib.hid (HX.out.push' _), Lib.hid (HO.out.ext (Ext.push _))⟩
  · have hke : k = s.alts.length := by omega
    have HR : Hid ((s.alts.filter acc).map Alt.id = l) := Lib.hid (by rw [← HG.out, hke, List.take_length])
    have hl12 : l.length ≤ 12 := by have := HLE.out; omega
    repeat' (first|(with_reducible first|refine zA ?_|refine zB fun K hK=>?_|refine zC fun K2 hK2=>?_|refine zD ?_|refine zE ?_|refine zF ?_|refine zG ?_|refine zH ?_|refine zI ?_|refine zM ?_|refine zN ?_|refine zO ?_|refine zP ?_|refine zQ ?_|refine zR ?_)|((with_reducible refine zU (hK _ _ ?_));clear hK K)|((with_reducible refine zV ?_ ?_ fun K1 K3 d hdst h1 h3=>?_);rfl;exact yB rfl;cases hdst;go_simp)|((with_reducible refine zW fun K1 K3 h1 h3=>?_);go_simp)|((first|refine h1 ?_|refine h3 ?_);clear h1 h3 K1 K3)|((first|refine zX (fun hb=>h1 ?_) (fun hb=>h3 ?_)|refine zX (fun hb=>h3 ?_) (fun hb=>h1 ?_))<;>(clear h1 h3 K1 K3;(try have hb2:=yC hb);(try have hb2:=yD hb);(try have hb2:=yE hb);(try have hb2:=yF hb);(try have hb2:=yG hb)))|(refine fun (K2:_→AHeap→Prop) hK2=>?_)|((with_reducible refine zY ?_ ?_);decide)|((with_reducible first|refine zZ ?_ (fun K hK=>?_)|refine yA ?_ (fun K hK=>?_));(focus go_simp;done);go_simp;refine hK _ _ ?_;clear hK K)|(go_simp;(try go_bits);(try first | ((with_reducible show CallS _ _ _ _ _ _);refine CallS.mono (sort_o HO.out hl12) ?_; rintro _ H1 ⟨rfl, h1, h2, h3⟩; (have HO1 := Lib.hid h2); (have HX1 := Lib.hid (show Ext H H1 from ⟨by have := HX.out.n; omega, fun i hi => (h3 i (by omega)).trans (HX.out.get i hi)⟩)); clear h1 h2 h3));refine hK2 _ _ ?_;clear hK2 K2))
    refine ⟨?_, HX1.out⟩
    rw [idsL, HR.out]
    exact HO1.out.mono (by omega)
end Go.Proofs.Try
namespace Go.Proofs.Try
open Go Go.Am Go.RowKit Go.Co
set_option maxRecDepth 100000

def ExtO (H : AHeap) (base : Nat) (v : Value) (s : Sheet) (c : Copy) : Prop := ∃ oa on oc pi fa fn la ln, v = .agg #[.slice oa on oc, .int .i64 pi, .slice fa fn fn, .slice la ln ln] ∧ Own H base (.slice fa fn fn) 3 1 ((firstL s c).map (Value.int .i64)) ∧ Own H base (.slice la ln ln) 3 1 ((lastL s c).map (Value.int .i64))
theorem ExtO.ext {H H' : AHeap} {base : Nat} {v : Value} {s : Sheet} {c : Copy} (h : ExtO H base v s c) (hx : Ext H H') : ExtO H' base v s c := by
  obtain ⟨oa, on, oc, pi, fa, fn, la, ln, rfl, h1, h2⟩ := h
  exact ⟨oa, on, oc, pi, fa, fn, la, ln, rfl, h1.ext hx, h2.ext hx⟩
theorem extentOf_x {loops : List (Nat × LInfo)} {H : AHeap} {sv cv : Value} {s : Sheet} {c : Copy} (hs : SheetV H sv s) (hc : CopyV H cv c) : CallS Try.prog loops 71 [sv, cv] H fun r H' => (∃ ev, r = .tuple #[ev, .int .i64 (errExt s c)] ∧ ExtO H' H.n ev s c) ∧ Ext H H' :=
  CallS.mono (extentOf_o hs hc) fun _ _ ⟨⟨oa, on, oc, pi, fv, lv, h1, h2, h3, _⟩, h5⟩ => by
    obtain ⟨fa, fn, rfl⟩ := own_slice h2
    obtain ⟨la, ln, rfl⟩ := own_slice h3
    exact ⟨⟨_, h1, oa, on, oc, pi, fa, fn, la, ln, rfl, h2, h3⟩, h5⟩
end Go.Proofs.Try
namespace Go.Proofs.Try
open Go Go.Am Go.RowKit Go.Co
set_option maxRecDepth 100000

def bef (days : List Int) (a : Alt) : Bool := decide (a.day ≤ days.getD a.to.toNat 0)

theorem wasBefore_s {loops : List (Nat × LInfo)} {H : AHeap} {dv : Value} {days : List Int} {a : Alt} (hd : Ints H dv days) (h0 : 0 ≤ a.to) (h1 : a.to < days.length) : CallS Try.prog loops 74 [a.val, dv] H fun r H' => r = .bool (bef days a) ∧ H' = H := by
  refine CallS.forget (R := fun v => v = .bool (bef days a)) (by rintro v rfl; rfl) ?_
  obtain ⟨i1, i2, i3, i4, i5, i6⟩ := a
  obtain ⟨k, rfl⟩ : ∃ k : Nat, i5 = (k : Int) := ⟨i5.toNat, by simp only at h0; omega⟩
  have hk : k < days.length := by simp only at h1; omega
  obtain ⟨hdl, da, dc, rfl⟩ := hd.slice
  obtain ⟨b, o, sp, rfl, hb, hx⟩ := hd.at_ hk
  have HB : Hid (bef days ⟨i1, i2, i3, i4, (k : Int), i6⟩ = decide (i3 ≤ days[k])) := Lib.hid (by simp [bef, List.getD_eq_getElem?_getD, hk])
  generalize days[k] = y at hx HB
  have hk2 : (k : Int) < (days.length : Nat) := by omega
  clear hd h0 h1 hdl
  rw [HB.out]
  clear HB
  refine CallS.enter' Try.func74 rfl Try.ntmps74 (by simp) fun f hd hf => ?_
  have f0 := hf 0
  have f1 := hf 1
  simp [Alt.val] at f0 f1
  clear hf
  repeat' (first|(with_reducible first|refine zA ?_|refine zB fun K hK=>?_|refine zC fun K2 hK2=>?_|refine zD ?_|refine zE ?_|refine zF ?_|refine zG ?_|refine zH ?_|refine zI ?_|refine zM ?_|refine zN ?_|refine zO ?_|refine zP ?_|refine zQ ?_|refine zR ?_)|((with_reducible refine zU (hK _ _ ?_));clear hK K)|((with_reducible refine zV ?_ ?_ fun K1 K3 d hdst h1 h3=>?_);rfl;exact yB rfl;cases hdst;go_simp)|((with_reducible refine zW fun K1 K3 h1 h3=>?_);go_simp)|((first|refine h1 ?_|refine h3 ?_);clear h1 h3 K1 K3)|((first|refine zX (fun hb=>h1 ?_) (fun hb=>h3 ?_)|refine zX (fun hb=>h3 ?_) (fun hb=>h1 ?_))<;>(clear h1 h3 K1 K3;(try have hb2:=yC hb);(try have hb2:=yD hb);(try have hb2:=yE hb);(try have hb2:=yF hb);(try have hb2:=yG hb)))|(refine fun (K2:_→AHeap→Prop) hK2=>?_)|((with_reducible refine zY ?_ ?_);decide)|((with_reducible first|refine zZ ?_ (fun K hK=>?_)|refine yA ?_ (fun K hK=>?_));(focus go_simp;done);go_simp;refine hK _ _ ?_;clear hK K)|((with_reducible refine yH mixed rfl ?_ 20 fun K0 hK0=>?_);kernel_rfl)|(with_reducible first|exact yI|exact yJ|refine yK ?_|refine yL ?_|refine yM ?_)|((with_reducible first|refine yN ?_ ?_|refine yO ?_ ?_|refine yP ?_ ?_);rfl)|((with_reducible refine yQ ?_ ?_);rfl;refine hK0 _ _ ?_;clear hK0 K0)|((with_reducible refine yR ?_ ?_ ?_ ?_);rfl;rfl;rfl)|((with_reducible refine yS ?_ ?_ ?_ fun K2 hK2=>?_);rfl;rfl;exact yB rfl)|((with_reducible refine yT ?_ ?_ ?_ ?_ fun K1 K3 d hdst h1 h3=>?_);rfl;rfl;rfl;exact yB rfl;cases hdst;go_simp)|((with_reducible refine yU ?_ ?_ ?_ ?_ fun K1 K3 d hdst h1 h3=>?_);rfl;rfl;rfl;exact yB rfl;cases hdst;go_simp)|((with_reducible refine yV ?_ ?_ (fun K2 hK2=>?_) ?_);rfl;exact yB rfl)|((with_reducible refine yW ?_ ?_ ?_ ?_ (fun K2 hK2=>?_) ?_);rfl;exact yB rfl;rfl;(focus go_simp;done))|((with_reducible refine yX ?_ ?_ ?_ (fun K2 hK2=>?_) ?_);rfl;rfl;exact yB rfl)|((with_reducible refine yY ?_ ?_ (fun K2 hK2=>?_) ?_);rfl;rfl)|((with_reducible refine yZ ?_ ?_);(first|rfl|(dsimp only;decide +kernel)))|((with_reducible refine xA ?_ ?_);(focus go_simp;done))|(go_simp;(try go_bits);(first|(refine hK2 _ _ ?_ ?_<;>clear hK2 K2)|(refine hK2 _ _ ?_;clear hK2 K2))))
  exact ⟨rfl, (Ext.refl _).push' _⟩
theorem seen1_s {loops : List (Nat × LInfo)} {H : AHeap} {q : Nat} {dv : Value} {days : List Int} {a : Alt} (hq : q < H.n) (hc : cellAt H q 2 = some dv) (hdy : Ints H dv days) (h0 : 0 ≤ a.to) (h1 : a.to < days.length) : CallS Try.prog loops 73 (a.val :: #[Value.pointer (some ⟨q, 0, none⟩)].toList) H fun r H' => r = .bool (bef days a) ∧ H' = H := by
  refine CallS.forget (R := fun v => v = .bool (bef days a)) (by rintro v rfl; rfl) ?_
  have HW := Lib.hid (fun (loops : List (Nat × LInfo)) (H' : AHeap) (hx : Ext H H') => wasBefore_s (loops := loops) (hdy.ext hx) h0 h1)
  obtain ⟨hdl, da, dc, rfl⟩ := hdy.slice
  generalize bef days a = bb at HW
  obtain ⟨i1, i2, i3, i4, i5, i6⟩ := a
  clear hdy h0 h1
  refine CallS.enter' Try.func73 rfl Try.ntmps73 (by simp) fun f hd hf => ?_
  have f0 := hf 0
  have f1 := hf 1
  simp [Alt.val] at f0 f1
  clear hf
  repeat' (first|(with_reducible first|refine zA ?_|refine zB fun K hK=>?_|refine zC fun K2 hK2=>?_|refine zD ?_|refine zE ?_|refine zF ?_|refine zG ?_|refine zH ?_|refine zI ?_|refine zM ?_|refine zN ?_|refine zO ?_|refine zP ?_|refine zQ ?_|refine zR ?_)|((with_reducible refine zU (hK _ _ ?_));clear hK K)|((with_reducible refine zV ?_ ?_ fun K1 K3 d hdst h1 h3=>?_);rfl;exact yB rfl;cases hdst;go_simp)|((with_reducible refine zW fun K1 K3 h1 h3=>?_);go_simp)|((first|refine h1 ?_|refine h3 ?_);clear h1 h3 K1 K3)|((first|refine zX (fun hb=>h1 ?_) (fun hb=>h3 ?_)|refine zX (fun hb=>h3 ?_) (fun hb=>h1 ?_))<;>(clear h1 h3 K1 K3;(try have hb2:=yC hb);(try have hb2:=yD hb);(try have hb2:=yE hb);(try have hb2:=yF hb);(try have hb2:=yG hb)))|(refine fun (K2:_→AHeap→Prop) hK2=>?_)|((with_reducible refine zY ?_ ?_);decide)|((with_reducible first|refine zZ ?_ (fun K hK=>?_)|refine yA ?_ (fun K hK=>?_));(focus go_simp;done);go_simp;refine hK _ _ ?_;clear hK K)|(go_simp;(try go_bits);(try first | ((with_reducible show CallS _ _ _ _ _ _);refine CallS.mono (HW.out _ _ (Ext.push _)) ?_; rintro _ _ ⟨rfl, h9⟩; rw [h9]; clear h9));refine hK2 _ _ ?_;clear hK2 K2))
  exact ⟨rfl, (Ext.refl _).push' _⟩
theorem seen2_s {loops : List (Nat × LInfo)} {H : AHeap} {q : Nat} {dv : Value} {days : List Int} {a : Alt} (hq : q < H.n) (hc : cellAt H q 3 = some dv) (hdy : Ints H dv days) (h0 : 0 ≤ a.to) (h1 : a.to < days.length) : CallS Try.prog loops 75 (a.val :: #[Value.pointer (some ⟨q, 0, none⟩)].toList) H fun r H' => r = .bool (bef days a) ∧ H' = H := by
  refine CallS.forget (R := fun v => v = .bool (bef days a)) (by rintro v rfl; rfl) ?_
  have HW := Lib.hid (fun (loops : List (Nat × LInfo)) (H' : AHeap) (hx : Ext H H') => wasBefore_s (loops := loops) (hdy.ext hx) h0 h1)
  obtain ⟨hdl, da, dc, rfl⟩ := hdy.slice
  generalize bef days a = bb at HW
  obtain ⟨i1, i2, i3, i4, i5, i6⟩ := a
  clear hdy h0 h1
  refine CallS.enter' Try.func75 rfl Try.ntmps75 (by simp) fun f hd hf => ?_
  have f0 := hf 0
  have f1 := hf 1
  simp [Alt.val] at f0 f1
  clear hf
  repeat' (first|(with_reducible first|refine zA ?_|refine zB fun K hK=>?_|refine zC fun K2 hK2=>?_|refine zD ?_|refine zE ?_|refine zF ?_|refine zG ?_|refine zH ?_|refine zI ?_|refine zM ?_|refine zN ?_|refine zO ?_|refine zP ?_|refine zQ ?_|refine zR ?_)|((with_reducible refine zU (hK _ _ ?_));clear hK K)|((with_reducible refine zV ?_ ?_ fun K1 K3 d hdst h1 h3=>?_);rfl;exact yB rfl;cases hdst;go_simp)|((with_reducible refine zW fun K1 K3 h1 h3=>?_);go_simp)|((first|refine h1 ?_|refine h3 ?_);clear h1 h3 K1 K3)|((first|refine zX (fun hb=>h1 ?_) (fun hb=>h3 ?_)|refine zX (fun hb=>h3 ?_) (fun hb=>h1 ?_))<;>(clear h1 h3 K1 K3;(try have hb2:=yC hb);(try have hb2:=yD hb);(try have hb2:=yE hb);(try have hb2:=yF hb);(try have hb2:=yG hb)))|(refine fun (K2:_→AHeap→Prop) hK2=>?_)|((with_reducible refine zY ?_ ?_);decide)|((with_reducible first|refine zZ ?_ (fun K hK=>?_)|refine yA ?_ (fun K hK=>?_));(focus go_simp;done);go_simp;refine hK _ _ ?_;clear hK K)|(go_simp;(try go_bits);(try first | ((with_reducible show CallS _ _ _ _ _ _);refine CallS.mono (HW.out _ _ (Ext.push _)) ?_; rintro _ _ ⟨rfl, h9⟩; rw [h9]; clear h9));refine hK2 _ _ ?_;clear hK2 K2))
  exact ⟨rfl, (Ext.refl _).push' _⟩
end Go.Proofs.Try
namespace Go.Proofs.Try
open Go Go.Am Go.RowKit Go.Co
set_option maxRecDepth 100000

theorem errGo_all (n : Int) : ∀ (l : List Alt) (day : Int) (seen : List Int), errGo n day seen l = 0 → (∀ a, a ∈ l → a.right n = true) ∧ (l.map Alt.id).Nodup ∧ ∀ a, a ∈ l → ¬ a.id ∈ seen
  | [], _, _, _ => ⟨fun _ h => (by cases h), List.nodup_nil, fun _ h => (by cases h)⟩
  | a :: t, day, seen, h => by
    rw [errGo] at h
    split at h
    · cases h
    · rename_i h1
      split at h
      · cases h
      · rename_i h2
        obtain ⟨i1, i2, i3⟩ := errGo_all n t _ _ h
        refine ⟨fun b hb => ?_, ?_, fun b hb => ?_⟩
        · rcases List.mem_cons.1 hb with rfl | hb
          · simp at h1; exact h1.1
          · exact i1 b hb
        · rw [List.map_cons, List.nodup_cons]
          refine ⟨fun hm => ?_, i2⟩
          obtain ⟨b, hb, hbe⟩ := List.mem_map.1 hm
          exact i3 b hb (by rw [hbe]; simp)
        · rcases List.mem_cons.1 hb with rfl | hb
          · exact h2
          · intro hc; exact i3 b hb (by simp [hc])
theorem err_alts {s : Sheet} (h : err s = 0) : (∀ a, a ∈ s.alts → 0 ≤ a.frm ∧ a.frm ≤ a.to ∧ a.to < s.words.length ∧ 0 ≤ a.day ∧ a.day ≤ 730) ∧ (s.alts.map Alt.id).Nodup := by
  have hg : errGo s.words.length 0 [] s.alts = 0 := by
    unfold err at h
    split at h
    · cases h
    · split at h
      · cases h
      · exact h
  obtain ⟨h1, h2, -⟩ := errGo_all _ _ _ _ hg
  refine ⟨fun a ha => ?_, h2⟩
  have := h1 a ha
  simp only [Alt.right, Bool.and_eq_true, win_iff] at this
  omega

def sureL (s : Sheet) (c : Copy) : List Int := if errExt s c = 0 then idsL s (bef (firstL s c)) else []
def maybeL (s : Sheet) (c : Copy) : List Int := if errExt s c = 0 then idsL s (bef (lastL s c)) else []
theorem ids_own {H : AHeap} {bs : Nat} {v : Value} {s : Sheet} {acc : Alt → Bool} (h : Own H bs v 3 1 ((idsL s acc).map (Value.int .i64))) (hn : s.alts.length ≤ 12) : Ints H v (idsL s acc) :=
  ints_of_own h (by
    have := List.length_filter_le acc s.alts
    rw [idsL, sortL_len, List.length_map]; omega)
theorem ints_nil (H : AHeap) : Ints H (.slice none 0 0) [] := ⟨rfl, by simp, none, 0, rfl, by simp⟩

set_option maxHeartbeats 2000000 in
theorem seen_e {loops : List (Nat × LInfo)} {H : AHeap} {sv cv : Value} {s : Sheet} {c : Copy} (hs : SheetV H sv s) (hc : CopyV H cv c) (hn : errExt s c = 0 → s.alts.length ≤ 12) : CallS Try.prog loops 31 [sv, cv] H fun r H' => (∃ av bv, r = .tuple #[av, bv, .int .i64 (errExt s c)] ∧ Ints H' av (sureL s c) ∧ Ints H' bv (maybeL s c)) ∧ Ext H H' := by
  have HS := Lib.hid hs
  have HC := Lib.hid hc
  obtain ⟨wv, av, rfl, hw, ha⟩ := hs
  obtain ⟨hwl, wa, wc, rfl⟩ := hw.slice
  obtain ⟨hal, aa, ac, rfl⟩ := ha.slice
  obtain ⟨cv, rfl, hcw⟩ := hc
  obtain ⟨hcl, ca, cc, rfl⟩ := hcw.slice
  clear hw ha hcw
  have HE := Lib.hid (fun (loops : List (Nat × LInfo)) (H' : AHeap) (hx : Ext H H') => extentOf_x (loops := loops) (HS.out.ext hx) (HC.out.ext hx))
  have HSL : Hid (sureL s c = if errExt s c = 0 then idsL s (bef (firstL s c)) else []) := Lib.hid rfl
  have HML : Hid (maybeL s c = if errExt s c = 0 then idsL s (bef (lastL s c)) else []) := Lib.hid rfl
  have HB : Hid (errExt s c = 0 → ∀ a, a ∈ s.alts → 0 ≤ a.to ∧ a.to < (firstL s c).length ∧ a.to < (lastL s c).length) := Lib.hid (fun h a ha => by
    obtain ⟨g1, -, -, -, g2, g3, -⟩ := ends_n h
    have := (err_alts (errCopy_ok g1).1).1 a ha
    rw [g2, g3]; omega)
  have HI := Lib.hid (fun (loops : List (Nat × LInfo)) (H' : AHeap) (hx : Ext H H') (h12 : s.alts.length ≤ 12) (g : FuncId) (caps : Array Value) (acc : Alt → Bool) (hok : okFn Try.prog g = true) (hacc : ∀ (loops : List (Nat × LInfo)) (H2 : AHeap) (a : Alt), Ext H' H2 → a ∈ s.alts → CallS Try.prog loops g (a.val :: caps.toList) H2 fun r H'' => r = .bool (acc a) ∧ H'' = H2) => idsOf_o (loops := loops) (HS.out.ext hx) h12 hok hacc)
  have HN := Lib.hid hn
  clear hn
  generalize sureL s c = S1 at HSL
  generalize maybeL s c = S2 at HML
  generalize errExt s c = er at HE HSL HML HB HN
  have HX1 : Hid (Ext H ((H.push (.row [Value.slice wa s.words.length wc, Value.slice aa s.alts.length ac] 25)).push (.row [Value.slice ca c.words.length cc, .int .i64 c.beg, .int .i64 c.fin, .int .i64 c.per] 27))) := Lib.hid (((Ext.refl _).push' _).push' _)
  have ok73 : okFn Try.prog 73 = true := by kernel_rfl
  have ok75 : okFn Try.prog 75 = true := by kernel_rfl
  refine CallS.enter' Try.func31 rfl Try.ntmps31 (by simp) fun f hd hf => ?_
  have f0 := hf 0
  have f1 := hf 1
  simp at f0 f1
  clear hf
  repeat' (first|(with_reducible first|refine zA ?_|refine zB fun K hK=>?_|refine zC fun K2 hK2=>?_|refine zD ?_|refine zE ?_|refine zF ?_|refine zG ?_|refine zH ?_|refine zI ?_|refine zM ?_|refine zN ?_|refine zO ?_|refine zP ?_|refine zQ ?_|refine zR ?_)|((with_reducible refine zU (hK _ _ ?_));clear hK K)|((with_reducible refine zV ?_ ?_ fun K1 K3 d hdst h1 h3=>?_);rfl;exact yB rfl;cases hdst;go_simp)|((with_reducible refine zW fun K1 K3 h1 h3=>?_);go_simp)|((first|refine h1 ?_|refine h3 ?_);clear h1 h3 K1 K3)|((first|refine zX (fun hb=>h1 ?_) (fun hb=>h3 ?_)|refine zX (fun hb=>h3 ?_) (fun hb=>h1 ?_))<;>(clear h1 h3 K1 K3;(try have hb2:=yC hb);(try have hb2:=yD hb);(try have hb2:=yE hb);(try have hb2:=yF hb);(try have hb2:=yG hb)))|(refine fun (K2:_→AHeap→Prop) hK2=>?_)|((with_reducible refine zY ?_ ?_);decide)|((with_reducible first|refine zZ ?_ (fun K hK=>?_)|refine yA ?_ (fun K hK=>?_));(focus go_simp;done);go_simp;refine hK _ _ ?_;clear hK K)|(go_simp;(try go_bits);(try first | ((with_reducible show CallS _ _ _ _ _ _);refine CallS.mono (HE.out _ _ HX1.out) ?_; rintro _ H1 ⟨⟨ev, rfl, hev⟩, hx⟩; (obtain ⟨oa, on, oc, pi, fa, fn, la, ln, rfl, hi1, hi2⟩ := hev); (have HI1 := Lib.hid hi1); (have HI2 := Lib.hid hi2); (have HX2 := Lib.hid (HX1.out.trans hx)); (have hn1 : H.n < H1.n := by have := hx.n; simp only [AHeap.n_push] at this; omega); (have hc01 : cellsAt H1 H.n 0 2 = some [Value.slice wa s.words.length wc, Value.slice aa s.alts.length ac] := by rw [hx.cellsAt (by simp only [AHeap.n_push]; omega), cellsAt_push, if_neg (by simp only [AHeap.n_push]; omega), cellsAt_push, if_pos rfl]; rfl); clear hi1 hi2 hx));refine hK2 _ _ ?_;clear hK2 K2))
  · have hz : ¬ er = 0 := by simpa using hb
    refine ⟨⟨_, _, rfl, ?_, ?_⟩, HX2.out.push' _⟩
    · rw [HSL.out, if_neg hz]; exact ints_nil _
    · rw [HML.out, if_neg hz]; exact ints_nil _
  have hz : er = 0 := by simpa using hb
  have h12 := HN.out hz
  have hI1 : Ints H1 (.slice fa fn fn) (firstL s c) := ints_of_own HI1.out (ends_len s c).1
  have hI2 : Ints H1 (.slice la ln ln) (lastL s c) := ints_of_own HI2.out (ends_len s c).2
  have HC1 := Lib.hid (fun (loops : List (Nat × LInfo)) (H3 : AHeap) (hx3 : Ext (H1.push (.row [.slice oa on oc, .int .i64 pi, .slice fa fn fn, .slice la ln ln] 120)) H3) => HI.out loops H3 ((HX2.out.push' _).trans hx3) h12 73 #[.pointer (some ⟨H1.n, 0, none⟩)] (bef (firstL s c)) ok73 (fun loops H2 a hx ha => seen1_s (by have h1 := hx3.n; have h2 := hx.n; rw [AHeap.n_push] at h1; omega) (by have h1 := hx3.n; rw [AHeap.n_push] at h1; rw [hx.cellAt (by omega), hx3.cellAt (by rw [AHeap.n_push]; omega), cellAt_new]; rfl) (((hI1.ext (Ext.push _)).ext hx3).ext hx) (HB.out hz a ha).1 (HB.out hz a ha).2.1))
  have HC2 := Lib.hid (fun (loops : List (Nat × LInfo)) (H3 : AHeap) (hx3 : Ext (H1.push (.row [.slice oa on oc, .int .i64 pi, .slice fa fn fn, .slice la ln ln] 120)) H3) => HI.out loops H3 ((HX2.out.push' _).trans hx3) h12 75 #[.pointer (some ⟨H1.n, 0, none⟩)] (bef (lastL s c)) ok75 (fun loops H2 a hx ha => seen2_s (by have h1 := hx3.n; have h2 := hx.n; rw [AHeap.n_push] at h1; omega) (by have h1 := hx3.n; rw [AHeap.n_push] at h1; rw [hx.cellAt (by omega), hx3.cellAt (by rw [AHeap.n_push]; omega), cellAt_new]; rfl) (((hI2.ext (Ext.push _)).ext hx3).ext hx) (HB.out hz a ha).1 (HB.out hz a ha).2.2))
  rw [if_pos hz] at HSL HML
  have HO1 := Lib.hid (fun (H' : AHeap) (bs : Nat) (v : Value) (h : Own H' bs v 3 1 ((idsL s (bef (firstL s c))).map (Value.int .i64))) => ids_own h h12)
  have HO2 := Lib.hid (fun (H' : AHeap) (bs : Nat) (v : Value) (h : Own H' bs v 3 1 ((idsL s (bef (lastL s c))).map (Value.int .i64))) => ids_own h h12)
  generalize idsL s (bef (firstL s c)) = I1 at HSL HC1 HO1
  generalize idsL s (bef (lastL s c)) = I2 at HML HC2 HO2
  have hnz : er = 0 := hz
  clear hI1 hI2 HI HE HB HN hb
  repeat' (first|(with_reducible first|refine zA ?_|refine zB fun K hK=>?_|refine zC fun K2 hK2=>?_|refine zD ?_|refine zE ?_|refine zF ?_|refine zG ?_|refine zH ?_|refine zI ?_|refine zM ?_|refine zN ?_|refine zO ?_|refine zP ?_|refine zQ ?_|refine zR ?_)|((with_reducible refine zU (hK _ _ ?_));clear hK K)|((with_reducible refine zV ?_ ?_ fun K1 K3 d hdst h1 h3=>?_);rfl;exact yB rfl;cases hdst;go_simp)|((with_reducible refine zW fun K1 K3 h1 h3=>?_);go_simp)|((first|refine h1 ?_|refine h3 ?_);clear h1 h3 K1 K3)|((first|refine zX (fun hb=>h1 ?_) (fun hb=>h3 ?_)|refine zX (fun hb=>h3 ?_) (fun hb=>h1 ?_))<;>(clear h1 h3 K1 K3;(try have hb2:=yC hb);(try have hb2:=yD hb);(try have hb2:=yE hb);(try have hb2:=yF hb);(try have hb2:=yG hb)))|(refine fun (K2:_→AHeap→Prop) hK2=>?_)|((with_reducible refine zY ?_ ?_);decide)|((with_reducible first|refine zZ ?_ (fun K hK=>?_)|refine yA ?_ (fun K hK=>?_));(focus go_simp;done);go_simp;refine hK _ _ ?_;clear hK K)|(go_simp;(try go_bits);(try first |((with_reducible show CallS _ _ _ _ _ _);first|(refine CallS.mono (HC1.out _ _ (Ext.refl _)) ?_; rintro v1 H2 ⟨ho, hx⟩; (have HV1 := Lib.hid (HO1.out _ _ _ ho)); (have HX3 := Lib.hid hx); (have hc02 : cellsAt H2 H.n 0 2 = some [Value.slice wa s.words.length wc, Value.slice aa s.alts.length ac] := by rw [hx.cellsAt (by rw [AHeap.n_push]; omega), cellsAt_push, if_neg (by omega)]; exact hc01); (have hn2 : H1.n < H2.n := by have := hx.n; rw [AHeap.n_push] at this; omega); clear ho hx)|(refine CallS.mono (HC2.out _ _ HX3.out) ?_; rintro v2 H3 ⟨ho, hx⟩; (have HV2 := Lib.hid (HO2.out _ _ _ ho)); (have HV12 := Lib.hid (HV1.out.ext hx)); (have HX4 := Lib.hid (HX3.out.trans hx)); clear ho hx)));refine hK2 _ _ ?_;clear hK2 K2))
  refine ⟨⟨_, _, by rw [hnz], ?_, ?_⟩, (HX2.out.push' _).trans HX4.out⟩
  · rw [HSL.out]; exact HV12.out
  · rw [HML.out]; exact HV2.out

end Go.Proofs.Try
namespace Go.Proofs.Try
open Go Go.Am Go.RowKit Go.Co
set_option maxRecDepth 100000

end Go.Proofs.Try
