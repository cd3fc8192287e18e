/- Contracts of functions, walked. -/
import Derived.Test.YtgddlpegljkgpaaGreatStUT
import Derived.Test.YtgddlpegljkgpaaGreatStTB
import Derived.Test.YtgddlpegljkgpaaGreatStUI
import Derived.Test.YtgddlpegljkgpaaGreatStSU
import Derived.Test.YtgddlpegljkgpaaGreatStSF
set_option linter.all false
namespace Go.Proofs.Tryz
open Go Go.Am Go.RowKit Go.Co
set_option maxRecDepth 100000

def madeLess (s : Sheet) (c : Copy) (a : Alt) : Bool := (courseOf (lessS s [a.id]) c).made c.per.toNat
theorem ints_one {H : AHeap} {i : Int} : Ints (H.push (.row [.int .i64 i] 3)) (.slice (some ⟨H.n, 0, none⟩) 1 1) [i] :=
  ints_of_own (l := [i]) (own_new (base := 0) (size := 1) (Nat.zero_le _) (by rw [AHeap.n_push]; omega) AHeap.get_push_new rfl (by decide)) (by simp)
set_option maxHeartbeats 4000000 in
theorem susp1_s {loops : List (Nat × LInfo)} {H : AHeap} {q p : Nat} {wa aa ca : Option Addr} {wn wc an ac cn cc : Nat} {s : Sheet} {c : Copy} {a : Alt} (hq : q < H.n) (hp : p < H.n) (hs : SheetV H (.agg #[.slice wa wn wc, .slice aa an ac]) s) (hsc : cellsAt H q 0 2 = some [.slice wa wn wc, .slice aa an ac]) (hc : CopyV H (.agg #[.slice ca cn cc, .int .i64 c.beg, .int .i64 c.fin, .int .i64 c.per]) c) (hcc : cellsAt H p 0 4 = some [.slice ca cn cc, .int .i64 c.beg, .int .i64 c.fin, .int .i64 c.per]) (he : errCopy s c = 0) : CallS Tryz.prog loops 61 (a.val :: #[Value.pointer (some ⟨q, 0, none⟩), Value.pointer (some ⟨p, 0, none⟩)].toList) H fun r H' => r = .bool (madeLess s c a) ∧ H' = H := by
  refine CallS.forget (R := fun v => v = .bool (madeLess s c a)) (by rintro v rfl; rfl) ?_
  have HV := Lib.hid hs
  have HC := Lib.hid hc
  obtain ⟨i1, i2, i3, i4, i5, i6⟩ := a
  have he' := errCopy_less he [i1]
  obtain ⟨g0, g1, -, -, -, -, g6, g7⟩ := errCopy_ok he
  have g8 := err_ok g0
  have g9 := win_iff.1 g8.2.1
  have HWO := Lib.hid (fun (loops : List (Nat × LInfo)) (H' : AHeap) (iv : Value) (hx : Ext H H') (hi : Ints H' iv [i1]) => without_e (loops := loops) (HV.out.ext hx) hi (by omega) (by omega) (by have := g8.2.2.2; omega) (by simp))
  have HCO := Lib.hid (fun (loops : List (Nat × LInfo)) (H' : AHeap) (v : Value) (hx : Ext H H') (hs : SheetV H' v (lessS s [i1])) => courseOf_e (loops := loops) hs (HC.out.ext hx) he')
  have HCM := Lib.hid (fun (loops : List (Nat × LInfo)) (H' : AHeap) (v : Value) (hv : CourseV H' v (courseOf (lessS s [i1]) c)) => canBeMade_s (loops := loops) (p := c.per.toNat) hv (courseOf_ord he') (by show c.per = _; omega) (by omega) (by rw [courseOf_len]; omega))
  have hm : madeLess s c ⟨i1, i2, i3, i4, i5, i6⟩ = (courseOf (lessS s [i1]) c).made c.per.toNat := rfl
  rw [hm]
  clear hm hs hc g0 g1 g6 g7 g8 g9 he he'
  generalize (courseOf (lessS s [i1]) c).made c.per.toNat = bb at HCM
  generalize courseOf (lessS s [i1]) c = x at HCM HCO
  refine CallS.enter' Tryz.func61 rfl Tryz.ntmps61 (by simp) fun f hd hf => ?_
  have f0 := hf 0
  have f1 := hf 1
  have f2 := hf 2
  simp [Alt.val] at f0 f1 f2
  clear hf
  repeat' (first|(with_reducible first|refine zA ?_|refine zB fun K hK=>?_|refine zC fun K2 hK2=>?_|refine zD ?_|refine zE ?_|refine zF ?_|refine zG ?_|refine zH ?_|refine zI ?_|refine zM ?_|refine zN ?_|refine zO ?_|refine zP ?_|refine zQ ?_|refine zR ?_)|((with_reducible refine zU (hK _ _ ?_));clear hK K)|((with_reducible refine zV ?_ ?_ fun K1 K3 d hdst h1 h3=>?_);rfl;exact yB rfl;cases hdst;go_simp)|((with_reducible refine zW fun K1 K3 h1 h3=>?_);go_simp)|((first|refine h1 ?_|refine h3 ?_);clear h1 h3 K1 K3)|((first|refine zX (fun hb=>h1 ?_) (fun hb=>h3 ?_)|refine zX (fun hb=>h3 ?_) (fun hb=>h1 ?_))<;>(clear h1 h3 K1 K3;(try have hb2:=yC hb);(try have hb2:=yD hb);(try have hb2:=yE hb);(try have hb2:=yF hb);(try have hb2:=yG hb)))|(refine fun (K2:_→AHeap→Prop) hK2=>?_)|((with_reducible refine zY ?_ ?_);decide)|((with_reducible first|refine zZ ?_ (fun K hK=>?_)|refine yA ?_ (fun K hK=>?_));(focus go_simp;done);go_simp;refine hK _ _ ?_;clear hK K)|((with_reducible refine yH mixed rfl ?_ 20 fun K0 hK0=>?_);kernel_rfl)|(with_reducible first|exact yI|exact yJ|refine yK ?_|refine yL ?_|refine yM ?_)|((with_reducible first|refine yN ?_ ?_|refine yO ?_ ?_|refine yP ?_ ?_);rfl)|((with_reducible refine yQ ?_ ?_);rfl;refine hK0 _ _ ?_;clear hK0 K0)|((with_reducible refine yR ?_ ?_ ?_ ?_);rfl;rfl;rfl)|((with_reducible refine yS ?_ ?_ ?_ fun K2 hK2=>?_);rfl;rfl;exact yB rfl)|((with_reducible refine yT ?_ ?_ ?_ ?_ fun K1 K3 d hdst h1 h3=>?_);rfl;rfl;rfl;exact yB rfl;cases hdst;go_simp)|((with_reducible refine yU ?_ ?_ ?_ ?_ fun K1 K3 d hdst h1 h3=>?_);rfl;rfl;rfl;exact yB rfl;cases hdst;go_simp)|((with_reducible refine yV ?_ ?_ (fun K2 hK2=>?_) ?_);rfl;exact yB rfl)|((with_reducible refine yW ?_ ?_ ?_ ?_ (fun K2 hK2=>?_) ?_);rfl;exact yB rfl;rfl;(focus go_simp;done))|((with_reducible refine yX ?_ ?_ ?_ (fun K2 hK2=>?_) ?_);rfl;rfl;exact yB rfl)|((with_reducible refine yY ?_ ?_ (fun K2 hK2=>?_) ?_);rfl;rfl)|((with_reducible refine yZ ?_ ?_);(first|rfl|(dsimp only;decide +kernel)))|((with_reducible refine xA ?_ ?_);(focus go_simp;done))|(go_simp;(try go_bits);(try first |((with_reducible show CallS _ _ _ _ _ _);first|(refine CallS.mono (HWO.out _ _ _ ((Ext.push _).push' _) ints_one) ?_; rintro _ H2 ⟨hv, ⟨wa2, wn2, aa2, an2, rfl⟩, hx⟩; (have HS2 := Lib.hid (hv H2 (Nat.le_refl _) (fun _ _ _ => rfl))); (have HX2 := Lib.hid (((Ext.push _).push' _).trans hx)); (have hcc2 : cellsAt H2 p 0 4 = some [.slice ca cn cc, .int .i64 c.beg, .int .i64 c.fin, .int .i64 c.per] := (HX2.out.cellsAt hp).trans hcc); (have hp2 : p < H2.n := by have := HX2.out.n; omega); clear hv hx; go_simp)|(refine CallS.mono (HCO.out _ _ _ HX2.out HS2.out) ?_; rintro xv H3 ⟨hv, hx⟩; (have HXV := Lib.hid hv); (have HX3 := Lib.hid (HX2.out.trans hx)); (obtain ⟨ov, rfl, -⟩ := hv); clear hx; go_simp)|(refine CallS.mono (HCM.out _ _ _ HXV.out) ?_; rintro _ _ ⟨rfl, h9⟩; rw [h9]; clear h9; go_simp))|((refine one_v el22 sz3 ze3 rfl (by decide) (by decide) rfl rfl ?_); go_simp));(first|(refine hK2 _ _ ?_ ?_<;>clear hK2 K2)|(refine hK2 _ _ ?_;clear hK2 K2))))
  exact ⟨rfl, HX3.out⟩

def suspL (s : Sheet) (c : Copy) : List Int := if errCopy s c = 0 then (if (courseOf s c).made c.per.toNat = true then [] else idsL s (madeLess s c)) else []
theorem ints_nil' (H : AHeap) : Ints H (.slice none 0 0) [] := ⟨rfl, by simp, none, 0, rfl, by simp⟩
theorem ids_own' {H : AHeap} {bs : Nat} {v : Value} {s : Sheet} {acc : Alt → Bool} (h : Own H bs v 3 1 ((idsL s acc).map (Value.int .i64))) (hn : s.alts.length ≤ 12) : Ints H v (idsL s acc) :=
  ints_of_own h (by
    have := List.length_filter_le acc s.alts
    rw [idsL, sortL_len, List.length_map]; omega)
set_option maxHeartbeats 4000000 in
theorem suspects_e {loops : List (Nat × LInfo)} {H : AHeap} {sv cv : Value} {s : Sheet} {c : Copy} (hs : SheetV H sv s) (hc : CopyV H cv c) (hn : errCopy s c = 0 → s.alts.length ≤ 12) : CallS Tryz.prog loops 23 [sv, cv] H fun r H' => (∃ v, r = .tuple #[v, .int .i64 (errCopy s c)] ∧ Ints H' v (suspL s c)) ∧ Ext H H' := by
  have HS := Lib.hid hs
  have HC := Lib.hid hc
  obtain ⟨wv, av, rfl, hw, ha⟩ := hs
  obtain ⟨hwl, wa, wc, rfl⟩ := hw.slice
  obtain ⟨hal, aa, ac, rfl⟩ := ha.slice
  obtain ⟨cv, rfl, hcw⟩ := hc
  obtain ⟨hcl, ca, cc, rfl⟩ := hcw.slice
  clear hw ha hcw
  have HX1 : Hid (Ext H ((H.push (.row [Value.slice wa s.words.length wc, Value.slice aa s.alts.length ac] 25)).push (.row [Value.slice ca c.words.length cc, .int .i64 c.beg, .int .i64 c.fin, .int .i64 c.per] 27))) := Lib.hid (((Ext.refl _).push' _).push' _)
  have HCC := Lib.hid (fun (loops : List (Nat × LInfo)) => checkCopy_s (loops := loops) (HS.out.ext HX1.out) (HC.out.ext HX1.out))
  have HSL : Hid (suspL s c = if errCopy s c = 0 then (if (courseOf s c).made c.per.toNat = true then [] else idsL s (madeLess s c)) else []) := Lib.hid rfl
  generalize suspL s c = SL at HSL
  refine CallS.enter' Tryz.func23 rfl Tryz.ntmps23 (by simp) fun f hd hf => ?_
  have f0 := hf 0
  have f1 := hf 1
  simp at f0 f1
  clear hf
  by_cases he : errCopy s c = 0
  · obtain ⟨-, g1, -, -, -, -, g6, g7⟩ := errCopy_ok he
    have h12 := hn he
    have HCO := Lib.hid (fun (loops : List (Nat × LInfo)) => courseOf_e (loops := loops) (HS.out.ext HX1.out) (HC.out.ext HX1.out) he)
    have g9 := win_iff.1 (err_ok (errCopy_ok he).1).2.1
    have HCM := Lib.hid (fun (loops : List (Nat × LInfo)) (H' : AHeap) (v : Value) (hv : CourseV H' v (courseOf s c)) => canBeMade_s (loops := loops) (p := c.per.toNat) hv (courseOf_ord he) (by show c.per = _; omega) (by omega) (by rw [courseOf_len]; omega))
    have ok61 : okFn Tryz.prog 61 = true := by kernel_rfl
    have HID := Lib.hid (fun (loops : List (Nat × LInfo)) (G : AHeap) (hx : Ext ((H.push (.row [Value.slice wa s.words.length wc, Value.slice aa s.alts.length ac] 25)).push (.row [Value.slice ca c.words.length cc, .int .i64 c.beg, .int .i64 c.fin, .int .i64 c.per] 27)) G) => idsOf_o (loops := loops) (g := 61) (caps := #[Value.pointer (some ⟨H.n, 0, none⟩), Value.pointer (some ⟨H.n + 1, 0, none⟩)]) (acc := madeLess s c) (HS.out.ext (HX1.out.trans hx)) h12 ok61 (fun loops H2 a hx2 ha => susp1_s (by have := hx.n; have := hx2.n; simp only [AHeap.n_push] at *; omega) (by have := hx.n; have := hx2.n; simp only [AHeap.n_push] at *; omega) (HS.out.ext (HX1.out.trans (hx.trans hx2))) (by
        rw [(hx.trans hx2).cellsAt (by simp only [AHeap.n_push]; omega), cellsAt_push, if_neg (by simp only [AHeap.n_push]; omega), cellsAt_push, if_pos rfl]; rfl) (HC.out.ext (HX1.out.trans (hx.trans hx2))) (by
        rw [(hx.trans hx2).cellsAt (by simp only [AHeap.n_push]; omega), cellsAt_push, if_pos (by simp only [AHeap.n_push])]; rfl) he))
    have HIO := Lib.hid (fun (H' : AHeap) (bs : Nat) (v : Value) (h : Own H' bs v 3 1 ((idsL s (madeLess s c)).map (Value.int .i64))) => ids_own' h h12)
    rw [he] at HCC ⊢
    rw [if_pos he] at HSL
    clear g1 g6 g7 g9 h12 hn he
    generalize idsL s (madeLess s c) = I1 at HSL HID HIO
    generalize (courseOf s c).made c.per.toNat = mb at HSL HCM
    generalize courseOf s c = x at HCM HCO
    cases mb
    all_goals repeat' (first|(with_reducible first|refine zA ?_|refine zB fun K hK=>?_|refine zC fun K2 hK2=>?_|refine zD ?_|refine zE ?_|refine zF ?_|refine zG ?_|refine zH ?_|refine zI ?_|refine zM ?_|refine zN ?_|refine zO ?_|refine zP ?_|refine zQ ?_|refine zR ?_)|((with_reducible refine zU (hK _ _ ?_));clear hK K)|((with_reducible refine zV ?_ ?_ fun K1 K3 d hdst h1 h3=>?_);rfl;exact yB rfl;cases hdst;go_simp)|((with_reducible refine zW fun K1 K3 h1 h3=>?_);go_simp)|((first|refine h1 ?_|refine h3 ?_);clear h1 h3 K1 K3)|((first|refine zX (fun hb=>h1 ?_) (fun hb=>h3 ?_)|refine zX (fun hb=>h3 ?_) (fun hb=>h1 ?_))<;>(clear h1 h3 K1 K3;(try have hb2:=yC hb);(try have hb2:=yD hb);(try have hb2:=yE hb);(try have hb2:=yF hb);(try have hb2:=yG hb)))|(refine fun (K2:_→AHeap→Prop) hK2=>?_)|((with_reducible refine zY ?_ ?_);decide)|((with_reducible first|refine zZ ?_ (fun K hK=>?_)|refine yA ?_ (fun K hK=>?_));(focus go_simp;done);go_simp;refine hK _ _ ?_;clear hK K)|(go_simp;(try go_bits);(try first |((with_reducible show CallS _ _ _ _ _ _);first|(refine CallS.mono (HCC.out _) ?_; rintro _ _ ⟨rfl, h9⟩; rw [h9]; clear h9; go_simp)|(refine CallS.mono (HCO.out _) ?_; rintro xv H3 ⟨hv, hx⟩; (have HXV := Lib.hid hv); (have HX3 := Lib.hid hx); (obtain ⟨ov, rfl, -⟩ := hv); (have hcc3 : cellsAt H3 H.n 0 2 = some [Value.slice wa s.words.length wc, Value.slice aa s.alts.length ac] := by rw [hx.cellsAt (by simp only [AHeap.n_push]; omega), cellsAt_push, if_neg (by simp only [AHeap.n_push]; omega), cellsAt_push, if_pos rfl]; rfl); (have hn3 : H.n < H3.n := by have := hx.n; simp only [AHeap.n_push] at this; omega); clear hx; go_simp)|(refine CallS.mono (HCM.out _ _ _ HXV.out) ?_; rintro _ _ ⟨rfl, h9⟩; rw [h9]; clear h9; go_simp)|(refine CallS.mono (HID.out _ _ HX3.out) ?_; rintro v4 H4 ⟨ho, hx⟩; (have HV4 := Lib.hid (HIO.out _ _ _ ho)); (have HX4 := Lib.hid (HX3.out.trans hx)); clear ho hx; go_simp)));refine hK2 _ _ ?_;clear hK2 K2))
    · exact ⟨⟨_, rfl, by rw [HSL.out, if_neg (by decide)]; exact HV4.out⟩, HX1.out.trans HX4.out⟩
    · exact ⟨⟨_, rfl, by rw [HSL.out, if_pos rfl]; exact ints_nil' _⟩, HX1.out.trans HX3.out⟩
  · have heb : (errCopy s c != 0) = true := by simpa using he
    rw [if_neg he] at HSL
    repeat' (first|(with_reducible first|refine zA ?_|refine zB fun K hK=>?_|refine zC fun K2 hK2=>?_|refine zD ?_|refine zE ?_|refine zF ?_|refine zG ?_|refine zH ?_|refine zI ?_|refine zM ?_|refine zN ?_|refine zO ?_|refine zP ?_|refine zQ ?_|refine zR ?_)|((with_reducible refine zU (hK _ _ ?_));clear hK K)|((with_reducible refine zV ?_ ?_ fun K1 K3 d hdst h1 h3=>?_);rfl;exact yB rfl;cases hdst;go_simp)|((with_reducible refine zW fun K1 K3 h1 h3=>?_);go_simp)|((first|refine h1 ?_|refine h3 ?_);clear h1 h3 K1 K3)|((first|refine zX (fun hb=>h1 ?_) (fun hb=>h3 ?_)|refine zX (fun hb=>h3 ?_) (fun hb=>h1 ?_))<;>(clear h1 h3 K1 K3;(try have hb2:=yC hb);(try have hb2:=yD hb);(try have hb2:=yE hb);(try have hb2:=yF hb);(try have hb2:=yG hb)))|(refine fun (K2:_→AHeap→Prop) hK2=>?_)|((with_reducible refine zY ?_ ?_);decide)|((with_reducible first|refine zZ ?_ (fun K hK=>?_)|refine yA ?_ (fun K hK=>?_));(focus go_simp;done);go_simp;refine hK _ _ ?_;clear hK K)|(go_simp;(try go_bits);(try first | ((with_reducible show CallS _ _ _ _ _ _);refine CallS.mono (HCC.out _) ?_; rintro _ _ ⟨rfl, h9⟩; rw [h9]; clear h9; go_simp));refine hK2 _ _ ?_;clear hK2 K2))
    exact ⟨⟨_, rfl, by rw [HSL.out]; exact ints_nil' _⟩, HX1.out⟩
end Go.Proofs.Tryz
namespace Go.Proofs.Tryz
open Go Go.Am Go.RowKit Go.Co
set_option maxRecDepth 100000

@[go_sem] theorem slHiI {β : Type} {kk : K β} {H : AHeap} {b n c k : Nat} {q : IntKind} (hg : elemIsR H b 3 = true) (hk : k ≤ c) (hc : 0 < c) : aSlice Tryz.prog 22 (.slice (some ⟨b, 0, none⟩) n c) none (some (.int q (k : Int))) H kk = kk (.slice (some ⟨b, 0, none⟩) k c) H := by
  have h1 : hiOf n c (some (.int q (k : Int))) = some k := by show (if k ≤ c then some k else none) = _; rw [if_pos hk]
  simp only [aSlice, el22, h1, loOf, sz3, Nat.zero_le, if_true, sliceOn, hg, Bool.not_true, Bool.false_eq_true, if_false, hc, Nat.zero_mul, Nat.add_zero, Nat.sub_zero]
@[go_sem] theorem slLoI {β : Type} {kk : K β} {H : AHeap} {b n k : Nat} {q : IntKind} (hg : elemIsR H b 3 = true) (hk : k < n) : aSlice Tryz.prog 22 (.slice (some ⟨b, 0, none⟩) n n) (some (.int q (k : Int))) none H kk = kk (.slice (some ⟨b, k, none⟩) (n - k) (n - k)) H := by
  have h1 : loOf (some (.int q (k : Int))) = some k := rfl
  simp only [aSlice, el22, h1, hiOf, sz3, sliceOn, hg, Bool.not_true, Bool.false_eq_true, if_false, show k ≤ n from by omega, hk, if_true, Nat.zero_add, Nat.mul_one]
@[go_sem] theorem slEndI {β : Type} {kk : K β} {H : AHeap} {b n : Nat} {q : IntKind} (hg : elemIsR H b 3 = true) (hk : 0 < n) : aSlice Tryz.prog 22 (.slice (some ⟨b, 0, none⟩) n n) (some (.int q (n : Int))) none H kk = kk (.slice (some ⟨b, 0, some 1⟩) 0 0) H := by
  have h1 : loOf (some (.int q (n : Int))) = some n := rfl
  simp only [aSlice, el22, h1, hiOf, sz3, sliceOn, hg, Bool.not_true, Bool.false_eq_true, if_false, show n ≤ n from by omega, show ¬ n < n from by omega, show ¬ n = 0 from by omega, if_true, show n - n = 0 from by omega]
@[go_sem] theorem slNilI {β : Type} {kk : K β} {H : AHeap} {q : IntKind} : aSlice Tryz.prog 22 (.slice none 0 0) none (some (.int q 0)) H kk = kk (.slice none 0 0) H := by
  have h1 : hiOf 0 0 (some (.int q 0)) = some 0 := rfl
  simp only [aSlice, el22, h1, loOf, sz3, Nat.zero_le, if_true, sliceOn, Nat.sub_zero]
@[go_sem] theorem slNilLoI {β : Type} {kk : K β} {H : AHeap} {q : IntKind} : aSlice Tryz.prog 22 (.slice none 0 0) (some (.int q 0)) none H kk = kk (.slice none 0 0) H := by
  have h1 : loOf (some (.int q 0)) = some 0 := rfl
  simp only [aSlice, el22, h1, hiOf, sz3, Nat.le_refl, if_true, sliceOn, Nat.sub_zero]
@[go_sem] theorem elemIsR_oldI {H : AHeap} {o : AObj} {b : Nat} {e : TypeId} (h : b < H.n) : elemIsR (H.push o) b e = elemIsR H b e := by
  simp only [elemIsR, AHeap.get_push_old h]
theorem stop_seq {P : Program} {cx : Cx} {f : AF} {H : AHeap} {Q : Post} {n : Nat} {ops : Array Oper} {b : Bool} {z : Code} (h : Stop (CodeS P cx (.seq (.region n ops b) z) f H Q)) : CodeS P cx (.seq (.region n ops b) z) f H Q := h.out
theorem cellsRow {H : AHeap} {b o m : Nat} {l : List Value} {e : TypeId} (h : H.get b = .row l e) (hm : o + m ≤ l.length) : cellsAt H b o m = some ((l.drop o).take m) := by
  simp [cellsAt, h, hm]

set_option maxHeartbeats 4000000 in
theorem insert_b {loops : List (Nat × LInfo)} {H : AHeap} {b n : Nat} {L : List Int} {x : Int} (hg : H.get b = .row (L.map (Value.int .i64)) 3) (hb : b < H.n) (hl : L.length = n) (hn : n ≤ 1000) (hn1 : 0 < n) : CallS Tryz.prog loops 64 [.slice (some ⟨b, 0, none⟩) n n, .int .i64 x] H fun r H' => Own H' H.n r 3 1 ((insL L x).map (Value.int .i64)) ∧ Ext H H' := by
  have HL := Lib.hid hl
  have HG0 := Lib.hid hg
  have HIN : Hid (insL L x = L.take (posL x L n) ++ x :: L.drop (posL x L n)) := Lib.hid (by rw [insL, hl])
  generalize insL L x = res at HIN
  clear hl hg
  refine CallS.enter' Tryz.func64 rfl Tryz.ntmps64 (by simp) fun f hd hf => ?_
  have f0 := hf 0
  have f1 := hf 1
  simp at f0 f1
  clear hf
  repeat' (first|((with_reducible refine stop_block (n := 0) ?_))|(with_reducible first|refine zA ?_|refine zB fun K hK=>?_|refine zC fun K2 hK2=>?_|refine zD ?_|refine zE ?_|refine zF ?_|refine zG ?_|refine zH ?_|refine zI ?_|refine zM ?_|refine zN ?_|refine zO ?_|refine zP ?_|refine zQ ?_|refine zR ?_)|((with_reducible refine zU (hK _ _ ?_));clear hK K)|((with_reducible refine zV ?_ ?_ fun K1 K3 d hdst h1 h3=>?_);rfl;exact yB rfl;cases hdst;go_simp)|((with_reducible refine zW fun K1 K3 h1 h3=>?_);go_simp)|((first|refine h1 ?_|refine h3 ?_);clear h1 h3 K1 K3)|((first|refine zX (fun hb=>h1 ?_) (fun hb=>h3 ?_)|refine zX (fun hb=>h3 ?_) (fun hb=>h1 ?_))<;>(clear h1 h3 K1 K3;(try have hb2:=yC hb);(try have hb2:=yD hb);(try have hb2:=yE hb);(try have hb2:=yF hb);(try have hb2:=yG hb)))|(refine fun (K2:_→AHeap→Prop) hK2=>?_)|((with_reducible refine zY ?_ ?_);decide)|((with_reducible first|refine zZ ?_ (fun K hK=>?_)|refine yA ?_ (fun K hK=>?_));(focus go_simp;done);go_simp;refine hK _ _ ?_;clear hK K)|(go_simp;(try go_bits);refine hK2 _ _ ?_;clear hK2 K2))
  refine ⟨CodeS.cut (fun f H' => ∃ k : Nat, k ≤ n ∧ Hid (posL x L n = k) ∧ f.tmp 5 = .int .i64 k ∧ f.tmp 0 = .slice (some ⟨b, 0, none⟩) n n ∧ f.tmp 1 = .int .i64 x ∧ f.defers = [] ∧ H' = H) ?_ ?_⟩
  · repeat' (first|(with_reducible first|refine zA ?_|refine zB fun K hK=>?_|refine zC fun K2 hK2=>?_|refine zD ?_|refine zE ?_|refine zF ?_|refine zG ?_|refine zH ?_|refine zI ?_|refine zM ?_|refine zN ?_|refine zO ?_|refine zP ?_|refine zQ ?_|refine zR ?_)|((with_reducible refine zU (hK _ _ ?_));clear hK K)|((with_reducible refine zV ?_ ?_ fun K1 K3 d hdst h1 h3=>?_);rfl;exact yB rfl;cases hdst;go_simp)|((with_reducible refine zW fun K1 K3 h1 h3=>?_);go_simp)|((first|refine h1 ?_|refine h3 ?_);clear h1 h3 K1 K3)|((first|refine zX (fun hb=>h1 ?_) (fun hb=>h3 ?_)|refine zX (fun hb=>h3 ?_) (fun hb=>h1 ?_))<;>(clear h1 h3 K1 K3;(try have hb2:=yC hb);(try have hb2:=yD hb);(try have hb2:=yE hb);(try have hb2:=yF hb);(try have hb2:=yG hb)))|(refine fun (K2:_→AHeap→Prop) hK2=>?_)|((with_reducible refine zY ?_ ?_);decide)|((with_reducible first|refine zZ ?_ (fun K hK=>?_)|refine yA ?_ (fun K hK=>?_));(focus go_simp;done);go_simp;refine hK _ _ ?_;clear hK K)|(go_simp;(try go_bits);refine hK2 _ _ ?_;clear hK2 K2))
    refine CodeS.loop (fun m f H' => ∃ (k : Nat) (kk : Int), k ≤ n ∧ k = m ∧ kk = (k : Int) ∧ f.tmp 5 = .int .i64 kk ∧ f.tmp 0 = .slice (some ⟨b, 0, none⟩) n n ∧ f.tmp 1 = .int .i64 x ∧ f.defers = [] ∧ Hid (posL x L n = posL x L k) ∧ H' = H) n ?_ ?_
    · exact ⟨n, n, Nat.le_refl _, rfl, rfl, (by first|go_simp<;>go_num|assumption), (by first|go_simp<;>go_num|assumption), (by first|go_simp<;>go_num|assumption), (by first|go_simp<;>go_num|assumption), Lib.hid rfl, rfl⟩
    clear f0 f1 hd f
    rintro m f H' ⟨k, kk, hk, rfl, hkk, f5, f0, f1, hd, HP, rfl⟩
    rcases Nat.eq_zero_or_pos k with hk0 | hk0
    · subst hk0
      have : kk = 0 := by omega
      subst this
      clear hkk
      repeat' (first|(with_reducible first|refine zA ?_|refine zB fun K hK=>?_|refine zC fun K2 hK2=>?_|refine zD ?_|refine zE ?_|refine zF ?_|refine zG ?_|refine zH ?_|refine zI ?_|refine zM ?_|refine zN ?_|refine zO ?_|refine zP ?_|refine zQ ?_|refine zR ?_)|((with_reducible refine zU (hK _ _ ?_));clear hK K)|((with_reducible refine zV ?_ ?_ fun K1 K3 d hdst h1 h3=>?_);rfl;exact yB rfl;cases hdst;go_simp)|((with_reducible refine zW fun K1 K3 h1 h3=>?_);go_simp)|((first|refine h1 ?_|refine h3 ?_);clear h1 h3 K1 K3)|((first|refine zX (fun hb=>h1 ?_) (fun hb=>h3 ?_)|refine zX (fun hb=>h3 ?_) (fun hb=>h1 ?_))<;>(clear h1 h3 K1 K3;(try have hb2:=yC hb);(try have hb2:=yD hb);(try have hb2:=yE hb);(try have hb2:=yF hb);(try have hb2:=yG hb)))|(refine fun (K2:_→AHeap→Prop) hK2=>?_)|((with_reducible refine zY ?_ ?_);decide)|((with_reducible first|refine zZ ?_ (fun K hK=>?_)|refine yA ?_ (fun K hK=>?_));(focus go_simp;done);go_simp;refine hK _ _ ?_;clear hK K)|((with_reducible refine yH mixed rfl ?_ 20 fun K0 hK0=>?_);kernel_rfl)|(with_reducible first|exact yI|exact yJ|refine yK ?_|refine yL ?_|refine yM ?_)|((with_reducible first|refine yN ?_ ?_|refine yO ?_ ?_|refine yP ?_ ?_);rfl)|((with_reducible refine yQ ?_ ?_);rfl;refine hK0 _ _ ?_;clear hK0 K0)|((with_reducible refine yR ?_ ?_ ?_ ?_);rfl;rfl;rfl)|((with_reducible refine yS ?_ ?_ ?_ fun K2 hK2=>?_);rfl;rfl;exact yB rfl)|((with_reducible refine yT ?_ ?_ ?_ ?_ fun K1 K3 d hdst h1 h3=>?_);rfl;rfl;rfl;exact yB rfl;cases hdst;go_simp)|((with_reducible refine yU ?_ ?_ ?_ ?_ fun K1 K3 d hdst h1 h3=>?_);rfl;rfl;rfl;exact yB rfl;cases hdst;go_simp)|((with_reducible refine yV ?_ ?_ (fun K2 hK2=>?_) ?_);rfl;exact yB rfl)|((with_reducible refine yW ?_ ?_ ?_ ?_ (fun K2 hK2=>?_) ?_);rfl;exact yB rfl;rfl;(focus go_simp;done))|((with_reducible refine yX ?_ ?_ ?_ (fun K2 hK2=>?_) ?_);rfl;rfl;exact yB rfl)|((with_reducible refine yY ?_ ?_ (fun K2 hK2=>?_) ?_);rfl;rfl)|((with_reducible refine yZ ?_ ?_);(first|rfl|(dsimp only;decide +kernel)))|((with_reducible refine xA ?_ ?_);(focus go_simp;done))|(go_simp;(try go_bits);(first|(refine hK2 _ _ ?_ ?_<;>clear hK2 K2)|(refine hK2 _ _ ?_;clear hK2 K2))))
      exact ⟨0, Nat.zero_le _, Lib.hid (by rw [HP.out]; rfl), (by first|go_simp<;>go_num|assumption), (by first|go_simp<;>go_num|assumption), (by first|go_simp<;>go_num|assumption), (by first|go_simp<;>go_num|assumption), rfl⟩
    · obtain ⟨j, rfl⟩ : ∃ j, k = j + 1 := ⟨k - 1, by omega⟩
      have hkj : kk = (j : Int) + 1 := by omega
      subst hkj
      clear hkk hk0
      have hc : cellAt H' b j = some (.int .i64 (L.getD j 0)) := rowCell HG0.out (by rw [HL.out]; omega)
      have HPS : Hid (posL x L (j + 1) = if L.getD j 0 > x then posL x L j else j + 1) := Lib.hid rfl
      generalize L.getD j 0 = y at hc HPS
      have hj0 : (0 : Int) < (j : Int) + 1 := by omega
      have hj1 : (j : Int) < (n : Int) := by omega
      repeat' (first|(with_reducible first|refine zA ?_|refine zB fun K hK=>?_|refine zC fun K2 hK2=>?_|refine zD ?_|refine zE ?_|refine zF ?_|refine zG ?_|refine zH ?_|refine zI ?_|refine zM ?_|refine zN ?_|refine zO ?_|refine zP ?_|refine zQ ?_|refine zR ?_)|((with_reducible refine zU (hK _ _ ?_));clear hK K)|((with_reducible refine zV ?_ ?_ fun K1 K3 d hdst h1 h3=>?_);rfl;exact yB rfl;cases hdst;go_simp)|((with_reducible refine zW fun K1 K3 h1 h3=>?_);go_simp)|((first|refine h1 ?_|refine h3 ?_);clear h1 h3 K1 K3)|((first|refine zX (fun hb=>h1 ?_) (fun hb=>h3 ?_)|refine zX (fun hb=>h3 ?_) (fun hb=>h1 ?_))<;>(clear h1 h3 K1 K3;(try have hb2:=yC hb);(try have hb2:=yD hb);(try have hb2:=yE hb);(try have hb2:=yF hb);(try have hb2:=yG hb)))|(refine fun (K2:_→AHeap→Prop) hK2=>?_)|((with_reducible refine zY ?_ ?_);decide)|((with_reducible first|refine zZ ?_ (fun K hK=>?_)|refine yA ?_ (fun K hK=>?_));(focus go_simp;done);go_simp;refine hK _ _ ?_;clear hK K)|((with_reducible refine yH mixed rfl ?_ 20 fun K0 hK0=>?_);kernel_rfl)|(with_reducible first|exact yI|exact yJ|refine yK ?_|refine yL ?_|refine yM ?_)|((with_reducible first|refine yN ?_ ?_|refine yO ?_ ?_|refine yP ?_ ?_);rfl)|((with_reducible refine yQ ?_ ?_);rfl;refine hK0 _ _ ?_;clear hK0 K0)|((with_reducible refine yR ?_ ?_ ?_ ?_);rfl;rfl;rfl)|((with_reducible refine yS ?_ ?_ ?_ fun K2 hK2=>?_);rfl;rfl;exact yB rfl)|((with_reducible refine yT ?_ ?_ ?_ ?_ fun K1 K3 d hdst h1 h3=>?_);rfl;rfl;rfl;exact yB rfl;cases hdst;go_simp)|((with_reducible refine yU ?_ ?_ ?_ ?_ fun K1 K3 d hdst h1 h3=>?_);rfl;rfl;rfl;exact yB rfl;cases hdst;go_simp)|((with_reducible refine yV ?_ ?_ (fun K2 hK2=>?_) ?_);rfl;exact yB rfl)|((with_reducible refine yW ?_ ?_ ?_ ?_ (fun K2 hK2=>?_) ?_);rfl;exact yB rfl;rfl;(focus go_simp;done))|((with_reducible refine yX ?_ ?_ ?_ (fun K2 hK2=>?_) ?_);rfl;rfl;exact yB rfl)|((with_reducible refine yY ?_ ?_ (fun K2 hK2=>?_) ?_);rfl;rfl)|((with_reducible refine yZ ?_ ?_);(first|rfl|(dsimp only;decide +kernel)))|((with_reducible refine xA ?_ ?_);(focus go_simp;done))|(go_simp;(try go_bits);(first|(refine hK2 _ _ ?_ ?_<;>clear hK2 K2)|(refine hK2 _ _ ?_;clear hK2 K2))))
      · have hxy : y > x := by have := ‹decide (x < y) = true›; simpa using this
        exact Post.round_normal ⟨j, by omega, j, j, by omega, rfl, rfl, (by first|go_simp<;>go_num|assumption), (by first|go_simp<;>go_num|assumption), (by first|go_simp<;>go_num|assumption), (by first|go_simp<;>go_num|assumption), Lib.hid (by rw [HP.out, HPS.out, if_pos hxy]), rfl⟩
      · have hxy : ¬ y > x := by have := ‹decide (x < y) = false›; simp at this; omega
        exact ⟨j + 1, hk, Lib.hid (by rw [HP.out, HPS.out, if_neg hxy]), (by first|go_simp<;>go_num|assumption), (by first|go_simp<;>go_num|assumption), (by first|go_simp<;>go_num|assumption), (by first|go_simp<;>go_num|assumption), rfl⟩
  clear f0 f1 hd f
  rintro f H' ⟨k, hk, HP, f5, f0, f1, hd, rfl⟩
  rw [HP.out] at HIN
  have he := elemIsR_row HG0.out
  have HC1 : Hid (∀ G : AHeap, Ext H' G → cellsAt G b 0 (k * 1) = some ((L.take k).map (Value.int .i64))) := Lib.hid (fun G hx => by
    rw [cellsRow ((hx.get _ hb).trans HG0.out) (by simp [HL.out]; omega)]; simp)
  have HC2 : Hid (∀ G : AHeap, Ext H' G → cellsAt G b k ((n - k) * 1) = some ((L.drop k).map (Value.int .i64))) := Lib.hid (fun G hx => by
    rw [cellsRow ((hx.get _ hb).trans HG0.out) (by simp [HL.out]; omega)]
    rw [Nat.mul_one, List.map_drop, List.take_of_length_le (by simp [HL.out])])
  have HT1 : Hid (((L.take k).map (Value.int .i64)).length = k * 1) := Lib.hid (by simp [HL.out]; omega)
  have HT2 : Hid (((L.drop k).map (Value.int .i64)).length = (n - k) * 1) := Lib.hid (by simp [HL.out])
  have hb0 : b ≤ H'.n := by omega
  have hbp : b < H'.n + 1 := by omega
  repeat' (first|((with_reducible refine stop_seq (n := 4) ?_))|(with_reducible first|refine zA ?_|refine zB fun K hK=>?_|refine zC fun K2 hK2=>?_|refine zD ?_|refine zE ?_|refine zF ?_|refine zG ?_|refine zH ?_|refine zI ?_|refine zM ?_|refine zN ?_|refine zO ?_|refine zP ?_|refine zQ ?_|refine zR ?_)|((with_reducible refine zU (hK _ _ ?_));clear hK K)|((with_reducible refine zV ?_ ?_ fun K1 K3 d hdst h1 h3=>?_);rfl;exact yB rfl;cases hdst;go_simp)|((with_reducible refine zW fun K1 K3 h1 h3=>?_);go_simp)|((first|refine h1 ?_|refine h3 ?_);clear h1 h3 K1 K3)|((first|refine zX (fun hb=>h1 ?_) (fun hb=>h3 ?_)|refine zX (fun hb=>h3 ?_) (fun hb=>h1 ?_))<;>(clear h1 h3 K1 K3;(try have hb2:=yC hb);(try have hb2:=yD hb);(try have hb2:=yE hb);(try have hb2:=yF hb);(try have hb2:=yG hb)))|(refine fun (K2:_→AHeap→Prop) hK2=>?_)|((with_reducible refine zY ?_ ?_);decide)|((with_reducible first|refine zZ ?_ (fun K hK=>?_)|refine yA ?_ (fun K hK=>?_));(focus go_simp;done);go_simp;refine hK _ _ ?_;clear hK K)|(go_simp;(try go_bits);refine hK2 _ _ ?_;clear hK2 K2))
  refine ⟨CodeS.cut (fun f H2 => ∃ v : Value, f.tmp 6 = v ∧ f.tmp 5 = .int .i64 k ∧ f.tmp 0 = .slice (some ⟨b, 0, none⟩) n n ∧ f.tmp 1 = .int .i64 x ∧ f.defers = [] ∧ Hid (Ext H' H2) ∧ ((Hid (k = 0) ∧ v = .slice (some ⟨H'.n, 0, none⟩) 0 0 ∧ H'.n < H2.n ∧ Hid (H2.get H'.n = .row [] 3)) ∨ (0 < k ∧ Hid (Own H2 H'.n v 3 1 ((L.take k).map (Value.int .i64)))))) ?_ ?_⟩
  · rcases Nat.eq_zero_or_pos k with hk0 | hk0
    · have HK0 := Lib.hid hk0
      have hn0 : 0 < n := hn1
      clear hk0
      repeat' (first|(with_reducible first|refine zA ?_|refine zB fun K hK=>?_|refine zC fun K2 hK2=>?_|refine zD ?_|refine zE ?_|refine zF ?_|refine zG ?_|refine zH ?_|refine zI ?_|refine zM ?_|refine zN ?_|refine zO ?_|refine zP ?_|refine zQ ?_|refine zR ?_)|((with_reducible refine zU (hK _ _ ?_));clear hK K)|((with_reducible refine zV ?_ ?_ fun K1 K3 d hdst h1 h3=>?_);rfl;exact yB rfl;cases hdst;go_simp)|((with_reducible refine zW fun K1 K3 h1 h3=>?_);go_simp)|((first|refine h1 ?_|refine h3 ?_);clear h1 h3 K1 K3)|((first|refine zX (fun hb=>h1 ?_) (fun hb=>h3 ?_)|refine zX (fun hb=>h3 ?_) (fun hb=>h1 ?_))<;>(clear h1 h3 K1 K3;(try have hb2:=yC hb);(try have hb2:=yD hb);(try have hb2:=yE hb);(try have hb2:=yF hb);(try have hb2:=yG hb)))|(refine fun (K2:_→AHeap→Prop) hK2=>?_)|((with_reducible refine zY ?_ ?_);decide)|((with_reducible first|refine zZ ?_ (fun K hK=>?_)|refine yA ?_ (fun K hK=>?_));(focus go_simp;done);go_simp;refine hK _ _ ?_;clear hK K)|(go_simp;(try go_bits);(try first | ((refine lit0_k el22 sz3 ze3 rfl (by decide) ?_); go_simp) | ((refine appendNil_k el22 sz3 (by rw [HK0.out]; exact srcCells_none) ?_); go_simp));refine hK2 _ _ ?_;clear hK2 K2))
      exact ⟨_, (by first|go_simp<;>go_num|assumption), (by first|go_simp<;>go_num|assumption), (by first|go_simp<;>go_num|assumption), (by first|go_simp<;>go_num|assumption), (by first|go_simp<;>go_num|assumption), Lib.hid (Ext.push _), .inl ⟨HK0, rfl, by rw [AHeap.n_push]; omega, Lib.hid AHeap.get_push_new⟩⟩
    · repeat' (first|(with_reducible first|refine zA ?_|refine zB fun K hK=>?_|refine zC fun K2 hK2=>?_|refine zD ?_|refine zE ?_|refine zF ?_|refine zG ?_|refine zH ?_|refine zI ?_|refine zM ?_|refine zN ?_|refine zO ?_|refine zP ?_|refine zQ ?_|refine zR ?_)|((with_reducible refine zU (hK _ _ ?_));clear hK K)|((with_reducible refine zV ?_ ?_ fun K1 K3 d hdst h1 h3=>?_);rfl;exact yB rfl;cases hdst;go_simp)|((with_reducible refine zW fun K1 K3 h1 h3=>?_);go_simp)|((first|refine h1 ?_|refine h3 ?_);clear h1 h3 K1 K3)|((first|refine zX (fun hb=>h1 ?_) (fun hb=>h3 ?_)|refine zX (fun hb=>h3 ?_) (fun hb=>h1 ?_))<;>(clear h1 h3 K1 K3;(try have hb2:=yC hb);(try have hb2:=yD hb);(try have hb2:=yE hb);(try have hb2:=yF hb);(try have hb2:=yG hb)))|(refine fun (K2:_→AHeap→Prop) hK2=>?_)|((with_reducible refine zY ?_ ?_);decide)|((with_reducible first|refine zZ ?_ (fun K hK=>?_)|refine yA ?_ (fun K hK=>?_));(focus go_simp;done);go_simp;refine hK _ _ ?_;clear hK K)|(go_simp;(try go_bits);(try first | ((refine lit0_k el22 sz3 ze3 rfl (by decide) ?_); go_simp) | ((refine append0_g (b := H'.n) el22 sz3 by3 ze3 rfl (by decide) (AHeap.get_push_new) (by rw [AHeap.n_push]; omega) (srcCells_some hk0 (HC1.out _ (Ext.push _))) hk0 HT1.out oneV_list_int (by rw [HT1.out]; show k * 1 * 8 ≤ 1073741824; omega) fun H7 hn7 hg7 hk7 => ?_); (have HO7 := Lib.hid (own_new (base := H'.n) (by rw [AHeap.n_push]; omega) (by omega) hg7 HT1.out hk0)); (have HX7 := Lib.hid (grown_ext (Ext.push _) (Nat.le_refl _) hn7 hk7)); clear hn7 hg7 hk7; go_simp));refine hK2 _ _ ?_;clear hK2 K2))
      exact ⟨_, (by first|go_simp<;>go_num|assumption), (by first|go_simp<;>go_num|assumption), (by first|go_simp<;>go_num|assumption), (by first|go_simp<;>go_num|assumption), (by first|go_simp<;>go_num|assumption), HX7, .inr ⟨hk0, HO7⟩⟩
  · clear f5 f0 f1 hd f he
    rintro f H2 ⟨v, f6, f5, f0, f1, hd, HX, hcase⟩
    repeat' (first|((with_reducible refine stop_seq (n := 5) ?_))|(with_reducible first|refine zA ?_|refine zB fun K hK=>?_|refine zC fun K2 hK2=>?_|refine zD ?_|refine zE ?_|refine zF ?_|refine zG ?_|refine zH ?_|refine zI ?_|refine zM ?_|refine zN ?_|refine zO ?_|refine zP ?_|refine zQ ?_|refine zR ?_)|((with_reducible refine zU (hK _ _ ?_));clear hK K)|((with_reducible refine zV ?_ ?_ fun K1 K3 d hdst h1 h3=>?_);rfl;exact yB rfl;cases hdst;go_simp)|((with_reducible refine zW fun K1 K3 h1 h3=>?_);go_simp)|((first|refine h1 ?_|refine h3 ?_);clear h1 h3 K1 K3)|((first|refine zX (fun hb=>h1 ?_) (fun hb=>h3 ?_)|refine zX (fun hb=>h3 ?_) (fun hb=>h1 ?_))<;>(clear h1 h3 K1 K3;(try have hb2:=yC hb);(try have hb2:=yD hb);(try have hb2:=yE hb);(try have hb2:=yF hb);(try have hb2:=yG hb)))|(refine fun (K2:_→AHeap→Prop) hK2=>?_)|((with_reducible refine zY ?_ ?_);decide)|((with_reducible first|refine zZ ?_ (fun K hK=>?_)|refine yA ?_ (fun K hK=>?_));(focus go_simp;done);go_simp;refine hK _ _ ?_;clear hK K)|(go_simp;(try go_bits);refine hK2 _ _ ?_;clear hK2 K2))
    refine ⟨CodeS.cut (fun f H3 => ∃ v : Value, f.tmp 6 = v ∧ f.tmp 5 = .int .i64 k ∧ f.tmp 0 = .slice (some ⟨b, 0, none⟩) n n ∧ f.tmp 1 = .int .i64 x ∧ f.defers = [] ∧ Hid (Ext H' H3) ∧ Hid (Own H3 H'.n v 3 1 ((L.take k).map (Value.int .i64) ++ [Value.int .i64 x]))) ?_ ?_⟩
    · rcases hcase with ⟨HK0, rfl, hn2, HR⟩ | ⟨hk0, HO⟩
      · repeat' (first|(with_reducible first|refine zA ?_|refine zB fun K hK=>?_|refine zC fun K2 hK2=>?_|refine zD ?_|refine zE ?_|refine zF ?_|refine zG ?_|refine zH ?_|refine zI ?_|refine zM ?_|refine zN ?_|refine zO ?_|refine zP ?_|refine zQ ?_|refine zR ?_)|((with_reducible refine zU (hK _ _ ?_));clear hK K)|((with_reducible refine zV ?_ ?_ fun K1 K3 d hdst h1 h3=>?_);rfl;exact yB rfl;cases hdst;go_simp)|((with_reducible refine zW fun K1 K3 h1 h3=>?_);go_simp)|((first|refine h1 ?_|refine h3 ?_);clear h1 h3 K1 K3)|((first|refine zX (fun hb=>h1 ?_) (fun hb=>h3 ?_)|refine zX (fun hb=>h3 ?_) (fun hb=>h1 ?_))<;>(clear h1 h3 K1 K3;(try have hb2:=yC hb);(try have hb2:=yD hb);(try have hb2:=yE hb);(try have hb2:=yF hb);(try have hb2:=yG hb)))|(refine fun (K2:_→AHeap→Prop) hK2=>?_)|((with_reducible refine zY ?_ ?_);decide)|((with_reducible first|refine zZ ?_ (fun K hK=>?_)|refine yA ?_ (fun K hK=>?_));(focus go_simp;done);go_simp;refine hK _ _ ?_;clear hK K)|(go_simp;(try go_bits);(try first | ((refine one_k el22 sz3 ze3 rfl (by decide) (by decide) rfl rfl ?_); go_simp) | ((refine append0_g (b := H'.n) el22 sz3 by3 ze3 rfl (by decide) ((AHeap.get_push_old (by omega)).trans HR.out) (by rw [AHeap.n_push]; omega) (srcCells_new rfl) (by decide) rfl rfl (by show 1 * 8 ≤ 1073741824; omega) fun H7 hn7 hg7 hk7 => ?_); (have HO7 : Hid (Own H7 H'.n (.slice (some ⟨_, 0, none⟩) 1 1) 3 1 ((L.take k).map (Value.int .i64) ++ [Value.int .i64 x])) := Lib.hid (by rw [HK0.out]; exact own_new (by simp only [AHeap.n_push]; omega) (by omega) hg7 rfl (by decide))); (have HX7 := Lib.hid (grown_ext (HX.out.push' _) (Nat.le_refl _) hn7 hk7)); clear hn7 hg7 hk7; go_simp));refine hK2 _ _ ?_;clear hK2 K2))
        exact ⟨_, (by first|go_simp<;>go_num|assumption), (by first|go_simp<;>go_num|assumption), (by first|go_simp<;>go_num|assumption), (by first|go_simp<;>go_num|assumption), (by first|go_simp<;>go_num|assumption), HX7, HO7⟩
      · have hx2 := HX.out.n
        repeat' (first|(with_reducible first|refine zA ?_|refine zB fun K hK=>?_|refine zC fun K2 hK2=>?_|refine zD ?_|refine zE ?_|refine zF ?_|refine zG ?_|refine zH ?_|refine zI ?_|refine zM ?_|refine zN ?_|refine zO ?_|refine zP ?_|refine zQ ?_|refine zR ?_)|((with_reducible refine zU (hK _ _ ?_));clear hK K)|((with_reducible refine zV ?_ ?_ fun K1 K3 d hdst h1 h3=>?_);rfl;exact yB rfl;cases hdst;go_simp)|((with_reducible refine zW fun K1 K3 h1 h3=>?_);go_simp)|((first|refine h1 ?_|refine h3 ?_);clear h1 h3 K1 K3)|((first|refine zX (fun hb=>h1 ?_) (fun hb=>h3 ?_)|refine zX (fun hb=>h3 ?_) (fun hb=>h1 ?_))<;>(clear h1 h3 K1 K3;(try have hb2:=yC hb);(try have hb2:=yD hb);(try have hb2:=yE hb);(try have hb2:=yF hb);(try have hb2:=yG hb)))|(refine fun (K2:_→AHeap→Prop) hK2=>?_)|((with_reducible refine zY ?_ ?_);decide)|((with_reducible first|refine zZ ?_ (fun K hK=>?_)|refine yA ?_ (fun K hK=>?_));(focus go_simp;done);go_simp;refine hK _ _ ?_;clear hK K)|(go_simp;(try go_bits);(try first | ((refine one_k el22 sz3 ze3 rfl (by decide) (by decide) rfl rfl ?_); go_simp) | ((refine append_k2 el22 sz3 by3 ze3 rfl (by decide) (HO.out.ext (Ext.push _)) (srcCells_new rfl) (by decide) rfl (by rw [List.all_append, oneV_list_int]; rfl) (by rw [HT1.out]; show (k * 1 + 1) * 8 ≤ 1073741824; omega) (by rw [AHeap.n_push]; omega) fun v7 H7 ho7 hg7 => ?_); (have HO7 := Lib.hid (ho7.mono (base' := H'.n) (by rw [AHeap.n_push]; omega))); (have HX7 := Lib.hid (hg7.ext (HO.out.ext (Ext.push _)) (Nat.le_refl _) (HX.out.push' _))); clear ho7 hg7; go_simp));refine hK2 _ _ ?_;clear hK2 K2))
        exact ⟨_, (by first|go_simp<;>go_num|assumption), (by first|go_simp<;>go_num|assumption), (by first|go_simp<;>go_num|assumption), (by first|go_simp<;>go_num|assumption), (by first|go_simp<;>go_num|assumption), HX7, HO7⟩
    · clear f6 f5 f0 f1 hd f hcase HX v
      rintro f H3 ⟨v, f6, f5, f0, f1, hd, HX, HO⟩
      have he := elemIsR_row ((HX.out.get b hb).trans HG0.out)
      obtain ⟨va, vn, rfl⟩ := own_slice HO.out
      have hx3 := HX.out.n
      have HRES : Hid (res.map (Value.int .i64) = (L.take k).map (Value.int .i64) ++ [Value.int .i64 x] ++ (L.drop k).map (Value.int .i64)) := Lib.hid (by rw [HIN.out]; simp)
      by_cases hkn : k < n
      · have hkn2 : 0 < n - k := by omega
        repeat' (first|(with_reducible first|refine zA ?_|refine zB fun K hK=>?_|refine zC fun K2 hK2=>?_|refine zD ?_|refine zE ?_|refine zF ?_|refine zG ?_|refine zH ?_|refine zI ?_|refine zM ?_|refine zN ?_|refine zO ?_|refine zP ?_|refine zQ ?_|refine zR ?_)|((with_reducible refine zU (hK _ _ ?_));clear hK K)|((with_reducible refine zV ?_ ?_ fun K1 K3 d hdst h1 h3=>?_);rfl;exact yB rfl;cases hdst;go_simp)|((with_reducible refine zW fun K1 K3 h1 h3=>?_);go_simp)|((first|refine h1 ?_|refine h3 ?_);clear h1 h3 K1 K3)|((first|refine zX (fun hb=>h1 ?_) (fun hb=>h3 ?_)|refine zX (fun hb=>h3 ?_) (fun hb=>h1 ?_))<;>(clear h1 h3 K1 K3;(try have hb2:=yC hb);(try have hb2:=yD hb);(try have hb2:=yE hb);(try have hb2:=yF hb);(try have hb2:=yG hb)))|(refine fun (K2:_→AHeap→Prop) hK2=>?_)|((with_reducible refine zY ?_ ?_);decide)|((with_reducible first|refine zZ ?_ (fun K hK=>?_)|refine yA ?_ (fun K hK=>?_));(focus go_simp;done);go_simp;refine hK _ _ ?_;clear hK K)|(go_simp;(try go_bits);(try first | ((refine append_k2 el22 sz3 by3 ze3 rfl (by decide) HO.out (srcCells_some hkn2 (HC2.out _ HX.out)) hkn2 HT2.out (by rw [List.all_append, List.all_append, oneV_list_int, oneV_list_int]; rfl) (by rw [List.length_append, HT1.out, HT2.out]; show (k * 1 + 1 + (n - k) * 1) * 8 ≤ 1073741824; omega) hx3 fun v7 H7 ho7 hg7 => ?_); (have HO7 := Lib.hid (ho7.mono (base' := H'.n) hx3)); (have HX7 := Lib.hid (hg7.ext HO.out (Nat.le_refl _) HX.out)); clear ho7 hg7; go_simp));refine hK2 _ _ ?_;clear hK2 K2))
        exact ⟨by rw [HRES.out]; exact HO7.out, HX7.out⟩
      · have hke : k = n := by omega
        subst hke
        have hd0 : L.drop k = [] := List.drop_eq_nil_of_le (by rw [HL.out]; omega)
        repeat' (first|(with_reducible first|refine zA ?_|refine zB fun K hK=>?_|refine zC fun K2 hK2=>?_|refine zD ?_|refine zE ?_|refine zF ?_|refine zG ?_|refine zH ?_|refine zI ?_|refine zM ?_|refine zN ?_|refine zO ?_|refine zP ?_|refine zQ ?_|refine zR ?_)|((with_reducible refine zU (hK _ _ ?_));clear hK K)|((with_reducible refine zV ?_ ?_ fun K1 K3 d hdst h1 h3=>?_);rfl;exact yB rfl;cases hdst;go_simp)|((with_reducible refine zW fun K1 K3 h1 h3=>?_);go_simp)|((first|refine h1 ?_|refine h3 ?_);clear h1 h3 K1 K3)|((first|refine zX (fun hb=>h1 ?_) (fun hb=>h3 ?_)|refine zX (fun hb=>h3 ?_) (fun hb=>h1 ?_))<;>(clear h1 h3 K1 K3;(try have hb2:=yC hb);(try have hb2:=yD hb);(try have hb2:=yE hb);(try have hb2:=yF hb);(try have hb2:=yG hb)))|(refine fun (K2:_→AHeap→Prop) hK2=>?_)|((with_reducible refine zY ?_ ?_);decide)|((with_reducible first|refine zZ ?_ (fun K hK=>?_)|refine yA ?_ (fun K hK=>?_));(focus go_simp;done);go_simp;refine hK _ _ ?_;clear hK K)|(go_simp;(try go_bits);(try first | ((refine appendNil_k el22 sz3 srcCells_none ?_); go_simp));refine hK2 _ _ ?_;clear hK2 K2))
        exact ⟨by rw [HRES.out, hd0, List.map_nil, List.append_nil]; exact HO.out, HX.out⟩
theorem insert_0 {loops : List (Nat × LInfo)} {H : AHeap} {x : Int} : CallS Tryz.prog loops 64 [.slice none 0 0, .int .i64 x] H fun r H' => Own H' H.n r 3 1 (([x]).map (Value.int .i64)) ∧ Ext H H' := by
  refine CallS.enter' Tryz.func64 rfl Tryz.ntmps64 (by simp) fun f hd hf => ?_
  have f0 := hf 0
  have f1 := hf 1
  simp at f0 f1
  clear hf
  repeat' (first|(with_reducible first|refine zA ?_|refine zB fun K hK=>?_|refine zC fun K2 hK2=>?_|refine zD ?_|refine zE ?_|refine zF ?_|refine zG ?_|refine zH ?_|refine zI ?_|refine zM ?_|refine zN ?_|refine zO ?_|refine zP ?_|refine zQ ?_|refine zR ?_)|((with_reducible refine zU (hK _ _ ?_));clear hK K)|((with_reducible refine zV ?_ ?_ fun K1 K3 d hdst h1 h3=>?_);rfl;exact yB rfl;cases hdst;go_simp)|((with_reducible refine zW fun K1 K3 h1 h3=>?_);go_simp)|((first|refine h1 ?_|refine h3 ?_);clear h1 h3 K1 K3)|((first|refine zX (fun hb=>h1 ?_) (fun hb=>h3 ?_)|refine zX (fun hb=>h3 ?_) (fun hb=>h1 ?_))<;>(clear h1 h3 K1 K3;(try have hb2:=yC hb);(try have hb2:=yD hb);(try have hb2:=yE hb);(try have hb2:=yF hb);(try have hb2:=yG hb)))|(refine fun (K2:_→AHeap→Prop) hK2=>?_)|((with_reducible refine zY ?_ ?_);decide)|((with_reducible first|refine zZ ?_ (fun K hK=>?_)|refine yA ?_ (fun K hK=>?_));(focus go_simp;done);go_simp;refine hK _ _ ?_;clear hK K)|(go_simp;(try go_bits);refine hK2 _ _ ?_;clear hK2 K2))
  refine CodeS.loop (fun m f H' => f.tmp 5 = .int .i64 0 ∧ f.tmp 0 = .slice none 0 0 ∧ f.tmp 1 = .int .i64 x ∧ f.defers = [] ∧ H' = H) 0 ?_ ?_
  · exact ⟨(by first|go_simp<;>go_num|assumption), (by first|go_simp<;>go_num|assumption), (by first|go_simp<;>go_num|assumption), (by first|go_simp<;>go_num|assumption), rfl⟩
  clear f0 f1 hd f
  rintro m f H' ⟨f5, f0, f1, hd, rfl⟩
  repeat' (first|(with_reducible first|refine zA ?_|refine zB fun K hK=>?_|refine zC fun K2 hK2=>?_|refine zD ?_|refine zE ?_|refine zF ?_|refine zG ?_|refine zH ?_|refine zI ?_|refine zM ?_|refine zN ?_|refine zO ?_|refine zP ?_|refine zQ ?_|refine zR ?_)|((with_reducible refine zU (hK _ _ ?_));clear hK K)|((with_reducible refine zV ?_ ?_ fun K1 K3 d hdst h1 h3=>?_);rfl;exact yB rfl;cases hdst;go_simp)|((with_reducible refine zW fun K1 K3 h1 h3=>?_);go_simp)|((first|refine h1 ?_|refine h3 ?_);clear h1 h3 K1 K3)|((first|refine zX (fun hb=>h1 ?_) (fun hb=>h3 ?_)|refine zX (fun hb=>h3 ?_) (fun hb=>h1 ?_))<;>(clear h1 h3 K1 K3;(try have hb2:=yC hb);(try have hb2:=yD hb);(try have hb2:=yE hb);(try have hb2:=yF hb);(try have hb2:=yG hb)))|(refine fun (K2:_→AHeap→Prop) hK2=>?_)|((with_reducible refine zY ?_ ?_);decide)|((with_reducible first|refine zZ ?_ (fun K hK=>?_)|refine yA ?_ (fun K hK=>?_));(focus go_simp;done);go_simp;refine hK _ _ ?_;clear hK K)|(go_simp;(try go_bits);(try first | ((refine lit0_k el22 sz3 ze3 rfl (by decide) ?_); go_simp) | ((refine appendNil_k el22 sz3 srcCells_none ?_); go_simp)| ((refine one_k el22 sz3 ze3 rfl (by decide) (by decide) rfl rfl ?_); go_simp) | ((refine append0_g (b := H'.n) el22 sz3 by3 ze3 rfl (by decide) ((AHeap.get_push_old (by rw [AHeap.n_push]; omega)).trans AHeap.get_push_new) (by simp only [AHeap.n_push]; omega) (srcCells_new rfl) (by decide) rfl rfl (by show 1 * 8 ≤ 1073741824; omega) fun H7 hn7 hg7 hk7 => ?_); (have HO7 : Hid (Own H7 H'.n (.slice (some ⟨_, 0, none⟩) 1 1) 3 1 [Value.int .i64 x]) := Lib.hid (own_new (by simp only [AHeap.n_push]; omega) (by omega) hg7 rfl (by decide))); (have HX7 := Lib.hid (grown_ext ((Ext.push _).push' _) (Nat.le_refl _) hn7 hk7)); clear hn7 hg7 hk7; go_simp));refine hK2 _ _ ?_;clear hK2 K2))
  exact ⟨HO7.out, HX7.out⟩
theorem insert_o {loops : List (Nat × LInfo)} {H : AHeap} {bs : Nat} {v : Value} {L : List Int} {x : Int} (ho : Own H bs v 3 1 (L.map (Value.int .i64))) (hn : L.length ≤ 1000) : CallS Tryz.prog loops 64 [v, .int .i64 x] H fun r H' => Own H' H.n r 3 1 ((insL L x).map (Value.int .i64)) ∧ Ext H H' := by
  rcases ho with ⟨h1, h2⟩ | ⟨b, m, h1, h2, h3, h4, h5, h6⟩
  · have : L = [] := by simpa using h2
    subst this
    rw [h1]
    exact insert_0
  · rw [h1]
    have hm : L.length = m := by simpa using h5
    exact insert_b h4 h3 hm (by omega) h6
end Go.Proofs.Tryz
namespace Go.Proofs.Tryz
open Go Go.Am Go.RowKit Go.Co
set_option maxRecDepth 100000

def idsT (s : Sheet) (acc : Alt → Bool) (k : Nat) : List Int := sortL (((s.alts.take k).filter acc).map Alt.id)
theorem idsT_len (s : Sheet) (acc : Alt → Bool) (k : Nat) : (idsT s acc k).length ≤ k := by
  rw [idsT, sortL_len, List.length_map]
  have h1 := List.length_filter_le acc (s.alts.take k)
  rw [List.length_take] at h1
  omega
theorem idsT_succ {s : Sheet} {acc : Alt → Bool} {k : Nat} (h : k < s.alts.length) : idsT s acc (k + 1) = if acc s.alts[k] then insL (idsT s acc k) s.alts[k].id else idsT s acc k := by
  rw [idsT, List.take_succ_eq_append_getElem h, List.filter_append, List.map_append]
  cases hc : acc s.alts[k]
  · simp [List.filter, hc, idsT]
  · rw [if_pos rfl, idsT, ← sortL_snoc]; simp [List.filter, hc]
theorem idsT_all (s : Sheet) (acc : Alt → Bool) : idsT s acc s.alts.length = idsL s acc := by rw [idsT, List.take_length]; rfl

end Go.Proofs.Tryz
namespace Go.Proofs.Tryz
open Go Go.Am Go.RowKit Go.Co
set_option maxRecDepth 100000

theorem errGo_in (n : Int) : ∀ (l : List Alt) (d : Int) (seen : List Int), errGo n d seen l = 0 ∨ errGo n d seen l = 1 ∨ errGo n d seen l = 6
  | [], _, _ => .inl rfl
  | a :: t, d, seen => by
    rw [errGo]
    split
    · exact .inr (.inl rfl)
    · split
      · exact .inr (.inr rfl)
      · exact errGo_in n t _ _
theorem errCopy_ne9 (s : Sheet) (c : Copy) : ¬ errCopy s c = 9 := by
  have h : err s ≠ 9 := by
    unfold err
    split
    · decide
    · split
      · decide
      · rcases errGo_in s.words.length s.alts 0 [] with h | h | h <;> rw [h] <;> decide
  unfold errCopy
  split
  · exact h
  · split <;> decide
theorem err_of_less {s : Sheet} {c : Copy} (h : errCopy s c = 0) (a : Alt) : errExt (lessS s [a.id]) c = if madeLess s c a = true then 0 else 9 := by
  rw [errExt, if_neg (by simp [errCopy_less h [a.id]])]; rfl

set_option maxHeartbeats 8000000 in
theorem refSusp_f {loops : List (Nat × LInfo)} {H : AHeap} {sv cv : Value} {s : Sheet} {c : Copy} (hs : SheetV H sv s) (hc : CopyV H cv c) : CallS Tryz.prog loops 24 [sv, cv] H fun r H' => (∃ v, r = .agg #[v, .int .i64 (errCopy s c)] ∧ Ints H' v (suspL s c)) ∧ Ext H H' := by
  have HS := Lib.hid hs
  have HC := Lib.hid hc
  obtain ⟨wv, av, rfl, hw, ha⟩ := hs
  obtain ⟨hwl, wa, wc, rfl⟩ := hw.slice
  obtain ⟨hal, aa, ac, rfl⟩ := ha.slice
  have HA := Lib.hid ha
  obtain ⟨cv, rfl, hcw⟩ := hc
  obtain ⟨hcl, ca, cc, rfl⟩ := hcw.slice
  clear hw ha hcw
  have HX1 : Hid (Ext H (((H.push (.row [Value.slice wa s.words.length wc, Value.slice aa s.alts.length ac] 25)).push (.row [Value.slice ca c.words.length cc, .int .i64 c.beg, .int .i64 c.fin, .int .i64 c.per] 27)).push (.row [.slice none 0 0, .int .i64 0] 37))) := Lib.hid (((Ext.refl _).push' _).push' _ |>.push' _)
  have HCO := Lib.hid (fun (loops : List (Nat × LInfo)) => copied_s (loops := loops) (s := s) (c := c) (HS.out.ext HX1.out) (HC.out.ext HX1.out))
  rw [errCopied_ext] at HCO
  refine CallS.enter' Tryz.func24 rfl Tryz.ntmps24 (by simp) fun f hd hf => ?_
  have f0 := hf 0
  have f1 := hf 1
  simp at f0 f1
  clear hf
  by_cases he : errCopy s c = 0
  · have hE : errExt s c = if (courseOf s c).made c.per.toNat = true then 0 else 9 := by rw [errExt, if_neg (by simp [he])]
    have hSL : suspL s c = if (courseOf s c).made c.per.toNat = true then [] else idsL s (madeLess s c) := by rw [suspL, if_pos he]
    rw [hE] at HCO
    rw [hSL, he]
    have h40 := (err_ok (errCopy_ok he).1).2.2.2
    have HEL := Lib.hid (fun a => err_of_less he a)
    clear hE hSL
    generalize (courseOf s c).made c.per.toNat = md at HCO ⊢
    cases md
    · rw [if_neg (by decide)] at HCO ⊢
      repeat' (first|(with_reducible first|refine zA ?_|refine zB fun K hK=>?_|refine zC fun K2 hK2=>?_|refine zD ?_|refine zE ?_|refine zF ?_|refine zG ?_|refine zH ?_|refine zI ?_|refine zM ?_|refine zN ?_|refine zO ?_|refine zP ?_|refine zQ ?_|refine zR ?_)|((with_reducible refine zU (hK _ _ ?_));clear hK K)|((with_reducible refine zV ?_ ?_ fun K1 K3 d hdst h1 h3=>?_);rfl;exact yB rfl;cases hdst;go_simp)|((with_reducible refine zW fun K1 K3 h1 h3=>?_);go_simp)|((first|refine h1 ?_|refine h3 ?_);clear h1 h3 K1 K3)|((first|refine zX (fun hb=>h1 ?_) (fun hb=>h3 ?_)|refine zX (fun hb=>h3 ?_) (fun hb=>h1 ?_))<;>(clear h1 h3 K1 K3;(try have hb2:=yC hb);(try have hb2:=yD hb);(try have hb2:=yE hb);(try have hb2:=yF hb);(try have hb2:=yG hb)))|(refine fun (K2:_→AHeap→Prop) hK2=>?_)|((with_reducible refine zY ?_ ?_);decide)|((with_reducible first|refine zZ ?_ (fun K hK=>?_)|refine yA ?_ (fun K hK=>?_));(focus go_simp;done);go_simp;refine hK _ _ ?_;clear hK K)|(go_simp;(try go_bits);(try first | ((with_reducible show CallS _ _ _ _ _ _);refine CallS.mono (HCO.out _) ?_; rintro _ _ ⟨rfl, h9⟩; rw [h9]; clear h9; go_simp));refine hK2 _ _ ?_;clear hK2 K2))
      refine CodeS.loop (fun m f H' => ∃ (k : Nat) (v : Value), k ≤ s.alts.length ∧ m = s.alts.length - k ∧ f.tmp 7 = .int .i64 k ∧ f.tmp 6 = v ∧ f.tmp 2 = .pointer (some ⟨H.n, 0, none⟩) ∧ f.tmp 3 = .pointer (some ⟨H.n + 1, 0, none⟩) ∧ f.tmp 4 = .pointer (some ⟨H.n + 1 + 1, 0, none⟩) ∧ f.defers = [] ∧ Hid (Ext (((H.push (.row [Value.slice wa s.words.length wc, Value.slice aa s.alts.length ac] 25)).push (.row [Value.slice ca c.words.length cc, .int .i64 c.beg, .int .i64 c.fin, .int .i64 c.per] 27)).push (.row [.slice none 0 0, .int .i64 0] 37)) H') ∧ Hid (Own H' (H.n + 3) v 3 1 ((idsT s (madeLess s c) k).map (Value.int .i64)))) s.alts.length ?_ ?_
      · exact ⟨0, .slice none 0 0, by simp, by simp, (by first|go_simp<;>go_num|assumption), (by first|go_simp<;>go_num|assumption), (by first|go_simp<;>go_num|assumption), (by first|go_simp<;>go_num|assumption), (by first|go_simp<;>go_num|assumption), (by first|go_simp<;>go_num|assumption), Lib.hid (Ext.refl _), Lib.hid Own.nil⟩
      clear f0 f1 hd f
      rintro m f H' ⟨k, v, hk, rfl, f7, f6, f2, f3, f4, hd, HY, HO⟩
      obtain ⟨va, vn, rfl⟩ := own_slice HO.out
      have hHn := HY.out.n
      simp only [AHeap.n_push] at hHn
      have hn0 : H.n < H'.n := by omega
      have hn1 : H.n + 1 < H'.n := by omega
      have hn2 : H.n + 1 + 1 < H'.n := by omega
      have hs0 : cellsAt H' H.n 0 2 = some [Value.slice wa s.words.length wc, Value.slice aa s.alts.length ac] := by
        rw [HY.out.cellsAt (by simp only [AHeap.n_push]; omega), cellsAt_old (by simp only [AHeap.n_push]; omega), cellsAt_old (by simp only [AHeap.n_push]; omega), cellsAt_new]; rfl
      have hs1 : cellAt H' H.n 1 = some (Value.slice aa s.alts.length ac) := by
        rw [HY.out.cellAt (by simp only [AHeap.n_push]; omega), cellAt_old (by simp only [AHeap.n_push]; omega), cellAt_old (by simp only [AHeap.n_push]; omega), cellAt_new]; rfl
      have hc0 : cellsAt H' (H.n + 1) 0 4 = some [Value.slice ca c.words.length cc, .int .i64 c.beg, .int .i64 c.fin, .int .i64 c.per] := by
        rw [HY.out.cellsAt (by simp only [AHeap.n_push]; omega), cellsAt_old (by simp only [AHeap.n_push]; omega), ← AHeap.n_push H, cellsAt_new]; rfl
      have hq : H'.get (H.n + 1 + 1) = .row [.slice none 0 0, .int .i64 0] 37 := (HY.out.get _ (by simp only [AHeap.n_push]; omega)).trans (get_at (by simp only [AHeap.n_push]))
      have HXX := Lib.hid (HX1.out.trans HY.out)
      by_cases hlt : k < s.alts.length
      · obtain ⟨b, o, sp, rfl, hb, hx6, hx7⟩ := (HA.out.ext HXX.out).at_ hlt
        have hel := HEL.out s.alts[k]
        have HTT := Lib.hid (idsT_succ (acc := madeLess s c) hlt)
        have hll := idsT_len s (madeLess s c) k
        have HLL := Lib.hid (show (idsT s (madeLess s c) k).length ≤ 1000 by omega)
        generalize hT2 : idsT s (madeLess s c) (k + 1) = T2 at HTT
        have HT2 := Lib.hid hT2
        generalize idsT s (madeLess s c) k = T1 at HTT HLL HO
        generalize madeLess s c s.alts[k] = mb at hel HTT
        generalize s.alts[k] = a at hx6 hx7 hel HTT
        obtain ⟨i1, i2, i3, i4, i5, i6⟩ := a
        have hy1 : cellAt H' b (o + k * 6) = some (.int .i64 i1) := hx7 0 (.int .i64 i1) rfl
        have hb1 : b < H'.n := hb
        have HLE := Lib.hid (fun (loops : List (Nat × LInfo)) => less_e (loops := loops) (HS.out.ext (HXX.out.push' (.row [.int .i64 i1] 3))) ints_one (by omega))
        have HCP := Lib.hid (fun (loops : List (Nat × LInfo)) (G : AHeap) (v : Value) (hs : SheetV G v (lessS s [i1])) (hx : Ext H' G) => copied_s (loops := loops) hs (HC.out.ext (HXX.out.trans hx)))
        have hel' : errCopied (lessS s [i1]) c = if mb = true then 0 else 9 := hel
        rw [hel'] at HCP
        clear hx6 hx7 hll hT2 hel hel'
        cases mb
        · rw [if_neg (by decide)] at HCP
          repeat' (first|(with_reducible first|refine zA ?_|refine zB fun K hK=>?_|refine zC fun K2 hK2=>?_|refine zD ?_|refine zE ?_|refine zF ?_|refine zG ?_|refine zH ?_|refine zI ?_|refine zM ?_|refine zN ?_|refine zO ?_|refine zP ?_|refine zQ ?_|refine zR ?_)|((with_reducible refine zU (hK _ _ ?_));clear hK K)|((with_reducible refine zV ?_ ?_ fun K1 K3 d hdst h1 h3=>?_);rfl;exact yB rfl;cases hdst;go_simp)|((with_reducible refine zW fun K1 K3 h1 h3=>?_);go_simp)|((first|refine h1 ?_|refine h3 ?_);clear h1 h3 K1 K3)|((first|refine zX (fun hb=>h1 ?_) (fun hb=>h3 ?_)|refine zX (fun hb=>h3 ?_) (fun hb=>h1 ?_))<;>(clear h1 h3 K1 K3;(try have hb2:=yC hb);(try have hb2:=yD hb);(try have hb2:=yE hb);(try have hb2:=yF hb);(try have hb2:=yG hb)))|(refine fun (K2:_→AHeap→Prop) hK2=>?_)|((with_reducible refine zY ?_ ?_);decide)|((with_reducible first|refine zZ ?_ (fun K hK=>?_)|refine yA ?_ (fun K hK=>?_));(focus go_simp;done);go_simp;refine hK _ _ ?_;clear hK K)|((with_reducible refine yH mixed rfl ?_ 20 fun K0 hK0=>?_);kernel_rfl)|(with_reducible first|exact yI|exact yJ|refine yK ?_|refine yL ?_|refine yM ?_)|((with_reducible first|refine yN ?_ ?_|refine yO ?_ ?_|refine yP ?_ ?_);rfl)|((with_reducible refine yQ ?_ ?_);rfl;refine hK0 _ _ ?_;clear hK0 K0)|((with_reducible refine yR ?_ ?_ ?_ ?_);rfl;rfl;rfl)|((with_reducible refine yS ?_ ?_ ?_ fun K2 hK2=>?_);rfl;rfl;exact yB rfl)|((with_reducible refine yT ?_ ?_ ?_ ?_ fun K1 K3 d hdst h1 h3=>?_);rfl;rfl;rfl;exact yB rfl;cases hdst;go_simp)|((with_reducible refine yU ?_ ?_ ?_ ?_ fun K1 K3 d hdst h1 h3=>?_);rfl;rfl;rfl;exact yB rfl;cases hdst;go_simp)|((with_reducible refine yV ?_ ?_ (fun K2 hK2=>?_) ?_);rfl;exact yB rfl)|((with_reducible refine yW ?_ ?_ ?_ ?_ (fun K2 hK2=>?_) ?_);rfl;exact yB rfl;rfl;(focus go_simp;done))|((with_reducible refine yX ?_ ?_ ?_ (fun K2 hK2=>?_) ?_);rfl;rfl;exact yB rfl)|((with_reducible refine yY ?_ ?_ (fun K2 hK2=>?_) ?_);rfl;rfl)|((with_reducible refine yZ ?_ ?_);(first|rfl|(dsimp only;decide +kernel)))|((with_reducible refine xA ?_ ?_);(focus go_simp;done))|(go_simp;(try go_bits);(try first |((with_reducible show CallS _ _ _ _ _ _);first|(refine CallS.mono (HLE.out _) ?_; rintro _ H3 ⟨hv, ⟨wa3, wn3, wc3, aa3, an3, ac3, rfl⟩, hx⟩; (have HV3 := Lib.hid hv); (have HX3 := Lib.hid ((Ext.push _).trans hx)); (have hc03 := (HX3.out.cellsAt hn1).trans hc0); (have hn13 : H.n + 1 < H3.n := by have := HX3.out.n; omega); clear hv hx; go_simp)|(refine CallS.mono (HCP.out _ _ _ HV3.out HX3.out) ?_; rintro _ _ ⟨rfl, h9⟩; rw [h9]; clear h9; go_simp))|((refine one_v el22 sz3 ze3 rfl (by decide) (by decide) rfl rfl ?_); go_simp));(first|(refine hK2 _ _ ?_ ?_<;>clear hK2 K2)|(refine hK2 _ _ ?_;clear hK2 K2))))
          refine Post.round_normal ⟨s.alts.length - (k + 1), by omega, k + 1, .slice va vn vn, by omega, rfl, (by first|go_simp<;>go_num|assumption), (by first|go_simp<;>go_num|assumption), (by first|go_simp<;>go_num|assumption), (by first|go_simp<;>go_num|assumption), (by first|go_simp<;>go_num|assumption), (by first|go_simp<;>go_num|assumption), Lib.hid (HY.out.trans HX3.out), Lib.hid ?_⟩
          rw [HT2.out, HTT.out, if_neg (by decide)]
          exact HO.out.ext HX3.out
        · rw [if_pos rfl] at HCP
          repeat' (first|(with_reducible first|refine zA ?_|refine zB fun K hK=>?_|refine zC fun K2 hK2=>?_|refine zD ?_|refine zE ?_|refine zF ?_|refine zG ?_|refine zH ?_|refine zI ?_|refine zM ?_|refine zN ?_|refine zO ?_|refine zP ?_|refine zQ ?_|refine zR ?_)|((with_reducible refine zU (hK _ _ ?_));clear hK K)|((with_reducible refine zV ?_ ?_ fun K1 K3 d hdst h1 h3=>?_);rfl;exact yB rfl;cases hdst;go_simp)|((with_reducible refine zW fun K1 K3 h1 h3=>?_);go_simp)|((first|refine h1 ?_|refine h3 ?_);clear h1 h3 K1 K3)|((first|refine zX (fun hb=>h1 ?_) (fun hb=>h3 ?_)|refine zX (fun hb=>h3 ?_) (fun hb=>h1 ?_))<;>(clear h1 h3 K1 K3;(try have hb2:=yC hb);(try have hb2:=yD hb);(try have hb2:=yE hb);(try have hb2:=yF hb);(try have hb2:=yG hb)))|(refine fun (K2:_→AHeap→Prop) hK2=>?_)|((with_reducible refine zY ?_ ?_);decide)|((with_reducible first|refine zZ ?_ (fun K hK=>?_)|refine yA ?_ (fun K hK=>?_));(focus go_simp;done);go_simp;refine hK _ _ ?_;clear hK K)|((with_reducible refine yH mixed rfl ?_ 20 fun K0 hK0=>?_);kernel_rfl)|(with_reducible first|exact yI|exact yJ|refine yK ?_|refine yL ?_|refine yM ?_)|((with_reducible first|refine yN ?_ ?_|refine yO ?_ ?_|refine yP ?_ ?_);rfl)|((with_reducible refine yQ ?_ ?_);rfl;refine hK0 _ _ ?_;clear hK0 K0)|((with_reducible refine yR ?_ ?_ ?_ ?_);rfl;rfl;rfl)|((with_reducible refine yS ?_ ?_ ?_ fun K2 hK2=>?_);rfl;rfl;exact yB rfl)|((with_reducible refine yT ?_ ?_ ?_ ?_ fun K1 K3 d hdst h1 h3=>?_);rfl;rfl;rfl;exact yB rfl;cases hdst;go_simp)|((with_reducible refine yU ?_ ?_ ?_ ?_ fun K1 K3 d hdst h1 h3=>?_);rfl;rfl;rfl;exact yB rfl;cases hdst;go_simp)|((with_reducible refine yV ?_ ?_ (fun K2 hK2=>?_) ?_);rfl;exact yB rfl)|((with_reducible refine yW ?_ ?_ ?_ ?_ (fun K2 hK2=>?_) ?_);rfl;exact yB rfl;rfl;(focus go_simp;done))|((with_reducible refine yX ?_ ?_ ?_ (fun K2 hK2=>?_) ?_);rfl;rfl;exact yB rfl)|((with_reducible refine yY ?_ ?_ (fun K2 hK2=>?_) ?_);rfl;rfl)|((with_reducible refine yZ ?_ ?_);(first|rfl|(dsimp only;decide +kernel)))|((with_reducible refine xA ?_ ?_);(focus go_simp;done))|(go_simp;(try go_bits);(try first |((with_reducible show CallS _ _ _ _ _ _);first|(refine CallS.mono (HLE.out _) ?_; rintro _ H3 ⟨hv, ⟨wa3, wn3, wc3, aa3, an3, ac3, rfl⟩, hx⟩; (have HV3 := Lib.hid hv); (have HX3 := Lib.hid ((Ext.push _).trans hx)); (have hc03 := (HX3.out.cellsAt hn1).trans hc0); (have hn13 : H.n + 1 < H3.n := by have := HX3.out.n; omega); (have hs13 := (HX3.out.cellAt hn0).trans hs1); (have hn03 : H.n < H3.n := by omega); (have hy13 := (HX3.out.cellAt hb1).trans hy1); (have hb13 : b < H3.n := by have := HX3.out.n; omega); clear hv hx; go_simp)|(refine CallS.mono (HCP.out _ _ _ HV3.out HX3.out) ?_; rintro _ _ ⟨rfl, h9⟩; rw [h9]; clear h9; go_simp)|(refine CallS.mono (insert_o (HO.out.ext HX3.out) HLL.out) ?_; rintro _ H5 ⟨ho, hx⟩; (obtain ⟨ra, rn, rfl⟩ := own_slice ho); (have HR := Lib.hid ho); (have HX5 := Lib.hid (HX3.out.trans hx)); clear ho hx; go_simp))|((refine one_v el22 sz3 ze3 rfl (by decide) (by decide) rfl rfl ?_); go_simp));(first|(refine hK2 _ _ ?_ ?_<;>clear hK2 K2)|(refine hK2 _ _ ?_;clear hK2 K2))))
          refine Post.round_normal ⟨s.alts.length - (k + 1), by omega, k + 1, .slice ra rn rn, by omega, rfl, (by first|go_simp<;>go_num|assumption), (by first|go_simp<;>go_num|assumption), (by first|go_simp<;>go_num|assumption), (by first|go_simp<;>go_num|assumption), (by first|go_simp<;>go_num|assumption), (by first|go_simp<;>go_num|assumption), Lib.hid (HY.out.trans HX5.out), Lib.hid ?_⟩
          rw [HT2.out, HTT.out, if_pos rfl]
          exact HR.out.mono (by have := HX3.out.n; omega)
      · have hke : k = s.alts.length := by omega
        subst hke
        repeat' (first|(with_reducible first|refine zA ?_|refine zB fun K hK=>?_|refine zC fun K2 hK2=>?_|refine zD ?_|refine zE ?_|refine zF ?_|refine zG ?_|refine zH ?_|refine zI ?_|refine zM ?_|refine zN ?_|refine zO ?_|refine zP ?_|refine zQ ?_|refine zR ?_)|((with_reducible refine zU (hK _ _ ?_));clear hK K)|((with_reducible refine zV ?_ ?_ fun K1 K3 d hdst h1 h3=>?_);rfl;exact yB rfl;cases hdst;go_simp)|((with_reducible refine zW fun K1 K3 h1 h3=>?_);go_simp)|((first|refine h1 ?_|refine h3 ?_);clear h1 h3 K1 K3)|((first|refine zX (fun hb=>h1 ?_) (fun hb=>h3 ?_)|refine zX (fun hb=>h3 ?_) (fun hb=>h1 ?_))<;>(clear h1 h3 K1 K3;(try have hb2:=yC hb);(try have hb2:=yD hb);(try have hb2:=yE hb);(try have hb2:=yF hb);(try have hb2:=yG hb)))|(refine fun (K2:_→AHeap→Prop) hK2=>?_)|((with_reducible refine zY ?_ ?_);decide)|((with_reducible first|refine zZ ?_ (fun K hK=>?_)|refine yA ?_ (fun K hK=>?_));(focus go_simp;done);go_simp;refine hK _ _ ?_;clear hK K)|(go_simp;(try go_bits);refine hK2 _ _ ?_;clear hK2 K2))
        have HO2 := HO.out
        rw [idsT_all] at HO2
        have h12 : (idsL s (madeLess s c)).length ≤ 40 := by
          have := idsT_len s (madeLess s c) s.alts.length
          rw [idsT_all] at this; omega
        exact ⟨⟨_, rfl, ints_of_own (own_upd HO2 (by omega)) (by omega)⟩, HXX.out.upd (by omega) _⟩
    · rw [if_pos rfl] at HCO ⊢
      repeat' (first|(with_reducible first|refine zA ?_|refine zB fun K hK=>?_|refine zC fun K2 hK2=>?_|refine zD ?_|refine zE ?_|refine zF ?_|refine zG ?_|refine zH ?_|refine zI ?_|refine zM ?_|refine zN ?_|refine zO ?_|refine zP ?_|refine zQ ?_|refine zR ?_)|((with_reducible refine zU (hK _ _ ?_));clear hK K)|((with_reducible refine zV ?_ ?_ fun K1 K3 d hdst h1 h3=>?_);rfl;exact yB rfl;cases hdst;go_simp)|((with_reducible refine zW fun K1 K3 h1 h3=>?_);go_simp)|((first|refine h1 ?_|refine h3 ?_);clear h1 h3 K1 K3)|((first|refine zX (fun hb=>h1 ?_) (fun hb=>h3 ?_)|refine zX (fun hb=>h3 ?_) (fun hb=>h1 ?_))<;>(clear h1 h3 K1 K3;(try have hb2:=yC hb);(try have hb2:=yD hb);(try have hb2:=yE hb);(try have hb2:=yF hb);(try have hb2:=yG hb)))|(refine fun (K2:_→AHeap→Prop) hK2=>?_)|((with_reducible refine zY ?_ ?_);decide)|((with_reducible first|refine zZ ?_ (fun K hK=>?_)|refine yA ?_ (fun K hK=>?_));(focus go_simp;done);go_simp;refine hK _ _ ?_;clear hK K)|(go_simp;(try go_bits);(try first | ((with_reducible show CallS _ _ _ _ _ _);refine CallS.mono (HCO.out _) ?_; rintro _ _ ⟨rfl, h9⟩; rw [h9]; clear h9; go_simp));refine hK2 _ _ ?_;clear hK2 K2))
      exact ⟨⟨_, rfl, ints_nil' _⟩, ((Ext.refl _).push' _).push' _ |>.push' _⟩
  · have hE : errExt s c = errCopy s c := by rw [errExt, if_pos he]
    have hSL : suspL s c = [] := by rw [suspL, if_neg he]
    rw [hE] at HCO
    rw [hSL]
    have heb : (errCopy s c != 9) = true := by simpa using errCopy_ne9 s c
    repeat' (first|(with_reducible first|refine zA ?_|refine zB fun K hK=>?_|refine zC fun K2 hK2=>?_|refine zD ?_|refine zE ?_|refine zF ?_|refine zG ?_|refine zH ?_|refine zI ?_|refine zM ?_|refine zN ?_|refine zO ?_|refine zP ?_|refine zQ ?_|refine zR ?_)|((with_reducible refine zU (hK _ _ ?_));clear hK K)|((with_reducible refine zV ?_ ?_ fun K1 K3 d hdst h1 h3=>?_);rfl;exact yB rfl;cases hdst;go_simp)|((with_reducible refine zW fun K1 K3 h1 h3=>?_);go_simp)|((first|refine h1 ?_|refine h3 ?_);clear h1 h3 K1 K3)|((first|refine zX (fun hb=>h1 ?_) (fun hb=>h3 ?_)|refine zX (fun hb=>h3 ?_) (fun hb=>h1 ?_))<;>(clear h1 h3 K1 K3;(try have hb2:=yC hb);(try have hb2:=yD hb);(try have hb2:=yE hb);(try have hb2:=yF hb);(try have hb2:=yG hb)))|(refine fun (K2:_→AHeap→Prop) hK2=>?_)|((with_reducible refine zY ?_ ?_);decide)|((with_reducible first|refine zZ ?_ (fun K hK=>?_)|refine yA ?_ (fun K hK=>?_));(focus go_simp;done);go_simp;refine hK _ _ ?_;clear hK K)|(go_simp;(try go_bits);(try first | ((with_reducible show CallS _ _ _ _ _ _);refine CallS.mono (HCO.out _) ?_; rintro _ _ ⟨rfl, h9⟩; rw [h9]; clear h9; go_simp));refine hK2 _ _ ?_;clear hK2 K2))
    exact ⟨⟨_, rfl, ints_nil' _⟩, ((Ext.refl _).push' _).push' _ |>.push' _⟩
end Go.Proofs.Tryz
namespace Go.Proofs.Tryz
open Go Go.Am Go.RowKit Go.Co
set_option maxRecDepth 100000

def restAt (s : Sheet) (c : Copy) (a : Alt) : Bool := !(decide (errExt (lessS s [a.id]) c = 0) && (decide (firstL s c = firstL (lessS s [a.id]) c) && decide (lastL s c = lastL (lessS s [a.id]) c)))
theorem ints_at {H : AHeap} {b : Nat} {i : Int} (h : b = H.n) : Ints (H.push (.row [.int .i64 i] 3)) (.slice (some ⟨b, 0, none⟩) 1 1) [i] := by rw [h]; exact ints_one
theorem ext_a {H H2 : AHeap} {a b : AObj} (hx : Ext ((H.push a).push b) H2) : H2.get H.n = a ∧ H.n + 2 ≤ H2.n := by
  have := hx.n
  simp only [AHeap.n_push] at this
  exact ⟨by rw [hx.get _ (by simp only [AHeap.n_push]; omega), AHeap.get_push_old (by rw [AHeap.n_push]; omega), AHeap.get_push_new], by omega⟩
theorem ext_b {H H2 : AHeap} {a b z : AObj} (hx : Ext (((H.push a).push b).push z) H2) : H2.get H.n = a ∧ H2.get (H.n + 1) = b ∧ H2.get (H.n + 1 + 1) = z ∧ H.n + 3 ≤ H2.n := by
  have := hx.n
  simp only [AHeap.n_push] at this
  refine ⟨?_, ?_, ?_, by omega⟩
  · rw [hx.get _ (by simp only [AHeap.n_push]; omega), AHeap.get_push_old (by simp only [AHeap.n_push]; omega), AHeap.get_push_old (by rw [AHeap.n_push]; omega), AHeap.get_push_new]
  · rw [hx.get _ (by simp only [AHeap.n_push]; omega), AHeap.get_push_old (by simp only [AHeap.n_push]; omega), get_at (by simp only [AHeap.n_push])]
  · rw [hx.get _ (by simp only [AHeap.n_push]; omega), get_at (by simp only [AHeap.n_push])]
theorem ext_c {H2 H3 : AHeap} {z : AObj} (hx : Ext (H2.push z) H3) : H3.get H2.n = z ∧ H2.n < H3.n ∧ Ext H2 H3 := by
  have := hx.n
  rw [AHeap.n_push] at this
  exact ⟨by rw [hx.get _ (by rw [AHeap.n_push]; omega), AHeap.get_push_new], by omega, (Ext.push _).trans hx⟩
set_option maxHeartbeats 4000000 in
theorem rest1_s {loops : List (Nat × LInfo)} {H : AHeap} {q p r : Nat} {wa aa ca fa la : Option Addr} {wn wc an ac cn cc fc lc : Nat} {s : Sheet} {c : Copy} {a : Alt} (hq : q < H.n) (hp : p < H.n) (hr : r < H.n) (hs : SheetV H (.agg #[.slice wa wn wc, .slice aa an ac]) s) (hsc : cellsAt H q 0 2 = some [.slice wa wn wc, .slice aa an ac]) (hc : CopyV H (.agg #[.slice ca cn cc, .int .i64 c.beg, .int .i64 c.fin, .int .i64 c.per]) c) (hcc : cellsAt H p 0 4 = some [.slice ca cn cc, .int .i64 c.beg, .int .i64 c.fin, .int .i64 c.per]) (hf : Ints H (.slice fa (firstL s c).length fc) (firstL s c)) (hfc : cellAt H r 2 = some (.slice fa (firstL s c).length fc)) (hl : Ints H (.slice la (lastL s c).length lc) (lastL s c)) (hlc : cellAt H r 3 = some (.slice la (lastL s c).length lc)) (he : err s = 0) : CallS Tryz.prog loops 65 (a.val :: #[Value.pointer (some ⟨q, 0, none⟩), Value.pointer (some ⟨p, 0, none⟩), Value.pointer (some ⟨r, 0, none⟩)].toList) H fun r H' => r = .bool (restAt s c a) ∧ H' = H := by
  refine CallS.forget (R := fun v => v = .bool (restAt s c a)) (by rintro v rfl; rfl) ?_
  have HV := Lib.hid hs
  have HC := Lib.hid hc
  have HF := Lib.hid hf
  have HL := Lib.hid hl
  obtain ⟨i1, i2, i3, i4, i5, i6⟩ := a
  have g8 := err_ok he
  have g9 := win_iff.1 g8.2.1
  have HWO := Lib.hid (fun (loops : List (Nat × LInfo)) (H' : AHeap) (iv : Value) (hx : Ext H H') (hi : Ints H' iv [i1]) => without_e (loops := loops) (HV.out.ext hx) hi (by omega) (by omega) (by have := g8.2.2.2; omega) (by simp))
  have HEX := Lib.hid (fun (loops : List (Nat × LInfo)) (H' : AHeap) (v : Value) (hx : Ext H H') (hs : SheetV H' v (lessS s [i1])) => show CallS Tryz.prog loops 49 _ H' (fun r H'' => (∃ oa on oc pi fa fn la ln, r = .tuple #[.agg #[.slice oa on oc, .int .i64 pi, .slice fa fn fn, .slice la ln ln], .int .i64 (errExt (lessS s [i1]) c)] ∧ Own H'' H'.n (.slice fa fn fn) 3 1 ((firstL (lessS s [i1]) c).map (Value.int .i64)) ∧ Own H'' H'.n (.slice la ln ln) 3 1 ((lastL (lessS s [i1]) c).map (Value.int .i64))) ∧ Ext H' H'') from CallS.mono (extentOf_x (loops := loops) hs (HC.out.ext hx)) (fun _ _ ⟨⟨ev, h1, oa, on, oc, pi, fa, fn, la, ln, h2, h3, h4⟩, h5⟩ => ⟨⟨oa, on, oc, pi, fa, fn, la, ln, by rw [h1, h2], h3, h4⟩, h5⟩))
  have HLN : Hid ((firstL (lessS s [i1]) c).length ≤ 9223372036854775807 ∧ (lastL (lessS s [i1]) c).length ≤ 9223372036854775807) := Lib.hid (ends_len _ _)
  have hm : restAt s c ⟨i1, i2, i3, i4, i5, i6⟩ = !(decide (errExt (lessS s [i1]) c = 0) && (decide (firstL s c = firstL (lessS s [i1]) c) && decide (lastL s c = lastL (lessS s [i1]) c))) := rfl
  have HM := Lib.hid hm
  clear hm hs hc hf hl g8 g9 he
  generalize errExt (lessS s [i1]) c = e2 at HM HEX
  generalize firstL (lessS s [i1]) c = F2 at HM HEX HLN
  generalize lastL (lessS s [i1]) c = L2 at HM HEX HLN
  generalize firstL s c = F at HM HF hfc
  generalize lastL s c = L at HM HL hlc
  generalize restAt s c ⟨i1, i2, i3, i4, i5, i6⟩ = R at HM ⊢
  generalize hb1 : decide (F = F2) = b1 at HM
  generalize hb2 : decide (L = L2) = b2 at HM
  have HB1 := Lib.hid hb1
  have HB2 := Lib.hid hb2
  clear hb1 hb2
  refine CallS.enter' Tryz.func65 rfl Tryz.ntmps65 (by simp) fun f hd hf => ?_
  have f0 := hf 0
  have f1 := hf 1
  have f2 := hf 2
  have f3 := hf 3
  simp [Alt.val] at f0 f1 f2 f3
  clear hf
  repeat' (first|((with_reducible refine stop_sq (n := 1) ?_))|(with_reducible first|refine zA ?_|refine zB fun K hK=>?_|refine zC fun K2 hK2=>?_|refine zD ?_|refine zE ?_|refine zF ?_|refine zG ?_|refine zH ?_|refine zI ?_|refine zM ?_|refine zN ?_|refine zO ?_|refine zP ?_|refine zQ ?_|refine zR ?_)|((with_reducible refine zU (hK _ _ ?_));clear hK K)|((with_reducible refine zV ?_ ?_ fun K1 K3 d hdst h1 h3=>?_);rfl;exact yB rfl;cases hdst;go_simp)|((with_reducible refine zW fun K1 K3 h1 h3=>?_);go_simp)|((first|refine h1 ?_|refine h3 ?_);clear h1 h3 K1 K3)|((first|refine zX (fun hb=>h1 ?_) (fun hb=>h3 ?_)|refine zX (fun hb=>h3 ?_) (fun hb=>h1 ?_))<;>(clear h1 h3 K1 K3;(try have hb2:=yC hb);(try have hb2:=yD hb);(try have hb2:=yE hb);(try have hb2:=yF hb);(try have hb2:=yG hb)))|(refine fun (K2:_→AHeap→Prop) hK2=>?_)|((with_reducible refine zY ?_ ?_);decide)|((with_reducible first|refine zZ ?_ (fun K hK=>?_)|refine yA ?_ (fun K hK=>?_));(focus go_simp;done);go_simp;refine hK _ _ ?_;clear hK K)|(go_simp;(try go_bits);refine hK2 _ _ ?_;clear hK2 K2))
  refine ⟨CodeS.cut (fun f G => ∃ (j : Nat) (fa2 la2 : Option Addr) (fn2 ln2 : Nat), f.tmp 7 = .int .i64 e2 ∧ f.tmp 6 = .pointer (some ⟨j, 0, none⟩) ∧ f.tmp 3 = .pointer (some ⟨r, 0, none⟩) ∧ f.defers = [] ∧ j < G.n ∧ cellAt G j 2 = some (.slice fa2 fn2 fn2) ∧ cellAt G j 3 = some (.slice la2 ln2 ln2) ∧ Hid (Ext H G) ∧ Hid (Ints G (.slice fa2 fn2 fn2) F2) ∧ Hid (Ints G (.slice la2 ln2 ln2) L2)) ?_ ?_⟩
  · have hqa : q < H.n + 1 := by omega
    have hqb : q < H.n + 1 + 1 := by omega
    have hpa : p < H.n + 1 := by omega
    have hpb : p < H.n + 1 + 1 := by omega
    have hna : H.n < H.n + 1 + 1 := by omega
    repeat' (first|(with_reducible first|refine zA ?_|refine zB fun K hK=>?_|refine zC fun K2 hK2=>?_|refine zD ?_|refine zE ?_|refine zF ?_|refine zG ?_|refine zH ?_|refine zI ?_|refine zM ?_|refine zN ?_|refine zO ?_|refine zP ?_|refine zQ ?_|refine zR ?_)|((with_reducible refine zU (hK _ _ ?_));clear hK K)|((with_reducible refine zV ?_ ?_ fun K1 K3 d hdst h1 h3=>?_);rfl;exact yB rfl;cases hdst;go_simp)|((with_reducible refine zW fun K1 K3 h1 h3=>?_);go_simp)|((first|refine h1 ?_|refine h3 ?_);clear h1 h3 K1 K3)|((first|refine zX (fun hb=>h1 ?_) (fun hb=>h3 ?_)|refine zX (fun hb=>h3 ?_) (fun hb=>h1 ?_))<;>(clear h1 h3 K1 K3;(try have hb2:=yC hb);(try have hb2:=yD hb);(try have hb2:=yE hb);(try have hb2:=yF hb);(try have hb2:=yG hb)))|(refine fun (K2:_→AHeap→Prop) hK2=>?_)|((with_reducible refine zY ?_ ?_);decide)|((with_reducible first|refine zZ ?_ (fun K hK=>?_)|refine yA ?_ (fun K hK=>?_));(focus go_simp;done);go_simp;refine hK _ _ ?_;clear hK K)|((with_reducible refine yH mixed rfl ?_ 20 fun K0 hK0=>?_);kernel_rfl)|(with_reducible first|exact yI|exact yJ|refine yK ?_|refine yL ?_|refine yM ?_)|((with_reducible first|refine yN ?_ ?_|refine yO ?_ ?_|refine yP ?_ ?_);rfl)|((with_reducible refine yQ ?_ ?_);rfl;refine hK0 _ _ ?_;clear hK0 K0)|((with_reducible refine yR ?_ ?_ ?_ ?_);rfl;rfl;rfl)|((with_reducible refine yS ?_ ?_ ?_ fun K2 hK2=>?_);rfl;rfl;exact yB rfl)|((with_reducible refine yT ?_ ?_ ?_ ?_ fun K1 K3 d hdst h1 h3=>?_);rfl;rfl;rfl;exact yB rfl;cases hdst;go_simp)|((with_reducible refine yU ?_ ?_ ?_ ?_ fun K1 K3 d hdst h1 h3=>?_);rfl;rfl;rfl;exact yB rfl;cases hdst;go_simp)|((with_reducible refine yV ?_ ?_ (fun K2 hK2=>?_) ?_);rfl;exact yB rfl)|((with_reducible refine yW ?_ ?_ ?_ ?_ (fun K2 hK2=>?_) ?_);rfl;exact yB rfl;rfl;(focus go_simp;done))|((with_reducible refine yX ?_ ?_ ?_ (fun K2 hK2=>?_) ?_);rfl;rfl;exact yB rfl)|((with_reducible refine yY ?_ ?_ (fun K2 hK2=>?_) ?_);rfl;rfl)|((with_reducible refine yZ ?_ ?_);(first|rfl|(dsimp only;decide +kernel)))|((with_reducible refine xA ?_ ?_);(focus go_simp;done))|(go_simp;(try go_bits);(try first | ((refine one_v el22 sz3 ze3 rfl (by decide) (by decide) rfl rfl ?_); go_simp) | ((with_reducible refine CallS.mono (HWO.out _ _ _ ((Ext.push _).push' _) (ints_at (by simp only [AHeap.n_push]))) ?_); rintro _ H2 ⟨hv, ⟨wa2, wn2, aa2, an2, rfl⟩, hx⟩; (have HX2 := Lib.hid (((Ext.push _).push' _).trans hx)); (obtain ⟨hr2, hnn2⟩ := ext_a hx); (have hnr2 : H.n < H2.n := by omega); (have HS2 := Lib.hid (hv H2 (Nat.le_refl _) (fun _ _ _ => rfl))); (have hcc2 := (HX2.out.cellsAt hp).trans hcc); (have hp2 := Nat.lt_of_lt_of_le hp HX2.out.n); (have hsc2 := (HX2.out.cellsAt hq).trans hsc); (have hq2 := Nat.lt_of_lt_of_le hq HX2.out.n); (have hrow2 : cellAt H2 H.n 0 = some (.int .i64 i1) := by simp [cellAt, hr2]); clear hv hx hr2; go_simp) | ((with_reducible refine CallS.mono (HWO.out _ _ _ (((Ext.push _).push' _).push' _) ((ints_at (by simp only [AHeap.n_push])).ext (Ext.push _))) ?_); rintro _ H2 ⟨hv, ⟨wa2, wn2, aa2, an2, rfl⟩, hx⟩; (have HX2 := Lib.hid ((((Ext.push _).push' _).push' _).trans hx)); (obtain ⟨hr2, -, hzC, hnn2⟩ := ext_b hx); (have hnr2 : H.n < H2.n := by omega); (have hjC : H.n + 1 + 1 < H2.n := by omega); (have HS2 := Lib.hid (hv H2 (Nat.le_refl _) (fun _ _ _ => rfl))); (have hcc2 := (HX2.out.cellsAt hp).trans hcc); (have hp2 := Nat.lt_of_lt_of_le hp HX2.out.n); (have hsc2 := (HX2.out.cellsAt hq).trans hsc); (have hq2 := Nat.lt_of_lt_of_le hq HX2.out.n); (have hrow2 : cellAt H2 H.n 0 = some (.int .i64 i1) := by simp [cellAt, hr2]); clear hv hx hr2; go_simp) | ((with_reducible refine CallS.mono (HWO.out _ _ _ (((Ext.push _).push' _).push' _) (ints_at (by simp only [AHeap.n_push]))) ?_); rintro _ H2 ⟨hv, ⟨wa2, wn2, aa2, an2, rfl⟩, hx⟩; (have HX2 := Lib.hid ((((Ext.push _).push' _).push' _).trans hx)); (obtain ⟨hr2, hzC, -, hnn2⟩ := ext_b hx); (have hnr2 : H.n < H2.n := by omega); (have hjC : H.n + 1 < H2.n := by omega); (have HS2 := Lib.hid (hv H2 (Nat.le_refl _) (fun _ _ _ => rfl))); (have hcc2 := (HX2.out.cellsAt hp).trans hcc); (have hp2 := Nat.lt_of_lt_of_le hp HX2.out.n); (have hsc2 := (HX2.out.cellsAt hq).trans hsc); (have hq2 := Nat.lt_of_lt_of_le hq HX2.out.n); (have hrow2 : cellAt H2 H.n 0 = some (.int .i64 i1) := by simp [cellAt, hr2]); clear hv hx hr2; go_simp) | ((with_reducible refine CallS.mono (HEX.out _ _ _ (HX2.out.push' _) (HS2.out.ext (Ext.push _))) ?_); rintro _ H3 ⟨⟨oa, on, oc, pi, fa2, fn2, la2, ln2, rfl, hf1, hl1⟩, hx⟩; (have HF3 := Lib.hid hf1); (have HL3 := Lib.hid hl1); (obtain ⟨hz3, hjz3, hx23⟩ := ext_c hx); (have HX3 := Lib.hid (HX2.out.trans hx23)); (have hsc3 := (HX3.out.cellsAt hq).trans hsc); (have hcc3 := (HX3.out.cellsAt hp).trans hcc); (have hq3 := Nat.lt_of_lt_of_le hq HX3.out.n); (have hp3 := Nat.lt_of_lt_of_le hp HX3.out.n); (have hnr3 := Nat.lt_of_lt_of_le hnr2 hx23.n); (have hrow3 := (hx23.cellAt hnr2).trans hrow2); clear hf1 hl1 hx; go_simp) | ((with_reducible refine CallS.mono (HEX.out _ _ _ HX2.out HS2.out) ?_); rintro _ H3 ⟨⟨oa, on, oc, pi, fa2, fn2, la2, ln2, rfl, hf1, hl1⟩, hx⟩; (have HF3 := Lib.hid hf1); (have HL3 := Lib.hid hl1); (have hx23 := hx); (try have hz3 := (hx.get _ hjC).trans hzC); (try have hjz3 := Nat.lt_of_lt_of_le hjC hx.n); (have HX3 := Lib.hid (HX2.out.trans hx23)); (have hsc3 := (HX3.out.cellsAt hq).trans hsc); (have hcc3 := (HX3.out.cellsAt hp).trans hcc); (have hq3 := Nat.lt_of_lt_of_le hq HX3.out.n); (have hp3 := Nat.lt_of_lt_of_le hp HX3.out.n); (have hnr3 := Nat.lt_of_lt_of_le hnr2 hx23.n); (have hrow3 := (hx23.cellAt hnr2).trans hrow2); clear hf1 hl1 hx; go_simp));(first|(refine hK2 _ _ ?_ ?_<;>clear hK2 K2)|(refine hK2 _ _ ?_;clear hK2 K2))))
    all_goals first
      | exact ⟨_, _, _, _, _, (by first|go_simp<;>go_num|assumption), (by first|go_simp<;>go_num|assumption), (by first|go_simp<;>go_num|assumption), (by first|go_simp<;>go_num|assumption), (by first|go_simp<;>go_num|assumption), (by first|go_simp<;>go_num|assumption), (by first|go_simp<;>go_num|assumption), Lib.hid (HX3.out.push' _), Lib.hid (ints_of_own (HF3.out.ext (Ext.push _)) HLN.out.1), Lib.hid (ints_of_own (HL3.out.ext (Ext.push _)) HLN.out.2)⟩
      | exact ⟨_, _, _, _, _, (by first|go_simp<;>go_num|assumption), (by first|go_simp<;>go_num|assumption), (by first|go_simp<;>go_num|assumption), (by first|go_simp<;>go_num|assumption), (by first|go_simp<;>go_num|assumption), (by first|go_simp<;>go_num|assumption), (by first|go_simp<;>go_num|assumption), Lib.hid (HX3.out.upd (by omega) _), Lib.hid (ints_of_own (own_upd HF3.out (by first | omega | (rw [AHeap.n_push]; omega))) HLN.out.1), Lib.hid (ints_of_own (own_upd HL3.out (by first | omega | (rw [AHeap.n_push]; omega))) HLN.out.2)⟩
  clear f0 f1 f2 f3 hd f HEX HWO
  rintro f G ⟨j, fa2, la2, fn2, ln2, f7, f6, f3, hd, hj, hj2, hj3, HX3, HF3, HL3⟩
  have hfc3 := (HX3.out.cellAt hr).trans hfc
  have hlc3 := (HX3.out.cellAt hr).trans hlc
  have hr3 : r < G.n := by have := HX3.out.n; omega
  by_cases hez : e2 = 0
  · subst hez
    cases b1 <;> cases b2
    all_goals
      have hR := HM.out
      simp only [decide_true, Bool.true_and, Bool.and_true, Bool.and_false, Bool.not_true, Bool.not_false, Bool.false_and] at hR
      subst hR
      repeat' (first|(with_reducible first|refine zA ?_|refine zB fun K hK=>?_|refine zC fun K2 hK2=>?_|refine zD ?_|refine zE ?_|refine zF ?_|refine zG ?_|refine zH ?_|refine zI ?_|refine zM ?_|refine zN ?_|refine zO ?_|refine zP ?_|refine zQ ?_|refine zR ?_)|((with_reducible refine zU (hK _ _ ?_));clear hK K)|((with_reducible refine zV ?_ ?_ fun K1 K3 d hdst h1 h3=>?_);rfl;exact yB rfl;cases hdst;go_simp)|((with_reducible refine zW fun K1 K3 h1 h3=>?_);go_simp)|((first|refine h1 ?_|refine h3 ?_);clear h1 h3 K1 K3)|((first|refine zX (fun hb=>h1 ?_) (fun hb=>h3 ?_)|refine zX (fun hb=>h3 ?_) (fun hb=>h1 ?_))<;>(clear h1 h3 K1 K3;(try have hb2:=yC hb);(try have hb2:=yD hb);(try have hb2:=yE hb);(try have hb2:=yF hb);(try have hb2:=yG hb)))|(refine fun (K2:_→AHeap→Prop) hK2=>?_)|((with_reducible refine zY ?_ ?_);decide)|((with_reducible first|refine zZ ?_ (fun K hK=>?_)|refine yA ?_ (fun K hK=>?_));(focus go_simp;done);go_simp;refine hK _ _ ?_;clear hK K)|(go_simp;(try go_bits);(try first |((with_reducible show CallS _ _ _ _ _ _);first|(refine CallS.mono (equal_s (xs := F) (ys := F2) (HF.out.ext HX3.out) HF3.out) ?_; rintro _ _ ⟨rfl, h9⟩; rw [h9, HB1.out]; clear h9; go_simp)|(refine CallS.mono (equal_s (xs := L) (ys := L2) (HL.out.ext HX3.out) HL3.out) ?_; rintro _ _ ⟨rfl, h9⟩; rw [h9, HB2.out]; clear h9; go_simp)));refine hK2 _ _ ?_;clear hK2 K2))
      exact ⟨rfl, HX3.out⟩
  · have hR : R = true := by rw [HM.out]; simp [hez]
    subst hR
    have heb : (e2 != 0) = true := by simpa using hez
    repeat' (first|(with_reducible first|refine zA ?_|refine zB fun K hK=>?_|refine zC fun K2 hK2=>?_|refine zD ?_|refine zE ?_|refine zF ?_|refine zG ?_|refine zH ?_|refine zI ?_|refine zM ?_|refine zN ?_|refine zO ?_|refine zP ?_|refine zQ ?_|refine zR ?_)|((with_reducible refine zU (hK _ _ ?_));clear hK K)|((with_reducible refine zV ?_ ?_ fun K1 K3 d hdst h1 h3=>?_);rfl;exact yB rfl;cases hdst;go_simp)|((with_reducible refine zW fun K1 K3 h1 h3=>?_);go_simp)|((first|refine h1 ?_|refine h3 ?_);clear h1 h3 K1 K3)|((first|refine zX (fun hb=>h1 ?_) (fun hb=>h3 ?_)|refine zX (fun hb=>h3 ?_) (fun hb=>h1 ?_))<;>(clear h1 h3 K1 K3;(try have hb2:=yC hb);(try have hb2:=yD hb);(try have hb2:=yE hb);(try have hb2:=yF hb);(try have hb2:=yG hb)))|(refine fun (K2:_→AHeap→Prop) hK2=>?_)|((with_reducible refine zY ?_ ?_);decide)|((with_reducible first|refine zZ ?_ (fun K hK=>?_)|refine yA ?_ (fun K hK=>?_));(focus go_simp;done);go_simp;refine hK _ _ ?_;clear hK K)|(go_simp;(try go_bits);refine hK2 _ _ ?_;clear hK2 K2))
    exact ⟨rfl, HX3.out⟩

def restL (s : Sheet) (c : Copy) : List Int := if errExt s c = 0 then idsL s (restAt s c) else []
set_option maxHeartbeats 4000000 in
theorem rests_e {loops : List (Nat × LInfo)} {H : AHeap} {sv cv : Value} {s : Sheet} {c : Copy} (hs : SheetV H sv s) (hc : CopyV H cv c) (hn : errExt s c = 0 → s.alts.length ≤ 12) : CallS Tryz.prog loops 25 [sv, cv] H fun r H' => (∃ v, r = .tuple #[v, .int .i64 (errExt s c)] ∧ Ints H' v (restL s c)) ∧ Ext H H' := by
  have HS := Lib.hid hs
  have HC := Lib.hid hc
  obtain ⟨wv, av, rfl, hw, ha⟩ := hs
  obtain ⟨hwl, wa, wc, rfl⟩ := hw.slice
  obtain ⟨hal, aa, ac, rfl⟩ := ha.slice
  obtain ⟨cv, rfl, hcw⟩ := hc
  obtain ⟨hcl, ca, cc, rfl⟩ := hcw.slice
  clear hw ha hcw
  have HE := Lib.hid (fun (loops : List (Nat × LInfo)) (H' : AHeap) (hx : Ext H H') => extentOf_x (loops := loops) (HS.out.ext hx) (HC.out.ext hx))
  have HSL : Hid (restL s c = if errExt s c = 0 then idsL s (restAt s c) else []) := Lib.hid rfl
  have HI := Lib.hid (fun (loops : List (Nat × LInfo)) (H' : AHeap) (hx : Ext H H') (h12 : s.alts.length ≤ 12) (g : FuncId) (caps : Array Value) (acc : Alt → Bool) (hok : okFn Tryz.prog g = true) (hacc : ∀ (loops : List (Nat × LInfo)) (H2 : AHeap) (a : Alt), Ext H' H2 → a ∈ s.alts → CallS Tryz.prog loops g (a.val :: caps.toList) H2 fun r H'' => r = .bool (acc a) ∧ H'' = H2) => idsOf_o (loops := loops) (HS.out.ext hx) h12 hok hacc)
  have HN := Lib.hid hn
  have HR : Hid (errExt s c = 0 → err s = 0) := Lib.hid (fun h => (errCopy_ok (ends_n h).1).1)
  clear hn
  generalize restL s c = S1 at HSL
  generalize errExt s c = er at HE HSL HN HR
  have HX1 : Hid (Ext H ((H.push (.row [Value.slice wa s.words.length wc, Value.slice aa s.alts.length ac] 25)).push (.row [Value.slice ca c.words.length cc, .int .i64 c.beg, .int .i64 c.fin, .int .i64 c.per] 27))) := Lib.hid (((Ext.refl _).push' _).push' _)
  have ok65 : okFn Tryz.prog 65 = true := by kernel_rfl
  refine CallS.enter' Tryz.func25 rfl Tryz.ntmps25 (by simp) fun f hd hf => ?_
  have f0 := hf 0
  have f1 := hf 1
  simp at f0 f1
  clear hf
  repeat' (first|(with_reducible first|refine zA ?_|refine zB fun K hK=>?_|refine zC fun K2 hK2=>?_|refine zD ?_|refine zE ?_|refine zF ?_|refine zG ?_|refine zH ?_|refine zI ?_|refine zM ?_|refine zN ?_|refine zO ?_|refine zP ?_|refine zQ ?_|refine zR ?_)|((with_reducible refine zU (hK _ _ ?_));clear hK K)|((with_reducible refine zV ?_ ?_ fun K1 K3 d hdst h1 h3=>?_);rfl;exact yB rfl;cases hdst;go_simp)|((with_reducible refine zW fun K1 K3 h1 h3=>?_);go_simp)|((first|refine h1 ?_|refine h3 ?_);clear h1 h3 K1 K3)|((first|refine zX (fun hb=>h1 ?_) (fun hb=>h3 ?_)|refine zX (fun hb=>h3 ?_) (fun hb=>h1 ?_))<;>(clear h1 h3 K1 K3;(try have hb2:=yC hb);(try have hb2:=yD hb);(try have hb2:=yE hb);(try have hb2:=yF hb);(try have hb2:=yG hb)))|(refine fun (K2:_→AHeap→Prop) hK2=>?_)|((with_reducible refine zY ?_ ?_);decide)|((with_reducible first|refine zZ ?_ (fun K hK=>?_)|refine yA ?_ (fun K hK=>?_));(focus go_simp;done);go_simp;refine hK _ _ ?_;clear hK K)|(go_simp;(try go_bits);(try first | ((with_reducible show CallS _ _ _ _ _ _);refine CallS.mono (HE.out _ _ HX1.out) ?_; rintro _ H1 ⟨⟨ev, rfl, hev⟩, hx⟩; (obtain ⟨oa, on, oc, pi, fa, fn, la, ln, rfl, hi1, hi2⟩ := hev); (have HI1 := Lib.hid hi1); (have HI2 := Lib.hid hi2); (have HX2 := Lib.hid (HX1.out.trans hx)); (have hn1 : H.n + 1 < H1.n := by have := hx.n; simp only [AHeap.n_push] at this; omega); (have hn0 : H.n < H1.n := by omega); (have hc01 : cellsAt H1 H.n 0 2 = some [Value.slice wa s.words.length wc, Value.slice aa s.alts.length ac] := by rw [hx.cellsAt (by simp only [AHeap.n_push]; omega), cellsAt_push, if_neg (by simp only [AHeap.n_push]; omega), cellsAt_push, if_pos rfl]; rfl); (have hc02 : cellsAt H1 (H.n + 1) 0 4 = some [Value.slice ca c.words.length cc, .int .i64 c.beg, .int .i64 c.fin, .int .i64 c.per] := by rw [hx.cellsAt (by simp only [AHeap.n_push]; omega), cellsAt_push, if_pos (by simp only [AHeap.n_push])]; rfl); clear hi1 hi2 hx));refine hK2 _ _ ?_;clear hK2 K2))
  · have hz : ¬ er = 0 := by simpa using hb
    refine ⟨⟨_, rfl, ?_⟩, HX2.out.push' _⟩
    rw [HSL.out, if_neg hz]; exact ints_nil' _
  have hz : er = 0 := by simpa using hb
  have h12 := HN.out hz
  have hI1 : Ints H1 (.slice fa fn fn) (firstL s c) := ints_of_own HI1.out (ends_len s c).1
  have hI2 : Ints H1 (.slice la ln ln) (lastL s c) := ints_of_own HI2.out (ends_len s c).2
  have hfl : fn = (firstL s c).length := by
    obtain ⟨-, a2, c2, h2⟩ := hI1.slice
    cases h2; rfl
  have hll : ln = (lastL s c).length := by
    obtain ⟨-, a2, c2, h2⟩ := hI2.slice
    cases h2; rfl
  have HC1 := Lib.hid (fun (loops : List (Nat × LInfo)) => HI.out loops _ (HX2.out.push' (.row [.slice oa on oc, .int .i64 pi, .slice fa fn fn, .slice la ln ln] 86)) h12 65 #[.pointer (some ⟨H.n, 0, none⟩), .pointer (some ⟨H.n + 1, 0, none⟩), .pointer (some ⟨H1.n, 0, none⟩)] (restAt s c) ok65 (fun loops H2 a hx ha => by
    have h1 := hx.n
    rw [AHeap.n_push] at h1
    have hr : H2.get H1.n = .row [.slice oa on oc, .int .i64 pi, .slice fa fn fn, .slice la ln ln] 86 := (hx.get _ (by rw [AHeap.n_push]; omega)).trans AHeap.get_push_new
    refine rest1_s (fc := fn) (lc := ln) (fa := fa) (la := la) (by omega) (by omega) (by omega) (HS.out.ext ((HX2.out.push' _).trans hx)) ?_ (HC.out.ext ((HX2.out.push' _).trans hx)) ?_ ?_ ?_ ?_ ?_ (HR.out hz)
    · rw [hx.cellsAt (by rw [AHeap.n_push]; omega), cellsAt_old (by omega)]; exact hc01
    · rw [hx.cellsAt (by rw [AHeap.n_push]; omega), cellsAt_old (by omega)]; exact hc02
    · rw [← hfl]; exact (hI1.ext (Ext.push _)).ext hx
    · rw [← hfl]; simp [cellAt, hr]
    · rw [← hll]; exact (hI2.ext (Ext.push _)).ext hx
    · rw [← hll]; simp [cellAt, hr]))
  rw [if_pos hz] at HSL
  have HO1 := Lib.hid (fun (H' : AHeap) (bs : Nat) (v : Value) (h : Own H' bs v 3 1 ((idsL s (restAt s c)).map (Value.int .i64))) => ids_own' h h12)
  generalize idsL s (restAt s c) = I1 at HSL HC1 HO1
  have hnz : er = 0 := hz
  clear hI1 hI2 HI HE HN hb hfl hll
  repeat' (first|(with_reducible first|refine zA ?_|refine zB fun K hK=>?_|refine zC fun K2 hK2=>?_|refine zD ?_|refine zE ?_|refine zF ?_|refine zG ?_|refine zH ?_|refine zI ?_|refine zM ?_|refine zN ?_|refine zO ?_|refine zP ?_|refine zQ ?_|refine zR ?_)|((with_reducible refine zU (hK _ _ ?_));clear hK K)|((with_reducible refine zV ?_ ?_ fun K1 K3 d hdst h1 h3=>?_);rfl;exact yB rfl;cases hdst;go_simp)|((with_reducible refine zW fun K1 K3 h1 h3=>?_);go_simp)|((first|refine h1 ?_|refine h3 ?_);clear h1 h3 K1 K3)|((first|refine zX (fun hb=>h1 ?_) (fun hb=>h3 ?_)|refine zX (fun hb=>h3 ?_) (fun hb=>h1 ?_))<;>(clear h1 h3 K1 K3;(try have hb2:=yC hb);(try have hb2:=yD hb);(try have hb2:=yE hb);(try have hb2:=yF hb);(try have hb2:=yG hb)))|(refine fun (K2:_→AHeap→Prop) hK2=>?_)|((with_reducible refine zY ?_ ?_);decide)|((with_reducible first|refine zZ ?_ (fun K hK=>?_)|refine yA ?_ (fun K hK=>?_));(focus go_simp;done);go_simp;refine hK _ _ ?_;clear hK K)|(go_simp;(try go_bits);(try first | ((with_reducible show CallS _ _ _ _ _ _);refine CallS.mono (HC1.out _) ?_; rintro v1 H2 ⟨ho, hx⟩; (have HV1 := Lib.hid (HO1.out _ _ _ ho)); (have HX3 := Lib.hid ((HX2.out.push' _).trans hx)); clear ho hx));refine hK2 _ _ ?_;clear hK2 K2))
  refine ⟨⟨_, by rw [hnz], ?_⟩, HX3.out⟩
  rw [HSL.out]; exact HV1.out
end Go.Proofs.Tryz
