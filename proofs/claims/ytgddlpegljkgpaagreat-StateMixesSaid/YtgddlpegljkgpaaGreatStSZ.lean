/- Contracts of functions, walked. -/
import Derived.Test.YtgddlpegljkgpaaGreatStYB
import Derived.Test.YtgddlpegljkgpaaGreatStSF
import Derived.Test.YtgddlpegljkgpaaGreatAwB
set_option linter.all false
namespace Go.Proofs.Tryz
open Go Go.Am Go.RowKit Go.Co
set_option maxRecDepth 100000

def fewO (l : List Sheet) (c : Copy) : Int := bestGo (fun k d => FF l.length (mixOp l c) c.beg (c.words.length - 1) k d) (c.fin - c.beg).toNat l.length
def fewV (l : List Sheet) (c : Copy) : Int × Int := if errMix l c ≠ 0 then (0, errMix l c) else if fewO l c ≥ 1048576 then (0, 9) else (fewO l c, 0)
set_option maxHeartbeats 16000000 in
theorem fewest_s {loops : List (Nat × LInfo)} {H : AHeap} {v cv : Value} {l : List Sheet} {c : Copy} (hv : SheetsV H v l) (hc : CopyV H cv c) : CallS Tryz.prog loops 29 [v, cv] H fun r H' => r = .tuple #[.int .i64 (fewV l c).1, .int .i64 (fewV l c).2] ∧ H' = H := by
  refine CallS.forget (R := fun r => r = .tuple #[.int .i64 (fewV l c).1, .int .i64 (fewV l c).2]) (by rintro v rfl; rfl) ?_
  obtain ⟨hlen, a, ac, rfl⟩ := hv.slice
  have HV := Lib.hid hv
  have HC := Lib.hid hc
  obtain ⟨cv, rfl, hcw⟩ := hc
  obtain ⟨hcl, ca, cc, rfl⟩ := hcw.slice
  have HCW := Lib.hid hcw
  clear hv hcw
  have HCK := Lib.hid (fun (loops : List (Nat × LInfo)) (G : AHeap) (hx : Ext H G) => refMix_s (loops := loops) (HV.out.ext hx) (HC.out.ext hx))
  have HR : Hid (fewV l c = if errMix l c ≠ 0 then (0, errMix l c) else if fewO l c ≥ 1048576 then (0, 9) else (fewO l c, 0)) := Lib.hid rfl
  generalize fewV l c = res at HR
  refine CallS.enter' Tryz.func29 rfl Tryz.ntmps29 (by simp) fun f hd hf => ?_
  have f0 := hf 0
  have f1 := hf 1
  simp at f0 f1
  clear hf
  have HX0 : Hid (Ext H (H.push (.row [Value.slice ca c.words.length cc, .int .i64 c.beg, .int .i64 c.fin, .int .i64 c.per] 27))) := Lib.hid (Ext.push _)
  by_cases he : errMix l c = 0
  · have HE := Lib.hid he
    have heb : (errMix l c != 0) = false := by simpa using he
    have HR2 : Hid (res = if fewO l c ≥ 1048576 then (0, 9) else (fewO l c, 0)) := Lib.hid (by rw [HR.out, if_neg (by simp [he])])
    rw [he] at HCK
    obtain ⟨hn1, hn40⟩ := mix_words he
    obtain ⟨hl1, hl8, hall⟩ := errMix_ok he
    obtain ⟨hq1, hq2, hq3, hb0, hbf, hfin, -⟩ := errCopy_ok (hall l[0] (List.getElem_mem _))
    have HALL := Lib.hid hall
    obtain ⟨w, hw⟩ : ∃ w : Nat, c.fin - c.beg + 1 = (w : Int) := ⟨(c.fin - c.beg + 1).toNat, by omega⟩
    have HWE : Hid ((c.fin - c.beg).toNat = w - 1) := Lib.hid (by omega)
    have hw1 : 1 ≤ w := by omega
    have hw7 : w ≤ 731 := by omega
    have HW := Lib.hid hw
    have HB0 := Lib.hid hb0
    have HFI := Lib.hid hfin
    have HFO : Hid (fewO l c = bestGo (fun k d => FF l.length (mixOp l c) c.beg (c.words.length - 1) k d) (w - 1) l.length) := Lib.hid (by rw [fewO, HWE.out])
    have hwr1 : IntKind.i64.wrap (c.fin - c.beg) = c.fin - c.beg := by rw [IntKind.wrap_i64]; omega
    have hwr2 : IntKind.i64.wrap (c.fin - c.beg + 1) = c.fin - c.beg + 1 := by rw [IntKind.wrap_i64]; omega
    clear he HR hall hq1 hq2 hq3 hb0 hbf hfin hw
    repeat' (first|(with_reducible first|refine zA ?_|refine zB fun K hK=>?_|refine zC fun K2 hK2=>?_|refine zD ?_|refine zE ?_|refine zF ?_|refine zG ?_|refine zH ?_|refine zI ?_|refine zM ?_|refine zN ?_|refine zO ?_|refine zP ?_|refine zQ ?_|refine zR ?_)|((with_reducible refine zU (hK _ _ ?_));clear hK K)|((with_reducible refine zV ?_ ?_ fun K1 K3 d hdst h1 h3=>?_);rfl;exact yB rfl;cases hdst;go_simp)|((with_reducible refine zW fun K1 K3 h1 h3=>?_);go_simp)|((first|refine h1 ?_|refine h3 ?_);clear h1 h3 K1 K3)|((first|refine zX (fun hb=>h1 ?_) (fun hb=>h3 ?_)|refine zX (fun hb=>h3 ?_) (fun hb=>h1 ?_))<;>(clear h1 h3 K1 K3;(try have hb2:=yC hb);(try have hb2:=yD hb);(try have hb2:=yE hb);(try have hb2:=yF hb);(try have hb2:=yG hb)))|(refine fun (K2:_→AHeap→Prop) hK2=>?_)|((with_reducible refine zY ?_ ?_);decide)|((with_reducible first|refine zZ ?_ (fun K hK=>?_)|refine yA ?_ (fun K hK=>?_));(focus go_simp;done);go_simp;refine hK _ _ ?_;clear hK K)|(go_simp;(try go_bits);(try first | ((with_reducible show CallS _ _ _ _ _ _);refine CallS.mono (HCK.out _ _ HX0.out) ?_; rintro _ _ ⟨rfl, h9⟩; rw [h9]; clear h9; go_simp));refine hK2 _ _ ?_;clear hK2 K2))
    refine CodeS.loop (fun m f H' => ∃ (i M : Nat) (va : Option Addr), i ≤ c.words.length ∧ m = c.words.length - i ∧ f.tmp 8 = .int .i64 i ∧ f.tmp 7 = .slice va M M ∧ f.tmp 0 = .slice a l.length ac ∧ f.tmp 3 = .pointer (some ⟨H.n, 0, none⟩) ∧ f.defers = [] ∧ Hid (Ext H H') ∧ Hid (H'.get H.n = .row [Value.slice ca c.words.length cc, .int .i64 c.beg, .int .i64 c.fin, .int .i64 c.per] 27) ∧ H.n < H'.n ∧ Hid (RowsAt H' M w (fun k d => FF l.length (mixOp l c) c.beg (i - 1) k d) (.slice va M M)) ∧ Hid ((i = 0 ∧ M = 0) ∨ (1 ≤ i ∧ M = l.length))) c.words.length ?_ ?_
    · exact ⟨0, 0, none, by omega, by omega, (by first|go_simp<;>go_num|assumption), (by first|go_simp<;>go_num|assumption), (by first|go_simp<;>go_num|assumption), (by first|go_simp<;>go_num|assumption), (by first|go_simp<;>go_num|assumption), HX0, Lib.hid AHeap.get_push_new, by rw [AHeap.n_push]; omega, Lib.hid ⟨none, rfl, fun k hk => by omega⟩, Lib.hid (.inl ⟨rfl, rfl⟩)⟩
    clear f0 f1 hd f HX0
    rintro m f H1 ⟨i, M, va, hi, rfl, f8, f7, f0, f3, hd, HX, HG0, hn1', HRO, HM⟩
    have hM8 : M ≤ 8 := by rcases HM.out with h | h <;> omega
    have hc0 : cellAt H1 H.n 0 = some (.slice ca c.words.length cc) := by simp [cellAt, HG0.out]
    have hc1 : cellAt H1 H.n 1 = some (.int .i64 c.beg) := by simp [cellAt, HG0.out]
    have hc2 : cellAt H1 H.n 2 = some (.int .i64 c.fin) := by simp [cellAt, HG0.out]
    by_cases hlt : i < c.words.length
    · have HI := Lib.hid hlt
      have hii : (i : Int) < (c.words.length : Int) := by omega
      repeat' (first|(with_reducible first|refine zA ?_|refine zB fun K hK=>?_|refine zC fun K2 hK2=>?_|refine zD ?_|refine zE ?_|refine zF ?_|refine zG ?_|refine zH ?_|refine zI ?_|refine zM ?_|refine zN ?_|refine zO ?_|refine zP ?_|refine zQ ?_|refine zR ?_)|((with_reducible refine zU (hK _ _ ?_));clear hK K)|((with_reducible refine zV ?_ ?_ fun K1 K3 d hdst h1 h3=>?_);rfl;exact yB rfl;cases hdst;go_simp)|((with_reducible refine zW fun K1 K3 h1 h3=>?_);go_simp)|((first|refine h1 ?_|refine h3 ?_);clear h1 h3 K1 K3)|((first|refine zX (fun hb=>h1 ?_) (fun hb=>h3 ?_)|refine zX (fun hb=>h3 ?_) (fun hb=>h1 ?_))<;>(clear h1 h3 K1 K3;(try have hb2:=yC hb);(try have hb2:=yD hb);(try have hb2:=yE hb);(try have hb2:=yF hb);(try have hb2:=yG hb)))|(refine fun (K2:_→AHeap→Prop) hK2=>?_)|((with_reducible refine zY ?_ ?_);decide)|((with_reducible first|refine zZ ?_ (fun K hK=>?_)|refine yA ?_ (fun K hK=>?_));(focus go_simp;done);go_simp;refine hK _ _ ?_;clear hK K)|(go_simp;(try go_bits);(try first | ((refine makeSlice_kk (n := w) el22 sz3 by3 ze3 rfl (by show w * 8 ≤ 1073741824; omega) (by omega) HW.out HW.out ?_); go_simp));refine hK2 _ _ ?_;clear hK2 K2))
      have HGE : Hid (∀ k d, FF l.length (mixOp l c) c.beg (i - 1) k d = (fun k d => FF l.length (mixOp l c) c.beg (i - 1) k d) k d) := Lib.hid (fun _ _ => rfl)
      have HG0' : Hid (∀ k d, 0 ≤ (fun k d => FF l.length (mixOp l c) c.beg (i - 1) k d) k d) := Lib.hid (fun k d => FF_ge _ k d)
      have HNEW : Hid (∀ k d, FF l.length (mixOp l c) c.beg i k d = rowF (mixOp l c k i) (fun p d => if i = 0 then 0 else min p (min ((fun k d => FF l.length (mixOp l c) c.beg (i - 1) k d) k d) (bestGo (fun k d => FF l.length (mixOp l c) c.beg (i - 1) k d) d M + 1))) c.beg d) := Lib.hid (fun k d => by
        rcases HM.out with ⟨h1, h2⟩ | ⟨h1, h2⟩
        · subst h1; simp only [if_true]; rfl
        · obtain ⟨j, rfl⟩ : ∃ j, i = j + 1 := ⟨i - 1, by omega⟩
          subst h2
          simp only [if_neg (Nat.succ_ne_zero j), Nat.add_sub_cancel]; rfl)
      generalize (fun k d => FF l.length (mixOp l c) c.beg (i - 1) k d) = g at HRO HGE HG0' HNEW
      refine CodeS.loop (fun m f H2 => ∃ (d : Nat) (L : List Int), d ≤ w ∧ m = w - d ∧ f.tmp 10 = .int .i64 d ∧ f.tmp 9 = .slice (some ⟨H1.n, 0, none⟩) w w ∧ f.tmp 8 = .int .i64 i ∧ f.tmp 7 = .slice va M M ∧ f.tmp 0 = .slice a l.length ac ∧ f.tmp 3 = .pointer (some ⟨H.n, 0, none⟩) ∧ f.defers = [] ∧ H1.n < H2.n ∧ Hid (Ext H1 H2) ∧ Hid (H2.get H1.n = .row (L.map (Value.int .i64)) 3) ∧ Hid (Fill w d (fun d => bestGo g d M) L)) w ?_ ?_
      · exact ⟨0, List.replicate w 0, by omega, by omega, (by first|go_simp<;>go_num|assumption), (by first|go_simp<;>go_num|assumption), (by first|go_simp<;>go_num|assumption), (by first|go_simp<;>go_num|assumption), (by first|go_simp<;>go_num|assumption), (by first|go_simp<;>go_num|assumption), (by first|go_simp<;>go_num|assumption), by rw [AHeap.n_push]; omega, Lib.hid (Ext.push _), Lib.hid (by rw [List.map_replicate]; exact AHeap.get_push_new), Lib.hid ⟨by simp, fun j hj => by omega⟩⟩
      clear f8 f7 f0 f3 hd f
      rintro m f H2 ⟨d, L, hd8, rfl, f10, f9, f8, f7, f0, f3, hd, hn2', HX2, HG2, HFL⟩
      by_cases hdw : d < w
      · have hdl : d < L.length := by rw [HFL.out.1]; exact hdw
        have hdi : (d : Int) < (w : Int) := by omega
        have hg2 := HG2.out
        repeat' (first|(with_reducible first|refine zA ?_|refine zB fun K hK=>?_|refine zC fun K2 hK2=>?_|refine zD ?_|refine zE ?_|refine zF ?_|refine zG ?_|refine zH ?_|refine zI ?_|refine zM ?_|refine zN ?_|refine zO ?_|refine zP ?_|refine zQ ?_|refine zR ?_)|((with_reducible refine zU (hK _ _ ?_));clear hK K)|((with_reducible refine zV ?_ ?_ fun K1 K3 d hdst h1 h3=>?_);rfl;exact yB rfl;cases hdst;go_simp)|((with_reducible refine zW fun K1 K3 h1 h3=>?_);go_simp)|((first|refine h1 ?_|refine h3 ?_);clear h1 h3 K1 K3)|((first|refine zX (fun hb=>h1 ?_) (fun hb=>h3 ?_)|refine zX (fun hb=>h3 ?_) (fun hb=>h1 ?_))<;>(clear h1 h3 K1 K3;(try have hb2:=yC hb);(try have hb2:=yD hb);(try have hb2:=yE hb);(try have hb2:=yF hb);(try have hb2:=yG hb)))|(refine fun (K2:_→AHeap→Prop) hK2=>?_)|((with_reducible refine zY ?_ ?_);decide)|((with_reducible first|refine zZ ?_ (fun K hK=>?_)|refine yA ?_ (fun K hK=>?_));(focus go_simp;done);go_simp;refine hK _ _ ?_;clear hK K)|(go_simp;(try go_bits);refine hK2 _ _ ?_;clear hK2 K2))
        refine CodeS.loop (fun m f H3 => ∃ (k : Nat) (L : List Int), k ≤ M ∧ m = M - k ∧ f.tmp 11 = .int .i64 k ∧ f.tmp 10 = .int .i64 d ∧ f.tmp 9 = .slice (some ⟨H1.n, 0, none⟩) w w ∧ f.tmp 8 = .int .i64 i ∧ f.tmp 7 = .slice va M M ∧ f.tmp 0 = .slice a l.length ac ∧ f.tmp 3 = .pointer (some ⟨H.n, 0, none⟩) ∧ f.defers = [] ∧ H1.n < H3.n ∧ Hid (Ext H1 H3) ∧ Hid (H3.get H1.n = .row (L.map (Value.int .i64)) 3) ∧ Hid (Fill w d (fun d => bestGo g d M) L) ∧ Hid (L[d]? = some (bestGo g d k))) M ?_ ?_
        · exact ⟨0, L.set d 1048576, by omega, by omega, (by first|go_simp<;>go_num|assumption), (by first|go_simp<;>go_num|assumption), (by first|go_simp<;>go_num|assumption), (by first|go_simp<;>go_num|assumption), (by first|go_simp<;>go_num|assumption), (by first|go_simp<;>go_num|assumption), (by first|go_simp<;>go_num|assumption), (by first|go_simp<;>go_num|assumption), by simp only [AHeap.n_upd]; omega, Lib.hid (HX2.out.upd (Nat.le_refl _) _), Lib.hid (by rw [AHeap.get_upd_same, List.map_set]), Lib.hid (HFL.out.set (Nat.le_refl _)), Lib.hid (by rw [List.getElem?_set_self hdl]; rfl)⟩
        clear f10 f9 f8 f7 f0 f3 hd f hdl hg2 HX2 HG2 HFL hn2' L H2
        rintro m f H3 ⟨k, L, hk, rfl, f11, f10, f9, f8, f7, f0, f3, hd, hn3', HX3, HG3, HFL, HLD⟩
        have hg3 := HG3.out
        by_cases hkm : k < M
        · obtain ⟨ra, hra, hrr⟩ := (HRO.out.ext HX3.out)
          cases hra
          obtain ⟨q, b, hqe, hq, hcq, hb, hgb⟩ := hrr k hkm
          subst hqe
          have hcb : cellAt H3 b d = some (.int .i64 (g k d)) := by simp only [cellAt, hgb]; simp [hdw]
          have hcd : cellAt H3 H1.n d = some (.int .i64 (bestGo g d k)) := by simp only [cellAt, hg3]; rw [List.getElem?_map, HLD.out]; rfl
          have hdl : d < L.length := by rw [HFL.out.1]; exact hdw
          have HDL := Lib.hid hdl
          have hki : (k : Int) < (M : Int) := by omega
          have HB : Hid (bestGo g d (k + 1) = min (bestGo g d k) (g k d)) := Lib.hid rfl
          generalize bestGo g d k = y1 at hcd HB
          generalize g k d = y2 at hcb HB
          clear hrr hgb
          repeat' (first|(with_reducible first|refine zA ?_|refine zB fun K hK=>?_|refine zC fun K2 hK2=>?_|refine zD ?_|refine zE ?_|refine zF ?_|refine zG ?_|refine zH ?_|refine zI ?_|refine zM ?_|refine zN ?_|refine zO ?_|refine zP ?_|refine zQ ?_|refine zR ?_)|((with_reducible refine zU (hK _ _ ?_));clear hK K)|((with_reducible refine zV ?_ ?_ fun K1 K3 d hdst h1 h3=>?_);rfl;exact yB rfl;cases hdst;go_simp)|((with_reducible refine zW fun K1 K3 h1 h3=>?_);go_simp)|((first|refine h1 ?_|refine h3 ?_);clear h1 h3 K1 K3)|((first|refine zX (fun hb=>h1 ?_) (fun hb=>h3 ?_)|refine zX (fun hb=>h3 ?_) (fun hb=>h1 ?_))<;>(clear h1 h3 K1 K3;(try have hb2:=yC hb);(try have hb2:=yD hb);(try have hb2:=yE hb);(try have hb2:=yF hb);(try have hb2:=yG hb)))|(refine fun (K2:_→AHeap→Prop) hK2=>?_)|((with_reducible refine zY ?_ ?_);decide)|((with_reducible first|refine zZ ?_ (fun K hK=>?_)|refine yA ?_ (fun K hK=>?_));(focus go_simp;done);go_simp;refine hK _ _ ?_;clear hK K)|((with_reducible refine yH mixed rfl ?_ 20 fun K0 hK0=>?_);kernel_rfl)|(with_reducible first|exact yI|exact yJ|refine yK ?_|refine yL ?_|refine yM ?_)|((with_reducible first|refine yN ?_ ?_|refine yO ?_ ?_|refine yP ?_ ?_);rfl)|((with_reducible refine yQ ?_ ?_);rfl;refine hK0 _ _ ?_;clear hK0 K0)|((with_reducible refine yR ?_ ?_ ?_ ?_);rfl;rfl;rfl)|((with_reducible refine yS ?_ ?_ ?_ fun K2 hK2=>?_);rfl;rfl;exact yB rfl)|((with_reducible refine yT ?_ ?_ ?_ ?_ fun K1 K3 d hdst h1 h3=>?_);rfl;rfl;rfl;exact yB rfl;cases hdst;go_simp)|((with_reducible refine yU ?_ ?_ ?_ ?_ fun K1 K3 d hdst h1 h3=>?_);rfl;rfl;rfl;exact yB rfl;cases hdst;go_simp)|((with_reducible refine yV ?_ ?_ (fun K2 hK2=>?_) ?_);rfl;exact yB rfl)|((with_reducible refine yW ?_ ?_ ?_ ?_ (fun K2 hK2=>?_) ?_);rfl;exact yB rfl;rfl;(focus go_simp;done))|((with_reducible refine yX ?_ ?_ ?_ (fun K2 hK2=>?_) ?_);rfl;rfl;exact yB rfl)|((with_reducible refine yY ?_ ?_ (fun K2 hK2=>?_) ?_);rfl;rfl)|((with_reducible refine yZ ?_ ?_);(first|rfl|(dsimp only;decide +kernel)))|((with_reducible refine xA ?_ ?_);(focus go_simp;done))|(go_simp;(try go_bits);(first|(refine hK2 _ _ ?_ ?_<;>clear hK2 K2)|(refine hK2 _ _ ?_;clear hK2 K2))))
          exact Post.round_normal ⟨M - (k + 1), by omega, k + 1, L.set d (min y1 y2), by omega, rfl, (by first|go_simp<;>go_num|assumption), (by first|go_simp<;>go_num|assumption), (by first|go_simp<;>go_num|assumption), (by first|go_simp<;>go_num|assumption), (by first|go_simp<;>go_num|assumption), (by first|go_simp<;>go_num|assumption), (by first|go_simp<;>go_num|assumption), (by first|go_simp<;>go_num|assumption), by simp only [AHeap.n_upd]; omega, Lib.hid (HX3.out.upd (Nat.le_refl _) _), Lib.hid (by rw [AHeap.get_upd_same, List.map_set]), Lib.hid (HFL.out.set (Nat.le_refl _)), Lib.hid (by rw [List.getElem?_set_self HDL.out, HB.out])⟩
        · have hke : k = M := by omega
          subst hke
          repeat' (first|(with_reducible first|refine zA ?_|refine zB fun K hK=>?_|refine zC fun K2 hK2=>?_|refine zD ?_|refine zE ?_|refine zF ?_|refine zG ?_|refine zH ?_|refine zI ?_|refine zM ?_|refine zN ?_|refine zO ?_|refine zP ?_|refine zQ ?_|refine zR ?_)|((with_reducible refine zU (hK _ _ ?_));clear hK K)|((with_reducible refine zV ?_ ?_ fun K1 K3 d hdst h1 h3=>?_);rfl;exact yB rfl;cases hdst;go_simp)|((with_reducible refine zW fun K1 K3 h1 h3=>?_);go_simp)|((first|refine h1 ?_|refine h3 ?_);clear h1 h3 K1 K3)|((first|refine zX (fun hb=>h1 ?_) (fun hb=>h3 ?_)|refine zX (fun hb=>h3 ?_) (fun hb=>h1 ?_))<;>(clear h1 h3 K1 K3;(try have hb2:=yC hb);(try have hb2:=yD hb);(try have hb2:=yE hb);(try have hb2:=yF hb);(try have hb2:=yG hb)))|(refine fun (K2:_→AHeap→Prop) hK2=>?_)|((with_reducible refine zY ?_ ?_);decide)|((with_reducible first|refine zZ ?_ (fun K hK=>?_)|refine yA ?_ (fun K hK=>?_));(focus go_simp;done);go_simp;refine hK _ _ ?_;clear hK K)|(go_simp;(try go_bits);refine hK2 _ _ ?_;clear hK2 K2))
          exact Post.round_normal ⟨w - (d + 1), by omega, d + 1, L, by omega, rfl, (by first|go_simp<;>go_num|assumption), (by first|go_simp<;>go_num|assumption), (by first|go_simp<;>go_num|assumption), (by first|go_simp<;>go_num|assumption), (by first|go_simp<;>go_num|assumption), (by first|go_simp<;>go_num|assumption), (by first|go_simp<;>go_num|assumption), hn3', HX3, HG3, Lib.hid (HFL.out.next HLD.out)⟩
      · have hde : w = d := by omega
        subst hde
        have HLB := Lib.hid HFL.out.all
        repeat' (first|(with_reducible first|refine zA ?_|refine zB fun K hK=>?_|refine zC fun K2 hK2=>?_|refine zD ?_|refine zE ?_|refine zF ?_|refine zG ?_|refine zH ?_|refine zI ?_|refine zM ?_|refine zN ?_|refine zO ?_|refine zP ?_|refine zQ ?_|refine zR ?_)|((with_reducible refine zU (hK _ _ ?_));clear hK K)|((with_reducible refine zV ?_ ?_ fun K1 K3 d hdst h1 h3=>?_);rfl;exact yB rfl;cases hdst;go_simp)|((with_reducible refine zW fun K1 K3 h1 h3=>?_);go_simp)|((first|refine h1 ?_|refine h3 ?_);clear h1 h3 K1 K3)|((first|refine zX (fun hb=>h1 ?_) (fun hb=>h3 ?_)|refine zX (fun hb=>h3 ?_) (fun hb=>h1 ?_))<;>(clear h1 h3 K1 K3;(try have hb2:=yC hb);(try have hb2:=yD hb);(try have hb2:=yE hb);(try have hb2:=yF hb);(try have hb2:=yG hb)))|(refine fun (K2:_→AHeap→Prop) hK2=>?_)|((with_reducible refine zY ?_ ?_);decide)|((with_reducible first|refine zZ ?_ (fun K hK=>?_)|refine yA ?_ (fun K hK=>?_));(focus go_simp;done);go_simp;refine hK _ _ ?_;clear hK K)|(go_simp;(try go_bits);refine hK2 _ _ ?_;clear hK2 K2))
        refine CodeS.loop (fun m f H3 => ∃ (k : Nat) (nva : Option Addr) (vs : List Value), k ≤ l.length ∧ m = l.length - k ∧ f.tmp 13 = .int .i64 k ∧ f.tmp 12 = .slice nva k k ∧ f.tmp 9 = .slice (some ⟨H1.n, 0, none⟩) w w ∧ f.tmp 8 = .int .i64 i ∧ f.tmp 7 = .slice va M M ∧ f.tmp 0 = .slice a l.length ac ∧ f.tmp 3 = .pointer (some ⟨H.n, 0, none⟩) ∧ f.defers = [] ∧ H1.n < H3.n ∧ Hid (Ext H1 H3) ∧ Hid (H3.get H1.n = .row (L.map (Value.int .i64)) 3) ∧ Hid (NextAt H3 (H1.n + 1) k w (FF l.length (mixOp l c) c.beg i) (.slice nva k k) vs)) l.length ?_ ?_
        · exact ⟨0, none, [], by omega, by omega, (by first|go_simp<;>go_num|assumption), (by first|go_simp<;>go_num|assumption), (by first|go_simp<;>go_num|assumption), (by first|go_simp<;>go_num|assumption), (by first|go_simp<;>go_num|assumption), (by first|go_simp<;>go_num|assumption), (by first|go_simp<;>go_num|assumption), (by first|go_simp<;>go_num|assumption), hn2', HX2, HG2, Lib.hid NextAt.nil⟩
        clear f10 f9 f8 f7 f0 f3 hd f HX2 HG2 HFL hn2' hd8 hdw
        rintro m f H3 ⟨k, nva, vs, hk, rfl, f13, f12, f9, f8, f7, f0, f3, hd, hn3', HX3, HG3, HNX⟩
        by_cases hkl : k < l.length
        · have HKL := Lib.hid hkl
          repeat' (first|(with_reducible first|refine zA ?_|refine zB fun K hK=>?_|refine zC fun K2 hK2=>?_|refine zD ?_|refine zE ?_|refine zF ?_|refine zG ?_|refine zH ?_|refine zI ?_|refine zM ?_|refine zN ?_|refine zO ?_|refine zP ?_|refine zQ ?_|refine zR ?_)|((with_reducible refine zU (hK _ _ ?_));clear hK K)|((with_reducible refine zV ?_ ?_ fun K1 K3 d hdst h1 h3=>?_);rfl;exact yB rfl;cases hdst;go_simp)|((with_reducible refine zW fun K1 K3 h1 h3=>?_);go_simp)|((first|refine h1 ?_|refine h3 ?_);clear h1 h3 K1 K3)|((first|refine zX (fun hb=>h1 ?_) (fun hb=>h3 ?_)|refine zX (fun hb=>h3 ?_) (fun hb=>h1 ?_))<;>(clear h1 h3 K1 K3;(try have hb2:=yC hb);(try have hb2:=yD hb);(try have hb2:=yE hb);(try have hb2:=yF hb);(try have hb2:=yG hb)))|(refine fun (K2:_→AHeap→Prop) hK2=>?_)|((with_reducible refine zY ?_ ?_);decide)|((with_reducible first|refine zZ ?_ (fun K hK=>?_)|refine yA ?_ (fun K hK=>?_));(focus go_simp;done);go_simp;refine hK _ _ ?_;clear hK K)|(go_simp;(try go_bits);(try first | ((refine makeSlice_kk (n := w) el22 sz3 by3 ze3 rfl (by show w * 8 ≤ 1073741824; omega) (by omega) rfl rfl ?_); go_simp));refine hK2 _ _ ?_;clear hK2 K2))
          refine CodeS.loop (fun m f H4 => ∃ (d : Nat) (L2 : List Int), d ≤ w ∧ m = w - d ∧ f.tmp 15 = .int .i64 d ∧ f.tmp 14 = .slice (some ⟨H3.n, 0, none⟩) w w ∧ f.tmp 13 = .int .i64 k ∧ f.tmp 12 = .slice nva k k ∧ f.tmp 9 = .slice (some ⟨H1.n, 0, none⟩) w w ∧ f.tmp 8 = .int .i64 i ∧ f.tmp 7 = .slice va M M ∧ f.tmp 0 = .slice a l.length ac ∧ f.tmp 3 = .pointer (some ⟨H.n, 0, none⟩) ∧ f.defers = [] ∧ H3.n < H4.n ∧ Hid (Ext H3 H4) ∧ Hid (H4.get H3.n = .row (L2.map (Value.int .i64)) 3) ∧ Hid (Fill w d (FF l.length (mixOp l c) c.beg i k) L2)) w ?_ ?_
          · exact ⟨0, List.replicate w 0, by omega, by omega, (by first|go_simp<;>go_num|assumption), (by first|go_simp<;>go_num|assumption), (by first|go_simp<;>go_num|assumption), (by first|go_simp<;>go_num|assumption), (by first|go_simp<;>go_num|assumption), (by first|go_simp<;>go_num|assumption), (by first|go_simp<;>go_num|assumption), (by first|go_simp<;>go_num|assumption), (by first|go_simp<;>go_num|assumption), (by first|go_simp<;>go_num|assumption), by rw [AHeap.n_push]; omega, Lib.hid (Ext.push _), Lib.hid (by rw [List.map_replicate]; exact AHeap.get_push_new), Lib.hid ⟨by simp, fun j hj => by omega⟩⟩
          clear f13 f12 f9 f8 f7 f0 f3 hd f
          rintro m f H4 ⟨d, L2, hd8, rfl, f15, f14, f13, f12, f9, f8, f7, f0, f3, hd, hn4', HX4, HG4, HFL⟩
          by_cases hdw : d < w
          · have hdl : d < L2.length := by rw [HFL.out.1]; exact hdw
            have hdi : (d : Int) < (w : Int) := by omega
            have hg4 := HG4.out
            have HRE := Lib.hid (rowF_eq (op1 := mixOp l c k i) (nw := fun p d => if i = 0 then 0 else min p (min (g k d) (bestGo g d M + 1))) (beg := c.beg) d)
            have HPV : Hid (prevF (mixOp l c k i) (fun p d => if i = 0 then 0 else min p (min (g k d) (bestGo g d M + 1))) c.beg d = if d = 0 then 1048576 else FF l.length (mixOp l c) c.beg i k (d - 1)) := Lib.hid (by rw [prevF, HNEW.out])
            generalize prevF (mixOp l c k i) (fun p d => if i = 0 then 0 else min p (min (g k d) (bestGo g d M + 1))) c.beg d = pv at HRE HPV
            have HFE : Hid (FF l.length (mixOp l c) c.beg i k d = if mixOp l c k i (c.beg + d) = true then (if i = 0 then 0 else min pv (min (g k d) (bestGo g d M + 1))) else pv) := Lib.hid (by rw [HNEW.out, HRE.out])
            repeat' (first|((with_reducible refine stop_if (n := 26) ?_))|(with_reducible first|refine zA ?_|refine zB fun K hK=>?_|refine zC fun K2 hK2=>?_|refine zD ?_|refine zE ?_|refine zF ?_|refine zG ?_|refine zH ?_|refine zI ?_|refine zM ?_|refine zN ?_|refine zO ?_|refine zP ?_|refine zQ ?_|refine zR ?_)|((with_reducible refine zU (hK _ _ ?_));clear hK K)|((with_reducible refine zV ?_ ?_ fun K1 K3 d hdst h1 h3=>?_);rfl;exact yB rfl;cases hdst;go_simp)|((with_reducible refine zW fun K1 K3 h1 h3=>?_);go_simp)|((first|refine h1 ?_|refine h3 ?_);clear h1 h3 K1 K3)|((first|refine zX (fun hb=>h1 ?_) (fun hb=>h3 ?_)|refine zX (fun hb=>h3 ?_) (fun hb=>h1 ?_))<;>(clear h1 h3 K1 K3;(try have hb2:=yC hb);(try have hb2:=yD hb);(try have hb2:=yE hb);(try have hb2:=yF hb);(try have hb2:=yG hb)))|(refine fun (K2:_→AHeap→Prop) hK2=>?_)|((with_reducible refine zY ?_ ?_);decide)|((with_reducible first|refine zZ ?_ (fun K hK=>?_)|refine yA ?_ (fun K hK=>?_));(focus go_simp;done);go_simp;refine hK _ _ ?_;clear hK K)|(go_simp;(try go_bits);refine hK2 _ _ ?_;clear hK2 K2))
            refine ⟨CodeS.cut (fun f H5 => ∃ L3 : List Int, f.tmp 15 = .int .i64 d ∧ f.tmp 14 = .slice (some ⟨H3.n, 0, none⟩) w w ∧ f.tmp 13 = .int .i64 k ∧ f.tmp 12 = .slice nva k k ∧ f.tmp 9 = .slice (some ⟨H1.n, 0, none⟩) w w ∧ f.tmp 8 = .int .i64 i ∧ f.tmp 7 = .slice va M M ∧ f.tmp 0 = .slice a l.length ac ∧ f.tmp 3 = .pointer (some ⟨H.n, 0, none⟩) ∧ f.defers = [] ∧ H3.n < H5.n ∧ Hid (Ext H3 H5) ∧ Hid (H5.get H3.n = .row (L3.map (Value.int .i64)) 3) ∧ Hid (Fill w d (FF l.length (mixOp l c) c.beg i k) L3) ∧ Hid (L3[d]? = some pv)) ?_ ?_⟩
            · cases d with
              | zero =>
                have f15 : f.tmp 15 = .int .i64 0 := f15
                have HPV2 : Hid (pv = 1048576) := Lib.hid (by rw [HPV.out, if_pos rfl])
                have hset : setL (L2.map (Value.int .i64)) 0 [.int .i64 1048576] = some ((L2.map (Value.int .i64)).set 0 (.int .i64 1048576)) := setL_ints hdl
                have HDL := Lib.hid hdl
                repeat' (first|(with_reducible first|refine zA ?_|refine zB fun K hK=>?_|refine zC fun K2 hK2=>?_|refine zD ?_|refine zE ?_|refine zF ?_|refine zG ?_|refine zH ?_|refine zI ?_|refine zM ?_|refine zN ?_|refine zO ?_|refine zP ?_|refine zQ ?_|refine zR ?_)|((with_reducible refine zU (hK _ _ ?_));clear hK K)|((with_reducible refine zV ?_ ?_ fun K1 K3 d hdst h1 h3=>?_);rfl;exact yB rfl;cases hdst;go_simp)|((with_reducible refine zW fun K1 K3 h1 h3=>?_);go_simp)|((first|refine h1 ?_|refine h3 ?_);clear h1 h3 K1 K3)|((first|refine zX (fun hb=>h1 ?_) (fun hb=>h3 ?_)|refine zX (fun hb=>h3 ?_) (fun hb=>h1 ?_))<;>(clear h1 h3 K1 K3;(try have hb2:=yC hb);(try have hb2:=yD hb);(try have hb2:=yE hb);(try have hb2:=yF hb);(try have hb2:=yG hb)))|(refine fun (K2:_→AHeap→Prop) hK2=>?_)|((with_reducible refine zY ?_ ?_);decide)|((with_reducible first|refine zZ ?_ (fun K hK=>?_)|refine yA ?_ (fun K hK=>?_));(focus go_simp;done);go_simp;refine hK _ _ ?_;clear hK K)|(go_simp;(try go_bits);refine hK2 _ _ ?_;clear hK2 K2))
                exact ⟨L2.set 0 1048576, (by first|go_simp<;>go_num|assumption), (by first|go_simp<;>go_num|assumption), (by first|go_simp<;>go_num|assumption), (by first|go_simp<;>go_num|assumption), (by first|go_simp<;>go_num|assumption), (by first|go_simp<;>go_num|assumption), (by first|go_simp<;>go_num|assumption), (by first|go_simp<;>go_num|assumption), (by first|go_simp<;>go_num|assumption), (by first|go_simp<;>go_num|assumption), by rw [AHeap.n_upd]; omega, Lib.hid (HX4.out.upd (Nat.le_refl _) _), Lib.hid (by rw [AHeap.get_upd_same, List.map_set]), Lib.hid (HFL.out.set (Nat.le_refl _)), Lib.hid (by rw [List.getElem?_set_self HDL.out, HPV2.out])⟩
              | succ d =>
                have f15 : f.tmp 15 = .int .i64 ((d : Int) + 1) := f15
                have HPV2 : Hid (pv = FF l.length (mixOp l c) c.beg i k d) := Lib.hid (by rw [HPV.out, if_neg (by omega)]; rfl)
                have hld := HFL.out.2 d (by omega)
                generalize FF l.length (mixOp l c) c.beg i k d = y1 at hld HPV2
                have HDL := Lib.hid hdl
                have h0d : 0 ≤ (d : Int) + 1 := by omega
                have h1d : (d : Int) + 1 < (w : Int) := by omega
                have h2d : (d : Int) + 1 - 1 = (d : Int) := by omega
                have h3d : (d : Int) < (w : Int) := by omega
                have h4d : ¬ d + 1 = d := by omega
                have hcr : ((L2.map (Value.int .i64)).set (d + 1) (.int .i64 1048576))[d]? = some (.int .i64 y1) := by rw [List.getElem?_set_ne (by omega), List.getElem?_map, hld]; rfl
                have hset : setL (L2.map (Value.int .i64)) (d + 1) [.int .i64 1048576] = some ((L2.map (Value.int .i64)).set (d + 1) (.int .i64 1048576)) := setL_ints hdl
                have hset2 : setL ((L2.map (Value.int .i64)).set (d + 1) (.int .i64 1048576)) (d + 1) [.int .i64 y1] = some (((L2.map (Value.int .i64)).set (d + 1) (.int .i64 1048576)).set (d + 1) (.int .i64 y1)) := setL_set2 hdl
                clear hdi hld hd8
                repeat' (first|(with_reducible first|refine zA ?_|refine zB fun K hK=>?_|refine zC fun K2 hK2=>?_|refine zD ?_|refine zE ?_|refine zF ?_|refine zG ?_|refine zH ?_|refine zI ?_|refine zM ?_|refine zN ?_|refine zO ?_|refine zP ?_|refine zQ ?_|refine zR ?_)|((with_reducible refine zU (hK _ _ ?_));clear hK K)|((with_reducible refine zV ?_ ?_ fun K1 K3 d hdst h1 h3=>?_);rfl;exact yB rfl;cases hdst;go_simp)|((with_reducible refine zW fun K1 K3 h1 h3=>?_);go_simp)|((first|refine h1 ?_|refine h3 ?_);clear h1 h3 K1 K3)|((first|refine zX (fun hb=>h1 ?_) (fun hb=>h3 ?_)|refine zX (fun hb=>h3 ?_) (fun hb=>h1 ?_))<;>(clear h1 h3 K1 K3;(try have hb2:=yC hb);(try have hb2:=yD hb);(try have hb2:=yE hb);(try have hb2:=yF hb);(try have hb2:=yG hb)))|(refine fun (K2:_→AHeap→Prop) hK2=>?_)|((with_reducible refine zY ?_ ?_);decide)|((with_reducible first|refine zZ ?_ (fun K hK=>?_)|refine yA ?_ (fun K hK=>?_));(focus go_simp;done);go_simp;refine hK _ _ ?_;clear hK K)|(go_simp;(try go_bits);refine hK2 _ _ ?_;clear hK2 K2))
                exact ⟨L2.set (d + 1) y1, (by first|go_simp<;>go_num|assumption), (by first|go_simp<;>go_num|assumption), (by first|go_simp<;>go_num|assumption), (by first|go_simp<;>go_num|assumption), (by first|go_simp<;>go_num|assumption), (by first|go_simp<;>go_num|assumption), (by first|go_simp<;>go_num|assumption), (by first|go_simp<;>go_num|assumption), (by first|go_simp<;>go_num|assumption), (by first|go_simp<;>go_num|assumption), by simp only [AHeap.n_upd]; omega, Lib.hid (HX4.out.upd (Nat.le_refl _) _), Lib.hid (by rw [AHeap.get_upd_same, List.map_set]), Lib.hid (HFL.out.set (Nat.le_refl _)), Lib.hid (by rw [List.getElem?_set_self HDL.out, HPV2.out])⟩
            clear f15 f14 f13 f12 f9 f8 f7 f0 f3 hd f hg4 hdl HG4 HX4 HFL hn4' L2 H4
            rintro f H4 ⟨L2, f15, f14, f13, f12, f9, f8, f7, f0, f3, hd, hn4', HX4, HG4, HFL, HLD⟩
            have HX14 := Lib.hid (HX3.out.trans HX4.out)
            have HX04 := Lib.hid (HX.out.trans HX14.out)
            have hnH := HX14.out.n
            have hcw : i < c.words.length := HI.out
            obtain ⟨b3, o3, sp3, rfl, hb3, hx3⟩ := (HCW.out.ext HX04.out).at_ hcw
            have hg3 : c.words.getD i 0 = c.words[i] := by simp [List.getD_eq_getElem?_getD, hcw]
            obtain ⟨b4, o4, sp4, wv, av, rfl, hb4, hx4, hsv⟩ := (HV.out.ext HX04.out).at_ hkl
            have hec := HALL.out l[k] (List.getElem_mem hkl)
            have hwn : win c.beg c.fin (c.beg + d) = true := win_iff.2 (by have := HW.out; omega)
            have hop : mixOp l c k i (c.beg + d) = (win c.beg c.fin (c.beg + d) && (hasOn l[k] i (c.beg + d)).offers (c.words.getD i 0)) := by
              simp only [mixOp, List.getElem?_eq_getElem hkl]
              exact courseOf_ins hec hcw _
            rw [hg3, hwn, Bool.true_and] at hop
            have HFE2 := HFE.out
            rw [hop] at HFE2
            generalize c.words[i] = ww at hx3 HFE2 hop
            obtain ⟨he0, hlw, -⟩ := errCopy_ok hec
            have HCAN := Lib.hid (fun (loops : List (Nat × LInfo)) => can_s (loops := loops) (line := (i : Int)) (d := c.beg + d) (w := ww) hsv (by omega) (by omega))
            generalize (hasOn l[k] i (c.beg + d)).offers ww = oo at HCAN HFE2
            have HFE3 := Lib.hid HFE2
            generalize l[k] = sh at hsv
            obtain ⟨wv', av', hva, hww, haw⟩ := hsv
            cases hva
            obtain ⟨-, wa, wc, rfl⟩ := hww.slice
            obtain ⟨-, aa, aac, rfl⟩ := haw.slice
            have hki : (k : Int) < (l.length : Int) := by omega
            have hii : (i : Int) < (c.words.length : Int) := by omega
            have hdi : (d : Int) < (w : Int) := by omega
            have hwd : IntKind.i64.wrap (c.beg + d) = c.beg + d := by rw [IntKind.wrap_i64]; have := HW.out; have := HB0.out; have := HFI.out; omega
            have hg4H := (HX14.out.get _ hn1').trans HG0.out
            have hc0 : cellAt H4 H.n 0 = some (.slice (some ⟨b3, o3, sp3⟩) c.words.length cc) := by simp [cellAt, hg4H]
            have hc1 : cellAt H4 H.n 1 = some (.int .i64 c.beg) := by simp [cellAt, hg4H]
            have hdl : d < L2.length := by rw [HFL.out.1]; exact hdw
            have HDL := Lib.hid hdl
            have hg4 := HG4.out
            have hcd : cellAt H4 H3.n d = some (.int .i64 pv) := by simp only [cellAt, hg4]; rw [List.getElem?_map, HLD.out]; rfl
            have hbd : cellAt H4 H1.n d = some (.int .i64 (bestGo g d M)) := by
              simp only [cellAt, HX4.out.get _ hn3', HG3.out, HLB.out]; simp [hdw]
            clear hop HFE2 hec he0 hlw hww haw hg3 hwn hg4H HFE HRE HPV hlt
            cases oo
            · have HF : Hid (FF l.length (mixOp l c) c.beg i k d = pv) := Lib.hid (by rw [HFE3.out]; rfl)
              repeat' (first|(with_reducible first|refine zA ?_|refine zB fun K hK=>?_|refine zC fun K2 hK2=>?_|refine zD ?_|refine zE ?_|refine zF ?_|refine zG ?_|refine zH ?_|refine zI ?_|refine zM ?_|refine zN ?_|refine zO ?_|refine zP ?_|refine zQ ?_|refine zR ?_)|((with_reducible refine zU (hK _ _ ?_));clear hK K)|((with_reducible refine zV ?_ ?_ fun K1 K3 d hdst h1 h3=>?_);rfl;exact yB rfl;cases hdst;go_simp)|((with_reducible refine zW fun K1 K3 h1 h3=>?_);go_simp)|((first|refine h1 ?_|refine h3 ?_);clear h1 h3 K1 K3)|((first|refine zX (fun hb=>h1 ?_) (fun hb=>h3 ?_)|refine zX (fun hb=>h3 ?_) (fun hb=>h1 ?_))<;>(clear h1 h3 K1 K3;(try have hb2:=yC hb);(try have hb2:=yD hb);(try have hb2:=yE hb);(try have hb2:=yF hb);(try have hb2:=yG hb)))|(refine fun (K2:_→AHeap→Prop) hK2=>?_)|((with_reducible refine zY ?_ ?_);decide)|((with_reducible first|refine zZ ?_ (fun K hK=>?_)|refine yA ?_ (fun K hK=>?_));(focus go_simp;done);go_simp;refine hK _ _ ?_;clear hK K)|((with_reducible refine yH mixed rfl ?_ 20 fun K0 hK0=>?_);kernel_rfl)|(with_reducible first|exact yI|exact yJ|refine yK ?_|refine yL ?_|refine yM ?_)|((with_reducible first|refine yN ?_ ?_|refine yO ?_ ?_|refine yP ?_ ?_);rfl)|((with_reducible refine yQ ?_ ?_);rfl;refine hK0 _ _ ?_;clear hK0 K0)|((with_reducible refine yR ?_ ?_ ?_ ?_);rfl;rfl;rfl)|((with_reducible refine yS ?_ ?_ ?_ fun K2 hK2=>?_);rfl;rfl;exact yB rfl)|((with_reducible refine yT ?_ ?_ ?_ ?_ fun K1 K3 d hdst h1 h3=>?_);rfl;rfl;rfl;exact yB rfl;cases hdst;go_simp)|((with_reducible refine yU ?_ ?_ ?_ ?_ fun K1 K3 d hdst h1 h3=>?_);rfl;rfl;rfl;exact yB rfl;cases hdst;go_simp)|((with_reducible refine yV ?_ ?_ (fun K2 hK2=>?_) ?_);rfl;exact yB rfl)|((with_reducible refine yW ?_ ?_ ?_ ?_ (fun K2 hK2=>?_) ?_);rfl;exact yB rfl;rfl;(focus go_simp;done))|((with_reducible refine yX ?_ ?_ ?_ (fun K2 hK2=>?_) ?_);rfl;rfl;exact yB rfl)|((with_reducible refine yY ?_ ?_ (fun K2 hK2=>?_) ?_);rfl;rfl)|((with_reducible refine yZ ?_ ?_);(first|rfl|(dsimp only;decide +kernel)))|((with_reducible refine xA ?_ ?_);(focus go_simp;done))|(go_simp;(try go_bits);(try first | ((with_reducible show CallS _ _ _ _ _ _);refine CallS.mono (HCAN.out _) ?_; rintro _ _ ⟨rfl, h9⟩; rw [h9]; clear h9; go_simp));(first|(refine hK2 _ _ ?_ ?_<;>clear hK2 K2)|(refine hK2 _ _ ?_;clear hK2 K2))))
              exact Post.round_normal ⟨w - (d + 1), by omega, d + 1, L2, by omega, rfl, (by first|go_simp<;>go_num|assumption), (by first|go_simp<;>go_num|assumption), (by first|go_simp<;>go_num|assumption), (by first|go_simp<;>go_num|assumption), (by first|go_simp<;>go_num|assumption), (by first|go_simp<;>go_num|assumption), (by first|go_simp<;>go_num|assumption), (by first|go_simp<;>go_num|assumption), (by first|go_simp<;>go_num|assumption), (by first|go_simp<;>go_num|assumption), hn4', HX4, HG4, Lib.hid (HFL.out.next (by rw [HLD.out, HF.out]))⟩
            by_cases hi0 : i = 0
            · have HF : Hid (FF l.length (mixOp l c) c.beg i k d = 0) := Lib.hid (by rw [HFE3.out, if_pos rfl, if_pos hi0])
              have hib : ((i : Int) == 0) = true := by simp [hi0]
              clear hi0
              repeat' (first|(with_reducible first|refine zA ?_|refine zB fun K hK=>?_|refine zC fun K2 hK2=>?_|refine zD ?_|refine zE ?_|refine zF ?_|refine zG ?_|refine zH ?_|refine zI ?_|refine zM ?_|refine zN ?_|refine zO ?_|refine zP ?_|refine zQ ?_|refine zR ?_)|((with_reducible refine zU (hK _ _ ?_));clear hK K)|((with_reducible refine zV ?_ ?_ fun K1 K3 d hdst h1 h3=>?_);rfl;exact yB rfl;cases hdst;go_simp)|((with_reducible refine zW fun K1 K3 h1 h3=>?_);go_simp)|((first|refine h1 ?_|refine h3 ?_);clear h1 h3 K1 K3)|((first|refine zX (fun hb=>h1 ?_) (fun hb=>h3 ?_)|refine zX (fun hb=>h3 ?_) (fun hb=>h1 ?_))<;>(clear h1 h3 K1 K3;(try have hb2:=yC hb);(try have hb2:=yD hb);(try have hb2:=yE hb);(try have hb2:=yF hb);(try have hb2:=yG hb)))|(refine fun (K2:_→AHeap→Prop) hK2=>?_)|((with_reducible refine zY ?_ ?_);decide)|((with_reducible first|refine zZ ?_ (fun K hK=>?_)|refine yA ?_ (fun K hK=>?_));(focus go_simp;done);go_simp;refine hK _ _ ?_;clear hK K)|((with_reducible refine yH mixed rfl ?_ 20 fun K0 hK0=>?_);kernel_rfl)|(with_reducible first|exact yI|exact yJ|refine yK ?_|refine yL ?_|refine yM ?_)|((with_reducible first|refine yN ?_ ?_|refine yO ?_ ?_|refine yP ?_ ?_);rfl)|((with_reducible refine yQ ?_ ?_);rfl;refine hK0 _ _ ?_;clear hK0 K0)|((with_reducible refine yR ?_ ?_ ?_ ?_);rfl;rfl;rfl)|((with_reducible refine yS ?_ ?_ ?_ fun K2 hK2=>?_);rfl;rfl;exact yB rfl)|((with_reducible refine yT ?_ ?_ ?_ ?_ fun K1 K3 d hdst h1 h3=>?_);rfl;rfl;rfl;exact yB rfl;cases hdst;go_simp)|((with_reducible refine yU ?_ ?_ ?_ ?_ fun K1 K3 d hdst h1 h3=>?_);rfl;rfl;rfl;exact yB rfl;cases hdst;go_simp)|((with_reducible refine yV ?_ ?_ (fun K2 hK2=>?_) ?_);rfl;exact yB rfl)|((with_reducible refine yW ?_ ?_ ?_ ?_ (fun K2 hK2=>?_) ?_);rfl;exact yB rfl;rfl;(focus go_simp;done))|((with_reducible refine yX ?_ ?_ ?_ (fun K2 hK2=>?_) ?_);rfl;rfl;exact yB rfl)|((with_reducible refine yY ?_ ?_ (fun K2 hK2=>?_) ?_);rfl;rfl)|((with_reducible refine yZ ?_ ?_);(first|rfl|(dsimp only;decide +kernel)))|((with_reducible refine xA ?_ ?_);(focus go_simp;done))|(go_simp;(try go_bits);(try first | ((with_reducible show CallS _ _ _ _ _ _);refine CallS.mono (HCAN.out _) ?_; rintro _ _ ⟨rfl, h9⟩; rw [h9]; clear h9; go_simp));(first|(refine hK2 _ _ ?_ ?_<;>clear hK2 K2)|(refine hK2 _ _ ?_;clear hK2 K2))))
              exact Post.round_normal ⟨w - (d + 1), by omega, d + 1, L2.set d 0, by omega, rfl, (by first|go_simp<;>go_num|assumption), (by first|go_simp<;>go_num|assumption), (by first|go_simp<;>go_num|assumption), (by first|go_simp<;>go_num|assumption), (by first|go_simp<;>go_num|assumption), (by first|go_simp<;>go_num|assumption), (by first|go_simp<;>go_num|assumption), (by first|go_simp<;>go_num|assumption), (by first|go_simp<;>go_num|assumption), (by first|go_simp<;>go_num|assumption), by rw [AHeap.n_upd]; omega, Lib.hid (HX4.out.upd (Nat.le_refl _) _), Lib.hid (by rw [AHeap.get_upd_same, List.map_set]), Lib.hid ((HFL.out.set (Nat.le_refl _)).next (by rw [List.getElem?_set_self HDL.out, HF.out]))⟩
            · have hib : ((i : Int) == 0) = false := by simpa using hi0
              have HF : Hid (FF l.length (mixOp l c) c.beg i k d = min pv (min (g k d) (bestGo g d M + 1))) := Lib.hid (by rw [HFE3.out, if_pos rfl, if_neg hi0])
              have hML : M = l.length := by rcases HM.out with h | h <;> omega
              obtain ⟨ra, hra, hrr⟩ := (HRO.out.ext HX14.out)
              cases hra
              obtain ⟨q, b, hqe, hq, hcq, hb, hgb⟩ := hrr k (by omega)
              subst hqe
              have hcb : cellAt H4 b d = some (.int .i64 (g k d)) := by simp only [cellAt, hgb]; simp [hdw]
              have hkM : (k : Int) < (M : Int) := by omega
              have hbl := bestGo_le (g := g) (d := d) M
              have hbg := bestGo_ge (g := g) (d := d) (fun k => HG0'.out k d) M
              generalize g k d = y1 at hcb HF
              generalize bestGo g d M = y2 at hbd HF hbl hbg
              have hwb : IntKind.i64.wrap (y2 + 1) = y2 + 1 := by rw [IntKind.wrap_i64]; omega
              clear hi0 hrr hgb hML hbl hbg
              repeat' (first|(with_reducible first|refine zA ?_|refine zB fun K hK=>?_|refine zC fun K2 hK2=>?_|refine zD ?_|refine zE ?_|refine zF ?_|refine zG ?_|refine zH ?_|refine zI ?_|refine zM ?_|refine zN ?_|refine zO ?_|refine zP ?_|refine zQ ?_|refine zR ?_)|((with_reducible refine zU (hK _ _ ?_));clear hK K)|((with_reducible refine zV ?_ ?_ fun K1 K3 d hdst h1 h3=>?_);rfl;exact yB rfl;cases hdst;go_simp)|((with_reducible refine zW fun K1 K3 h1 h3=>?_);go_simp)|((first|refine h1 ?_|refine h3 ?_);clear h1 h3 K1 K3)|((first|refine zX (fun hb=>h1 ?_) (fun hb=>h3 ?_)|refine zX (fun hb=>h3 ?_) (fun hb=>h1 ?_))<;>(clear h1 h3 K1 K3;(try have hb2:=yC hb);(try have hb2:=yD hb);(try have hb2:=yE hb);(try have hb2:=yF hb);(try have hb2:=yG hb)))|(refine fun (K2:_→AHeap→Prop) hK2=>?_)|((with_reducible refine zY ?_ ?_);decide)|((with_reducible first|refine zZ ?_ (fun K hK=>?_)|refine yA ?_ (fun K hK=>?_));(focus go_simp;done);go_simp;refine hK _ _ ?_;clear hK K)|((with_reducible refine yH mixed rfl ?_ 20 fun K0 hK0=>?_);kernel_rfl)|(with_reducible first|exact yI|exact yJ|refine yK ?_|refine yL ?_|refine yM ?_)|((with_reducible first|refine yN ?_ ?_|refine yO ?_ ?_|refine yP ?_ ?_);rfl)|((with_reducible refine yQ ?_ ?_);rfl;refine hK0 _ _ ?_;clear hK0 K0)|((with_reducible refine yR ?_ ?_ ?_ ?_);rfl;rfl;rfl)|((with_reducible refine yS ?_ ?_ ?_ fun K2 hK2=>?_);rfl;rfl;exact yB rfl)|((with_reducible refine yT ?_ ?_ ?_ ?_ fun K1 K3 d hdst h1 h3=>?_);rfl;rfl;rfl;exact yB rfl;cases hdst;go_simp)|((with_reducible refine yU ?_ ?_ ?_ ?_ fun K1 K3 d hdst h1 h3=>?_);rfl;rfl;rfl;exact yB rfl;cases hdst;go_simp)|((with_reducible refine yV ?_ ?_ (fun K2 hK2=>?_) ?_);rfl;exact yB rfl)|((with_reducible refine yW ?_ ?_ ?_ ?_ (fun K2 hK2=>?_) ?_);rfl;exact yB rfl;rfl;(focus go_simp;done))|((with_reducible refine yX ?_ ?_ ?_ (fun K2 hK2=>?_) ?_);rfl;rfl;exact yB rfl)|((with_reducible refine yY ?_ ?_ (fun K2 hK2=>?_) ?_);rfl;rfl)|((with_reducible refine yZ ?_ ?_);(first|rfl|(dsimp only;decide +kernel)))|((with_reducible refine xA ?_ ?_);(focus go_simp;done))|(go_simp;(try go_bits);(try first | ((with_reducible show CallS _ _ _ _ _ _);refine CallS.mono (HCAN.out _) ?_; rintro _ _ ⟨rfl, h9⟩; rw [h9]; clear h9; go_simp));(first|(refine hK2 _ _ ?_ ?_<;>clear hK2 K2)|(refine hK2 _ _ ?_;clear hK2 K2))))
              exact Post.round_normal ⟨w - (d + 1), by omega, d + 1, L2.set d (min pv (min y1 (y2 + 1))), by omega, rfl, (by first|go_simp<;>go_num|assumption), (by first|go_simp<;>go_num|assumption), (by first|go_simp<;>go_num|assumption), (by first|go_simp<;>go_num|assumption), (by first|go_simp<;>go_num|assumption), (by first|go_simp<;>go_num|assumption), (by first|go_simp<;>go_num|assumption), (by first|go_simp<;>go_num|assumption), (by first|go_simp<;>go_num|assumption), (by first|go_simp<;>go_num|assumption), by rw [AHeap.n_upd]; omega, Lib.hid (HX4.out.upd (Nat.le_refl _) _), Lib.hid (by rw [AHeap.get_upd_same, List.map_set]), Lib.hid ((HFL.out.set (Nat.le_refl _)).next (by rw [List.getElem?_set_self HDL.out, HF.out]))⟩
          · have hde : w = d := by omega
            subst hde
            have HL2 := Lib.hid HFL.out.all
            have HXN := Lib.hid (HNX.out.ext HX4.out)
            have HON := Lib.hid HXN.out.one
            have hvl : vs.length ≤ 8 := by have := HNX.out.2.1; omega
            have HVL := Lib.hid hvl
            clear hvl
            repeat' (first|(with_reducible first|refine zA ?_|refine zB fun K hK=>?_|refine zC fun K2 hK2=>?_|refine zD ?_|refine zE ?_|refine zF ?_|refine zG ?_|refine zH ?_|refine zI ?_|refine zM ?_|refine zN ?_|refine zO ?_|refine zP ?_|refine zQ ?_|refine zR ?_)|((with_reducible refine zU (hK _ _ ?_));clear hK K)|((with_reducible refine zV ?_ ?_ fun K1 K3 d hdst h1 h3=>?_);rfl;exact yB rfl;cases hdst;go_simp)|((with_reducible refine zW fun K1 K3 h1 h3=>?_);go_simp)|((first|refine h1 ?_|refine h3 ?_);clear h1 h3 K1 K3)|((first|refine zX (fun hb=>h1 ?_) (fun hb=>h3 ?_)|refine zX (fun hb=>h3 ?_) (fun hb=>h1 ?_))<;>(clear h1 h3 K1 K3;(try have hb2:=yC hb);(try have hb2:=yD hb);(try have hb2:=yE hb);(try have hb2:=yF hb);(try have hb2:=yG hb)))|(refine fun (K2:_→AHeap→Prop) hK2=>?_)|((with_reducible refine zY ?_ ?_);decide)|((with_reducible first|refine zZ ?_ (fun K hK=>?_)|refine yA ?_ (fun K hK=>?_));(focus go_simp;done);go_simp;refine hK _ _ ?_;clear hK K)|(go_simp;(try go_bits);(try first | ((refine one_k el101 sz22 ze22 rfl (by decide) (by decide) rfl rfl ?_); go_simp) | ((refine append_k2 el101 sz22 by22 ze22 rfl (by decide) (HXN.out.1.ext (Ext.push _)) (srcCells_new rfl) (by decide) rfl (by rw [List.all_append, HON.out]; rfl) (by have := HVL.out; show (vs.length + 1) * 24 ≤ 1073741824; omega) (by have := HX3.out.n; have := HX4.out.n; simp only [AHeap.n_push] at *; omega) fun v2 H5 ho5 hg5 => ?_); (have HO5 := Lib.hid ho5); (have HG5 := Lib.hid hg5); (have hg5' : H1.n < H5.n := by have := hg5.1; have := HX4.out.n; simp only [AHeap.n_push] at *; omega); clear ho5 hg5; go_simp));refine hK2 _ _ ?_;clear hK2 K2))
            have hH4 := HX4.out.n
            have hH3 := HX3.out.n
            have hnx := NextAt.put (L := L2) (b := H3.n) (HXN.out.ext (Ext.push _)) HG5.out.1 HG5.out.2 HO5.out (by rw [AHeap.n_push]; omega) (by rw [AHeap.get_push_old hn4']; exact HG4.out) HL2.out (by simp only [AHeap.n_push]; omega)
            obtain ⟨a2, hv2⟩ := hnx.shape
            subst hv2
            have hold : ∀ j, j < H1.n + 1 → H5.get j = H3.get j := fun j hj => by
              rw [HG5.out.2 j (by simp only [AHeap.n_push]; omega) (fun b m hv hm => by have := (own_block HNX.out.1 hv hm).1; omega), AHeap.get_push_old (by omega)]
              exact HX4.out.get j (by omega)
            have hn5 := HG5.out.1
            rw [AHeap.n_push] at hn5
            exact Post.round_normal ⟨l.length - (k + 1), by omega, k + 1, a2, _, by omega, rfl, (by first|go_simp<;>go_num|assumption), (by first|go_simp<;>go_num|assumption), (by first|go_simp<;>go_num|assumption), (by first|go_simp<;>go_num|assumption), (by first|go_simp<;>go_num|assumption), (by first|go_simp<;>go_num|assumption), (by first|go_simp<;>go_num|assumption), (by first|go_simp<;>go_num|assumption), hg5', Lib.hid ⟨by omega, fun j hj => (hold j (by omega)).trans (HX3.out.get j hj)⟩, Lib.hid ((hold _ (by omega)).trans HG3.out), Lib.hid hnx⟩
        · have hke : l.length = k := by omega
          have HRN : Hid (RowsAt H3 k w (fun k d => FF l.length (mixOp l c) c.beg (i + 1 - 1) k d) (.slice nva k k)) := Lib.hid (by rw [Nat.add_sub_cancel]; exact HNX.out.rows)
          have HKE := Lib.hid hke.symm
          have HX3H := Lib.hid (HX.out.trans HX3.out)
          have HG3H := Lib.hid ((HX3.out.get _ hn1').trans HG0.out)
          have hn3H : H.n < H3.n := by omega
          repeat' (first|(with_reducible first|refine zA ?_|refine zB fun K hK=>?_|refine zC fun K2 hK2=>?_|refine zD ?_|refine zE ?_|refine zF ?_|refine zG ?_|refine zH ?_|refine zI ?_|refine zM ?_|refine zN ?_|refine zO ?_|refine zP ?_|refine zQ ?_|refine zR ?_)|((with_reducible refine zU (hK _ _ ?_));clear hK K)|((with_reducible refine zV ?_ ?_ fun K1 K3 d hdst h1 h3=>?_);rfl;exact yB rfl;cases hdst;go_simp)|((with_reducible refine zW fun K1 K3 h1 h3=>?_);go_simp)|((first|refine h1 ?_|refine h3 ?_);clear h1 h3 K1 K3)|((first|refine zX (fun hb=>h1 ?_) (fun hb=>h3 ?_)|refine zX (fun hb=>h3 ?_) (fun hb=>h1 ?_))<;>(clear h1 h3 K1 K3;(try have hb2:=yC hb);(try have hb2:=yD hb);(try have hb2:=yE hb);(try have hb2:=yF hb);(try have hb2:=yG hb)))|(refine fun (K2:_→AHeap→Prop) hK2=>?_)|((with_reducible refine zY ?_ ?_);decide)|((with_reducible first|refine zZ ?_ (fun K hK=>?_)|refine yA ?_ (fun K hK=>?_));(focus go_simp;done);go_simp;refine hK _ _ ?_;clear hK K)|(go_simp;(try go_bits);refine hK2 _ _ ?_;clear hK2 K2))
          exact Post.round_normal ⟨c.words.length - (i + 1), by have := HI.out; omega, i + 1, k, nva, by have := HI.out; omega, rfl, (by first|go_simp<;>go_num|assumption), (by first|go_simp<;>go_num|assumption), (by first|go_simp<;>go_num|assumption), (by first|go_simp<;>go_num|assumption), (by first|go_simp<;>go_num|assumption), HX3H, HG3H, hn3H, HRN, Lib.hid (.inr ⟨by omega, HKE.out⟩)⟩
    · have hie : i = c.words.length := by omega
      subst hie
      have hML : M = l.length := by rcases HM.out with h | h <;> omega
      have HFO2 : Hid (fewO l c = bestGo (fun k d => FF l.length (mixOp l c) c.beg (c.words.length - 1) k d) (w - 1) M) := Lib.hid (by rw [hML]; exact HFO.out)
      generalize (fun k d => FF l.length (mixOp l c) c.beg (c.words.length - 1) k d) = g at HRO HFO2
      have h0w : (0 : Int) ≤ (w : Int) - 1 := by omega
      have h1w : (w : Int) - 1 < (w : Int) := by omega
      have h2w : (1 : Int) ≤ (w : Int) := by omega
      have h4w : ((w : Int) - 1).toNat = w - 1 := by omega
      have h5w : IntKind.i64.wrap ((w : Int) - 1) = (w : Int) - 1 := by rw [IntKind.wrap_i64]; omega
      clear hML hc1 hc2 hlt
      repeat' (first|(with_reducible first|refine zA ?_|refine zB fun K hK=>?_|refine zC fun K2 hK2=>?_|refine zD ?_|refine zE ?_|refine zF ?_|refine zG ?_|refine zH ?_|refine zI ?_|refine zM ?_|refine zN ?_|refine zO ?_|refine zP ?_|refine zQ ?_|refine zR ?_)|((with_reducible refine zU (hK _ _ ?_));clear hK K)|((with_reducible refine zV ?_ ?_ fun K1 K3 d hdst h1 h3=>?_);rfl;exact yB rfl;cases hdst;go_simp)|((with_reducible refine zW fun K1 K3 h1 h3=>?_);go_simp)|((first|refine h1 ?_|refine h3 ?_);clear h1 h3 K1 K3)|((first|refine zX (fun hb=>h1 ?_) (fun hb=>h3 ?_)|refine zX (fun hb=>h3 ?_) (fun hb=>h1 ?_))<;>(clear h1 h3 K1 K3;(try have hb2:=yC hb);(try have hb2:=yD hb);(try have hb2:=yE hb);(try have hb2:=yF hb);(try have hb2:=yG hb)))|(refine fun (K2:_→AHeap→Prop) hK2=>?_)|((with_reducible refine zY ?_ ?_);decide)|((with_reducible first|refine zZ ?_ (fun K hK=>?_)|refine yA ?_ (fun K hK=>?_));(focus go_simp;done);go_simp;refine hK _ _ ?_;clear hK K)|(go_simp;(try go_bits);refine hK2 _ _ ?_;clear hK2 K2))
      refine CodeS.loop (fun m f H2 => ∃ (k : Nat) (o : Int), k ≤ M ∧ m = M - k ∧ f.tmp 17 = .int .i64 k ∧ f.tmp 16 = .int .i64 o ∧ f.tmp 7 = .slice va M M ∧ f.defers = [] ∧ Hid (bestGo g (w - 1) k = o) ∧ H2 = H1) M ?_ ?_
      · exact ⟨0, 1048576, by omega, by omega, (by first|go_simp<;>go_num|assumption), (by first|go_simp<;>go_num|assumption), (by first|go_simp<;>go_num|assumption), (by first|go_simp<;>go_num|assumption), Lib.hid rfl, rfl⟩
      clear f8 f7 f0 f3 hd f
      rintro m f H1 ⟨k, o, hk, rfl, f17, f16, f7, hd, HO, rfl⟩
      by_cases hkm : k < M
      · obtain ⟨ra, hra, hrr⟩ := HRO.out
        cases hra
        obtain ⟨q, b, hqe, hq, hcq, hb, hgb⟩ := hrr k hkm
        subst hqe
        have hcb : cellAt H1 b (w - 1) = some (.int .i64 (g k (w - 1))) := by simp only [cellAt, hgb]; simp [show w - 1 < w by omega]
        have hki : (k : Int) < (M : Int) := by omega
        have HB : Hid (bestGo g (w - 1) (k + 1) = min (bestGo g (w - 1) k) (g k (w - 1))) := Lib.hid rfl
        rw [HO.out] at HB
        generalize g k (w - 1) = y2 at hcb HB
        clear hrr hgb
        repeat' (first|(with_reducible first|refine zA ?_|refine zB fun K hK=>?_|refine zC fun K2 hK2=>?_|refine zD ?_|refine zE ?_|refine zF ?_|refine zG ?_|refine zH ?_|refine zI ?_|refine zM ?_|refine zN ?_|refine zO ?_|refine zP ?_|refine zQ ?_|refine zR ?_)|((with_reducible refine zU (hK _ _ ?_));clear hK K)|((with_reducible refine zV ?_ ?_ fun K1 K3 d hdst h1 h3=>?_);rfl;exact yB rfl;cases hdst;go_simp)|((with_reducible refine zW fun K1 K3 h1 h3=>?_);go_simp)|((first|refine h1 ?_|refine h3 ?_);clear h1 h3 K1 K3)|((first|refine zX (fun hb=>h1 ?_) (fun hb=>h3 ?_)|refine zX (fun hb=>h3 ?_) (fun hb=>h1 ?_))<;>(clear h1 h3 K1 K3;(try have hb2:=yC hb);(try have hb2:=yD hb);(try have hb2:=yE hb);(try have hb2:=yF hb);(try have hb2:=yG hb)))|(refine fun (K2:_→AHeap→Prop) hK2=>?_)|((with_reducible refine zY ?_ ?_);decide)|((with_reducible first|refine zZ ?_ (fun K hK=>?_)|refine yA ?_ (fun K hK=>?_));(focus go_simp;done);go_simp;refine hK _ _ ?_;clear hK K)|((with_reducible refine yH mixed rfl ?_ 20 fun K0 hK0=>?_);kernel_rfl)|(with_reducible first|exact yI|exact yJ|refine yK ?_|refine yL ?_|refine yM ?_)|((with_reducible first|refine yN ?_ ?_|refine yO ?_ ?_|refine yP ?_ ?_);rfl)|((with_reducible refine yQ ?_ ?_);rfl;refine hK0 _ _ ?_;clear hK0 K0)|((with_reducible refine yR ?_ ?_ ?_ ?_);rfl;rfl;rfl)|((with_reducible refine yS ?_ ?_ ?_ fun K2 hK2=>?_);rfl;rfl;exact yB rfl)|((with_reducible refine yT ?_ ?_ ?_ ?_ fun K1 K3 d hdst h1 h3=>?_);rfl;rfl;rfl;exact yB rfl;cases hdst;go_simp)|((with_reducible refine yU ?_ ?_ ?_ ?_ fun K1 K3 d hdst h1 h3=>?_);rfl;rfl;rfl;exact yB rfl;cases hdst;go_simp)|((with_reducible refine yV ?_ ?_ (fun K2 hK2=>?_) ?_);rfl;exact yB rfl)|((with_reducible refine yW ?_ ?_ ?_ ?_ (fun K2 hK2=>?_) ?_);rfl;exact yB rfl;rfl;(focus go_simp;done))|((with_reducible refine yX ?_ ?_ ?_ (fun K2 hK2=>?_) ?_);rfl;rfl;exact yB rfl)|((with_reducible refine yY ?_ ?_ (fun K2 hK2=>?_) ?_);rfl;rfl)|((with_reducible refine yZ ?_ ?_);(first|rfl|(dsimp only;decide +kernel)))|((with_reducible refine xA ?_ ?_);(focus go_simp;done))|(go_simp;(try go_bits);(first|(refine hK2 _ _ ?_ ?_<;>clear hK2 K2)|(refine hK2 _ _ ?_;clear hK2 K2))))
        exact Post.round_normal ⟨M - (k + 1), by omega, k + 1, min o y2, by omega, rfl, (by first|go_simp<;>go_num|assumption), (by first|go_simp<;>go_num|assumption), (by first|go_simp<;>go_num|assumption), (by first|go_simp<;>go_num|assumption), HB, rfl⟩
      · have hke : k = M := by omega
        subst hke
        have HR2 : Hid (res = if o ≥ 1048576 then (0, 9) else (o, 0)) := Lib.hid (by rw [HR2.out, HFO2.out, HO.out])
        repeat' (first|(with_reducible first|refine zA ?_|refine zB fun K hK=>?_|refine zC fun K2 hK2=>?_|refine zD ?_|refine zE ?_|refine zF ?_|refine zG ?_|refine zH ?_|refine zI ?_|refine zM ?_|refine zN ?_|refine zO ?_|refine zP ?_|refine zQ ?_|refine zR ?_)|((with_reducible refine zU (hK _ _ ?_));clear hK K)|((with_reducible refine zV ?_ ?_ fun K1 K3 d hdst h1 h3=>?_);rfl;exact yB rfl;cases hdst;go_simp)|((with_reducible refine zW fun K1 K3 h1 h3=>?_);go_simp)|((first|refine h1 ?_|refine h3 ?_);clear h1 h3 K1 K3)|((first|refine zX (fun hb=>h1 ?_) (fun hb=>h3 ?_)|refine zX (fun hb=>h3 ?_) (fun hb=>h1 ?_))<;>(clear h1 h3 K1 K3;(try have hb2:=yC hb);(try have hb2:=yD hb);(try have hb2:=yE hb);(try have hb2:=yF hb);(try have hb2:=yG hb)))|(refine fun (K2:_→AHeap→Prop) hK2=>?_)|((with_reducible refine zY ?_ ?_);decide)|((with_reducible first|refine zZ ?_ (fun K hK=>?_)|refine yA ?_ (fun K hK=>?_));(focus go_simp;done);go_simp;refine hK _ _ ?_;clear hK K)|(go_simp;(try go_bits);refine hK2 _ _ ?_;clear hK2 K2))
        · have hr : res = (0, 9) := by rw [HR2.out, if_pos (by simpa using hb)]
          exact ⟨by rw [hr], HX.out⟩
        · have hr : res = (o, 0) := by rw [HR2.out, if_neg (by simp at hb; omega)]
          exact ⟨by rw [hr], HX.out⟩
  · have heb : (errMix l c != 0) = true := by simpa using he
    have hr : res = (0, errMix l c) := by rw [HR.out, if_pos he]
    subst hr
    repeat' (first|(with_reducible first|refine zA ?_|refine zB fun K hK=>?_|refine zC fun K2 hK2=>?_|refine zD ?_|refine zE ?_|refine zF ?_|refine zG ?_|refine zH ?_|refine zI ?_|refine zM ?_|refine zN ?_|refine zO ?_|refine zP ?_|refine zQ ?_|refine zR ?_)|((with_reducible refine zU (hK _ _ ?_));clear hK K)|((with_reducible refine zV ?_ ?_ fun K1 K3 d hdst h1 h3=>?_);rfl;exact yB rfl;cases hdst;go_simp)|((with_reducible refine zW fun K1 K3 h1 h3=>?_);go_simp)|((first|refine h1 ?_|refine h3 ?_);clear h1 h3 K1 K3)|((first|refine zX (fun hb=>h1 ?_) (fun hb=>h3 ?_)|refine zX (fun hb=>h3 ?_) (fun hb=>h1 ?_))<;>(clear h1 h3 K1 K3;(try have hb2:=yC hb);(try have hb2:=yD hb);(try have hb2:=yE hb);(try have hb2:=yF hb);(try have hb2:=yG hb)))|(refine fun (K2:_→AHeap→Prop) hK2=>?_)|((with_reducible refine zY ?_ ?_);decide)|((with_reducible first|refine zZ ?_ (fun K hK=>?_)|refine yA ?_ (fun K hK=>?_));(focus go_simp;done);go_simp;refine hK _ _ ?_;clear hK K)|(go_simp;(try go_bits);(try first | ((with_reducible show CallS _ _ _ _ _ _);refine CallS.mono (HCK.out _ _ HX0.out) ?_; rintro _ _ ⟨rfl, h9⟩; rw [h9]; clear h9; go_simp));refine hK2 _ _ ?_;clear hK2 K2))
    exact ⟨rfl, HX0.out⟩
end Go.Proofs.Tryz
namespace Go.Proofs.Tryz
open Go Go.Am Go.RowKit Go.Co
set_option maxRecDepth 100000

theorem rowF_iff {op1 : Int → Bool} {nw : Int → Nat → Int} {beg m : Int} {Q : Nat → Prop} (hm : m < 1048576) (hnw : ∀ p d, nw p d ≤ m ↔ p ≤ m ∨ Q d) : ∀ d, rowF op1 nw beg d ≤ m ↔ ∃ e : Nat, e ≤ d ∧ op1 (beg + e) = true ∧ Q e
  | 0 => by
    rw [rowF]
    split
    · rename_i h
      rw [hnw]
      constructor
      · rintro (h1 | h1)
        · omega
        · exact ⟨0, Nat.le_refl _, by simpa using h, h1⟩
      · rintro ⟨e, h1, h2, h3⟩
        rw [show e = 0 by omega] at h3
        exact .inr h3
    · rename_i h
      constructor
      · intro h1; omega
      · rintro ⟨e, h1, h2, h3⟩
        rw [show e = 0 by omega] at h2
        exact absurd (by simpa using h2) h
  | d + 1 => by
    have ih := rowF_iff (op1 := op1) (beg := beg) hm hnw d
    rw [rowF]
    split
    · rename_i h
      rw [hnw, ih]
      constructor
      · rintro (⟨e, h1, h2, h3⟩ | h1)
        · exact ⟨e, by omega, h2, h3⟩
        · exact ⟨d + 1, Nat.le_refl _, h, h1⟩
      · rintro ⟨e, h1, h2, h3⟩
        by_cases he : e = d + 1
        · subst he; exact .inr h3
        · exact .inl ⟨e, by omega, h2, h3⟩
    · rename_i h
      rw [ih]
      constructor
      · rintro ⟨e, h1, h2, h3⟩; exact ⟨e, by omega, h2, h3⟩
      · rintro ⟨e, h1, h2, h3⟩
        by_cases he : e = d + 1
        · subst he; exact absurd h2 h
        · exact ⟨e, by omega, h2, h3⟩
theorem FF_iff {N : Nat} {op : Nat → Nat → Int → Bool} {beg : Int} (hop : ∀ k i e, op k i e = true → beg ≤ e) : ∀ (i k d m : Nat), m < 1048576 → (FF N op beg i k d ≤ (m : Int) ↔ Co.Reach N op i k (beg + d) m)
  | 0, k, d, m, hm => by
    rw [FF, rowF_iff (Q := fun _ => True) (m := m) (by omega) (fun p d => ⟨fun _ => .inr trivial, fun _ => by omega⟩), Co.Reach]
    constructor
    · rintro ⟨e, h1, h2, -⟩; exact ⟨beg + e, by omega, h2⟩
    · rintro ⟨e, h1, h2⟩
      have := hop _ _ _ h2
      exact ⟨(e - beg).toNat, by omega, by rw [show beg + ((e - beg).toNat : Int) = e by omega]; exact h2, trivial⟩
  | i + 1, k, d, m, hm => by
    have ih := FF_iff (N := N) hop i
    have hQ : ∀ d : Nat, (FF N op beg i k d ≤ (m : Int) ∨ bestGo (fun k d => FF N op beg i k d) d N ≤ (m : Int) - 1) ↔ (Co.Reach N op i k (beg + d) m ∨ ∃ k', k' < N ∧ 1 ≤ m ∧ Co.Reach N op i k' (beg + d) (m - 1)) := fun d => by
      rw [ih k d m hm, bestGo_iff (by omega)]
      constructor
      · rintro (h | ⟨k', h1, h2⟩)
        · exact .inl h
        · have h3 := FF_ge (N := N) (op := op) (beg := beg) i k' d
          have h2 : FF N op beg i k' d ≤ (m : Int) - 1 := h2
          exact .inr ⟨k', h1, by omega, (ih k' d (m - 1) (by omega)).1 (by omega)⟩
      · rintro (h | ⟨k', h1, h2, h3⟩)
        · exact .inl h
        · have := (ih k' d (m - 1) (by omega)).2 h3
          exact .inr ⟨k', h1, by show FF N op beg i k' d ≤ (m : Int) - 1; omega⟩
    rw [FF, rowF_iff (Q := fun d => FF N op beg i k d ≤ (m : Int) ∨ bestGo (fun k d => FF N op beg i k d) d N ≤ (m : Int) - 1) (m := m) (by omega) (fun p d => by omega), Co.Reach]
    constructor
    · rintro ⟨e, h1, h2, h3⟩; exact ⟨beg + e, by omega, h2, (hQ e).1 h3⟩
    · rintro ⟨e, h1, h2, h3⟩
      have := hop _ _ _ h2
      have he : beg + ((e - beg).toNat : Int) = e := by omega
      exact ⟨(e - beg).toNat, by omega, by rw [he]; exact h2, (hQ _).2 (by rw [he]; exact h3)⟩
theorem mixOp_win {l : List Sheet} {c : Copy} (he : errMix l c = 0) {k i : Nat} {d : Int} (h : mixOp l c k i d = true) : c.beg ≤ d ∧ d ≤ c.fin := by
  unfold mixOp at h
  cases h1 : l[k]? with
  | none => rw [h1] at h; cases h
  | some s =>
    rw [h1] at h
    have h : ins ((courseOf s c).at_ i) d = true := h
    by_cases hi : i < c.words.length
    · rw [courseOf_ins ((errMix_ok he).2.2 s (List.mem_of_getElem? h1)) hi] at h
      simp at h
      exact h.1
    · rw [Course.at_, List.getD_eq_getElem?_getD, List.getElem?_eq_none (by rw [courseOf_len]; omega)] at h
      cases h
theorem reach_fin {N : Nat} {op : Nat → Nat → Int → Bool} {f : Int} (hop : ∀ k i e, op k i e = true → e ≤ f) {i k m : Nat} {d : Int} (h : Co.Reach N op i k d m) : Co.Reach N op i k f m := by
  cases i with
  | zero => obtain ⟨e, h1, h2⟩ := h; exact ⟨e, hop _ _ _ h2, h2⟩
  | succ i => obtain ⟨e, h1, h2, h3⟩ := h; exact ⟨e, hop _ _ _ h2, h2, h3⟩
def CanIn (l : List Sheet) (c : Copy) (m : Nat) : Prop := ∃ k, k < l.length ∧ Co.Reach l.length (mixOp l c) (c.words.length - 1) k c.fin m
theorem canIn_day {l : List Sheet} {c : Copy} (he : errMix l c = 0) (r : Nat) : mixDay l c r < 731 ↔ CanIn l c r := by
  obtain ⟨h1, h2, h3⟩ := errMix_ok he
  obtain ⟨-, -, -, -, -, hf, -⟩ := errCopy_ok (h3 l[0] (List.getElem_mem _))
  have hs := soonOf_ok h1 (dayOf l.length (mixNx l c) (c.words.length - 1) r)
  have hd := fun k => day_reach (op := mixOp l c) h1 (mixNx_ok he) (mixOp_in he) (c.words.length - 1) r k 730 (Int.le_refl _)
  unfold mixDay CanIn
  constructor
  · intro h
    exact ⟨_, hs.1, reach_fin (fun _ _ _ h => (mixOp_win he h).2) ((hd _).1 (by omega))⟩
  · rintro ⟨k, h4, h5⟩
    have := (hd k).2 (h5.mono hf (Nat.le_refl _))
    have := hs.2 k h4
    omega
theorem canIn_few {l : List Sheet} {c : Copy} (he : errMix l c = 0) {m : Nat} (hm : m < 1048576) : fewO l c ≤ (m : Int) ↔ CanIn l c m := by
  obtain ⟨h1, h2, h3⟩ := errMix_ok he
  obtain ⟨-, -, -, hb, hbf, hf, -⟩ := errCopy_ok (h3 l[0] (List.getElem_mem _))
  unfold fewO CanIn
  rw [bestGo_iff (by omega)]
  have hw : c.beg + ((c.fin - c.beg).toNat : Int) = c.fin := by omega
  have hi := fun k => FF_iff (N := l.length) (op := mixOp l c) (beg := c.beg) (fun _ _ _ h => (mixOp_win he h).1) (c.words.length - 1) k (c.fin - c.beg).toNat m hm
  simp only [hw] at hi
  exact ⟨fun ⟨k, h4, h5⟩ => ⟨k, h4, (hi k).1 h5⟩, fun ⟨k, h4, h5⟩ => ⟨k, h4, (hi k).2 h5⟩⟩
theorem few_some {l : List Sheet} {c : Copy} (he : errMix l c = 0) {r : Nat} (h : mixFew l c = some r) : r < c.words.length ∧ CanIn l c r ∧ ∀ j, j < r → ¬ CanIn l c j := by
  unfold mixFew at h
  have h1 := List.find?_some h
  have h2 := List.mem_of_find?_eq_some h
  rw [List.mem_range] at h2
  refine ⟨h2, (canIn_day he r).1 (by simpa using h1), fun j hj hc => ?_⟩
  rw [List.find?_eq_some_iff_append] at h
  obtain ⟨-, la, lb, h3, h4⟩ := h
  have hl : la.length = r := by
    have h5 : (List.range c.words.length)[la.length]? = some r := by rw [h3]; simp
    rw [List.getElem?_eq_some_iff] at h5
    obtain ⟨h6, h7⟩ := h5
    simpa using h7
  have h5 : j ∈ la := by
    have h6 : (List.range c.words.length)[j]? = some j := by rw [List.getElem?_range (by omega)]
    rw [h3, List.getElem?_append_left (by omega)] at h6
    exact List.mem_of_getElem? h6
  have := h4 j h5
  rw [decide_eq_true ((canIn_day he j).2 hc)] at this
  cases this
theorem few_none {l : List Sheet} {c : Copy} (he : errMix l c = 0) (h : mixFew l c = none) : ∀ m, ¬ CanIn l c m := by
  rintro m ⟨k, h1, h2⟩
  have hn := mix_words he
  unfold mixFew at h
  rw [List.find?_eq_none] at h
  have := h (min m (c.words.length - 1)) (by rw [List.mem_range]; omega)
  exact this (by simpa using (canIn_day he _).2 ⟨k, h1, h2.few⟩)
theorem few_eq (l : List Sheet) (c : Copy) : fewV l c = (mixN l c, mixErr l c) := by
  unfold fewV mixN mixErr
  by_cases he : errMix l c = 0
  · simp only [he, ne_eq, not_true_eq_false, if_false]
    have hg : 0 ≤ fewO l c := bestGo_ge (fun k => FF_ge _ _ _) _
    have hn := mix_words he
    cases h : mixFew l c with
    | none =>
      have h1 := few_none he h
      rw [if_pos (Int.not_lt.1 fun h2 => h1 (fewO l c).toNat ((canIn_few he (m := (fewO l c).toNat) (by omega)).1 (by omega)))]
    | some r =>
      obtain ⟨h1, h2, h3⟩ := few_some he h
      have h4 := (canIn_few he (m := r) (by omega)).2 h2
      have h5 : ¬ fewO l c ≤ (r : Int) - 1 := fun h5 => by
        have h6 : 1 ≤ r := by omega
        exact h3 (r - 1) (by omega) ((canIn_few he (m := r - 1) (by omega)).1 (by omega))
      rw [if_neg (by omega), show fewO l c = r by omega]
  · rw [if_pos he, if_pos he, if_pos he]
theorem chkGo_src {N : Nat} {op : Nat → Nat → Int → Bool} {n : Nat} {S : Nat → Nat} {D : Nat → Int} (h : Src N op n S D) : ∀ (r k : Nat), k + r = n → chkGo op ((List.range n).map fun i => (S i : Int)) ((List.range n).map D) r k (if k = 0 then 0 else (chg S (k - 1) : Int)) = (if n = 0 then 0 else (chg S (n - 1) : Int), 0)
  | 0, k, hk => by
    rw [chkGo, show k = n by omega]
  | r + 1, k, hk => by
    have hg : ∀ j, j < n → ((List.range n).map fun i => (S i : Int)).getD j 0 = (S j : Int) := fun j hj => by simp [List.getD_eq_getElem?_getD, hj]
    have hd : ∀ j, j < n → ((List.range n).map D).getD j 0 = D j := fun j hj => by simp [List.getD_eq_getElem?_getD, hj]
    obtain ⟨h1, h2, h3⟩ := h k (by omega)
    have ih := chkGo_src h r (k + 1) (by omega)
    rw [if_neg (Nat.succ_ne_zero k), Nat.add_sub_cancel] at ih
    rw [chkGo, hg k (by omega), hd k (by omega), Int.toNat_natCast, h2, if_pos (by
      rw [Bool.true_and, decide_eq_true_eq]
      intro h0
      rw [hd (k - 1) (by omega)]
      exact h3 h0)]
    rw [← ih]
    congr 1
    cases k with
    | zero => rw [if_neg (fun h => by omega), if_pos rfl]; rfl
    | succ k =>
      rw [hg (k + 1 - 1) (by omega), Nat.add_sub_cancel, if_neg (Nat.succ_ne_zero k), chg]
      by_cases hs : S (k + 1) = S k
      · rw [if_neg (fun h => h.2 (by rw [hs])), if_neg (fun h => h hs)]; rfl
      · rw [if_pos ⟨by omega, fun h => hs (by omega)⟩, if_pos hs]; rfl
theorem chk_mixed {l : List Sheet} {c : Copy} (h0 : mixErr l c = 0) : chkMix l c (mixFr l c) (mixDy l c) = (mixN l c, 0) := by
  have he : errMix l c = 0 := by
    unfold mixErr at h0
    by_cases h : errMix l c = 0
    · exact h
    · rw [if_pos h] at h0; exact h0
  obtain ⟨hl1, hl8, -⟩ := errMix_ok he
  have hn := mix_words he
  unfold mixErr at h0
  unfold chkMix mixFr mixDy mixN
  simp only [he, ne_eq, not_true_eq_false, if_false] at h0 ⊢
  cases h : mixFew l c with
  | none => rw [h] at h0; cases h0
  | some r =>
    obtain ⟨h1, h2, h3⟩ := few_some he h
    have hd := (canIn_day he r).2 h2
    have ht := tr_trace (N := l.length) (n := c.words.length) (nx := mixNx l c) (r := r) hl1 (by unfold mixDay at hd; omega)
    obtain ⟨h4, h5⟩ := ht.ok (op := mixOp l c) hl1 (mixNx_ok he) hn.1
    have h6 := src_reach h4 (c.words.length - 1) (by omega)
    have h7 : r ≤ chg (trS l.length c.words.length (mixNx l c) r) (c.words.length - 1) := Nat.le_of_not_lt fun h7 => h3 _ h7 ⟨_, trS_lt hl1, reach_fin (fun _ _ _ h => (mixOp_win he h).2) h6⟩
    have h8 := chkGo_src h4 c.words.length 0 (by omega)
    simp only
    rw [if_neg (by simp), if_pos (show frOk l.length _ from fun j hj => by
      simp only [List.length_map, List.length_range] at hj
      have := trS_lt (N := l.length) (n := c.words.length) (nx := mixNx l c) (r := r) (i := j) hl1
      rw [win_iff]
      simp [List.getD_eq_getElem?_getD, hj]
      omega)]
    rw [if_pos rfl, if_neg (by omega)] at h8
    rw [List.length_map, List.length_range]
    refine h8.trans ?_
    rw [show chg (trS l.length c.words.length (mixNx l c) r) (c.words.length - 1) = r by omega]
end Go.Proofs.Tryz
namespace Go.Proofs.Tryz
open Go Go.Am Go.RowKit Go.Co
set_option maxRecDepth 100000

def backL (g : Nat → Value) : Nat → List Value
  | 0 => []
  | n + 1 => g n :: backL g n
def itemI (xs : List Int) (i : Nat) : Value := .tuple #[.int .i64 i, .int .i64 (xs.getD i 0)]

theorem backI_gives {loops ls : List (Nat × LInfo)} {H H0 : AHeap} {l room : Nat} {Rd : Nat → Prop} {It : Value → Prop} {S : List Value → (Nat → Prop) → AHeap → Prop} {L : List Value} {D : Nat → Prop} {p : Nat} {lv : Value} {xs : List Int}
    (hfl : LExt ls loops) (hg : Gen2 Tryz.prog l ls Rd room It S) (hS : S L D H) (hp : p < H.n) (hpD : ¬ D p) (hgp : H.get p = .row [lv] 22) (hl : Ints H0 lv xs) (hx : Ext H0 H) (hb : ∀ i, D i → H0.n ≤ i) (hit : ∀ i, i < xs.length → It (itemI xs i)) (hro : L.length + xs.length ≤ room) :
    CallS Tryz.prog loops 133 [.func (.yield l) #[] #[], .pointer (some ⟨p, 0, none⟩)] H fun _ H' => ∃ D', S (L ++ backL (itemI xs) xs.length) D' H' ∧ Step D H D' H' := by
  obtain ⟨hll, la, lc, rfl⟩ := hl.slice
  have hcp : cellAt H p 0 = some (.slice la xs.length lc) := by simp [cellAt, hgp]
  have HFL := Lib.hid hfl
  have HG := Lib.hid hg
  have HS := Lib.hid hS
  have HGP := Lib.hid hgp
  have HLI := Lib.hid hl
  have HX := Lib.hid hx
  have HB := Lib.hid hb
  have HPD := Lib.hid hpD
  have HIT := Lib.hid hit
  have HRO := Lib.hid hro
  generalize hitems : backL (itemI xs) xs.length = items
  have HITS := Lib.hid hitems
  clear hfl hg hS hgp hl hx hb hpD hit hro hitems
  refine CallS.enter' Tryz.func133 rfl Tryz.ntmps133 (by simp) fun f hd hf => ?_
  have f0 := hf 0
  have f1 := hf 1
  simp at f0 f1
  clear hf
  repeat' (first|(with_reducible first|refine zA ?_|refine zB fun K hK=>?_|refine zC fun K2 hK2=>?_|refine zD ?_|refine zE ?_|refine zF ?_|refine zG ?_|refine zH ?_|refine zI ?_|refine zM ?_|refine zN ?_|refine zO ?_|refine zP ?_|refine zQ ?_|refine zR ?_)|((with_reducible refine zU (hK _ _ ?_));clear hK K)|((with_reducible refine zV ?_ ?_ fun K1 K3 d hdst h1 h3=>?_);rfl;exact yB rfl;cases hdst;go_simp)|((with_reducible refine zW fun K1 K3 h1 h3=>?_);go_simp)|((first|refine h1 ?_|refine h3 ?_);clear h1 h3 K1 K3)|((first|refine zX (fun hb=>h1 ?_) (fun hb=>h3 ?_)|refine zX (fun hb=>h3 ?_) (fun hb=>h1 ?_))<;>(clear h1 h3 K1 K3;(try have hb2:=yC hb);(try have hb2:=yD hb);(try have hb2:=yE hb);(try have hb2:=yF hb);(try have hb2:=yG hb)))|(refine fun (K2:_→AHeap→Prop) hK2=>?_)|((with_reducible refine zY ?_ ?_);decide)|((with_reducible first|refine zZ ?_ (fun K hK=>?_)|refine yA ?_ (fun K hK=>?_));(focus go_simp;done);go_simp;refine hK _ _ ?_;clear hK K)|(go_simp;(try go_bits);refine hK2 _ _ ?_;clear hK2 K2))
  refine CodeS.loop (fun m f H' => ∃ (r : Nat) (D' : Nat → Prop) (L' : List Value), r ≤ xs.length ∧ m = r ∧ f.tmp 3 = .int .i64 ((r : Int) - 1) ∧ f.tmp 0 = .func (.yield l) #[] #[] ∧ f.tmp 1 = .pointer (some ⟨p, 0, none⟩) ∧ f.defers = [] ∧ Hid (S L' D' H') ∧ Hid (Step D H D' H') ∧ Hid (L' ++ backL (itemI xs) r = L ++ items) ∧ L'.length + r = L.length + xs.length) xs.length ?_ ?_
  · exact ⟨xs.length, D, L, Nat.le_refl _, rfl, (by first|go_simp<;>go_num|assumption), (by first|go_simp<;>go_num|assumption), (by first|go_simp<;>go_num|assumption), (by first|go_simp<;>go_num|assumption), HS, Lib.hid (Step.refl _ _), Lib.hid (by rw [HITS.out]), rfl⟩
  clear f0 f1 hd f HS
  rintro m f H' ⟨r, D', L', hr, hmr, f3, f0, f1, hd, HS, HST, HL, hln⟩
  have hcp' : cellAt H' p 0 = some (.slice la xs.length lc) := (cellAt_get (HST.out.get p hp HPD.out)).trans hcp
  rcases Nat.eq_zero_or_pos r with hr0 | hr0
  · have h9 : ¬ ((1 : Int) ≤ (r : Int)) := by omega
    have h8 : ¬ ((0 : Int) ≤ (r : Int) - 1) := by omega
    have h7 : ¬ (0 < r) := by omega
    have h6 : ¬ (1 ≤ r) := by omega
    have HR0 := Lib.hid hr0
    clear hr0
    repeat' (first|(with_reducible first|refine zA ?_|refine zB fun K hK=>?_|refine zC fun K2 hK2=>?_|refine zD ?_|refine zE ?_|refine zF ?_|refine zG ?_|refine zH ?_|refine zI ?_|refine zM ?_|refine zN ?_|refine zO ?_|refine zP ?_|refine zQ ?_|refine zR ?_)|((with_reducible refine zU (hK _ _ ?_));clear hK K)|((with_reducible refine zV ?_ ?_ fun K1 K3 d hdst h1 h3=>?_);rfl;exact yB rfl;cases hdst;go_simp)|((with_reducible refine zW fun K1 K3 h1 h3=>?_);go_simp)|((first|refine h1 ?_|refine h3 ?_);clear h1 h3 K1 K3)|((first|refine zX (fun hb=>h1 ?_) (fun hb=>h3 ?_)|refine zX (fun hb=>h3 ?_) (fun hb=>h1 ?_))<;>(clear h1 h3 K1 K3;(try have hb2:=yC hb);(try have hb2:=yD hb);(try have hb2:=yE hb);(try have hb2:=yF hb);(try have hb2:=yG hb)))|(refine fun (K2:_→AHeap→Prop) hK2=>?_)|((with_reducible refine zY ?_ ?_);decide)|((with_reducible first|refine zZ ?_ (fun K hK=>?_)|refine yA ?_ (fun K hK=>?_));(focus go_simp;done);go_simp;refine hK _ _ ?_;clear hK K)|(go_simp;(try go_bits);refine hK2 _ _ ?_;clear hK2 K2))
    all_goals (try (exfalso; omega))
    refine ⟨D', ?_, HST.out⟩
    have h5 := HL.out
    rw [HR0.out] at h5
    rw [← h5]; simpa [backL] using HS.out
  · obtain ⟨b, o, sp, rfl, hb, hxc⟩ := HLI.out.at_ (k := r - 1) (by omega)
    have hbd : ¬ D b := fun h => by have := HB.out b h; omega
    have hxc' : cellAt H' b (o + (r - 1)) = some (.int .i64 (xs[r - 1]'(by omega))) := (cellAt_get (HST.out.get b (Nat.lt_of_lt_of_le hb HX.out.n) hbd)).trans ((HX.out.cellAt hb).trans hxc)
    have hgd : xs.getD (r - 1) 0 = xs[r - 1]'(by omega) := by simp [List.getD_eq_getElem?_getD, show r - 1 < xs.length by omega]
    have hIT : It (.tuple #[.int .i64 ((r : Int) - 1), .int .i64 (xs[r - 1]'(by omega))]) := by
      have h := HIT.out (r - 1) (by omega)
      rw [itemI, hgd, show ((r - 1 : Nat) : Int) = (r : Int) - 1 by omega] at h
      exact h
    have hbk : Hid (backL (itemI xs) r = .tuple #[.int .i64 ((r : Int) - 1), .int .i64 (xs[r - 1]'(by omega))] :: backL (itemI xs) (r - 1)) := Lib.hid (by
      rw [← hgd, ← show ((r - 1 : Nat) : Int) = (r : Int) - 1 by omega]
      conv => lhs; rw [show r = (r - 1) + 1 by omega, backL]
      rfl)
    generalize xs[r - 1]'(by omega) = x at hxc' hIT hbk
    have HIX := Lib.hid hIT
    clear hIT hgd hxc
    have h0i : (0 : Int) ≤ (r : Int) - 1 := by omega
    have h1i : (r : Int) - 1 < (xs.length : Int) := by omega
    have h2i : (1 : Int) ≤ (r : Int) := by omega
    have h3i : 1 ≤ r := by omega
    have hroom : L'.length < room := by have := HRO.out; omega
    repeat' (first|(with_reducible first|refine zA ?_|refine zB fun K hK=>?_|refine zC fun K2 hK2=>?_|refine zD ?_|refine zE ?_|refine zF ?_|refine zG ?_|refine zH ?_|refine zI ?_|refine zM ?_|refine zN ?_|refine zO ?_|refine zP ?_|refine zQ ?_|refine zR ?_)|((with_reducible refine zU (hK _ _ ?_));clear hK K)|((with_reducible refine zV ?_ ?_ fun K1 K3 d hdst h1 h3=>?_);rfl;exact yB rfl;cases hdst;go_simp)|((with_reducible refine zW fun K1 K3 h1 h3=>?_);go_simp)|((first|refine h1 ?_|refine h3 ?_);clear h1 h3 K1 K3)|((first|refine zX (fun hb=>h1 ?_) (fun hb=>h3 ?_)|refine zX (fun hb=>h3 ?_) (fun hb=>h1 ?_))<;>(clear h1 h3 K1 K3;(try have hb2:=yC hb);(try have hb2:=yD hb);(try have hb2:=yE hb);(try have hb2:=yF hb);(try have hb2:=yG hb)))|(refine fun (K2:_→AHeap→Prop) hK2=>?_)|((with_reducible refine zY ?_ ?_);decide)|((with_reducible first|refine zZ ?_ (fun K hK=>?_)|refine yA ?_ (fun K hK=>?_));(focus go_simp;done);go_simp;refine hK _ _ ?_;clear hK K)|(go_simp;(try go_bits);(try first | ((refine RoundS.mono (HG.out.round (v := .tuple #[.int .i64 ((r : Int) - 1), .int .i64 x]) HFL.out hroom HIX.out HS.out) ?_); rintro _ H3 ⟨rfl, D3, hS3, hst3⟩; (have HS3 := Lib.hid hS3); (have HST3 := Lib.hid hst3); clear hS3 hst3));refine hK2 _ _ ?_;clear hK2 K2))
    refine Post.round_normal ⟨r - 1, by omega, r - 1, D3, _, by omega, rfl, ?_, (by first|go_simp<;>go_num|assumption), (by first|go_simp<;>go_num|assumption), (by first|go_simp<;>go_num|assumption), HS3, Lib.hid (HST.out.trans HST3.out), Lib.hid ?_, ?_⟩
    · have e : ((r - 1 : Nat) : Int) - 1 = (r : Int) - 1 - 1 := by omega
      rw [e]
      first | (go_simp; done) | (go_simp; go_num; done)
    · rw [← HL.out, hbk.out]; simp
    · simp; omega

def BackAt (Hb H : AHeap) (p : Nat) (v : Value) (xs : List Int) : Prop := ∃ lv, v = .func (.func 133) #[] #[.pointer (some ⟨p, 0, none⟩)] ∧ p < H.n ∧ H.get p = .row [lv] 22 ∧ Ints Hb lv xs ∧ Ext Hb H
theorem BackAt.gives {Hb H : AHeap} {p : Nat} {v : Value} {xs : List Int} (h : BackAt Hb H p v xs) {It : Value → Prop} (hit : ∀ i, i < xs.length → It (itemI xs i)) : Gives2 Tryz.prog H (fun i => i < Hb.n ∨ i = p) xs.length v It (backL (itemI xs) xs.length) := by
  obtain ⟨lv, rfl, h2, h3, h4, h5⟩ := h
  refine ⟨133, _, rfl, by kernel_rfl, ?_, fun loops ls H' l Rd room S L D hf hg hS hn hR hr => ?_⟩
  · rintro i (h | rfl)
    · exact Nat.lt_of_lt_of_le h h5.n
    · exact h2
  · refine backI_gives (H0 := Hb) hf hg hS (Nat.lt_of_lt_of_le h2 hn) (hR p (.inr rfl)).2 ((hR p (.inr rfl)).1.trans h3) h4 ⟨Nat.le_trans h5.n hn, fun i hi => (hR i (.inl hi)).1.trans (h5.get i hi)⟩ (fun i hi => ?_) hit hr
    rcases Nat.lt_or_ge i Hb.n with h0 | h0
    · exact absurd hi (hR i (.inl h0)).2
    · exact h0
end Go.Proofs.Tryz
namespace Go.Proofs.Tryz
open Go Go.Am Go.RowKit Go.Co
set_option maxRecDepth 100000

def sndI : Value → Int
  | .tuple #[_, .int _ x] => x
  | _ => 0
def mirI (L : List Value) : List Int := L.map fun t => 730 - sndI t
def MirS (bs l c : Nat) (L : List Value) (D : Nat → Prop) (H : AHeap) : Prop := ∃ (v : Value), bs ≤ c ∧ c < l ∧ l < H.n ∧ H.get l = .loop .ready none ∧ H.get c = .row [v] 22 ∧ Own H bs v 3 1 ((mirI L).map (Value.int .i64)) ∧ ∀ i, D i ↔ i = l ∨ i = c ∨ ∃ n, v = .slice (some ⟨i, 0, none⟩) n n ∧ 0 < n
theorem MirS.own {bs l c : Nat} {L : List Value} {D : Nat → Prop} {H : AHeap} (h : MirS bs l c L D H) : D l := by
  obtain ⟨v, h2, h3, h4, h5, h6, h7, h8⟩ := h
  exact (h8 l).2 (.inl rfl)
theorem MirS.lt {bs l c : Nat} {L : List Value} {D : Nat → Prop} {H : AHeap} {i : Nat} (h : MirS bs l c L D H) (hi : D i) : i < H.n := by
  obtain ⟨v, h2, h3, h4, h5, h6, h7, h8⟩ := h
  rcases (h8 i).1 hi with rfl | rfl | ⟨n, hv, hn⟩
  · exact h4
  · omega
  · exact (own_block h7 hv hn).2.1
theorem MirS.keep {bs l c : Nat} {L : List Value} {D : Nat → Prop} {H H' : AHeap} (h : MirS bs l c L D H) (hn : H.n ≤ H'.n) (hk : ∀ i, D i → H'.get i = H.get i) : MirS bs l c L D H' := by
  obtain ⟨v, h2, h3, h4, h5, h6, h7, h8⟩ := h
  refine ⟨v, h2, h3, Nat.lt_of_lt_of_le h4 hn, (hk l (((h8 l).2 (.inl rfl)))).trans h5, (hk c (((h8 c).2 (.inr (.inl rfl))))).trans h6, own_at h7 hn fun i n hv hn => hk i ((h8 i).2 (.inr (.inr ⟨n, hv, hn⟩))), h8⟩
end Go.Proofs.Tryz
