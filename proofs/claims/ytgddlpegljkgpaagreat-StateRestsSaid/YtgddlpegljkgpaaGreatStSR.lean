/- Contracts of functions, walked. -/
import Derived.Test.YtgddlpegljkgpaaGreatChecked
import Derived.Test.YtgddlpegljkgpaaGreatRows
import Derived.Below
import Derived.Carry
import Derived.Deep.Slices
import Derived.Deep.Fields
import Derived.ChangeSame
import Derived.ProofKit
import Derived.OpenShut
import Derived.ShutString
import Derived.ChangeOld
import Derived.Lib.SmallJoins
import Derived.Test.YtgddlpegljkgpaaGreatStZG
import Derived.Test.YtgddlpegljkgpaaGreatStSN
import Derived.Test.YtgddlpegljkgpaaGreatStSA
import Derived.Test.YtgddlpegljkgpaaGreatStSF
set_option linter.all false
namespace Go.Proofs.Tryz
open Go Go.Am Go.RowKit Go.Co
set_option maxRecDepth 100000

theorem ext_a2 {H H2 : AHeap} {a b : AObj} (hx : Ext ((H.push a).push b) H2) : H2.get (H.n + 1) = b ∧ H.n + 2 ≤ H2.n := by
  have := hx.n
  simp only [AHeap.n_push] at this
  exact ⟨by rw [hx.get _ (by simp only [AHeap.n_push]; omega), get_at (by rw [AHeap.n_push])], by omega⟩
set_option maxHeartbeats 16000000 in
theorem refRests_f {loops : List (Nat × LInfo)} {H : AHeap} {sv cv : Value} {s : Sheet} {c : Copy} (hs : SheetV H sv s) (hc : CopyV H cv c) : CallS Tryz.prog loops 26 [sv, cv] H fun r H' => (∃ v, r = .agg #[v, .int .i64 (errExt s c)] ∧ Ints H' v (restL s c)) ∧ Ext H H' := by
  have HS := Lib.hid hs
  have HC := Lib.hid hc
  obtain ⟨wv, av, rfl, hw, ha⟩ := hs
  obtain ⟨hwl, wa, wc, rfl⟩ := hw.slice
  obtain ⟨hal, aa, ac, rfl⟩ := ha.slice
  have HA := Lib.hid ha
  obtain ⟨cv, rfl, hcw⟩ := hc
  obtain ⟨hcl, ca, cc, rfl⟩ := hcw.slice
  clear hw ha hcw
  have HX1 : Hid (Ext H (((H.push (.row [Value.slice wa s.words.length wc, Value.slice aa s.alts.length ac] 25)).push (.row [Value.slice ca c.words.length cc, .int .i64 c.beg, .int .i64 c.fin, .int .i64 c.per] 27)).push (.row [.slice none 0 0, .int .i64 0] 37))) := Lib.hid (((Ext.refl _).push' _).push' _ |>.push' _)
  have HCO := Lib.hid (fun (loops : List (Nat × LInfo)) => copied_s (loops := loops) (s := s) (c := c) (HS.out.ext HX1.out) (HC.out.ext HX1.out))
  rw [errCopied_ext] at HCO
  refine CallS.enter' Tryz.func26 rfl Tryz.ntmps26 (by simp) fun f hd hf => ?_
  have f0 := hf 0
  have f1 := hf 1
  simp at f0 f1
  clear hf
  by_cases he : errExt s c = 0
  · obtain ⟨hcp, hmd⟩ := errExt_ok he
    have hSL : restL s c = idsL s (restAt s c) := by rw [restL, if_pos he]
    have h40 := (err_ok (errCopy_ok hcp).1).2.2.2
    have hlF := (ends_len s c).1
    have hlL := (ends_len s c).2
    have hfl : (courseOf s c).early c.per.toNat 0 = firstL s c := by rw [firstL, if_pos he]
    have hll : (courseOf s c).late c.per.toNat = lastL s c := by rw [lastL, if_pos he]
    have HF := Lib.hid (fun (loops : List (Nat × LInfo)) (G : AHeap) (hx : Ext H G) => refFirst_e (loops := loops) (HS.out.ext hx) (HC.out.ext hx) hcp)
    have HL := Lib.hid (fun (loops : List (Nat × LInfo)) (G : AHeap) (hx : Ext H G) => refLast_e (loops := loops) (HS.out.ext hx) (HC.out.ext hx) hcp hmd)
    rw [hfl] at HF
    rw [hll] at HL
    have HRA : Hid (∀ a, restAt s c a = !(decide (errExt (lessS s [a.id]) c = 0) && (decide (firstL s c = firstL (lessS s [a.id]) c) && decide (lastL s c = lastL (lessS s [a.id]) c)))) := Lib.hid fun _ => rfl
    have HFQ := Lib.hid (fun (loops : List (Nat × LInfo)) (G : AHeap) (v : Value) (i : Int) (hx : Ext H G) (hs : SheetV G v (lessS s [i])) => copied_s (loops := loops) hs (HC.out.ext hx))
    have HFL := Lib.hid (fun (loops : List (Nat × LInfo)) (G : AHeap) (v : Value) (i : Int) (hx : Ext H G) (hs : SheetV G v (lessS s [i])) (h : errExt (lessS s [i]) c = 0) => show CallS Tryz.prog loops 51 _ G (fun r G' => Own G' G.n r 3 1 ((firstL (lessS s [i]) c).map (Value.int .i64)) ∧ Ext G G') by
      have h1 := refFirst_e (loops := loops) hs (HC.out.ext hx) (errExt_ok h).1
      rwa [show (courseOf (lessS s [i]) c).early c.per.toNat 0 = firstL (lessS s [i]) c by rw [firstL, if_pos h]] at h1)
    have HLL := Lib.hid (fun (loops : List (Nat × LInfo)) (G : AHeap) (v : Value) (i : Int) (hx : Ext H G) (hs : SheetV G v (lessS s [i])) (h : errExt (lessS s [i]) c = 0) => show CallS Tryz.prog loops 52 _ G (fun r G' => Own G' G.n r 3 1 ((lastL (lessS s [i]) c).map (Value.int .i64)) ∧ Ext G G') by
      have h1 := refLast_e (loops := loops) hs (HC.out.ext hx) (errExt_ok h).1 (errExt_ok h).2
      rwa [show (courseOf (lessS s [i]) c).late c.per.toNat = lastL (lessS s [i]) c by rw [lastL, if_pos h]] at h1)
    have HLN := Lib.hid (fun i => ends_len (lessS s [i]) c)
    rw [he] at HCO ⊢
    rw [hSL]
    clear hSL hfl hll hcp hmd
    have HFLN := Lib.hid hlF
    have HLLN := Lib.hid hlL
    clear hlF hlL he
    generalize firstL s c = F at HF HRA HFLN
    generalize lastL s c = L at HL HRA HLLN
    repeat' (first|(with_reducible first|refine zA ?_|refine zB fun K hK=>?_|refine zC fun K2 hK2=>?_|refine zD ?_|refine zE ?_|refine zF ?_|refine zG ?_|refine zH ?_|refine zI ?_|refine zM ?_|refine zN ?_|refine zO ?_|refine zP ?_|refine zQ ?_|refine zR ?_)|((with_reducible refine zU (hK _ _ ?_));clear hK K)|((with_reducible refine zV ?_ ?_ fun K1 K3 d hdst h1 h3=>?_);rfl;exact yB rfl;cases hdst;go_simp)|((with_reducible refine zW fun K1 K3 h1 h3=>?_);go_simp)|((first|refine h1 ?_|refine h3 ?_);clear h1 h3 K1 K3)|((first|refine zX (fun hb=>h1 ?_) (fun hb=>h3 ?_)|refine zX (fun hb=>h3 ?_) (fun hb=>h1 ?_))<;>(clear h1 h3 K1 K3;(try have hb2:=yC hb);(try have hb2:=yD hb);(try have hb2:=yE hb);(try have hb2:=yF hb);(try have hb2:=yG hb)))|(refine fun (K2:_→AHeap→Prop) hK2=>?_)|((with_reducible refine zY ?_ ?_);decide)|((with_reducible first|refine zZ ?_ (fun K hK=>?_)|refine yA ?_ (fun K hK=>?_));(focus go_simp;done);go_simp;refine hK _ _ ?_;clear hK K)|(go_simp;(try go_bits);(try first | ((with_reducible show CallS _ _ _ _ _ _);refine CallS.mono (HCO.out _) ?_; rintro _ _ ⟨rfl, h9⟩; rw [h9]; clear h9; go_simp));refine hK2 _ _ ?_;clear hK2 K2))
    refine CodeS.loop (fun m f H' => ∃ (k : Nat) (v : Value), k ≤ s.alts.length ∧ m = s.alts.length - k ∧ f.tmp 7 = .int .i64 k ∧ f.tmp 6 = v ∧ f.tmp 2 = .pointer (some ⟨H.n, 0, none⟩) ∧ f.tmp 3 = .pointer (some ⟨H.n + 1, 0, none⟩) ∧ f.tmp 4 = .pointer (some ⟨H.n + 1 + 1, 0, none⟩) ∧ f.defers = [] ∧ Hid (Ext (((H.push (.row [Value.slice wa s.words.length wc, Value.slice aa s.alts.length ac] 25)).push (.row [Value.slice ca c.words.length cc, .int .i64 c.beg, .int .i64 c.fin, .int .i64 c.per] 27)).push (.row [.slice none 0 0, .int .i64 0] 37)) H') ∧ Hid (Own H' (H.n + 3) v 3 1 ((idsT s (restAt s c) k).map (Value.int .i64)))) s.alts.length ?_ ?_
    · exact ⟨0, .slice none 0 0, by simp, by simp, (by first|go_simp<;>go_num|assumption), (by first|go_simp<;>go_num|assumption), (by first|go_simp<;>go_num|assumption), (by first|go_simp<;>go_num|assumption), (by first|go_simp<;>go_num|assumption), (by first|go_simp<;>go_num|assumption), Lib.hid (Ext.refl _), Lib.hid Own.nil⟩
    clear f0 f1 hd f
    rintro m f H' ⟨k, v, hk, rfl, f7, f6, f2, f3, f4, hd, HY, HO⟩
    obtain ⟨va, vn, rfl⟩ := own_slice HO.out
    have hHn := HY.out.n
    simp only [AHeap.n_push] at hHn
    have hn0 : H.n < H'.n := by omega
    have hn1 : H.n + 1 < H'.n := by omega
    have hn2 : H.n + 1 + 1 < H'.n := by omega
    have hs0 : cellsAt H' H.n 0 2 = some [Value.slice wa s.words.length wc, Value.slice aa s.alts.length ac] := by
      rw [HY.out.cellsAt (by simp only [AHeap.n_push]; omega), cellsAt_old (by simp only [AHeap.n_push]; omega), cellsAt_old (by simp only [AHeap.n_push]; omega), cellsAt_new]; rfl
    have hs1 : cellAt H' H.n 1 = some (Value.slice aa s.alts.length ac) := by
      rw [HY.out.cellAt (by simp only [AHeap.n_push]; omega), cellAt_old (by simp only [AHeap.n_push]; omega), cellAt_old (by simp only [AHeap.n_push]; omega), cellAt_new]; rfl
    have hc0 : cellsAt H' (H.n + 1) 0 4 = some [Value.slice ca c.words.length cc, .int .i64 c.beg, .int .i64 c.fin, .int .i64 c.per] := by
      rw [HY.out.cellsAt (by simp only [AHeap.n_push]; omega), cellsAt_old (by simp only [AHeap.n_push]; omega), ← AHeap.n_push H, cellsAt_new]; rfl
    have hq : H'.get (H.n + 1 + 1) = .row [.slice none 0 0, .int .i64 0] 37 := (HY.out.get _ (by simp only [AHeap.n_push]; omega)).trans (get_at (by simp only [AHeap.n_push]))
    have HXX := Lib.hid (HX1.out.trans HY.out)
    by_cases hlt : k < s.alts.length
    · obtain ⟨b, o, sp, rfl, hb, hx6, hx7⟩ := (HA.out.ext HXX.out).at_ hlt
      have hel := HRA.out s.alts[k]
      have HTT := Lib.hid (idsT_succ (acc := restAt s c) hlt)
      have hll := idsT_len s (restAt s c) k
      have HLL2 := Lib.hid (show (idsT s (restAt s c) k).length ≤ 1000 by omega)
      generalize hT2 : idsT s (restAt s c) (k + 1) = T2 at HTT
      have HT2 := Lib.hid hT2
      generalize idsT s (restAt s c) k = T1 at HTT HLL2 HO
      generalize restAt s c s.alts[k] = mb at hel HTT
      generalize s.alts[k] = a at hx6 hx7 hel HTT
      obtain ⟨i1, i2, i3, i4, i5, i6⟩ := a
      have hy1 : cellAt H' b (o + k * 6) = some (.int .i64 i1) := hx7 0 (.int .i64 i1) rfl
      have hb1 : b < H'.n := hb
      have HQ := Lib.hid (fun (loops : List (Nat × LInfo)) (G : AHeap) (v : Value) => HFQ.out loops G v i1)
      have HFF := Lib.hid (fun (loops : List (Nat × LInfo)) (G : AHeap) (v : Value) => HFL.out loops G v i1)
      have HGG := Lib.hid (fun (loops : List (Nat × LInfo)) (G : AHeap) (v : Value) => HLL.out loops G v i1)
      have HLEN := Lib.hid (HLN.out i1)
      have hel' : mb = !(decide (errExt (lessS s [i1]) c = 0) && (decide (F = firstL (lessS s [i1]) c) && decide (L = lastL (lessS s [i1]) c))) := hel
      have hab : b < H'.n + 1 := by omega
      have hac' : b < H'.n + 1 + 1 := by omega
      have hna : H.n < H'.n + 1 := by omega
      have hnb : H.n < H'.n + 1 + 1 := by omega
      have hnc : H.n + 1 < H'.n + 1 := by omega
      have hnd : H.n + 1 < H'.n + 1 + 1 := by omega
      clear hx6 hx7 hll hT2 hel HFQ HFL HLL HLN
      repeat' (first|((with_reducible refine stop_sq (n := 8) ?_))|(with_reducible first|refine zA ?_|refine zB fun K hK=>?_|refine zC fun K2 hK2=>?_|refine zD ?_|refine zE ?_|refine zF ?_|refine zG ?_|refine zH ?_|refine zI ?_|refine zM ?_|refine zN ?_|refine zO ?_|refine zP ?_|refine zQ ?_|refine zR ?_)|((with_reducible refine zU (hK _ _ ?_));clear hK K)|((with_reducible refine zV ?_ ?_ fun K1 K3 d hdst h1 h3=>?_);rfl;exact yB rfl;cases hdst;go_simp)|((with_reducible refine zW fun K1 K3 h1 h3=>?_);go_simp)|((first|refine h1 ?_|refine h3 ?_);clear h1 h3 K1 K3)|((first|refine zX (fun hb=>h1 ?_) (fun hb=>h3 ?_)|refine zX (fun hb=>h3 ?_) (fun hb=>h1 ?_))<;>(clear h1 h3 K1 K3;(try have hb2:=yC hb);(try have hb2:=yD hb);(try have hb2:=yE hb);(try have hb2:=yF hb);(try have hb2:=yG hb)))|(refine fun (K2:_→AHeap→Prop) hK2=>?_)|((with_reducible refine zY ?_ ?_);decide)|((with_reducible first|refine zZ ?_ (fun K hK=>?_)|refine yA ?_ (fun K hK=>?_));(focus go_simp;done);go_simp;refine hK _ _ ?_;clear hK K)|(go_simp;(try go_bits);refine hK2 _ _ ?_;clear hK2 K2))
      refine ⟨CodeS.cut (fun f G => ∃ (j : Nat) (wa3 : Option Addr) (wn3 wc3 : Nat) (aa3 : Option Addr) (an3 ac3 : Nat), f.tmp 8 = .pointer (some ⟨j, 0, none⟩) ∧ f.tmp 7 = .int .i64 k ∧ f.tmp 6 = .slice va vn vn ∧ f.tmp 2 = .pointer (some ⟨H.n, 0, none⟩) ∧ f.tmp 3 = .pointer (some ⟨H.n + 1, 0, none⟩) ∧ f.tmp 4 = .pointer (some ⟨H.n + 1 + 1, 0, none⟩) ∧ f.defers = [] ∧ j < G.n ∧ cellsAt G j 0 2 = some [.slice wa3 wn3 wc3, .slice aa3 an3 ac3] ∧ Hid (Ext H' G) ∧ Hid (SheetV G (.agg #[.slice wa3 wn3 wc3, .slice aa3 an3 ac3]) (lessS s [i1]))) ?_ ?_⟩
      · have HLE := Lib.hid (fun (loops : List (Nat × LInfo)) (G : AHeap) (iv : Value) (hx : Ext H' G) (hi : Ints G iv [i1]) => less_f (loops := loops) (HS.out.ext HXX.out) hx hi (by omega))
        clear HQ HFF HGG hel' HLEN HF HL
        repeat' (first|(with_reducible first|refine zA ?_|refine zB fun K hK=>?_|refine zC fun K2 hK2=>?_|refine zD ?_|refine zE ?_|refine zF ?_|refine zG ?_|refine zH ?_|refine zI ?_|refine zM ?_|refine zN ?_|refine zO ?_|refine zP ?_|refine zQ ?_|refine zR ?_)|((with_reducible refine zU (hK _ _ ?_));clear hK K)|((with_reducible refine zV ?_ ?_ fun K1 K3 d hdst h1 h3=>?_);rfl;exact yB rfl;cases hdst;go_simp)|((with_reducible refine zW fun K1 K3 h1 h3=>?_);go_simp)|((first|refine h1 ?_|refine h3 ?_);clear h1 h3 K1 K3)|((first|refine zX (fun hb=>h1 ?_) (fun hb=>h3 ?_)|refine zX (fun hb=>h3 ?_) (fun hb=>h1 ?_))<;>(clear h1 h3 K1 K3;(try have hb2:=yC hb);(try have hb2:=yD hb);(try have hb2:=yE hb);(try have hb2:=yF hb);(try have hb2:=yG hb)))|(refine fun (K2:_→AHeap→Prop) hK2=>?_)|((with_reducible refine zY ?_ ?_);decide)|((with_reducible first|refine zZ ?_ (fun K hK=>?_)|refine yA ?_ (fun K hK=>?_));(focus go_simp;done);go_simp;refine hK _ _ ?_;clear hK K)|((with_reducible refine yH mixed rfl ?_ 20 fun K0 hK0=>?_);kernel_rfl)|(with_reducible first|exact yI|exact yJ|refine yK ?_|refine yL ?_|refine yM ?_)|((with_reducible first|refine yN ?_ ?_|refine yO ?_ ?_|refine yP ?_ ?_);rfl)|((with_reducible refine yQ ?_ ?_);rfl;refine hK0 _ _ ?_;clear hK0 K0)|((with_reducible refine yR ?_ ?_ ?_ ?_);rfl;rfl;rfl)|((with_reducible refine yS ?_ ?_ ?_ fun K2 hK2=>?_);rfl;rfl;exact yB rfl)|((with_reducible refine yT ?_ ?_ ?_ ?_ fun K1 K3 d hdst h1 h3=>?_);rfl;rfl;rfl;exact yB rfl;cases hdst;go_simp)|((with_reducible refine yU ?_ ?_ ?_ ?_ fun K1 K3 d hdst h1 h3=>?_);rfl;rfl;rfl;exact yB rfl;cases hdst;go_simp)|((with_reducible refine yV ?_ ?_ (fun K2 hK2=>?_) ?_);rfl;exact yB rfl)|((with_reducible refine yW ?_ ?_ ?_ ?_ (fun K2 hK2=>?_) ?_);rfl;exact yB rfl;rfl;(focus go_simp;done))|((with_reducible refine yX ?_ ?_ ?_ (fun K2 hK2=>?_) ?_);rfl;rfl;exact yB rfl)|((with_reducible refine yY ?_ ?_ (fun K2 hK2=>?_) ?_);rfl;rfl)|((with_reducible refine yZ ?_ ?_);(first|rfl|(dsimp only;decide +kernel)))|((with_reducible refine xA ?_ ?_);(focus go_simp;done))|(go_simp;(try go_bits);(try first | ((refine one_v el22 sz3 ze3 rfl (by decide) (by decide) rfl rfl ?_); go_simp) | ((with_reducible refine CallS.mono (HLE.out _ _ _ (Ext.push _) (ints_at rfl)) ?_); rintro _ H3 ⟨hv, ⟨wa3, wn3, wc3, aa3, an3, ac3, rfl⟩, hx⟩; (have HX3 := Lib.hid ((Ext.push _).trans hx)); (have HVV : Hid (SheetV (H3.push (.row [.slice wa3 wn3 wc3, .slice aa3 an3 ac3] 25)) (.agg #[.slice wa3 wn3 wc3, .slice aa3 an3 ac3]) (lessS s [i1]) ∧ Ext H' (H3.push (.row [.slice wa3 wn3 wc3, .slice aa3 an3 ac3] 25))) := Lib.hid ⟨hv _ (by rw [AHeap.n_push]; omega) (HX3.out.push' _).get (fun i _ h => AHeap.get_push_old h), HX3.out.push' _⟩); (have hs03 := (HX3.out.cellsAt hn0).trans hs0); (have hs13 := (HX3.out.cellAt hn0).trans hs1); (have hy13 := (HX3.out.cellAt hb1).trans hy1); (have hb13 := Nat.lt_of_lt_of_le hb1 HX3.out.n); (have hn03 := Nat.lt_of_lt_of_le hn0 HX3.out.n); clear hv hx; go_simp) | ((with_reducible refine CallS.mono (HLE.out _ _ _ ((Ext.push _).push' _) (ints_at (by simp only [AHeap.n_push]))) ?_); rintro _ H3 ⟨hv, ⟨wa3, wn3, wc3, aa3, an3, ac3, rfl⟩, hx⟩; (have HX3 := Lib.hid (((Ext.push _).push' _).trans hx)); (obtain ⟨hz3, hj3⟩ := ext_a hx); (have HVV : Hid (SheetV (H3.upd H'.n (.row [.slice wa3 wn3 wc3, .slice aa3 an3 ac3] 25)) (.agg #[.slice wa3 wn3 wc3, .slice aa3 an3 ac3]) (lessS s [i1]) ∧ Ext H' (H3.upd H'.n (.row [.slice wa3 wn3 wc3, .slice aa3 an3 ac3] 25))) := Lib.hid ⟨hv _ (by rw [AHeap.n_upd]; exact Nat.le_refl _) (HX3.out.upd (Nat.le_refl _) _).get (fun i h1 _ => AHeap.get_upd_ne (by simp only [AHeap.n_push] at h1; omega)), HX3.out.upd (Nat.le_refl _) _⟩); (have hj4 : H'.n < H3.n := by omega); (have hs03 := (HX3.out.cellsAt hn0).trans hs0); (have hs13 := (HX3.out.cellAt hn0).trans hs1); (have hy13 := (HX3.out.cellAt hb1).trans hy1); (have hb13 := Nat.lt_of_lt_of_le hb1 HX3.out.n); (have hn03 := Nat.lt_of_lt_of_le hn0 HX3.out.n); clear hv hx; go_simp) | ((with_reducible refine CallS.mono (HLE.out _ _ _ ((Ext.push _).push' _) ((ints_at rfl).ext (Ext.push _))) ?_); rintro _ H3 ⟨hv, ⟨wa3, wn3, wc3, aa3, an3, ac3, rfl⟩, hx⟩; (have HX3 := Lib.hid (((Ext.push _).push' _).trans hx)); (obtain ⟨hz3, hj3⟩ := ext_a2 hx); (have HVV : Hid (SheetV (H3.upd (H'.n + 1) (.row [.slice wa3 wn3 wc3, .slice aa3 an3 ac3] 25)) (.agg #[.slice wa3 wn3 wc3, .slice aa3 an3 ac3]) (lessS s [i1]) ∧ Ext H' (H3.upd (H'.n + 1) (.row [.slice wa3 wn3 wc3, .slice aa3 an3 ac3] 25))) := Lib.hid ⟨hv _ (by rw [AHeap.n_upd]; exact Nat.le_refl _) (HX3.out.upd (Nat.le_succ _) _).get (fun i h1 _ => AHeap.get_upd_ne (by simp only [AHeap.n_push] at h1; omega)), HX3.out.upd (Nat.le_succ _) _⟩); (have hj4 : H'.n + 1 < H3.n := by omega); (have hs03 := (HX3.out.cellsAt hn0).trans hs0); (have hs13 := (HX3.out.cellAt hn0).trans hs1); (have hy13 := (HX3.out.cellAt hb1).trans hy1); (have hb13 := Nat.lt_of_lt_of_le hb1 HX3.out.n); (have hn03 := Nat.lt_of_lt_of_le hn0 HX3.out.n); clear hv hx; go_simp));(first|(refine hK2 _ _ ?_ ?_<;>clear hK2 K2)|(refine hK2 _ _ ?_;clear hK2 K2))))
        all_goals first
          | exact ⟨_, _, _, _, _, _, _, (by first|go_simp<;>go_num|assumption), (by first|go_simp<;>go_num|assumption), (by first|go_simp<;>go_num|assumption), (by first|go_simp<;>go_num|assumption), (by first|go_simp<;>go_num|assumption), (by first|go_simp<;>go_num|assumption), (by first|go_simp<;>go_num|assumption), (by first|go_simp<;>go_num|assumption), (by first|go_simp<;>go_num|assumption), Lib.hid HVV.out.2, Lib.hid HVV.out.1⟩
      clear f7 f6 f2 f3 f4 hd f hs0 hc0 hab hac' hna hnb hnc hnd
      rintro f G ⟨j, wa3, wn3, wc3, aa3, an3, ac3, f8, f7, f6, f2, f3, f4, hd, hj, hjc, HXG, HSV⟩
      have hsG0 : cellsAt G H.n 0 2 = some [Value.slice wa s.words.length wc, Value.slice (some ⟨b, o, sp⟩) s.alts.length ac] := (HXG.out.cellsAt hn0).trans (by
        rw [HY.out.cellsAt (by simp only [AHeap.n_push]; omega), cellsAt_old (by simp only [AHeap.n_push]; omega), cellsAt_old (by simp only [AHeap.n_push]; omega), cellsAt_new]; rfl)
      have hcG0 : cellsAt G (H.n + 1) 0 4 = some [Value.slice ca c.words.length cc, .int .i64 c.beg, .int .i64 c.fin, .int .i64 c.per] := (HXG.out.cellsAt hn1).trans (by
        rw [HY.out.cellsAt (by simp only [AHeap.n_push]; omega), cellsAt_old (by simp only [AHeap.n_push]; omega), ← AHeap.n_push H, cellsAt_new]; rfl)
      have hn0G := Nat.lt_of_lt_of_le hn0 HXG.out.n
      have hn1G := Nat.lt_of_lt_of_le hn1 HXG.out.n
      have HXA := Lib.hid (HXX.out.trans HXG.out)
      have hq9 := fun loops => HQ.out loops G _ HXA.out HSV.out
      have HQ9 := Lib.hid hq9
      clear HQ hq9
      rw [errCopied_ext] at HQ9
      have HEL := Lib.hid hel'
      clear hel'
      generalize errExt (lessS s [i1]) c = e2 at HQ9 HFF HGG HEL
      generalize firstL (lessS s [i1]) c = F2 at HFF HEL HLEN
      generalize lastL (lessS s [i1]) c = L2 at HGG HEL HLEN
      by_cases hez : e2 = 0
      · subst hez
        have hmb : mb = !(decide (F2 = F) && decide (L2 = L)) := by rw [HEL.out, decide_eq_true rfl, Bool.true_and, decide_eq_decide.2 (eq_comm (a := F)), decide_eq_decide.2 (eq_comm (a := L))]
        have HS1 := Lib.hid (fun (loops : List (Nat × LInfo)) (K : AHeap) (u v : Value) (hu : Ints K u F2) (hv : Ints K v F) => sameInts_s (loops := loops) hu hv)
        have HS2 := Lib.hid (fun (loops : List (Nat × LInfo)) (K : AHeap) (u v : Value) (hu : Ints K u L2) (hv : Ints K v L) => sameInts_s (loops := loops) hu hv)
        generalize decide (F2 = F) = b1 at hmb HS1
        generalize decide (L2 = L) = b2 at hmb HS2
        have HMB := Lib.hid hmb
        clear hmb HEL
        repeat' (first|((with_reducible refine stop_if (n := 10) ?_))|(with_reducible first|refine zA ?_|refine zB fun K hK=>?_|refine zC fun K2 hK2=>?_|refine zD ?_|refine zE ?_|refine zF ?_|refine zG ?_|refine zH ?_|refine zI ?_|refine zM ?_|refine zN ?_|refine zO ?_|refine zP ?_|refine zQ ?_|refine zR ?_)|((with_reducible refine zU (hK _ _ ?_));clear hK K)|((with_reducible refine zV ?_ ?_ fun K1 K3 d hdst h1 h3=>?_);rfl;exact yB rfl;cases hdst;go_simp)|((with_reducible refine zW fun K1 K3 h1 h3=>?_);go_simp)|((first|refine h1 ?_|refine h3 ?_);clear h1 h3 K1 K3)|((first|refine zX (fun hb=>h1 ?_) (fun hb=>h3 ?_)|refine zX (fun hb=>h3 ?_) (fun hb=>h1 ?_))<;>(clear h1 h3 K1 K3;(try have hb2:=yC hb);(try have hb2:=yD hb);(try have hb2:=yE hb);(try have hb2:=yF hb);(try have hb2:=yG hb)))|(refine fun (K2:_→AHeap→Prop) hK2=>?_)|((with_reducible refine zY ?_ ?_);decide)|((with_reducible first|refine zZ ?_ (fun K hK=>?_)|refine yA ?_ (fun K hK=>?_));(focus go_simp;done);go_simp;refine hK _ _ ?_;clear hK K)|(go_simp;(try go_bits);(try first | ((with_reducible show CallS _ _ _ _ _ _);refine CallS.mono (HQ9.out _) ?_; rintro _ _ ⟨rfl, h9⟩; rw [h9]; clear h9; go_simp));refine hK2 _ _ ?_;clear hK2 K2))
        refine ⟨CodeS.cut (fun f K => f.tmp 9 = .bool (!mb) ∧ Hid (Ext G K) ∧ f.tmp 7 = .int .i64 k ∧ f.tmp 6 = .slice va vn vn ∧ f.tmp 2 = .pointer (some ⟨H.n, 0, none⟩) ∧ f.tmp 3 = .pointer (some ⟨H.n + 1, 0, none⟩) ∧ f.tmp 4 = .pointer (some ⟨H.n + 1 + 1, 0, none⟩) ∧ f.defers = []) ?_ ?_⟩
        · rw [HMB.out, Bool.not_not]
          cases b1 <;> cases b2
          all_goals
            repeat' (first|(with_reducible first|refine zA ?_|refine zB fun K hK=>?_|refine zC fun K2 hK2=>?_|refine zD ?_|refine zE ?_|refine zF ?_|refine zG ?_|refine zH ?_|refine zI ?_|refine zM ?_|refine zN ?_|refine zO ?_|refine zP ?_|refine zQ ?_|refine zR ?_)|((with_reducible refine zU (hK _ _ ?_));clear hK K)|((with_reducible refine zV ?_ ?_ fun K1 K3 d hdst h1 h3=>?_);rfl;exact yB rfl;cases hdst;go_simp)|((with_reducible refine zW fun K1 K3 h1 h3=>?_);go_simp)|((first|refine h1 ?_|refine h3 ?_);clear h1 h3 K1 K3)|((first|refine zX (fun hb=>h1 ?_) (fun hb=>h3 ?_)|refine zX (fun hb=>h3 ?_) (fun hb=>h1 ?_))<;>(clear h1 h3 K1 K3;(try have hb2:=yC hb);(try have hb2:=yD hb);(try have hb2:=yE hb);(try have hb2:=yF hb);(try have hb2:=yG hb)))|(refine fun (K2:_→AHeap→Prop) hK2=>?_)|((with_reducible refine zY ?_ ?_);decide)|((with_reducible first|refine zZ ?_ (fun K hK=>?_)|refine yA ?_ (fun K hK=>?_));(focus go_simp;done);go_simp;refine hK _ _ ?_;clear hK K)|((with_reducible refine yH mixed rfl ?_ 20 fun K0 hK0=>?_);kernel_rfl)|(with_reducible first|exact yI|exact yJ|refine yK ?_|refine yL ?_|refine yM ?_)|((with_reducible first|refine yN ?_ ?_|refine yO ?_ ?_|refine yP ?_ ?_);rfl)|((with_reducible refine yQ ?_ ?_);rfl;refine hK0 _ _ ?_;clear hK0 K0)|((with_reducible refine yR ?_ ?_ ?_ ?_);rfl;rfl;rfl)|((with_reducible refine yS ?_ ?_ ?_ fun K2 hK2=>?_);rfl;rfl;exact yB rfl)|((with_reducible refine yT ?_ ?_ ?_ ?_ fun K1 K3 d hdst h1 h3=>?_);rfl;rfl;rfl;exact yB rfl;cases hdst;go_simp)|((with_reducible refine yU ?_ ?_ ?_ ?_ fun K1 K3 d hdst h1 h3=>?_);rfl;rfl;rfl;exact yB rfl;cases hdst;go_simp)|((with_reducible refine yV ?_ ?_ (fun K2 hK2=>?_) ?_);rfl;exact yB rfl)|((with_reducible refine yW ?_ ?_ ?_ ?_ (fun K2 hK2=>?_) ?_);rfl;exact yB rfl;rfl;(focus go_simp;done))|((with_reducible refine yX ?_ ?_ ?_ (fun K2 hK2=>?_) ?_);rfl;rfl;exact yB rfl)|((with_reducible refine yY ?_ ?_ (fun K2 hK2=>?_) ?_);rfl;rfl)|((with_reducible refine yZ ?_ ?_);(first|rfl|(dsimp only;decide +kernel)))|((with_reducible refine xA ?_ ?_);(focus go_simp;done))|(go_simp;(try go_bits);(try first | ((with_reducible refine CallS.mono (HFF.out _ _ _ HXA.out HSV.out rfl) ?_); rintro _ H4 ⟨ho, hx⟩; (obtain ⟨pa, pn, rfl⟩ := own_slice ho); (have HP4 := Lib.hid ho); (have HX4 : Hid (Ext G H4) := Lib.hid hx); (have cs4 := (HX4.out.cellsAt hj).trans hjc); (have cc4 := (HX4.out.cellsAt hn1G).trans hcG0); (have cz4 := (HX4.out.cellsAt hn0G).trans hsG0); (have nj4 := Nat.lt_of_lt_of_le hj HX4.out.n); (have n14 := Nat.lt_of_lt_of_le hn1G HX4.out.n); (have n04 := Nat.lt_of_lt_of_le hn0G HX4.out.n); clear ho hx; go_simp) | ((with_reducible refine CallS.mono (HF.out _ _ (HXA.out.trans HX4.out)) ?_); rintro _ H5 ⟨ho, hx⟩; (obtain ⟨qa, qn, rfl⟩ := own_slice ho); (have HQ5 := Lib.hid (ints_of_own ho HFLN.out)); (have HP5 := Lib.hid (ints_of_own (HP4.out.ext hx) HLEN.out.1)); (have HX5 : Hid (Ext G H5) := Lib.hid (HX4.out.trans hx)); (have cs5 := (HX5.out.cellsAt hj).trans hjc); (have cc5 := (HX5.out.cellsAt hn1G).trans hcG0); (have cz5 := (HX5.out.cellsAt hn0G).trans hsG0); (have nj5 := Nat.lt_of_lt_of_le hj HX5.out.n); (have n15 := Nat.lt_of_lt_of_le hn1G HX5.out.n); (have n05 := Nat.lt_of_lt_of_le hn0G HX5.out.n); clear ho hx; go_simp) | ((with_reducible refine CallS.mono (HS1.out _ _ _ _ HP5.out HQ5.out) ?_); rintro _ _ ⟨rfl, h9⟩; rw [h9]; clear h9; go_simp) | ((with_reducible refine CallS.mono (HGG.out _ _ _ (HXA.out.trans HX5.out) (HSV.out.ext HX5.out) rfl) ?_); rintro _ H6 ⟨ho, hx⟩; (obtain ⟨ra, rn, rfl⟩ := own_slice ho); (have HP6 := Lib.hid ho); (have HX6 : Hid (Ext G H6) := Lib.hid (HX5.out.trans hx)); (have cs6 := (HX6.out.cellsAt hj).trans hjc); (have cc6 := (HX6.out.cellsAt hn1G).trans hcG0); (have cz6 := (HX6.out.cellsAt hn0G).trans hsG0); (have nj6 := Nat.lt_of_lt_of_le hj HX6.out.n); (have n16 := Nat.lt_of_lt_of_le hn1G HX6.out.n); (have n06 := Nat.lt_of_lt_of_le hn0G HX6.out.n); clear ho hx; go_simp) | ((with_reducible refine CallS.mono (HL.out _ _ (HXA.out.trans HX6.out)) ?_); rintro _ H7 ⟨ho, hx⟩; (obtain ⟨ta, tn, rfl⟩ := own_slice ho); (have HQ7 := Lib.hid (ints_of_own ho HLLN.out)); (have HP7 := Lib.hid (ints_of_own (HP6.out.ext hx) HLEN.out.2)); (have HX7 : Hid (Ext G H7) := Lib.hid (HX6.out.trans hx)); (have cs7 := (HX7.out.cellsAt hj).trans hjc); (have cc7 := (HX7.out.cellsAt hn1G).trans hcG0); (have cz7 := (HX7.out.cellsAt hn0G).trans hsG0); (have nj7 := Nat.lt_of_lt_of_le hj HX7.out.n); (have n17 := Nat.lt_of_lt_of_le hn1G HX7.out.n); (have n07 := Nat.lt_of_lt_of_le hn0G HX7.out.n); clear ho hx; go_simp) | ((with_reducible refine CallS.mono (HS2.out _ _ _ _ HP7.out HQ7.out) ?_); rintro _ _ ⟨rfl, h9⟩; rw [h9]; clear h9; go_simp));(first|(refine hK2 _ _ ?_ ?_<;>clear hK2 K2)|(refine hK2 _ _ ?_;clear hK2 K2))))
          all_goals exact ⟨(by first|go_simp<;>go_num|assumption), HX7, (by first|go_simp<;>go_num|assumption), (by first|go_simp<;>go_num|assumption), (by first|go_simp<;>go_num|assumption), (by first|go_simp<;>go_num|assumption), (by first|go_simp<;>go_num|assumption), (by first|go_simp<;>go_num|assumption)⟩
        clear f8 f7 f6 f2 f3 f4 hd f HFF HGG HF HL HQ9 HS1 HS2 hjc hsG0 hcG0
        rintro f K ⟨f9, HXK, f7, f6, f2, f3, f4, hd⟩
        have hs1K : cellAt K H.n 1 = some (Value.slice (some ⟨b, o, sp⟩) s.alts.length ac) := ((HXG.out.trans HXK.out).cellAt hn0).trans hs1
        have hyK := ((HXG.out.trans HXK.out).cellAt hb1).trans hy1
        have hbK := Nat.lt_of_lt_of_le hb1 (HXG.out.trans HXK.out).n
        have hnK := Nat.lt_of_lt_of_le hn0 (HXG.out.trans HXK.out).n
        cases mb
        · repeat' (first|(with_reducible first|refine zA ?_|refine zB fun K hK=>?_|refine zC fun K2 hK2=>?_|refine zD ?_|refine zE ?_|refine zF ?_|refine zG ?_|refine zH ?_|refine zI ?_|refine zM ?_|refine zN ?_|refine zO ?_|refine zP ?_|refine zQ ?_|refine zR ?_)|((with_reducible refine zU (hK _ _ ?_));clear hK K)|((with_reducible refine zV ?_ ?_ fun K1 K3 d hdst h1 h3=>?_);rfl;exact yB rfl;cases hdst;go_simp)|((with_reducible refine zW fun K1 K3 h1 h3=>?_);go_simp)|((first|refine h1 ?_|refine h3 ?_);clear h1 h3 K1 K3)|((first|refine zX (fun hb=>h1 ?_) (fun hb=>h3 ?_)|refine zX (fun hb=>h3 ?_) (fun hb=>h1 ?_))<;>(clear h1 h3 K1 K3;(try have hb2:=yC hb);(try have hb2:=yD hb);(try have hb2:=yE hb);(try have hb2:=yF hb);(try have hb2:=yG hb)))|(refine fun (K2:_→AHeap→Prop) hK2=>?_)|((with_reducible refine zY ?_ ?_);decide)|((with_reducible first|refine zZ ?_ (fun K hK=>?_)|refine yA ?_ (fun K hK=>?_));(focus go_simp;done);go_simp;refine hK _ _ ?_;clear hK K)|(go_simp;(try go_bits);refine hK2 _ _ ?_;clear hK2 K2))
          refine Post.round_normal ⟨s.alts.length - (k + 1), by omega, k + 1, .slice va vn vn, by omega, rfl, (by first|go_simp<;>go_num|assumption), (by first|go_simp<;>go_num|assumption), (by first|go_simp<;>go_num|assumption), (by first|go_simp<;>go_num|assumption), (by first|go_simp<;>go_num|assumption), (by first|go_simp<;>go_num|assumption), Lib.hid (HY.out.trans (HXG.out.trans HXK.out)), Lib.hid ?_⟩
          rw [HT2.out, HTT.out, if_neg (by decide)]
          exact HO.out.ext (HXG.out.trans HXK.out)
        · repeat' (first|(with_reducible first|refine zA ?_|refine zB fun K hK=>?_|refine zC fun K2 hK2=>?_|refine zD ?_|refine zE ?_|refine zF ?_|refine zG ?_|refine zH ?_|refine zI ?_|refine zM ?_|refine zN ?_|refine zO ?_|refine zP ?_|refine zQ ?_|refine zR ?_)|((with_reducible refine zU (hK _ _ ?_));clear hK K)|((with_reducible refine zV ?_ ?_ fun K1 K3 d hdst h1 h3=>?_);rfl;exact yB rfl;cases hdst;go_simp)|((with_reducible refine zW fun K1 K3 h1 h3=>?_);go_simp)|((first|refine h1 ?_|refine h3 ?_);clear h1 h3 K1 K3)|((first|refine zX (fun hb=>h1 ?_) (fun hb=>h3 ?_)|refine zX (fun hb=>h3 ?_) (fun hb=>h1 ?_))<;>(clear h1 h3 K1 K3;(try have hb2:=yC hb);(try have hb2:=yD hb);(try have hb2:=yE hb);(try have hb2:=yF hb);(try have hb2:=yG hb)))|(refine fun (K2:_→AHeap→Prop) hK2=>?_)|((with_reducible refine zY ?_ ?_);decide)|((with_reducible first|refine zZ ?_ (fun K hK=>?_)|refine yA ?_ (fun K hK=>?_));(focus go_simp;done);go_simp;refine hK _ _ ?_;clear hK K)|(go_simp;(try go_bits);(try first | ((with_reducible show CallS _ _ _ _ _ _);refine CallS.mono (insert_o (HO.out.ext (HXG.out.trans HXK.out)) HLL2.out) ?_; rintro _ H9 ⟨ho, hx⟩; (obtain ⟨ra9, rn9, rfl⟩ := own_slice ho); (have HR9 := Lib.hid ho); (have HX9 := Lib.hid (HXK.out.trans hx)); clear ho hx; go_simp));refine hK2 _ _ ?_;clear hK2 K2))
          refine Post.round_normal ⟨s.alts.length - (k + 1), by omega, k + 1, .slice ra9 rn9 rn9, by omega, rfl, (by first|go_simp<;>go_num|assumption), (by first|go_simp<;>go_num|assumption), (by first|go_simp<;>go_num|assumption), (by first|go_simp<;>go_num|assumption), (by first|go_simp<;>go_num|assumption), (by first|go_simp<;>go_num|assumption), Lib.hid (HY.out.trans (HXG.out.trans HX9.out)), Lib.hid ?_⟩
          rw [HT2.out, HTT.out, if_pos rfl]
          exact HR9.out.mono (by have := (HXG.out.trans HXK.out).n; omega)
      · have hmb : mb = true := by rw [HEL.out]; simp [hez]
        subst hmb
        have heb : (e2 == 0) = false := by simpa using hez
        have HXK := Lib.hid (Ext.refl G)
        have hs1K : cellAt G H.n 1 = some (Value.slice (some ⟨b, o, sp⟩) s.alts.length ac) := (HXG.out.cellAt hn0).trans hs1
        have hyK := (HXG.out.cellAt hb1).trans hy1
        have hbK := Nat.lt_of_lt_of_le hb1 HXG.out.n
        clear HFF HGG HF HL HEL
        repeat' (first|(with_reducible first|refine zA ?_|refine zB fun K hK=>?_|refine zC fun K2 hK2=>?_|refine zD ?_|refine zE ?_|refine zF ?_|refine zG ?_|refine zH ?_|refine zI ?_|refine zM ?_|refine zN ?_|refine zO ?_|refine zP ?_|refine zQ ?_|refine zR ?_)|((with_reducible refine zU (hK _ _ ?_));clear hK K)|((with_reducible refine zV ?_ ?_ fun K1 K3 d hdst h1 h3=>?_);rfl;exact yB rfl;cases hdst;go_simp)|((with_reducible refine zW fun K1 K3 h1 h3=>?_);go_simp)|((first|refine h1 ?_|refine h3 ?_);clear h1 h3 K1 K3)|((first|refine zX (fun hb=>h1 ?_) (fun hb=>h3 ?_)|refine zX (fun hb=>h3 ?_) (fun hb=>h1 ?_))<;>(clear h1 h3 K1 K3;(try have hb2:=yC hb);(try have hb2:=yD hb);(try have hb2:=yE hb);(try have hb2:=yF hb);(try have hb2:=yG hb)))|(refine fun (K2:_→AHeap→Prop) hK2=>?_)|((with_reducible refine zY ?_ ?_);decide)|((with_reducible first|refine zZ ?_ (fun K hK=>?_)|refine yA ?_ (fun K hK=>?_));(focus go_simp;done);go_simp;refine hK _ _ ?_;clear hK K)|(go_simp;(try go_bits);(try first |((with_reducible show CallS _ _ _ _ _ _);first|(refine CallS.mono (HQ9.out _) ?_; rintro _ _ ⟨rfl, h9⟩; rw [h9]; clear h9; go_simp)|(refine CallS.mono (insert_o (HO.out.ext (HXG.out.trans HXK.out)) HLL2.out) ?_; rintro _ H9 ⟨ho, hx⟩; (obtain ⟨ra9, rn9, rfl⟩ := own_slice ho); (have HR9 := Lib.hid ho); (have HX9 := Lib.hid (HXK.out.trans hx)); clear ho hx; go_simp)));refine hK2 _ _ ?_;clear hK2 K2))
        refine Post.round_normal ⟨s.alts.length - (k + 1), by omega, k + 1, .slice ra9 rn9 rn9, by omega, rfl, (by first|go_simp<;>go_num|assumption), (by first|go_simp<;>go_num|assumption), (by first|go_simp<;>go_num|assumption), (by first|go_simp<;>go_num|assumption), (by first|go_simp<;>go_num|assumption), (by first|go_simp<;>go_num|assumption), Lib.hid (HY.out.trans (HXG.out.trans HX9.out)), Lib.hid ?_⟩
        rw [HT2.out, HTT.out, if_pos rfl]
        exact HR9.out.mono (by have := (HXG.out.trans HXK.out).n; omega)
    · have hke : k = s.alts.length := by omega
      subst hke
      repeat' (first|(with_reducible first|refine zA ?_|refine zB fun K hK=>?_|refine zC fun K2 hK2=>?_|refine zD ?_|refine zE ?_|refine zF ?_|refine zG ?_|refine zH ?_|refine zI ?_|refine zM ?_|refine zN ?_|refine zO ?_|refine zP ?_|refine zQ ?_|refine zR ?_)|((with_reducible refine zU (hK _ _ ?_));clear hK K)|((with_reducible refine zV ?_ ?_ fun K1 K3 d hdst h1 h3=>?_);rfl;exact yB rfl;cases hdst;go_simp)|((with_reducible refine zW fun K1 K3 h1 h3=>?_);go_simp)|((first|refine h1 ?_|refine h3 ?_);clear h1 h3 K1 K3)|((first|refine zX (fun hb=>h1 ?_) (fun hb=>h3 ?_)|refine zX (fun hb=>h3 ?_) (fun hb=>h1 ?_))<;>(clear h1 h3 K1 K3;(try have hb2:=yC hb);(try have hb2:=yD hb);(try have hb2:=yE hb);(try have hb2:=yF hb);(try have hb2:=yG hb)))|(refine fun (K2:_→AHeap→Prop) hK2=>?_)|((with_reducible refine zY ?_ ?_);decide)|((with_reducible first|refine zZ ?_ (fun K hK=>?_)|refine yA ?_ (fun K hK=>?_));(focus go_simp;done);go_simp;refine hK _ _ ?_;clear hK K)|(go_simp;(try go_bits);refine hK2 _ _ ?_;clear hK2 K2))
      have HO2 := HO.out
      rw [idsT_all] at HO2
      have h12 : (idsL s (restAt s c)).length ≤ 40 := by
        have := idsT_len s (restAt s c) s.alts.length
        rw [idsT_all] at this; omega
      exact ⟨⟨_, rfl, ints_of_own (own_upd HO2 (by omega)) (by omega)⟩, HXX.out.upd (by omega) _⟩
  · have hSL : restL s c = [] := by rw [restL, if_neg he]
    rw [hSL]
    have heb : (errExt s c != 0) = true := by simpa using he
    repeat' (first|(with_reducible first|refine zA ?_|refine zB fun K hK=>?_|refine zC fun K2 hK2=>?_|refine zD ?_|refine zE ?_|refine zF ?_|refine zG ?_|refine zH ?_|refine zI ?_|refine zM ?_|refine zN ?_|refine zO ?_|refine zP ?_|refine zQ ?_|refine zR ?_)|((with_reducible refine zU (hK _ _ ?_));clear hK K)|((with_reducible refine zV ?_ ?_ fun K1 K3 d hdst h1 h3=>?_);rfl;exact yB rfl;cases hdst;go_simp)|((with_reducible refine zW fun K1 K3 h1 h3=>?_);go_simp)|((first|refine h1 ?_|refine h3 ?_);clear h1 h3 K1 K3)|((first|refine zX (fun hb=>h1 ?_) (fun hb=>h3 ?_)|refine zX (fun hb=>h3 ?_) (fun hb=>h1 ?_))<;>(clear h1 h3 K1 K3;(try have hb2:=yC hb);(try have hb2:=yD hb);(try have hb2:=yE hb);(try have hb2:=yF hb);(try have hb2:=yG hb)))|(refine fun (K2:_→AHeap→Prop) hK2=>?_)|((with_reducible refine zY ?_ ?_);decide)|((with_reducible first|refine zZ ?_ (fun K hK=>?_)|refine yA ?_ (fun K hK=>?_));(focus go_simp;done);go_simp;refine hK _ _ ?_;clear hK K)|(go_simp;(try go_bits);(try first | ((with_reducible show CallS _ _ _ _ _ _);refine CallS.mono (HCO.out _) ?_; rintro _ _ ⟨rfl, h9⟩; rw [h9]; clear h9; go_simp));refine hK2 _ _ ?_;clear hK2 K2))
    exact ⟨⟨_, rfl, ints_nil' _⟩, ((Ext.refl _).push' _).push' _ |>.push' _⟩
end Go.Proofs.Tryz
namespace Go.Proofs.Tryz
open Go Go.Am Go.RowKit Go.Co
set_option maxRecDepth 100000

set_option maxHeartbeats 8000000 in
theorem law5 {H : AHeap} {sv cv : Value} {s : Sheet} {c : Copy} (hv : SheetV H sv s) (hc : CopyV H cv c) : CallS Tryz.prog [] 5 [sv, cv] H fun r _ => r = .bool true := by
  have HV := Lib.hid hv
  have HC := Lib.hid hc
  obtain ⟨wv, av, rfl, hw, ha⟩ := hv
  obtain ⟨hwl, wa, wc, rfl⟩ := hw.slice
  obtain ⟨hal, aa, ac, rfl⟩ := ha.slice
  obtain ⟨cv, rfl, hcw⟩ := hc
  obtain ⟨hcl, ca, cc, rfl⟩ := hcw.slice
  clear hw ha hcw
  have HX1 : Hid (Ext H ((H.push (.row [Value.slice wa s.words.length wc, Value.slice aa s.alts.length ac] 25)).push (.row [Value.slice ca c.words.length cc, .int .i64 c.beg, .int .i64 c.fin, .int .i64 c.per] 27))) := Lib.hid (((Ext.refl _).push' _).push' _)
  have HF1 := Lib.hid (fun (loops : List (Nat × LInfo)) (G : AHeap) (hx : Ext H G) (hf : fewB s = true) => suspects_e (loops := loops) (HV.out.ext hx) (HC.out.ext hx) (fun h => few_alts hf (errCopy_ok h).1))
  have HF2 := Lib.hid (fun (loops : List (Nat × LInfo)) (G : AHeap) (hx : Ext H G) => refSusp_f (loops := loops) (HV.out.ext hx) (HC.out.ext hx))
  have HL1 := Lib.hid (fun (loops : List (Nat × LInfo)) (G : AHeap) (hx : Ext H G) (hf : fewB s = true) => rests_e (loops := loops) (HV.out.ext hx) (HC.out.ext hx) (fun h => few_alts hf (errCopy_ok (ends_n h).1).1))
  have HL2 := Lib.hid (fun (loops : List (Nat × LInfo)) (G : AHeap) (hx : Ext H G) => refRests_f (loops := loops) (HV.out.ext hx) (HC.out.ext hx))
  generalize hfw : fewB s = fw at HF1 HL1
  have HFW := Lib.hid hfw
  clear hfw
  generalize suspL s c = F at HF1 HF2
  generalize restL s c = L at HL1 HL2
  generalize errCopy s c = e1 at HF1 HF2
  generalize errExt s c = e at HL1 HL2
  have HCELLS : Hid (∀ G : AHeap, Ext ((H.push (.row [Value.slice wa s.words.length wc, Value.slice aa s.alts.length ac] 25)).push (.row [Value.slice ca c.words.length cc, .int .i64 c.beg, .int .i64 c.fin, .int .i64 c.per] 27)) G → cellsAt G H.n 0 2 = some [Value.slice wa s.words.length wc, Value.slice aa s.alts.length ac] ∧ cellsAt G (H.n + 1) 0 4 = some [Value.slice ca c.words.length cc, .int .i64 c.beg, .int .i64 c.fin, .int .i64 c.per] ∧ H.n + 1 < G.n ∧ H.n < G.n) := Lib.hid (fun G hx => by
    refine ⟨?_, ?_, ?_, ?_⟩
    · rw [hx.cellsAt (by simp only [AHeap.n_push]; omega), cellsAt_push, if_neg (by simp only [AHeap.n_push]; omega), cellsAt_push, if_pos rfl]; rfl
    · rw [hx.cellsAt (by simp only [AHeap.n_push]; omega), cellsAt_push, if_pos (by simp only [AHeap.n_push])]; rfl
    · have := hx.n; simp only [AHeap.n_push] at this; omega
    · have := hx.n; simp only [AHeap.n_push] at this; omega)
  refine CallS.enter' Tryz.func5 rfl Tryz.ntmps5 (by simp) fun f hd hf => ?_
  have f0 := hf 0
  have f1 := hf 1
  simp at f0 f1
  clear hf
  repeat' (first|(with_reducible first|refine zA ?_|refine zB fun K hK=>?_|refine zC fun K2 hK2=>?_|refine zD ?_|refine zE ?_|refine zF ?_|refine zG ?_|refine zH ?_|refine zI ?_|refine zM ?_|refine zN ?_|refine zO ?_|refine zP ?_|refine zQ ?_|refine zR ?_)|((with_reducible refine zU (hK _ _ ?_));clear hK K)|((with_reducible refine zV ?_ ?_ fun K1 K3 d hdst h1 h3=>?_);rfl;exact yB rfl;cases hdst;go_simp)|((with_reducible refine zW fun K1 K3 h1 h3=>?_);go_simp)|((first|refine h1 ?_|refine h3 ?_);clear h1 h3 K1 K3)|((first|refine zX (fun hb=>h1 ?_) (fun hb=>h3 ?_)|refine zX (fun hb=>h3 ?_) (fun hb=>h1 ?_))<;>(clear h1 h3 K1 K3;(try have hb2:=yC hb);(try have hb2:=yD hb);(try have hb2:=yE hb);(try have hb2:=yF hb);(try have hb2:=yG hb)))|(refine fun (K2:_→AHeap→Prop) hK2=>?_)|((with_reducible refine zY ?_ ?_);decide)|((with_reducible first|refine zZ ?_ (fun K hK=>?_)|refine yA ?_ (fun K hK=>?_));(focus go_simp;done);go_simp;refine hK _ _ ?_;clear hK K)|(go_simp;(try go_bits);(try first |((with_reducible show CallS _ _ _ _ _ _);first|(refine CallS.mono head_s ?_; rintro _ _ ⟨rfl, h9⟩; rw [h9]; clear h9; go_simp)|(refine CallS.mono (few_s (s := s) (HV.out.ext HX1.out)) ?_; rintro _ _ ⟨rfl, h9⟩; rw [h9, HFW.out]; clear h9; go_simp)|(refine CallS.mono (brief_s (c := c) (HC.out.ext HX1.out)) ?_; rintro _ _ ⟨rfl, h9⟩; rw [h9]; clear h9; go_simp)|(refine CallS.mono (HF1.out _ _ HX1.out (by simpa using ‹(!fw) = false›)) ?_; rintro _ H2 ⟨⟨fv, rfl, hi⟩, hx⟩; (obtain ⟨-, fa, fc, rfl⟩ := hi.slice); (have HI1 := Lib.hid hi); (have HX2 := Lib.hid hx); (obtain ⟨dk0, dk1, dk2, dk3⟩ := HCELLS.out _ hx); clear hi hx; go_simp)|(refine CallS.mono (HF2.out _ _ (HX1.out.trans HX2.out)) ?_; rintro _ H3 ⟨⟨fv, rfl, hi⟩, hx⟩; (obtain ⟨-, fa2, fc2, rfl⟩ := hi.slice); (have HI2 := Lib.hid (hi.ext (Ext.push (.row [.slice fa2 F.length fc2, .int .i64 e1] 37)))); (have HI12 := Lib.hid (HI1.out.ext (hx.push' (.row [.slice fa2 F.length fc2, .int .i64 e1] 37)))); (have HX3 := Lib.hid ((HX2.out.trans hx).push' (.row [.slice fa2 F.length fc2, .int .i64 e1] 37))); (obtain ⟨ek0, ek1, ek2, ek3⟩ := HCELLS.out _ (HX2.out.trans hx)); clear hi hx; go_simp)|(refine CallS.mono (HL1.out _ _ (HX1.out.trans HX3.out) (by simpa using ‹(!fw) = false›)) ?_; rintro _ H4 ⟨⟨fv, rfl, hi⟩, hx⟩; (obtain ⟨-, la, lc, rfl⟩ := hi.slice); (have HJ1 := Lib.hid hi); (have HI3 := Lib.hid (HI2.out.ext hx)); (have HI13 := Lib.hid (HI12.out.ext hx)); (have HX4 := Lib.hid (HX3.out.trans hx)); (obtain ⟨gk0, gk1, gk2, gk3⟩ := HCELLS.out _ HX4.out); (have hr4 : H4.get H3.n = .row [.slice fa2 F.length fc2, .int .i64 e1] 37 := (hx.get _ (by rw [AHeap.n_push]; omega)).trans AHeap.get_push_new); (have hn4 : H3.n < H4.n := by have := hx.n; rw [AHeap.n_push] at this; omega); clear hi hx; go_simp)|(refine CallS.mono (HL2.out _ _ (HX1.out.trans HX4.out)) ?_; rintro _ H5 ⟨⟨fv, rfl, hi⟩, hx⟩; (obtain ⟨-, la2, lc2, rfl⟩ := hi.slice); (have HJ2 := Lib.hid (hi.ext (Ext.push (.row [.slice la2 L.length lc2, .int .i64 e] 37)))); (have HJ12 := Lib.hid (HJ1.out.ext (hx.push' (.row [.slice la2 L.length lc2, .int .i64 e] 37)))); (have HI5 := Lib.hid (HI3.out.ext (hx.push' (.row [.slice la2 L.length lc2, .int .i64 e] 37)))); (have HI15 := Lib.hid (HI13.out.ext (hx.push' (.row [.slice la2 L.length lc2, .int .i64 e] 37)))); (have hq0 : cellAt H5 H3.n 0 = some (.slice fa2 F.length fc2) := by rw [hx.cellAt hn4]; simp [cellAt, hr4]); (have hq1 : cellAt H5 H3.n 1 = some (.int .i64 e1) := by rw [hx.cellAt hn4]; simp [cellAt, hr4]); (have hn5 : H3.n < H5.n := by have := hx.n; omega); clear hi hx; go_simp)|(refine CallS.mono (sameInts_s (xs := F) (ys := F) HI15.out HI5.out) ?_; rintro _ _ ⟨rfl, h9⟩; rw [h9]; clear h9; go_simp)|(refine CallS.mono (sameInts_s (xs := L) (ys := L) HJ12.out HJ2.out) ?_; rintro _ _ ⟨rfl, h9⟩; rw [h9]; clear h9; go_simp))|((refine eqlB_k (by first | (go_simp; done) | (go_simp; rfl)) (by first | (go_simp; done) | (go_simp; rfl)) ?_); go_simp));refine hK2 _ _ ?_;clear hK2 K2))
  all_goals rfl
end Go.Proofs.Tryz
namespace Go.Proofs.Tryz
open Go.ChangeShapes Go.WideShapes Go.ChangeAt Go.RowKit Go.Joins Go.Deep Go.Am
set_option maxRecDepth 100000


section
variable {H : Type} {enc : TypeId × Value → H} {P : Program} {w : World} {base : Nat} {spare : Nat → Bool} {held : Bool}
theorem open_slice_fields {t e : TypeId} {fs : Array Field} {fuel : Nat} {cs : List Value} {x : DataW H × List MemPlace} (ht : P.underlying t = some (.slice e)) (he : P.underlying e = some (.struct fs))
    (hone : oneCellFields P fs = true) (hC : P.cellsOf e = fs.size) (h : DataW.trod enc P w base spare held fuel t cs = some x) :
    (cs = [.slice none 0 0] ∧ x = (.nil, [])) ∨
    ∃ (a : Addr) (len cap m : Nat) (D : Nat → DataW H) (Pl : Nat → List MemPlace), cs = [.slice (some a) len cap] ∧ base ≤ a.block ∧ len ≤ cap ∧ cap ≤ maxLen ∧ m = (if spare a.block then cap else len) ∧
      x = (.slice ((List.range len).map D) ((List.range (m - len)).map fun j => D (len + j)), MemPlace.row a (m * fs.size) ++ (List.range m).flatMap Pl) ∧
      ∀ i, i < m → ∃ (ys : List (DataW H × List MemPlace)) (n : Nat), D i = .agg (ys.map (·.1)) ∧ Pl i = ys.flatMap (·.2) ∧ ys.length = fs.size ∧
        ∀ (j : Nat) (f : Field), fs[j]? = some f → ∃ (v : Value) (y : DataW H × List MemPlace), w.cell? (a.add (i * fs.size + j)) = some v ∧ ys[j]? = some y ∧ DataW.trod enc P w base spare held n f.type [v] = some y := by
  rcases open_slice ht h with h0 | ⟨a, len, cap, m, n, D, Pl, hcs, hb, hl, hm, hmm, hx, hi⟩
  · exact .inl h0
  · refine .inr ⟨a, len, cap, m, D, Pl, hcs, hb, hl, hm, hmm, by rw [hC] at hx; exact hx, fun i him => ?_⟩
    obtain ⟨cs', hc, ht'⟩ := hi i him
    rw [hC] at hc
    obtain ⟨ys, n', hn', hy, hlen, hyl, hf⟩ := DataW.trod_struct he ht'
    obtain ⟨_, hcl, hat⟩ := World.cells?_some hc
    simp only [Prod.mk.injEq] at hy
    refine ⟨ys, n', hy.1, hy.2, hyl, fun j f hj => ?_⟩
    obtain ⟨ho, hk⟩ := hone_of hone j f hj
    have hjl : j < fs.size := (Array.getElem?_eq_some_iff.1 hj).1
    have hcell := hat j hjl
    have hv : cs'[j]? = some (cs'[j]'(by omega)) := List.getElem?_eq_getElem (by omega)
    have h1 := hf j f hj
    rw [ho, hk] at h1
    have hone' : (cs'.drop j).take 1 = [cs'[j]'(by omega)] := by
      rw [List.drop_eq_getElem_cons (by omega)]
      rfl
    rw [hone'] at h1
    have hys : ys[j]? = some (ys[j]'(by omega)) := List.getElem?_eq_getElem (by omega)
    refine ⟨_, _, ?_, hys, h1.trans hys⟩
    rw [← Go.Deep.add_add, hcell, hv]
end
theorem add_at (b o j : Nat) : (⟨b, o, none⟩ : Addr).add j = ⟨b, o + j, none⟩ := by
  unfold Addr.add
  split
  · rename_i h; subst h; rfl
  · rfl
theorem cell_lt {w : World} {p : Addr} {v : Value} (h : w.cell? p = some v) : p.block < w.heap.size := by
  rcases Nat.lt_or_ge p.block w.heap.size with hlt | hge
  · exact hlt
  · unfold World.cell? at h
    rw [Array.getElem?_eq_none hge] at h
    cases h
theorem cell_spot {w : World} {p : Addr} {v : Value} (h : w.cell? p = some v) : p.spot = none := by
  unfold World.cell? at h
  split at h
  · split at h
    · cases h
    · rename_i h0; simpa using h0
  · cases h

theorem slice_abs {w : World} {a : Addr} {len cap size d : Nat} {us : List Value} (hl : len ≤ cap) (hc : len ≤ 9223372036854775807) (hus : us.length = len * size) (hsz : 0 < size) (hplain : ∀ (j : Nat) (u : Value), us[j]? = some u → absV w.heap.size 8 u = u) (hcell : ∀ (j : Nat) (u : Value), us[j]? = some u → w.cell? (a.add j) = some u) : Cells (absH w) (absV w.heap.size (d + 1) (.slice (some a) len cap)) size len us := by
  by_cases h0 : len = 0
  · subst h0
    simp only [absV]
    split
    · exact ⟨hus, hc, _, _, rfl, by omega⟩
    · rw [if_pos trivial]; exact ⟨hus, hc, _, _, rfl, by omega⟩
  · have hpos : 0 < us.length := by rw [hus]; exact Nat.mul_pos (by omega) hsz
    have h1 := hcell 0 _ (List.getElem?_eq_getElem hpos)
    have e0 : a.add 0 = a := by unfold Addr.add; rw [if_pos rfl]
    rw [e0] at h1
    have hsp := cell_spot h1
    have hlt := cell_lt h1
    obtain ⟨b, o, sp⟩ := a
    simp only at hsp hlt
    subst hsp
    simp only [absV]
    rw [if_pos ⟨trivial, hlt, hl⟩]
    refine ⟨hus, hc, _, _, rfl, fun _ => ⟨b, o, none, rfl, by rw [absH_n]; exact hlt, fun j u hu => ?_⟩⟩
    have h2 := hcell j u hu
    rw [add_at] at h2
    rw [abs_cell h2, hplain j u hu]

section
variable {H : Type} {enc : TypeId × Value → H} {w : World}
theorem ints_abs {fuel d : Nat} {v : Value} {x : DataW H × List MemPlace} (h : DataW.trod enc Tryz.prog w 0 (fun _ => true) true fuel 22 [v] = some x) : ∃ xs, Ints (absH w) (absV w.heap.size (d + 1) v) xs := by
  rcases open_ints Tryz.underlying22 Tryz.underlying3 (by kernel_rfl) h with ⟨hcs, _⟩ | ⟨a, l, c, zs, hcs, _, hl, hm, hz, _, hcell, _⟩
  · injection hcs with hcs _
    subst hcs
    exact ⟨[], rfl, by simp, none, 0, rfl, by simp⟩
  · injection hcs with hcs _
    subst hcs
    simp only [if_true] at hz
    have hlen : (zs.take l).length = l := by rw [List.length_take]; omega
    refine ⟨zs.take l, ?_⟩
    unfold Ints
    rw [hlen]
    refine slice_abs hl (by unfold maxLen at hm; omega) (by rw [List.length_map, hlen]; omega) (by decide) (fun j u hu => ?_) (fun j u hu => ?_)
    · rw [List.getElem?_map] at hu
      obtain ⟨z, _, rfl⟩ := Option.map_eq_some_iff.1 hu
      rfl
    · rw [List.getElem?_map] at hu
      obtain ⟨z, hz1, rfl⟩ := Option.map_eq_some_iff.1 hu
      rw [List.getElem?_take] at hz1
      split at hz1
      · have hj : j < zs.length := (List.getElem?_eq_some_iff.1 hz1).1
        rw [hcell j hj, List.getD_eq_getElem?_getD, hz1]
        rfl
      · cases hz1

theorem alts_abs {fuel d : Nat} {v : Value} {x : DataW H × List MemPlace} (h : DataW.trod enc Tryz.prog w 0 (fun _ => true) true fuel 23 [v] = some x) : ∃ l, Alts (absH w) (absV w.heap.size (d + 1) v) l := by
  rcases open_slice_fields Tryz.underlying23 Tryz.underlying58 (by kernel_rfl) (by kernel_rfl) h with ⟨hcs, _⟩ | ⟨a, len, cap, m, D, Pl, hcs, _, hl, hm, hmm, _, hf⟩
  · injection hcs with hcs _
    subst hcs
    exact ⟨[], rfl, by simp, none, 0, rfl, by simp⟩
  · injection hcs with hcs _
    subst hcs
    simp only [if_true] at hmm
    have hq : ∀ i, i < len → ∃ q : Alt, ∀ j u, q.cells[j]? = some u → w.cell? (a.add (i * 6 + j)) = some u := by
      intro i hi
      obtain ⟨ys, n, _, _, _, hj⟩ := hf i (by omega)
      obtain ⟨v0, y0, hc0, _, ht0⟩ := hj 0 _ rfl
      obtain ⟨v1, y1, hc1, _, ht1⟩ := hj 1 _ rfl
      obtain ⟨v2, y2, hc2, _, ht2⟩ := hj 2 _ rfl
      obtain ⟨v3, y3, hc3, _, ht3⟩ := hj 3 _ rfl
      obtain ⟨v4, y4, hc4, _, ht4⟩ := hj 4 _ rfl
      obtain ⟨v5, y5, hc5, _, ht5⟩ := hj 5 _ rfl
      obtain ⟨z0, hz0, _, _⟩ := DataW.trod_int Tryz.underlying3 ht0
      obtain ⟨z1, hz1, _, _⟩ := DataW.trod_int Tryz.underlying3 ht1
      obtain ⟨z2, hz2, _, _⟩ := DataW.trod_int Tryz.underlying3 ht2
      obtain ⟨z3, hz3, _, _⟩ := DataW.trod_int Tryz.underlying3 ht3
      obtain ⟨z4, hz4, _, _⟩ := DataW.trod_int Tryz.underlying3 ht4
      obtain ⟨z5, hz5, _, _⟩ := DataW.trod_int Tryz.underlying3 ht5
      injection hz0 with hz0 _
      injection hz1 with hz1 _
      injection hz2 with hz2 _
      injection hz3 with hz3 _
      injection hz4 with hz4 _
      injection hz5 with hz5 _
      subst hz0 hz1 hz2 hz3 hz4 hz5
      refine ⟨⟨z0, z1, z2, z3, z4, z5⟩, fun j u hu => ?_⟩
      match j, hu with
      | 0, hu => cases hu; exact hc0
      | 1, hu => cases hu; exact hc1
      | 2, hu => cases hu; exact hc2
      | 3, hu => cases hu; exact hc3
      | 4, hu => cases hu; exact hc4
      | 5, hu => cases hu; exact hc5
      | j + 6, hu => simp [Alt.cells] at hu
    obtain ⟨f, hf'⟩ := Classical.skolem.1 (fun i => show ∃ q : Alt, i < len → ∀ j u, q.cells[j]? = some u → w.cell? (a.add (i * 6 + j)) = some u by
      by_cases hi : i < len
      · obtain ⟨q, hq⟩ := hq i hi; exact ⟨q, fun _ => hq⟩
      · exact ⟨⟨0, 0, 0, 0, 0, 0⟩, fun h => absurd h hi⟩)
    have hlen : ((List.range len).map f).length = len := by simp
    refine ⟨(List.range len).map f, ?_⟩
    unfold Alts
    rw [hlen]
    have hget : ∀ j u, (altCells ((List.range len).map f))[j]? = some u → ∃ k i, k < len ∧ j = k * 6 + i ∧ (f k).cells[i]? = some u := by
      intro j u hu
      have hj : j < len * 6 := by
        have := (List.getElem?_eq_some_iff.1 hu).1
        rw [altCells_length, hlen] at this; exact this
      have hk : j / 6 < len := by omega
      have hi : j % 6 < 6 := Nat.mod_lt _ (by decide)
      have hcl : (f (j / 6)).cells.length = 6 := rfl
      have h1 := altCells_get ((List.range len).map f) (j / 6) (by rw [hlen]; exact hk) (j % 6) ((f (j / 6)).cells[j % 6]'(by rw [hcl]; exact hi)) (by simp)
      have e : j / 6 * 6 + j % 6 = j := by omega
      rw [e, hu] at h1
      refine ⟨j / 6, j % 6, hk, e.symm, ?_⟩
      rw [List.getElem?_eq_getElem (by rw [hcl]; exact hi)]
      exact h1.symm ▸ rfl
    refine slice_abs hl (by unfold maxLen at hm; omega) (by rw [altCells_length, hlen]) (by decide) (fun j u hu => ?_) (fun j u hu => ?_)
    · obtain ⟨k, i, hk, rfl, hi⟩ := hget j u hu
      match i, hi with
      | 0, hi => cases hi; rfl
      | 1, hi => cases hi; rfl
      | 2, hi => cases hi; rfl
      | 3, hi => cases hi; rfl
      | 4, hi => cases hi; rfl
      | 5, hi => cases hi; rfl
      | i + 6, hi => simp [Alt.cells] at hi
    · obtain ⟨k, i, hk, rfl, hi⟩ := hget j u hu
      exact hf' k hk i u hi
end

theorem ownOne : ownKnob Tryz.prog.godebug = none := by kernel_rfl
theorem laidOut : laidOutB Tryz.prog = true := by kernel_rfl

theorem fields25 : ∃ f0 f1 : Field, Tryz.prog.underlying 25 = some (.struct #[f0, f1]) ∧ f0.type = 22 ∧ f1.type = 23 ∧ f0.offset = 0 ∧ f1.offset = 1 ∧ Tryz.prog.cellsOf 22 = 1 ∧ Tryz.prog.cellsOf 23 = 1 ∧ Tryz.prog.cellsOf 25 = 2 :=
  ⟨(fieldOf Tryz.prog 25 0).getD default, (fieldOf Tryz.prog 25 1).getD default, by kernel_rfl, by kernel_rfl, by kernel_rfl, by kernel_rfl, by kernel_rfl, by kernel_rfl, by kernel_rfl, by kernel_rfl⟩

section
variable {H : Type} {enc : TypeId × Value → H} {w : World}
theorem sheet_abs {r : Reach} {b0 : Nat} {v : Value} {d : DataW H} {p : List MemPlace} (hval : Value.okWide Tryz.prog w r b0 25 v) (h : DataW.Trod enc Tryz.prog w 0 (fun _ => true) true 25 v d p) : ∃ s, SheetV (absH w) (absV w.heap.size 8 v) s := by
  obtain ⟨f0, f1, hu, h0, h1, h2, h3, h4, h5, h6⟩ := fields25
  obtain ⟨cs, rfl, hcs⟩ := okWide_struct hu hval
  obtain ⟨fuel, hf⟩ := h
  obtain ⟨y0, y1, n, _, _, ht0, ht1⟩ := trod_struct2 hu hf
  rw [h6] at hcs
  obtain ⟨a, b, rfl⟩ : ∃ a b, cs = #[a, b] := by
    obtain ⟨l⟩ := cs
    match l, hcs with
    | [a, b], _ => exact ⟨a, b, rfl⟩
  rw [h0, h2, h4] at ht0
  rw [h1, h3, h5] at ht1
  obtain ⟨xs, hx⟩ := ints_abs (d := 6) (v := a) (by simpa [Value.cells] using ht0)
  obtain ⟨l, hl⟩ := alts_abs (d := 6) (v := b) (by simpa [Value.cells] using ht1)
  exact ⟨⟨xs, l⟩, _, _, by simp [absV], hx, hl⟩
end

theorem fields27 : ∃ f0 f1 f2 f3 : Field, Tryz.prog.underlying 27 = some (.struct #[f0, f1, f2, f3]) ∧ (f0.type = 22 ∧ f1.type = 3 ∧ f2.type = 3 ∧ f3.type = 3) ∧ (f0.offset = 0 ∧ f1.offset = 1 ∧ f2.offset = 2 ∧ f3.offset = 3) ∧ Tryz.prog.cellsOf 22 = 1 ∧ Tryz.prog.cellsOf 3 = 1 ∧ Tryz.prog.cellsOf 27 = 4 :=
  ⟨(fieldOf Tryz.prog 27 0).getD default, (fieldOf Tryz.prog 27 1).getD default, (fieldOf Tryz.prog 27 2).getD default, (fieldOf Tryz.prog 27 3).getD default, by kernel_rfl, by refine ⟨?_, ?_, ?_, ?_⟩ <;> kernel_rfl, by refine ⟨?_, ?_, ?_, ?_⟩ <;> kernel_rfl, by kernel_rfl, by kernel_rfl, by kernel_rfl⟩
section
variable {H : Type} {enc : TypeId × Value → H} {w : World}
theorem copy_abs {r : Reach} {b0 : Nat} {v : Value} {d : DataW H} {p : List MemPlace} (hval : Value.okWide Tryz.prog w r b0 27 v) (h : DataW.Trod enc Tryz.prog w 0 (fun _ => true) true 27 v d p) : ∃ c, CopyV (absH w) (absV w.heap.size 8 v) c := by
  obtain ⟨f0, f1, f2, f3, hu, ⟨t0, t1, t2, t3⟩, ⟨o0, o1, o2, o3⟩, h4, h5, h6⟩ := fields27
  obtain ⟨cs, rfl, hcs⟩ := okWide_struct hu hval
  obtain ⟨fuel, hf⟩ := h
  obtain ⟨xs, n, _, _, _, _, ht⟩ := DataW.trod_struct hu hf
  rw [h6] at hcs
  obtain ⟨a, b, c, e, rfl⟩ : ∃ a b c e, cs = #[a, b, c, e] := by
    obtain ⟨l⟩ := cs
    match l, hcs with
    | [a, b, c, e], _ => exact ⟨a, b, c, e, rfl⟩
  have ht0 := ht 0 f0 rfl
  have ht1 := ht 1 f1 rfl
  have ht2 := ht 2 f2 rfl
  have ht3 := ht 3 f3 rfl
  rw [t0, o0, h4] at ht0
  rw [t1, o1, h5] at ht1
  rw [t2, o2, h5] at ht2
  rw [t3, o3, h5] at ht3
  have hlen : xs.length = 4 := by assumption
  rw [List.getElem?_eq_getElem (by omega)] at ht0 ht1 ht2 ht3
  obtain ⟨ws, hx⟩ := ints_abs (d := 6) (v := a) (by simpa [Value.cells] using ht0)
  obtain ⟨z1, hz1, _, _⟩ := DataW.trod_int Tryz.underlying3 (show DataW.trod enc Tryz.prog w 0 (fun _ => true) true n 3 [b] = _ by simpa [Value.cells] using ht1)
  obtain ⟨z2, hz2, _, _⟩ := DataW.trod_int Tryz.underlying3 (show DataW.trod enc Tryz.prog w 0 (fun _ => true) true n 3 [c] = _ by simpa [Value.cells] using ht2)
  obtain ⟨z3, hz3, _, _⟩ := DataW.trod_int Tryz.underlying3 (show DataW.trod enc Tryz.prog w 0 (fun _ => true) true n 3 [e] = _ by simpa [Value.cells] using ht3)
  injection hz1 with hz1 _
  injection hz2 with hz2 _
  injection hz3 with hz3 _
  subst hz1 hz2 hz3
  exact ⟨⟨ws, z1, z2, z3⟩, _, by simp [absV], hx⟩
end
end Go.Proofs.Tryz
