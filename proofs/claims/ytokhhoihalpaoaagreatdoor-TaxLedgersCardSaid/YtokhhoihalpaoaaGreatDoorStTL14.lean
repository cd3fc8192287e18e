/- Contracts of functions, walked. -/
import Derived.Test.YtokhhoihalpaoaaGreatDoorChecked
import Derived.Test.YtokhhoihalpaoaaGreatDoorRows
import Derived.Below
import Derived.Carry
import Derived.Deep.Slices
import Derived.Deep.Fields
import Derived.ChangeSame
import Derived.ChangeVars
import Derived.JoinedOf
import Derived.LaidLaws
import Derived.LaidHandle
import Derived.Deep.DeepLaidRun
import Derived.Stop.Joined
import Derived.ProofKit
import Derived.OpenShut
import Derived.LaidMore
import Derived.Lib.SmallJoins
import Derived.Test.YtokhhoihalpaoaaGreatDoorStP11
import Derived.Test.YtokhhoihalpaoaaGreatDoorStP4
set_option linter.all false
namespace Go.Proofs.Tryz
open Go Go.Am Go.RowKit
set_option maxRecDepth 100000


set_option maxHeartbeats 8000000 in
theorem law14 {H : AHeap} {v : Value} {l : List Pst} {acc dy tu : Int} (hv : Psts H v l) (hdy : 0 ≤ dy ∧ dy ≤ 65535) (htu : 0 ≤ tu ∧ tu ≤ 255) :
    CallS Tryz.prog [] 14 [v, .int .i64 acc, .int .u16 dy, .int .u8 tu] H fun r _ => r = .bool true := by
  have HCA := Lib.hid (fun (loops : List (Nat × LInfo)) (H2 : AHeap) (hx : Ext H H2) => checkPosts_s (loops := loops) (acc := acc) (hv.ext hx))
  have HV := Lib.hid hv
  obtain ⟨hlen, a, c, rfl⟩ := hv.slice
  clear hv
  have c1 := wrap_id (n := dy) (by omega)
  have c2 := wrap_id (n := tu) (by omega)
  have hdy0 := hdy.1
  have htu0 := htu.1
  by_cases h30 : 30 < l.length
  · have b1 : (30 : Int) < (l.length : Int) := by omega
    clear h30
    refine CallS.enter' Tryz.func14 rfl Tryz.ntmps14 (by simp) fun f hd hf => ?_
    have f0 := hf 0
    have f1 := hf 1
    have f2 := hf 2
    have f3 := hf 3
    simp at f0 f1 f2 f3
    clear hf
    repeat' (first|(with_reducible first|refine zA ?_|refine zB fun K hK=>?_|refine zC fun K2 hK2=>?_|refine zD ?_|refine zE ?_|refine zF ?_|refine zG ?_|refine zH ?_|refine zI ?_|refine zM ?_|refine zN ?_|refine zO ?_|refine zP ?_|refine zQ ?_|refine zR ?_)|((with_reducible refine zU (hK _ _ ?_));clear hK K)|((with_reducible refine zV ?_ ?_ fun K1 K3 d hdst h1 h3=>?_);rfl;exact yB rfl;cases hdst;go_simp)|((with_reducible refine zW fun K1 K3 h1 h3=>?_);go_simp)|((first|refine h1 ?_|refine h3 ?_);clear h1 h3 K1 K3)|((first|refine zX (fun hb=>h1 ?_) (fun hb=>h3 ?_)|refine zX (fun hb=>h3 ?_) (fun hb=>h1 ?_))<;>(clear h1 h3 K1 K3;(try have hb2:=yC hb);(try have hb2:=yD hb);(try have hb2:=yE hb);(try have hb2:=yF hb);(try have hb2:=yG hb)))|(refine fun (K2:_→AHeap→Prop) hK2=>?_)|((with_reducible refine zY ?_ ?_);decide)|((with_reducible first|refine zZ ?_ (fun K hK=>?_)|refine yA ?_ (fun K hK=>?_));(focus go_simp;done);go_simp;refine hK _ _ ?_;clear hK K)|(go_simp;(try go_bits);(try first | ((with_reducible show CallS _ _ _ _ _ _);refine CallS.mono head_s ?_; rintro _ _ ⟨rfl, h9⟩; rw [h9]; clear h9; go_simp));refine hK2 _ _ ?_;clear hK2 K2))
    all_goals rfl
  have b1 : ¬ (30 : Int) < (l.length : Int) := by omega
  by_cases he : errP l acc = 0
  case' neg =>
    have heb : (errP l acc != 0) = true := by simpa using he
    generalize errP l acc = er at HCA heb
    clear h30 he
    refine CallS.enter' Tryz.func14 rfl Tryz.ntmps14 (by simp) fun f hd hf => ?_
    have f0 := hf 0
    have f1 := hf 1
    have f2 := hf 2
    have f3 := hf 3
    simp at f0 f1 f2 f3
    clear hf
    repeat' (first|(with_reducible first|refine zA ?_|refine zB fun K hK=>?_|refine zC fun K2 hK2=>?_|refine zD ?_|refine zE ?_|refine zF ?_|refine zG ?_|refine zH ?_|refine zI ?_|refine zM ?_|refine zN ?_|refine zO ?_|refine zP ?_|refine zQ ?_|refine zR ?_)|((with_reducible refine zU (hK _ _ ?_));clear hK K)|((with_reducible refine zV ?_ ?_ fun K1 K3 d hdst h1 h3=>?_);rfl;exact yB rfl;cases hdst;go_simp)|((with_reducible refine zW fun K1 K3 h1 h3=>?_);go_simp)|((first|refine h1 ?_|refine h3 ?_);clear h1 h3 K1 K3)|((first|refine zX (fun hb=>h1 ?_) (fun hb=>h3 ?_)|refine zX (fun hb=>h3 ?_) (fun hb=>h1 ?_))<;>(clear h1 h3 K1 K3;(try have hb2:=yC hb);(try have hb2:=yD hb);(try have hb2:=yE hb);(try have hb2:=yF hb);(try have hb2:=yG hb)))|(refine fun (K2:_→AHeap→Prop) hK2=>?_)|((with_reducible refine zY ?_ ?_);decide)|((with_reducible first|refine zZ ?_ (fun K hK=>?_)|refine yA ?_ (fun K hK=>?_));(focus go_simp;done);go_simp;refine hK _ _ ?_;clear hK K)|(go_simp;(try go_bits);(try first |((with_reducible show CallS _ _ _ _ _ _);first|(refine CallS.mono (HCA.out _ _ (Ext.refl _)) ?_; rintro _ _ ⟨rfl, h9⟩; rw [h9]; clear h9; go_simp)|(refine CallS.mono head_s ?_; rintro _ _ ⟨rfl, h9⟩; rw [h9]; clear h9; go_simp)));refine hK2 _ _ ?_;clear hK2 K2))
    all_goals rfl
  have hg := goodP he
  obtain ⟨A, rfl⟩ : ∃ A : Nat, acc = A := ⟨acc.toNat, by have := hg.bd; omega⟩
  have hA : 1 ≤ A ∧ A ≤ 10 := by have := hg.bd; omega
  have HG := Lib.hid hg
  have HE := Lib.hid he
  rw [he] at HCA
  have HD : Hid (0 ≤ dy % 731 ∧ dy % 731 ≤ 730) := Lib.hid (by omega)
  have hB0 : ∀ (m : List Pst) (day : Int), GoodP m A → 0 ≤ day ∧ day ≤ 730 → errB m A day = 0 := fun m day hm hd => (if_neg (by simpa using hm.err)).trans (if_pos (win_iff.2 hd))
  have hBR : ∀ (m : List Pst) (day : Int), GoodP m A → 0 ≤ day ∧ day ≤ 730 → balR m A day = balL m A day := fun m day hm hd => by rw [balR, if_pos (hB0 m day hm hd), Int.toNat_natCast]
  have HBAL := Lib.hid (fun (loops : List (Nat × LInfo)) (H2 : AHeap) (u : Value) (m : List Pst) (day : Int) (hu : Psts H2 u m) (hm : GoodP m A) (hd : 0 ≤ day ∧ day ≤ 730) => by
    have := balances_e (loops := loops) (acc := (A : Int)) (day := day) hu
    rw [hB0 m day hm hd, hBR m day hm hd] at this; exact this)
  clear hg he hB0 hBR
  refine CallS.enter' Tryz.func14 rfl Tryz.ntmps14 (by simp) fun f hd hf => ?_
  have f0 := hf 0
  have f1 := hf 1
  have f2 := hf 2
  have f3 := hf 3
  simp at f0 f1 f2 f3
  clear hf
  repeat' (first|(with_reducible first|refine zA ?_|refine zB fun K hK=>?_|refine zC fun K2 hK2=>?_|refine zD ?_|refine zE ?_|refine zF ?_|refine zG ?_|refine zH ?_|refine zI ?_|refine zM ?_|refine zN ?_|refine zO ?_|refine zP ?_|refine zQ ?_|refine zR ?_)|((with_reducible refine zU (hK _ _ ?_));clear hK K)|((with_reducible refine zV ?_ ?_ fun K1 K3 d hdst h1 h3=>?_);rfl;exact yB rfl;cases hdst;go_simp)|((with_reducible refine zW fun K1 K3 h1 h3=>?_);go_simp)|((first|refine h1 ?_|refine h3 ?_);clear h1 h3 K1 K3)|((first|refine zX (fun hb=>h1 ?_) (fun hb=>h3 ?_)|refine zX (fun hb=>h3 ?_) (fun hb=>h1 ?_))<;>(clear h1 h3 K1 K3;(try have hb2:=yC hb);(try have hb2:=yD hb);(try have hb2:=yE hb);(try have hb2:=yF hb);(try have hb2:=yG hb)))|(refine fun (K2:_→AHeap→Prop) hK2=>?_)|((with_reducible refine zY ?_ ?_);decide)|((with_reducible first|refine zZ ?_ (fun K hK=>?_)|refine yA ?_ (fun K hK=>?_));(focus go_simp;done);go_simp;refine hK _ _ ?_;clear hK K)|(go_simp;(try go_bits);(try first |((with_reducible show CallS _ _ _ _ _ _);first|(refine CallS.mono (HCA.out _ _ (Ext.refl _)) ?_; rintro _ _ ⟨rfl, h9⟩; rw [h9]; clear h9; go_simp)|(refine CallS.mono (HBAL.out _ _ _ _ _ HV.out HG.out HD.out) ?_; rintro _ H2 ⟨⟨a2, n2, c2', rfl, hi2⟩, hx2⟩; (have e9 : A = n2 := ((ints_len hi2).trans (balL_len ..)).symm); subst e9; (have HX2 := Lib.hid hx2); (have HI2 := Lib.hid hi2); clear hi2 hx2)));refine hK2 _ _ ?_;clear hK2 K2))
  have HB2 : Hid (H.n ≤ H2.n) := Lib.hid HX2.out.n
  refine CodeS.loop (fun m f H' => ∃ (k : Nat) (ov rv : Value), k ≤ l.length ∧ m = l.length - k ∧ f.tmp 49 = .int .i64 k ∧ f.tmp 48 = .int .i64 l.length ∧ f.tmp 0 = .slice a l.length c ∧ f.tmp 1 = .int .i64 A ∧ f.tmp 3 = .int .u8 tu ∧ f.tmp 9 = .int .i64 (dy % 731) ∧ f.tmp 10 = .slice a2 A c2' ∧ f.tmp 11 = .int .i64 0 ∧ f.tmp 12 = ov ∧ f.tmp 13 = rv ∧ f.defers = [] ∧ Hid (Own H' H2.n ov 117 5 (pstCells (rotP l tu.toNat k))) ∧ Hid (Own H' H2.n rv 117 5 (pstCells ((rotP l tu.toNat k).map Pst.flip))) ∧ Hid (Apart ov rv) ∧ Hid (Ext H2 H')) l.length ?_ ?_
  · exact ⟨0, .slice none 0 0, .slice none 0 0, by omega, by omega, (by first|go_simp<;>go_num|assumption), (by first|go_simp<;>go_num|assumption), (by first|go_simp<;>go_num|assumption), (by first|go_simp<;>go_num|assumption), (by first|go_simp<;>go_num|assumption), (by first|go_simp<;>go_num|assumption), (by first|go_simp<;>go_num|assumption), (by first|go_simp<;>go_num|assumption), (by first|go_simp<;>go_num|assumption), (by first|go_simp<;>go_num|assumption), (by first|go_simp<;>go_num|assumption), Lib.hid Own.nil, Lib.hid Own.nil, Lib.hid apart_nil, Lib.hid (Ext.refl _)⟩
  clear f0 f1 f2 f3 hd f
  rintro m f H' ⟨k, ov, rv, hk, rfl, f49, f48, f0, f1, f3, f9, f10, f11, f12, f13, hd, HO, HR, HAP, HX⟩
  obtain ⟨oa, on, rfl⟩ := own_sliceP HO.out
  obtain ⟨ra, rn, rfl⟩ := own_sliceP HR.out
  have HN : Hid (H2.n ≤ H'.n) := Lib.hid HX.out.n
  by_cases hlt : k < l.length
  · have hlb : (k : Int) < (l.length : Int) := by omega
    have w1 := wrap_id (n := (k : Int) + 1) (by omega)
    have w2 := wrap_id (n := (k : Int) + tu) (by omega)
    have hs0 : 0 ≤ (k : Int) + tu := by omega
    have hs1 : 1 ≤ (l.length : Int) := by omega
    obtain ⟨q, hq, hqe, hrs⟩ := rot_at (F := l) (r := tu) (k := k) (by omega) htu.1
    have HRS := Lib.hid hrs
    have hqb : (q : Int) < (l.length : Int) := by omega
    obtain ⟨b, o, sp, rfl, hb, hx5, -⟩ := ((HV.out.ext HX2.out).ext HX.out).at_ hq
    have hbb := hb
    generalize l[q] = p at hx5 HRS
    clear hrs
    obtain ⟨i, d, fr, to, co⟩ := p
    simp only [Pst.cells] at hx5
    have HBIG : Hid (((pstCells (rotP l tu.toNat k)).length + 5) * max 40 1 ≤ 1073741824) := Lib.hid (by rw [pstCells_length, rotP_len]; show (k * 5 + 5) * 40 ≤ 1073741824; omega)
    have HBIG2 : Hid (((pstCells ((rotP l tu.toNat k).map Pst.flip)).length + 5) * max 40 1 ≤ 1073741824) := Lib.hid (by rw [pstCells_length, List.length_map, rotP_len]; show (k * 5 + 5) * 40 ≤ 1073741824; omega)
    repeat' (first|(with_reducible first|refine zA ?_|refine zB fun K hK=>?_|refine zC fun K2 hK2=>?_|refine zD ?_|refine zE ?_|refine zF ?_|refine zG ?_|refine zH ?_|refine zI ?_|refine zM ?_|refine zN ?_|refine zO ?_|refine zP ?_|refine zQ ?_|refine zR ?_)|((with_reducible refine zU (hK _ _ ?_));clear hK K)|((with_reducible refine zV ?_ ?_ fun K1 K3 d hdst h1 h3=>?_);rfl;exact yB rfl;cases hdst;go_simp)|((with_reducible refine zW fun K1 K3 h1 h3=>?_);go_simp)|((first|refine h1 ?_|refine h3 ?_);clear h1 h3 K1 K3)|((first|refine zX (fun hb=>h1 ?_) (fun hb=>h3 ?_)|refine zX (fun hb=>h3 ?_) (fun hb=>h1 ?_))<;>(clear h1 h3 K1 K3;(try have hb2:=yC hb);(try have hb2:=yD hb);(try have hb2:=yE hb);(try have hb2:=yF hb);(try have hb2:=yG hb)))|(refine fun (K2:_→AHeap→Prop) hK2=>?_)|((with_reducible refine zY ?_ ?_);decide)|((with_reducible first|refine zZ ?_ (fun K hK=>?_)|refine yA ?_ (fun K hK=>?_));(focus go_simp;done);go_simp;refine hK _ _ ?_;clear hK K)|(go_simp;(try go_bits);(try first | ((refine one_k el81 sz117 ze117 rfl (by decide) (by decide) rfl rfl ?_); go_simp) | ((refine append_k2 el81 sz117 by117 ze117 rfl (by decide) ((HO.out.ext (Ext.push _)).ext (Ext.push _)) (srcCells_new rfl) (by decide) rfl (by rw [List.all_append, pst_one]; rfl) HBIG.out (by simp only [AHeap.n_push]; have := HN.out; omega) fun v4 H4 ho4 hg4 => ?_); (obtain ⟨a4, n4, rfl⟩ := own_sliceP ho4); (have HO4 := Lib.hid ho4); (have hp4 : H4.get H'.n = .row [.int .i64 i, .int .i64 d, .int .i64 fr, .int .i64 to, .int .i64 co] 117 := by (rw [hg4.2 _ (by simp only [AHeap.n_push]; omega) (fun b n hs _ hb => absurd (own_lt HO.out hs) (by omega)), AHeap.get_push_old (by rw [AHeap.n_push]; omega), AHeap.get_push_new])); (have hn4 : H'.n < H4.n := by (have := hg4.1; simp only [AHeap.n_push] at this; omega)); (have hq2 : cellAt H4 H'.n 2 = some (.int .i64 fr) := by simp [cellAt, hp4]); (have hq3 : cellAt H4 H'.n 3 = some (.int .i64 to) := by simp [cellAt, hp4]); (have HR4 : Hid (∀ x, Own (H4.upd H'.n x) H2.n (.slice ra rn rn) 117 5 (pstCells ((rotP l tu.toNat k).map Pst.flip))) := Lib.hid (fun x => own_move HR.out (by simp only [AHeap.n_upd]; omega) (fun b n hs hb => by rw [AHeap.get_upd_ne (by omega), hg4.2 b (by simp only [AHeap.n_push]; omega) (fun b1 n1 h1 _ he => HAP.out b1 n1 b n h1 hs he.symm), AHeap.get_push_old (by rw [AHeap.n_push]; omega), AHeap.get_push_old hb]))); (have HX4 : Hid (Ext H2 H4) := Lib.hid (hg4.ext ((HO.out.ext (Ext.push _)).ext (Ext.push _)) (Nat.le_refl _) ((HX.out.push' _).push' _))); (have HAP4 : Hid (Apart (.slice ra rn rn) (.slice a4 n4 n4)) := Lib.hid (apart_new ((HR.out.ext (Ext.push _)).ext (Ext.push _)) HO4.out).symm); clear ho4 hg4; go_simp) | ((refine append_k2 el81 sz117 by117 ze117 rfl (by decide) ((HR4.out _).ext (Ext.push _)) (srcCells_new rfl) (by decide) rfl (by rw [List.all_append, pst_one]; rfl) HBIG2.out (by simp only [AHeap.n_push, AHeap.n_upd]; have := HN.out; omega) fun v6 H6 ho6 hg6 => ?_); (obtain ⟨a6, n6, rfl⟩ := own_sliceP ho6); (have HO6 := Lib.hid ho6); (have HO46 := Lib.hid (own_upd HO4.out (i := H'.n) (by simp only [AHeap.n_push]; omega) (.row [.int .i64 i, .int .i64 d, .int .i64 to, .int .i64 fr, .int .i64 co] 117))); (have HK6 := Lib.hid (own_keep (HO46.out.ext (Ext.push _)) hg6 HAP4.out)); (have HAP6 : Hid (Apart (.slice a4 n4 n4) (.slice a6 n6 n6)) := Lib.hid (apart_new (HO46.out.ext (Ext.push _)) HO6.out).symm); (have HX6 : Hid (Ext H2 H6) := Lib.hid (hg6.ext ((HR4.out _).ext (Ext.push _)) (Nat.le_refl _) ((HX4.out.upd HN.out _).push' _))); clear ho6 hg6; go_simp));refine hK2 _ _ ?_;clear hK2 K2))
    refine Post.round_normal ⟨l.length - (k + 1), by omega, k + 1, .slice a4 n4 n4, .slice a6 n6 n6, by omega, rfl, (by first|go_simp<;>go_num|assumption), (by first|go_simp<;>go_num|assumption), (by first|go_simp<;>go_num|assumption), (by first|go_simp<;>go_num|assumption), (by first|go_simp<;>go_num|assumption), (by first|go_simp<;>go_num|assumption), (by first|go_simp<;>go_num|assumption), (by first|go_simp<;>go_num|assumption), (by first|go_simp<;>go_num|assumption), (by first|go_simp<;>go_num|assumption), (by first|go_simp<;>go_num|assumption), Lib.hid ?_, Lib.hid ?_, HAP6, HX6⟩
    · rw [HRS.out, pstCells_snoc]
      exact HK6.out.mono (by simp only [AHeap.n_push]; have := HN.out; omega)
    · rw [HRS.out, List.map_append, List.map_cons, List.map_nil, pstCells_snoc]
      exact HO6.out.mono (by simp only [AHeap.n_push, AHeap.n_upd]; have := HN.out; omega)
  · have hlb : ¬ (k : Int) < (l.length : Int) := by omega
    obtain rfl : k = l.length := by omega
    have HGM := Lib.hid (HG.out.perm (rotP_perm l tu.toNat))
    have HPO := Lib.hid (own_psts HO.out (by rw [rotP_len]; omega))
    have HPR := Lib.hid (own_psts HR.out (by rw [List.length_map, rotP_len]; omega))
    have HBO := Lib.hid (fun (loops : List (Nat × LInfo)) (H5 : AHeap) (hx : Ext H' H5) => by
      have := HBAL.out loops H5 _ _ _ (HPO.out.ext hx) HGM.out HD.out
      rw [balL_rot] at this; exact this)
    have HBF := Lib.hid (fun (loops : List (Nat × LInfo)) (H5 : AHeap) (hx : Ext H' H5) => by
      have := HBAL.out loops H5 _ _ _ (HPR.out.ext hx) HGM.out.flip HD.out
      rw [balL_flip] at this; exact this)
    have HI2x := Lib.hid (HI2.out.ext HX.out)
    have hAb : ((A : Int) != (A : Int)) = false := by simp
    repeat' (first|(with_reducible first|refine zA ?_|refine zB fun K hK=>?_|refine zC fun K2 hK2=>?_|refine zD ?_|refine zE ?_|refine zF ?_|refine zG ?_|refine zH ?_|refine zI ?_|refine zM ?_|refine zN ?_|refine zO ?_|refine zP ?_|refine zQ ?_|refine zR ?_)|((with_reducible refine zU (hK _ _ ?_));clear hK K)|((with_reducible refine zV ?_ ?_ fun K1 K3 d hdst h1 h3=>?_);rfl;exact yB rfl;cases hdst;go_simp)|((with_reducible refine zW fun K1 K3 h1 h3=>?_);go_simp)|((first|refine h1 ?_|refine h3 ?_);clear h1 h3 K1 K3)|((first|refine zX (fun hb=>h1 ?_) (fun hb=>h3 ?_)|refine zX (fun hb=>h3 ?_) (fun hb=>h1 ?_))<;>(clear h1 h3 K1 K3;(try have hb2:=yC hb);(try have hb2:=yD hb);(try have hb2:=yE hb);(try have hb2:=yF hb);(try have hb2:=yG hb)))|(refine fun (K2:_→AHeap→Prop) hK2=>?_)|((with_reducible refine zY ?_ ?_);decide)|((with_reducible first|refine zZ ?_ (fun K hK=>?_)|refine yA ?_ (fun K hK=>?_));(focus go_simp;done);go_simp;refine hK _ _ ?_;clear hK K)|(go_simp;(try go_bits);(try first |((with_reducible show CallS _ _ _ _ _ _);first|(refine CallS.mono (HBO.out _ _ (Ext.refl _)) ?_; rintro _ H3 ⟨⟨a3, n3, c3, rfl, hi3⟩, hx3⟩; (have e9 : A = n3 := ((ints_len hi3).trans (balL_len ..)).symm); subst e9; (have HX3 := Lib.hid hx3); (have HI3 := Lib.hid hi3); clear hi3 hx3)|(refine CallS.mono (HBF.out _ _ HX3.out) ?_; rintro _ H4 ⟨⟨a4, n4, c4, rfl, hi4⟩, hx4⟩; (have e9 : A = n4 := ((ints_len hi4).trans ((List.length_map ..).trans (balL_len ..))).symm); subst e9; (have HX4 := Lib.hid (HX3.out.trans hx4)); (have HI3b := Lib.hid (HI3.out.ext hx4)); (have HI4 := Lib.hid hi4); clear hi4 hx4)|(refine CallS.mono (sameInts_s (HI2x.out.ext HX4.out) HI3b.out) ?_; rintro _ _ ⟨rfl, h9⟩; rw [h9]; clear h9; go_simp)));refine hK2 _ _ ?_;clear hK2 K2))
    have HXL : Hid (Ext H H4) := Lib.hid (HX2.out.trans (HX.out.trans HX4.out))
    have HIA := Lib.hid (HI2x.out.ext HX4.out)
    have HCO := Lib.hid HG.out.coined
    clear hlb hlt hk f49 f48 f11 f12 f13 f3
    refine CodeS.loop (fun m f J => ∃ k : Nat, k ≤ A ∧ m = A - k ∧ f.tmp 122 = .int .i64 k ∧ f.tmp 121 = .int .i64 A ∧ f.tmp 0 = .slice a l.length c ∧ f.tmp 1 = .int .i64 A ∧ f.tmp 9 = .int .i64 (dy % 731) ∧ f.tmp 10 = .slice a2 A c2' ∧ f.tmp 18 = .slice a4 A c4 ∧ f.tmp 20 = .int .i64 ((balL l A (dy % 731)).take k).sum ∧ f.defers = [] ∧ Hid (Ext H4 J)) A ?_ ?_
    · exact ⟨0, by omega, by omega, (by first|go_simp<;>go_num|assumption), (by first|go_simp<;>go_num|assumption), (by first|go_simp<;>go_num|assumption), (by first|go_simp<;>go_num|assumption), (by first|go_simp<;>go_num|assumption), (by first|go_simp<;>go_num|assumption), (by first|go_simp<;>go_num|assumption), (by first|go_simp<;>go_num|assumption), (by first|go_simp<;>go_num|assumption), Lib.hid (Ext.refl _)⟩
    clear f0 f1 f9 f10 hd f
    rintro m f J ⟨k, hk, rfl, f122, f121, f0, f1, f9, f10, f18, f20, hd, HJ⟩
    have HXJ : Hid (Ext H J) := Lib.hid (HXL.out.trans HJ.out)
    by_cases hlt : k < A
    · have hlb : (k : Int) < (A : Int) := by omega
      have w1 := wrap_id (n := (k : Int) + 1) (by omega)
      have hk1 : k < (balL l A (dy % 731)).length := by rw [balL_len]; exact hlt
      obtain ⟨b1, o1, sp1, rfl, hb1, hx1⟩ := (HIA.out.ext HJ.out).at_ hk1
      obtain ⟨b2, o2, sp2, rfl, hb2, hx2⟩ := (HI4.out.ext HJ.out).at_ (k := k) (by rw [List.length_map]; exact hk1)
      rw [List.getElem_map] at hx2
      have HT : Hid (((balL l A (dy % 731)).take (k + 1)).sum = ((balL l A (dy % 731)).take k).sum + bal l k (dy % 731)) := Lib.hid (by
        rw [List.take_succ_eq_append_getElem hk1, List.sum_append, balL_get hk1]; simp)
      have hsb := sumB HCO.out A (dy % 731) k (by omega)
      have hbb : -109951162777600 ≤ bal l k (dy % 731) ∧ bal l k (dy % 731) ≤ 109951162777600 := by
        have := bal_take HCO.out l.length k (dy % 731)
        rwa [List.take_length] at this
      rw [balL_get hk1] at hx1 hx2
      have hEL : errL l A k = 0 := (if_neg (by simpa using HE.out)).trans (if_pos (win_iff.2 (by omega)))
      have HLO := Lib.hid (fun (loops : List (Nat × LInfo)) => lowest_s (loops := loops) (acc := (A : Int)) (x := (k : Int)) (HV.out.ext HXJ.out))
      rw [lowR, hEL, if_pos rfl] at HLO
      obtain ⟨h1, h2, h3⟩ := lowS_low l k 731
      obtain ⟨d0, hd0, hs2, hs1⟩ := h1 (by omega)
      have HDD := HD.out
      have hle : (lowS l k 731).1 ≤ bal l k (dy % 731) := by
        have := h2 (dy % 731).toNat (by omega)
        rwa [Int.toNat_of_nonneg HDD.1] at this
      have hfi : bal l k (dy % 731) = (lowS l k 731).1 → ((d0 : Int)) ≤ dy % 731 := fun h => by
        have := h3 (dy % 731).toNat (by omega) (by rw [Int.toNat_of_nonneg HDD.1]; exact h)
        rw [Int.toNat_of_nonneg HDD.1, hs2] at this
        exact this
      rw [hs2] at HLO
      have HBD := Lib.hid (fun (loops : List (Nat × LInfo)) => HBAL.out loops J _ l (d0 : Int) (HV.out.ext HXJ.out) HG.out (by omega))
      have hk0 : k < (balL l A (d0 : Int)).length := by rw [balL_len]; exact hlt
      have HG0 : Hid ((balL l A (d0 : Int))[k] = (lowS l k 731).1) := Lib.hid (by rw [balL_get hk0, hs1])
      clear h1 h2 h3 hs1 hs2 HDD hEL
      generalize (lowS l k 731).1 = n at HLO hle hfi HG0
      generalize bal l k (dy % 731) = x at hx1 hx2 HT hbb hle hfi
      generalize ((balL l A (dy % 731)).take k).sum = S at f20 HT hsb
      have w2 := wrap_id (n := S + x) (by omega)
      have w3 := wrap_id (n := 0 - (-x)) (by omega)
      have w4 : 0 - (-x) = x := by omega
      have hAb : ((A : Int) != (A : Int)) = false := by simp
      by_cases heq : x = n
      · subst heq
        have hd1 := hfi rfl
        have hd2 : ¬ (dy % 731 < (d0 : Int)) := by omega
        clear hfi hle
        repeat' (first|(with_reducible first|refine zA ?_|refine zB fun K hK=>?_|refine zC fun K2 hK2=>?_|refine zD ?_|refine zE ?_|refine zF ?_|refine zG ?_|refine zH ?_|refine zI ?_|refine zM ?_|refine zN ?_|refine zO ?_|refine zP ?_|refine zQ ?_|refine zR ?_)|((with_reducible refine zU (hK _ _ ?_));clear hK K)|((with_reducible refine zV ?_ ?_ fun K1 K3 d hdst h1 h3=>?_);rfl;exact yB rfl;cases hdst;go_simp)|((with_reducible refine zW fun K1 K3 h1 h3=>?_);go_simp)|((first|refine h1 ?_|refine h3 ?_);clear h1 h3 K1 K3)|((first|refine zX (fun hb=>h1 ?_) (fun hb=>h3 ?_)|refine zX (fun hb=>h3 ?_) (fun hb=>h1 ?_))<;>(clear h1 h3 K1 K3;(try have hb2:=yC hb);(try have hb2:=yD hb);(try have hb2:=yE hb);(try have hb2:=yF hb);(try have hb2:=yG hb)))|(refine fun (K2:_→AHeap→Prop) hK2=>?_)|((with_reducible refine zY ?_ ?_);decide)|((with_reducible first|refine zZ ?_ (fun K hK=>?_)|refine yA ?_ (fun K hK=>?_));(focus go_simp;done);go_simp;refine hK _ _ ?_;clear hK K)|((with_reducible refine yH mixed rfl ?_ 20 fun K0 hK0=>?_);kernel_rfl)|(with_reducible first|exact yI|exact yJ|refine yK ?_|refine yL ?_|refine yM ?_)|((with_reducible first|refine yN ?_ ?_|refine yO ?_ ?_|refine yP ?_ ?_);rfl)|((with_reducible refine yQ ?_ ?_);rfl;refine hK0 _ _ ?_;clear hK0 K0)|((with_reducible refine yR ?_ ?_ ?_ ?_);rfl;rfl;rfl)|((with_reducible refine yS ?_ ?_ ?_ fun K2 hK2=>?_);rfl;rfl;exact yB rfl)|((with_reducible refine yT ?_ ?_ ?_ ?_ fun K1 K3 d hdst h1 h3=>?_);rfl;rfl;rfl;exact yB rfl;cases hdst;go_simp)|((with_reducible refine yU ?_ ?_ ?_ ?_ fun K1 K3 d hdst h1 h3=>?_);rfl;rfl;rfl;exact yB rfl;cases hdst;go_simp)|((with_reducible refine yV ?_ ?_ (fun K2 hK2=>?_) ?_);rfl;exact yB rfl)|((with_reducible refine yW ?_ ?_ ?_ ?_ (fun K2 hK2=>?_) ?_);rfl;exact yB rfl;rfl;(focus go_simp;done))|((with_reducible refine yX ?_ ?_ ?_ (fun K2 hK2=>?_) ?_);rfl;rfl;exact yB rfl)|((with_reducible refine yY ?_ ?_ (fun K2 hK2=>?_) ?_);rfl;rfl)|((with_reducible refine yZ ?_ ?_);(first|rfl|(dsimp only;decide +kernel)))|((with_reducible refine xA ?_ ?_);(focus go_simp;done))|(go_simp;(try go_bits);(try first |((with_reducible show CallS _ _ _ _ _ _);first|(refine CallS.mono (HLO.out _) ?_; rintro _ _ ⟨rfl, h9⟩; rw [h9]; clear h9; go_simp)|(refine CallS.mono (HBD.out _) ?_; rintro _ H5 ⟨⟨a5, n5, c5, rfl, hi5⟩, hx5⟩; (have e9 : A = n5 := ((ints_len hi5).trans (balL_len ..)).symm); subst e9; (have HX5 := Lib.hid (HJ.out.trans hx5)); (obtain ⟨b5, o5, sp5, rfl, hb5, hy5⟩ := hi5.at_ hk0); rw [HG0.out] at hy5; clear hi5 hx5)));(first|(refine hK2 _ _ ?_ ?_<;>clear hK2 K2)|(refine hK2 _ _ ?_;clear hK2 K2))))
        refine Post.round_normal ⟨A - (k + 1), by omega, k + 1, by omega, rfl, (by first|go_simp<;>go_num|assumption), (by first|go_simp<;>go_num|assumption), (by first|go_simp<;>go_num|assumption), (by first|go_simp<;>go_num|assumption), (by first|go_simp<;>go_num|assumption), (by first|go_simp<;>go_num|assumption), (by first|go_simp<;>go_num|assumption), (by rw [HT.out]; go_simp), (by first|go_simp<;>go_num|assumption), HX5⟩
      · have hne : (n == x) = false := by simpa using fun h => heq h.symm
        have hlx : ¬ x < n := by omega
        clear hfi heq
        repeat' (first|(with_reducible first|refine zA ?_|refine zB fun K hK=>?_|refine zC fun K2 hK2=>?_|refine zD ?_|refine zE ?_|refine zF ?_|refine zG ?_|refine zH ?_|refine zI ?_|refine zM ?_|refine zN ?_|refine zO ?_|refine zP ?_|refine zQ ?_|refine zR ?_)|((with_reducible refine zU (hK _ _ ?_));clear hK K)|((with_reducible refine zV ?_ ?_ fun K1 K3 d hdst h1 h3=>?_);rfl;exact yB rfl;cases hdst;go_simp)|((with_reducible refine zW fun K1 K3 h1 h3=>?_);go_simp)|((first|refine h1 ?_|refine h3 ?_);clear h1 h3 K1 K3)|((first|refine zX (fun hb=>h1 ?_) (fun hb=>h3 ?_)|refine zX (fun hb=>h3 ?_) (fun hb=>h1 ?_))<;>(clear h1 h3 K1 K3;(try have hb2:=yC hb);(try have hb2:=yD hb);(try have hb2:=yE hb);(try have hb2:=yF hb);(try have hb2:=yG hb)))|(refine fun (K2:_→AHeap→Prop) hK2=>?_)|((with_reducible refine zY ?_ ?_);decide)|((with_reducible first|refine zZ ?_ (fun K hK=>?_)|refine yA ?_ (fun K hK=>?_));(focus go_simp;done);go_simp;refine hK _ _ ?_;clear hK K)|((with_reducible refine yH mixed rfl ?_ 20 fun K0 hK0=>?_);kernel_rfl)|(with_reducible first|exact yI|exact yJ|refine yK ?_|refine yL ?_|refine yM ?_)|((with_reducible first|refine yN ?_ ?_|refine yO ?_ ?_|refine yP ?_ ?_);rfl)|((with_reducible refine yQ ?_ ?_);rfl;refine hK0 _ _ ?_;clear hK0 K0)|((with_reducible refine yR ?_ ?_ ?_ ?_);rfl;rfl;rfl)|((with_reducible refine yS ?_ ?_ ?_ fun K2 hK2=>?_);rfl;rfl;exact yB rfl)|((with_reducible refine yT ?_ ?_ ?_ ?_ fun K1 K3 d hdst h1 h3=>?_);rfl;rfl;rfl;exact yB rfl;cases hdst;go_simp)|((with_reducible refine yU ?_ ?_ ?_ ?_ fun K1 K3 d hdst h1 h3=>?_);rfl;rfl;rfl;exact yB rfl;cases hdst;go_simp)|((with_reducible refine yV ?_ ?_ (fun K2 hK2=>?_) ?_);rfl;exact yB rfl)|((with_reducible refine yW ?_ ?_ ?_ ?_ (fun K2 hK2=>?_) ?_);rfl;exact yB rfl;rfl;(focus go_simp;done))|((with_reducible refine yX ?_ ?_ ?_ (fun K2 hK2=>?_) ?_);rfl;rfl;exact yB rfl)|((with_reducible refine yY ?_ ?_ (fun K2 hK2=>?_) ?_);rfl;rfl)|((with_reducible refine yZ ?_ ?_);(first|rfl|(dsimp only;decide +kernel)))|((with_reducible refine xA ?_ ?_);(focus go_simp;done))|(go_simp;(try go_bits);(try first |((with_reducible show CallS _ _ _ _ _ _);first|(refine CallS.mono (HLO.out _) ?_; rintro _ _ ⟨rfl, h9⟩; rw [h9]; clear h9; go_simp)|(refine CallS.mono (HBD.out _) ?_; rintro _ H5 ⟨⟨a5, n5, c5, rfl, hi5⟩, hx5⟩; (have e9 : A = n5 := ((ints_len hi5).trans (balL_len ..)).symm); subst e9; (have HX5 := Lib.hid (HJ.out.trans hx5)); (obtain ⟨b5, o5, sp5, rfl, hb5, hy5⟩ := hi5.at_ hk0); rw [HG0.out] at hy5; clear hi5 hx5)));(first|(refine hK2 _ _ ?_ ?_<;>clear hK2 K2)|(refine hK2 _ _ ?_;clear hK2 K2))))
        refine Post.round_normal ⟨A - (k + 1), by omega, k + 1, by omega, rfl, (by first|go_simp<;>go_num|assumption), (by first|go_simp<;>go_num|assumption), (by first|go_simp<;>go_num|assumption), (by first|go_simp<;>go_num|assumption), (by first|go_simp<;>go_num|assumption), (by first|go_simp<;>go_num|assumption), (by first|go_simp<;>go_num|assumption), (by rw [HT.out]; go_simp), (by first|go_simp<;>go_num|assumption), HX5⟩
    · have hlb : ¬ (k : Int) < (A : Int) := by omega
      obtain rfl : k = A := by omega
      have hs0 : ((balL l k (dy % 731)).take k).sum = 0 := by
        rw [List.take_of_length_le (by rw [balL_len]; exact Nat.le_refl _)]
        exact balL_sum HG.out.right _
      rw [hs0] at f20
      clear hs0
      repeat' (first|(with_reducible first|refine zA ?_|refine zB fun K hK=>?_|refine zC fun K2 hK2=>?_|refine zD ?_|refine zE ?_|refine zF ?_|refine zG ?_|refine zH ?_|refine zI ?_|refine zM ?_|refine zN ?_|refine zO ?_|refine zP ?_|refine zQ ?_|refine zR ?_)|((with_reducible refine zU (hK _ _ ?_));clear hK K)|((with_reducible refine zV ?_ ?_ fun K1 K3 d hdst h1 h3=>?_);rfl;exact yB rfl;cases hdst;go_simp)|((with_reducible refine zW fun K1 K3 h1 h3=>?_);go_simp)|((first|refine h1 ?_|refine h3 ?_);clear h1 h3 K1 K3)|((first|refine zX (fun hb=>h1 ?_) (fun hb=>h3 ?_)|refine zX (fun hb=>h3 ?_) (fun hb=>h1 ?_))<;>(clear h1 h3 K1 K3;(try have hb2:=yC hb);(try have hb2:=yD hb);(try have hb2:=yE hb);(try have hb2:=yF hb);(try have hb2:=yG hb)))|(refine fun (K2:_→AHeap→Prop) hK2=>?_)|((with_reducible refine zY ?_ ?_);decide)|((with_reducible first|refine zZ ?_ (fun K hK=>?_)|refine yA ?_ (fun K hK=>?_));(focus go_simp;done);go_simp;refine hK _ _ ?_;clear hK K)|(go_simp;(try go_bits);(try first | ((with_reducible show CallS _ _ _ _ _ _);refine CallS.mono head_s ?_; rintro _ _ ⟨rfl, h9⟩; rw [h9]; clear h9; go_simp));refine hK2 _ _ ?_;clear hK2 K2))
      all_goals rfl
end Go.Proofs.Tryz
namespace Go.Proofs.Tryz
open Go.ChangeShapes Go.WideShapes Go.ChangeAt Go.RowKit Go.Joins Go.Deep Go.Am
open Go.Proofs.YtokhhoihalpaoaaGreatDoor
set_option maxRecDepth 100000


theorem ownOne : ownKnob Tryz.prog.godebug = none := by kernel_rfl
theorem laidOut : laidOutB Tryz.prog = true := by kernel_rfl

def tabCells (d : DataW Unit) : Array Value := match d with
  | .agg l => (l.filterMap fun x => match x with | .lit (.int k n) => some (Value.int k n) | _ => none).toArray
  | _ => #[]
def layTab (cs : Array Value) : Obj → Obj
  | .cells _ t f => .cells cs t f
  | o => o
noncomputable def laidWorld (os : Os) : World :=
  let w0 := World.holding Tryz.prog os ⟨#[], #[], []⟩
  { w0 with heap := ((w0.heap.modify 0 (layTab (tabCells Rows.laid_math_bits_deBruijn32tab))).modify 1 (layTab (tabCells Rows.laid_math_bits_deBruijn64tab))).modify 2 (layTab (tabCells Rows.laid_internal_strconv_uint64pow10)) }
theorem laid_met (os : Os) (args : Array Value) : laidMet Tryz.prog Rows.taxBillsRow.laid ((laidWorld os).forCall (fun _ _ => 0) ⟨#[], args, []⟩).memory :=
  laidMet_of_run3 8 (by kernel_rfl) (by kernel_rfl) (by kernel_rfl)
theorem laid_metH (os : Os) (args : Array Value) : laidMetH Tryz.prog Rows.taxBillsRow.laid ((laidWorld os).forCall (fun _ _ => 0) ⟨#[], args, []⟩).memory :=
  laidMetH_of_parts (laid_met os args) (by kernel_rfl)

theorem tab_cell {W : World} (h : laidMetH Tryz.prog Rows.taxBillsRow.laid W) (r : Nat) (hr : r < 64) : W.cell? ⟨1, r, none⟩ = some (.int .u8 (Lib.deBruijn64tab.getD r 0)) := by
  rw [MakeChecks.laidMetH_plain _ _ _ (by kernel_rfl)] at h
  obtain ⟨ps, ⟨_, _, _, _, _, _, _, _, _, _, ⟨g, t, cs, fuel, p, q, hg, ht, hv, hd, _, _⟩, _⟩, _, _⟩ := h
  obtain rfl := Option.some.inj ((show Tryz.prog.globalNamed "math/bits.deBruijn64tab" = some 1 by kernel_rfl).symm.trans hg)
  obtain rfl := Option.some.inj ((show (Tryz.prog.globals[1]?).map (·.type) = some 286 by kernel_rfl).symm.trans ht)
  obtain ⟨xs, m, _, ex, _, hl, hel⟩ := DataW.trod_array Tryz.underlying286 hd
  have c5 : Tryz.prog.cellsOf 5 = 1 := by kernel_rfl
  have hE := hel r hr
  rw [c5, Nat.mul_one, List.getElem?_eq_getElem (by omega)] at hE
  obtain ⟨z, e1, e2, _⟩ := DataW.trod_int Tryz.underlying5 hE
  have hlen : Lib.deBruijn64tab.length = 64 := by kernel_rfl
  have hrow : (Rows.laid_math_bits_deBruijn64tab : DataW Unit) = .agg (Lib.deBruijn64tab.map fun (n : Nat) => .lit (.int .u8 n)) := by kernel_rfl
  have e3 : (xs.map (·.1)) = Lib.deBruijn64tab.map fun (n : Nat) => (DataW.lit (.int .u8 n) : DataW Unit) := (DataW.agg.inj (hrow.symm.trans (Prod.mk.inj ex).1)).symm
  have e4 : (xs.map (·.1))[r]? = (Lib.deBruijn64tab.map fun (n : Nat) => (DataW.lit (.int .u8 n) : DataW Unit))[r]? := by rw [e3]
  rw [List.getElem?_map, List.getElem?_map, List.getElem?_eq_getElem (by omega : r < xs.length), List.getElem?_eq_getElem (by omega : r < Lib.deBruijn64tab.length), e2] at e4
  have hz : z = Lib.deBruijn64tab.getD r 0 := by
    simp only [Option.map_some, Option.some.injEq, DataW.lit.injEq, Lit.int.injEq, true_and] at e4
    rw [e4, List.getD, List.getElem?_eq_getElem (by omega : r < Lib.deBruijn64tab.length)]; rfl
  rw [World.var?_cell hg hv r, ← hz]
  have : cs.toList[r]? = some (.int .u8 z) := by
    have h0 : ((cs.toList.drop r).take 1)[0]? = some (.int .u8 z) := by rw [e1]; rfl
    simpa using h0
  simpa using this

theorem laid_of {W : World} (h : laidMetH Tryz.prog Rows.taxBillsRow.laid W) : Laid W.heap.size W := by
  intro t ht
  rw [laidTabs, List.mem_singleton] at ht
  subst ht
  refine ⟨cell_lt (a := ⟨1, 0, none⟩) (tab_cell h 0 (by decide)), fun i v hv => ?_⟩
  simp only [List.getElem?_map] at hv
  have hlen : Lib.deBruijn64tab.length = 64 := by kernel_rfl
  by_cases hi : i < 64
  · rw [tab_cell h i hi, List.getD, ← hv]
    rw [List.getElem?_eq_getElem (by omega)]; rfl
  · rw [List.getElem?_eq_none (by omega)] at hv; cases hv

section
variable {H : Type} {enc : TypeId × Value → H} {w : World}
theorem int_cells {n : Nat} {cs : List Value} {x : DataW H × List MemPlace} (h : DataW.trod enc Tryz.prog w 0 (fun _ => true) true n 3 cs = some x) : ∃ z : Int, cs = [.int .i64 z] := by
  obtain ⟨z, hz, _, _⟩ := DataW.trod_int Tryz.underlying3 h
  exact ⟨z, hz⟩
theorem u8_in {l : Int} (h : (Lit.int .u8 l).wf = true) : 0 ≤ l ∧ l ≤ 255 := by
  have h2 : IntKind.u8.min ≤ l ∧ l ≤ IntKind.u8.max := by simpa [Lit.wf] using h
  exact h2
theorem u16_in {l : Int} (h : (Lit.int .u16 l).wf = true) : 0 ≤ l ∧ l ≤ 65535 := by
  have h2 : IntKind.u16.min ≤ l ∧ l ≤ IntKind.u16.max := by simpa [Lit.wf] using h
  exact h2
end
end Go.Proofs.Tryz
namespace Go.Proofs.Tryz
open Go.ChangeShapes Go.WideShapes Go.ChangeAt Go.RowKit Go.Joins Go.Deep Go.Am
set_option maxRecDepth 100000


theorem fields117 : ∃ f0 f1 f2 f3 f4 : Field, Tryz.prog.underlying 117 = some (.struct #[f0, f1, f2, f3, f4]) ∧ (f0.type = 3 ∧ f1.type = 3 ∧ f2.type = 3 ∧ f3.type = 3 ∧ f4.type = 3) ∧ (f0.offset = 0 ∧ f1.offset = 1 ∧ f2.offset = 2 ∧ f3.offset = 3 ∧ f4.offset = 4) ∧ Tryz.prog.cellsOf 3 = 1 ∧ Tryz.prog.cellsOf 117 = 5 :=
  ⟨(fieldOf Tryz.prog 117 0).getD default, (fieldOf Tryz.prog 117 1).getD default, (fieldOf Tryz.prog 117 2).getD default, (fieldOf Tryz.prog 117 3).getD default, (fieldOf Tryz.prog 117 4).getD default, by kernel_rfl, by refine ⟨?_, ?_, ?_, ?_, ?_⟩ <;> kernel_rfl, by refine ⟨?_, ?_, ?_, ?_, ?_⟩ <;> kernel_rfl, by kernel_rfl, by kernel_rfl⟩

section
variable {H : Type} {enc : TypeId × Value → H} {w : World}
theorem pst_cells {fuel : Nat} {cs : List Value} {x : DataW H × List MemPlace} (hc : cs.length = 5) (h : DataW.trod enc Tryz.prog w 0 (fun _ => true) true fuel 117 cs = some x) : ∃ q : Pst, cs = q.cells := by
  obtain ⟨f0, f1, f2, f3, f4, hu, ⟨t0, t1, t2, t3, t4⟩, ⟨o0, o1, o2, o3, o4⟩, h3, h6⟩ := fields117
  obtain ⟨xs, n, _, _, _, _, ht⟩ := DataW.trod_struct hu h
  obtain ⟨a, b, c, d, e, rfl⟩ : ∃ a b c d e, cs = [a, b, c, d, e] := by
    match cs, hc with
    | [a, b, c, d, e], _ => exact ⟨a, b, c, d, e, rfl⟩
  have ht0 := ht 0 f0 rfl
  have ht1 := ht 1 f1 rfl
  have ht2 := ht 2 f2 rfl
  have ht3 := ht 3 f3 rfl
  have ht4 := ht 4 f4 rfl
  rw [t0, o0, h3] at ht0
  rw [t1, o1, h3] at ht1
  rw [t2, o2, h3] at ht2
  rw [t3, o3, h3] at ht3
  rw [t4, o4, h3] at ht4
  have hlen : xs.length = 5 := by assumption
  rw [List.getElem?_eq_getElem (by omega)] at ht0 ht1 ht2 ht3 ht4
  obtain ⟨z0, hz0⟩ := int_cells (show DataW.trod enc Tryz.prog w 0 (fun _ => true) true n 3 [a] = _ from ht0)
  obtain ⟨z1, hz1⟩ := int_cells (show DataW.trod enc Tryz.prog w 0 (fun _ => true) true n 3 [b] = _ from ht1)
  obtain ⟨z2, hz2⟩ := int_cells (show DataW.trod enc Tryz.prog w 0 (fun _ => true) true n 3 [c] = _ from ht2)
  obtain ⟨z3, hz3⟩ := int_cells (show DataW.trod enc Tryz.prog w 0 (fun _ => true) true n 3 [d] = _ from ht3)
  obtain ⟨z4, hz4⟩ := int_cells (show DataW.trod enc Tryz.prog w 0 (fun _ => true) true n 3 [e] = _ from ht4)
  injection hz0 with hz0 _
  injection hz1 with hz1 _
  injection hz2 with hz2 _
  injection hz3 with hz3 _
  injection hz4 with hz4 _
  exact ⟨⟨z0, z1, z2, z3, z4⟩, by rw [hz0, hz1, hz2, hz3, hz4]; rfl⟩
end
theorem add_at (b o j : Nat) : (⟨b, o, none⟩ : Addr).add j = ⟨b, o + j, none⟩ := by
  unfold Addr.add
  split
  · rename_i h; subst h; rfl
  · rfl
theorem cell_spot {w : World} {p : Addr} {v : Value} (h : w.cell? p = some v) : p.spot = none := by
  unfold World.cell? at h
  split at h
  · split at h
    · cases h
    · rename_i h0; simpa using h0
  · cases h
theorem slice_abs {w : World} {a : Addr} {len cap size d : Nat} {us : List Value} (hl : len ≤ cap) (hc : len ≤ 9223372036854775807) (hus : us.length = len * size) (hsz : 0 < size) (hplain : ∀ (j : Nat) (u : Value), us[j]? = some u → absV w.heap.size 8 u = u) (hcell : ∀ (j : Nat) (u : Value), us[j]? = some u → w.cell? (a.add j) = some u) : Cells (absH w) (absV w.heap.size (d + 1) (.slice (some a) len cap)) size len us := by
  by_cases h0 : len = 0
  · subst h0
    simp only [absV]
    split
    · exact ⟨hus, hc, _, _, rfl, by simp, by omega⟩
    · rw [if_pos trivial]; exact ⟨hus, hc, _, _, rfl, by simp, by omega⟩
  · have hpos : 0 < us.length := by rw [hus]; exact Nat.mul_pos (by omega) hsz
    have h1 := hcell 0 _ (List.getElem?_eq_getElem hpos)
    have e0 : a.add 0 = a := by unfold Addr.add; rw [if_pos rfl]
    rw [e0] at h1
    have hsp := cell_spot h1
    have hlt := cell_lt h1
    obtain ⟨b, o, sp⟩ := a
    simp only at hsp hlt
    subst hsp
    simp only [absV]
    rw [if_pos ⟨trivial, hlt, hl⟩]
    refine ⟨hus, hc, _, _, rfl, by simp, fun _ => ⟨b, o, none, rfl, by rw [absH_n]; exact hlt, fun j u hu => ?_⟩⟩
    have h2 := hcell j u hu
    rw [add_at] at h2
    rw [abs_cell h2, hplain j u hu]
theorem none_abs {w : World} {d size : Nat} : Cells (absH w) (absV w.heap.size (d + 1) (.slice none 0 0)) size 0 [] :=
  ⟨by simp, by omega, none, 0, rfl, fun _ => rfl, by simp⟩
section
variable {H : Type} {enc : TypeId × Value → H} {w : World}
theorem posts_abs0 {fuel d : Nat} {v : Value} {x : DataW H × List MemPlace} (h : DataW.trod enc Tryz.prog w 0 (fun _ => true) true fuel 81 [v] = some x) : ∃ l, Psts (absH w) (absV w.heap.size (d + 1) v) l := by
  rcases open_slice Tryz.underlying81 h with ⟨hcs, _⟩ | ⟨a, len, cap, m, n, D, Pl, hcs, _, hl, hm, hmm, _, hi⟩
  · injection hcs with hcs _
    subst hcs
    exact ⟨[], none_abs⟩
  · injection hcs with hcs _
    subst hcs
    simp only [if_true] at hmm
    obtain ⟨_, _, _, _, _, _, _, _, _, hC⟩ := fields117
    have hq : ∀ i, i < len → ∃ q : Pst, ∀ j u, q.cells[j]? = some u → w.cell? (a.add (i * 5 + j)) = some u := by
      intro i h
      obtain ⟨cs', hc, ht'⟩ := hi i (by omega)
      rw [hC] at hc
      obtain ⟨_, hcl, hat⟩ := World.cells?_some hc
      obtain ⟨q, rfl⟩ := pst_cells hcl ht'
      refine ⟨q, fun j u hu => ?_⟩
      have hj : j < 5 := (List.getElem?_eq_some_iff.1 hu).1
      rw [← Go.Deep.add_add, hat j hj]; exact hu
    obtain ⟨f, hf'⟩ := Classical.skolem.1 (fun i => show ∃ q : Pst, i < len → ∀ j u, q.cells[j]? = some u → w.cell? (a.add (i * 5 + j)) = some u by
      by_cases hi : i < len
      · obtain ⟨q, hq⟩ := hq i hi; exact ⟨q, fun _ => hq⟩
      · exact ⟨⟨0, 0, 0, 0, 0⟩, fun h => absurd h hi⟩)
    have hlen : ((List.range len).map f).length = len := by simp
    refine ⟨(List.range len).map f, ?_⟩
    unfold Psts
    rw [hlen]
    have hget : ∀ j u, (pstCells ((List.range len).map f))[j]? = some u → ∃ k i, k < len ∧ j = k * 5 + i ∧ (f k).cells[i]? = some u := by
      intro j u hu
      have hj : j < len * 5 := by
        have := (List.getElem?_eq_some_iff.1 hu).1
        rw [pstCells_length, hlen] at this; exact this
      have hk : j / 5 < len := by omega
      have hi : j % 5 < 5 := Nat.mod_lt _ (by decide)
      have hcl : (f (j / 5)).cells.length = 5 := rfl
      have h1 := pstCells_get ((List.range len).map f) (j / 5) (by rw [hlen]; exact hk) (j % 5) ((f (j / 5)).cells[j % 5]'(by rw [hcl]; exact hi)) (by simp)
      have e : j / 5 * 5 + j % 5 = j := by omega
      rw [e, hu] at h1
      refine ⟨j / 5, j % 5, hk, e.symm, ?_⟩
      rw [List.getElem?_eq_getElem (by rw [hcl]; exact hi)]
      exact h1.symm ▸ rfl
    refine slice_abs hl (by unfold maxLen at hm; omega) (by rw [pstCells_length, hlen]) (by decide) (fun j u hu => ?_) (fun j u hu => ?_)
    · obtain ⟨k, i, hk, rfl, hi⟩ := hget j u hu
      match i, hi with
      | 0, hi => cases hi; rfl
      | 1, hi => cases hi; rfl
      | 2, hi => cases hi; rfl
      | 3, hi => cases hi; rfl
      | 4, hi => cases hi; rfl
      | i + 5, hi => simp [Pst.cells] at hi
    · obtain ⟨k, i, hk, rfl, hi⟩ := hget j u hu
      exact hf' k hk i u hi
theorem posts_abs {r : Reach} {b0 : Nat} {v : Value} {d : DataW H} {p : List MemPlace} (hval : Value.okWide Tryz.prog w r b0 81 v) (h : DataW.Trod enc Tryz.prog w 0 (fun _ => true) true 81 v d p) : ∃ l, Psts (absH w) (absV w.heap.size 8 v) l := by
  obtain ⟨a, len, cap, rfl⟩ := okWide_slice Tryz.underlying81 hval
  obtain ⟨fuel, hf⟩ := h
  exact posts_abs0 (show DataW.trod enc Tryz.prog w 0 (fun _ => true) true fuel 81 [.slice a len cap] = _ by simpa [Value.cells] using hf)
end
end Go.Proofs.Tryz
namespace Go.Proofs.YtokhhoihalpaoaaGreatDoor
open Go.ChangeShapes Go.WideShapes Go.ChangeAt Go.RowKit Go.Joins Go.Deep Go.Am Go.Proofs.Tryz
set_option maxRecDepth 100000 in
theorem lifted (os : Os) (started : os.Started) (H : Type) (enc : TypeId × Value → H) :
    ReturnsInHanded {} Tryz.checked os 14 .any (fun w args => (Rows.taxLedgersSpec.pre enc Tryz.prog Tryz.f14 [] false w args ∧ laidMetH Tryz.prog Rows.taxLedgersRow.laid w) ∧ sizedMet enc Tryz.prog Tryz.f14 (OpenSpec.ofChange Rows.taxLedgersSpec) false w args)
      (Rows.taxLedgersSpec.post enc Tryz.prog Tryz.f14 false true false false) := by
  refine returnsInHanded_of_change_and (C := Tryz.checked) (X := fun w _ => laidMetH Tryz.prog Rows.taxLedgersRow.laid w) (fun _ _ _ hh h => h.of_heap hh) ownOne started (by kernel_rfl) Tryz.func14
    (ChangeSpec.witness_at (enc := enc) (C := Tryz.checked) (os := os) (X := fun w _ => laidMetH Tryz.prog Rows.taxLedgersRow.laid w) false (laidWorld os) #[.slice none 0 0, .int .i64 0, .int .u16 0, .int .u8 0] 8 rfl (by kernel_rfl) (by kernel_rfl) (by kernel_rfl) (by kernel_rfl) (by kernel_rfl) (laid_metH os _)) ?_
  intro W base args ds gs before hval0 hW _ _ hL _
  have HL := laid_of hL
  have hval : ∀ (j : Nat) t v, Tryz.f14.params[j]? = some t → args[j]? = some v → Value.okWide Tryz.prog W .any base t v := hval0
  have hW' := hW
  obtain ⟨p, q, hA0, hV, rfl, hfz, hnd⟩ := hW
  have hA : DataW.TrodAll enc Tryz.prog W 0 (fun _ => true) true Tryz.f14.params.toList args.toList ds p := hA0
  rw [Tryz.params14] at hA hval
  obtain ⟨v0, vs0, d0, ds0, p0, q0, hargs, rfl, rfl, h0, r0⟩ := trodAll_cons hA
  obtain ⟨v1, vs1, d1, ds1, p1, q1, rfl, rfl, rfl, h1, r1⟩ := trodAll_cons r0
  obtain ⟨v2, vs2, d2, ds2, p2, q2, rfl, rfl, rfl, h2, r2⟩ := trodAll_cons r1
  obtain ⟨v3, vs3, d3, ds3, p3, q3, rfl, rfl, rfl, h3, r3⟩ := trodAll_cons r2
  obtain ⟨rfl, rfl, rfl⟩ := trodAll_nil r3
  obtain rfl : args = #[v0, v1, v2, v3] := by cases args; simp_all
  obtain ⟨rfl, rfl⟩ := trodVars_none hV
  have k0 := h0
  have lt0 : ∀ x ∈ p0, x.block < W.heap.size := by obtain ⟨m, hm⟩ := k0; exact DataW.trod_lt m _ _ _ hm
  have k1 := h1
  have lt1 : ∀ x ∈ p1, x.block < W.heap.size := by obtain ⟨m, hm⟩ := k1; exact DataW.trod_lt m _ _ _ hm
  have k2 := h2
  have lt2 : ∀ x ∈ p2, x.block < W.heap.size := by obtain ⟨m, hm⟩ := k2; exact DataW.trod_lt m _ _ _ hm
  have k3 := h3
  have lt3 : ∀ x ∈ p3, x.block < W.heap.size := by obtain ⟨m, hm⟩ := k3; exact DataW.trod_lt m _ _ _ hm
  obtain ⟨s0, hs0⟩ := posts_abs (hval 0 81 v0 rfl rfl) h0
  obtain ⟨n1, rfl, hd1, hp1, w1⟩ := open_int Tryz.underlying3 (hval 1 3 v1 rfl rfl) h1
  obtain ⟨n2, rfl, hd2, hp2, w2⟩ := open_int Tryz.underlying106 (hval 2 106 v2 rfl rfl) h2
  obtain ⟨n3, rfl, hd3, hp3, w3⟩ := open_int Tryz.underlying5 (hval 3 5 v3 rfl rfl) h3
  clear hA0 hval0
  have hlaw := calls_of_callS (w := W) (args := [v0, .int .i64 n1, .int .u16 n2, .int .u8 n3]) (b := true) (law14 hs0 (u16_in w2) (u8_in w3)) HL
  refine hlaw.mono fun e W' ⟨he, bel⟩ => ?_
  subst he
  exact ⟨_, rfl, _, _, _, [], _, [], hW', trodAll_mk1 (shut_bool Tryz.underlying4 _), (trodAll_cons_mk (Below.trod laidOut (by kernel_rfl) (of_decide_eq_true (by kernel_rfl)) k0 bel lt0) (trodAll_cons_mk (Below.trod laidOut (by kernel_rfl) (of_decide_eq_true (by kernel_rfl)) k1 bel lt1) (trodAll_cons_mk (Below.trod laidOut (by kernel_rfl) (of_decide_eq_true (by kernel_rfl)) k2 bel lt2) (trodAll_cons_mk (Below.trod laidOut (by kernel_rfl) (of_decide_eq_true (by kernel_rfl)) k3 bel lt3) trodAll_mk0)))), rfl, bel.frame _, fun h => by cases h⟩
end Go.Proofs.YtokhhoihalpaoaaGreatDoor
