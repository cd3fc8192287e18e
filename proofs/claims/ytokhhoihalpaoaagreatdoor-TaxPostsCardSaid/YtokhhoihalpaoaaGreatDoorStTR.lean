/- Contracts of functions, walked. -/
import Derived.Test.YtokhhoihalpaoaaGreatDoorChecked
import Derived.Test.YtokhhoihalpaoaaGreatDoorRows
import Derived.Below
import Derived.Carry
import Derived.Deep.Slices
import Derived.Deep.Fields
import Derived.ChangeSame
import Derived.ChangeVars
import Derived.JoinedOf
import Derived.LaidLaws
import Derived.LaidHandle
import Derived.Deep.DeepLaidRun
import Derived.Stop.Joined
import Derived.ProofKit
import Derived.OpenShut
import Derived.LaidMore
import Derived.Lib.SmallJoins
import Derived.Test.YtokhhoihalpaoaaGreatDoorStP4
set_option linter.all false
namespace Go.Proofs.Tryz
open Go Go.Am Go.RowKit
set_option maxRecDepth 100000


set_option maxHeartbeats 8000000 in
theorem refPosts_e {loops : List (Nat × LInfo)} {H : AHeap} {v : Value} {l : List Pst} {acc : Int} (hv : Psts H v l) : CallS Tryz.prog loops 52 [v, .int .i64 acc] H fun r H' => r = .int .i64 (errP l acc) ∧ Ext H H' := by
  obtain ⟨hlen, a, c, rfl⟩ := hv.slice
  have HV := Lib.hid hv
  clear hv
  generalize he : errP l acc = er
  have HE := Lib.hid he
  clear he
  by_cases hw1 : win 1 10 acc = true
  case' neg =>
    have hw0 : win 1 10 acc = false := by simpa using hw1
    refine CallS.enter' Tryz.func52 rfl Tryz.ntmps52 (by simp) fun f hd hf => ?_
    have f0 := hf 0
    have f1 := hf 1
    simp at f0 f1
    clear hf
    have HW0 := Lib.hid hw0
    clear hw1 hw0
    repeat' (first|(with_reducible first|refine zA ?_|refine zB fun K hK=>?_|refine zC fun K2 hK2=>?_|refine zD ?_|refine zE ?_|refine zF ?_|refine zG ?_|refine zH ?_|refine zI ?_|refine zM ?_|refine zN ?_|refine zO ?_|refine zP ?_|refine zQ ?_|refine zR ?_)|((with_reducible refine zU (hK _ _ ?_));clear hK K)|((with_reducible refine zV ?_ ?_ fun K1 K3 d hdst h1 h3=>?_);rfl;exact yB rfl;cases hdst;go_simp)|((with_reducible refine zW fun K1 K3 h1 h3=>?_);go_simp)|((first|refine h1 ?_|refine h3 ?_);clear h1 h3 K1 K3)|((first|refine zX (fun hb=>h1 ?_) (fun hb=>h3 ?_)|refine zX (fun hb=>h3 ?_) (fun hb=>h1 ?_))<;>(clear h1 h3 K1 K3;(try have hb2:=yC hb);(try have hb2:=yD hb);(try have hb2:=yE hb);(try have hb2:=yF hb);(try have hb2:=yG hb)))|(refine fun (K2:_→AHeap→Prop) hK2=>?_)|((with_reducible refine zY ?_ ?_);decide)|((with_reducible first|refine zZ ?_ (fun K hK=>?_)|refine yA ?_ (fun K hK=>?_));(focus go_simp;done);go_simp;refine hK _ _ ?_;clear hK K)|(go_simp;(try go_bits);(try first | ((with_reducible show CallS _ _ _ _ _ _);refine CallS.mono in_s ?_; rw [HW0.out]; rintro _ _ ⟨rfl, rfl⟩));refine hK2 _ _ ?_;clear hK2 K2))
    refine ⟨?_, Ext.refl _⟩
    rw [← HE.out]; simp [errP, HW0.out]
  case' pos =>
    have HW1 := Lib.hid hw1
    have hac := win_iff.1 hw1
    by_cases h80 : 80 < l.length
    case' pos =>
      have h80b : (80 : Int) < (l.length : Int) := by omega
      refine CallS.enter' Tryz.func52 rfl Tryz.ntmps52 (by simp) fun f hd hf => ?_
      have f0 := hf 0
      have f1 := hf 1
      simp at f0 f1
      clear hf hw1 hac
      repeat' (first|(with_reducible first|refine zA ?_|refine zB fun K hK=>?_|refine zC fun K2 hK2=>?_|refine zD ?_|refine zE ?_|refine zF ?_|refine zG ?_|refine zH ?_|refine zI ?_|refine zM ?_|refine zN ?_|refine zO ?_|refine zP ?_|refine zQ ?_|refine zR ?_)|((with_reducible refine zU (hK _ _ ?_));clear hK K)|((with_reducible refine zV ?_ ?_ fun K1 K3 d hdst h1 h3=>?_);rfl;exact yB rfl;cases hdst;go_simp)|((with_reducible refine zW fun K1 K3 h1 h3=>?_);go_simp)|((first|refine h1 ?_|refine h3 ?_);clear h1 h3 K1 K3)|((first|refine zX (fun hb=>h1 ?_) (fun hb=>h3 ?_)|refine zX (fun hb=>h3 ?_) (fun hb=>h1 ?_))<;>(clear h1 h3 K1 K3;(try have hb2:=yC hb);(try have hb2:=yD hb);(try have hb2:=yE hb);(try have hb2:=yF hb);(try have hb2:=yG hb)))|(refine fun (K2:_→AHeap→Prop) hK2=>?_)|((with_reducible refine zY ?_ ?_);decide)|((with_reducible first|refine zZ ?_ (fun K hK=>?_)|refine yA ?_ (fun K hK=>?_));(focus go_simp;done);go_simp;refine hK _ _ ?_;clear hK K)|(go_simp;(try go_bits);(try first | ((with_reducible show CallS _ _ _ _ _ _);refine CallS.mono in_s ?_; rw [HW1.out]; rintro _ _ ⟨rfl, rfl⟩));refine hK2 _ _ ?_;clear hK2 K2))
      refine ⟨?_, Ext.refl _⟩
      rw [← HE.out]; simp [errP, HW1.out, h80]
    have h80b : ¬ (80 : Int) < (l.length : Int) := by omega
    have w1 := wrap_id (n := acc - 1) (by omega)
    refine CallS.enter' Tryz.func52 rfl Tryz.ntmps52 (by simp) fun f hd hf => ?_
    have f0 := hf 0
    have f1 := hf 1
    simp at f0 f1
    clear hf hw1 hac
    repeat' (first|(with_reducible first|refine zA ?_|refine zB fun K hK=>?_|refine zC fun K2 hK2=>?_|refine zD ?_|refine zE ?_|refine zF ?_|refine zG ?_|refine zH ?_|refine zI ?_|refine zM ?_|refine zN ?_|refine zO ?_|refine zP ?_|refine zQ ?_|refine zR ?_)|((with_reducible refine zU (hK _ _ ?_));clear hK K)|((with_reducible refine zV ?_ ?_ fun K1 K3 d hdst h1 h3=>?_);rfl;exact yB rfl;cases hdst;go_simp)|((with_reducible refine zW fun K1 K3 h1 h3=>?_);go_simp)|((first|refine h1 ?_|refine h3 ?_);clear h1 h3 K1 K3)|((first|refine zX (fun hb=>h1 ?_) (fun hb=>h3 ?_)|refine zX (fun hb=>h3 ?_) (fun hb=>h1 ?_))<;>(clear h1 h3 K1 K3;(try have hb2:=yC hb);(try have hb2:=yD hb);(try have hb2:=yE hb);(try have hb2:=yF hb);(try have hb2:=yG hb)))|(refine fun (K2:_→AHeap→Prop) hK2=>?_)|((with_reducible refine zY ?_ ?_);decide)|((with_reducible first|refine zZ ?_ (fun K hK=>?_)|refine yA ?_ (fun K hK=>?_));(focus go_simp;done);go_simp;refine hK _ _ ?_;clear hK K)|(go_simp;(try go_bits);(try first | ((with_reducible show CallS _ _ _ _ _ _);refine CallS.mono in_s ?_; rw [HW1.out]; rintro _ _ ⟨rfl, h9⟩; rw [h9]; clear h9; go_simp));refine hK2 _ _ ?_;clear hK2 K2))
    have HE2 : Hid (errGoP acc [] l = er) := Lib.hid (by rw [← HE.out]; simp [errP, HW1.out, h80])
    clear HE h80 h80b
    refine CodeS.loop (fun m f H' => ∃ (k : Nat), k ≤ l.length ∧ m = l.length - k ∧ f.tmp 5 = .int .i64 k ∧ f.tmp 0 = .slice a l.length c ∧ f.tmp 1 = .int .i64 acc ∧ f.defers = [] ∧ Hid (errGoP acc ((l.take k).map (·.id)) (l.drop k) = er) ∧ Ext H H') l.length ?_ ?_
    · exact ⟨0, by simp, by simp, (by first|go_simp<;>go_num|assumption), (by first|go_simp<;>go_num|assumption), (by first|go_simp<;>go_num|assumption), (by first|go_simp<;>go_num|assumption), Lib.hid (by simpa using HE2.out), Ext.refl _⟩
    clear f0 f1 hd HE2 f
    rintro m f H' ⟨k, hk, rfl, f5, f0, f1, hd, HG, hx⟩
    have HX := Lib.hid hx
    clear hx
    by_cases hlt : k < l.length
    · obtain ⟨b, o, sp, rfl, hb, hx5, hxc⟩ := (HV.out.ext HX.out).at_ hlt
      have HD := Lib.hid (List.drop_eq_getElem_cons hlt)
      have HT := Lib.hid (List.take_succ_eq_append_getElem hlt)
      generalize l[k] = p at hx5 hxc HD HT
      obtain ⟨i, dy, fr, to, co⟩ := p
      simp only [Pst.cells] at hx5
      clear hxc
      by_cases hr : (⟨i, dy, fr, to, co⟩ : Pst).right acc = true
      case' neg =>
        have hn : ¬ (win 1 1099511627776 i = true ∧ win 0 730 dy = true ∧ win 0 (acc - 1) fr = true ∧ win 0 (acc - 1) to = true ∧ win 1 1099511627776 co = true ∧ ¬ fr = to) := by
          rintro ⟨a1, a2, a3, a4, a5, a6⟩
          exact hr (by simp [Pst.right, a1, a2, a3, a4, a5, a6])
        have hrf : (⟨i, dy, fr, to, co⟩ : Pst).right acc = false := by simpa using hr
        have HN := Lib.hid hn
        have HRF := Lib.hid hrf
        have HI1 := Lib.hid (fun (loops : List (Nat × LInfo)) (H2 : AHeap) => in_s (loops := loops) (H := H2) (n := i) (lo := 1) (hi := 1099511627776))
        clear hn hrf hr
        repeat' (first|(with_reducible first|refine zA ?_|refine zB fun K hK=>?_|refine zC fun K2 hK2=>?_|refine zD ?_|refine zE ?_|refine zF ?_|refine zG ?_|refine zH ?_|refine zI ?_|refine zM ?_|refine zN ?_|refine zO ?_|refine zP ?_|refine zQ ?_|refine zR ?_)|((with_reducible refine zU (hK _ _ ?_));clear hK K)|((with_reducible refine zV ?_ ?_ fun K1 K3 d hdst h1 h3=>?_);rfl;exact yB rfl;cases hdst;go_simp)|((with_reducible refine zW fun K1 K3 h1 h3=>?_);go_simp)|((first|refine h1 ?_|refine h3 ?_);clear h1 h3 K1 K3)|((first|refine zX (fun hb=>h1 ?_) (fun hb=>h3 ?_)|refine zX (fun hb=>h3 ?_) (fun hb=>h1 ?_))<;>(clear h1 h3 K1 K3;(try have hb2:=yC hb);(try have hb2:=yD hb);(try have hb2:=yE hb);(try have hb2:=yF hb);(try have hb2:=yG hb)))|(refine fun (K2:_→AHeap→Prop) hK2=>?_)|((with_reducible refine zY ?_ ?_);decide)|((with_reducible first|refine zZ ?_ (fun K hK=>?_)|refine yA ?_ (fun K hK=>?_));(focus go_simp;done);go_simp;refine hK _ _ ?_;clear hK K)|(go_simp;(try go_bits);(try first | ((with_reducible show CallS _ _ _ _ _ _);refine CallS.mono in_s ?_; rintro _ _ ⟨rfl, h9⟩; rw [h9]; clear h9; go_simp));refine hK2 _ _ ?_;clear hK2 K2))
        all_goals first | (refine ⟨?_, HX.out.push' _⟩; rw [← HG.out, HD.out, errGoP, if_pos HRF.out]; done) | (exfalso; have := HN.out; simp_all; done)
      case' pos =>
        have hrr := hr
        simp only [Pst.right, Bool.and_eq_true, Bool.not_eq_true', decide_eq_false_iff_not] at hr
        obtain ⟨a1, a2, a3, a4, a5, a6⟩ := hr
        have a6b : (fr == to) = false := by simpa using a6
        have HRT := Lib.hid hrr
        clear hrr a6
        repeat' (first|(with_reducible first|refine zA ?_|refine zB fun K hK=>?_|refine zC fun K2 hK2=>?_|refine zD ?_|refine zE ?_|refine zF ?_|refine zG ?_|refine zH ?_|refine zI ?_|refine zM ?_|refine zN ?_|refine zO ?_|refine zP ?_|refine zQ ?_|refine zR ?_)|((with_reducible refine zU (hK _ _ ?_));clear hK K)|((with_reducible refine zV ?_ ?_ fun K1 K3 d hdst h1 h3=>?_);rfl;exact yB rfl;cases hdst;go_simp)|((with_reducible refine zW fun K1 K3 h1 h3=>?_);go_simp)|((first|refine h1 ?_|refine h3 ?_);clear h1 h3 K1 K3)|((first|refine zX (fun hb=>h1 ?_) (fun hb=>h3 ?_)|refine zX (fun hb=>h3 ?_) (fun hb=>h1 ?_))<;>(clear h1 h3 K1 K3;(try have hb2:=yC hb);(try have hb2:=yD hb);(try have hb2:=yE hb);(try have hb2:=yF hb);(try have hb2:=yG hb)))|(refine fun (K2:_→AHeap→Prop) hK2=>?_)|((with_reducible refine zY ?_ ?_);decide)|((with_reducible first|refine zZ ?_ (fun K hK=>?_)|refine yA ?_ (fun K hK=>?_));(focus go_simp;done);go_simp;refine hK _ _ ?_;clear hK K)|(go_simp;(try go_bits);(try first | ((with_reducible show CallS _ _ _ _ _ _);refine CallS.mono in_s ?_; rintro _ _ ⟨rfl, h9⟩; rw [h9]; clear h9; go_simp));refine hK2 _ _ ?_;clear hK2 K2))
        clear a1 a2 a3 a4 a5 a6b
        refine CodeS.loop (fun m f H2 => ∃ j : Nat, j ≤ k ∧ m = k - j ∧ f.tmp 7 = .int .i64 j ∧ f.tmp 5 = .int .i64 k ∧ f.tmp 0 = .slice (some ⟨b, o, sp⟩) l.length c ∧ f.tmp 1 = .int .i64 acc ∧ f.tmp 6 = .pointer (some ⟨H'.n, 0, none⟩) ∧ f.defers = [] ∧ Hid (decide (i ∈ ((l.take k).drop j).map (·.id)) = decide (i ∈ (l.take k).map (·.id))) ∧ H2 = H'.push (.row [.int .i64 i, .int .i64 dy, .int .i64 fr, .int .i64 to, .int .i64 co] 117)) k ?_ ?_
        · exact ⟨0, by omega, by omega, (by first|go_simp<;>go_num|assumption), (by first|go_simp<;>go_num|assumption), (by first|go_simp<;>go_num|assumption), (by first|go_simp<;>go_num|assumption), (by first|go_simp<;>go_num|assumption), (by first|go_simp<;>go_num|assumption), Lib.hid (by simp), rfl⟩
        clear f0 f1 f5 hd f
        rintro m f H2 ⟨j, hj, rfl, f7, f5, f0, f1, f6, hd, HG2, rfl⟩
        have HX2 : Hid (Ext H (H'.push (.row [.int .i64 i, .int .i64 dy, .int .i64 fr, .int .i64 to, .int .i64 co] 117))) := Lib.hid (HX.out.push' _)
        by_cases hlt2 : j < k
        · obtain ⟨b2, o2, sp2, e2, hb2, -, hxd⟩ := (HV.out.ext HX2.out).at_ (show j < l.length by omega)
          cases e2
          have hq0 := hxd 0 _ rfl
          have HD2 : Hid ((l.take k).drop j = l[j]'(by omega) :: (l.take k).drop (j + 1)) := Lib.hid (by
            rw [List.drop_eq_getElem_cons (by rw [List.length_take]; omega)]; simp)
          generalize l[j]'(by omega) = q at hq0 HD2 hxd
          obtain ⟨qi, qd, qf, qt, qc⟩ := q
          simp only [Nat.add_zero] at hq0
          clear hxd hx5
          have hjb : (j : Int) < (k : Int) := by omega
          have hjl : j < l.length := by omega
          have w2 := wrap_id (n := (j : Int) + 1) (by omega)
          repeat' (first|(with_reducible first|refine zA ?_|refine zB fun K hK=>?_|refine zC fun K2 hK2=>?_|refine zD ?_|refine zE ?_|refine zF ?_|refine zG ?_|refine zH ?_|refine zI ?_|refine zM ?_|refine zN ?_|refine zO ?_|refine zP ?_|refine zQ ?_|refine zR ?_)|((with_reducible refine zU (hK _ _ ?_));clear hK K)|((with_reducible refine zV ?_ ?_ fun K1 K3 d hdst h1 h3=>?_);rfl;exact yB rfl;cases hdst;go_simp)|((with_reducible refine zW fun K1 K3 h1 h3=>?_);go_simp)|((first|refine h1 ?_|refine h3 ?_);clear h1 h3 K1 K3)|((first|refine zX (fun hb=>h1 ?_) (fun hb=>h3 ?_)|refine zX (fun hb=>h3 ?_) (fun hb=>h1 ?_))<;>(clear h1 h3 K1 K3;(try have hb2:=yC hb);(try have hb2:=yD hb);(try have hb2:=yE hb);(try have hb2:=yF hb);(try have hb2:=yG hb)))|(refine fun (K2:_→AHeap→Prop) hK2=>?_)|((with_reducible refine zY ?_ ?_);decide)|((with_reducible first|refine zZ ?_ (fun K hK=>?_)|refine yA ?_ (fun K hK=>?_));(focus go_simp;done);go_simp;refine hK _ _ ?_;clear hK K)|((with_reducible refine yH mixed rfl ?_ 20 fun K0 hK0=>?_);kernel_rfl)|(with_reducible first|exact yI|exact yJ|refine yK ?_|refine yL ?_|refine yM ?_)|((with_reducible first|refine yN ?_ ?_|refine yO ?_ ?_|refine yP ?_ ?_);rfl)|((with_reducible refine yQ ?_ ?_);rfl;refine hK0 _ _ ?_;clear hK0 K0)|((with_reducible refine yR ?_ ?_ ?_ ?_);rfl;rfl;rfl)|((with_reducible refine yS ?_ ?_ ?_ fun K2 hK2=>?_);rfl;rfl;exact yB rfl)|((with_reducible refine yT ?_ ?_ ?_ ?_ fun K1 K3 d hdst h1 h3=>?_);rfl;rfl;rfl;exact yB rfl;cases hdst;go_simp)|((with_reducible refine yU ?_ ?_ ?_ ?_ fun K1 K3 d hdst h1 h3=>?_);rfl;rfl;rfl;exact yB rfl;cases hdst;go_simp)|((with_reducible refine yV ?_ ?_ (fun K2 hK2=>?_) ?_);rfl;exact yB rfl)|((with_reducible refine yW ?_ ?_ ?_ ?_ (fun K2 hK2=>?_) ?_);rfl;exact yB rfl;rfl;(focus go_simp;done))|((with_reducible refine yX ?_ ?_ ?_ (fun K2 hK2=>?_) ?_);rfl;rfl;exact yB rfl)|((with_reducible refine yY ?_ ?_ (fun K2 hK2=>?_) ?_);rfl;rfl)|((with_reducible refine yZ ?_ ?_);(first|rfl|(dsimp only;decide +kernel)))|((with_reducible refine xA ?_ ?_);(focus go_simp;done))|(go_simp;(try go_bits);(first|(refine hK2 _ _ ?_ ?_<;>clear hK2 K2)|(refine hK2 _ _ ?_;clear hK2 K2))))
          all_goals first
            | (refine ⟨?_, HX2.out⟩
               have hqi : qi = i := by simpa using ‹(qi == i) = true›
               have hin : i ∈ (l.take k).map (·.id) := by
                 have h9 := HG2.out
                 rw [HD2.out, hqi] at h9
                 exact of_decide_eq_true (h9.symm.trans (by simp))
               rw [← HG.out, HD.out, errGoP, if_neg (by simp [HRT.out]), if_pos hin]
               done)
            | (have hqi : ¬ qi = i := by simpa using ‹(qi == i) = false›
               refine Post.round_normal ⟨k - (j + 1), by omega, j + 1, by omega, rfl, (by first|go_simp<;>go_num|assumption), (by first|go_simp<;>go_num|assumption), (by first|go_simp<;>go_num|assumption), (by first|go_simp<;>go_num|assumption), (by first|go_simp<;>go_num|assumption), (by first|go_simp<;>go_num|assumption), Lib.hid ?_, rfl⟩
               rw [← HG2.out, HD2.out]
               simp [show ¬ i = qi from fun h => hqi h.symm])
        · have hjb : ¬ (j : Int) < (k : Int) := by omega
          have w2 := wrap_id (n := (k : Int) + 1) (by omega)
          repeat' (first|(with_reducible first|refine zA ?_|refine zB fun K hK=>?_|refine zC fun K2 hK2=>?_|refine zD ?_|refine zE ?_|refine zF ?_|refine zG ?_|refine zH ?_|refine zI ?_|refine zM ?_|refine zN ?_|refine zO ?_|refine zP ?_|refine zQ ?_|refine zR ?_)|((with_reducible refine zU (hK _ _ ?_));clear hK K)|((with_reducible refine zV ?_ ?_ fun K1 K3 d hdst h1 h3=>?_);rfl;exact yB rfl;cases hdst;go_simp)|((with_reducible refine zW fun K1 K3 h1 h3=>?_);go_simp)|((first|refine h1 ?_|refine h3 ?_);clear h1 h3 K1 K3)|((first|refine zX (fun hb=>h1 ?_) (fun hb=>h3 ?_)|refine zX (fun hb=>h3 ?_) (fun hb=>h1 ?_))<;>(clear h1 h3 K1 K3;(try have hb2:=yC hb);(try have hb2:=yD hb);(try have hb2:=yE hb);(try have hb2:=yF hb);(try have hb2:=yG hb)))|(refine fun (K2:_→AHeap→Prop) hK2=>?_)|((with_reducible refine zY ?_ ?_);decide)|((with_reducible first|refine zZ ?_ (fun K hK=>?_)|refine yA ?_ (fun K hK=>?_));(focus go_simp;done);go_simp;refine hK _ _ ?_;clear hK K)|(go_simp;(try go_bits);refine hK2 _ _ ?_;clear hK2 K2))
          have hin : i ∉ (l.take k).map (·.id) := by
            have h9 := HG2.out
            rw [List.drop_eq_nil_of_le (by rw [List.length_take]; omega)] at h9
            exact of_decide_eq_false (h9.symm.trans (by simp))
          refine Post.round_normal ⟨l.length - (k + 1), by omega, k + 1, by omega, rfl, (by first|go_simp<;>go_num|assumption), (by first|go_simp<;>go_num|assumption), (by first|go_simp<;>go_num|assumption), (by first|go_simp<;>go_num|assumption), Lib.hid ?_, HX2.out⟩
          rw [← HG.out, HD.out, HT.out, errGoP, if_neg (by simp [HRT.out]), if_neg hin]; simp
    · repeat' (first|(with_reducible first|refine zA ?_|refine zB fun K hK=>?_|refine zC fun K2 hK2=>?_|refine zD ?_|refine zE ?_|refine zF ?_|refine zG ?_|refine zH ?_|refine zI ?_|refine zM ?_|refine zN ?_|refine zO ?_|refine zP ?_|refine zQ ?_|refine zR ?_)|((with_reducible refine zU (hK _ _ ?_));clear hK K)|((with_reducible refine zV ?_ ?_ fun K1 K3 d hdst h1 h3=>?_);rfl;exact yB rfl;cases hdst;go_simp)|((with_reducible refine zW fun K1 K3 h1 h3=>?_);go_simp)|((first|refine h1 ?_|refine h3 ?_);clear h1 h3 K1 K3)|((first|refine zX (fun hb=>h1 ?_) (fun hb=>h3 ?_)|refine zX (fun hb=>h3 ?_) (fun hb=>h1 ?_))<;>(clear h1 h3 K1 K3;(try have hb2:=yC hb);(try have hb2:=yD hb);(try have hb2:=yE hb);(try have hb2:=yF hb);(try have hb2:=yG hb)))|(refine fun (K2:_→AHeap→Prop) hK2=>?_)|((with_reducible refine zY ?_ ?_);decide)|((with_reducible first|refine zZ ?_ (fun K hK=>?_)|refine yA ?_ (fun K hK=>?_));(focus go_simp;done);go_simp;refine hK _ _ ?_;clear hK K)|(go_simp;(try go_bits);refine hK2 _ _ ?_;clear hK2 K2))
      refine ⟨?_, HX.out⟩
      rw [← HG.out, List.drop_eq_nil_of_le (by omega)]; rfl
theorem refPosts_s {loops : List (Nat × LInfo)} {H : AHeap} {v : Value} {l : List Pst} {acc : Int} (hv : Psts H v l) : CallS Tryz.prog loops 52 [v, .int .i64 acc] H fun r H' => r = .int .i64 (errP l acc) ∧ H' = H :=
  (refPosts_e hv).forget (R := fun v => v = .int .i64 (errP l acc)) (by rintro v rfl; rfl)
end Go.Proofs.Tryz
namespace Go.Proofs.Tryz
open Go Go.Am Go.RowKit
set_option maxRecDepth 100000


theorem balance_s {loops : List (Nat × LInfo)} {H : AHeap} {v : Value} {l : List Pst} {acc day : Int} (hv : Psts H v l) (hco : Coined l) : CallS Tryz.prog loops 108 [v, .int .i64 acc, .int .i64 day] H fun r H' => r = .int .i64 (bal l acc day) ∧ H' = H := by
  refine CallS.forget (R := fun r => r = .int .i64 (bal l acc day)) (by rintro v rfl; rfl) ?_
  obtain ⟨hlen, a, c, rfl⟩ := hv.slice
  have HV := Lib.hid hv
  have HC := Lib.hid hco
  clear hv hco
  refine CallS.enter' Tryz.func108 rfl Tryz.ntmps108 (by simp) fun f hd hf => ?_
  have f0 := hf 0
  have f1 := hf 1
  have f2 := hf 2
  simp at f0 f1 f2
  clear hf
  repeat' (first|(with_reducible first|refine zA ?_|refine zB fun K hK=>?_|refine zC fun K2 hK2=>?_|refine zD ?_|refine zE ?_|refine zF ?_|refine zG ?_|refine zH ?_|refine zI ?_|refine zM ?_|refine zN ?_|refine zO ?_|refine zP ?_|refine zQ ?_|refine zR ?_)|((with_reducible refine zU (hK _ _ ?_));clear hK K)|((with_reducible refine zV ?_ ?_ fun K1 K3 d hdst h1 h3=>?_);rfl;exact yB rfl;cases hdst;go_simp)|((with_reducible refine zW fun K1 K3 h1 h3=>?_);go_simp)|((first|refine h1 ?_|refine h3 ?_);clear h1 h3 K1 K3)|((first|refine zX (fun hb=>h1 ?_) (fun hb=>h3 ?_)|refine zX (fun hb=>h3 ?_) (fun hb=>h1 ?_))<;>(clear h1 h3 K1 K3;(try have hb2:=yC hb);(try have hb2:=yD hb);(try have hb2:=yE hb);(try have hb2:=yF hb);(try have hb2:=yG hb)))|(refine fun (K2:_→AHeap→Prop) hK2=>?_)|((with_reducible refine zY ?_ ?_);decide)|((with_reducible first|refine zZ ?_ (fun K hK=>?_)|refine yA ?_ (fun K hK=>?_));(focus go_simp;done);go_simp;refine hK _ _ ?_;clear hK K)|(go_simp;(try go_bits);refine hK2 _ _ ?_;clear hK2 K2))
  refine CodeS.loop (fun m f H' => ∃ k : Nat, k ≤ l.length ∧ m = l.length - k ∧ f.tmp 8 = .int .i64 k ∧ f.tmp 0 = .slice a l.length c ∧ f.tmp 1 = .int .i64 acc ∧ f.tmp 2 = .int .i64 day ∧ f.tmp 7 = .int .i64 (bal (l.take k) acc day) ∧ f.defers = [] ∧ Ext H H') l.length ?_ ?_
  · exact ⟨0, by simp, by simp, (by first|go_simp<;>go_num|assumption), (by first|go_simp<;>go_num|assumption), (by first|go_simp<;>go_num|assumption), (by first|go_simp<;>go_num|assumption), (by first|go_simp<;>go_num|assumption), (by first|go_simp<;>go_num|assumption), Ext.refl _⟩
  clear f0 f1 f2 hd f
  rintro m f H' ⟨k, hk, rfl, f8, f0, f1, f2, f7, hd, hx⟩
  have HX := Lib.hid hx
  clear hx
  by_cases hlt : k < l.length
  · obtain ⟨b, o, sp, rfl, hb, hx5, hxc⟩ := (HV.out.ext HX.out).at_ hlt
    have HT := Lib.hid (List.take_succ_eq_append_getElem hlt)
    have hb0 := bal_take HC.out k acc day
    have hp := HC.out.pos _ (List.getElem_mem hlt)
    have HS := Lib.hid (bal_snoc (l.take k) l[k] acc day)
    generalize l[k] = p at hx5 hxc HT hp HS
    generalize bal (l.take k) acc day = s at f7 HS hb0
    obtain ⟨i, dy, fr, to, co⟩ := p
    simp only [Pst.cells] at hx5
    have hc1 := hxc 1 _ rfl
    have hc2 := hxc 2 _ rfl
    have hc3 := hxc 3 _ rfl
    have hc4 := hxc 4 _ rfl
    clear hxc
    simp only at hp
    have w1 := wrap_id (n := s + co) (by omega)
    have w2 := wrap_id (n := s - co) (by omega)
    have w3 := wrap_id (n := s + co - co) (by omega)
    have w5 := wrap_id (n := s) (by omega)
    have w4 := wrap_id (n := (k : Int) + 1) (by omega)
    have HS2 : Hid (bal (l.take (k + 1)) acc day = s + (if day < dy then 0 else (if to = acc then co else 0) - (if fr = acc then co else 0))) := Lib.hid (by rw [HT.out, HS.out]; rfl)
    clear hp hb0 HS HT
    by_cases g1 : day < dy
    · rw [if_pos g1] at HS2
      repeat' (first|(with_reducible first|refine zA ?_|refine zB fun K hK=>?_|refine zC fun K2 hK2=>?_|refine zD ?_|refine zE ?_|refine zF ?_|refine zG ?_|refine zH ?_|refine zI ?_|refine zM ?_|refine zN ?_|refine zO ?_|refine zP ?_|refine zQ ?_|refine zR ?_)|((with_reducible refine zU (hK _ _ ?_));clear hK K)|((with_reducible refine zV ?_ ?_ fun K1 K3 d hdst h1 h3=>?_);rfl;exact yB rfl;cases hdst;go_simp)|((with_reducible refine zW fun K1 K3 h1 h3=>?_);go_simp)|((first|refine h1 ?_|refine h3 ?_);clear h1 h3 K1 K3)|((first|refine zX (fun hb=>h1 ?_) (fun hb=>h3 ?_)|refine zX (fun hb=>h3 ?_) (fun hb=>h1 ?_))<;>(clear h1 h3 K1 K3;(try have hb2:=yC hb);(try have hb2:=yD hb);(try have hb2:=yE hb);(try have hb2:=yF hb);(try have hb2:=yG hb)))|(refine fun (K2:_→AHeap→Prop) hK2=>?_)|((with_reducible refine zY ?_ ?_);decide)|((with_reducible first|refine zZ ?_ (fun K hK=>?_)|refine yA ?_ (fun K hK=>?_));(focus go_simp;done);go_simp;refine hK _ _ ?_;clear hK K)|(go_simp;(try go_bits);refine hK2 _ _ ?_;clear hK2 K2))
      exact Post.round_normal ⟨l.length - (k + 1), by omega, k + 1, by omega, rfl, (by first|go_simp<;>go_num|assumption), (by first|go_simp<;>go_num|assumption), (by first|go_simp<;>go_num|assumption), (by first|go_simp<;>go_num|assumption), (by rw [HS2.out]; simp; go_simp), (by first|go_simp<;>go_num|assumption), HX.out⟩
    · rw [if_neg g1] at HS2
      repeat' (first|(with_reducible first|refine zA ?_|refine zB fun K hK=>?_|refine zC fun K2 hK2=>?_|refine zD ?_|refine zE ?_|refine zF ?_|refine zG ?_|refine zH ?_|refine zI ?_|refine zM ?_|refine zN ?_|refine zO ?_|refine zP ?_|refine zQ ?_|refine zR ?_)|((with_reducible refine zU (hK _ _ ?_));clear hK K)|((with_reducible refine zV ?_ ?_ fun K1 K3 d hdst h1 h3=>?_);rfl;exact yB rfl;cases hdst;go_simp)|((with_reducible refine zW fun K1 K3 h1 h3=>?_);go_simp)|((first|refine h1 ?_|refine h3 ?_);clear h1 h3 K1 K3)|((first|refine zX (fun hb=>h1 ?_) (fun hb=>h3 ?_)|refine zX (fun hb=>h3 ?_) (fun hb=>h1 ?_))<;>(clear h1 h3 K1 K3;(try have hb2:=yC hb);(try have hb2:=yD hb);(try have hb2:=yE hb);(try have hb2:=yF hb);(try have hb2:=yG hb)))|(refine fun (K2:_→AHeap→Prop) hK2=>?_)|((with_reducible refine zY ?_ ?_);decide)|((with_reducible first|refine zZ ?_ (fun K hK=>?_)|refine yA ?_ (fun K hK=>?_));(focus go_simp;done);go_simp;refine hK _ _ ?_;clear hK K)|(go_simp;(try go_bits);refine hK2 _ _ ?_;clear hK2 K2))
      all_goals (
        have HV2 := HS2.out
        refine Post.round_normal ⟨l.length - (k + 1), by omega, k + 1, by omega, rfl, (by first|go_simp<;>go_num|assumption), (by first|go_simp<;>go_num|assumption), (by first|go_simp<;>go_num|assumption), (by first|go_simp<;>go_num|assumption), ?_, (by first|go_simp<;>go_num|assumption), HX.out⟩
        rw [HV2]
        (focus first | (go_simp; done) | (go_simp; simp_all; done) | (go_simp; simp_all; omega)))
  · repeat' (first|(with_reducible first|refine zA ?_|refine zB fun K hK=>?_|refine zC fun K2 hK2=>?_|refine zD ?_|refine zE ?_|refine zF ?_|refine zG ?_|refine zH ?_|refine zI ?_|refine zM ?_|refine zN ?_|refine zO ?_|refine zP ?_|refine zQ ?_|refine zR ?_)|((with_reducible refine zU (hK _ _ ?_));clear hK K)|((with_reducible refine zV ?_ ?_ fun K1 K3 d hdst h1 h3=>?_);rfl;exact yB rfl;cases hdst;go_simp)|((with_reducible refine zW fun K1 K3 h1 h3=>?_);go_simp)|((first|refine h1 ?_|refine h3 ?_);clear h1 h3 K1 K3)|((first|refine zX (fun hb=>h1 ?_) (fun hb=>h3 ?_)|refine zX (fun hb=>h3 ?_) (fun hb=>h1 ?_))<;>(clear h1 h3 K1 K3;(try have hb2:=yC hb);(try have hb2:=yD hb);(try have hb2:=yE hb);(try have hb2:=yF hb);(try have hb2:=yG hb)))|(refine fun (K2:_→AHeap→Prop) hK2=>?_)|((with_reducible refine zY ?_ ?_);decide)|((with_reducible first|refine zZ ?_ (fun K hK=>?_)|refine yA ?_ (fun K hK=>?_));(focus go_simp;done);go_simp;refine hK _ _ ?_;clear hK K)|(go_simp;(try go_bits);refine hK2 _ _ ?_;clear hK2 K2))
    refine ⟨?_, HX.out⟩
    rw [List.take_of_length_le (by omega)]
end Go.Proofs.Tryz
namespace Go.Proofs.Tryz
open Go Go.Am Go.RowKit
set_option maxRecDepth 100000


theorem oneV_ints : ∀ l : List Int, (l.map (Value.int .i64)).all oneV = true
  | [] => rfl
  | _ :: l => by rw [List.map_cons, List.all_cons, oneV_ints l]; rfl
theorem own_ints {H : AHeap} {base : Nat} {v : Value} {xs : List Int} (h : Own H base v 3 1 (xs.map (Value.int .i64))) (hl : xs.length ≤ 1000) : Ints H v xs := by
  rcases h with ⟨rfl, h⟩ | ⟨b, n, rfl, h1, h2, h3, h4, h5⟩
  · have : xs = [] := by simpa using h
    subst this
    exact ⟨rfl, by simp, none, 0, rfl, fun _ => rfl, by simp⟩
  · rw [List.length_map, Nat.mul_one] at h4
    subst h4
    refine ⟨by simp, by omega, _, _, rfl, (fun h => by cases h), fun _ => ⟨b, 0, none, rfl, h2, fun j u hu => ?_⟩⟩
    simp only [cellAt, h3, Nat.zero_add]; exact hu
theorem ints_nil {H : AHeap} {a : Option Addr} {c : Nat} (h : a = none → c = 0) : Ints H (.slice a 0 c) [] := ⟨rfl, Nat.zero_le _, a, c, rfl, h, fun h => absurd h (Nat.lt_irrefl 0)⟩
theorem own_sliceP {H : AHeap} {base : Nat} {v : Value} {e : TypeId} {size : Nat} {cells : List Value} (h : Own H base v e size cells) : ∃ a n, v = .slice a n n := by
  rcases h with ⟨rfl, _⟩ | ⟨b, n, rfl, _⟩
  · exact ⟨none, 0, rfl⟩
  · exact ⟨_, n, rfl⟩

structure GoodL (l : List Pst) (acc : Int) : Prop where
  bd : 1 ≤ acc ∧ acc ≤ 10
  len : l.length ≤ 80
  right : ∀ p ∈ l, p.right acc = true
theorem errGoP_ok (acc : Int) : ∀ (l : List Pst) (seen : List Int), errGoP acc seen l = 0 → ∀ p ∈ l, p.right acc = true
  | [], _, _, p, hp => by cases hp
  | a :: l, seen, h, p, hp => by
    rw [errGoP] at h
    split at h
    · cases h
    · rename_i h1
      split at h
      · cases h
      · rcases List.mem_cons.1 hp with rfl | hp
        · simpa using h1
        · exact errGoP_ok acc l _ h p hp
theorem goodL {l : List Pst} {acc : Int} (h : errP l acc = 0) : GoodL l acc := by
  unfold errP at h
  split at h
  · cases h
  · rename_i h1
    split at h
    · cases h
    · rename_i h2
      exact ⟨win_iff.1 (by simpa using h1), by omega, errGoP_ok acc l [] h⟩
theorem GoodL.coined {l : List Pst} {acc : Int} (h : GoodL l acc) : Coined l := ⟨by have := h.len; omega, fun p hp => by
  have := h.right p hp
  simp only [Pst.right, Bool.and_eq_true, win_iff] at this
  omega⟩

def balL (l : List Pst) (A : Nat) (day : Int) : List Int := (List.range A).map fun (i : Nat) => bal l i day
theorem balL_succ (l : List Pst) (A : Nat) (day : Int) : balL l (A + 1) day = balL l A day ++ [bal l A day] := by simp [balL, List.range_succ]
theorem balL_len (l : List Pst) (A : Nat) (day : Int) : (balL l A day).length = A := by simp [balL]
def errB (l : List Pst) (acc day : Int) : Int := if errP l acc ≠ 0 then errP l acc else if win 0 730 day = true then 0 else 1
def balR (l : List Pst) (acc day : Int) : List Int := if errB l acc day = 0 then balL l acc.toNat day else []

set_option maxHeartbeats 4000000 in
theorem balances_e {loops : List (Nat × LInfo)} {H : AHeap} {v : Value} {l : List Pst} {acc day : Int} (hv : Psts H v l) : CallS Tryz.prog loops 47 [v, .int .i64 acc, .int .i64 day] H fun r H' => (∃ a n c, r = .tuple #[.slice a n c, .int .i64 (errB l acc day)] ∧ Ints H' (.slice a n c) (balR l acc day)) ∧ Ext H H' := by
  have HCK := Lib.hid (fun (loops : List (Nat × LInfo)) => checkPosts_s (loops := loops) (acc := acc) hv)
  obtain ⟨hlen, a, c, rfl⟩ := hv.slice
  have HV := Lib.hid hv
  clear hv
  unfold balR errB
  by_cases h0 : errP l acc = 0
  case' neg =>
    rw [if_pos h0, if_neg h0]
    have h0b : (errP l acc != 0) = true := by simpa using h0
    generalize errP l acc = er at HCK h0b
    clear h0
    refine CallS.enter' Tryz.func47 rfl Tryz.ntmps47 (by simp) fun f hd hf => ?_
    have f0 := hf 0
    have f1 := hf 1
    have f2 := hf 2
    simp at f0 f1 f2
    clear hf
    repeat' (first|(with_reducible first|refine zA ?_|refine zB fun K hK=>?_|refine zC fun K2 hK2=>?_|refine zD ?_|refine zE ?_|refine zF ?_|refine zG ?_|refine zH ?_|refine zI ?_|refine zM ?_|refine zN ?_|refine zO ?_|refine zP ?_|refine zQ ?_|refine zR ?_)|((with_reducible refine zU (hK _ _ ?_));clear hK K)|((with_reducible refine zV ?_ ?_ fun K1 K3 d hdst h1 h3=>?_);rfl;exact yB rfl;cases hdst;go_simp)|((with_reducible refine zW fun K1 K3 h1 h3=>?_);go_simp)|((first|refine h1 ?_|refine h3 ?_);clear h1 h3 K1 K3)|((first|refine zX (fun hb=>h1 ?_) (fun hb=>h3 ?_)|refine zX (fun hb=>h3 ?_) (fun hb=>h1 ?_))<;>(clear h1 h3 K1 K3;(try have hb2:=yC hb);(try have hb2:=yD hb);(try have hb2:=yE hb);(try have hb2:=yF hb);(try have hb2:=yG hb)))|(refine fun (K2:_→AHeap→Prop) hK2=>?_)|((with_reducible refine zY ?_ ?_);decide)|((with_reducible first|refine zZ ?_ (fun K hK=>?_)|refine yA ?_ (fun K hK=>?_));(focus go_simp;done);go_simp;refine hK _ _ ?_;clear hK K)|(go_simp;(try go_bits);(try first | ((with_reducible show CallS _ _ _ _ _ _);refine CallS.mono (HCK.out _) ?_; rintro _ _ ⟨rfl, h9⟩; rw [h9]; clear h9; go_simp));refine hK2 _ _ ?_;clear hK2 K2))
    exact ⟨⟨_, _, _, rfl, ints_nil fun _ => rfl⟩, Ext.refl _⟩
  have hg := goodL h0
  have hco := hg.coined
  rw [if_neg (by simpa using h0)]
  rw [h0] at HCK
  by_cases h1 : win 0 730 day = true
  case' neg =>
    have h1b : win 0 730 day = false := by simpa using h1
    rw [if_neg h1, if_neg (by decide)]
    clear hg hco h1 h0
    refine CallS.enter' Tryz.func47 rfl Tryz.ntmps47 (by simp) fun f hd hf => ?_
    have f0 := hf 0
    have f1 := hf 1
    have f2 := hf 2
    simp at f0 f1 f2
    clear hf
    repeat' (first|(with_reducible first|refine zA ?_|refine zB fun K hK=>?_|refine zC fun K2 hK2=>?_|refine zD ?_|refine zE ?_|refine zF ?_|refine zG ?_|refine zH ?_|refine zI ?_|refine zM ?_|refine zN ?_|refine zO ?_|refine zP ?_|refine zQ ?_|refine zR ?_)|((with_reducible refine zU (hK _ _ ?_));clear hK K)|((with_reducible refine zV ?_ ?_ fun K1 K3 d hdst h1 h3=>?_);rfl;exact yB rfl;cases hdst;go_simp)|((with_reducible refine zW fun K1 K3 h1 h3=>?_);go_simp)|((first|refine h1 ?_|refine h3 ?_);clear h1 h3 K1 K3)|((first|refine zX (fun hb=>h1 ?_) (fun hb=>h3 ?_)|refine zX (fun hb=>h3 ?_) (fun hb=>h1 ?_))<;>(clear h1 h3 K1 K3;(try have hb2:=yC hb);(try have hb2:=yD hb);(try have hb2:=yE hb);(try have hb2:=yF hb);(try have hb2:=yG hb)))|(refine fun (K2:_→AHeap→Prop) hK2=>?_)|((with_reducible refine zY ?_ ?_);decide)|((with_reducible first|refine zZ ?_ (fun K hK=>?_)|refine yA ?_ (fun K hK=>?_));(focus go_simp;done);go_simp;refine hK _ _ ?_;clear hK K)|(go_simp;(try go_bits);(try first |((with_reducible show CallS _ _ _ _ _ _);first|(refine CallS.mono (HCK.out _) ?_; rintro _ _ ⟨rfl, h9⟩; rw [h9]; clear h9; go_simp)|(refine CallS.mono within_s ?_; rintro _ _ ⟨rfl, h9⟩; rw [h9]; clear h9; go_simp)));refine hK2 _ _ ?_;clear hK2 K2))
    exact ⟨⟨_, _, _, rfl, ints_nil fun _ => rfl⟩, Ext.refl _⟩
  rw [if_pos h1, if_pos rfl]
  obtain ⟨hac, -, -⟩ := hg
  obtain ⟨A, rfl⟩ : ∃ A : Nat, acc = A := ⟨acc.toNat, by omega⟩
  have hA : A ≤ 10 := by omega
  rw [Int.toNat_natCast]
  have HCO := Lib.hid hco
  clear hac hco h0
  refine CallS.enter' Tryz.func47 rfl Tryz.ntmps47 (by simp) fun f hd hf => ?_
  have f0 := hf 0
  have f1 := hf 1
  have f2 := hf 2
  simp at f0 f1 f2
  clear hf
  repeat' (first|(with_reducible first|refine zA ?_|refine zB fun K hK=>?_|refine zC fun K2 hK2=>?_|refine zD ?_|refine zE ?_|refine zF ?_|refine zG ?_|refine zH ?_|refine zI ?_|refine zM ?_|refine zN ?_|refine zO ?_|refine zP ?_|refine zQ ?_|refine zR ?_)|((with_reducible refine zU (hK _ _ ?_));clear hK K)|((with_reducible refine zV ?_ ?_ fun K1 K3 d hdst h1 h3=>?_);rfl;exact yB rfl;cases hdst;go_simp)|((with_reducible refine zW fun K1 K3 h1 h3=>?_);go_simp)|((first|refine h1 ?_|refine h3 ?_);clear h1 h3 K1 K3)|((first|refine zX (fun hb=>h1 ?_) (fun hb=>h3 ?_)|refine zX (fun hb=>h3 ?_) (fun hb=>h1 ?_))<;>(clear h1 h3 K1 K3;(try have hb2:=yC hb);(try have hb2:=yD hb);(try have hb2:=yE hb);(try have hb2:=yF hb);(try have hb2:=yG hb)))|(refine fun (K2:_→AHeap→Prop) hK2=>?_)|((with_reducible refine zY ?_ ?_);decide)|((with_reducible first|refine zZ ?_ (fun K hK=>?_)|refine yA ?_ (fun K hK=>?_));(focus go_simp;done);go_simp;refine hK _ _ ?_;clear hK K)|(go_simp;(try go_bits);(try first |((with_reducible show CallS _ _ _ _ _ _);first|(refine CallS.mono (HCK.out _) ?_; rintro _ _ ⟨rfl, h9⟩; rw [h9]; clear h9; go_simp)|(refine CallS.mono within_s ?_; rintro _ _ ⟨rfl, h9⟩; rw [h9]; clear h9; go_simp)));refine hK2 _ _ ?_;clear hK2 K2))
  refine CodeS.loop (fun m f H' => ∃ (k : Nat) (u : Value), k ≤ A ∧ m = A - k ∧ f.tmp 21 = .int .i64 k ∧ f.tmp 20 = .int .i64 A ∧ f.tmp 0 = .slice a l.length c ∧ f.tmp 2 = .int .i64 day ∧ f.tmp 9 = u ∧ f.defers = [] ∧ Hid (Own H' H.n u 3 1 ((balL l k day).map (Value.int .i64))) ∧ Hid (Ext H H')) A ?_ ?_
  · exact ⟨0, .slice none 0 0, by omega, by omega, (by first|go_simp<;>go_num|assumption), (by first|go_simp<;>go_num|assumption), (by first|go_simp<;>go_num|assumption), (by first|go_simp<;>go_num|assumption), (by first|go_simp<;>go_num|assumption), (by first|go_simp<;>go_num|assumption), Lib.hid Own.nil, Lib.hid (Ext.refl _)⟩
  clear f0 f1 f2 hd f
  rintro m f H' ⟨k, u, hk, rfl, f21, f20, f0, f2, f9, hd, HO, HX⟩
  obtain ⟨a1, n1, rfl⟩ := own_sliceP HO.out
  have HBIG : Hid ((((balL l k day).map (Value.int .i64)).length + 1) * max 8 1 ≤ 1073741824) := Lib.hid (by rw [List.length_map, balL_len]; show (k + 1) * 8 ≤ 1073741824; omega)
  have HS := Lib.hid (fun (loops : List (Nat × LInfo)) => stand_s (loops := loops) (acc := (k : Int)) (day := day) (HV.out.ext HX.out) HCO.out)
  have HB := Lib.hid HX.out.n
  by_cases hlt : k < A
  · have hlb : (k : Int) < (A : Int) := by omega
    have w1 := wrap_id (n := (k : Int) + 1) (by omega)
    have HSU := Lib.hid (balL_succ l k day)
    generalize bal l (k : Int) day = s at HS HSU
    repeat' (first|(with_reducible first|refine zA ?_|refine zB fun K hK=>?_|refine zC fun K2 hK2=>?_|refine zD ?_|refine zE ?_|refine zF ?_|refine zG ?_|refine zH ?_|refine zI ?_|refine zM ?_|refine zN ?_|refine zO ?_|refine zP ?_|refine zQ ?_|refine zR ?_)|((with_reducible refine zU (hK _ _ ?_));clear hK K)|((with_reducible refine zV ?_ ?_ fun K1 K3 d hdst h1 h3=>?_);rfl;exact yB rfl;cases hdst;go_simp)|((with_reducible refine zW fun K1 K3 h1 h3=>?_);go_simp)|((first|refine h1 ?_|refine h3 ?_);clear h1 h3 K1 K3)|((first|refine zX (fun hb=>h1 ?_) (fun hb=>h3 ?_)|refine zX (fun hb=>h3 ?_) (fun hb=>h1 ?_))<;>(clear h1 h3 K1 K3;(try have hb2:=yC hb);(try have hb2:=yD hb);(try have hb2:=yE hb);(try have hb2:=yF hb);(try have hb2:=yG hb)))|(refine fun (K2:_→AHeap→Prop) hK2=>?_)|((with_reducible refine zY ?_ ?_);decide)|((with_reducible first|refine zZ ?_ (fun K hK=>?_)|refine yA ?_ (fun K hK=>?_));(focus go_simp;done);go_simp;refine hK _ _ ?_;clear hK K)|(go_simp;(try go_bits);(try first | ((with_reducible show CallS _ _ _ _ _ _);refine CallS.mono (HS.out _) ?_; rintro _ _ ⟨rfl, h9⟩; rw [h9]; clear h9; go_simp) | ((refine one_k el23 sz3 ze3 rfl (by decide) (by decide) rfl rfl ?_); go_simp) | ((refine append_k el23 sz3 by3 ze3 rfl (by decide) (HO.out.ext (Ext.push _)) (srcCells_new rfl) (by decide) rfl (by rw [List.all_append, oneV_ints]; rfl) HBIG.out (by rw [AHeap.n_push]; have := HB.out; omega) fun v2 H4 ho4 hg4 => ?_); (obtain ⟨a4, n4, rfl⟩ := own_sliceP ho4); (have HO4 := Lib.hid ho4); (have HX4 := Lib.hid (hg4.ext (HO.out.ext (Ext.push _)) (Nat.le_refl _) (HX.out.push' _))); clear ho4 hg4; go_simp));refine hK2 _ _ ?_;clear hK2 K2))
    refine Post.round_normal ⟨A - (k + 1), by omega, k + 1, .slice a4 n4 n4, by omega, rfl, (by first|go_simp<;>go_num|assumption), (by first|go_simp<;>go_num|assumption), (by first|go_simp<;>go_num|assumption), (by first|go_simp<;>go_num|assumption), (by first|go_simp<;>go_num|assumption), (by first|go_simp<;>go_num|assumption), Lib.hid ?_, HX4⟩
    rw [HSU.out, List.map_append]; exact HO4.out
  · have hlb : ¬ (k : Int) < (A : Int) := by omega
    obtain rfl : k = A := by omega
    repeat' (first|(with_reducible first|refine zA ?_|refine zB fun K hK=>?_|refine zC fun K2 hK2=>?_|refine zD ?_|refine zE ?_|refine zF ?_|refine zG ?_|refine zH ?_|refine zI ?_|refine zM ?_|refine zN ?_|refine zO ?_|refine zP ?_|refine zQ ?_|refine zR ?_)|((with_reducible refine zU (hK _ _ ?_));clear hK K)|((with_reducible refine zV ?_ ?_ fun K1 K3 d hdst h1 h3=>?_);rfl;exact yB rfl;cases hdst;go_simp)|((with_reducible refine zW fun K1 K3 h1 h3=>?_);go_simp)|((first|refine h1 ?_|refine h3 ?_);clear h1 h3 K1 K3)|((first|refine zX (fun hb=>h1 ?_) (fun hb=>h3 ?_)|refine zX (fun hb=>h3 ?_) (fun hb=>h1 ?_))<;>(clear h1 h3 K1 K3;(try have hb2:=yC hb);(try have hb2:=yD hb);(try have hb2:=yE hb);(try have hb2:=yF hb);(try have hb2:=yG hb)))|(refine fun (K2:_→AHeap→Prop) hK2=>?_)|((with_reducible refine zY ?_ ?_);decide)|((with_reducible first|refine zZ ?_ (fun K hK=>?_)|refine yA ?_ (fun K hK=>?_));(focus go_simp;done);go_simp;refine hK _ _ ?_;clear hK K)|(go_simp;(try go_bits);refine hK2 _ _ ?_;clear hK2 K2))
    exact ⟨⟨_, _, _, rfl, own_ints HO.out (by rw [balL_len]; omega)⟩, HX.out⟩
end Go.Proofs.Tryz
namespace Go.Proofs.Tryz
open Go Go.Am Go.RowKit
set_option maxRecDepth 100000


theorem st32 : structOk Tryz.prog 32 = true := by kernel_rfl
theorem grown_low {H H' : AHeap} {base : Nat} {v : Value} {e : TypeId} {size : Nat} {cells : List Value} (h : Grown H H' base v) (ho : Own H base v e size cells) {i : Nat} (hi : i < base) (hb : base ≤ H.n) : H'.get i = H.get i :=
  h.2 i (by omega) fun b n hv hn hib => by
    rcases ho with ⟨h1, _⟩ | ⟨b', n', h1, h2, _⟩
    · rw [h1] at hv; cases hv
    · rw [h1] at hv; cases hv; omega

theorem own_upd {H : AHeap} {base : Nat} {v : Value} {e : TypeId} {size : Nat} {cells : List Value} (h : Own H base v e size cells) {i : Nat} (hi : i < base) (o : AObj) : Own (H.upd i o) base v e size cells := by
  rcases h with h | ⟨b, n, h1, h2, h3, h4, h5⟩
  · exact .inl h
  · exact .inr ⟨b, n, h1, h2, by rw [AHeap.n_upd]; exact h3, by rw [AHeap.get_upd_ne (by omega)]; exact h4, h5⟩

set_option maxHeartbeats 4000000 in
theorem refBal_e {loops : List (Nat × LInfo)} {H : AHeap} {v : Value} {l : List Pst} {acc day : Int} (hv : Psts H v l) : CallS Tryz.prog loops 48 [v, .int .i64 acc, .int .i64 day] H fun r H' => (∃ a n c, r = .agg #[.slice a n c, .int .i64 (errB l acc day)] ∧ Ints H' (.slice a n c) (balR l acc day)) ∧ Ext H H' := by
  have HCK := Lib.hid (fun (loops : List (Nat × LInfo)) (H2 : AHeap) (hx : Ext H H2) => refPosts_s (loops := loops) (acc := acc) (hv.ext hx))
  obtain ⟨hlen, a, c, rfl⟩ := hv.slice
  have HV := Lib.hid hv
  clear hv
  unfold balR errB
  by_cases h0 : errP l acc = 0
  case' neg =>
    rw [if_pos h0, if_neg h0]
    have h0b : (errP l acc != 0) = true := by simpa using h0
    generalize errP l acc = er at HCK h0b
    clear h0
    refine CallS.enter' Tryz.func48 rfl Tryz.ntmps48 (by simp) fun f hd hf => ?_
    have f0 := hf 0
    have f1 := hf 1
    have f2 := hf 2
    simp at f0 f1 f2
    clear hf
    repeat' (first|(with_reducible first|refine zA ?_|refine zB fun K hK=>?_|refine zC fun K2 hK2=>?_|refine zD ?_|refine zE ?_|refine zF ?_|refine zG ?_|refine zH ?_|refine zI ?_|refine zM ?_|refine zN ?_|refine zO ?_|refine zP ?_|refine zQ ?_|refine zR ?_)|((with_reducible refine zU (hK _ _ ?_));clear hK K)|((with_reducible refine zV ?_ ?_ fun K1 K3 d hdst h1 h3=>?_);rfl;exact yB rfl;cases hdst;go_simp)|((with_reducible refine zW fun K1 K3 h1 h3=>?_);go_simp)|((first|refine h1 ?_|refine h3 ?_);clear h1 h3 K1 K3)|((first|refine zX (fun hb=>h1 ?_) (fun hb=>h3 ?_)|refine zX (fun hb=>h3 ?_) (fun hb=>h1 ?_))<;>(clear h1 h3 K1 K3;(try have hb2:=yC hb);(try have hb2:=yD hb);(try have hb2:=yE hb);(try have hb2:=yF hb);(try have hb2:=yG hb)))|(refine fun (K2:_→AHeap→Prop) hK2=>?_)|((with_reducible refine zY ?_ ?_);decide)|((with_reducible first|refine zZ ?_ (fun K hK=>?_)|refine yA ?_ (fun K hK=>?_));(focus go_simp;done);go_simp;refine hK _ _ ?_;clear hK K)|(go_simp;(try go_bits);(try first | ((with_reducible show CallS _ _ _ _ _ _);refine CallS.mono (HCK.out _ _ ((Ext.refl _).push' _)) ?_; rintro _ _ ⟨rfl, h9⟩; rw [h9]; clear h9; go_simp) | ((rw [aBuild_struct st32 ze32]); go_simp));refine hK2 _ _ ?_;clear hK2 K2))
    exact ⟨⟨_, _, _, rfl, ints_nil fun _ => rfl⟩, (Ext.refl _).push' _⟩
  have hg := goodL h0
  have hco := hg.coined
  rw [if_neg (by simpa using h0)]
  rw [h0] at HCK
  by_cases h1 : win 0 730 day = true
  case' neg =>
    have h1b : win 0 730 day = false := by simpa using h1
    rw [if_neg h1, if_neg (by decide)]
    clear hg hco h1 h0
    refine CallS.enter' Tryz.func48 rfl Tryz.ntmps48 (by simp) fun f hd hf => ?_
    have f0 := hf 0
    have f1 := hf 1
    have f2 := hf 2
    simp at f0 f1 f2
    clear hf
    repeat' (first|(with_reducible first|refine zA ?_|refine zB fun K hK=>?_|refine zC fun K2 hK2=>?_|refine zD ?_|refine zE ?_|refine zF ?_|refine zG ?_|refine zH ?_|refine zI ?_|refine zM ?_|refine zN ?_|refine zO ?_|refine zP ?_|refine zQ ?_|refine zR ?_)|((with_reducible refine zU (hK _ _ ?_));clear hK K)|((with_reducible refine zV ?_ ?_ fun K1 K3 d hdst h1 h3=>?_);rfl;exact yB rfl;cases hdst;go_simp)|((with_reducible refine zW fun K1 K3 h1 h3=>?_);go_simp)|((first|refine h1 ?_|refine h3 ?_);clear h1 h3 K1 K3)|((first|refine zX (fun hb=>h1 ?_) (fun hb=>h3 ?_)|refine zX (fun hb=>h3 ?_) (fun hb=>h1 ?_))<;>(clear h1 h3 K1 K3;(try have hb2:=yC hb);(try have hb2:=yD hb);(try have hb2:=yE hb);(try have hb2:=yF hb);(try have hb2:=yG hb)))|(refine fun (K2:_→AHeap→Prop) hK2=>?_)|((with_reducible refine zY ?_ ?_);decide)|((with_reducible first|refine zZ ?_ (fun K hK=>?_)|refine yA ?_ (fun K hK=>?_));(focus go_simp;done);go_simp;refine hK _ _ ?_;clear hK K)|(go_simp;(try go_bits);(try first |((with_reducible show CallS _ _ _ _ _ _);first|(refine CallS.mono (HCK.out _ _ ((Ext.refl _).push' _)) ?_; rintro _ _ ⟨rfl, h9⟩; rw [h9]; clear h9; go_simp)|(refine CallS.mono in_s ?_; rintro _ _ ⟨rfl, h9⟩; rw [h9]; clear h9; go_simp))|((rw [aBuild_struct st32 ze32]); go_simp));refine hK2 _ _ ?_;clear hK2 K2))
    exact ⟨⟨_, _, _, rfl, ints_nil fun _ => rfl⟩, (Ext.refl _).push' _⟩
  rw [if_pos h1, if_pos rfl]
  obtain ⟨hac, -, -⟩ := hg
  obtain ⟨A, rfl⟩ : ∃ A : Nat, acc = A := ⟨acc.toNat, by omega⟩
  have hA : A ≤ 10 := by omega
  rw [Int.toNat_natCast]
  have HCO := Lib.hid hco
  clear hac hco h0
  refine CallS.enter' Tryz.func48 rfl Tryz.ntmps48 (by simp) fun f hd hf => ?_
  have f0 := hf 0
  have f1 := hf 1
  have f2 := hf 2
  simp at f0 f1 f2
  clear hf
  repeat' (first|(with_reducible first|refine zA ?_|refine zB fun K hK=>?_|refine zC fun K2 hK2=>?_|refine zD ?_|refine zE ?_|refine zF ?_|refine zG ?_|refine zH ?_|refine zI ?_|refine zM ?_|refine zN ?_|refine zO ?_|refine zP ?_|refine zQ ?_|refine zR ?_)|((with_reducible refine zU (hK _ _ ?_));clear hK K)|((with_reducible refine zV ?_ ?_ fun K1 K3 d hdst h1 h3=>?_);rfl;exact yB rfl;cases hdst;go_simp)|((with_reducible refine zW fun K1 K3 h1 h3=>?_);go_simp)|((first|refine h1 ?_|refine h3 ?_);clear h1 h3 K1 K3)|((first|refine zX (fun hb=>h1 ?_) (fun hb=>h3 ?_)|refine zX (fun hb=>h3 ?_) (fun hb=>h1 ?_))<;>(clear h1 h3 K1 K3;(try have hb2:=yC hb);(try have hb2:=yD hb);(try have hb2:=yE hb);(try have hb2:=yF hb);(try have hb2:=yG hb)))|(refine fun (K2:_→AHeap→Prop) hK2=>?_)|((with_reducible refine zY ?_ ?_);decide)|((with_reducible first|refine zZ ?_ (fun K hK=>?_)|refine yA ?_ (fun K hK=>?_));(focus go_simp;done);go_simp;refine hK _ _ ?_;clear hK K)|(go_simp;(try go_bits);(try first |((with_reducible show CallS _ _ _ _ _ _);first|(refine CallS.mono (HCK.out _ _ ((Ext.refl _).push' _)) ?_; rintro _ _ ⟨rfl, h9⟩; rw [h9]; clear h9; go_simp)|(refine CallS.mono in_s ?_; rintro _ _ ⟨rfl, h9⟩; rw [h9]; clear h9; go_simp))|((rw [aBuild_struct st32 ze32]); go_simp));refine hK2 _ _ ?_;clear hK2 K2))
  refine CodeS.loop (fun m f H' => ∃ (k : Nat) (u : Value), k ≤ A ∧ m = A - k ∧ f.tmp 9 = .int .i64 k ∧ f.tmp 1 = .int .i64 A ∧ f.tmp 0 = .slice a l.length c ∧ f.tmp 2 = .int .i64 day ∧ f.tmp 8 = .pointer (some ⟨H.n + 1, 0, none⟩) ∧ f.tmp 6 = .pointer (some ⟨H.n, 0, none⟩) ∧ f.defers = [] ∧ Hid (Own H' (H.n + 2) u 3 1 ((balL l k day).map (Value.int .i64))) ∧ Hid (Ext H H') ∧ H.n + 2 ≤ H'.n ∧ Hid (H'.get (H.n + 1) = .row [u, .int .i64 0] 32) ∧ Hid (H'.get H.n = .row [.slice none 0 0, .int .i64 0] 32)) A ?_ ?_
  · refine ⟨0, .slice none 0 0, by omega, by omega, (by first|go_simp<;>go_num|assumption), (by first|go_simp<;>go_num|assumption), (by first|go_simp<;>go_num|assumption), (by first|go_simp<;>go_num|assumption), (by first|go_simp<;>go_num|assumption), (by first|go_simp<;>go_num|assumption), (by first|go_simp<;>go_num|assumption), Lib.hid Own.nil, Lib.hid (((Ext.refl _).push' _).push' _), by simp only [AHeap.n_push]; omega, Lib.hid ?_, Lib.hid ?_⟩
    · exact AHeap.get_push_new
    · rw [AHeap.get_push_old (by rw [AHeap.n_push]; omega), AHeap.get_push_new]
  clear f0 f1 f2 hd f
  rintro m f H' ⟨k, u, hk, rfl, f9, f1, f0, f2, f8, f6, hd, HO, HX, hnn, HG1, HG0⟩
  obtain ⟨a1, n1, rfl⟩ := own_sliceP HO.out
  have HBIG : Hid ((((balL l k day).map (Value.int .i64)).length + 1) * max 8 1 ≤ 1073741824) := Lib.hid (by rw [List.length_map, balL_len]; show (k + 1) * 8 ≤ 1073741824; omega)
  have HS := Lib.hid (fun (loops : List (Nat × LInfo)) => balance_s (loops := loops) (acc := (k : Int)) (day := day) (HV.out.ext HX.out) HCO.out)
  have HNN := Lib.hid hnn
  have hl1 : H.n + 1 < H'.n := by omega
  have hl0 : H.n < H'.n := by omega
  have hc0 : cellAt H' (H.n + 1) 0 = some (.slice a1 n1 n1) := by simp [cellAt, HG1.out]
  have hcc : cellsAt H' (H.n + 1) 0 2 = some [.slice a1 n1 n1, .int .i64 0] := by simp [cellsAt, HG1.out]
  clear hnn
  by_cases hlt : k < A
  · have hlb : (k : Int) < (A : Int) := by omega
    have w1 := wrap_id (n := (k : Int) + 1) (by omega)
    have HSU := Lib.hid (balL_succ l k day)
    generalize bal l (k : Int) day = s at HS HSU
    repeat' (first|(with_reducible first|refine zA ?_|refine zB fun K hK=>?_|refine zC fun K2 hK2=>?_|refine zD ?_|refine zE ?_|refine zF ?_|refine zG ?_|refine zH ?_|refine zI ?_|refine zM ?_|refine zN ?_|refine zO ?_|refine zP ?_|refine zQ ?_|refine zR ?_)|((with_reducible refine zU (hK _ _ ?_));clear hK K)|((with_reducible refine zV ?_ ?_ fun K1 K3 d hdst h1 h3=>?_);rfl;exact yB rfl;cases hdst;go_simp)|((with_reducible refine zW fun K1 K3 h1 h3=>?_);go_simp)|((first|refine h1 ?_|refine h3 ?_);clear h1 h3 K1 K3)|((first|refine zX (fun hb=>h1 ?_) (fun hb=>h3 ?_)|refine zX (fun hb=>h3 ?_) (fun hb=>h1 ?_))<;>(clear h1 h3 K1 K3;(try have hb2:=yC hb);(try have hb2:=yD hb);(try have hb2:=yE hb);(try have hb2:=yF hb);(try have hb2:=yG hb)))|(refine fun (K2:_→AHeap→Prop) hK2=>?_)|((with_reducible refine zY ?_ ?_);decide)|((with_reducible first|refine zZ ?_ (fun K hK=>?_)|refine yA ?_ (fun K hK=>?_));(focus go_simp;done);go_simp;refine hK _ _ ?_;clear hK K)|((with_reducible refine yH mixed rfl ?_ 20 fun K0 hK0=>?_);kernel_rfl)|(with_reducible first|exact yI|exact yJ|refine yK ?_|refine yL ?_|refine yM ?_)|((with_reducible first|refine yN ?_ ?_|refine yO ?_ ?_|refine yP ?_ ?_);rfl)|((with_reducible refine yQ ?_ ?_);rfl;refine hK0 _ _ ?_;clear hK0 K0)|((with_reducible refine yR ?_ ?_ ?_ ?_);rfl;rfl;rfl)|((with_reducible refine yS ?_ ?_ ?_ fun K2 hK2=>?_);rfl;rfl;exact yB rfl)|((with_reducible refine yT ?_ ?_ ?_ ?_ fun K1 K3 d hdst h1 h3=>?_);rfl;rfl;rfl;exact yB rfl;cases hdst;go_simp)|((with_reducible refine yU ?_ ?_ ?_ ?_ fun K1 K3 d hdst h1 h3=>?_);rfl;rfl;rfl;exact yB rfl;cases hdst;go_simp)|((with_reducible refine yV ?_ ?_ (fun K2 hK2=>?_) ?_);rfl;exact yB rfl)|((with_reducible refine yW ?_ ?_ ?_ ?_ (fun K2 hK2=>?_) ?_);rfl;exact yB rfl;rfl;(focus go_simp;done))|((with_reducible refine yX ?_ ?_ ?_ (fun K2 hK2=>?_) ?_);rfl;rfl;exact yB rfl)|((with_reducible refine yY ?_ ?_ (fun K2 hK2=>?_) ?_);rfl;rfl)|((with_reducible refine yZ ?_ ?_);(first|rfl|(dsimp only;decide +kernel)))|((with_reducible refine xA ?_ ?_);(focus go_simp;done))|(go_simp;(try go_bits);(try first | ((with_reducible show CallS _ _ _ _ _ _);refine CallS.mono (HS.out _) ?_; rintro _ _ ⟨rfl, h9⟩; rw [h9]; clear h9; go_simp) | ((refine one_v el23 sz3 ze3 rfl (by decide) (by decide) rfl rfl ?_); go_simp) | ((refine append_v el23 sz3 by3 ze3 rfl (by decide) (HO.out.ext (Ext.push _)) (srcCells_new rfl) (by decide) rfl (by rw [List.all_append, oneV_ints]; rfl) HBIG.out (by rw [AHeap.n_push]; have := HNN.out; omega) fun v2 H4 ho4 hg4 => ?_); (obtain ⟨a4, n4, rfl⟩ := own_sliceP ho4); (have HO4 := Lib.hid ho4); (have HX4 := Lib.hid (hg4.ext (HO.out.ext (Ext.push _)) (by have := HNN.out; omega) (HX.out.push' _))); (have hg41 : H4.get (H.n + 1) = .row [.slice a1 n1 n1, .int .i64 0] 32 := by (rw [grown_low hg4 (HO.out.ext (Ext.push _)) (by omega) (by rw [AHeap.n_push]; have := HNN.out; omega), AHeap.get_push_old (by have := HNN.out; omega)]; exact HG1.out)); (have HG40 : Hid (H4.get H.n = .row [.slice none 0 0, .int .i64 0] 32) := Lib.hid (by (rw [grown_low hg4 (HO.out.ext (Ext.push _)) (by omega) (by rw [AHeap.n_push]; have := HNN.out; omega), AHeap.get_push_old (by have := HNN.out; omega)]; exact HG0.out))); (have hc4 : cellAt H4 (H.n + 1) 0 = some (.slice a1 n1 n1) := by simp [cellAt, hg41]); (have hl4 : H.n + 1 < H4.n := by (have h5 := hg4.1; rw [AHeap.n_push] at h5; have := HNN.out; omega)); clear ho4 hg4; go_simp));(first|(refine hK2 _ _ ?_ ?_<;>clear hK2 K2)|(refine hK2 _ _ ?_;clear hK2 K2))))
    refine Post.round_normal ⟨A - (k + 1), by omega, k + 1, .slice a4 n4 n4, by omega, rfl, (by first|go_simp<;>go_num|assumption), (by first|go_simp<;>go_num|assumption), (by first|go_simp<;>go_num|assumption), (by first|go_simp<;>go_num|assumption), (by first|go_simp<;>go_num|assumption), (by first|go_simp<;>go_num|assumption), (by first|go_simp<;>go_num|assumption), Lib.hid ?_, Lib.hid (HX4.out.upd (by omega) _), by rw [AHeap.n_upd]; omega, Lib.hid ?_, Lib.hid ?_⟩
    · rw [HSU.out, List.map_append]
      exact own_upd (HO4.out.mono (by rw [AHeap.n_push]; have := HNN.out; omega)) (by omega) _
    · rw [AHeap.get_upd, if_pos rfl]
    · rw [AHeap.get_upd_ne (by omega)]; exact HG40.out
  · have hlb : ¬ (k : Int) < (A : Int) := by omega
    obtain rfl : k = A := by omega
    have hg0 := HG0.out
    repeat' (first|(with_reducible first|refine zA ?_|refine zB fun K hK=>?_|refine zC fun K2 hK2=>?_|refine zD ?_|refine zE ?_|refine zF ?_|refine zG ?_|refine zH ?_|refine zI ?_|refine zM ?_|refine zN ?_|refine zO ?_|refine zP ?_|refine zQ ?_|refine zR ?_)|((with_reducible refine zU (hK _ _ ?_));clear hK K)|((with_reducible refine zV ?_ ?_ fun K1 K3 d hdst h1 h3=>?_);rfl;exact yB rfl;cases hdst;go_simp)|((with_reducible refine zW fun K1 K3 h1 h3=>?_);go_simp)|((first|refine h1 ?_|refine h3 ?_);clear h1 h3 K1 K3)|((first|refine zX (fun hb=>h1 ?_) (fun hb=>h3 ?_)|refine zX (fun hb=>h3 ?_) (fun hb=>h1 ?_))<;>(clear h1 h3 K1 K3;(try have hb2:=yC hb);(try have hb2:=yD hb);(try have hb2:=yE hb);(try have hb2:=yF hb);(try have hb2:=yG hb)))|(refine fun (K2:_→AHeap→Prop) hK2=>?_)|((with_reducible refine zY ?_ ?_);decide)|((with_reducible first|refine zZ ?_ (fun K hK=>?_)|refine yA ?_ (fun K hK=>?_));(focus go_simp;done);go_simp;refine hK _ _ ?_;clear hK K)|(go_simp;(try go_bits);refine hK2 _ _ ?_;clear hK2 K2))
    exact ⟨⟨_, _, _, rfl, own_ints (own_upd HO.out (by omega) _) (by rw [balL_len]; omega)⟩, HX.out.upd (Nat.le_refl _) _⟩
end Go.Proofs.Tryz
namespace Go.Proofs.Tryz
open Go Go.Am Go.RowKit
set_option maxRecDepth 100000


theorem st87 : structOk Tryz.prog 87 = true := by kernel_rfl
def lowS (l : List Pst) (x : Int) : Nat → Int × Int
  | 0 => (bal l x 0, 0)
  | d + 1 => if bal l x d < (lowS l x d).1 then (bal l x d, d) else lowS l x d
theorem lowS_one (l : List Pst) (x : Int) : lowS l x 1 = (bal l x 0, 0) := by simp [lowS]
def errL (l : List Pst) (acc x : Int) : Int := if errP l acc ≠ 0 then errP l acc else if win 0 (acc - 1) x = true then 0 else 1
def lowR (l : List Pst) (acc x : Int) : Int × Int := if errL l acc x = 0 then lowS l x 731 else (0, 0)

set_option maxHeartbeats 4000000 in
theorem lowest_s {loops : List (Nat × LInfo)} {H : AHeap} {v : Value} {l : List Pst} {acc x : Int} (hv : Psts H v l) : CallS Tryz.prog loops 49 [v, .int .i64 acc, .int .i64 x] H fun r H' => r = .tuple #[.int .i64 (lowR l acc x).1, .int .i64 (lowR l acc x).2, .int .i64 (errL l acc x)] ∧ H' = H := by
  have HCK := Lib.hid (fun (loops : List (Nat × LInfo)) => checkPosts_s (loops := loops) (acc := acc) hv)
  have HST := Lib.hid (fun (loops : List (Nat × LInfo)) (d : Int) (hc : Coined l) => stand_s (loops := loops) (acc := x) (day := d) hv hc)
  obtain ⟨hlen, a, c, rfl⟩ := hv.slice
  clear hv
  unfold lowR
  by_cases h0 : errP l acc = 0
  case' neg =>
    rw [show errL l acc x = errP l acc from if_pos h0, if_neg h0]
    have h0b : (errP l acc != 0) = true := by simpa using h0
    generalize errP l acc = er at HCK h0b
    clear h0
    refine CallS.enter' Tryz.func49 rfl Tryz.ntmps49 (by simp) fun f hd hf => ?_
    have f0 := hf 0
    have f1 := hf 1
    have f2 := hf 2
    simp at f0 f1 f2
    clear hf
    repeat' (first|(with_reducible first|refine zA ?_|refine zB fun K hK=>?_|refine zC fun K2 hK2=>?_|refine zD ?_|refine zE ?_|refine zF ?_|refine zG ?_|refine zH ?_|refine zI ?_|refine zM ?_|refine zN ?_|refine zO ?_|refine zP ?_|refine zQ ?_|refine zR ?_)|((with_reducible refine zU (hK _ _ ?_));clear hK K)|((with_reducible refine zV ?_ ?_ fun K1 K3 d hdst h1 h3=>?_);rfl;exact yB rfl;cases hdst;go_simp)|((with_reducible refine zW fun K1 K3 h1 h3=>?_);go_simp)|((first|refine h1 ?_|refine h3 ?_);clear h1 h3 K1 K3)|((first|refine zX (fun hb=>h1 ?_) (fun hb=>h3 ?_)|refine zX (fun hb=>h3 ?_) (fun hb=>h1 ?_))<;>(clear h1 h3 K1 K3;(try have hb2:=yC hb);(try have hb2:=yD hb);(try have hb2:=yE hb);(try have hb2:=yF hb);(try have hb2:=yG hb)))|(refine fun (K2:_→AHeap→Prop) hK2=>?_)|((with_reducible refine zY ?_ ?_);decide)|((with_reducible first|refine zZ ?_ (fun K hK=>?_)|refine yA ?_ (fun K hK=>?_));(focus go_simp;done);go_simp;refine hK _ _ ?_;clear hK K)|(go_simp;(try go_bits);(try first | ((with_reducible show CallS _ _ _ _ _ _);refine CallS.mono (HCK.out _) ?_; rintro _ _ ⟨rfl, h9⟩; rw [h9]; clear h9; go_simp));refine hK2 _ _ ?_;clear hK2 K2))
    exact ⟨rfl, rfl⟩
  have hg := goodL h0
  have HCO := Lib.hid hg.coined
  have w0 := wrap_id (n := acc - 1) (by have := hg.bd; omega)
  rw [h0] at HCK
  by_cases h1 : win 0 (acc - 1) x = true
  case' neg =>
    have h1b : win 0 (acc - 1) x = false := by simpa using h1
    rw [show errL l acc x = 1 from (if_neg (by simpa using h0)).trans (if_neg h1), if_neg (by decide)]
    clear hg h1 h0
    refine CallS.enter' Tryz.func49 rfl Tryz.ntmps49 (by simp) fun f hd hf => ?_
    have f0 := hf 0
    have f1 := hf 1
    have f2 := hf 2
    simp at f0 f1 f2
    clear hf
    repeat' (first|(with_reducible first|refine zA ?_|refine zB fun K hK=>?_|refine zC fun K2 hK2=>?_|refine zD ?_|refine zE ?_|refine zF ?_|refine zG ?_|refine zH ?_|refine zI ?_|refine zM ?_|refine zN ?_|refine zO ?_|refine zP ?_|refine zQ ?_|refine zR ?_)|((with_reducible refine zU (hK _ _ ?_));clear hK K)|((with_reducible refine zV ?_ ?_ fun K1 K3 d hdst h1 h3=>?_);rfl;exact yB rfl;cases hdst;go_simp)|((with_reducible refine zW fun K1 K3 h1 h3=>?_);go_simp)|((first|refine h1 ?_|refine h3 ?_);clear h1 h3 K1 K3)|((first|refine zX (fun hb=>h1 ?_) (fun hb=>h3 ?_)|refine zX (fun hb=>h3 ?_) (fun hb=>h1 ?_))<;>(clear h1 h3 K1 K3;(try have hb2:=yC hb);(try have hb2:=yD hb);(try have hb2:=yE hb);(try have hb2:=yF hb);(try have hb2:=yG hb)))|(refine fun (K2:_→AHeap→Prop) hK2=>?_)|((with_reducible refine zY ?_ ?_);decide)|((with_reducible first|refine zZ ?_ (fun K hK=>?_)|refine yA ?_ (fun K hK=>?_));(focus go_simp;done);go_simp;refine hK _ _ ?_;clear hK K)|(go_simp;(try go_bits);(try first |((with_reducible show CallS _ _ _ _ _ _);first|(refine CallS.mono (HCK.out _) ?_; rintro _ _ ⟨rfl, h9⟩; rw [h9]; clear h9; go_simp)|(refine CallS.mono within_s ?_; rintro _ _ ⟨rfl, h9⟩; rw [h9]; clear h9; go_simp)));refine hK2 _ _ ?_;clear hK2 K2))
    exact ⟨rfl, rfl⟩
  rw [show errL l acc x = 0 from (if_neg (by simpa using h0)).trans (if_pos h1), if_pos rfl]
  clear hg h0
  refine CallS.enter' Tryz.func49 rfl Tryz.ntmps49 (by simp) fun f hd hf => ?_
  have f0 := hf 0
  have f1 := hf 1
  have f2 := hf 2
  simp at f0 f1 f2
  clear hf
  repeat' (first|(with_reducible first|refine zA ?_|refine zB fun K hK=>?_|refine zC fun K2 hK2=>?_|refine zD ?_|refine zE ?_|refine zF ?_|refine zG ?_|refine zH ?_|refine zI ?_|refine zM ?_|refine zN ?_|refine zO ?_|refine zP ?_|refine zQ ?_|refine zR ?_)|((with_reducible refine zU (hK _ _ ?_));clear hK K)|((with_reducible refine zV ?_ ?_ fun K1 K3 d hdst h1 h3=>?_);rfl;exact yB rfl;cases hdst;go_simp)|((with_reducible refine zW fun K1 K3 h1 h3=>?_);go_simp)|((first|refine h1 ?_|refine h3 ?_);clear h1 h3 K1 K3)|((first|refine zX (fun hb=>h1 ?_) (fun hb=>h3 ?_)|refine zX (fun hb=>h3 ?_) (fun hb=>h1 ?_))<;>(clear h1 h3 K1 K3;(try have hb2:=yC hb);(try have hb2:=yD hb);(try have hb2:=yE hb);(try have hb2:=yF hb);(try have hb2:=yG hb)))|(refine fun (K2:_→AHeap→Prop) hK2=>?_)|((with_reducible refine zY ?_ ?_);decide)|((with_reducible first|refine zZ ?_ (fun K hK=>?_)|refine yA ?_ (fun K hK=>?_));(focus go_simp;done);go_simp;refine hK _ _ ?_;clear hK K)|(go_simp;(try go_bits);(try first |((with_reducible show CallS _ _ _ _ _ _);first|(refine CallS.mono (HCK.out _) ?_; rintro _ _ ⟨rfl, h9⟩; rw [h9]; clear h9; go_simp)|(refine CallS.mono within_s ?_; rintro _ _ ⟨rfl, h9⟩; rw [h9]; clear h9; go_simp)|(refine CallS.mono (HST.out _ _ HCO.out) ?_; rintro _ _ ⟨rfl, h9⟩; rw [h9]; clear h9; go_simp)));refine hK2 _ _ ?_;clear hK2 K2))
  refine CodeS.loop (fun m f H' => ∃ (k : Nat) (p q : Int), k ≤ 731 ∧ m = 731 - k ∧ f.tmp 28 = .int .i64 k ∧ f.tmp 0 = .slice a l.length c ∧ f.tmp 2 = .int .i64 x ∧ f.tmp 10 = .int .i64 p ∧ f.tmp 11 = .int .i64 q ∧ f.defers = [] ∧ Hid (lowS l x k = (p, q)) ∧ H' = H) 731 ?_ ?_
  · exact ⟨0, _, _, by omega, by omega, (by first|go_simp<;>go_num|assumption), (by first|go_simp<;>go_num|assumption), (by first|go_simp<;>go_num|assumption), (by first|go_simp<;>go_num|assumption), (by first|go_simp<;>go_num|assumption), (by first|go_simp<;>go_num|assumption), Lib.hid rfl, rfl⟩
  clear f0 f1 f2 hd f
  rintro m f H' ⟨k, p, q, hk, rfl, f28, f0, f2, f10, f11, hd, HG, h9⟩
  rw [h9]
  clear h9 H'
  by_cases hlt : k < 731
  · have hlb : (k : Int) < 731 := by omega
    have w1 := wrap_id (n := (k : Int) + 1) (by omega)
    have HS := Lib.hid (fun (loops : List (Nat × LInfo)) => HST.out loops (k : Int) HCO.out)
    have HU : Hid (lowS l x (k + 1) = if bal l x k < p then (bal l x k, (k : Int)) else (p, q)) := Lib.hid (by rw [lowS, HG.out])
    generalize bal l x (k : Int) = s at HS HU
    by_cases hs : s < p
    · rw [if_pos hs] at HU
      repeat' (first|(with_reducible first|refine zA ?_|refine zB fun K hK=>?_|refine zC fun K2 hK2=>?_|refine zD ?_|refine zE ?_|refine zF ?_|refine zG ?_|refine zH ?_|refine zI ?_|refine zM ?_|refine zN ?_|refine zO ?_|refine zP ?_|refine zQ ?_|refine zR ?_)|((with_reducible refine zU (hK _ _ ?_));clear hK K)|((with_reducible refine zV ?_ ?_ fun K1 K3 d hdst h1 h3=>?_);rfl;exact yB rfl;cases hdst;go_simp)|((with_reducible refine zW fun K1 K3 h1 h3=>?_);go_simp)|((first|refine h1 ?_|refine h3 ?_);clear h1 h3 K1 K3)|((first|refine zX (fun hb=>h1 ?_) (fun hb=>h3 ?_)|refine zX (fun hb=>h3 ?_) (fun hb=>h1 ?_))<;>(clear h1 h3 K1 K3;(try have hb2:=yC hb);(try have hb2:=yD hb);(try have hb2:=yE hb);(try have hb2:=yF hb);(try have hb2:=yG hb)))|(refine fun (K2:_→AHeap→Prop) hK2=>?_)|((with_reducible refine zY ?_ ?_);decide)|((with_reducible first|refine zZ ?_ (fun K hK=>?_)|refine yA ?_ (fun K hK=>?_));(focus go_simp;done);go_simp;refine hK _ _ ?_;clear hK K)|(go_simp;(try go_bits);(try first | ((with_reducible show CallS _ _ _ _ _ _);refine CallS.mono (HS.out _) ?_; rintro _ _ ⟨rfl, h9⟩; rw [h9]; clear h9; go_simp));refine hK2 _ _ ?_;clear hK2 K2))
      exact Post.round_normal ⟨731 - (k + 1), by omega, k + 1, s, k, by omega, rfl, (by first|go_simp<;>go_num|assumption), (by first|go_simp<;>go_num|assumption), (by first|go_simp<;>go_num|assumption), (by first|go_simp<;>go_num|assumption), (by first|go_simp<;>go_num|assumption), (by first|go_simp<;>go_num|assumption), HU, rfl⟩
    · rw [if_neg hs] at HU
      repeat' (first|(with_reducible first|refine zA ?_|refine zB fun K hK=>?_|refine zC fun K2 hK2=>?_|refine zD ?_|refine zE ?_|refine zF ?_|refine zG ?_|refine zH ?_|refine zI ?_|refine zM ?_|refine zN ?_|refine zO ?_|refine zP ?_|refine zQ ?_|refine zR ?_)|((with_reducible refine zU (hK _ _ ?_));clear hK K)|((with_reducible refine zV ?_ ?_ fun K1 K3 d hdst h1 h3=>?_);rfl;exact yB rfl;cases hdst;go_simp)|((with_reducible refine zW fun K1 K3 h1 h3=>?_);go_simp)|((first|refine h1 ?_|refine h3 ?_);clear h1 h3 K1 K3)|((first|refine zX (fun hb=>h1 ?_) (fun hb=>h3 ?_)|refine zX (fun hb=>h3 ?_) (fun hb=>h1 ?_))<;>(clear h1 h3 K1 K3;(try have hb2:=yC hb);(try have hb2:=yD hb);(try have hb2:=yE hb);(try have hb2:=yF hb);(try have hb2:=yG hb)))|(refine fun (K2:_→AHeap→Prop) hK2=>?_)|((with_reducible refine zY ?_ ?_);decide)|((with_reducible first|refine zZ ?_ (fun K hK=>?_)|refine yA ?_ (fun K hK=>?_));(focus go_simp;done);go_simp;refine hK _ _ ?_;clear hK K)|(go_simp;(try go_bits);(try first | ((with_reducible show CallS _ _ _ _ _ _);refine CallS.mono (HS.out _) ?_; rintro _ _ ⟨rfl, h9⟩; rw [h9]; clear h9; go_simp));refine hK2 _ _ ?_;clear hK2 K2))
      exact Post.round_normal ⟨731 - (k + 1), by omega, k + 1, p, q, by omega, rfl, (by first|go_simp<;>go_num|assumption), (by first|go_simp<;>go_num|assumption), (by first|go_simp<;>go_num|assumption), (by first|go_simp<;>go_num|assumption), (by first|go_simp<;>go_num|assumption), (by first|go_simp<;>go_num|assumption), HU, rfl⟩
  · have hlb : ¬ (k : Int) < 731 := by omega
    obtain rfl : k = 731 := by omega
    repeat' (first|(with_reducible first|refine zA ?_|refine zB fun K hK=>?_|refine zC fun K2 hK2=>?_|refine zD ?_|refine zE ?_|refine zF ?_|refine zG ?_|refine zH ?_|refine zI ?_|refine zM ?_|refine zN ?_|refine zO ?_|refine zP ?_|refine zQ ?_|refine zR ?_)|((with_reducible refine zU (hK _ _ ?_));clear hK K)|((with_reducible refine zV ?_ ?_ fun K1 K3 d hdst h1 h3=>?_);rfl;exact yB rfl;cases hdst;go_simp)|((with_reducible refine zW fun K1 K3 h1 h3=>?_);go_simp)|((first|refine h1 ?_|refine h3 ?_);clear h1 h3 K1 K3)|((first|refine zX (fun hb=>h1 ?_) (fun hb=>h3 ?_)|refine zX (fun hb=>h3 ?_) (fun hb=>h1 ?_))<;>(clear h1 h3 K1 K3;(try have hb2:=yC hb);(try have hb2:=yD hb);(try have hb2:=yE hb);(try have hb2:=yF hb);(try have hb2:=yG hb)))|(refine fun (K2:_→AHeap→Prop) hK2=>?_)|((with_reducible refine zY ?_ ?_);decide)|((with_reducible first|refine zZ ?_ (fun K hK=>?_)|refine yA ?_ (fun K hK=>?_));(focus go_simp;done);go_simp;refine hK _ _ ?_;clear hK K)|(go_simp;(try go_bits);refine hK2 _ _ ?_;clear hK2 K2))
    exact ⟨by rw [HG.out], rfl⟩

set_option maxHeartbeats 4000000 in
theorem refLow_e {loops : List (Nat × LInfo)} {H : AHeap} {v : Value} {l : List Pst} {acc x : Int} (hv : Psts H v l) : CallS Tryz.prog loops 50 [v, .int .i64 acc, .int .i64 x] H fun r H' => r = .agg #[.int .i64 (lowR l acc x).1, .int .i64 (lowR l acc x).2, .int .i64 (errL l acc x)] ∧ Ext H H' := by
  have HCK := Lib.hid (fun (loops : List (Nat × LInfo)) (H2 : AHeap) (hx : Ext H H2) => refPosts_s (loops := loops) (acc := acc) (hv.ext hx))
  have HST := Lib.hid (fun (loops : List (Nat × LInfo)) (H2 : AHeap) (hx : Ext H H2) (d : Int) (hc : Coined l) => balance_s (loops := loops) (acc := x) (day := d) (hv.ext hx) hc)
  obtain ⟨hlen, a, c, rfl⟩ := hv.slice
  clear hv
  unfold lowR
  by_cases h0 : errP l acc = 0
  case' neg =>
    rw [show errL l acc x = errP l acc from if_pos h0, if_neg h0]
    have h0b : (errP l acc != 0) = true := by simpa using h0
    generalize errP l acc = er at HCK h0b
    clear h0
    refine CallS.enter' Tryz.func50 rfl Tryz.ntmps50 (by simp) fun f hd hf => ?_
    have f0 := hf 0
    have f1 := hf 1
    have f2 := hf 2
    simp at f0 f1 f2
    clear hf
    repeat' (first|(with_reducible first|refine zA ?_|refine zB fun K hK=>?_|refine zC fun K2 hK2=>?_|refine zD ?_|refine zE ?_|refine zF ?_|refine zG ?_|refine zH ?_|refine zI ?_|refine zM ?_|refine zN ?_|refine zO ?_|refine zP ?_|refine zQ ?_|refine zR ?_)|((with_reducible refine zU (hK _ _ ?_));clear hK K)|((with_reducible refine zV ?_ ?_ fun K1 K3 d hdst h1 h3=>?_);rfl;exact yB rfl;cases hdst;go_simp)|((with_reducible refine zW fun K1 K3 h1 h3=>?_);go_simp)|((first|refine h1 ?_|refine h3 ?_);clear h1 h3 K1 K3)|((first|refine zX (fun hb=>h1 ?_) (fun hb=>h3 ?_)|refine zX (fun hb=>h3 ?_) (fun hb=>h1 ?_))<;>(clear h1 h3 K1 K3;(try have hb2:=yC hb);(try have hb2:=yD hb);(try have hb2:=yE hb);(try have hb2:=yF hb);(try have hb2:=yG hb)))|(refine fun (K2:_→AHeap→Prop) hK2=>?_)|((with_reducible refine zY ?_ ?_);decide)|((with_reducible first|refine zZ ?_ (fun K hK=>?_)|refine yA ?_ (fun K hK=>?_));(focus go_simp;done);go_simp;refine hK _ _ ?_;clear hK K)|(go_simp;(try go_bits);(try first | ((with_reducible show CallS _ _ _ _ _ _);refine CallS.mono (HCK.out _ _ ((Ext.refl _).push' _)) ?_; rintro _ _ ⟨rfl, h9⟩; rw [h9]; clear h9; go_simp) | ((rw [aBuild_struct st87 ze87]); go_simp));refine hK2 _ _ ?_;clear hK2 K2))
    exact ⟨rfl, (Ext.refl _).push' _⟩
  have hg := goodL h0
  have HCO := Lib.hid hg.coined
  have w0 := wrap_id (n := acc - 1) (by have := hg.bd; omega)
  rw [h0] at HCK
  by_cases h1 : win 0 (acc - 1) x = true
  case' neg =>
    have h1b : win 0 (acc - 1) x = false := by simpa using h1
    rw [show errL l acc x = 1 from (if_neg (by simpa using h0)).trans (if_neg h1), if_neg (by decide)]
    clear hg h1 h0
    refine CallS.enter' Tryz.func50 rfl Tryz.ntmps50 (by simp) fun f hd hf => ?_
    have f0 := hf 0
    have f1 := hf 1
    have f2 := hf 2
    simp at f0 f1 f2
    clear hf
    repeat' (first|(with_reducible first|refine zA ?_|refine zB fun K hK=>?_|refine zC fun K2 hK2=>?_|refine zD ?_|refine zE ?_|refine zF ?_|refine zG ?_|refine zH ?_|refine zI ?_|refine zM ?_|refine zN ?_|refine zO ?_|refine zP ?_|refine zQ ?_|refine zR ?_)|((with_reducible refine zU (hK _ _ ?_));clear hK K)|((with_reducible refine zV ?_ ?_ fun K1 K3 d hdst h1 h3=>?_);rfl;exact yB rfl;cases hdst;go_simp)|((with_reducible refine zW fun K1 K3 h1 h3=>?_);go_simp)|((first|refine h1 ?_|refine h3 ?_);clear h1 h3 K1 K3)|((first|refine zX (fun hb=>h1 ?_) (fun hb=>h3 ?_)|refine zX (fun hb=>h3 ?_) (fun hb=>h1 ?_))<;>(clear h1 h3 K1 K3;(try have hb2:=yC hb);(try have hb2:=yD hb);(try have hb2:=yE hb);(try have hb2:=yF hb);(try have hb2:=yG hb)))|(refine fun (K2:_→AHeap→Prop) hK2=>?_)|((with_reducible refine zY ?_ ?_);decide)|((with_reducible first|refine zZ ?_ (fun K hK=>?_)|refine yA ?_ (fun K hK=>?_));(focus go_simp;done);go_simp;refine hK _ _ ?_;clear hK K)|(go_simp;(try go_bits);(try first |((with_reducible show CallS _ _ _ _ _ _);first|(refine CallS.mono (HCK.out _ _ ((Ext.refl _).push' _)) ?_; rintro _ _ ⟨rfl, h9⟩; rw [h9]; clear h9; go_simp)|(refine CallS.mono in_s ?_; rintro _ _ ⟨rfl, h9⟩; rw [h9]; clear h9; go_simp))|((rw [aBuild_struct st87 ze87]); go_simp));refine hK2 _ _ ?_;clear hK2 K2))
    exact ⟨rfl, (Ext.refl _).push' _⟩
  rw [show errL l acc x = 0 from (if_neg (by simpa using h0)).trans (if_pos h1), if_pos rfl]
  clear hg h0
  refine CallS.enter' Tryz.func50 rfl Tryz.ntmps50 (by simp) fun f hd hf => ?_
  have f0 := hf 0
  have f1 := hf 1
  have f2 := hf 2
  simp at f0 f1 f2
  clear hf
  repeat' (first|(with_reducible first|refine zA ?_|refine zB fun K hK=>?_|refine zC fun K2 hK2=>?_|refine zD ?_|refine zE ?_|refine zF ?_|refine zG ?_|refine zH ?_|refine zI ?_|refine zM ?_|refine zN ?_|refine zO ?_|refine zP ?_|refine zQ ?_|refine zR ?_)|((with_reducible refine zU (hK _ _ ?_));clear hK K)|((with_reducible refine zV ?_ ?_ fun K1 K3 d hdst h1 h3=>?_);rfl;exact yB rfl;cases hdst;go_simp)|((with_reducible refine zW fun K1 K3 h1 h3=>?_);go_simp)|((first|refine h1 ?_|refine h3 ?_);clear h1 h3 K1 K3)|((first|refine zX (fun hb=>h1 ?_) (fun hb=>h3 ?_)|refine zX (fun hb=>h3 ?_) (fun hb=>h1 ?_))<;>(clear h1 h3 K1 K3;(try have hb2:=yC hb);(try have hb2:=yD hb);(try have hb2:=yE hb);(try have hb2:=yF hb);(try have hb2:=yG hb)))|(refine fun (K2:_→AHeap→Prop) hK2=>?_)|((with_reducible refine zY ?_ ?_);decide)|((with_reducible first|refine zZ ?_ (fun K hK=>?_)|refine yA ?_ (fun K hK=>?_));(focus go_simp;done);go_simp;refine hK _ _ ?_;clear hK K)|(go_simp;(try go_bits);(try first |((with_reducible show CallS _ _ _ _ _ _);first|(refine CallS.mono (HCK.out _ _ ((Ext.refl _).push' _)) ?_; rintro _ _ ⟨rfl, h9⟩; rw [h9]; clear h9; go_simp)|(refine CallS.mono in_s ?_; rintro _ _ ⟨rfl, h9⟩; rw [h9]; clear h9; go_simp)|(refine CallS.mono (HST.out _ _ ((Ext.refl _).push' _) _ HCO.out) ?_; rintro _ _ ⟨rfl, h9⟩; rw [h9]; clear h9; go_simp))|((rw [aBuild_struct st87 ze87]); go_simp));refine hK2 _ _ ?_;clear hK2 K2))
  refine CodeS.loop (fun m f H' => ∃ (k : Nat) (p q : Int), 1 ≤ k ∧ k ≤ 731 ∧ m = 731 - k ∧ f.tmp 9 = .int .i64 k ∧ f.tmp 0 = .slice a l.length c ∧ f.tmp 2 = .int .i64 x ∧ f.tmp 8 = .pointer (some ⟨H.n + 1, 0, none⟩) ∧ f.tmp 6 = .pointer (some ⟨H.n, 0, none⟩) ∧ f.defers = [] ∧ Hid (lowS l x k = (p, q)) ∧ Hid (Ext H H') ∧ H.n + 2 ≤ H'.n ∧ Hid (H'.get (H.n + 1) = .row [.int .i64 p, .int .i64 q, .int .i64 0] 87) ∧ Hid (H'.get H.n = .row [.int .i64 0, .int .i64 0, .int .i64 0] 87)) 730 ?_ ?_
  · refine ⟨1, bal l x 0, 0, by omega, by omega, by omega, (by first|go_simp<;>go_num|assumption), (by first|go_simp<;>go_num|assumption), (by first|go_simp<;>go_num|assumption), (by first|go_simp<;>go_num|assumption), (by first|go_simp<;>go_num|assumption), (by first|go_simp<;>go_num|assumption), Lib.hid (lowS_one l x), Lib.hid (((Ext.refl _).push' _).push' _), by simp only [AHeap.n_push]; omega, Lib.hid ?_, Lib.hid ?_⟩
    · exact AHeap.get_push_new
    · rw [AHeap.get_push_old (by rw [AHeap.n_push]; omega), AHeap.get_push_new]
  clear f0 f1 f2 hd f
  rintro m f H' ⟨k, p, q, hk1, hk, rfl, f9, f0, f2, f8, f6, hd, HG, HX, hnn, HG1, HG0⟩
  have hl1 : H.n + 1 < H'.n := by omega
  have hl0 : H.n < H'.n := by omega
  have hg1 := HG1.out
  have hc0 : cellAt H' (H.n + 1) 0 = some (.int .i64 p) := by simp [cellAt, hg1]
  have hcc : cellsAt H' (H.n + 1) 0 3 = some [.int .i64 p, .int .i64 q, .int .i64 0] := by simp [cellsAt, hg1]
  have HNN := Lib.hid hnn
  clear hnn
  by_cases hlt : k ≤ 730
  · have hlb : (k : Int) ≤ 730 := by omega
    have w1 := wrap_id (n := (k : Int) + 1) (by omega)
    have HS := Lib.hid (fun (loops : List (Nat × LInfo)) => HST.out loops H' HX.out (k : Int) HCO.out)
    have HU : Hid (lowS l x (k + 1) = if bal l x k < p then (bal l x k, (k : Int)) else (p, q)) := Lib.hid (by rw [lowS, HG.out])
    generalize bal l x (k : Int) = s at HS HU
    by_cases hs : s < p
    · rw [if_pos hs] at HU
      repeat' (first|(with_reducible first|refine zA ?_|refine zB fun K hK=>?_|refine zC fun K2 hK2=>?_|refine zD ?_|refine zE ?_|refine zF ?_|refine zG ?_|refine zH ?_|refine zI ?_|refine zM ?_|refine zN ?_|refine zO ?_|refine zP ?_|refine zQ ?_|refine zR ?_)|((with_reducible refine zU (hK _ _ ?_));clear hK K)|((with_reducible refine zV ?_ ?_ fun K1 K3 d hdst h1 h3=>?_);rfl;exact yB rfl;cases hdst;go_simp)|((with_reducible refine zW fun K1 K3 h1 h3=>?_);go_simp)|((first|refine h1 ?_|refine h3 ?_);clear h1 h3 K1 K3)|((first|refine zX (fun hb=>h1 ?_) (fun hb=>h3 ?_)|refine zX (fun hb=>h3 ?_) (fun hb=>h1 ?_))<;>(clear h1 h3 K1 K3;(try have hb2:=yC hb);(try have hb2:=yD hb);(try have hb2:=yE hb);(try have hb2:=yF hb);(try have hb2:=yG hb)))|(refine fun (K2:_→AHeap→Prop) hK2=>?_)|((with_reducible refine zY ?_ ?_);decide)|((with_reducible first|refine zZ ?_ (fun K hK=>?_)|refine yA ?_ (fun K hK=>?_));(focus go_simp;done);go_simp;refine hK _ _ ?_;clear hK K)|(go_simp;(try go_bits);(try first | ((with_reducible show CallS _ _ _ _ _ _);refine CallS.mono (HS.out _) ?_; rintro _ _ ⟨rfl, h9⟩; rw [h9]; clear h9; go_simp) | ((rw [aBuild_struct st87 ze87]); go_simp));refine hK2 _ _ ?_;clear hK2 K2))
      refine Post.round_normal ⟨731 - (k + 1), by omega, k + 1, s, k, by omega, by omega, rfl, (by first|go_simp<;>go_num|assumption), (by first|go_simp<;>go_num|assumption), (by first|go_simp<;>go_num|assumption), (by first|go_simp<;>go_num|assumption), (by first|go_simp<;>go_num|assumption), (by first|go_simp<;>go_num|assumption), HU, Lib.hid (HX.out.upd (by omega) _), by rw [AHeap.n_upd]; exact HNN.out, Lib.hid ?_, Lib.hid ?_⟩
      · rw [AHeap.get_upd, if_pos rfl]
      · rw [AHeap.get_upd_ne (by omega)]; exact HG0.out
    · rw [if_neg hs] at HU
      repeat' (first|(with_reducible first|refine zA ?_|refine zB fun K hK=>?_|refine zC fun K2 hK2=>?_|refine zD ?_|refine zE ?_|refine zF ?_|refine zG ?_|refine zH ?_|refine zI ?_|refine zM ?_|refine zN ?_|refine zO ?_|refine zP ?_|refine zQ ?_|refine zR ?_)|((with_reducible refine zU (hK _ _ ?_));clear hK K)|((with_reducible refine zV ?_ ?_ fun K1 K3 d hdst h1 h3=>?_);rfl;exact yB rfl;cases hdst;go_simp)|((with_reducible refine zW fun K1 K3 h1 h3=>?_);go_simp)|((first|refine h1 ?_|refine h3 ?_);clear h1 h3 K1 K3)|((first|refine zX (fun hb=>h1 ?_) (fun hb=>h3 ?_)|refine zX (fun hb=>h3 ?_) (fun hb=>h1 ?_))<;>(clear h1 h3 K1 K3;(try have hb2:=yC hb);(try have hb2:=yD hb);(try have hb2:=yE hb);(try have hb2:=yF hb);(try have hb2:=yG hb)))|(refine fun (K2:_→AHeap→Prop) hK2=>?_)|((with_reducible refine zY ?_ ?_);decide)|((with_reducible first|refine zZ ?_ (fun K hK=>?_)|refine yA ?_ (fun K hK=>?_));(focus go_simp;done);go_simp;refine hK _ _ ?_;clear hK K)|(go_simp;(try go_bits);(try first | ((with_reducible show CallS _ _ _ _ _ _);refine CallS.mono (HS.out _) ?_; rintro _ _ ⟨rfl, h9⟩; rw [h9]; clear h9; go_simp) | ((rw [aBuild_struct st87 ze87]); go_simp));refine hK2 _ _ ?_;clear hK2 K2))
      exact Post.round_normal ⟨731 - (k + 1), by omega, k + 1, p, q, by omega, by omega, rfl, (by first|go_simp<;>go_num|assumption), (by first|go_simp<;>go_num|assumption), (by first|go_simp<;>go_num|assumption), (by first|go_simp<;>go_num|assumption), (by first|go_simp<;>go_num|assumption), (by first|go_simp<;>go_num|assumption), HU, HX, HNN.out, HG1, HG0⟩
  · have hlb : ¬ (k : Int) ≤ 730 := by omega
    obtain rfl : k = 731 := by omega
    have hg0 := HG0.out
    repeat' (first|(with_reducible first|refine zA ?_|refine zB fun K hK=>?_|refine zC fun K2 hK2=>?_|refine zD ?_|refine zE ?_|refine zF ?_|refine zG ?_|refine zH ?_|refine zI ?_|refine zM ?_|refine zN ?_|refine zO ?_|refine zP ?_|refine zQ ?_|refine zR ?_)|((with_reducible refine zU (hK _ _ ?_));clear hK K)|((with_reducible refine zV ?_ ?_ fun K1 K3 d hdst h1 h3=>?_);rfl;exact yB rfl;cases hdst;go_simp)|((with_reducible refine zW fun K1 K3 h1 h3=>?_);go_simp)|((first|refine h1 ?_|refine h3 ?_);clear h1 h3 K1 K3)|((first|refine zX (fun hb=>h1 ?_) (fun hb=>h3 ?_)|refine zX (fun hb=>h3 ?_) (fun hb=>h1 ?_))<;>(clear h1 h3 K1 K3;(try have hb2:=yC hb);(try have hb2:=yD hb);(try have hb2:=yE hb);(try have hb2:=yF hb);(try have hb2:=yG hb)))|(refine fun (K2:_→AHeap→Prop) hK2=>?_)|((with_reducible refine zY ?_ ?_);decide)|((with_reducible first|refine zZ ?_ (fun K hK=>?_)|refine yA ?_ (fun K hK=>?_));(focus go_simp;done);go_simp;refine hK _ _ ?_;clear hK K)|(go_simp;(try go_bits);refine hK2 _ _ ?_;clear hK2 K2))
    exact ⟨by rw [HG.out], HX.out.upd (Nat.le_refl _) _⟩
theorem refLow_s {loops : List (Nat × LInfo)} {H : AHeap} {v : Value} {l : List Pst} {acc x : Int} (hv : Psts H v l) : CallS Tryz.prog loops 50 [v, .int .i64 acc, .int .i64 x] H fun r H' => r = .agg #[.int .i64 (lowR l acc x).1, .int .i64 (lowR l acc x).2, .int .i64 (errL l acc x)] ∧ H' = H :=
  (refLow_e hv).forget (R := fun r => r = .agg #[.int .i64 (lowR l acc x).1, .int .i64 (lowR l acc x).2, .int .i64 (errL l acc x)]) (by rintro v rfl; rfl)
end Go.Proofs.Tryz
namespace Go.Proofs.Tryz
open Go Go.Am Go.RowKit
set_option maxRecDepth 100000


set_option maxHeartbeats 4000000 in
theorem law7 {H : AHeap} {v : Value} {l : List Pst} {acc x day : Int} (hv : Psts H v l) :
    CallS Tryz.prog [] 7 [v, .int .i64 acc, .int .i64 x, .int .i64 day] H fun r _ => r = .bool true := by
  have HBA := Lib.hid (fun (loops : List (Nat × LInfo)) (H2 : AHeap) (hx : Ext H H2) => balances_e (loops := loops) (acc := acc) (day := day) (hv.ext hx))
  have HBB := Lib.hid (fun (loops : List (Nat × LInfo)) (H2 : AHeap) (hx : Ext H H2) => refBal_e (loops := loops) (acc := acc) (day := day) (hv.ext hx))
  have HLA := Lib.hid (fun (loops : List (Nat × LInfo)) (H2 : AHeap) (hx : Ext H H2) => lowest_s (loops := loops) (acc := acc) (x := x) (hv.ext hx))
  have HLB := Lib.hid (fun (loops : List (Nat × LInfo)) (H2 : AHeap) (hx : Ext H H2) => refLow_s (loops := loops) (acc := acc) (x := x) (hv.ext hx))
  have HCA := Lib.hid (fun (loops : List (Nat × LInfo)) (H2 : AHeap) (hx : Ext H H2) => checkPosts_s (loops := loops) (acc := acc) (hv.ext hx))
  have HCB := Lib.hid (fun (loops : List (Nat × LInfo)) (H2 : AHeap) (hx : Ext H H2) => refPosts_s (loops := loops) (acc := acc) (hv.ext hx))
  obtain ⟨hlen, a, c, rfl⟩ := hv.slice
  generalize balR l acc day = bl at HBA HBB
  generalize errB l acc day = eb at HBA HBB
  generalize (lowR l acc x).1 = l1 at HLA HLB
  generalize (lowR l acc x).2 = l2 at HLA HLB
  generalize errL l acc x = el at HLA HLB
  generalize errP l acc = ep at HCA HCB
  clear hv
  by_cases h30 : 30 < l.length
  · have b1 : (30 : Int) < (l.length : Int) := by omega
    by_cases h80 : l.length ≤ 80
    · have b2 : (l.length : Int) ≤ 80 := by omega
      clear h30 h80
      refine CallS.enter' Tryz.func7 rfl Tryz.ntmps7 (by simp) fun f hd hf => ?_
      have f0 := hf 0
      have f1 := hf 1
      have f2 := hf 2
      have f3 := hf 3
      simp at f0 f1 f2 f3
      clear hf
      repeat' (first|(with_reducible first|refine zA ?_|refine zB fun K hK=>?_|refine zC fun K2 hK2=>?_|refine zD ?_|refine zE ?_|refine zF ?_|refine zG ?_|refine zH ?_|refine zI ?_|refine zM ?_|refine zN ?_|refine zO ?_|refine zP ?_|refine zQ ?_|refine zR ?_)|((with_reducible refine zU (hK _ _ ?_));clear hK K)|((with_reducible refine zV ?_ ?_ fun K1 K3 d hdst h1 h3=>?_);rfl;exact yB rfl;cases hdst;go_simp)|((with_reducible refine zW fun K1 K3 h1 h3=>?_);go_simp)|((first|refine h1 ?_|refine h3 ?_);clear h1 h3 K1 K3)|((first|refine zX (fun hb=>h1 ?_) (fun hb=>h3 ?_)|refine zX (fun hb=>h3 ?_) (fun hb=>h1 ?_))<;>(clear h1 h3 K1 K3;(try have hb2:=yC hb);(try have hb2:=yD hb);(try have hb2:=yE hb);(try have hb2:=yF hb);(try have hb2:=yG hb)))|(refine fun (K2:_→AHeap→Prop) hK2=>?_)|((with_reducible refine zY ?_ ?_);decide)|((with_reducible first|refine zZ ?_ (fun K hK=>?_)|refine yA ?_ (fun K hK=>?_));(focus go_simp;done);go_simp;refine hK _ _ ?_;clear hK K)|(go_simp;(try go_bits);(try first | ((with_reducible show CallS _ _ _ _ _ _);refine CallS.mono head_s ?_; rintro _ _ ⟨rfl, h9⟩; rw [h9]; clear h9; go_simp));refine hK2 _ _ ?_;clear hK2 K2))
      all_goals rfl
    · have b2 : ¬ (l.length : Int) ≤ 80 := by omega
      by_cases h90 : 90 < l.length
      · have b3 : (90 : Int) < (l.length : Int) := by omega
        clear h30 h80 h90
        refine CallS.enter' Tryz.func7 rfl Tryz.ntmps7 (by simp) fun f hd hf => ?_
        have f0 := hf 0
        have f1 := hf 1
        have f2 := hf 2
        have f3 := hf 3
        simp at f0 f1 f2 f3
        clear hf
        repeat' (first|(with_reducible first|refine zA ?_|refine zB fun K hK=>?_|refine zC fun K2 hK2=>?_|refine zD ?_|refine zE ?_|refine zF ?_|refine zG ?_|refine zH ?_|refine zI ?_|refine zM ?_|refine zN ?_|refine zO ?_|refine zP ?_|refine zQ ?_|refine zR ?_)|((with_reducible refine zU (hK _ _ ?_));clear hK K)|((with_reducible refine zV ?_ ?_ fun K1 K3 d hdst h1 h3=>?_);rfl;exact yB rfl;cases hdst;go_simp)|((with_reducible refine zW fun K1 K3 h1 h3=>?_);go_simp)|((first|refine h1 ?_|refine h3 ?_);clear h1 h3 K1 K3)|((first|refine zX (fun hb=>h1 ?_) (fun hb=>h3 ?_)|refine zX (fun hb=>h3 ?_) (fun hb=>h1 ?_))<;>(clear h1 h3 K1 K3;(try have hb2:=yC hb);(try have hb2:=yD hb);(try have hb2:=yE hb);(try have hb2:=yF hb);(try have hb2:=yG hb)))|(refine fun (K2:_→AHeap→Prop) hK2=>?_)|((with_reducible refine zY ?_ ?_);decide)|((with_reducible first|refine zZ ?_ (fun K hK=>?_)|refine yA ?_ (fun K hK=>?_));(focus go_simp;done);go_simp;refine hK _ _ ?_;clear hK K)|(go_simp;(try go_bits);(try first | ((with_reducible show CallS _ _ _ _ _ _);refine CallS.mono head_s ?_; rintro _ _ ⟨rfl, h9⟩; rw [h9]; clear h9; go_simp));refine hK2 _ _ ?_;clear hK2 K2))
        all_goals rfl
      · have b3 : ¬ (90 : Int) < (l.length : Int) := by omega
        clear h30 h80 h90
        refine CallS.enter' Tryz.func7 rfl Tryz.ntmps7 (by simp) fun f hd hf => ?_
        have f0 := hf 0
        have f1 := hf 1
        have f2 := hf 2
        have f3 := hf 3
        simp at f0 f1 f2 f3
        clear hf
        repeat' (first|(with_reducible first|refine zA ?_|refine zB fun K hK=>?_|refine zC fun K2 hK2=>?_|refine zD ?_|refine zE ?_|refine zF ?_|refine zG ?_|refine zH ?_|refine zI ?_|refine zM ?_|refine zN ?_|refine zO ?_|refine zP ?_|refine zQ ?_|refine zR ?_)|((with_reducible refine zU (hK _ _ ?_));clear hK K)|((with_reducible refine zV ?_ ?_ fun K1 K3 d hdst h1 h3=>?_);rfl;exact yB rfl;cases hdst;go_simp)|((with_reducible refine zW fun K1 K3 h1 h3=>?_);go_simp)|((first|refine h1 ?_|refine h3 ?_);clear h1 h3 K1 K3)|((first|refine zX (fun hb=>h1 ?_) (fun hb=>h3 ?_)|refine zX (fun hb=>h3 ?_) (fun hb=>h1 ?_))<;>(clear h1 h3 K1 K3;(try have hb2:=yC hb);(try have hb2:=yD hb);(try have hb2:=yE hb);(try have hb2:=yF hb);(try have hb2:=yG hb)))|(refine fun (K2:_→AHeap→Prop) hK2=>?_)|((with_reducible refine zY ?_ ?_);decide)|((with_reducible first|refine zZ ?_ (fun K hK=>?_)|refine yA ?_ (fun K hK=>?_));(focus go_simp;done);go_simp;refine hK _ _ ?_;clear hK K)|(go_simp;(try go_bits);(try first |((with_reducible show CallS _ _ _ _ _ _);first|(refine CallS.mono (HBA.out _ _ (Ext.refl _)) ?_; rintro _ H2 ⟨⟨a2, n2, c2, rfl, hi2⟩, hx2⟩; (have HX2 := Lib.hid hx2); (have HI2 := Lib.hid hi2); clear hi2 hx2)|(refine CallS.mono (HBB.out _ _ HX2.out) ?_; rintro _ H3 ⟨⟨a3, n3, c3, rfl, hi3⟩, hx3⟩; (have HX3 := Lib.hid (HX2.out.trans hx3)); (have HI2b := Lib.hid (HI2.out.ext hx3)); (have HI3 := Lib.hid hi3); clear hi3 hx3)|(refine CallS.mono (HLA.out _ _ (by first | exact HX3.out | exact HX3.out.push' _ | exact (HX3.out.push' _).push' _)) ?_; rintro _ _ ⟨rfl, h9⟩; rw [h9]; clear h9; go_simp)|(refine CallS.mono (HLB.out _ _ (by first | exact HX3.out | exact HX3.out.push' _ | exact (HX3.out.push' _).push' _)) ?_; rintro _ _ ⟨rfl, h9⟩; rw [h9]; clear h9; go_simp)|(refine CallS.mono (HCA.out _ _ (by first | exact HX3.out | exact HX3.out.push' _ | exact (HX3.out.push' _).push' _)) ?_; rintro _ _ ⟨rfl, h9⟩; rw [h9]; clear h9; go_simp)|(refine CallS.mono (HCB.out _ _ (by first | exact HX3.out | exact HX3.out.push' _ | exact (HX3.out.push' _).push' _)) ?_; rintro _ _ ⟨rfl, h9⟩; rw [h9]; clear h9; go_simp)|(refine CallS.mono (sameInts_s (HI2b.out.ext (((Ext.refl _).push' _).push' _)) (HI3.out.ext (((Ext.refl _).push' _).push' _))) ?_; rintro _ _ ⟨rfl, h9⟩; rw [h9]; clear h9; go_simp)|(refine CallS.mono head_s ?_; rintro _ _ ⟨rfl, h9⟩; rw [h9]; clear h9; go_simp)));refine hK2 _ _ ?_;clear hK2 K2))
        all_goals rfl
  · have b1 : ¬ (30 : Int) < (l.length : Int) := by omega
    have b3 : ¬ (90 : Int) < (l.length : Int) := by omega
    clear h30
    refine CallS.enter' Tryz.func7 rfl Tryz.ntmps7 (by simp) fun f hd hf => ?_
    have f0 := hf 0
    have f1 := hf 1
    have f2 := hf 2
    have f3 := hf 3
    simp at f0 f1 f2 f3
    clear hf
    repeat' (first|(with_reducible first|refine zA ?_|refine zB fun K hK=>?_|refine zC fun K2 hK2=>?_|refine zD ?_|refine zE ?_|refine zF ?_|refine zG ?_|refine zH ?_|refine zI ?_|refine zM ?_|refine zN ?_|refine zO ?_|refine zP ?_|refine zQ ?_|refine zR ?_)|((with_reducible refine zU (hK _ _ ?_));clear hK K)|((with_reducible refine zV ?_ ?_ fun K1 K3 d hdst h1 h3=>?_);rfl;exact yB rfl;cases hdst;go_simp)|((with_reducible refine zW fun K1 K3 h1 h3=>?_);go_simp)|((first|refine h1 ?_|refine h3 ?_);clear h1 h3 K1 K3)|((first|refine zX (fun hb=>h1 ?_) (fun hb=>h3 ?_)|refine zX (fun hb=>h3 ?_) (fun hb=>h1 ?_))<;>(clear h1 h3 K1 K3;(try have hb2:=yC hb);(try have hb2:=yD hb);(try have hb2:=yE hb);(try have hb2:=yF hb);(try have hb2:=yG hb)))|(refine fun (K2:_→AHeap→Prop) hK2=>?_)|((with_reducible refine zY ?_ ?_);decide)|((with_reducible first|refine zZ ?_ (fun K hK=>?_)|refine yA ?_ (fun K hK=>?_));(focus go_simp;done);go_simp;refine hK _ _ ?_;clear hK K)|(go_simp;(try go_bits);(try first |((with_reducible show CallS _ _ _ _ _ _);first|(refine CallS.mono (HBA.out _ _ (Ext.refl _)) ?_; rintro _ H2 ⟨⟨a2, n2, c2, rfl, hi2⟩, hx2⟩; (have HX2 := Lib.hid hx2); (have HI2 := Lib.hid hi2); clear hi2 hx2)|(refine CallS.mono (HBB.out _ _ HX2.out) ?_; rintro _ H3 ⟨⟨a3, n3, c3, rfl, hi3⟩, hx3⟩; (have HX3 := Lib.hid (HX2.out.trans hx3)); (have HI2b := Lib.hid (HI2.out.ext hx3)); (have HI3 := Lib.hid hi3); clear hi3 hx3)|(refine CallS.mono (HLA.out _ _ (by first | exact HX3.out | exact HX3.out.push' _ | exact (HX3.out.push' _).push' _)) ?_; rintro _ _ ⟨rfl, h9⟩; rw [h9]; clear h9; go_simp)|(refine CallS.mono (HLB.out _ _ (by first | exact HX3.out | exact HX3.out.push' _ | exact (HX3.out.push' _).push' _)) ?_; rintro _ _ ⟨rfl, h9⟩; rw [h9]; clear h9; go_simp)|(refine CallS.mono (HCA.out _ _ (by first | exact HX3.out | exact HX3.out.push' _ | exact (HX3.out.push' _).push' _)) ?_; rintro _ _ ⟨rfl, h9⟩; rw [h9]; clear h9; go_simp)|(refine CallS.mono (HCB.out _ _ (by first | exact HX3.out | exact HX3.out.push' _ | exact (HX3.out.push' _).push' _)) ?_; rintro _ _ ⟨rfl, h9⟩; rw [h9]; clear h9; go_simp)|(refine CallS.mono (sameInts_s (HI2b.out.ext (((Ext.refl _).push' _).push' _)) (HI3.out.ext (((Ext.refl _).push' _).push' _))) ?_; rintro _ _ ⟨rfl, h9⟩; rw [h9]; clear h9; go_simp)|(refine CallS.mono head_s ?_; rintro _ _ ⟨rfl, h9⟩; rw [h9]; clear h9; go_simp)));refine hK2 _ _ ?_;clear hK2 K2))
    all_goals rfl
end Go.Proofs.Tryz
namespace Go.Proofs.Tryz
open Go.ChangeShapes Go.WideShapes Go.ChangeAt Go.RowKit Go.Joins Go.Deep Go.Am
open Go.Proofs.YtokhhoihalpaoaaGreatDoor
set_option maxRecDepth 100000


theorem ownOne : ownKnob Tryz.prog.godebug = none := by kernel_rfl
theorem laidOut : laidOutB Tryz.prog = true := by kernel_rfl

def tabCells (d : DataW Unit) : Array Value := match d with
  | .agg l => (l.filterMap fun x => match x with | .lit (.int k n) => some (Value.int k n) | _ => none).toArray
  | _ => #[]
def layTab (cs : Array Value) : Obj → Obj
  | .cells _ t f => .cells cs t f
  | o => o
noncomputable def laidWorld (os : Os) : World :=
  let w0 := World.holding Tryz.prog os ⟨#[], #[], []⟩
  { w0 with heap := ((w0.heap.modify 0 (layTab (tabCells Rows.laid_math_bits_deBruijn32tab))).modify 1 (layTab (tabCells Rows.laid_math_bits_deBruijn64tab))).modify 2 (layTab (tabCells Rows.laid_internal_strconv_uint64pow10)) }
theorem laid_met (os : Os) (args : Array Value) : laidMet Tryz.prog Rows.taxBillsRow.laid ((laidWorld os).forCall (fun _ _ => 0) ⟨#[], args, []⟩).memory :=
  laidMet_of_run3 8 (by kernel_rfl) (by kernel_rfl) (by kernel_rfl)
theorem laid_metH (os : Os) (args : Array Value) : laidMetH Tryz.prog Rows.taxBillsRow.laid ((laidWorld os).forCall (fun _ _ => 0) ⟨#[], args, []⟩).memory :=
  laidMetH_of_parts (laid_met os args) (by kernel_rfl)

theorem tab_cell {W : World} (h : laidMetH Tryz.prog Rows.taxBillsRow.laid W) (r : Nat) (hr : r < 64) : W.cell? ⟨1, r, none⟩ = some (.int .u8 (Lib.deBruijn64tab.getD r 0)) := by
  rw [MakeChecks.laidMetH_plain _ _ _ (by kernel_rfl)] at h
  obtain ⟨ps, ⟨_, _, _, _, _, _, _, _, _, _, ⟨g, t, cs, fuel, p, q, hg, ht, hv, hd, _, _⟩, _⟩, _, _⟩ := h
  obtain rfl := Option.some.inj ((show Tryz.prog.globalNamed "math/bits.deBruijn64tab" = some 1 by kernel_rfl).symm.trans hg)
  obtain rfl := Option.some.inj ((show (Tryz.prog.globals[1]?).map (·.type) = some 286 by kernel_rfl).symm.trans ht)
  obtain ⟨xs, m, _, ex, _, hl, hel⟩ := DataW.trod_array Tryz.underlying286 hd
  have c5 : Tryz.prog.cellsOf 5 = 1 := by kernel_rfl
  have hE := hel r hr
  rw [c5, Nat.mul_one, List.getElem?_eq_getElem (by omega)] at hE
  obtain ⟨z, e1, e2, _⟩ := DataW.trod_int Tryz.underlying5 hE
  have hlen : Lib.deBruijn64tab.length = 64 := by kernel_rfl
  have hrow : (Rows.laid_math_bits_deBruijn64tab : DataW Unit) = .agg (Lib.deBruijn64tab.map fun (n : Nat) => .lit (.int .u8 n)) := by kernel_rfl
  have e3 : (xs.map (·.1)) = Lib.deBruijn64tab.map fun (n : Nat) => (DataW.lit (.int .u8 n) : DataW Unit) := (DataW.agg.inj (hrow.symm.trans (Prod.mk.inj ex).1)).symm
  have e4 : (xs.map (·.1))[r]? = (Lib.deBruijn64tab.map fun (n : Nat) => (DataW.lit (.int .u8 n) : DataW Unit))[r]? := by rw [e3]
  rw [List.getElem?_map, List.getElem?_map, List.getElem?_eq_getElem (by omega : r < xs.length), List.getElem?_eq_getElem (by omega : r < Lib.deBruijn64tab.length), e2] at e4
  have hz : z = Lib.deBruijn64tab.getD r 0 := by
    simp only [Option.map_some, Option.some.injEq, DataW.lit.injEq, Lit.int.injEq, true_and] at e4
    rw [e4, List.getD, List.getElem?_eq_getElem (by omega : r < Lib.deBruijn64tab.length)]; rfl
  rw [World.var?_cell hg hv r, ← hz]
  have : cs.toList[r]? = some (.int .u8 z) := by
    have h0 : ((cs.toList.drop r).take 1)[0]? = some (.int .u8 z) := by rw [e1]; rfl
    simpa using h0
  simpa using this

theorem laid_of {W : World} (h : laidMetH Tryz.prog Rows.taxBillsRow.laid W) : Laid W.heap.size W := by
  intro t ht
  rw [laidTabs, List.mem_singleton] at ht
  subst ht
  refine ⟨cell_lt (a := ⟨1, 0, none⟩) (tab_cell h 0 (by decide)), fun i v hv => ?_⟩
  simp only [List.getElem?_map] at hv
  have hlen : Lib.deBruijn64tab.length = 64 := by kernel_rfl
  by_cases hi : i < 64
  · rw [tab_cell h i hi, List.getD, ← hv]
    rw [List.getElem?_eq_getElem (by omega)]; rfl
  · rw [List.getElem?_eq_none (by omega)] at hv; cases hv

section
variable {H : Type} {enc : TypeId × Value → H} {w : World}
theorem int_cells {n : Nat} {cs : List Value} {x : DataW H × List MemPlace} (h : DataW.trod enc Tryz.prog w 0 (fun _ => true) true n 3 cs = some x) : ∃ z : Int, cs = [.int .i64 z] := by
  obtain ⟨z, hz, _, _⟩ := DataW.trod_int Tryz.underlying3 h
  exact ⟨z, hz⟩
end
end Go.Proofs.Tryz
