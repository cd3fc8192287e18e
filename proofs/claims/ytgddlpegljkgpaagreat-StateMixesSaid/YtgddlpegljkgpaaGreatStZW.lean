/- Contracts of functions, walked. -/
import Derived.Test.YtgddlpegljkgpaaGreatStZR
import Derived.Test.YtgddlpegljkgpaaGreatStSF
set_option linter.all false
namespace Go.Proofs.Tryz
open Go Go.Am Go.RowKit Go.Co
set_option maxRecDepth 100000

theorem stop_for {P : Program} {cx : Cx} {f : AF} {H : AHeap} {Q : Post} {n m : Nat} {ops : Array Oper} {b : Bool} {c z : Code} (h : Stop (CodeS P cx (.seq (.seq (.region n ops b) (.block m c)) z) f H Q)) : CodeS P cx (.seq (.seq (.region n ops b) (.block m c)) z) f H Q := h.out
set_option maxHeartbeats 8000000 in
theorem refMix_s {loops : List (Nat × LInfo)} {H : AHeap} {v cv : Value} {l : List Sheet} {c : Copy} (hv : SheetsV H v l) (hc : CopyV H cv c) : CallS Tryz.prog loops 72 [v, cv] H fun r H' => r = .int .i64 (errMix l c) ∧ H' = H := by
  refine CallS.forget (R := fun v => v = .int .i64 (errMix l c)) (by rintro v rfl; rfl) ?_
  obtain ⟨hlen, a, ac, rfl⟩ := hv.slice
  have HV := Lib.hid hv
  have HC := Lib.hid hc
  obtain ⟨cv, rfl, hcw⟩ := hc
  obtain ⟨hcl, ca, cc, rfl⟩ := hcw.slice
  clear hv hcw
  have HME : Hid (errMix l c = if errSheets l ≠ 0 then errSheets l else if l.length = 0 then 1 else if l.all (fun s => copyOk s c) then 0 else 1) := Lib.hid rfl
  generalize errMix l c = res at HME
  have HX1 : Hid (Ext H (H.push (.row [Value.slice ca c.words.length cc, .int .i64 c.beg, .int .i64 c.fin, .int .i64 c.per] 27))) := Lib.hid (Ext.push _)
  refine CallS.enter' Tryz.func72 rfl Tryz.ntmps72 (by simp) fun f hd hf => ?_
  have f0 := hf 0
  have f1 := hf 1
  simp at f0 f1
  clear hf
  by_cases h8 : 8 < l.length
  · have hr : res = 2 := by rw [HME.out, errSheets, if_pos h8, if_pos (by decide)]
    rw [hr]
    have h8i : (8 : Int) < (l.length : Int) := by omega
    clear h8
    repeat' (first|(with_reducible first|refine zA ?_|refine zB fun K hK=>?_|refine zC fun K2 hK2=>?_|refine zD ?_|refine zE ?_|refine zF ?_|refine zG ?_|refine zH ?_|refine zI ?_|refine zM ?_|refine zN ?_|refine zO ?_|refine zP ?_|refine zQ ?_|refine zR ?_)|((with_reducible refine zU (hK _ _ ?_));clear hK K)|((with_reducible refine zV ?_ ?_ fun K1 K3 d hdst h1 h3=>?_);rfl;exact yB rfl;cases hdst;go_simp)|((with_reducible refine zW fun K1 K3 h1 h3=>?_);go_simp)|((first|refine h1 ?_|refine h3 ?_);clear h1 h3 K1 K3)|((first|refine zX (fun hb=>h1 ?_) (fun hb=>h3 ?_)|refine zX (fun hb=>h3 ?_) (fun hb=>h1 ?_))<;>(clear h1 h3 K1 K3;(try have hb2:=yC hb);(try have hb2:=yD hb);(try have hb2:=yE hb);(try have hb2:=yF hb);(try have hb2:=yG hb)))|(refine fun (K2:_→AHeap→Prop) hK2=>?_)|((with_reducible refine zY ?_ ?_);decide)|((with_reducible first|refine zZ ?_ (fun K hK=>?_)|refine yA ?_ (fun K hK=>?_));(focus go_simp;done);go_simp;refine hK _ _ ?_;clear hK K)|(go_simp;(try go_bits);refine hK2 _ _ ?_;clear hK2 K2))
    exact ⟨rfl, HX1.out⟩
  have hes : errSheets l = errGoL l := by rw [errSheets, if_neg h8]
  rw [hes] at HME
  have hl8 : l.length ≤ 8 := by omega
  have h8i : ¬ (8 : Int) < (l.length : Int) := by omega
  clear h8
  repeat' (first|((with_reducible refine stop_for (n := 3) ?_))|(with_reducible first|refine zA ?_|refine zB fun K hK=>?_|refine zC fun K2 hK2=>?_|refine zD ?_|refine zE ?_|refine zF ?_|refine zG ?_|refine zH ?_|refine zI ?_|refine zM ?_|refine zN ?_|refine zO ?_|refine zP ?_|refine zQ ?_|refine zR ?_)|((with_reducible refine zU (hK _ _ ?_));clear hK K)|((with_reducible refine zV ?_ ?_ fun K1 K3 d hdst h1 h3=>?_);rfl;exact yB rfl;cases hdst;go_simp)|((with_reducible refine zW fun K1 K3 h1 h3=>?_);go_simp)|((first|refine h1 ?_|refine h3 ?_);clear h1 h3 K1 K3)|((first|refine zX (fun hb=>h1 ?_) (fun hb=>h3 ?_)|refine zX (fun hb=>h3 ?_) (fun hb=>h1 ?_))<;>(clear h1 h3 K1 K3;(try have hb2:=yC hb);(try have hb2:=yD hb);(try have hb2:=yE hb);(try have hb2:=yF hb);(try have hb2:=yG hb)))|(refine fun (K2:_→AHeap→Prop) hK2=>?_)|((with_reducible refine zY ?_ ?_);decide)|((with_reducible first|refine zZ ?_ (fun K hK=>?_)|refine yA ?_ (fun K hK=>?_));(focus go_simp;done);go_simp;refine hK _ _ ?_;clear hK K)|(go_simp;(try go_bits);refine hK2 _ _ ?_;clear hK2 K2))
  refine ⟨CodeS.cut (fun f H' => f.tmp 0 = .slice a l.length ac ∧ f.tmp 3 = .pointer (some ⟨H.n, 0, none⟩) ∧ f.defers = [] ∧ Hid (errGoL l = 0) ∧ H' = H.push (.row [Value.slice ca c.words.length cc, .int .i64 c.beg, .int .i64 c.fin, .int .i64 c.per] 27)) ?_ ?_⟩
  · repeat' (first|(with_reducible first|refine zA ?_|refine zB fun K hK=>?_|refine zC fun K2 hK2=>?_|refine zD ?_|refine zE ?_|refine zF ?_|refine zG ?_|refine zH ?_|refine zI ?_|refine zM ?_|refine zN ?_|refine zO ?_|refine zP ?_|refine zQ ?_|refine zR ?_)|((with_reducible refine zU (hK _ _ ?_));clear hK K)|((with_reducible refine zV ?_ ?_ fun K1 K3 d hdst h1 h3=>?_);rfl;exact yB rfl;cases hdst;go_simp)|((with_reducible refine zW fun K1 K3 h1 h3=>?_);go_simp)|((first|refine h1 ?_|refine h3 ?_);clear h1 h3 K1 K3)|((first|refine zX (fun hb=>h1 ?_) (fun hb=>h3 ?_)|refine zX (fun hb=>h3 ?_) (fun hb=>h1 ?_))<;>(clear h1 h3 K1 K3;(try have hb2:=yC hb);(try have hb2:=yD hb);(try have hb2:=yE hb);(try have hb2:=yF hb);(try have hb2:=yG hb)))|(refine fun (K2:_→AHeap→Prop) hK2=>?_)|((with_reducible refine zY ?_ ?_);decide)|((with_reducible first|refine zZ ?_ (fun K hK=>?_)|refine yA ?_ (fun K hK=>?_));(focus go_simp;done);go_simp;refine hK _ _ ?_;clear hK K)|(go_simp;(try go_bits);refine hK2 _ _ ?_;clear hK2 K2))
    refine CodeS.loop (fun m f H' => ∃ k : Nat, k ≤ l.length ∧ m = l.length - k ∧ f.tmp 5 = .int .i64 k ∧ f.tmp 0 = .slice a l.length ac ∧ f.tmp 3 = .pointer (some ⟨H.n, 0, none⟩) ∧ f.defers = [] ∧ Hid (errGoL l = errGoL (l.drop k)) ∧ H' = H.push (.row [Value.slice ca c.words.length cc, .int .i64 c.beg, .int .i64 c.fin, .int .i64 c.per] 27)) l.length ?_ ?_
    · exact ⟨0, by simp, by simp, (by first|go_simp<;>go_num|assumption), (by first|go_simp<;>go_num|assumption), (by first|go_simp<;>go_num|assumption), (by first|go_simp<;>go_num|assumption), Lib.hid (by simp), rfl⟩
    clear f0 f1 hd f
    rintro m f _ ⟨k, hk, rfl, f5, f0, f3, hd, HG, rfl⟩
    by_cases hlt : k < l.length
    · obtain ⟨b, o, sp, wv, av, rfl, hb, hx, hsv⟩ := (HV.out.ext HX1.out).at_ hlt
      have HD := Lib.hid (List.drop_eq_getElem_cons hlt)
      have HCK := Lib.hid (fun (loops : List (Nat × LInfo)) => refCheck_s (loops := loops) hsv)
      generalize l[k] = s at HD hsv HCK
      obtain ⟨wv', av', hva, hw, ha⟩ := hsv
      cases hva
      obtain ⟨-, wa, wc, rfl⟩ := hw.slice
      obtain ⟨-, aa, aac, rfl⟩ := ha.slice
      clear hw ha
      have HG2 : Hid (errGoL l = if err s ≠ 0 then err s else errGoL (l.drop (k + 1))) := Lib.hid (by rw [HG.out, HD.out, errGoL])
      have hki : (k : Int) < (l.length : Int) := by omega
      by_cases hez : err s = 0
      · have HEZ := Lib.hid hez
        rw [hez] at HCK HG2
        clear hez
        repeat' (first|(with_reducible first|refine zA ?_|refine zB fun K hK=>?_|refine zC fun K2 hK2=>?_|refine zD ?_|refine zE ?_|refine zF ?_|refine zG ?_|refine zH ?_|refine zI ?_|refine zM ?_|refine zN ?_|refine zO ?_|refine zP ?_|refine zQ ?_|refine zR ?_)|((with_reducible refine zU (hK _ _ ?_));clear hK K)|((with_reducible refine zV ?_ ?_ fun K1 K3 d hdst h1 h3=>?_);rfl;exact yB rfl;cases hdst;go_simp)|((with_reducible refine zW fun K1 K3 h1 h3=>?_);go_simp)|((first|refine h1 ?_|refine h3 ?_);clear h1 h3 K1 K3)|((first|refine zX (fun hb=>h1 ?_) (fun hb=>h3 ?_)|refine zX (fun hb=>h3 ?_) (fun hb=>h1 ?_))<;>(clear h1 h3 K1 K3;(try have hb2:=yC hb);(try have hb2:=yD hb);(try have hb2:=yE hb);(try have hb2:=yF hb);(try have hb2:=yG hb)))|(refine fun (K2:_→AHeap→Prop) hK2=>?_)|((with_reducible refine zY ?_ ?_);decide)|((with_reducible first|refine zZ ?_ (fun K hK=>?_)|refine yA ?_ (fun K hK=>?_));(focus go_simp;done);go_simp;refine hK _ _ ?_;clear hK K)|(go_simp;(try go_bits);(try first | ((with_reducible show CallS _ _ _ _ _ _);refine CallS.mono (HCK.out _) ?_; rintro _ _ ⟨rfl, h9⟩; rw [h9]; clear h9; go_simp));refine hK2 _ _ ?_;clear hK2 K2))
        exact Post.round_normal ⟨l.length - (k + 1), by omega, k + 1, by omega, rfl, (by first|go_simp<;>go_num|assumption), (by first|go_simp<;>go_num|assumption), (by first|go_simp<;>go_num|assumption), (by first|go_simp<;>go_num|assumption), Lib.hid (by rw [HG2.out, if_neg (by simp)]), rfl⟩
      · have heb : (err s != 0) = true := by simpa using hez
        have hr : res = err s := by rw [HME.out, HG2.out, if_pos hez, if_pos hez]
        rw [hr]
        repeat' (first|(with_reducible first|refine zA ?_|refine zB fun K hK=>?_|refine zC fun K2 hK2=>?_|refine zD ?_|refine zE ?_|refine zF ?_|refine zG ?_|refine zH ?_|refine zI ?_|refine zM ?_|refine zN ?_|refine zO ?_|refine zP ?_|refine zQ ?_|refine zR ?_)|((with_reducible refine zU (hK _ _ ?_));clear hK K)|((with_reducible refine zV ?_ ?_ fun K1 K3 d hdst h1 h3=>?_);rfl;exact yB rfl;cases hdst;go_simp)|((with_reducible refine zW fun K1 K3 h1 h3=>?_);go_simp)|((first|refine h1 ?_|refine h3 ?_);clear h1 h3 K1 K3)|((first|refine zX (fun hb=>h1 ?_) (fun hb=>h3 ?_)|refine zX (fun hb=>h3 ?_) (fun hb=>h1 ?_))<;>(clear h1 h3 K1 K3;(try have hb2:=yC hb);(try have hb2:=yD hb);(try have hb2:=yE hb);(try have hb2:=yF hb);(try have hb2:=yG hb)))|(refine fun (K2:_→AHeap→Prop) hK2=>?_)|((with_reducible refine zY ?_ ?_);decide)|((with_reducible first|refine zZ ?_ (fun K hK=>?_)|refine yA ?_ (fun K hK=>?_));(focus go_simp;done);go_simp;refine hK _ _ ?_;clear hK K)|(go_simp;(try go_bits);(try first | ((with_reducible show CallS _ _ _ _ _ _);refine CallS.mono (HCK.out _) ?_; rintro _ _ ⟨rfl, h9⟩; rw [h9]; clear h9; go_simp));refine hK2 _ _ ?_;clear hK2 K2))
        exact ⟨rfl, HX1.out⟩
    · repeat' (first|(with_reducible first|refine zA ?_|refine zB fun K hK=>?_|refine zC fun K2 hK2=>?_|refine zD ?_|refine zE ?_|refine zF ?_|refine zG ?_|refine zH ?_|refine zI ?_|refine zM ?_|refine zN ?_|refine zO ?_|refine zP ?_|refine zQ ?_|refine zR ?_)|((with_reducible refine zU (hK _ _ ?_));clear hK K)|((with_reducible refine zV ?_ ?_ fun K1 K3 d hdst h1 h3=>?_);rfl;exact yB rfl;cases hdst;go_simp)|((with_reducible refine zW fun K1 K3 h1 h3=>?_);go_simp)|((first|refine h1 ?_|refine h3 ?_);clear h1 h3 K1 K3)|((first|refine zX (fun hb=>h1 ?_) (fun hb=>h3 ?_)|refine zX (fun hb=>h3 ?_) (fun hb=>h1 ?_))<;>(clear h1 h3 K1 K3;(try have hb2:=yC hb);(try have hb2:=yD hb);(try have hb2:=yE hb);(try have hb2:=yF hb);(try have hb2:=yG hb)))|(refine fun (K2:_→AHeap→Prop) hK2=>?_)|((with_reducible refine zY ?_ ?_);decide)|((with_reducible first|refine zZ ?_ (fun K hK=>?_)|refine yA ?_ (fun K hK=>?_));(focus go_simp;done);go_simp;refine hK _ _ ?_;clear hK K)|(go_simp;(try go_bits);refine hK2 _ _ ?_;clear hK2 K2))
      exact ⟨(by first|go_simp<;>go_num|assumption), (by first|go_simp<;>go_num|assumption), (by first|go_simp<;>go_num|assumption), Lib.hid (by rw [HG.out, List.drop_eq_nil_of_le (by omega)]; rfl), rfl⟩
  clear f0 f1 hd f
  rintro f _ ⟨f0, f3, hd, HG, rfl⟩
  have HR : Hid (res = if l.length = 0 then 1 else if l.all (fun s => copyOk s c) then 0 else 1) := Lib.hid (by rw [HME.out, HG.out, if_neg (by simp)])
  clear HME hes HG
  repeat' (first|((with_reducible refine stop_for (n := 9) ?_))|(with_reducible first|refine zA ?_|refine zB fun K hK=>?_|refine zC fun K2 hK2=>?_|refine zD ?_|refine zE ?_|refine zF ?_|refine zG ?_|refine zH ?_|refine zI ?_|refine zM ?_|refine zN ?_|refine zO ?_|refine zP ?_|refine zQ ?_|refine zR ?_)|((with_reducible refine zU (hK _ _ ?_));clear hK K)|((with_reducible refine zV ?_ ?_ fun K1 K3 d hdst h1 h3=>?_);rfl;exact yB rfl;cases hdst;go_simp)|((with_reducible refine zW fun K1 K3 h1 h3=>?_);go_simp)|((first|refine h1 ?_|refine h3 ?_);clear h1 h3 K1 K3)|((first|refine zX (fun hb=>h1 ?_) (fun hb=>h3 ?_)|refine zX (fun hb=>h3 ?_) (fun hb=>h1 ?_))<;>(clear h1 h3 K1 K3;(try have hb2:=yC hb);(try have hb2:=yD hb);(try have hb2:=yE hb);(try have hb2:=yF hb);(try have hb2:=yG hb)))|(refine fun (K2:_→AHeap→Prop) hK2=>?_)|((with_reducible refine zY ?_ ?_);decide)|((with_reducible first|refine zZ ?_ (fun K hK=>?_)|refine yA ?_ (fun K hK=>?_));(focus go_simp;done);go_simp;refine hK _ _ ?_;clear hK K)|(go_simp;(try go_bits);refine hK2 _ _ ?_;clear hK2 K2))
  refine ⟨CodeS.cut (fun f H' => f.tmp 0 = .slice a l.length ac ∧ f.defers = [] ∧ Hid (l.all (fun s => copyOk s c) = true) ∧ H' = H.push (.row [Value.slice ca c.words.length cc, .int .i64 c.beg, .int .i64 c.fin, .int .i64 c.per] 27)) ?_ ?_⟩
  · repeat' (first|(with_reducible first|refine zA ?_|refine zB fun K hK=>?_|refine zC fun K2 hK2=>?_|refine zD ?_|refine zE ?_|refine zF ?_|refine zG ?_|refine zH ?_|refine zI ?_|refine zM ?_|refine zN ?_|refine zO ?_|refine zP ?_|refine zQ ?_|refine zR ?_)|((with_reducible refine zU (hK _ _ ?_));clear hK K)|((with_reducible refine zV ?_ ?_ fun K1 K3 d hdst h1 h3=>?_);rfl;exact yB rfl;cases hdst;go_simp)|((with_reducible refine zW fun K1 K3 h1 h3=>?_);go_simp)|((first|refine h1 ?_|refine h3 ?_);clear h1 h3 K1 K3)|((first|refine zX (fun hb=>h1 ?_) (fun hb=>h3 ?_)|refine zX (fun hb=>h3 ?_) (fun hb=>h1 ?_))<;>(clear h1 h3 K1 K3;(try have hb2:=yC hb);(try have hb2:=yD hb);(try have hb2:=yE hb);(try have hb2:=yF hb);(try have hb2:=yG hb)))|(refine fun (K2:_→AHeap→Prop) hK2=>?_)|((with_reducible refine zY ?_ ?_);decide)|((with_reducible first|refine zZ ?_ (fun K hK=>?_)|refine yA ?_ (fun K hK=>?_));(focus go_simp;done);go_simp;refine hK _ _ ?_;clear hK K)|(go_simp;(try go_bits);refine hK2 _ _ ?_;clear hK2 K2))
    refine CodeS.loop (fun m f H' => ∃ k : Nat, k ≤ l.length ∧ m = l.length - k ∧ f.tmp 7 = .int .i64 k ∧ f.tmp 0 = .slice a l.length ac ∧ f.tmp 3 = .pointer (some ⟨H.n, 0, none⟩) ∧ f.defers = [] ∧ Hid (l.all (fun s => copyOk s c) = (l.drop k).all (fun s => copyOk s c)) ∧ H' = H.push (.row [Value.slice ca c.words.length cc, .int .i64 c.beg, .int .i64 c.fin, .int .i64 c.per] 27)) l.length ?_ ?_
    · exact ⟨0, by simp, by simp, (by first|go_simp<;>go_num|assumption), (by first|go_simp<;>go_num|assumption), (by first|go_simp<;>go_num|assumption), (by first|go_simp<;>go_num|assumption), Lib.hid (by simp), rfl⟩
    clear f0 f3 hd f
    rintro m f _ ⟨k, hk, rfl, f7, f0, f3, hd, HA, rfl⟩
    by_cases hlt : k < l.length
    · obtain ⟨b, o, sp, wv, av, rfl, hb, hx, hsv⟩ := (HV.out.ext HX1.out).at_ hlt
      have HD := Lib.hid (List.drop_eq_getElem_cons hlt)
      have HCK := Lib.hid (fun (loops : List (Nat × LInfo)) => valid_s (loops := loops) (c := c) hsv (HC.out.ext HX1.out))
      generalize l[k] = s at HD hsv HCK
      obtain ⟨wv', av', hva, hw, ha⟩ := hsv
      cases hva
      obtain ⟨-, wa, wc, rfl⟩ := hw.slice
      obtain ⟨-, aa, aac, rfl⟩ := ha.slice
      clear hw ha
      have HA2 : Hid (l.all (fun s => copyOk s c) = (copyOk s c && (l.drop (k + 1)).all (fun s => copyOk s c))) := Lib.hid (by rw [HA.out, HD.out, List.all_cons])
      have hki : (k : Int) < (l.length : Int) := by omega
      have hlz : ¬ l.length = 0 := by omega
      generalize copyOk s c = ok at HCK HA2
      cases ok
      · have hr : res = 1 := by rw [HR.out, if_neg hlz, HA2.out]; rfl
        rw [hr]
        clear hlz
        repeat' (first|(with_reducible first|refine zA ?_|refine zB fun K hK=>?_|refine zC fun K2 hK2=>?_|refine zD ?_|refine zE ?_|refine zF ?_|refine zG ?_|refine zH ?_|refine zI ?_|refine zM ?_|refine zN ?_|refine zO ?_|refine zP ?_|refine zQ ?_|refine zR ?_)|((with_reducible refine zU (hK _ _ ?_));clear hK K)|((with_reducible refine zV ?_ ?_ fun K1 K3 d hdst h1 h3=>?_);rfl;exact yB rfl;cases hdst;go_simp)|((with_reducible refine zW fun K1 K3 h1 h3=>?_);go_simp)|((first|refine h1 ?_|refine h3 ?_);clear h1 h3 K1 K3)|((first|refine zX (fun hb=>h1 ?_) (fun hb=>h3 ?_)|refine zX (fun hb=>h3 ?_) (fun hb=>h1 ?_))<;>(clear h1 h3 K1 K3;(try have hb2:=yC hb);(try have hb2:=yD hb);(try have hb2:=yE hb);(try have hb2:=yF hb);(try have hb2:=yG hb)))|(refine fun (K2:_→AHeap→Prop) hK2=>?_)|((with_reducible refine zY ?_ ?_);decide)|((with_reducible first|refine zZ ?_ (fun K hK=>?_)|refine yA ?_ (fun K hK=>?_));(focus go_simp;done);go_simp;refine hK _ _ ?_;clear hK K)|((with_reducible refine yH mixed rfl ?_ 20 fun K0 hK0=>?_);kernel_rfl)|(with_reducible first|exact yI|exact yJ|refine yK ?_|refine yL ?_|refine yM ?_)|((with_reducible first|refine yN ?_ ?_|refine yO ?_ ?_|refine yP ?_ ?_);rfl)|((with_reducible refine yQ ?_ ?_);rfl;refine hK0 _ _ ?_;clear hK0 K0)|((with_reducible refine yR ?_ ?_ ?_ ?_);rfl;rfl;rfl)|((with_reducible refine yS ?_ ?_ ?_ fun K2 hK2=>?_);rfl;rfl;exact yB rfl)|((with_reducible refine yT ?_ ?_ ?_ ?_ fun K1 K3 d hdst h1 h3=>?_);rfl;rfl;rfl;exact yB rfl;cases hdst;go_simp)|((with_reducible refine yU ?_ ?_ ?_ ?_ fun K1 K3 d hdst h1 h3=>?_);rfl;rfl;rfl;exact yB rfl;cases hdst;go_simp)|((with_reducible refine yV ?_ ?_ (fun K2 hK2=>?_) ?_);rfl;exact yB rfl)|((with_reducible refine yW ?_ ?_ ?_ ?_ (fun K2 hK2=>?_) ?_);rfl;exact yB rfl;rfl;(focus go_simp;done))|((with_reducible refine yX ?_ ?_ ?_ (fun K2 hK2=>?_) ?_);rfl;rfl;exact yB rfl)|((with_reducible refine yY ?_ ?_ (fun K2 hK2=>?_) ?_);rfl;rfl)|((with_reducible refine yZ ?_ ?_);(first|rfl|(dsimp only;decide +kernel)))|((with_reducible refine xA ?_ ?_);(focus go_simp;done))|(go_simp;(try go_bits);(try first | ((with_reducible show CallS _ _ _ _ _ _);refine CallS.mono (HCK.out _) ?_; rintro _ _ ⟨rfl, h9⟩; rw [h9]; clear h9; go_simp));(first|(refine hK2 _ _ ?_ ?_<;>clear hK2 K2)|(refine hK2 _ _ ?_;clear hK2 K2))))
        exact ⟨rfl, HX1.out⟩
      · clear hlz
        repeat' (first|(with_reducible first|refine zA ?_|refine zB fun K hK=>?_|refine zC fun K2 hK2=>?_|refine zD ?_|refine zE ?_|refine zF ?_|refine zG ?_|refine zH ?_|refine zI ?_|refine zM ?_|refine zN ?_|refine zO ?_|refine zP ?_|refine zQ ?_|refine zR ?_)|((with_reducible refine zU (hK _ _ ?_));clear hK K)|((with_reducible refine zV ?_ ?_ fun K1 K3 d hdst h1 h3=>?_);rfl;exact yB rfl;cases hdst;go_simp)|((with_reducible refine zW fun K1 K3 h1 h3=>?_);go_simp)|((first|refine h1 ?_|refine h3 ?_);clear h1 h3 K1 K3)|((first|refine zX (fun hb=>h1 ?_) (fun hb=>h3 ?_)|refine zX (fun hb=>h3 ?_) (fun hb=>h1 ?_))<;>(clear h1 h3 K1 K3;(try have hb2:=yC hb);(try have hb2:=yD hb);(try have hb2:=yE hb);(try have hb2:=yF hb);(try have hb2:=yG hb)))|(refine fun (K2:_→AHeap→Prop) hK2=>?_)|((with_reducible refine zY ?_ ?_);decide)|((with_reducible first|refine zZ ?_ (fun K hK=>?_)|refine yA ?_ (fun K hK=>?_));(focus go_simp;done);go_simp;refine hK _ _ ?_;clear hK K)|((with_reducible refine yH mixed rfl ?_ 20 fun K0 hK0=>?_);kernel_rfl)|(with_reducible first|exact yI|exact yJ|refine yK ?_|refine yL ?_|refine yM ?_)|((with_reducible first|refine yN ?_ ?_|refine yO ?_ ?_|refine yP ?_ ?_);rfl)|((with_reducible refine yQ ?_ ?_);rfl;refine hK0 _ _ ?_;clear hK0 K0)|((with_reducible refine yR ?_ ?_ ?_ ?_);rfl;rfl;rfl)|((with_reducible refine yS ?_ ?_ ?_ fun K2 hK2=>?_);rfl;rfl;exact yB rfl)|((with_reducible refine yT ?_ ?_ ?_ ?_ fun K1 K3 d hdst h1 h3=>?_);rfl;rfl;rfl;exact yB rfl;cases hdst;go_simp)|((with_reducible refine yU ?_ ?_ ?_ ?_ fun K1 K3 d hdst h1 h3=>?_);rfl;rfl;rfl;exact yB rfl;cases hdst;go_simp)|((with_reducible refine yV ?_ ?_ (fun K2 hK2=>?_) ?_);rfl;exact yB rfl)|((with_reducible refine yW ?_ ?_ ?_ ?_ (fun K2 hK2=>?_) ?_);rfl;exact yB rfl;rfl;(focus go_simp;done))|((with_reducible refine yX ?_ ?_ ?_ (fun K2 hK2=>?_) ?_);rfl;rfl;exact yB rfl)|((with_reducible refine yY ?_ ?_ (fun K2 hK2=>?_) ?_);rfl;rfl)|((with_reducible refine yZ ?_ ?_);(first|rfl|(dsimp only;decide +kernel)))|((with_reducible refine xA ?_ ?_);(focus go_simp;done))|(go_simp;(try go_bits);(try first | ((with_reducible show CallS _ _ _ _ _ _);refine CallS.mono (HCK.out _) ?_; rintro _ _ ⟨rfl, h9⟩; rw [h9]; clear h9; go_simp));(first|(refine hK2 _ _ ?_ ?_<;>clear hK2 K2)|(refine hK2 _ _ ?_;clear hK2 K2))))
        exact Post.round_normal ⟨l.length - (k + 1), by omega, k + 1, by omega, rfl, (by first|go_simp<;>go_num|assumption), (by first|go_simp<;>go_num|assumption), (by first|go_simp<;>go_num|assumption), (by first|go_simp<;>go_num|assumption), Lib.hid (by rw [HA2.out]; rfl), rfl⟩
    · repeat' (first|(with_reducible first|refine zA ?_|refine zB fun K hK=>?_|refine zC fun K2 hK2=>?_|refine zD ?_|refine zE ?_|refine zF ?_|refine zG ?_|refine zH ?_|refine zI ?_|refine zM ?_|refine zN ?_|refine zO ?_|refine zP ?_|refine zQ ?_|refine zR ?_)|((with_reducible refine zU (hK _ _ ?_));clear hK K)|((with_reducible refine zV ?_ ?_ fun K1 K3 d hdst h1 h3=>?_);rfl;exact yB rfl;cases hdst;go_simp)|((with_reducible refine zW fun K1 K3 h1 h3=>?_);go_simp)|((first|refine h1 ?_|refine h3 ?_);clear h1 h3 K1 K3)|((first|refine zX (fun hb=>h1 ?_) (fun hb=>h3 ?_)|refine zX (fun hb=>h3 ?_) (fun hb=>h1 ?_))<;>(clear h1 h3 K1 K3;(try have hb2:=yC hb);(try have hb2:=yD hb);(try have hb2:=yE hb);(try have hb2:=yF hb);(try have hb2:=yG hb)))|(refine fun (K2:_→AHeap→Prop) hK2=>?_)|((with_reducible refine zY ?_ ?_);decide)|((with_reducible first|refine zZ ?_ (fun K hK=>?_)|refine yA ?_ (fun K hK=>?_));(focus go_simp;done);go_simp;refine hK _ _ ?_;clear hK K)|(go_simp;(try go_bits);refine hK2 _ _ ?_;clear hK2 K2))
      exact ⟨(by first|go_simp<;>go_num|assumption), (by first|go_simp<;>go_num|assumption), Lib.hid (by rw [HA.out, List.drop_eq_nil_of_le (by omega)]; rfl), rfl⟩
  clear f0 f3 hd f
  rintro f _ ⟨f0, hd, HA, rfl⟩
  by_cases hz : l.length = 0
  · have hlb : ((l.length : Int) == 0) = true := by simp [hz]
    have hr : res = 1 := by rw [HR.out, if_pos hz]
    rw [hr]
    clear hz
    repeat' (first|(with_reducible first|refine zA ?_|refine zB fun K hK=>?_|refine zC fun K2 hK2=>?_|refine zD ?_|refine zE ?_|refine zF ?_|refine zG ?_|refine zH ?_|refine zI ?_|refine zM ?_|refine zN ?_|refine zO ?_|refine zP ?_|refine zQ ?_|refine zR ?_)|((with_reducible refine zU (hK _ _ ?_));clear hK K)|((with_reducible refine zV ?_ ?_ fun K1 K3 d hdst h1 h3=>?_);rfl;exact yB rfl;cases hdst;go_simp)|((with_reducible refine zW fun K1 K3 h1 h3=>?_);go_simp)|((first|refine h1 ?_|refine h3 ?_);clear h1 h3 K1 K3)|((first|refine zX (fun hb=>h1 ?_) (fun hb=>h3 ?_)|refine zX (fun hb=>h3 ?_) (fun hb=>h1 ?_))<;>(clear h1 h3 K1 K3;(try have hb2:=yC hb);(try have hb2:=yD hb);(try have hb2:=yE hb);(try have hb2:=yF hb);(try have hb2:=yG hb)))|(refine fun (K2:_→AHeap→Prop) hK2=>?_)|((with_reducible refine zY ?_ ?_);decide)|((with_reducible first|refine zZ ?_ (fun K hK=>?_)|refine yA ?_ (fun K hK=>?_));(focus go_simp;done);go_simp;refine hK _ _ ?_;clear hK K)|(go_simp;(try go_bits);refine hK2 _ _ ?_;clear hK2 K2))
    exact ⟨rfl, HX1.out⟩
  · have hlb : ((l.length : Int) == 0) = false := by simpa using (show ¬ (l.length : Int) = 0 by omega)
    have hr : res = 0 := by rw [HR.out, if_neg hz, HA.out]; rfl
    rw [hr]
    clear hz
    repeat' (first|(with_reducible first|refine zA ?_|refine zB fun K hK=>?_|refine zC fun K2 hK2=>?_|refine zD ?_|refine zE ?_|refine zF ?_|refine zG ?_|refine zH ?_|refine zI ?_|refine zM ?_|refine zN ?_|refine zO ?_|refine zP ?_|refine zQ ?_|refine zR ?_)|((with_reducible refine zU (hK _ _ ?_));clear hK K)|((with_reducible refine zV ?_ ?_ fun K1 K3 d hdst h1 h3=>?_);rfl;exact yB rfl;cases hdst;go_simp)|((with_reducible refine zW fun K1 K3 h1 h3=>?_);go_simp)|((first|refine h1 ?_|refine h3 ?_);clear h1 h3 K1 K3)|((first|refine zX (fun hb=>h1 ?_) (fun hb=>h3 ?_)|refine zX (fun hb=>h3 ?_) (fun hb=>h1 ?_))<;>(clear h1 h3 K1 K3;(try have hb2:=yC hb);(try have hb2:=yD hb);(try have hb2:=yE hb);(try have hb2:=yF hb);(try have hb2:=yG hb)))|(refine fun (K2:_→AHeap→Prop) hK2=>?_)|((with_reducible refine zY ?_ ?_);decide)|((with_reducible first|refine zZ ?_ (fun K hK=>?_)|refine yA ?_ (fun K hK=>?_));(focus go_simp;done);go_simp;refine hK _ _ ?_;clear hK K)|(go_simp;(try go_bits);refine hK2 _ _ ?_;clear hK2 K2))
    exact ⟨rfl, HX1.out⟩

def scantB (l : List Sheet) : Bool := l.all fewB && decide (l.length ≤ 10)
theorem scant_s {loops : List (Nat × LInfo)} {H : AHeap} {v : Value} {l : List Sheet} (hv : SheetsV H v l) : CallS Tryz.prog loops 27 [v] H fun r H' => r = .bool (scantB l) ∧ H' = H := by
  obtain ⟨hlen, a, ac, rfl⟩ := hv.slice
  have HV := Lib.hid hv
  clear hv
  have HSC : Hid (scantB l = (l.all fewB && decide (l.length ≤ 10))) := Lib.hid rfl
  generalize scantB l = res at HSC
  refine CallS.enter' Tryz.func27 rfl Tryz.ntmps27 (by simp) fun f hd hf => ?_
  have f0 := hf 0
  simp at f0
  clear hf
  repeat' (first|(with_reducible first|refine zA ?_|refine zB fun K hK=>?_|refine zC fun K2 hK2=>?_|refine zD ?_|refine zE ?_|refine zF ?_|refine zG ?_|refine zH ?_|refine zI ?_|refine zM ?_|refine zN ?_|refine zO ?_|refine zP ?_|refine zQ ?_|refine zR ?_)|((with_reducible refine zU (hK _ _ ?_));clear hK K)|((with_reducible refine zV ?_ ?_ fun K1 K3 d hdst h1 h3=>?_);rfl;exact yB rfl;cases hdst;go_simp)|((with_reducible refine zW fun K1 K3 h1 h3=>?_);go_simp)|((first|refine h1 ?_|refine h3 ?_);clear h1 h3 K1 K3)|((first|refine zX (fun hb=>h1 ?_) (fun hb=>h3 ?_)|refine zX (fun hb=>h3 ?_) (fun hb=>h1 ?_))<;>(clear h1 h3 K1 K3;(try have hb2:=yC hb);(try have hb2:=yD hb);(try have hb2:=yE hb);(try have hb2:=yF hb);(try have hb2:=yG hb)))|(refine fun (K2:_→AHeap→Prop) hK2=>?_)|((with_reducible refine zY ?_ ?_);decide)|((with_reducible first|refine zZ ?_ (fun K hK=>?_)|refine yA ?_ (fun K hK=>?_));(focus go_simp;done);go_simp;refine hK _ _ ?_;clear hK K)|(go_simp;(try go_bits);refine hK2 _ _ ?_;clear hK2 K2))
  refine CodeS.loop (fun m f H' => ∃ k : Nat, k ≤ l.length ∧ m = l.length - k ∧ f.tmp 3 = .int .i64 k ∧ f.tmp 0 = .slice a l.length ac ∧ f.defers = [] ∧ Hid (l.all fewB = (l.drop k).all fewB) ∧ H' = H) l.length ?_ ?_
  · exact ⟨0, by simp, by simp, (by first|go_simp<;>go_num|assumption), (by first|go_simp<;>go_num|assumption), (by first|go_simp<;>go_num|assumption), Lib.hid (by simp), rfl⟩
  clear f0 hd f
  rintro m f _ ⟨k, hk, rfl, f3, f0, hd, HA, rfl⟩
  by_cases hlt : k < l.length
  · obtain ⟨b, o, sp, wv, av, rfl, hb, hx, hsv⟩ := HV.out.at_ hlt
    have HD := Lib.hid (List.drop_eq_getElem_cons hlt)
    have HCK := Lib.hid (fun (loops : List (Nat × LInfo)) => few_s (loops := loops) hsv)
    generalize l[k] = s at HD hsv HCK
    obtain ⟨wv', av', hva, hw, ha⟩ := hsv
    cases hva
    obtain ⟨-, wa, wc, rfl⟩ := hw.slice
    obtain ⟨-, aa, aac, rfl⟩ := ha.slice
    clear hw ha
    have HA2 : Hid (l.all fewB = (fewB s && (l.drop (k + 1)).all fewB)) := Lib.hid (by rw [HA.out, HD.out, List.all_cons])
    have hki : (k : Int) < (l.length : Int) := by omega
    generalize fewB s = ok at HCK HA2
    cases ok
    · repeat' (first|(with_reducible first|refine zA ?_|refine zB fun K hK=>?_|refine zC fun K2 hK2=>?_|refine zD ?_|refine zE ?_|refine zF ?_|refine zG ?_|refine zH ?_|refine zI ?_|refine zM ?_|refine zN ?_|refine zO ?_|refine zP ?_|refine zQ ?_|refine zR ?_)|((with_reducible refine zU (hK _ _ ?_));clear hK K)|((with_reducible refine zV ?_ ?_ fun K1 K3 d hdst h1 h3=>?_);rfl;exact yB rfl;cases hdst;go_simp)|((with_reducible refine zW fun K1 K3 h1 h3=>?_);go_simp)|((first|refine h1 ?_|refine h3 ?_);clear h1 h3 K1 K3)|((first|refine zX (fun hb=>h1 ?_) (fun hb=>h3 ?_)|refine zX (fun hb=>h3 ?_) (fun hb=>h1 ?_))<;>(clear h1 h3 K1 K3;(try have hb2:=yC hb);(try have hb2:=yD hb);(try have hb2:=yE hb);(try have hb2:=yF hb);(try have hb2:=yG hb)))|(refine fun (K2:_→AHeap→Prop) hK2=>?_)|((with_reducible refine zY ?_ ?_);decide)|((with_reducible first|refine zZ ?_ (fun K hK=>?_)|refine yA ?_ (fun K hK=>?_));(focus go_simp;done);go_simp;refine hK _ _ ?_;clear hK K)|(go_simp;(try go_bits);(try first | ((with_reducible show CallS _ _ _ _ _ _);refine CallS.mono (HCK.out _) ?_; rintro _ _ ⟨rfl, h9⟩; rw [h9]; clear h9; go_simp));refine hK2 _ _ ?_;clear hK2 K2))
      exact ⟨by rw [HSC.out, HA2.out]; rfl, rfl⟩
    · repeat' (first|(with_reducible first|refine zA ?_|refine zB fun K hK=>?_|refine zC fun K2 hK2=>?_|refine zD ?_|refine zE ?_|refine zF ?_|refine zG ?_|refine zH ?_|refine zI ?_|refine zM ?_|refine zN ?_|refine zO ?_|refine zP ?_|refine zQ ?_|refine zR ?_)|((with_reducible refine zU (hK _ _ ?_));clear hK K)|((with_reducible refine zV ?_ ?_ fun K1 K3 d hdst h1 h3=>?_);rfl;exact yB rfl;cases hdst;go_simp)|((with_reducible refine zW fun K1 K3 h1 h3=>?_);go_simp)|((first|refine h1 ?_|refine h3 ?_);clear h1 h3 K1 K3)|((first|refine zX (fun hb=>h1 ?_) (fun hb=>h3 ?_)|refine zX (fun hb=>h3 ?_) (fun hb=>h1 ?_))<;>(clear h1 h3 K1 K3;(try have hb2:=yC hb);(try have hb2:=yD hb);(try have hb2:=yE hb);(try have hb2:=yF hb);(try have hb2:=yG hb)))|(refine fun (K2:_→AHeap→Prop) hK2=>?_)|((with_reducible refine zY ?_ ?_);decide)|((with_reducible first|refine zZ ?_ (fun K hK=>?_)|refine yA ?_ (fun K hK=>?_));(focus go_simp;done);go_simp;refine hK _ _ ?_;clear hK K)|(go_simp;(try go_bits);(try first | ((with_reducible show CallS _ _ _ _ _ _);refine CallS.mono (HCK.out _) ?_; rintro _ _ ⟨rfl, h9⟩; rw [h9]; clear h9; go_simp));refine hK2 _ _ ?_;clear hK2 K2))
      exact Post.round_normal ⟨l.length - (k + 1), by omega, k + 1, by omega, rfl, (by first|go_simp<;>go_num|assumption), (by first|go_simp<;>go_num|assumption), (by first|go_simp<;>go_num|assumption), Lib.hid (by rw [HA2.out]; rfl), rfl⟩
  · repeat' (first|(with_reducible first|refine zA ?_|refine zB fun K hK=>?_|refine zC fun K2 hK2=>?_|refine zD ?_|refine zE ?_|refine zF ?_|refine zG ?_|refine zH ?_|refine zI ?_|refine zM ?_|refine zN ?_|refine zO ?_|refine zP ?_|refine zQ ?_|refine zR ?_)|((with_reducible refine zU (hK _ _ ?_));clear hK K)|((with_reducible refine zV ?_ ?_ fun K1 K3 d hdst h1 h3=>?_);rfl;exact yB rfl;cases hdst;go_simp)|((with_reducible refine zW fun K1 K3 h1 h3=>?_);go_simp)|((first|refine h1 ?_|refine h3 ?_);clear h1 h3 K1 K3)|((first|refine zX (fun hb=>h1 ?_) (fun hb=>h3 ?_)|refine zX (fun hb=>h3 ?_) (fun hb=>h1 ?_))<;>(clear h1 h3 K1 K3;(try have hb2:=yC hb);(try have hb2:=yD hb);(try have hb2:=yE hb);(try have hb2:=yF hb);(try have hb2:=yG hb)))|(refine fun (K2:_→AHeap→Prop) hK2=>?_)|((with_reducible refine zY ?_ ?_);decide)|((with_reducible first|refine zZ ?_ (fun K hK=>?_)|refine yA ?_ (fun K hK=>?_));(focus go_simp;done);go_simp;refine hK _ _ ?_;clear hK K)|(go_simp;(try go_bits);refine hK2 _ _ ?_;clear hK2 K2))
    refine ⟨?_, rfl⟩
    rw [HSC.out, HA.out, List.drop_eq_nil_of_le (by omega)]
    simp only [List.all_nil, Bool.true_and, Value.bool.injEq]
    rw [decide_eq_decide]; omega
end Go.Proofs.Tryz
namespace Go.Proofs.Tryz
open Go Go.Am Go.RowKit Go.Co
set_option maxRecDepth 100000

def crsCells (us : List Value) (xs : List Course) : List Value := (us.zip xs).flatMap fun p => [p.1, .int .i64 p.2.per]
theorem crsCells_len : ∀ (us : List Value) (xs : List Course), us.length = xs.length → (crsCells us xs).length = xs.length * 2
  | [], [], _ => rfl
  | u :: us, x :: xs, h => by
    have := crsCells_len us xs (by simpa using h)
    simp only [crsCells, List.zip_cons_cons, List.flatMap_cons, List.length_append] at *
    rw [this]; simp; omega
theorem crsCells_snoc (us : List Value) (xs : List Course) (u : Value) (x : Course) (h : us.length = xs.length) : crsCells (us ++ [u]) (xs ++ [x]) = crsCells us xs ++ [u, .int .i64 x.per] := by
  unfold crsCells
  rw [List.zip_append h, List.flatMap_append]; rfl
theorem crsCells_at : ∀ (us : List Value) (xs : List Course) (k : Nat) (u : Value) (x : Course), us[k]? = some u → xs[k]? = some x → ((crsCells us xs).drop (k * 2)).take 2 = [u, .int .i64 x.per]
  | [], _, k, u, x, h, _ => by simp at h
  | _ :: _, [], k, u, x, _, h => by simp at h
  | a :: us, b :: xs, 0, u, x, h1, h2 => by
    simp at h1 h2
    subst h1 h2
    simp [crsCells]
  | a :: us, b :: xs, k + 1, u, x, h1, h2 => by
    have ih := crsCells_at us xs k u x (by simpa using h1) (by simpa using h2)
    have e : (crsCells (a :: us) (b :: xs)).drop ((k + 1) * 2) = (crsCells us xs).drop (k * 2) := by
      rw [show (k + 1) * 2 = k * 2 + 1 + 1 by omega]
      simp [crsCells]
    rw [e]; exact ih
def CoursesV (H : AHeap) (v : Value) (xs : List Course) : Prop := ∃ b, v = .slice (some ⟨b, 0, none⟩) xs.length xs.length ∧ b < H.n ∧ ∀ k (h : k < xs.length), ∃ u, cellsAt H b (k * 2) 2 = some [u, .int .i64 (xs[k]).per] ∧ cellAt H b (k * 2) = some u ∧ CourseV H (.agg #[u, .int .i64 (xs[k]).per]) xs[k]
theorem CoursesV.ext {H H' : AHeap} {v : Value} {xs : List Course} (h : CoursesV H v xs) (hx : Ext H H') : CoursesV H' v xs := by
  obtain ⟨b, h1, h2, h3⟩ := h
  refine ⟨b, h1, Nat.lt_of_lt_of_le h2 hx.n, fun k hk => ?_⟩
  obtain ⟨u, h4, h5, h6⟩ := h3 k hk
  exact ⟨u, by rw [hx.cellsAt h2]; exact h4, by rw [hx.cellAt h2]; exact h5, h6.ext hx⟩
def CrsK (H : AHeap) (v : Value) (us : List Value) (xs : List Course) : Prop := us.length = xs.length ∧ ∀ G : AHeap, H.n ≤ G.n → (∀ i, i < H.n → (∀ b n, v = .slice (some ⟨b, 0, none⟩) n n → 0 < n → i ≠ b) → G.get i = H.get i) → ∀ j (_ : j < xs.length), ∃ u, us[j]? = some u ∧ CourseV G (.agg #[u, .int .i64 (xs[j]).per]) xs[j]
theorem CrsK.nil {H : AHeap} {v : Value} : CrsK H v [] [] := ⟨rfl, fun _ _ _ j hj => by simp at hj⟩
theorem CrsK.step {H H3 H4 : AHeap} {v v2 u : Value} {us : List Value} {xs : List Course} {x : Course} {b0 : Nat} (h : CrsK H v us xs) (hx : Ext H H3) (hv : ∀ b n, v = .slice (some ⟨b, 0, none⟩) n n → 0 < n → b < H.n) (hv2 : ∀ b n, v2 = .slice (some ⟨b, 0, none⟩) n n → 0 < n → H3.n ≤ b) (hc : CourseFrom b0 H3 (.agg #[u, .int .i64 x.per]) x) (hb : H.n ≤ b0) (h4 : H3.n ≤ H4.n) (hg : ∀ i, i < H3.n → (∀ b n, v = .slice (some ⟨b, 0, none⟩) n n → 0 < n → i ≠ b) → H4.get i = H3.get i) : CrsK H4 v2 (us ++ [u]) (xs ++ [x]) := by
  refine ⟨by simp [h.1], fun G hG hsame j hj => ?_⟩
  have hGi : ∀ i, i < H3.n → (∀ b n, v = .slice (some ⟨b, 0, none⟩) n n → 0 < n → i ≠ b) → G.get i = H3.get i := fun i hi hne => by
    rw [hsame i (by omega) (fun b n e hn => by have := hv2 b n e hn; omega)]
    exact hg i hi hne
  rcases Nat.lt_or_ge j xs.length with hlt | hge
  · obtain ⟨u', h5, h6⟩ := h.2 G (by have := hx.n; omega) (fun i hi hne => by rw [hGi i (by have := hx.n; omega) hne]; exact hx.get i hi) j hlt
    refine ⟨u', by rw [List.getElem?_append_left (by have := h.1; omega)]; exact h5, ?_⟩
    rw [List.getElem_append_left hlt]; exact h6
  · have hje : j = xs.length := by simp at hj; omega
    subst hje
    refine ⟨u, by rw [← h.1]; simp, ?_⟩
    rw [List.getElem_append_right (Nat.le_refl _)]
    simp only [Nat.sub_self, List.getElem_cons_zero]
    exact hc G (by omega) (fun i hi1 hi2 => hGi i hi2 (fun b n e hn => by have := hv b n e hn; omega))
theorem CrsK.done {H : AHeap} {v : Value} {bs : Nat} {us : List Value} {xs : List Course} (h : CrsK H v us xs) (ho : Own H bs v 79 2 (crsCells us xs)) (h1 : 0 < xs.length) : CoursesV H v xs := by
  have hl := crsCells_len us xs h.1
  rcases ho with ⟨h2, h3⟩ | ⟨b, n, h2, h3, h4, h5, h6, h7⟩
  · rw [h3] at hl; simp at hl; omega
  · have hn : n = xs.length := by omega
    subst hn
    refine ⟨b, h2, h4, fun k hk => ?_⟩
    obtain ⟨u, h8, h9⟩ := h.2 H (Nat.le_refl _) (fun _ _ _ => rfl) k hk
    have ha := crsCells_at us xs k u xs[k] h8 (by simp [hk])
    refine ⟨u, ?_, ?_, h9⟩
    · simp only [cellsAt, h5]
      rw [if_pos (by omega), ha]
    · simp only [cellAt, h5]
      have h10 : ((crsCells us xs).drop (k * 2))[0]? = some u := by
        have : (((crsCells us xs).drop (k * 2)).take 2)[0]? = some u := by rw [ha]; rfl
        rwa [List.getElem?_take_of_lt (by omega)] at this
      simpa using h10

theorem CrsK.one {H : AHeap} {v : Value} {us : List Value} {xs : List Course} (h : CrsK H v us xs) : (crsCells us xs).all oneV = true := by
  rw [List.all_eq_true]
  intro y hy
  unfold crsCells at hy
  rw [List.mem_flatMap] at hy
  obtain ⟨q, hq, hy⟩ := hy
  obtain ⟨j, hj, rfl⟩ := List.mem_iff_getElem.1 hq
  rw [List.length_zip] at hj
  obtain ⟨u, h1, h2⟩ := h.2 H (Nat.le_refl _) (fun _ _ _ => rfl) j (by omega)
  rw [List.getElem_zip] at hy
  have hu : us[j]'(by omega) = u := by
    have := (List.getElem?_eq_some_iff.1 h1).2; exact this
  obtain ⟨ov, h3, h4⟩ := h2
  cases h3
  obtain ⟨-, oa, oc, rfl⟩ := h4.slice
  simp only [List.mem_cons, List.not_mem_nil, or_false] at hy
  rcases hy with rfl | rfl
  · rw [hu]; rfl
  · rfl
theorem CourseFrom.push {b : Nat} {H : AHeap} {v : Value} {x : Course} (h : CourseFrom b H v x) (o : AObj) : CourseFrom b (H.push o) v x := fun G h1 h2 => h G (by rw [AHeap.n_push] at h1; omega) fun i h3 h4 => (h2 i h3 (by rw [AHeap.n_push]; omega)).trans (AHeap.get_push_old h4)

set_option maxHeartbeats 4000000 in
theorem coursesOf_e {loops : List (Nat × LInfo)} {H : AHeap} {v cv : Value} {l : List Sheet} {c : Copy} (hv : SheetsV H v l) (hc : CopyV H cv c) (he : errMix l c = 0) : CallS Tryz.prog loops 68 [v, cv] H fun r H' => CoursesV H' r (l.map fun s => courseOf s c) ∧ Ext H H' := by
  obtain ⟨hlen, a, ac, rfl⟩ := hv.slice
  have HV := Lib.hid hv
  have HC := Lib.hid hc
  obtain ⟨cv, rfl, hcw⟩ := hc
  obtain ⟨hcl, ca, cc, rfl⟩ := hcw.slice
  clear hv hcw
  obtain ⟨hl1, hl8, hall⟩ := errMix_ok he
  have HER := Lib.hid hall
  clear hall he
  refine CallS.enter' Tryz.func68 rfl Tryz.ntmps68 (by simp) fun f hd hf => ?_
  have f0 := hf 0
  have f1 := hf 1
  simp at f0 f1
  clear hf
  repeat' (first|(with_reducible first|refine zA ?_|refine zB fun K hK=>?_|refine zC fun K2 hK2=>?_|refine zD ?_|refine zE ?_|refine zF ?_|refine zG ?_|refine zH ?_|refine zI ?_|refine zM ?_|refine zN ?_|refine zO ?_|refine zP ?_|refine zQ ?_|refine zR ?_)|((with_reducible refine zU (hK _ _ ?_));clear hK K)|((with_reducible refine zV ?_ ?_ fun K1 K3 d hdst h1 h3=>?_);rfl;exact yB rfl;cases hdst;go_simp)|((with_reducible refine zW fun K1 K3 h1 h3=>?_);go_simp)|((first|refine h1 ?_|refine h3 ?_);clear h1 h3 K1 K3)|((first|refine zX (fun hb=>h1 ?_) (fun hb=>h3 ?_)|refine zX (fun hb=>h3 ?_) (fun hb=>h1 ?_))<;>(clear h1 h3 K1 K3;(try have hb2:=yC hb);(try have hb2:=yD hb);(try have hb2:=yE hb);(try have hb2:=yF hb);(try have hb2:=yG hb)))|(refine fun (K2:_→AHeap→Prop) hK2=>?_)|((with_reducible refine zY ?_ ?_);decide)|((with_reducible first|refine zZ ?_ (fun K hK=>?_)|refine yA ?_ (fun K hK=>?_));(focus go_simp;done);go_simp;refine hK _ _ ?_;clear hK K)|(go_simp;(try go_bits);refine hK2 _ _ ?_;clear hK2 K2))
  refine CodeS.loop (fun m f H' => ∃ (k : Nat) (w : Value) (us : List Value), k ≤ l.length ∧ m = l.length - k ∧ f.tmp 10 = .int .i64 k ∧ f.tmp 9 = .int .i64 l.length ∧ f.tmp 8 = .slice a l.length ac ∧ f.tmp 3 = .pointer (some ⟨H.n, 0, none⟩) ∧ f.tmp 5 = w ∧ f.defers = [] ∧ H.n < H'.n ∧ Hid (Ext H H') ∧ Hid (H'.get H.n = .row [Value.slice ca c.words.length cc, .int .i64 c.beg, .int .i64 c.fin, .int .i64 c.per] 27) ∧ Hid (Own H' (H.n + 1) w 79 2 (crsCells us ((l.take k).map fun s => courseOf s c))) ∧ Hid (CrsK H' w us ((l.take k).map fun s => courseOf s c))) l.length ?_ ?_
  · exact ⟨0, .slice none 0 0, [], by simp, by simp, (by first|go_simp<;>go_num|assumption), (by first|go_simp<;>go_num|assumption), (by first|go_simp<;>go_num|assumption), (by first|go_simp<;>go_num|assumption), (by first|go_simp<;>go_num|assumption), (by first|go_simp<;>go_num|assumption), by rw [AHeap.n_push]; omega, Lib.hid (Ext.push _), Lib.hid AHeap.get_push_new, Lib.hid Own.nil, Lib.hid CrsK.nil⟩
  clear f0 f1 hd f
  rintro m f H' ⟨k, w, us, hk, rfl, f10, f9, f8, f3, f5, hd, hn0, HX, HG0, HO, HK⟩
  have hg0 := HG0.out
  have hc0 : cellsAt H' H.n 0 4 = some [Value.slice ca c.words.length cc, .int .i64 c.beg, .int .i64 c.fin, .int .i64 c.per] := by simp [cellsAt, hg0]
  clear hg0
  obtain ⟨wwa, wwn, rfl⟩ := own_slice HO.out
  by_cases hlt : k < l.length
  · obtain ⟨b, o, sp, wv, av, rfl, hb, hx, hsv⟩ := (HV.out.ext HX.out).at_ hlt
    have he := HER.out l[k] (List.getElem_mem hlt)
    have HT := Lib.hid (show (l.take (k + 1)).map (fun s => courseOf s c) = (l.take k).map (fun s => courseOf s c) ++ [courseOf l[k] c] by rw [List.take_succ_eq_append_getElem hlt, List.map_append]; rfl)
    have hlk : ((l.take k).map fun s => courseOf s c).length = k := by simp; omega
    have HS := Lib.hid hsv
    generalize l[k] = s at HS HT hsv he
    obtain ⟨wv', av', hva, hw, ha⟩ := hsv
    cases hva
    obtain ⟨-, wa, wc, rfl⟩ := hw.slice
    obtain ⟨-, aa, aac, rfl⟩ := ha.slice
    clear hw ha
    have HCC := Lib.hid (fun (loops : List (Nat × LInfo)) => courseOf_f (loops := loops) (s := s) (c := c) (HS.out.ext (Ext.push (.row [.slice wa s.words.length wc, .slice aa s.alts.length aac] 25))) (HC.out.ext (HX.out.push' _)) he)
    generalize hT2 : (l.take (k + 1)).map (fun s => courseOf s c) = T2 at HT
    have HT2 := Lib.hid hT2
    generalize (l.take k).map (fun s => courseOf s c) = T1 at HT HO HK hlk
    have HLN := Lib.hid (show (crsCells us T1).length ≤ 100 by rw [crsCells_len us T1 HK.out.1]; omega)
    generalize courseOf s c = x at HT HCC
    have HON := Lib.hid HK.out.one
    have hki : (k : Int) < (l.length : Int) := by omega
    have hki8 : k ≤ 8 := by omega
    clear he hT2
    repeat' (first|(with_reducible first|refine zA ?_|refine zB fun K hK=>?_|refine zC fun K2 hK2=>?_|refine zD ?_|refine zE ?_|refine zF ?_|refine zG ?_|refine zH ?_|refine zI ?_|refine zM ?_|refine zN ?_|refine zO ?_|refine zP ?_|refine zQ ?_|refine zR ?_)|((with_reducible refine zU (hK _ _ ?_));clear hK K)|((with_reducible refine zV ?_ ?_ fun K1 K3 d hdst h1 h3=>?_);rfl;exact yB rfl;cases hdst;go_simp)|((with_reducible refine zW fun K1 K3 h1 h3=>?_);go_simp)|((first|refine h1 ?_|refine h3 ?_);clear h1 h3 K1 K3)|((first|refine zX (fun hb=>h1 ?_) (fun hb=>h3 ?_)|refine zX (fun hb=>h3 ?_) (fun hb=>h1 ?_))<;>(clear h1 h3 K1 K3;(try have hb2:=yC hb);(try have hb2:=yD hb);(try have hb2:=yE hb);(try have hb2:=yF hb);(try have hb2:=yG hb)))|(refine fun (K2:_→AHeap→Prop) hK2=>?_)|((with_reducible refine zY ?_ ?_);decide)|((with_reducible first|refine zZ ?_ (fun K hK=>?_)|refine yA ?_ (fun K hK=>?_));(focus go_simp;done);go_simp;refine hK _ _ ?_;clear hK K)|(go_simp;(try go_bits);(try first | ((with_reducible show CallS _ _ _ _ _ _);refine CallS.mono (HCC.out _) ?_; rintro xv H3 ⟨hcf, hx3⟩; (obtain ⟨ov, rfl, hov⟩ := hcf.v); (obtain ⟨-, oa, oc, rfl⟩ := hov.slice); (have HCF := Lib.hid hcf); (have HX3 := Lib.hid ((Ext.push _).trans hx3)); (have HX3' := Lib.hid hx3); clear hcf hx3 hov; go_simp) | ((refine one_k el97 sz79 ze79 rfl (by decide) (by decide) rfl rfl ?_); go_simp) | ((refine append_k2 el97 sz79 by79 ze79 rfl (by decide) ((HO.out.ext HX3.out).ext (Ext.push _)) (srcCells_new rfl) (by decide) rfl (by rw [List.all_append, HON.out]; rfl) (by have := HLN.out; show ((crsCells us T1).length + 2) * 32 ≤ 1073741824; omega) (by have := HX3.out.n; have := HX.out.n; simp only [AHeap.n_push] at *; omega) fun v2 H5 ho5 hg5 => ?_); (have HO5 := Lib.hid ho5); (have HG5 := Lib.hid hg5); (have hg5' : H.n < H5.n := by have := hg5.1; have := HX3.out.n; simp only [AHeap.n_push] at *; omega); clear ho5 hg5; go_simp));refine hK2 _ _ ?_;clear hK2 K2))
    have hH := HX.out.n
    have hH3 := HX3.out.n
    have hold : ∀ i, i < H.n + 1 → H5.get i = H'.get i := fun i hi => by
      rw [HG5.out.2 i (by simp only [AHeap.n_push]; omega) (fun b n hv hn => by have := (own_block HO.out hv hn).1; omega), AHeap.get_push_old (by omega)]
      exact HX3.out.get i (by omega)
    refine Post.round_normal ⟨l.length - (k + 1), by omega, k + 1, v2, us ++ [.slice oa x.open_.length oc], by omega, rfl, (by first|go_simp<;>go_num|assumption), (by first|go_simp<;>go_num|assumption), (by first|go_simp<;>go_num|assumption), (by first|go_simp<;>go_num|assumption), (by first|go_simp<;>go_num|assumption), (by first|go_simp<;>go_num|assumption), hg5', Lib.hid ⟨by omega, fun i hi => (hold i (by omega)).trans (HX.out.get i hi)⟩, Lib.hid ((hold _ (by omega)).trans HG0.out), Lib.hid ?_, Lib.hid ?_⟩
    · rw [HT2.out, HT.out, crsCells_snoc _ _ _ _ HK.out.1]
      exact HO5.out.mono (by simp only [AHeap.n_push]; omega)
    · rw [HT2.out, HT.out]
      refine HK.out.step (H3 := H3.push _) (HX3.out.push' _) (fun b n hv hn => (own_block HO.out hv hn).2.1) (fun b n hv hn => (own_block HO5.out hv hn).1) (HCF.out.push _) (by rw [AHeap.n_push]; omega) HG5.out.1 HG5.out.2
  · have hke : k = l.length := by omega
    subst hke
    have HO2 := HO.out
    have HK2 := HK.out
    rw [List.take_length] at HO2 HK2
    have HCV := Lib.hid (HK2.done HO2 (by simp; omega))
    repeat' (first|(with_reducible first|refine zA ?_|refine zB fun K hK=>?_|refine zC fun K2 hK2=>?_|refine zD ?_|refine zE ?_|refine zF ?_|refine zG ?_|refine zH ?_|refine zI ?_|refine zM ?_|refine zN ?_|refine zO ?_|refine zP ?_|refine zQ ?_|refine zR ?_)|((with_reducible refine zU (hK _ _ ?_));clear hK K)|((with_reducible refine zV ?_ ?_ fun K1 K3 d hdst h1 h3=>?_);rfl;exact yB rfl;cases hdst;go_simp)|((with_reducible refine zW fun K1 K3 h1 h3=>?_);go_simp)|((first|refine h1 ?_|refine h3 ?_);clear h1 h3 K1 K3)|((first|refine zX (fun hb=>h1 ?_) (fun hb=>h3 ?_)|refine zX (fun hb=>h3 ?_) (fun hb=>h1 ?_))<;>(clear h1 h3 K1 K3;(try have hb2:=yC hb);(try have hb2:=yD hb);(try have hb2:=yE hb);(try have hb2:=yF hb);(try have hb2:=yG hb)))|(refine fun (K2:_→AHeap→Prop) hK2=>?_)|((with_reducible refine zY ?_ ?_);decide)|((with_reducible first|refine zZ ?_ (fun K hK=>?_)|refine yA ?_ (fun K hK=>?_));(focus go_simp;done);go_simp;refine hK _ _ ?_;clear hK K)|(go_simp;(try go_bits);refine hK2 _ _ ?_;clear hK2 K2))
    exact ⟨HCV.out, HX.out⟩
end Go.Proofs.Tryz
namespace Go.Proofs.Tryz
open Go Go.Am Go.RowKit Go.Co
set_option maxRecDepth 100000

section
variable {β : Type} {H : AHeap} {kk : K β}
@[go_sem] theorem bu103 {parts : List (Nat × Value)} : aBuild Tryz.prog 103 parts H kk = match fillB Tryz.prog 103 [.slice none 0 0, .pointer none] parts with
    | some l => if l.all oneV = true then kk (.agg l.toArray) H else none
    | none => none := aBuild_struct (by kernel_rfl) ze103
end
theorem bef_lt {N : Nat} (hN : 1 ≤ N) {D : Nat → Nat → Int} {r k : Nat} (hk : k < N) : (befOf N D r k).2 < N := by
  unfold befOf
  split
  · exact (soonOf_ok hN _).1
  · exact hk
theorem all_set {vs : List Value} {v : Value} {i : Nat} (h : vs.all oneV = true) (hv : oneV v = true) : (vs.set i v).all oneV = true := by
  rw [List.all_eq_true] at *
  intro x hx
  rcases List.mem_or_eq_of_mem_set hx with h1 | rfl
  · exact h x h1
  · exact hv
structure RB (N n : Nat) (nx : Nat → Nat → Int → Int) (r i B : Nat) (H : AHeap) (q : Nat) (lv w : Value) : Prop where
  lt : q + 2 ≤ B
  le : B ≤ H.n
  gp : H.get (q + 1) = .row [.slice (some ⟨q, 0, none⟩) n n, lv] 103
  rows : ∃ vs, H.get q = .row vs 22 ∧ vs.length = n ∧ vs.all oneV = true ∧ (∀ j, j < i → ∃ b, vs[j]? = some (.slice (some ⟨b, 0, none⟩) N N) ∧ q + 2 ≤ b ∧ b < B ∧ H.get b = .row ((rowD N nx j r).map (Value.int .i64)) 3) ∧ (i < n → vs[i]? = some w) ∧ ∀ j, i < j → j < n → vs[j]? = some (.slice none 0 0)
def LessIs (N n : Nat) (nx : Nat → Nat → Int → Int) (H : AHeap) : Nat → Value → Prop
  | 0, v => v = .pointer none
  | r + 1, v => ∃ p', v = .pointer (some ⟨p', 0, none⟩) ∧ RoundIs N n nx n H r p'
theorem LessIs.ext {N n : Nat} {nx : Nat → Nat → Int → Int} {H H' : AHeap} (hx : Ext H H') : ∀ {r : Nat} {v : Value}, LessIs N n nx H r v → LessIs N n nx H' r v
  | 0, _, h => h
  | _ + 1, _, ⟨p', h1, h2⟩ => ⟨p', h1, h2.ext hx⟩
theorem LessIs.ptr {N n : Nat} {nx : Nat → Nat → Int → Int} {H : AHeap} : ∀ {r : Nat} {v : Value}, LessIs N n nx H r v → ∃ a, v = .pointer a
  | 0, _, h => ⟨_, h⟩
  | _ + 1, _, ⟨_, h1, _⟩ => ⟨_, h1⟩
theorem RB.is {N n r i B q : Nat} {nx : Nat → Nat → Int → Int} {H : AHeap} {lv w : Value} (h : RB N n nx r i B H q lv w) (hl : LessIs N n nx H r lv) (hi : i ≤ n) : RoundIs N n nx i H r (q + 1) := by
  obtain ⟨h1, h2, h3, vs, h4, h5, -, h6, -, -⟩ := h
  have hat : RoundAt N n i nx H (q + 1) r lv := ⟨by omega, q, vs, h3, by omega, h4, h5, hi, fun j hj => by
    obtain ⟨b, h7, h8, h9, h10⟩ := h6 j hj
    exact ⟨b, h7, by omega, h10⟩⟩
  cases r with
  | zero => rw [show lv = .pointer none from hl] at hat; exact hat
  | succ r =>
    obtain ⟨p', rfl, h11⟩ := hl
    exact ⟨p', hat, h11⟩
theorem RB.new {N n r q : Nat} {nx : Nat → Nat → Int → Int} {H : AHeap} {lv : Value} (h1 : H.get q = .row (List.replicate n (.slice none 0 0)) 22) (h2 : H.get (q + 1) = .row [.slice (some ⟨q, 0, none⟩) n n, lv] 103) (h3 : q + 2 ≤ H.n) : RB N n nx r 0 H.n H q lv (.slice none 0 0) :=
  ⟨h3, Nat.le_refl _, h2, _, h1, by simp, by rw [List.all_eq_true]; intro x hx; rw [(List.mem_replicate.1 hx).2]; rfl, fun j hj => by omega, fun h => by simp [h], fun j _ h => by simp [h]⟩
theorem RB.put {N n r i B q : Nat} {nx : Nat → Nat → Int → Int} {H H5 : AHeap} {lv w v : Value} {vs : List Value} (h : RB N n nx r i B H q lv w) (hq : H.get q = .row vs 22) (hv : oneV v = true) (hn : H.n ≤ H5.n) (hk : ∀ j, j < B → H5.get j = H.get j) : RB N n nx r i B (H5.upd q (.row (vs.set i v) 22)) q lv v := by
  obtain ⟨h1, h2, h3, vs', h4, h5, h51, h6, h7, h8⟩ := h
  rw [hq] at h4
  cases h4
  refine ⟨h1, by rw [AHeap.n_upd]; omega, by rw [AHeap.get_upd_ne (by omega), hk _ (by omega)]; exact h3, vs.set i v, AHeap.get_upd_same, by rw [List.length_set]; exact h5, all_set h51 hv, fun j hj => ?_, fun hi => by rw [List.getElem?_set_self (by omega)], fun j hj hjn => by rw [List.getElem?_set_ne (by omega)]; exact h8 j hj hjn⟩
  obtain ⟨b, h9, h10, h11, h12⟩ := h6 j hj
  exact ⟨b, by rw [List.getElem?_set_ne (by omega)]; exact h9, h10, h11, by rw [AHeap.get_upd_ne (by omega), hk _ h11]; exact h12⟩
theorem RB.next {N n r i B q : Nat} {nx : Nat → Nat → Int → Int} {H : AHeap} {lv w : Value} (h : RB N n nx r i B H q lv w) (hi : i < n) (hN : 1 ≤ N) (ho : Own H B w 3 1 ((rowD N nx i r).map (Value.int .i64))) : RB N n nx r (i + 1) H.n H q lv (.slice none 0 0) := by
  obtain ⟨h1, h2, h3, vs, h4, h5, h51, h6, h7, h8⟩ := h
  refine ⟨by omega, Nat.le_refl _, h3, vs, h4, h5, h51, fun j hj => ?_, fun hi2 => h8 _ (by omega) hi2, fun j hj hjn => h8 j (by omega) hjn⟩
  rcases Nat.lt_or_ge j i with hji | hji
  · obtain ⟨b, h9, h10, h11, h12⟩ := h6 j hji
    exact ⟨b, h9, h10, by omega, h12⟩
  · have hje : j = i := by omega
    subst hje
    rcases ho with ⟨-, h9⟩ | ⟨b, m, h9, h10, h11, h12, h13, h14⟩
    · have := congrArg List.length h9
      simp [rowD_len] at this; omega
    · have hm : m = N := by rw [List.length_map, rowD_len] at h13; omega
      subst hm
      exact ⟨b, by rw [h7 hi, h9], by omega, h11, h12⟩
theorem rowD_take {N : Nat} {nx : Nat → Nat → Int → Int} {i r k : Nat} (hk : k < N) : ((rowD N nx i r).take (k + 1)).map (Value.int .i64) = ((rowD N nx i r).take k).map (Value.int .i64) ++ [.int .i64 (dayOf N nx i r k)] := by
  rw [List.take_succ_eq_append_getElem (by rw [rowD_len]; exact hk), List.map_append]
  simp [rowD]
end Go.Proofs.Tryz
namespace Go.Proofs.Tryz
open Go Go.Am Go.RowKit Go.Co
set_option maxRecDepth 100000
set_option maxHeartbeats 8000000 in
theorem roundOf_e {loops : List (Nat × LInfo)} {N n r : Nat} {nx : Nat → Nat → Int → Int} {H : AHeap} {cv lv : Value} {xs : List Course} (hc : CoursesV H cv xs) (hN : xs.length = N) (hN1 : 1 ≤ N) (hN8 : N ≤ 8) (hn1 : 1 ≤ n) (hn : n ≤ 40) (hlen : ∀ x, x ∈ xs → x.open_.length = n) (hnx : ∀ k (h : k < xs.length) i f, nx k i f = nextS ((xs[k]).at_ i) f) (hl : LessIs N n nx H r lv) : CallS Tryz.prog loops 69 [cv, lv] H fun v H' => ∃ p, v = .pointer (some ⟨p, 0, none⟩) ∧ RoundIs N n nx n H' r p ∧ Ext H H' := by
  have HC := Lib.hid hc
  have HL := Lib.hid hl
  have HLN := Lib.hid hlen
  have HNX := Lib.hid hnx
  have HN := Lib.hid hN
  have HN1 := Lib.hid hN1
  obtain ⟨la, rfl⟩ := hl.ptr
  obtain ⟨cb, rfl, hcb, hcs⟩ := hc
  rw [hN]
  obtain ⟨u0, -, hc00, hcv0⟩ := hcs 0 (by omega)
  obtain ⟨ov0, hov0, how0⟩ := hcv0
  cases hov0
  obtain ⟨-, oa0, oc0, rfl⟩ := how0.slice
  rw [hlen _ (List.getElem_mem _)] at hc00
  rw [Nat.zero_mul] at hc00
  have hNi : 0 < N := by omega
  clear hcs how0 hl hlen hnx hN hN1
  refine CallS.enter' Tryz.func69 rfl Tryz.ntmps69 (by simp) fun f hd hf => ?_
  have f0 := hf 0
  have f1 := hf 1
  simp at f0 f1
  clear hf
  repeat' (first|(with_reducible first|refine zA ?_|refine zB fun K hK=>?_|refine zC fun K2 hK2=>?_|refine zD ?_|refine zE ?_|refine zF ?_|refine zG ?_|refine zH ?_|refine zI ?_|refine zM ?_|refine zN ?_|refine zO ?_|refine zP ?_|refine zQ ?_|refine zR ?_)|((with_reducible refine zU (hK _ _ ?_));clear hK K)|((with_reducible refine zV ?_ ?_ fun K1 K3 d hdst h1 h3=>?_);rfl;exact yB rfl;cases hdst;go_simp)|((with_reducible refine zW fun K1 K3 h1 h3=>?_);go_simp)|((first|refine h1 ?_|refine h3 ?_);clear h1 h3 K1 K3)|((first|refine zX (fun hb=>h1 ?_) (fun hb=>h3 ?_)|refine zX (fun hb=>h3 ?_) (fun hb=>h1 ?_))<;>(clear h1 h3 K1 K3;(try have hb2:=yC hb);(try have hb2:=yD hb);(try have hb2:=yE hb);(try have hb2:=yF hb);(try have hb2:=yG hb)))|(refine fun (K2:_→AHeap→Prop) hK2=>?_)|((with_reducible refine zY ?_ ?_);decide)|((with_reducible first|refine zZ ?_ (fun K hK=>?_)|refine yA ?_ (fun K hK=>?_));(focus go_simp;done);go_simp;refine hK _ _ ?_;clear hK K)|(go_simp;(try go_bits);(try first | ((refine makeSlice_k el101 sz22 by22 ze22 rfl (by show n * 24 ≤ 1073741824; omega) (by omega) ?_); go_simp));refine hK2 _ _ ?_;clear hK2 K2))
  refine CodeS.loop (fun m f H' => ∃ i : Nat, i ≤ n ∧ m = n - i ∧ f.tmp 26 = .int .i64 i ∧ f.tmp 25 = .int .i64 n ∧ f.tmp 0 = .slice (some ⟨cb, 0, none⟩) N N ∧ f.tmp 5 = .pointer (some ⟨H.n + 1, 0, none⟩) ∧ f.defers = [] ∧ Hid (Ext H H') ∧ Hid (RB N n nx r i H'.n H' H.n (.pointer la) (.slice none 0 0))) n ?_ ?_
  · exact ⟨0, by omega, by omega, (by first|go_simp<;>go_num|assumption), (by first|go_simp<;>go_num|assumption), (by first|go_simp<;>go_num|assumption), (by first|go_simp<;>go_num|assumption), (by first|go_simp<;>go_num|assumption), Lib.hid ((Ext.push _).push' _), Lib.hid (RB.new (by rw [AHeap.get_push_old (by rw [AHeap.n_push]; omega)]; exact AHeap.get_push_new) (get_at (by rw [AHeap.n_push])) (by simp only [AHeap.n_push]; omega))⟩
  clear f0 f1 hd f hc00
  rintro m f H' ⟨i, hi, rfl, f26, f25, f0, f5, hd, HX, HR⟩
  by_cases hlt : i < n
  · have hii : (i : Int) < (n : Int) := by omega
    have HI := Lib.hid hlt
    repeat' (first|(with_reducible first|refine zA ?_|refine zB fun K hK=>?_|refine zC fun K2 hK2=>?_|refine zD ?_|refine zE ?_|refine zF ?_|refine zG ?_|refine zH ?_|refine zI ?_|refine zM ?_|refine zN ?_|refine zO ?_|refine zP ?_|refine zQ ?_|refine zR ?_)|((with_reducible refine zU (hK _ _ ?_));clear hK K)|((with_reducible refine zV ?_ ?_ fun K1 K3 d hdst h1 h3=>?_);rfl;exact yB rfl;cases hdst;go_simp)|((with_reducible refine zW fun K1 K3 h1 h3=>?_);go_simp)|((first|refine h1 ?_|refine h3 ?_);clear h1 h3 K1 K3)|((first|refine zX (fun hb=>h1 ?_) (fun hb=>h3 ?_)|refine zX (fun hb=>h3 ?_) (fun hb=>h1 ?_))<;>(clear h1 h3 K1 K3;(try have hb2:=yC hb);(try have hb2:=yD hb);(try have hb2:=yE hb);(try have hb2:=yF hb);(try have hb2:=yG hb)))|(refine fun (K2:_→AHeap→Prop) hK2=>?_)|((with_reducible refine zY ?_ ?_);decide)|((with_reducible first|refine zZ ?_ (fun K hK=>?_)|refine yA ?_ (fun K hK=>?_));(focus go_simp;done);go_simp;refine hK _ _ ?_;clear hK K)|(go_simp;(try go_bits);refine hK2 _ _ ?_;clear hK2 K2))
    refine CodeS.loop (fun m f H2 => ∃ (k : Nat) (w : Value), k ≤ N ∧ m = N - k ∧ f.tmp 31 = .int .i64 k ∧ f.tmp 30 = .int .i64 N ∧ f.tmp 29 = .slice (some ⟨cb, 0, none⟩) N N ∧ f.tmp 6 = .int .i64 i ∧ f.tmp 26 = .int .i64 i ∧ f.tmp 25 = .int .i64 n ∧ f.tmp 0 = .slice (some ⟨cb, 0, none⟩) N N ∧ f.tmp 5 = .pointer (some ⟨H.n + 1, 0, none⟩) ∧ f.defers = [] ∧ Hid (Ext H H2) ∧ Hid (RB N n nx r i H'.n H2 H.n (.pointer la) w) ∧ Hid (Own H2 H'.n w 3 1 (((rowD N nx i r).take k).map (Value.int .i64)))) N ?_ ?_
    · exact ⟨0, .slice none 0 0, by omega, by omega, (by first|go_simp<;>go_num|assumption), (by first|go_simp<;>go_num|assumption), (by first|go_simp<;>go_num|assumption), (by first|go_simp<;>go_num|assumption), (by first|go_simp<;>go_num|assumption), (by first|go_simp<;>go_num|assumption), (by first|go_simp<;>go_num|assumption), (by first|go_simp<;>go_num|assumption), (by first|go_simp<;>go_num|assumption), HX, HR, Lib.hid Own.nil⟩
    have HX' := HX
    have HLB := HR.out.lt
    clear f26 f25 f0 f5 hd f HX HR
    rintro m f H2 ⟨k, w, hk, rfl, f31, f30, f29, f6, f26, f25, f0, f5, hd, HX, HR, HO⟩
    by_cases hkt : k < N
    · obtain ⟨cb', hcbe, hcb2, hcs⟩ := HC.out
      cases hcbe
      obtain ⟨u, hcu, -, hcvx⟩ := hcs k (by rw [HN.out]; exact hkt)
      have hxl := HLN.out _ (List.getElem_mem (show k < xs.length by rw [HN.out]; exact hkt))
      have HNK : Hid (∀ d, nx k i d = nextS ((xs[k]'(by rw [HN.out]; exact hkt)).at_ i) d) := Lib.hid (fun d => HNX.out k _ i d)
      generalize xs[k]'(by rw [HN.out]; exact hkt) = x at hcu hcvx hxl HNK
      have HCV := Lib.hid (hcvx.ext HX.out)
      have hcu2 : cellsAt H2 cb (k * 2) 2 = some [u, .int .i64 x.per] := by rw [HX.out.cellsAt hcb2]; exact hcu
      obtain ⟨ov, hov, hrw⟩ := hcvx
      cases hov
      obtain ⟨-, oa, oc, hoe⟩ := hrw.slice
      rw [hxl] at hoe
      subst hoe
      have HXL := Lib.hid hxl
      clear hrw hcu hcs hcb2 hxl
      have HRI := Lib.hid (HR.out.is (HL.out.ext HX.out) (Nat.le_of_lt HI.out))
      obtain ⟨vs, hgq, hvl, hvo, -, hvi, -⟩ := HR.out.rows
      have hvi := hvi HI.out
      have hgp := HR.out.gp
      obtain ⟨wa, wn, rfl⟩ := own_slice HO.out
      have hcp : cellAt H2 (H.n + 1) 0 = some (.slice (some ⟨H.n, 0, none⟩) n n) := by simp [cellAt, hgp]
      have hcq : cellAt H2 H.n i = some (.slice wa wn wn) := by simp only [cellAt, hgq]; exact hvi
      have HGQ := Lib.hid hgq
      have HVS := Lib.hid (show i < vs.length by rw [hvl]; exact HI.out)
      have HVO := Lib.hid hvo
      have hki : (k : Int) < (N : Int) := by omega
      have hn2 : H'.n ≤ H2.n := HR.out.le
      clear hgp hgq hvi hvl hvo
      repeat' (first|((with_reducible refine stop_if (n := 9) ?_))|(with_reducible first|refine zA ?_|refine zB fun K hK=>?_|refine zC fun K2 hK2=>?_|refine zD ?_|refine zE ?_|refine zF ?_|refine zG ?_|refine zH ?_|refine zI ?_|refine zM ?_|refine zN ?_|refine zO ?_|refine zP ?_|refine zQ ?_|refine zR ?_)|((with_reducible refine zU (hK _ _ ?_));clear hK K)|((with_reducible refine zV ?_ ?_ fun K1 K3 d hdst h1 h3=>?_);rfl;exact yB rfl;cases hdst;go_simp)|((with_reducible refine zW fun K1 K3 h1 h3=>?_);go_simp)|((first|refine h1 ?_|refine h3 ?_);clear h1 h3 K1 K3)|((first|refine zX (fun hb=>h1 ?_) (fun hb=>h3 ?_)|refine zX (fun hb=>h3 ?_) (fun hb=>h1 ?_))<;>(clear h1 h3 K1 K3;(try have hb2:=yC hb);(try have hb2:=yD hb);(try have hb2:=yE hb);(try have hb2:=yF hb);(try have hb2:=yG hb)))|(refine fun (K2:_→AHeap→Prop) hK2=>?_)|((with_reducible refine zY ?_ ?_);decide)|((with_reducible first|refine zZ ?_ (fun K hK=>?_)|refine yA ?_ (fun K hK=>?_));(focus go_simp;done);go_simp;refine hK _ _ ?_;clear hK K)|(go_simp;(try go_bits);refine hK2 _ _ ?_;clear hK2 K2))
      refine ⟨CodeS.cut (fun f H3 => ∃ d : Int, Hid (dayOf N nx i r k = nx k i d) ∧ f.tmp 9 = .int .i64 d ∧ f.tmp 8 = .pointer (some ⟨H2.n, 0, none⟩) ∧ f.tmp 31 = .int .i64 k ∧ f.tmp 30 = .int .i64 N ∧ f.tmp 29 = .slice (some ⟨cb, 0, none⟩) N N ∧ f.tmp 6 = .int .i64 i ∧ f.tmp 26 = .int .i64 i ∧ f.tmp 25 = .int .i64 n ∧ f.tmp 0 = .slice (some ⟨cb, 0, none⟩) N N ∧ f.tmp 5 = .pointer (some ⟨H.n + 1, 0, none⟩) ∧ f.defers = [] ∧ H3 = H2.push (.row [.slice oa n oc, .int .i64 x.per] 79)) ?_ ?_⟩
      · cases i with
        | zero =>
          have f6 : f.tmp 6 = .int .i64 0 := f6
          have HD : Hid (dayOf N nx 0 r k = nx k 0 0) := Lib.hid rfl
          repeat' (first|(with_reducible first|refine zA ?_|refine zB fun K hK=>?_|refine zC fun K2 hK2=>?_|refine zD ?_|refine zE ?_|refine zF ?_|refine zG ?_|refine zH ?_|refine zI ?_|refine zM ?_|refine zN ?_|refine zO ?_|refine zP ?_|refine zQ ?_|refine zR ?_)|((with_reducible refine zU (hK _ _ ?_));clear hK K)|((with_reducible refine zV ?_ ?_ fun K1 K3 d hdst h1 h3=>?_);rfl;exact yB rfl;cases hdst;go_simp)|((with_reducible refine zW fun K1 K3 h1 h3=>?_);go_simp)|((first|refine h1 ?_|refine h3 ?_);clear h1 h3 K1 K3)|((first|refine zX (fun hb=>h1 ?_) (fun hb=>h3 ?_)|refine zX (fun hb=>h3 ?_) (fun hb=>h1 ?_))<;>(clear h1 h3 K1 K3;(try have hb2:=yC hb);(try have hb2:=yD hb);(try have hb2:=yE hb);(try have hb2:=yF hb);(try have hb2:=yG hb)))|(refine fun (K2:_→AHeap→Prop) hK2=>?_)|((with_reducible refine zY ?_ ?_);decide)|((with_reducible first|refine zZ ?_ (fun K hK=>?_)|refine yA ?_ (fun K hK=>?_));(focus go_simp;done);go_simp;refine hK _ _ ?_;clear hK K)|(go_simp;(try go_bits);refine hK2 _ _ ?_;clear hK2 K2))
          exact ⟨0, HD, (by first|go_simp<;>go_num|assumption), (by first|go_simp<;>go_num|assumption), (by first|go_simp<;>go_num|assumption), (by first|go_simp<;>go_num|assumption), (by first|go_simp<;>go_num|assumption), (by first|go_simp<;>go_num|assumption), (by first|go_simp<;>go_num|assumption), (by first|go_simp<;>go_num|assumption), (by first|go_simp<;>go_num|assumption), (by first|go_simp<;>go_num|assumption), (by first|go_simp<;>go_num|assumption), rfl⟩
        | succ i =>
          have f6 : f.tmp 6 = .int .i64 ((i : Int) + 1) := f6
          have HBF := Lib.hid (fun (loops : List (Nat × LInfo)) => before_s (loops := loops) (i := i) (k := k) (HRI.out.ext (Ext.push (.row [.slice oa n oc, .int .i64 x.per] 79))) (by omega) (by omega) hkt hN8 hn)
          have hbl := bef_lt (N := N) (D := dayOf N nx i) (r := r) (by omega) hkt
          have HD : Hid (dayOf N nx (i + 1) r k = nx k (i + 1) (dayOf N nx i (befOf N (dayOf N nx i) r k).1 (befOf N (dayOf N nx i) r k).2)) := Lib.hid rfl
          generalize befOf N (dayOf N nx i) r k = rs at HBF HD hbl
          obtain ⟨rr, ss⟩ := rs
          simp only at HBF HD hbl
          have HDD : Hid (∀ (G : AHeap) (b : Nat), G.get b = .row ((rowD N nx i rr).map (Value.int .i64)) 3 → cellAt G b ss = some (.int .i64 (dayOf N nx i rr ss))) := Lib.hid (fun G b h => by simp only [cellAt, h]; exact rowD_get hbl)
          generalize dayOf N nx i rr ss = dd at HD HDD
          have hin : (i : Int) < (n : Int) := by omega
          have hin2 : i < n := by omega
          have hi1 : (i : Int) + 1 - 1 = (i : Int) := by omega
          have hss : (ss : Int) < (N : Int) := by omega
          clear hii hlt hi hcq
          repeat' (first|(with_reducible first|refine zA ?_|refine zB fun K hK=>?_|refine zC fun K2 hK2=>?_|refine zD ?_|refine zE ?_|refine zF ?_|refine zG ?_|refine zH ?_|refine zI ?_|refine zM ?_|refine zN ?_|refine zO ?_|refine zP ?_|refine zQ ?_|refine zR ?_)|((with_reducible refine zU (hK _ _ ?_));clear hK K)|((with_reducible refine zV ?_ ?_ fun K1 K3 d hdst h1 h3=>?_);rfl;exact yB rfl;cases hdst;go_simp)|((with_reducible refine zW fun K1 K3 h1 h3=>?_);go_simp)|((first|refine h1 ?_|refine h3 ?_);clear h1 h3 K1 K3)|((first|refine zX (fun hb=>h1 ?_) (fun hb=>h3 ?_)|refine zX (fun hb=>h3 ?_) (fun hb=>h1 ?_))<;>(clear h1 h3 K1 K3;(try have hb2:=yC hb);(try have hb2:=yD hb);(try have hb2:=yE hb);(try have hb2:=yF hb);(try have hb2:=yG hb)))|(refine fun (K2:_→AHeap→Prop) hK2=>?_)|((with_reducible refine zY ?_ ?_);decide)|((with_reducible first|refine zZ ?_ (fun K hK=>?_)|refine yA ?_ (fun K hK=>?_));(focus go_simp;done);go_simp;refine hK _ _ ?_;clear hK K)|(go_simp;(try go_bits);(try first | ((with_reducible show CallS _ _ _ _ _ _);refine CallS.mono (HBF.out _) ?_; rintro _ _ ⟨⟨p2, rfl, hri⟩, h9⟩; rw [h9]; clear h9; (obtain ⟨lv2, hp2, q2, vs2, hg2, hq2, hgq2, hvl2, hmn2, hrow2⟩ := hri.at_); (obtain ⟨b2, hb2, hbn2, hgb2⟩ := hrow2 i (by omega)); (have hd1 : cellAt (H2.push (.row [.slice oa n oc, .int .i64 x.per] 79)) p2 0 = some (.slice (some ⟨q2, 0, none⟩) n n) := by simp [cellAt, hg2]); (have hd2 : cellAt (H2.push (.row [.slice oa n oc, .int .i64 x.per] 79)) q2 i = some (.slice (some ⟨b2, 0, none⟩) N N) := by simp only [cellAt, hgq2]; exact hb2); (have hd3 := HDD.out _ _ hgb2); clear hri hg2 hgq2 hvl2 hmn2 hrow2 hb2 hgb2 hp2 hq2 hbn2; go_simp));refine hK2 _ _ ?_;clear hK2 K2))
          exact ⟨dd, HD, (by first|go_simp<;>go_num|assumption), (by first|go_simp<;>go_num|assumption), (by first|go_simp<;>go_num|assumption), (by first|go_simp<;>go_num|assumption), (by first|go_simp<;>go_num|assumption), (by first|go_simp<;>go_num|assumption), (by first|go_simp<;>go_num|assumption), (by first|go_simp<;>go_num|assumption), (by first|go_simp<;>go_num|assumption), (by first|go_simp<;>go_num|assumption), (by first|go_simp<;>go_num|assumption), rfl⟩
      clear f31 f30 f29 f6 f26 f25 f0 f5 hd f
      rintro f _ ⟨d, HD, f9, f8, f31, f30, f29, f6, f26, f25, f0, f5, hd, rfl⟩
      have HNXT : Hid (∀ (loops : List (Nat × LInfo)), CallS Tryz.prog loops 96 [.agg #[.slice oa n oc, .int .i64 x.per], .int .i64 i, .int .i64 d] (H2.push (.row [.slice oa n oc, .int .i64 x.per] 79)) fun v H' => v = .int .i64 (dayOf N nx i r k) ∧ H' = H2.push (.row [.slice oa n oc, .int .i64 x.per] 79)) := Lib.hid (fun loops => by
        rw [HD.out, HNK.out]
        exact next_s (HCV.out.ext (Ext.push _)) (by rw [HXL.out]; exact hlt))
      have HTK : Hid (((rowD N nx i r).take (k + 1)).map (Value.int .i64) = ((rowD N nx i r).take k).map (Value.int .i64) ++ [.int .i64 (dayOf N nx i r k)]) := Lib.hid (rowD_take hkt)
      generalize hT2 : ((rowD N nx i r).take (k + 1)).map (Value.int .i64) = T2 at HTK
      have HT2 := Lib.hid hT2
      have HON : Hid ((((rowD N nx i r).take k).map (Value.int .i64)).all oneV = true) := Lib.hid oneV_list_int
      have HLEN : Hid ((((rowD N nx i r).take k).map (Value.int .i64)).length ≤ 8) := Lib.hid (by rw [List.length_map, List.length_take]; omega)
      generalize ((rowD N nx i r).take k).map (Value.int .i64) = T1 at HTK HON HLEN HO
      generalize dayOf N nx i r k = dk at HNXT HTK
      have hl1 : H.n + 1 < H2.n := by omega
      have hl0 : H.n < H2.n := by omega
      clear HD HNK hT2
      repeat' (first|(with_reducible first|refine zA ?_|refine zB fun K hK=>?_|refine zC fun K2 hK2=>?_|refine zD ?_|refine zE ?_|refine zF ?_|refine zG ?_|refine zH ?_|refine zI ?_|refine zM ?_|refine zN ?_|refine zO ?_|refine zP ?_|refine zQ ?_|refine zR ?_)|((with_reducible refine zU (hK _ _ ?_));clear hK K)|((with_reducible refine zV ?_ ?_ fun K1 K3 d hdst h1 h3=>?_);rfl;exact yB rfl;cases hdst;go_simp)|((with_reducible refine zW fun K1 K3 h1 h3=>?_);go_simp)|((first|refine h1 ?_|refine h3 ?_);clear h1 h3 K1 K3)|((first|refine zX (fun hb=>h1 ?_) (fun hb=>h3 ?_)|refine zX (fun hb=>h3 ?_) (fun hb=>h1 ?_))<;>(clear h1 h3 K1 K3;(try have hb2:=yC hb);(try have hb2:=yD hb);(try have hb2:=yE hb);(try have hb2:=yF hb);(try have hb2:=yG hb)))|(refine fun (K2:_→AHeap→Prop) hK2=>?_)|((with_reducible refine zY ?_ ?_);decide)|((with_reducible first|refine zZ ?_ (fun K hK=>?_)|refine yA ?_ (fun K hK=>?_));(focus go_simp;done);go_simp;refine hK _ _ ?_;clear hK K)|((with_reducible refine yH mixed rfl ?_ 20 fun K0 hK0=>?_);kernel_rfl)|(with_reducible first|exact yI|exact yJ|refine yK ?_|refine yL ?_|refine yM ?_)|((with_reducible first|refine yN ?_ ?_|refine yO ?_ ?_|refine yP ?_ ?_);rfl)|((with_reducible refine yQ ?_ ?_);rfl;refine hK0 _ _ ?_;clear hK0 K0)|((with_reducible refine yR ?_ ?_ ?_ ?_);rfl;rfl;rfl)|((with_reducible refine yS ?_ ?_ ?_ fun K2 hK2=>?_);rfl;rfl;exact yB rfl)|((with_reducible refine yT ?_ ?_ ?_ ?_ fun K1 K3 d hdst h1 h3=>?_);rfl;rfl;rfl;exact yB rfl;cases hdst;go_simp)|((with_reducible refine yU ?_ ?_ ?_ ?_ fun K1 K3 d hdst h1 h3=>?_);rfl;rfl;rfl;exact yB rfl;cases hdst;go_simp)|((with_reducible refine yV ?_ ?_ (fun K2 hK2=>?_) ?_);rfl;exact yB rfl)|((with_reducible refine yW ?_ ?_ ?_ ?_ (fun K2 hK2=>?_) ?_);rfl;exact yB rfl;rfl;(focus go_simp;done))|((with_reducible refine yX ?_ ?_ ?_ (fun K2 hK2=>?_) ?_);rfl;rfl;exact yB rfl)|((with_reducible refine yY ?_ ?_ (fun K2 hK2=>?_) ?_);rfl;rfl)|((with_reducible refine yZ ?_ ?_);(first|rfl|(dsimp only;decide +kernel)))|((with_reducible refine xA ?_ ?_);(focus go_simp;done))|(go_simp;(try go_bits);(try first | ((with_reducible show CallS _ _ _ _ _ _);refine CallS.mono (HNXT.out _) ?_; rintro _ _ ⟨rfl, h9⟩; rw [h9]; clear h9; go_simp) | ((refine one_v el22 sz3 ze3 rfl (by decide) (by decide) rfl rfl ?_); go_simp) | ((refine append_v el22 sz3 by3 ze3 rfl (by decide) ((HO.out.ext (Ext.push _)).ext (Ext.push _)) (srcCells_new rfl) (by decide) rfl (by rw [List.all_append, HON.out]; rfl) (by have := HLEN.out; show (T1.length + 1) * 8 ≤ 1073741824; omega) (by simp only [AHeap.n_push]; omega) fun v2 H5 ho5 hg5 => ?_); (have HO5 := Lib.hid (ho5.mono (base' := H'.n) (by simp only [AHeap.n_push]; omega))); (obtain ⟨wa2, wn2, rfl⟩ := own_slice ho5); (have hn5 : H2.n < H5.n := by have := hg5.1; simp only [AHeap.n_push] at this; omega); (have HK5 : Hid (∀ j, j < H'.n → H5.get j = H2.get j) := Lib.hid (fun j hj => by rw [hg5.2 j (by simp only [AHeap.n_push]; omega) (fun b m hv hm => by have := (own_block HO.out hv hm).1; omega), AHeap.get_push_old (by rw [AHeap.n_push]; omega), AHeap.get_push_old (by omega)])); (have hr5 : H5.get H2.n = .row [.slice oa n oc, .int .i64 x.per] 79 := by rw [hg5.2 _ (by simp only [AHeap.n_push]; omega) (fun b m hv hm => by have := (own_block HO.out hv hm).2.1; omega), AHeap.get_push_old (by rw [AHeap.n_push]; omega)]; exact AHeap.get_push_new); (have hq5 : H5.get H.n = .row vs 22 := (HK5.out _ (by omega)).trans HGQ.out); (have hcp5 : cellAt H5 (H.n + 1) 0 = some (.slice (some ⟨H.n, 0, none⟩) n n) := by rw [cellAt, HK5.out _ (by omega)]; exact hcp); (have hcq5 : cellAt H5 H.n i = some (.slice wa wn wn) := by rw [cellAt, HK5.out _ (by omega)]; exact hcq); (have hset : setL vs i [.slice wa2 wn2 wn2] = some (vs.set i (.slice wa2 wn2 wn2)) := setL_one HVS.out); (have hone : (vs.set i (.slice wa2 wn2 wn2)).all oneV = true := all_set HVO.out rfl); clear ho5 hg5; go_simp));(first|(refine hK2 _ _ ?_ ?_<;>clear hK2 K2)|(refine hK2 _ _ ?_;clear hK2 K2))))
      refine Post.round_normal ⟨N - (k + 1), by omega, k + 1, .slice wa2 wn2 wn2, by omega, rfl, (by first|go_simp<;>go_num|assumption), (by first|go_simp<;>go_num|assumption), (by first|go_simp<;>go_num|assumption), (by first|go_simp<;>go_num|assumption), (by first|go_simp<;>go_num|assumption), (by first|go_simp<;>go_num|assumption), (by first|go_simp<;>go_num|assumption), (by first|go_simp<;>go_num|assumption), (by first|go_simp<;>go_num|assumption), Lib.hid ⟨by rw [AHeap.n_upd]; have := HX.out.n; omega, fun j hj => ?_⟩, Lib.hid (HR.out.put HGQ.out rfl (by omega) HK5.out), Lib.hid ?_⟩
      · rw [AHeap.get_upd_ne (by omega), HK5.out j (by omega)]; exact HX.out.get j hj
      · rw [HT2.out, HTK.out]
        exact own_upd HO5.out (by omega)
    · have hke : k = N := by omega
      subst hke
      have HO' : Hid (Own H2 H'.n w 3 1 ((rowD k nx i r).map (Value.int .i64))) := Lib.hid (by have := HO.out; rwa [List.take_of_length_le (by rw [rowD_len]; exact Nat.le_refl _)] at this)
      repeat' (first|(with_reducible first|refine zA ?_|refine zB fun K hK=>?_|refine zC fun K2 hK2=>?_|refine zD ?_|refine zE ?_|refine zF ?_|refine zG ?_|refine zH ?_|refine zI ?_|refine zM ?_|refine zN ?_|refine zO ?_|refine zP ?_|refine zQ ?_|refine zR ?_)|((with_reducible refine zU (hK _ _ ?_));clear hK K)|((with_reducible refine zV ?_ ?_ fun K1 K3 d hdst h1 h3=>?_);rfl;exact yB rfl;cases hdst;go_simp)|((with_reducible refine zW fun K1 K3 h1 h3=>?_);go_simp)|((first|refine h1 ?_|refine h3 ?_);clear h1 h3 K1 K3)|((first|refine zX (fun hb=>h1 ?_) (fun hb=>h3 ?_)|refine zX (fun hb=>h3 ?_) (fun hb=>h1 ?_))<;>(clear h1 h3 K1 K3;(try have hb2:=yC hb);(try have hb2:=yD hb);(try have hb2:=yE hb);(try have hb2:=yF hb);(try have hb2:=yG hb)))|(refine fun (K2:_→AHeap→Prop) hK2=>?_)|((with_reducible refine zY ?_ ?_);decide)|((with_reducible first|refine zZ ?_ (fun K hK=>?_)|refine yA ?_ (fun K hK=>?_));(focus go_simp;done);go_simp;refine hK _ _ ?_;clear hK K)|(go_simp;(try go_bits);refine hK2 _ _ ?_;clear hK2 K2))
      exact Post.round_normal ⟨n - (i + 1), by omega, i + 1, by omega, rfl, (by first|go_simp<;>go_num|assumption), (by first|go_simp<;>go_num|assumption), (by first|go_simp<;>go_num|assumption), (by first|go_simp<;>go_num|assumption), (by first|go_simp<;>go_num|assumption), HX, Lib.hid (HR.out.next HI.out HN1.out HO'.out)⟩
  · have hie : i = n := by omega
    subst hie
    repeat' (first|(with_reducible first|refine zA ?_|refine zB fun K hK=>?_|refine zC fun K2 hK2=>?_|refine zD ?_|refine zE ?_|refine zF ?_|refine zG ?_|refine zH ?_|refine zI ?_|refine zM ?_|refine zN ?_|refine zO ?_|refine zP ?_|refine zQ ?_|refine zR ?_)|((with_reducible refine zU (hK _ _ ?_));clear hK K)|((with_reducible refine zV ?_ ?_ fun K1 K3 d hdst h1 h3=>?_);rfl;exact yB rfl;cases hdst;go_simp)|((with_reducible refine zW fun K1 K3 h1 h3=>?_);go_simp)|((first|refine h1 ?_|refine h3 ?_);clear h1 h3 K1 K3)|((first|refine zX (fun hb=>h1 ?_) (fun hb=>h3 ?_)|refine zX (fun hb=>h3 ?_) (fun hb=>h1 ?_))<;>(clear h1 h3 K1 K3;(try have hb2:=yC hb);(try have hb2:=yD hb);(try have hb2:=yE hb);(try have hb2:=yF hb);(try have hb2:=yG hb)))|(refine fun (K2:_→AHeap→Prop) hK2=>?_)|((with_reducible refine zY ?_ ?_);decide)|((with_reducible first|refine zZ ?_ (fun K hK=>?_)|refine yA ?_ (fun K hK=>?_));(focus go_simp;done);go_simp;refine hK _ _ ?_;clear hK K)|(go_simp;(try go_bits);refine hK2 _ _ ?_;clear hK2 K2))
    exact ⟨_, rfl, HR.out.is (HL.out.ext HX.out) (Nat.le_refl _), HX.out⟩
end Go.Proofs.Tryz
namespace Go.Proofs.Tryz
open Go Go.Am Go.RowKit Go.Co
set_option maxRecDepth 100000

section
variable {β : Type} {P : Program} {H : AHeap} {f : AF} {kk : K β} {dst : Option Tmp} {ty : TypeId} {src : String} {af : Array Edge} {g : Option (Nat × Bool)}
@[go_sem] theorem vA_makeSlice {t : TypeId} {x y : Operand} : valA P ⟨dst, .makeSlice t x y, ty, src, af, g⟩ (Am.decode (.makeSlice t x y)) (evR (opReads ⟨dst, .makeSlice t x y, ty, src, af, g⟩) f) H kk = aMakeSlice P t (f.eval x) (f.eval y) H kk := by
  rw [← evR_self (o := ⟨dst, .makeSlice t x y, ty, src, af, g⟩) (f := f) (x := x) (by simp [Op.operands]), ← evR_self (o := ⟨dst, .makeSlice t x y, ty, src, af, g⟩) (f := f) (x := y) (by simp [Op.operands])]; rfl
end
section
variable {P : Program} {H : AHeap}
theorem makeSlice_v {K : Value → AHeap → Prop} {t e : TypeId} {bytes n : Nat} {z : Value} (he : elemT P t = some e) (hsz : szT P e = some 1) (hby : bytesT P e = some bytes) (hz : zeroT P e = some z) (hzs : cellsOfV z = [z]) (hbig : n * max bytes 1 ≤ 1073741824) (hn : n ≤ 65536) {q q' : IntKind} {k k' : Int} (hk : k = (n : Int)) (hk' : k' = (n : Int))
    (h : K (.slice (some ⟨H.n, 0, none⟩) n n) (H.push (.row (List.replicate n z) e))) : HoldsV (aMakeSlice P t (.int q k) (.int q' k') H pairK) K := by
  rw [hk, hk', makeSlice_eq he hsz hby hz hzs hbig hn]; exact h
end
def trT (N n : Nat) (nx : Nat → Nat → Int → Int) (r : Nat) : Nat → Nat × Nat
  | 0 => (r, soonOf N (dayOf N nx (n - 1) r))
  | j + 1 => befOf N (dayOf N nx (n - 1 - (j + 1))) (trT N n nx r j).1 (trT N n nx r j).2
def trR (N n : Nat) (nx : Nat → Nat → Int → Int) (r i : Nat) : Nat := (trT N n nx r (n - 1 - i)).1
def trS (N n : Nat) (nx : Nat → Nat → Int → Int) (r i : Nat) : Nat := (trT N n nx r (n - 1 - i)).2
def trD (N n : Nat) (nx : Nat → Nat → Int → Int) (r i : Nat) : Int := dayOf N nx i (trR N n nx r i) (trS N n nx r i)
theorem trS_lt {N n : Nat} {nx : Nat → Nat → Int → Int} {r i : Nat} (hN : 1 ≤ N) : trS N n nx r i < N := by
  unfold trS
  generalize n - 1 - i = j
  induction j with
  | zero => exact (soonOf_ok hN _).1
  | succ j ih => exact bef_lt hN ih
theorem tr_step {N n : Nat} {nx : Nat → Nat → Int → Int} {r i : Nat} (hi : i + 1 < n) : (trR N n nx r i, trS N n nx r i) = befOf N (dayOf N nx i) (trR N n nx r (i + 1)) (trS N n nx r (i + 1)) := by
  unfold trR trS
  rw [show n - 1 - i = (n - 1 - (i + 1)) + 1 by omega, trT, show n - 1 - (n - 1 - (i + 1) + 1) = i by omega]
theorem tr_trace {N n : Nat} {nx : Nat → Nat → Int → Int} {r : Nat} (hN : 1 ≤ N) (hd : dayOf N nx (n - 1) r (soonOf N (dayOf N nx (n - 1) r)) ≤ 730) : Go.Co.Trace N nx n r (trR N n nx r) (trS N n nx r) :=
  ⟨by unfold trR; rw [Nat.sub_self]; rfl, trS_lt hN, by unfold trS; rw [Nat.sub_self]; exact hd, fun i hi => tr_step hi⟩
def LF (n : Nat) (F : Nat → Int) (m : Nat) : List Int := (List.range n).map fun i => if m ≤ i then F i else 0
theorem LF_len (n : Nat) (F : Nat → Int) (m : Nat) : (LF n F m).length = n := by simp [LF]
theorem LF_new (n : Nat) (F : Nat → Int) : List.replicate n (Value.int .i64 0) = (LF n F n).map (Value.int .i64) := by
  unfold LF
  refine List.ext_getElem (by simp) fun i h1 h2 => ?_
  simp at h1 h2
  simp [show ¬ n ≤ i by omega]
theorem LF_set {n : Nat} {F : Nat → Int} {m : Nat} : ((LF n F (m + 1)).map (Value.int .i64)).set m (.int .i64 (F m)) = (LF n F m).map (Value.int .i64) := by
  rw [← List.map_set]
  congr 1
  unfold LF
  refine List.ext_getElem (by simp) fun i h1 h2 => ?_
  simp at h1 h2
  rw [List.getElem_set]
  simp only [List.getElem_map, List.getElem_range]
  by_cases hi : m = i
  · subst hi; simp
  · rw [if_neg hi]
    by_cases h3 : m ≤ i
    · rw [if_pos (by omega), if_pos h3]
    · rw [if_neg (by omega), if_neg h3]
theorem LF_zero (n : Nat) (F : Nat → Int) : LF n F 0 = (List.range n).map F := by simp [LF]

set_option maxHeartbeats 8000000 in
theorem trace_e {loops : List (Nat × LInfo)} {N n r p : Nat} {nx : Nat → Nat → Int → Int} {H : AHeap} (h : RoundIs N n nx n H r p) (hN1 : 1 ≤ N) (hN8 : N ≤ 8) (hn1 : 1 ≤ n) (hn : n ≤ 40) : CallS Tryz.prog loops 71 [.pointer (some ⟨p, 0, none⟩)] H fun v H' => (∃ fa fn dv da dn, v = .tuple #[.slice fa fn fn, dv] ∧ dv = .slice da dn dn ∧ Ints H' (.slice fa fn fn) ((List.range n).map fun i => (trS N n nx r i : Int)) ∧ Ints H' dv ((List.range n).map (trD N n nx r))) ∧ Ext H H' := by
  have HR := Lib.hid h
  obtain ⟨lv, hat⟩ := h.at_
  have HSO := Lib.hid (fun (loops : List (Nat × LInfo)) (H2 : AHeap) (hx : Ext H H2) => soonest_s (loops := loops) (i := n - 1) (hat.ext hx) (by omega) hN1 hN8 hn)
  obtain ⟨hp, q, vs, hgp, hq, hgq, hvl, -, -⟩ := hat
  have hc0 : cellAt H p 0 = some (.slice (some ⟨q, 0, none⟩) n n) := by simp [cellAt, hgp]
  obtain ⟨m, rfl⟩ : ∃ m, n = m + 1 := ⟨n - 1, by omega⟩
  have hm1 : ((m + 1 : Nat) : Int) - 1 = (m : Int) := by omega
  have hm2 : (m : Int) + 1 - 1 = (m : Int) := by omega
  have hwm : IntKind.i64.wrap ((m : Int) + 1) = (m : Int) + 1 := by rw [IntKind.wrap_i64]; omega
  simp only [Nat.add_sub_cancel] at HSO
  have HST := Lib.hid (fun i (hi : i + 1 < m + 1) => tr_step (N := N) (nx := nx) (r := r) hi)
  have HSL := Lib.hid (fun i => trS_lt (N := N) (n := m + 1) (nx := nx) (r := r) (i := i) hN1)
  have HSM : Hid (soonOf N (dayOf N nx m r) = trS N (m + 1) nx r m) := Lib.hid (by unfold trS; rw [Nat.add_sub_cancel, Nat.sub_self, trT, Nat.add_sub_cancel])
  have HRM : Hid (trR N (m + 1) nx r m = r) := Lib.hid (by unfold trR; rw [Nat.add_sub_cancel, Nat.sub_self]; rfl)
  have HDD : Hid (∀ i, trD N (m + 1) nx r i = dayOf N nx i (trR N (m + 1) nx r i) (trS N (m + 1) nx r i)) := Lib.hid (fun _ => rfl)
  generalize trD N (m + 1) nx r = D at HDD ⊢
  generalize trS N (m + 1) nx r = S at HST HSL HSM HDD ⊢
  generalize trR N (m + 1) nx r = R at HST HRM HDD
  rw [HSM.out] at HSO
  clear hgp hgq hvl hq
  refine CallS.enter' Tryz.func71 rfl Tryz.ntmps71 (by simp) fun f hd hf => ?_
  have f0 := hf 0
  simp at f0
  clear hf
  repeat' (first|((with_reducible refine stop_region (n := 2) ?_))|(with_reducible first|refine zA ?_|refine zB fun K hK=>?_|refine zC fun K2 hK2=>?_|refine zD ?_|refine zE ?_|refine zF ?_|refine zG ?_|refine zH ?_|refine zI ?_|refine zM ?_|refine zN ?_|refine zO ?_|refine zP ?_|refine zQ ?_|refine zR ?_)|((with_reducible refine zU (hK _ _ ?_));clear hK K)|((with_reducible refine zV ?_ ?_ fun K1 K3 d hdst h1 h3=>?_);rfl;exact yB rfl;cases hdst;go_simp)|((with_reducible refine zW fun K1 K3 h1 h3=>?_);go_simp)|((first|refine h1 ?_|refine h3 ?_);clear h1 h3 K1 K3)|((first|refine zX (fun hb=>h1 ?_) (fun hb=>h3 ?_)|refine zX (fun hb=>h3 ?_) (fun hb=>h1 ?_))<;>(clear h1 h3 K1 K3;(try have hb2:=yC hb);(try have hb2:=yD hb);(try have hb2:=yE hb);(try have hb2:=yF hb);(try have hb2:=yG hb)))|(refine fun (K2:_→AHeap→Prop) hK2=>?_)|((with_reducible refine zY ?_ ?_);decide)|((with_reducible first|refine zZ ?_ (fun K hK=>?_)|refine yA ?_ (fun K hK=>?_));(focus go_simp;done);go_simp;refine hK _ _ ?_;clear hK K)|(go_simp;(try go_bits);refine hK2 _ _ ?_;clear hK2 K2))
  refine ⟨CodeS.mono (Q := fun e f H' => match e with | .normal => (∃ a b : Nat, a ≠ b ∧ f.tmp 4 = .int .i64 m ∧ f.tmp 2 = .slice (some ⟨a, 0, none⟩) (m + 1) (m + 1) ∧ f.tmp 3 = .slice (some ⟨b, 0, none⟩) (m + 1) (m + 1) ∧ f.tmp 0 = .pointer (some ⟨p, 0, none⟩) ∧ f.defers = [] ∧ H.n ≤ a ∧ H.n ≤ b ∧ a < H'.n ∧ b < H'.n ∧ Hid (Ext H H') ∧ Hid (H'.get a = .row (List.replicate (m + 1) (.int .i64 0)) 3) ∧ Hid (H'.get b = .row (List.replicate (m + 1) (.int .i64 0)) 3)) | _ => False) ?_ ?_⟩
  · repeat' (first|(with_reducible first|refine zA ?_|refine zB fun K hK=>?_|refine zC fun K2 hK2=>?_|refine zD ?_|refine zE ?_|refine zF ?_|refine zG ?_|refine zH ?_|refine zI ?_|refine zM ?_|refine zN ?_|refine zO ?_|refine zP ?_|refine zQ ?_|refine zR ?_)|((with_reducible refine zU (hK _ _ ?_));clear hK K)|((with_reducible refine zV ?_ ?_ fun K1 K3 d hdst h1 h3=>?_);rfl;exact yB rfl;cases hdst;go_simp)|((with_reducible refine zW fun K1 K3 h1 h3=>?_);go_simp)|((first|refine h1 ?_|refine h3 ?_);clear h1 h3 K1 K3)|((first|refine zX (fun hb=>h1 ?_) (fun hb=>h3 ?_)|refine zX (fun hb=>h3 ?_) (fun hb=>h1 ?_))<;>(clear h1 h3 K1 K3;(try have hb2:=yC hb);(try have hb2:=yD hb);(try have hb2:=yE hb);(try have hb2:=yF hb);(try have hb2:=yG hb)))|(refine fun (K2:_→AHeap→Prop) hK2=>?_)|((with_reducible refine zY ?_ ?_);decide)|((with_reducible first|refine zZ ?_ (fun K hK=>?_)|refine yA ?_ (fun K hK=>?_));(focus go_simp;done);go_simp;refine hK _ _ ?_;clear hK K)|((with_reducible refine yH mixed rfl ?_ 20 fun K0 hK0=>?_);kernel_rfl)|(with_reducible first|exact yI|exact yJ|refine yK ?_|refine yL ?_|refine yM ?_)|((with_reducible first|refine yN ?_ ?_|refine yO ?_ ?_|refine yP ?_ ?_);rfl)|((with_reducible refine yQ ?_ ?_);rfl;refine hK0 _ _ ?_;clear hK0 K0)|((with_reducible refine yR ?_ ?_ ?_ ?_);rfl;rfl;rfl)|((with_reducible refine yS ?_ ?_ ?_ fun K2 hK2=>?_);rfl;rfl;exact yB rfl)|((with_reducible refine yT ?_ ?_ ?_ ?_ fun K1 K3 d hdst h1 h3=>?_);rfl;rfl;rfl;exact yB rfl;cases hdst;go_simp)|((with_reducible refine yU ?_ ?_ ?_ ?_ fun K1 K3 d hdst h1 h3=>?_);rfl;rfl;rfl;exact yB rfl;cases hdst;go_simp)|((with_reducible refine yV ?_ ?_ (fun K2 hK2=>?_) ?_);rfl;exact yB rfl)|((with_reducible refine yW ?_ ?_ ?_ ?_ (fun K2 hK2=>?_) ?_);rfl;exact yB rfl;rfl;(focus go_simp;done))|((with_reducible refine yX ?_ ?_ ?_ (fun K2 hK2=>?_) ?_);rfl;rfl;exact yB rfl)|((with_reducible refine yY ?_ ?_ (fun K2 hK2=>?_) ?_);rfl;rfl)|((with_reducible refine yZ ?_ ?_);(first|rfl|(dsimp only;decide +kernel)))|((with_reducible refine xA ?_ ?_);(focus go_simp;done))|(go_simp;(try go_bits);(try first | ((refine makeSlice_v (n := m + 1) el22 sz3 by3 ze3 rfl (by show (m + 1) * 8 ≤ 1073741824; omega) (by omega) rfl rfl ?_); go_simp));(first|(refine hK2 _ _ ?_ ?_<;>clear hK2 K2)|(refine hK2 _ _ ?_;clear hK2 K2))))
    · exact ⟨H.n, H.n + 1, by omega, (by first|go_simp<;>go_num|assumption), (by first|go_simp<;>go_num|assumption), (by first|go_simp<;>go_num|assumption), (by first|go_simp<;>go_num|assumption), (by first|go_simp<;>go_num|assumption), by omega, by omega, by simp only [AHeap.n_push]; omega, by simp only [AHeap.n_push]; omega, Lib.hid ((Ext.push _).push' _), Lib.hid (by rw [AHeap.get_push_old (by rw [AHeap.n_push]; omega)]; exact AHeap.get_push_new), Lib.hid (get_at (by rw [AHeap.n_push]))⟩
    · exact ⟨H.n + 1, H.n, by omega, (by first|go_simp<;>go_num|assumption), (by first|go_simp<;>go_num|assumption), (by first|go_simp<;>go_num|assumption), (by first|go_simp<;>go_num|assumption), (by first|go_simp<;>go_num|assumption), by omega, by omega, by simp only [AHeap.n_push]; omega, by simp only [AHeap.n_push]; omega, Lib.hid ((Ext.push _).push' _), Lib.hid (get_at (by rw [AHeap.n_push])), Lib.hid (by rw [AHeap.get_push_old (by rw [AHeap.n_push]; omega)]; exact AHeap.get_push_new)⟩
  clear f0 hd f
  intro e f H1 h
  cases e with
  | normal => ?_
  | _ => exact h.elim
  obtain ⟨a, b, hab, f4, f2, f3, f0, hd, ha, hb, ha1, hb1, HX, HA, HB⟩ := h
  have hba : b ≠ a := fun h => hab h.symm
  repeat' (first|(with_reducible first|refine zA ?_|refine zB fun K hK=>?_|refine zC fun K2 hK2=>?_|refine zD ?_|refine zE ?_|refine zF ?_|refine zG ?_|refine zH ?_|refine zI ?_|refine zM ?_|refine zN ?_|refine zO ?_|refine zP ?_|refine zQ ?_|refine zR ?_)|((with_reducible refine zU (hK _ _ ?_));clear hK K)|((with_reducible refine zV ?_ ?_ fun K1 K3 d hdst h1 h3=>?_);rfl;exact yB rfl;cases hdst;go_simp)|((with_reducible refine zW fun K1 K3 h1 h3=>?_);go_simp)|((first|refine h1 ?_|refine h3 ?_);clear h1 h3 K1 K3)|((first|refine zX (fun hb=>h1 ?_) (fun hb=>h3 ?_)|refine zX (fun hb=>h3 ?_) (fun hb=>h1 ?_))<;>(clear h1 h3 K1 K3;(try have hb2:=yC hb);(try have hb2:=yD hb);(try have hb2:=yE hb);(try have hb2:=yF hb);(try have hb2:=yG hb)))|(refine fun (K2:_→AHeap→Prop) hK2=>?_)|((with_reducible refine zY ?_ ?_);decide)|((with_reducible first|refine zZ ?_ (fun K hK=>?_)|refine yA ?_ (fun K hK=>?_));(focus go_simp;done);go_simp;refine hK _ _ ?_;clear hK K)|(go_simp;(try go_bits);(try first | ((with_reducible show CallS _ _ _ _ _ _);refine CallS.mono (HSO.out _ _ HX.out) ?_; rintro _ _ ⟨rfl, h9⟩; rw [h9]; clear h9; go_simp));refine hK2 _ _ ?_;clear hK2 K2))
  refine CodeS.loop (fun mm f H' => ∃ (k p' : Nat), k ≤ m ∧ k = mm ∧ f.tmp 6 = .int .i64 k ∧ f.tmp 5 = .int .i64 (S k : Nat) ∧ f.tmp 2 = .slice (some ⟨a, 0, none⟩) (m + 1) (m + 1) ∧ f.tmp 3 = .slice (some ⟨b, 0, none⟩) (m + 1) (m + 1) ∧ f.tmp 0 = .pointer (some ⟨p', 0, none⟩) ∧ f.defers = [] ∧ a < H'.n ∧ b < H'.n ∧ Hid (Ext H H') ∧ Hid (RoundIs N (m + 1) nx (m + 1) H (R k) p') ∧ Hid (H'.get a = .row ((LF (m + 1) (fun i => (S i : Int)) (k + 1)).map (Value.int .i64)) 3) ∧ Hid (H'.get b = .row ((LF (m + 1) D (k + 1)).map (Value.int .i64)) 3)) m ?_ ?_
  · exact ⟨m, p, by omega, rfl, (by first|go_simp<;>go_num|assumption), (by first|go_simp<;>go_num|assumption), (by first|go_simp<;>go_num|assumption), (by first|go_simp<;>go_num|assumption), (by first|go_simp<;>go_num|assumption), (by first|go_simp<;>go_num|assumption), ha1, hb1, HX, Lib.hid (by rw [HRM.out]; exact HR.out), Lib.hid (by rw [HA.out, LF_new]), Lib.hid (by rw [HB.out, LF_new])⟩
  clear f4 f2 f3 f0 hd f HA HB ha1 hb1 HX
  rintro mm f H' ⟨k, p', hk, rfl, f6, f5, f2, f3, f0, hd, ha1, hb1, HX, HRK, HA, HB⟩
  obtain ⟨lv', hat'⟩ := HRK.out.at_
  obtain ⟨hp', q', vs', hgp', hq', hgq', hvl', -, hrow'⟩ := hat'.ext HX.out
  obtain ⟨b', hb', hbn', hgb'⟩ := hrow' k (by omega)
  have hd1 : cellAt H' p' 0 = some (.slice (some ⟨q', 0, none⟩) (m + 1) (m + 1)) := by simp [cellAt, hgp']
  have hd2 : cellAt H' q' k = some (.slice (some ⟨b', 0, none⟩) N N) := by simp only [cellAt, hgq']; exact hb'
  have hd3 : cellAt H' b' (S k) = some (.int .i64 (D k)) := by rw [HDD.out]; simp only [cellAt, hgb']; exact rowD_get (HSL.out k)
  have hsk : (S k : Int) < (N : Int) := by have := HSL.out k; omega
  have HLA := Lib.hid (LF_len (m + 1) (fun i => (S i : Int)) (k + 1))
  have HLB := Lib.hid (LF_len (m + 1) D (k + 1))
  have HLA2 := Lib.hid (LF_set (n := m + 1) (F := fun i => (S i : Int)) (m := k))
  have HLB2 := Lib.hid (LF_set (n := m + 1) (F := D) (m := k))
  generalize LF (m + 1) (fun i => (S i : Int)) (k + 1) = LA at HA HLA HLA2
  generalize LF (m + 1) D (k + 1) = LB at HB HLB HLB2
  have hka : k < LA.length := by rw [HLA.out]; omega
  have hkb : k < LB.length := by rw [HLB.out]; omega
  have hga := HA.out
  have hgb := HB.out
  have hkm : (k : Int) < (m : Int) + 1 := by omega
  have hkm2 : k < m + 1 := by omega
  clear hat' hgp' hq' hgq' hvl' hrow' hb' hbn' hgb' hp'
  cases k with
  | zero =>
    have f6 : f.tmp 6 = .int .i64 0 := f6
    have hsa : setL (LA.map (Value.int .i64)) 0 [.int .i64 (S 0 : Nat)] = some ((LA.map (Value.int .i64)).set 0 (.int .i64 (S 0 : Nat))) := setL_ints hka
    have hsb : setL (LB.map (Value.int .i64)) 0 [.int .i64 (D 0)] = some ((LB.map (Value.int .i64)).set 0 (.int .i64 (D 0))) := setL_ints hkb
    repeat' (first|(with_reducible first|refine zA ?_|refine zB fun K hK=>?_|refine zC fun K2 hK2=>?_|refine zD ?_|refine zE ?_|refine zF ?_|refine zG ?_|refine zH ?_|refine zI ?_|refine zM ?_|refine zN ?_|refine zO ?_|refine zP ?_|refine zQ ?_|refine zR ?_)|((with_reducible refine zU (hK _ _ ?_));clear hK K)|((with_reducible refine zV ?_ ?_ fun K1 K3 d hdst h1 h3=>?_);rfl;exact yB rfl;cases hdst;go_simp)|((with_reducible refine zW fun K1 K3 h1 h3=>?_);go_simp)|((first|refine h1 ?_|refine h3 ?_);clear h1 h3 K1 K3)|((first|refine zX (fun hb=>h1 ?_) (fun hb=>h3 ?_)|refine zX (fun hb=>h3 ?_) (fun hb=>h1 ?_))<;>(clear h1 h3 K1 K3;(try have hb2:=yC hb);(try have hb2:=yD hb);(try have hb2:=yE hb);(try have hb2:=yF hb);(try have hb2:=yG hb)))|(refine fun (K2:_→AHeap→Prop) hK2=>?_)|((with_reducible refine zY ?_ ?_);decide)|((with_reducible first|refine zZ ?_ (fun K hK=>?_)|refine yA ?_ (fun K hK=>?_));(focus go_simp;done);go_simp;refine hK _ _ ?_;clear hK K)|(go_simp;(try go_bits);refine hK2 _ _ ?_;clear hK2 K2))
    have h2 : ((H'.upd a (.row ((LA.map (Value.int .i64)).set 0 (.int .i64 (S 0 : Nat))) 3)).upd b (.row ((LB.map (Value.int .i64)).set 0 (.int .i64 (D 0))) 3)).get a = .row ((LF (m + 1) (fun i => (S i : Int)) 0).map (Value.int .i64)) 3 := by
      rw [AHeap.get_upd_ne hab, AHeap.get_upd_same, HLA2.out]
    have h3 : ((H'.upd a (.row ((LA.map (Value.int .i64)).set 0 (.int .i64 (S 0 : Nat))) 3)).upd b (.row ((LB.map (Value.int .i64)).set 0 (.int .i64 (D 0))) 3)).get b = .row ((LF (m + 1) D 0).map (Value.int .i64)) 3 := by
      rw [AHeap.get_upd_same, HLB2.out]
    rw [LF_zero] at h2 h3
    exact ⟨⟨_, _, _, _, _, rfl, rfl, ints_of_own (base := 0) (.inr ⟨a, m + 1, rfl, by omega, by simp only [AHeap.n_upd]; omega, h2, by simp, by omega⟩) (by simp; omega), ints_of_own (base := 0) (.inr ⟨b, m + 1, rfl, by omega, by simp only [AHeap.n_upd]; omega, h3, by simp, by omega⟩) (by simp; omega)⟩, (HX.out.upd ha _).upd hb _⟩
  | succ k =>
    have f6 : f.tmp 6 = .int .i64 ((k : Int) + 1) := f6
    have hk1 : (k : Int) + 1 - 1 = (k : Int) := by omega
    have hkm3 : k < m := by omega
    have hk0 : 0 ≤ (k : Int) + 1 := by omega
    have HBF : Hid (∀ (loops : List (Nat × LInfo)) (G : AHeap), Ext H G → CallS Tryz.prog loops 103 [.pointer (some ⟨p', 0, none⟩), .int .i64 ((k : Int) + 1), .int .i64 (S (k + 1) : Nat)] G fun v G' => (∃ p2, v = .tuple #[.pointer (some ⟨p2, 0, none⟩), .int .i64 (S k : Nat)] ∧ RoundIs N (m + 1) nx (m + 1) H (R k) p2) ∧ G' = G) := Lib.hid (fun loops G hx => by
      have h9 := before_x (loops := loops) (i := k) (k := S (k + 1)) HRK.out hx (by omega) (Nat.le_refl _) (HSL.out _) hN8 hn
      rw [← HST.out k (by omega)] at h9
      exact h9)
    clear hkm
    repeat' (first|(with_reducible first|refine zA ?_|refine zB fun K hK=>?_|refine zC fun K2 hK2=>?_|refine zD ?_|refine zE ?_|refine zF ?_|refine zG ?_|refine zH ?_|refine zI ?_|refine zM ?_|refine zN ?_|refine zO ?_|refine zP ?_|refine zQ ?_|refine zR ?_)|((with_reducible refine zU (hK _ _ ?_));clear hK K)|((with_reducible refine zV ?_ ?_ fun K1 K3 d hdst h1 h3=>?_);rfl;exact yB rfl;cases hdst;go_simp)|((with_reducible refine zW fun K1 K3 h1 h3=>?_);go_simp)|((first|refine h1 ?_|refine h3 ?_);clear h1 h3 K1 K3)|((first|refine zX (fun hb=>h1 ?_) (fun hb=>h3 ?_)|refine zX (fun hb=>h3 ?_) (fun hb=>h1 ?_))<;>(clear h1 h3 K1 K3;(try have hb2:=yC hb);(try have hb2:=yD hb);(try have hb2:=yE hb);(try have hb2:=yF hb);(try have hb2:=yG hb)))|(refine fun (K2:_→AHeap→Prop) hK2=>?_)|((with_reducible refine zY ?_ ?_);decide)|((with_reducible first|refine zZ ?_ (fun K hK=>?_)|refine yA ?_ (fun K hK=>?_));(focus go_simp;done);go_simp;refine hK _ _ ?_;clear hK K)|(go_simp;(try go_bits);(try first | ((with_reducible show CallS _ _ _ _ _ _);refine CallS.mono (HBF.out _ _ ((HX.out.upd ha _).upd hb _)) ?_; rintro _ _ ⟨⟨p2, rfl, hri⟩, h9⟩; rw [h9]; clear h9; (have HRI := Lib.hid hri); clear hri; go_simp));refine hK2 _ _ ?_;clear hK2 K2))
    exact Post.round_normal ⟨k, by omega, k, p2, by omega, rfl, (by first|go_simp<;>go_num|assumption), (by first|go_simp<;>go_num|assumption), (by first|go_simp<;>go_num|assumption), (by first|go_simp<;>go_num|assumption), (by first|go_simp<;>go_num|assumption), (by first|go_simp<;>go_num|assumption), by simp only [AHeap.n_upd]; omega, by simp only [AHeap.n_upd]; omega, Lib.hid ((HX.out.upd ha _).upd hb _), HRI, Lib.hid (by rw [AHeap.get_upd_ne hab, AHeap.get_upd_same, HLA2.out]), Lib.hid (by rw [AHeap.get_upd_same, HLB2.out])⟩
end Go.Proofs.Tryz
