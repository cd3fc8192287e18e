/- Contracts of functions, walked. -/
import Derived.Test.YtgddlpegljkgpaaChecked
import Derived.Test.YtgddlpegljkgpaaRows
import Derived.Below
import Derived.Carry
import Derived.Deep.Slices
import Derived.Deep.Fields
import Derived.ChangeSame
import Derived.ProofKit
import Derived.OpenShut
import Derived.ShutString
import Derived.ChangeOld
import Derived.Lib.SmallJoins
import Derived.Deep.Grids
import Derived.Test.YtgddlpegljkgpaaStUG0
import Derived.Test.YtgddlpegljkgpaaStSN
set_option linter.all false
namespace Go.Proofs.Try
open Go Go.Am Go.RowKit Go.Co
set_option maxRecDepth 100000

theorem built_le {s : Sheet} {p k : Nat} {now : Int} {days words : List Int} (hb : Built s p now days words k) {j : Nat} (hj : j < k) : 0 ≤ days.getD j 0 ∧ days.getD j 0 ≤ now := ⟨(hb.ok j hj).1, hb.le j hj⟩

theorem few_words {s : Sheet} {fw : Bool} (hf : fewB s = fw) (hw : fw = true) (h : err s = 0) : s.words.length ≤ 8 := by
  subst hw
  have := win_iff.1 (err_ok h).2.1
  simp only [fewB, Bool.and_eq_true, Bool.or_eq_true, decide_eq_true_eq] at hf
  omega
theorem stop_for {P : Program} {cx : Cx} {f : AF} {H : AHeap} {Q : Post} {n m : Nat} {ops : Array Oper} {b : Bool} {c z : Code} (h : Stop (CodeS P cx (.seq (.seq (.region n ops b) (.block m c)) z) f H Q)) : CodeS P cx (.seq (.seq (.region n ops b) (.block m c)) z) f H Q := h.out
set_option maxHeartbeats 16000000 in
theorem law14 {H : AHeap} {sv rv kv : Value} {s : Sheet} {bg pd : Int} {rl : List Int} {kl : List Bool} (hv : SheetV H sv s) (h16 : (Lit.int .u16 bg).wf = true) (h8 : (Lit.int .u8 pd).wf = true) (hr : Bytes H rv rl) (hrb : ∀ x ∈ rl, 0 ≤ x ∧ x ≤ 255) (hk : Bools H kv kl) : CallS Try.prog [] 14 [sv, .int .u16 bg, .int .u8 pd, rv, kv] H fun r _ => r = .bool true := by
  have HV := Lib.hid hv
  have HR := Lib.hid hr
  have HK := Lib.hid hk
  have HRB := Lib.hid hrb
  obtain ⟨bg0, bg1⟩ := u16_in h16
  obtain ⟨pd0, pd1⟩ := u8_in h8
  obtain ⟨wv, av, rfl, hw, ha⟩ := hv
  obtain ⟨hwl, wa, wc, rfl⟩ := hw.slice
  obtain ⟨hal, aa, ac, rfl⟩ := ha.slice
  have HA := Lib.hid ha
  obtain ⟨hrl, ra, rc, rfl⟩ := hr.slice
  obtain ⟨hkl, ka, kc, rfl⟩ := hk.slice
  clear hw ha hr hk hrb h16 h8
  have HX1 : Hid (Ext H (H.push (.row [Value.slice wa s.words.length wc, Value.slice aa s.alts.length ac] 25))) := Lib.hid ((Ext.refl _).push' _)
  generalize hfw : fewB s = fw
  have HFW := Lib.hid hfw
  clear hfw
  refine CallS.enter' Try.func14 rfl Try.ntmps14 (by simp) fun f hd hf => ?_
  have f0 := hf 0
  have f1 := hf 1
  have f2 := hf 2
  have f3 := hf 3
  have f4 := hf 4
  simp at f0 f1 f2 f3 f4
  clear hf
  by_cases herr : err s = 0
  · have HERR := Lib.hid herr
    clear herr
    generalize hq : pd % 40 = q
    have hq0 : 0 ≤ q ∧ q ≤ 39 := by omega
    generalize hn : bg % 300 = now0
    have hn0 : 0 ≤ now0 ∧ now0 ≤ 299 := by omega
    repeat' (first|((with_reducible refine stop_for (n := 7) ?_))|(with_reducible first|refine zA ?_|refine zB fun K hK=>?_|refine zC fun K2 hK2=>?_|refine zD ?_|refine zE ?_|refine zF ?_|refine zG ?_|refine zH ?_|refine zI ?_|refine zM ?_|refine zN ?_|refine zO ?_|refine zP ?_|refine zQ ?_|refine zR ?_)|((with_reducible refine zU (hK _ _ ?_));clear hK K)|((with_reducible refine zV ?_ ?_ fun K1 K3 d hdst h1 h3=>?_);rfl;exact yB rfl;cases hdst;go_simp)|((with_reducible refine zW fun K1 K3 h1 h3=>?_);go_simp)|((first|refine h1 ?_|refine h3 ?_);clear h1 h3 K1 K3)|((first|refine zX (fun hb=>h1 ?_) (fun hb=>h3 ?_)|refine zX (fun hb=>h3 ?_) (fun hb=>h1 ?_))<;>(clear h1 h3 K1 K3;(try have hb2:=yC hb);(try have hb2:=yD hb);(try have hb2:=yE hb);(try have hb2:=yF hb);(try have hb2:=yG hb)))|(refine fun (K2:_→AHeap→Prop) hK2=>?_)|((with_reducible refine zY ?_ ?_);decide)|((with_reducible first|refine zZ ?_ (fun K hK=>?_)|refine yA ?_ (fun K hK=>?_));(focus go_simp;done);go_simp;refine hK _ _ ?_;clear hK K)|(go_simp;(try go_bits);(try first |((with_reducible show CallS _ _ _ _ _ _);first|(refine CallS.mono head_s ?_; rintro _ _ ⟨rfl, h9⟩; rw [h9]; clear h9; go_simp)|(refine CallS.mono (few_s (s := s) (HV.out.ext HX1.out)) ?_; rintro _ _ ⟨rfl, h9⟩; rw [h9, HFW.out]; clear h9; go_simp)|(refine CallS.mono (check_s (s := s) (HV.out.ext HX1.out)) ?_; rintro _ _ ⟨rfl, h9⟩; rw [h9, HERR.out]; clear h9; go_simp))|((rw [aPlain_rem (y := .const (.int .i64 40)) (a := pd) (b := 40) (by go_simp) (by go_simp) (by omega) (by omega), hq]); go_simp)|((rw [aPlain_rem (y := .const (.int .i64 300)) (a := bg) (b := 300) (by go_simp) (by go_simp) (by omega) (by omega), hn]); go_simp));refine hK2 _ _ ?_;clear hK2 K2))
    all_goals try rfl
    obtain ⟨p, hp⟩ : ∃ p : Nat, 1 + q = (p : Int) := ⟨(1 + q).toNat, by omega⟩
    have hp1 : 1 ≤ p := by omega
    have hp2 : p ≤ 40 := by omega
    have hlr : rl.length ≤ 8 := by omega
    have hlk : kl.length ≤ 8 := by omega
    have hok := err_ok HERR.out
    have hw8 := few_words HFW.out (by simpa using ‹(!fw) = false›) HERR.out
    refine ⟨CodeS.cut (fun f H' => ∃ (now : Int) (dv wv : Value) (ds ws : List Int), f.tmp 14 = dv ∧ f.tmp 5 = .pointer (some ⟨H.n, 0, none⟩) ∧ f.tmp 11 = .bool true ∧ f.tmp 12 = .pointer (some ⟨H.n + 1, 0, none⟩) ∧ f.defers = [] ∧ H.n + 2 ≤ H'.n ∧ Hid (Ext H H') ∧ Hid (H'.get H.n = .row [Value.slice wa s.words.length wc, Value.slice aa s.alts.length ac] 25) ∧ Hid (H'.get (H.n + 1) = .row [wv, .int .i64 0, .int .i64 730, .int .i64 p] 27) ∧ Hid (Two (H.n + 2) H' dv wv ds ws) ∧ Hid (Built s p now ds ws s.words.length)) ?_ ?_⟩
    · repeat' (first|(with_reducible first|refine zA ?_|refine zB fun K hK=>?_|refine zC fun K2 hK2=>?_|refine zD ?_|refine zE ?_|refine zF ?_|refine zG ?_|refine zH ?_|refine zI ?_|refine zM ?_|refine zN ?_|refine zO ?_|refine zP ?_|refine zQ ?_|refine zR ?_)|((with_reducible refine zU (hK _ _ ?_));clear hK K)|((with_reducible refine zV ?_ ?_ fun K1 K3 d hdst h1 h3=>?_);rfl;exact yB rfl;cases hdst;go_simp)|((with_reducible refine zW fun K1 K3 h1 h3=>?_);go_simp)|((first|refine h1 ?_|refine h3 ?_);clear h1 h3 K1 K3)|((first|refine zX (fun hb=>h1 ?_) (fun hb=>h3 ?_)|refine zX (fun hb=>h3 ?_) (fun hb=>h1 ?_))<;>(clear h1 h3 K1 K3;(try have hb2:=yC hb);(try have hb2:=yD hb);(try have hb2:=yE hb);(try have hb2:=yF hb);(try have hb2:=yG hb)))|(refine fun (K2:_→AHeap→Prop) hK2=>?_)|((with_reducible refine zY ?_ ?_);decide)|((with_reducible first|refine zZ ?_ (fun K hK=>?_)|refine yA ?_ (fun K hK=>?_));(focus go_simp;done);go_simp;refine hK _ _ ?_;clear hK K)|(go_simp;(try go_bits);refine hK2 _ _ ?_;clear hK2 K2))
      refine CodeS.loop (fun m f H' => ∃ (k : Nat) (now : Int) (dv wv : Value) (ds ws : List Int), k ≤ s.words.length ∧ m = s.words.length - k ∧ f.tmp 15 = .int .i64 k ∧ f.tmp 13 = .int .i64 now ∧ f.tmp 14 = dv ∧ f.tmp 3 = .slice ra rl.length rc ∧ f.tmp 4 = .slice ka kl.length kc ∧ f.tmp 5 = .pointer (some ⟨H.n, 0, none⟩) ∧ f.tmp 11 = .bool true ∧ f.tmp 12 = .pointer (some ⟨H.n + 1, 0, none⟩) ∧ f.defers = [] ∧ H.n + 2 ≤ H'.n ∧ Hid (Ext H H') ∧ Hid (H'.get H.n = .row [Value.slice wa s.words.length wc, Value.slice aa s.alts.length ac] 25) ∧ Hid (H'.get (H.n + 1) = .row [wv, .int .i64 0, .int .i64 730, .int .i64 p] 27) ∧ Hid (Two (H.n + 2) H' dv wv ds ws) ∧ Hid (Built s p now ds ws k)) s.words.length ?_ ?_
      · refine ⟨0, now0, .slice none 0 0, .slice none 0 0, [], [], by simp, by simp, (by first|go_simp<;>go_num|assumption), (by first|go_simp<;>go_num|assumption), (by first|go_simp<;>go_num|assumption), (by first|go_simp<;>go_num|assumption), (by first|go_simp<;>go_num|assumption), (by first|go_simp<;>go_num|assumption), (by first|go_simp<;>go_num|assumption), (by first|go_simp<;>go_num|assumption), (by first|go_simp<;>go_num|assumption), by simp only [AHeap.n_push]; omega, Lib.hid (((Ext.refl _).push' _).push' _), Lib.hid ?_, Lib.hid ?_, Lib.hid Two.nil, Lib.hid (Built.zero hn0.1 hn0.2)⟩
        · rw [AHeap.get_push_old (by simp only [AHeap.n_push]; omega), AHeap.get_push_new]
        · rw [get_at (by simp only [AHeap.n_push])]
      clear f0 f1 f2 f3 f4 hd f hq hn hq0 hn0 hp
      rintro m f H' ⟨k, now, dv, wv, ds, ws, hk, rfl, f15, f13, f14, f3, f4, f5, f11, f12, hd, hn2, HX, HG0, HG1, HT, HB⟩
      have hg0 := HG0.out
      have hg1 := HG1.out
      have hn0 : H.n < H'.n := by omega
      have hn1 : H.n + 1 < H'.n := by omega
      obtain ⟨da, dn, rfl⟩ := own_slice HT.out.d
      obtain ⟨wa', wn, rfl⟩ := own_slice HT.out.w
      have hs0 : cellAt H' H.n 0 = some (Value.slice wa s.words.length wc) := by simp [cellAt, hg0]
      have hss : cellsAt H' H.n 0 2 = some [Value.slice wa s.words.length wc, Value.slice aa s.alts.length ac] := by simp [cellsAt, hg0]
      have hc0 : cellAt H' (H.n + 1) 0 = some (Value.slice wa' wn wn) := by simp [cellAt, hg1]
      have hc3 : cellAt H' (H.n + 1) 3 = some (.int .i64 p) := by simp [cellAt, hg1]
      clear hg0 hg1
      by_cases hlt : k < s.words.length
      · obtain ⟨dl, wl, hle, n0, top, -, -⟩ := HB.out
        have HDI := Lib.hid (ints_of_own HT.out.d (by omega))
        have hdn : dn = k := by
          obtain ⟨-, a2, c2, h2⟩ := HDI.out.slice
          cases h2; exact dl
        have HDN := Lib.hid hdn
        have hk8 : k < 8 := by omega
        clear hdn
        repeat' (first|((with_reducible refine stop_if (n := 10) ?_))|(with_reducible first|refine zA ?_|refine zB fun K hK=>?_|refine zC fun K2 hK2=>?_|refine zD ?_|refine zE ?_|refine zF ?_|refine zG ?_|refine zH ?_|refine zI ?_|refine zM ?_|refine zN ?_|refine zO ?_|refine zP ?_|refine zQ ?_|refine zR ?_)|((with_reducible refine zU (hK _ _ ?_));clear hK K)|((with_reducible refine zV ?_ ?_ fun K1 K3 d hdst h1 h3=>?_);rfl;exact yB rfl;cases hdst;go_simp)|((with_reducible refine zW fun K1 K3 h1 h3=>?_);go_simp)|((first|refine h1 ?_|refine h3 ?_);clear h1 h3 K1 K3)|((first|refine zX (fun hb=>h1 ?_) (fun hb=>h3 ?_)|refine zX (fun hb=>h3 ?_) (fun hb=>h1 ?_))<;>(clear h1 h3 K1 K3;(try have hb2:=yC hb);(try have hb2:=yD hb);(try have hb2:=yE hb);(try have hb2:=yF hb);(try have hb2:=yG hb)))|(refine fun (K2:_→AHeap→Prop) hK2=>?_)|((with_reducible refine zY ?_ ?_);decide)|((with_reducible first|refine zZ ?_ (fun K hK=>?_)|refine yA ?_ (fun K hK=>?_));(focus go_simp;done);go_simp;refine hK _ _ ?_;clear hK K)|(go_simp;(try go_bits);refine hK2 _ _ ?_;clear hK2 K2))
        refine ⟨CodeS.cut (fun f H2 => ∃ n1 : Int, now ≤ n1 ∧ n1 ≤ now + 19 ∧ H' = H2 ∧ f.tmp 13 = .int .i64 n1 ∧ f.tmp 15 = .int .i64 k ∧ f.tmp 14 = .slice da dn dn ∧ f.tmp 3 = .slice ra rl.length rc ∧ f.tmp 4 = .slice ka kl.length kc ∧ f.tmp 5 = .pointer (some ⟨H.n, 0, none⟩) ∧ f.tmp 11 = .bool true ∧ f.tmp 12 = .pointer (some ⟨H.n + 1, 0, none⟩) ∧ f.defers = []) ?_ ?_⟩
        · by_cases hkr : k < rl.length
          · obtain ⟨b, o, sp, rfl, hb, hx⟩ := HR.out.at_ hkr
            have hy := HRB.out rl[k] (List.getElem_mem hkr)
            have hx' : cellAt H' b (o + k) = some (.int .u8 rl[k]) := (HX.out.cellAt hb).trans hx
            have hbn : b < H'.n := by omega
            clear hx
            generalize rl[k] = y at hx' hy
            generalize hyr : y % 20 = r
            have hr0 : 0 ≤ r ∧ r ≤ 19 := by omega
            obtain ⟨hy0, hy1⟩ := hy
            obtain ⟨hr0, hr1⟩ := hr0
            repeat' (first|(with_reducible first|refine zA ?_|refine zB fun K hK=>?_|refine zC fun K2 hK2=>?_|refine zD ?_|refine zE ?_|refine zF ?_|refine zG ?_|refine zH ?_|refine zI ?_|refine zM ?_|refine zN ?_|refine zO ?_|refine zP ?_|refine zQ ?_|refine zR ?_)|((with_reducible refine zU (hK _ _ ?_));clear hK K)|((with_reducible refine zV ?_ ?_ fun K1 K3 d hdst h1 h3=>?_);rfl;exact yB rfl;cases hdst;go_simp)|((with_reducible refine zW fun K1 K3 h1 h3=>?_);go_simp)|((first|refine h1 ?_|refine h3 ?_);clear h1 h3 K1 K3)|((first|refine zX (fun hb=>h1 ?_) (fun hb=>h3 ?_)|refine zX (fun hb=>h3 ?_) (fun hb=>h1 ?_))<;>(clear h1 h3 K1 K3;(try have hb2:=yC hb);(try have hb2:=yD hb);(try have hb2:=yE hb);(try have hb2:=yF hb);(try have hb2:=yG hb)))|(refine fun (K2:_→AHeap→Prop) hK2=>?_)|((with_reducible refine zY ?_ ?_);decide)|((with_reducible first|refine zZ ?_ (fun K hK=>?_)|refine yA ?_ (fun K hK=>?_));(focus go_simp;done);go_simp;refine hK _ _ ?_;clear hK K)|(go_simp;(try go_bits);(try first | ((rw [aPlain_rem (y := .const (.int .i64 20)) (a := y) (b := 20) (by go_simp) (by go_simp) (by omega) (by omega), hyr]); go_simp));refine hK2 _ _ ?_;clear hK2 K2))
            exact ⟨now + r, by omega, by omega, rfl, (by first|go_simp<;>go_num|assumption), (by first|go_simp<;>go_num|assumption), (by first|go_simp<;>go_num|assumption), (by first|go_simp<;>go_num|assumption), (by first|go_simp<;>go_num|assumption), (by first|go_simp<;>go_num|assumption), (by first|go_simp<;>go_num|assumption), (by first|go_simp<;>go_num|assumption), (by first|go_simp<;>go_num|assumption)⟩
          · repeat' (first|(with_reducible first|refine zA ?_|refine zB fun K hK=>?_|refine zC fun K2 hK2=>?_|refine zD ?_|refine zE ?_|refine zF ?_|refine zG ?_|refine zH ?_|refine zI ?_|refine zM ?_|refine zN ?_|refine zO ?_|refine zP ?_|refine zQ ?_|refine zR ?_)|((with_reducible refine zU (hK _ _ ?_));clear hK K)|((with_reducible refine zV ?_ ?_ fun K1 K3 d hdst h1 h3=>?_);rfl;exact yB rfl;cases hdst;go_simp)|((with_reducible refine zW fun K1 K3 h1 h3=>?_);go_simp)|((first|refine h1 ?_|refine h3 ?_);clear h1 h3 K1 K3)|((first|refine zX (fun hb=>h1 ?_) (fun hb=>h3 ?_)|refine zX (fun hb=>h3 ?_) (fun hb=>h1 ?_))<;>(clear h1 h3 K1 K3;(try have hb2:=yC hb);(try have hb2:=yD hb);(try have hb2:=yE hb);(try have hb2:=yF hb);(try have hb2:=yG hb)))|(refine fun (K2:_→AHeap→Prop) hK2=>?_)|((with_reducible refine zY ?_ ?_);decide)|((with_reducible first|refine zZ ?_ (fun K hK=>?_)|refine yA ?_ (fun K hK=>?_));(focus go_simp;done);go_simp;refine hK _ _ ?_;clear hK K)|(go_simp;(try go_bits);refine hK2 _ _ ?_;clear hK2 K2))
            exact ⟨now, by omega, by omega, rfl, (by first|go_simp<;>go_num|assumption), (by first|go_simp<;>go_num|assumption), (by first|go_simp<;>go_num|assumption), (by first|go_simp<;>go_num|assumption), (by first|go_simp<;>go_num|assumption), (by first|go_simp<;>go_num|assumption), (by first|go_simp<;>go_num|assumption), (by first|go_simp<;>go_num|assumption), (by first|go_simp<;>go_num|assumption)⟩
        clear f15 f13 f14 f3 f4 f5 f11 f12 hd f
        rintro f H2 ⟨n1, hn1a, hn1b, rfl, f13, f15, f14, f3, f4, f5, f11, f12, hd⟩
        repeat' (first|((with_reducible refine stop_if (n := 12) ?_))|(with_reducible first|refine zA ?_|refine zB fun K hK=>?_|refine zC fun K2 hK2=>?_|refine zD ?_|refine zE ?_|refine zF ?_|refine zG ?_|refine zH ?_|refine zI ?_|refine zM ?_|refine zN ?_|refine zO ?_|refine zP ?_|refine zQ ?_|refine zR ?_)|((with_reducible refine zU (hK _ _ ?_));clear hK K)|((with_reducible refine zV ?_ ?_ fun K1 K3 d hdst h1 h3=>?_);rfl;exact yB rfl;cases hdst;go_simp)|((with_reducible refine zW fun K1 K3 h1 h3=>?_);go_simp)|((first|refine h1 ?_|refine h3 ?_);clear h1 h3 K1 K3)|((first|refine zX (fun hb=>h1 ?_) (fun hb=>h3 ?_)|refine zX (fun hb=>h3 ?_) (fun hb=>h1 ?_))<;>(clear h1 h3 K1 K3;(try have hb2:=yC hb);(try have hb2:=yD hb);(try have hb2:=yE hb);(try have hb2:=yF hb);(try have hb2:=yG hb)))|(refine fun (K2:_→AHeap→Prop) hK2=>?_)|((with_reducible refine zY ?_ ?_);decide)|((with_reducible first|refine zZ ?_ (fun K hK=>?_)|refine yA ?_ (fun K hK=>?_));(focus go_simp;done);go_simp;refine hK _ _ ?_;clear hK K)|(go_simp;(try go_bits);refine hK2 _ _ ?_;clear hK2 K2))
        refine ⟨CodeS.cut (fun f H2 => ∃ n2 : Int, now ≤ n2 ∧ n2 ≤ now + 19 ∧ (p ≤ k → ds.getD (k - p) 0 < n2) ∧ H' = H2 ∧ f.tmp 13 = .int .i64 n2 ∧ f.tmp 15 = .int .i64 k ∧ f.tmp 14 = .slice da dn dn ∧ f.tmp 3 = .slice ra rl.length rc ∧ f.tmp 4 = .slice ka kl.length kc ∧ f.tmp 5 = .pointer (some ⟨H.n, 0, none⟩) ∧ f.tmp 11 = .bool true ∧ f.tmp 12 = .pointer (some ⟨H.n + 1, 0, none⟩) ∧ f.defers = []) ?_ ?_⟩
        · by_cases hpk : p ≤ k
          · obtain ⟨b, o, sp, rfl, hb, hx⟩ := HDI.out.at_ (show k - p < ds.length by omega)
            have hy1 := hle (k - p) (by omega)
            have hy2 := (built_le HB.out (show k - p < k by omega)).1
            have hyg : ds.getD (k - p) 0 = ds[k - p] := by simp [List.getD_eq_getElem?_getD, show k - p < ds.length by omega]
            rw [hyg] at hy1 hy2 ⊢
            clear hyg
            generalize ds[k - p] = y at hx hy1 hy2
            have h0i : (0 : Int) ≤ (k : Int) - p := by omega
            have h1i : (k : Int) - p < (dn : Int) := by have := HDN.out; omega
            have h3i : ((k : Int) - p).toNat = k - p := by omega
            have h4i : (p : Int) ≤ k := by omega
            have h5i : (k : Int) < dn + p := by have := HDN.out; omega
            repeat' (first|(with_reducible first|refine zA ?_|refine zB fun K hK=>?_|refine zC fun K2 hK2=>?_|refine zD ?_|refine zE ?_|refine zF ?_|refine zG ?_|refine zH ?_|refine zI ?_|refine zM ?_|refine zN ?_|refine zO ?_|refine zP ?_|refine zQ ?_|refine zR ?_)|((with_reducible refine zU (hK _ _ ?_));clear hK K)|((with_reducible refine zV ?_ ?_ fun K1 K3 d hdst h1 h3=>?_);rfl;exact yB rfl;cases hdst;go_simp)|((with_reducible refine zW fun K1 K3 h1 h3=>?_);go_simp)|((first|refine h1 ?_|refine h3 ?_);clear h1 h3 K1 K3)|((first|refine zX (fun hb=>h1 ?_) (fun hb=>h3 ?_)|refine zX (fun hb=>h3 ?_) (fun hb=>h1 ?_))<;>(clear h1 h3 K1 K3;(try have hb2:=yC hb);(try have hb2:=yD hb);(try have hb2:=yE hb);(try have hb2:=yF hb);(try have hb2:=yG hb)))|(refine fun (K2:_→AHeap→Prop) hK2=>?_)|((with_reducible refine zY ?_ ?_);decide)|((with_reducible first|refine zZ ?_ (fun K hK=>?_)|refine yA ?_ (fun K hK=>?_));(focus go_simp;done);go_simp;refine hK _ _ ?_;clear hK K)|(go_simp;(try go_bits);refine hK2 _ _ ?_;clear hK2 K2))
            · exact ⟨y + 1, by omega, by omega, fun _ => by omega, rfl, (by first|go_simp<;>go_num|assumption), (by first|go_simp<;>go_num|assumption), (by first|go_simp<;>go_num|assumption), (by first|go_simp<;>go_num|assumption), (by first|go_simp<;>go_num|assumption), (by first|go_simp<;>go_num|assumption), (by first|go_simp<;>go_num|assumption), (by first|go_simp<;>go_num|assumption), (by first|go_simp<;>go_num|assumption)⟩
            · have hyn : y < n1 := by first | (simpa using ‹decide (n1 ≤ y) = false›) | (simpa using ‹decide (y ≥ n1) = false›)
              exact ⟨n1, by omega, by omega, fun _ => by omega, rfl, (by first|go_simp<;>go_num|assumption), (by first|go_simp<;>go_num|assumption), (by first|go_simp<;>go_num|assumption), (by first|go_simp<;>go_num|assumption), (by first|go_simp<;>go_num|assumption), (by first|go_simp<;>go_num|assumption), (by first|go_simp<;>go_num|assumption), (by first|go_simp<;>go_num|assumption), (by first|go_simp<;>go_num|assumption)⟩
          · repeat' (first|(with_reducible first|refine zA ?_|refine zB fun K hK=>?_|refine zC fun K2 hK2=>?_|refine zD ?_|refine zE ?_|refine zF ?_|refine zG ?_|refine zH ?_|refine zI ?_|refine zM ?_|refine zN ?_|refine zO ?_|refine zP ?_|refine zQ ?_|refine zR ?_)|((with_reducible refine zU (hK _ _ ?_));clear hK K)|((with_reducible refine zV ?_ ?_ fun K1 K3 d hdst h1 h3=>?_);rfl;exact yB rfl;cases hdst;go_simp)|((with_reducible refine zW fun K1 K3 h1 h3=>?_);go_simp)|((first|refine h1 ?_|refine h3 ?_);clear h1 h3 K1 K3)|((first|refine zX (fun hb=>h1 ?_) (fun hb=>h3 ?_)|refine zX (fun hb=>h3 ?_) (fun hb=>h1 ?_))<;>(clear h1 h3 K1 K3;(try have hb2:=yC hb);(try have hb2:=yD hb);(try have hb2:=yE hb);(try have hb2:=yF hb);(try have hb2:=yG hb)))|(refine fun (K2:_→AHeap→Prop) hK2=>?_)|((with_reducible refine zY ?_ ?_);decide)|((with_reducible first|refine zZ ?_ (fun K hK=>?_)|refine yA ?_ (fun K hK=>?_));(focus go_simp;done);go_simp;refine hK _ _ ?_;clear hK K)|(go_simp;(try go_bits);refine hK2 _ _ ?_;clear hK2 K2))
            exact ⟨n1, by omega, by omega, fun h => absurd h hpk, rfl, (by first|go_simp<;>go_num|assumption), (by first|go_simp<;>go_num|assumption), (by first|go_simp<;>go_num|assumption), (by first|go_simp<;>go_num|assumption), (by first|go_simp<;>go_num|assumption), (by first|go_simp<;>go_num|assumption), (by first|go_simp<;>go_num|assumption), (by first|go_simp<;>go_num|assumption), (by first|go_simp<;>go_num|assumption)⟩
        clear f15 f13 f14 f3 f4 f5 f11 f12 hd f
        rintro f H2 ⟨n2, hn2a, hn2b, hn2c, rfl, f13, f15, f14, f3, f4, f5, f11, f12, hd⟩
        have hre := reads0 HERR.out hlt (d := n2) (by omega) (by omega)
        have HRD := Lib.hid (fun (loops : List (Nat × LInfo)) (H' : AHeap) (hx : Ext H H') => readsFn_e (loops := loops) (line := (k : Int)) (day := n2) (HV.out.ext hx))
        rw [hre] at HRD
        have HST := Lib.hid (HB.out.step (now2 := n2) HERR.out hp1 hlt hw8 hn2a hn2b hn2c)
        generalize readsAt s k n2 = L at HRD HST
        clear hre hle
        repeat' (first|((with_reducible refine stop_if (n := 18) ?_))|(with_reducible first|refine zA ?_|refine zB fun K hK=>?_|refine zC fun K2 hK2=>?_|refine zD ?_|refine zE ?_|refine zF ?_|refine zG ?_|refine zH ?_|refine zI ?_|refine zM ?_|refine zN ?_|refine zO ?_|refine zP ?_|refine zQ ?_|refine zR ?_)|((with_reducible refine zU (hK _ _ ?_));clear hK K)|((with_reducible refine zV ?_ ?_ fun K1 K3 d hdst h1 h3=>?_);rfl;exact yB rfl;cases hdst;go_simp)|((with_reducible refine zW fun K1 K3 h1 h3=>?_);go_simp)|((first|refine h1 ?_|refine h3 ?_);clear h1 h3 K1 K3)|((first|refine zX (fun hb=>h1 ?_) (fun hb=>h3 ?_)|refine zX (fun hb=>h3 ?_) (fun hb=>h1 ?_))<;>(clear h1 h3 K1 K3;(try have hb2:=yC hb);(try have hb2:=yD hb);(try have hb2:=yE hb);(try have hb2:=yF hb);(try have hb2:=yG hb)))|(refine fun (K2:_→AHeap→Prop) hK2=>?_)|((with_reducible refine zY ?_ ?_);decide)|((with_reducible first|refine zZ ?_ (fun K hK=>?_)|refine yA ?_ (fun K hK=>?_));(focus go_simp;done);go_simp;refine hK _ _ ?_;clear hK K)|(go_simp;(try go_bits);(try first | ((with_reducible show CallS _ _ _ _ _ _);refine CallS.mono (HRD.out _ _ HX.out) ?_; rintro _ H3 ⟨v, rfl, hi, hx⟩; (obtain ⟨hll, la, lc, rfl⟩ := hi.slice); (have HI := Lib.hid hi); (have HX3 := Lib.hid hx); clear hi hx; go_simp));refine hK2 _ _ ?_;clear hK2 K2))
        refine ⟨CodeS.cut (fun f H4 => ∃ w0 : Int, w0 = (if 0 < L.length then L.getD 0 0 else 0) ∧ H3 = H4 ∧ f.tmp 18 = .int .i64 w0 ∧ f.tmp 16 = .slice la L.length lc ∧ f.tmp 13 = .int .i64 n2 ∧ f.tmp 15 = .int .i64 k ∧ f.tmp 14 = .slice da dn dn ∧ f.tmp 3 = .slice ra rl.length rc ∧ f.tmp 4 = .slice ka kl.length kc ∧ f.tmp 5 = .pointer (some ⟨H.n, 0, none⟩) ∧ f.tmp 11 = .bool true ∧ f.tmp 12 = .pointer (some ⟨H.n + 1, 0, none⟩) ∧ f.defers = []) ?_ ?_⟩
        · by_cases hl0 : 0 < L.length
          · obtain ⟨b, o, sp, rfl, hb, hx⟩ := HI.out.at_ hl0
            have hyg : L.getD 0 0 = L[0] := by simp [List.getD_eq_getElem?_getD, hl0]
            rw [if_pos hl0, hyg]
            generalize L[0] = y at hx
            have hx0 : cellAt H3 b o = some (.int .i64 y) := by simpa using hx
            have hl0i : (0 : Int) < (L.length : Int) := by omega
            repeat' (first|(with_reducible first|refine zA ?_|refine zB fun K hK=>?_|refine zC fun K2 hK2=>?_|refine zD ?_|refine zE ?_|refine zF ?_|refine zG ?_|refine zH ?_|refine zI ?_|refine zM ?_|refine zN ?_|refine zO ?_|refine zP ?_|refine zQ ?_|refine zR ?_)|((with_reducible refine zU (hK _ _ ?_));clear hK K)|((with_reducible refine zV ?_ ?_ fun K1 K3 d hdst h1 h3=>?_);rfl;exact yB rfl;cases hdst;go_simp)|((with_reducible refine zW fun K1 K3 h1 h3=>?_);go_simp)|((first|refine h1 ?_|refine h3 ?_);clear h1 h3 K1 K3)|((first|refine zX (fun hb=>h1 ?_) (fun hb=>h3 ?_)|refine zX (fun hb=>h3 ?_) (fun hb=>h1 ?_))<;>(clear h1 h3 K1 K3;(try have hb2:=yC hb);(try have hb2:=yD hb);(try have hb2:=yE hb);(try have hb2:=yF hb);(try have hb2:=yG hb)))|(refine fun (K2:_→AHeap→Prop) hK2=>?_)|((with_reducible refine zY ?_ ?_);decide)|((with_reducible first|refine zZ ?_ (fun K hK=>?_)|refine yA ?_ (fun K hK=>?_));(focus go_simp;done);go_simp;refine hK _ _ ?_;clear hK K)|(go_simp;(try go_bits);refine hK2 _ _ ?_;clear hK2 K2))
            exact ⟨y, rfl, rfl, (by first|go_simp<;>go_num|assumption), (by first|go_simp<;>go_num|assumption), (by first|go_simp<;>go_num|assumption), (by first|go_simp<;>go_num|assumption), (by first|go_simp<;>go_num|assumption), (by first|go_simp<;>go_num|assumption), (by first|go_simp<;>go_num|assumption), (by first|go_simp<;>go_num|assumption), (by first|go_simp<;>go_num|assumption), (by first|go_simp<;>go_num|assumption), (by first|go_simp<;>go_num|assumption)⟩
          · have hl1 : L.length = 0 := by omega
            rw [hl1, if_neg (by omega)]
            repeat' (first|(with_reducible first|refine zA ?_|refine zB fun K hK=>?_|refine zC fun K2 hK2=>?_|refine zD ?_|refine zE ?_|refine zF ?_|refine zG ?_|refine zH ?_|refine zI ?_|refine zM ?_|refine zN ?_|refine zO ?_|refine zP ?_|refine zQ ?_|refine zR ?_)|((with_reducible refine zU (hK _ _ ?_));clear hK K)|((with_reducible refine zV ?_ ?_ fun K1 K3 d hdst h1 h3=>?_);rfl;exact yB rfl;cases hdst;go_simp)|((with_reducible refine zW fun K1 K3 h1 h3=>?_);go_simp)|((first|refine h1 ?_|refine h3 ?_);clear h1 h3 K1 K3)|((first|refine zX (fun hb=>h1 ?_) (fun hb=>h3 ?_)|refine zX (fun hb=>h3 ?_) (fun hb=>h1 ?_))<;>(clear h1 h3 K1 K3;(try have hb2:=yC hb);(try have hb2:=yD hb);(try have hb2:=yE hb);(try have hb2:=yF hb);(try have hb2:=yG hb)))|(refine fun (K2:_→AHeap→Prop) hK2=>?_)|((with_reducible refine zY ?_ ?_);decide)|((with_reducible first|refine zZ ?_ (fun K hK=>?_)|refine yA ?_ (fun K hK=>?_));(focus go_simp;done);go_simp;refine hK _ _ ?_;clear hK K)|(go_simp;(try go_bits);refine hK2 _ _ ?_;clear hK2 K2))
            exact ⟨0, rfl, rfl, (by first|go_simp<;>go_num|assumption), (by first|go_simp<;>go_num|assumption), (by first|go_simp<;>go_num|assumption), (by first|go_simp<;>go_num|assumption), (by first|go_simp<;>go_num|assumption), (by first|go_simp<;>go_num|assumption), (by first|go_simp<;>go_num|assumption), (by first|go_simp<;>go_num|assumption), (by first|go_simp<;>go_num|assumption), (by first|go_simp<;>go_num|assumption), (by first|go_simp<;>go_num|assumption)⟩
        clear f15 f13 f14 f3 f4 f5 f11 f12 hd f
        rintro f H4 ⟨w0, hw0, rfl, f18, f16, f13, f15, f14, f3, f4, f5, f11, f12, hd⟩
        have HW0 := Lib.hid hw0
        clear hw0
        repeat' (first|((with_reducible refine stop_if (n := 20) ?_))|(with_reducible first|refine zA ?_|refine zB fun K hK=>?_|refine zC fun K2 hK2=>?_|refine zD ?_|refine zE ?_|refine zF ?_|refine zG ?_|refine zH ?_|refine zI ?_|refine zM ?_|refine zN ?_|refine zO ?_|refine zP ?_|refine zQ ?_|refine zR ?_)|((with_reducible refine zU (hK _ _ ?_));clear hK K)|((with_reducible refine zV ?_ ?_ fun K1 K3 d hdst h1 h3=>?_);rfl;exact yB rfl;cases hdst;go_simp)|((with_reducible refine zW fun K1 K3 h1 h3=>?_);go_simp)|((first|refine h1 ?_|refine h3 ?_);clear h1 h3 K1 K3)|((first|refine zX (fun hb=>h1 ?_) (fun hb=>h3 ?_)|refine zX (fun hb=>h3 ?_) (fun hb=>h1 ?_))<;>(clear h1 h3 K1 K3;(try have hb2:=yC hb);(try have hb2:=yD hb);(try have hb2:=yE hb);(try have hb2:=yF hb);(try have hb2:=yG hb)))|(refine fun (K2:_→AHeap→Prop) hK2=>?_)|((with_reducible refine zY ?_ ?_);decide)|((with_reducible first|refine zZ ?_ (fun K hK=>?_)|refine yA ?_ (fun K hK=>?_));(focus go_simp;done);go_simp;refine hK _ _ ?_;clear hK K)|(go_simp;(try go_bits);refine hK2 _ _ ?_;clear hK2 K2))
        refine ⟨CodeS.cut (fun f H4 => ∃ b : Bool, H3 = H4 ∧ f.tmp 18 = .int .i64 (pickW L b) ∧ f.tmp 13 = .int .i64 n2 ∧ f.tmp 15 = .int .i64 k ∧ f.tmp 14 = .slice da dn dn ∧ f.tmp 3 = .slice ra rl.length rc ∧ f.tmp 4 = .slice ka kl.length kc ∧ f.tmp 5 = .pointer (some ⟨H.n, 0, none⟩) ∧ f.tmp 11 = .bool true ∧ f.tmp 12 = .pointer (some ⟨H.n + 1, 0, none⟩) ∧ f.defers = []) ?_ ?_⟩
        · by_cases hl1 : 1 < L.length
          · by_cases hkk : k < kl.length
            · obtain ⟨b, o, sp, rfl, hb, hx⟩ := HI.out.at_ hl1
              have hyg : L.getD 1 0 = L[1] := by simp [List.getD_eq_getElem?_getD, hl1]
              obtain ⟨b2, o2, sp2, rfl, hb2, hx2⟩ := HK.out.at_ hkk
              have hx2' : cellAt H3 b2 (o2 + k) = some (.bool kl[k]) := ((HX.out.trans HX3.out).cellAt hb2).trans hx2
              have hbn2 : b2 < H3.n := by have := HX3.out.n; omega
              have hl1i : (1 : Int) < (L.length : Int) := by omega
              generalize kl[k] = bk at hx2'
              have hp1' : pickW L true = L[1] := by rw [pickW, if_pos ⟨hl1, rfl⟩, hyg]
              have hp0' : pickW L false = w0 := by rw [pickW, if_neg (by simp), HW0.out]
              generalize L[1] = y at hx hp1'
              clear hx2 hyg hb2
              cases bk
              · repeat' (first|(with_reducible first|refine zA ?_|refine zB fun K hK=>?_|refine zC fun K2 hK2=>?_|refine zD ?_|refine zE ?_|refine zF ?_|refine zG ?_|refine zH ?_|refine zI ?_|refine zM ?_|refine zN ?_|refine zO ?_|refine zP ?_|refine zQ ?_|refine zR ?_)|((with_reducible refine zU (hK _ _ ?_));clear hK K)|((with_reducible refine zV ?_ ?_ fun K1 K3 d hdst h1 h3=>?_);rfl;exact yB rfl;cases hdst;go_simp)|((with_reducible refine zW fun K1 K3 h1 h3=>?_);go_simp)|((first|refine h1 ?_|refine h3 ?_);clear h1 h3 K1 K3)|((first|refine zX (fun hb=>h1 ?_) (fun hb=>h3 ?_)|refine zX (fun hb=>h3 ?_) (fun hb=>h1 ?_))<;>(clear h1 h3 K1 K3;(try have hb2:=yC hb);(try have hb2:=yD hb);(try have hb2:=yE hb);(try have hb2:=yF hb);(try have hb2:=yG hb)))|(refine fun (K2:_→AHeap→Prop) hK2=>?_)|((with_reducible refine zY ?_ ?_);decide)|((with_reducible first|refine zZ ?_ (fun K hK=>?_)|refine yA ?_ (fun K hK=>?_));(focus go_simp;done);go_simp;refine hK _ _ ?_;clear hK K)|(go_simp;(try go_bits);refine hK2 _ _ ?_;clear hK2 K2))
                exact ⟨false, rfl, by rw [hp0']; exact (by first|go_simp<;>go_num|assumption), (by first|go_simp<;>go_num|assumption), (by first|go_simp<;>go_num|assumption), (by first|go_simp<;>go_num|assumption), (by first|go_simp<;>go_num|assumption), (by first|go_simp<;>go_num|assumption), (by first|go_simp<;>go_num|assumption), (by first|go_simp<;>go_num|assumption), (by first|go_simp<;>go_num|assumption), (by first|go_simp<;>go_num|assumption)⟩
              · repeat' (first|(with_reducible first|refine zA ?_|refine zB fun K hK=>?_|refine zC fun K2 hK2=>?_|refine zD ?_|refine zE ?_|refine zF ?_|refine zG ?_|refine zH ?_|refine zI ?_|refine zM ?_|refine zN ?_|refine zO ?_|refine zP ?_|refine zQ ?_|refine zR ?_)|((with_reducible refine zU (hK _ _ ?_));clear hK K)|((with_reducible refine zV ?_ ?_ fun K1 K3 d hdst h1 h3=>?_);rfl;exact yB rfl;cases hdst;go_simp)|((with_reducible refine zW fun K1 K3 h1 h3=>?_);go_simp)|((first|refine h1 ?_|refine h3 ?_);clear h1 h3 K1 K3)|((first|refine zX (fun hb=>h1 ?_) (fun hb=>h3 ?_)|refine zX (fun hb=>h3 ?_) (fun hb=>h1 ?_))<;>(clear h1 h3 K1 K3;(try have hb2:=yC hb);(try have hb2:=yD hb);(try have hb2:=yE hb);(try have hb2:=yF hb);(try have hb2:=yG hb)))|(refine fun (K2:_→AHeap→Prop) hK2=>?_)|((with_reducible refine zY ?_ ?_);decide)|((with_reducible first|refine zZ ?_ (fun K hK=>?_)|refine yA ?_ (fun K hK=>?_));(focus go_simp;done);go_simp;refine hK _ _ ?_;clear hK K)|(go_simp;(try go_bits);refine hK2 _ _ ?_;clear hK2 K2))
                exact ⟨true, rfl, by rw [hp1']; exact (by first|go_simp<;>go_num|assumption), (by first|go_simp<;>go_num|assumption), (by first|go_simp<;>go_num|assumption), (by first|go_simp<;>go_num|assumption), (by first|go_simp<;>go_num|assumption), (by first|go_simp<;>go_num|assumption), (by first|go_simp<;>go_num|assumption), (by first|go_simp<;>go_num|assumption), (by first|go_simp<;>go_num|assumption), (by first|go_simp<;>go_num|assumption)⟩
            · have hp0' : pickW L false = w0 := by rw [pickW, if_neg (by simp), HW0.out]
              have hl1i : (1 : Int) < (L.length : Int) := by omega
              repeat' (first|(with_reducible first|refine zA ?_|refine zB fun K hK=>?_|refine zC fun K2 hK2=>?_|refine zD ?_|refine zE ?_|refine zF ?_|refine zG ?_|refine zH ?_|refine zI ?_|refine zM ?_|refine zN ?_|refine zO ?_|refine zP ?_|refine zQ ?_|refine zR ?_)|((with_reducible refine zU (hK _ _ ?_));clear hK K)|((with_reducible refine zV ?_ ?_ fun K1 K3 d hdst h1 h3=>?_);rfl;exact yB rfl;cases hdst;go_simp)|((with_reducible refine zW fun K1 K3 h1 h3=>?_);go_simp)|((first|refine h1 ?_|refine h3 ?_);clear h1 h3 K1 K3)|((first|refine zX (fun hb=>h1 ?_) (fun hb=>h3 ?_)|refine zX (fun hb=>h3 ?_) (fun hb=>h1 ?_))<;>(clear h1 h3 K1 K3;(try have hb2:=yC hb);(try have hb2:=yD hb);(try have hb2:=yE hb);(try have hb2:=yF hb);(try have hb2:=yG hb)))|(refine fun (K2:_→AHeap→Prop) hK2=>?_)|((with_reducible refine zY ?_ ?_);decide)|((with_reducible first|refine zZ ?_ (fun K hK=>?_)|refine yA ?_ (fun K hK=>?_));(focus go_simp;done);go_simp;refine hK _ _ ?_;clear hK K)|(go_simp;(try go_bits);refine hK2 _ _ ?_;clear hK2 K2))
              exact ⟨false, rfl, by rw [hp0']; exact (by first|go_simp<;>go_num|assumption), (by first|go_simp<;>go_num|assumption), (by first|go_simp<;>go_num|assumption), (by first|go_simp<;>go_num|assumption), (by first|go_simp<;>go_num|assumption), (by first|go_simp<;>go_num|assumption), (by first|go_simp<;>go_num|assumption), (by first|go_simp<;>go_num|assumption), (by first|go_simp<;>go_num|assumption), (by first|go_simp<;>go_num|assumption)⟩
          · have hp0' : pickW L false = w0 := by rw [pickW, if_neg (by simp), HW0.out]
            have hl1i : ¬ (1 : Int) < (L.length : Int) := by omega
            repeat' (first|(with_reducible first|refine zA ?_|refine zB fun K hK=>?_|refine zC fun K2 hK2=>?_|refine zD ?_|refine zE ?_|refine zF ?_|refine zG ?_|refine zH ?_|refine zI ?_|refine zM ?_|refine zN ?_|refine zO ?_|refine zP ?_|refine zQ ?_|refine zR ?_)|((with_reducible refine zU (hK _ _ ?_));clear hK K)|((with_reducible refine zV ?_ ?_ fun K1 K3 d hdst h1 h3=>?_);rfl;exact yB rfl;cases hdst;go_simp)|((with_reducible refine zW fun K1 K3 h1 h3=>?_);go_simp)|((first|refine h1 ?_|refine h3 ?_);clear h1 h3 K1 K3)|((first|refine zX (fun hb=>h1 ?_) (fun hb=>h3 ?_)|refine zX (fun hb=>h3 ?_) (fun hb=>h1 ?_))<;>(clear h1 h3 K1 K3;(try have hb2:=yC hb);(try have hb2:=yD hb);(try have hb2:=yE hb);(try have hb2:=yF hb);(try have hb2:=yG hb)))|(refine fun (K2:_→AHeap→Prop) hK2=>?_)|((with_reducible refine zY ?_ ?_);decide)|((with_reducible first|refine zZ ?_ (fun K hK=>?_)|refine yA ?_ (fun K hK=>?_));(focus go_simp;done);go_simp;refine hK _ _ ?_;clear hK K)|(go_simp;(try go_bits);refine hK2 _ _ ?_;clear hK2 K2))
            exact ⟨false, rfl, by rw [hp0']; exact (by first|go_simp<;>go_num|assumption), (by first|go_simp<;>go_num|assumption), (by first|go_simp<;>go_num|assumption), (by first|go_simp<;>go_num|assumption), (by first|go_simp<;>go_num|assumption), (by first|go_simp<;>go_num|assumption), (by first|go_simp<;>go_num|assumption), (by first|go_simp<;>go_num|assumption), (by first|go_simp<;>go_num|assumption), (by first|go_simp<;>go_num|assumption)⟩
        clear f15 f13 f14 f3 f4 f5 f11 f12 f18 f16 hd f HW0
        rintro f H4 ⟨bp, rfl, f18, f13, f15, f14, f3, f4, f5, f11, f12, hd⟩
        have HS2 := Lib.hid (HST.out bp)
        clear HST
        generalize pickW L bp = wd at f18 HS2
        have HT3 := Lib.hid (HT.out.ext HX3.out)
        have hg03 := (HX3.out.get _ hn0).trans HG0.out
        have hg13 := (HX3.out.get _ hn1).trans HG1.out
        have HG03 := Lib.hid hg03
        have HG13 := Lib.hid hg13
        have hH3 := HX3.out.n
        have hn3 : H.n + 2 ≤ H3.n := by omega
        have hn3' : H.n + 1 < H3.n := by omega
        have HLL := Lib.hid (show ds.length ≤ 8 ∧ ws.length ≤ 8 by omega)
        have HXX := Lib.hid (HX.out.trans HX3.out)
        clear hg03 hg13 hH3 HT HG0 HG1 HDI HI HR HK HRD hs0 hss hc0 hc3 hn0 hn1 dl wl hn2c HX HX3 hn2
        repeat' (first|(with_reducible first|refine zA ?_|refine zB fun K hK=>?_|refine zC fun K2 hK2=>?_|refine zD ?_|refine zE ?_|refine zF ?_|refine zG ?_|refine zH ?_|refine zI ?_|refine zM ?_|refine zN ?_|refine zO ?_|refine zP ?_|refine zQ ?_|refine zR ?_)|((with_reducible refine zU (hK _ _ ?_));clear hK K)|((with_reducible refine zV ?_ ?_ fun K1 K3 d hdst h1 h3=>?_);rfl;exact yB rfl;cases hdst;go_simp)|((with_reducible refine zW fun K1 K3 h1 h3=>?_);go_simp)|((first|refine h1 ?_|refine h3 ?_);clear h1 h3 K1 K3)|((first|refine zX (fun hb=>h1 ?_) (fun hb=>h3 ?_)|refine zX (fun hb=>h3 ?_) (fun hb=>h1 ?_))<;>(clear h1 h3 K1 K3;(try have hb2:=yC hb);(try have hb2:=yD hb);(try have hb2:=yE hb);(try have hb2:=yF hb);(try have hb2:=yG hb)))|(refine fun (K2:_→AHeap→Prop) hK2=>?_)|((with_reducible refine zY ?_ ?_);decide)|((with_reducible first|refine zZ ?_ (fun K hK=>?_)|refine yA ?_ (fun K hK=>?_));(focus go_simp;done);go_simp;refine hK _ _ ?_;clear hK K)|(go_simp;(try go_bits);(try first | ((refine one_k el22 sz3 ze3 rfl (by decide) (by decide) rfl rfl ?_); go_simp) | ((refine append_k2 (old := ds.map (Value.int .i64)) el22 sz3 by3 ze3 rfl (by decide) (HT3.out.d.ext (Ext.push _)) (srcCells_new rfl) (by decide) rfl (by rw [List.all_append, oneV_list_int]; rfl) (by have := HLL.out; rw [List.length_map]; show (ds.length + 1) * 8 ≤ 1073741824; omega) (by rw [AHeap.n_push]; omega) fun v2 H6 ho6 hg6 => ?_); (have HA6 := Lib.hid ((HT3.out.ext (Ext.push _)).appD (by rw [AHeap.n_push]; omega) ho6 hg6)); (have HN6 := Lib.hid hg6.1); (obtain ⟨v2a, v2n, rfl⟩ := own_slice ho6); (have hq6 : H6.get (H.n + 1) = .row [.slice wa' wn wn, .int .i64 0, .int .i64 730, .int .i64 p] 27 := by rw [HA6.out.2 _ (by omega), AHeap.get_push_old hn3']; exact HG13.out); (have hc6 : cellAt H6 (H.n + 1) 0 = some (.slice wa' wn wn) := by simp [cellAt, hq6]); (have hn6 : H.n + 1 < H6.n := by have := hg6.1; rw [AHeap.n_push] at this; omega); clear ho6 hg6; go_simp) | ((refine append_k2 (old := ws.map (Value.int .i64)) el22 sz3 by3 ze3 rfl (by decide) (HA6.out.1.w.ext (Ext.push _)) (srcCells_new rfl) (by decide) rfl (by rw [List.all_append, oneV_list_int]; rfl) (by have := HLL.out; rw [List.length_map]; show (ws.length + 1) * 8 ≤ 1073741824; omega) (by rw [AHeap.n_push]; omega) fun v3 H8 ho8 hg8 => ?_); (have HA8 := Lib.hid ((HA6.out.1.ext (Ext.push _)).appW (by rw [AHeap.n_push]; omega) ho8 hg8)); (have HN8 := Lib.hid hg8.1); (obtain ⟨v3a, v3n, rfl⟩ := own_slice ho8); (have hq8 : H8.get (H.n + 1) = .row [.slice wa' wn wn, .int .i64 0, .int .i64 730, .int .i64 p] 27 := by rw [HA8.out.2 _ (by omega), AHeap.get_push_old hn6]; exact hq6); (have hn8 : H.n + 1 < H8.n := by have := hg8.1; rw [AHeap.n_push] at this; omega); clear ho8 hg8 hq6 hc6; go_simp));refine hK2 _ _ ?_;clear hK2 K2))
        have hnn : H3.n ≤ H8.n := by have h1 := HN6.out; have h2 := HN8.out; simp only [AHeap.n_push] at h1 h2; omega
        have hk8' : ∀ i, i < H.n + 1 → H8.get i = H3.get i := fun i hi => by rw [HA8.out.2 _ (by omega), AHeap.get_push_old (by omega), HA6.out.2 _ (by omega), AHeap.get_push_old (by omega)]
        refine Post.round_normal ⟨s.words.length - (k + 1), by omega, k + 1, n2, .slice v2a v2n v2n, .slice v3a v3n v3n, ds ++ [n2], ws ++ [wd], by omega, rfl, (by first|go_simp<;>go_num|assumption), (by first|go_simp<;>go_num|assumption), (by first|go_simp<;>go_num|assumption), (by first|go_simp<;>go_num|assumption), (by first|go_simp<;>go_num|assumption), (by first|go_simp<;>go_num|assumption), (by first|go_simp<;>go_num|assumption), (by first|go_simp<;>go_num|assumption), (by first|go_simp<;>go_num|assumption), by rw [AHeap.n_upd]; omega, Lib.hid ⟨by rw [AHeap.n_upd]; omega, fun i hi => ?_⟩, Lib.hid ?_, Lib.hid ?_, Lib.hid (HA8.out.1.upd (by omega) _), HS2⟩
        · rw [AHeap.get_upd_ne (by omega), hk8' i (by omega)]; exact HXX.out.get i hi
        · rw [AHeap.get_upd_ne (by omega), hk8' _ (by omega)]; exact HG03.out
        · rw [AHeap.get_upd_same]
      · have hke : k = s.words.length := by omega
        subst hke
        repeat' (first|(with_reducible first|refine zA ?_|refine zB fun K hK=>?_|refine zC fun K2 hK2=>?_|refine zD ?_|refine zE ?_|refine zF ?_|refine zG ?_|refine zH ?_|refine zI ?_|refine zM ?_|refine zN ?_|refine zO ?_|refine zP ?_|refine zQ ?_|refine zR ?_)|((with_reducible refine zU (hK _ _ ?_));clear hK K)|((with_reducible refine zV ?_ ?_ fun K1 K3 d hdst h1 h3=>?_);rfl;exact yB rfl;cases hdst;go_simp)|((with_reducible refine zW fun K1 K3 h1 h3=>?_);go_simp)|((first|refine h1 ?_|refine h3 ?_);clear h1 h3 K1 K3)|((first|refine zX (fun hb=>h1 ?_) (fun hb=>h3 ?_)|refine zX (fun hb=>h3 ?_) (fun hb=>h1 ?_))<;>(clear h1 h3 K1 K3;(try have hb2:=yC hb);(try have hb2:=yD hb);(try have hb2:=yE hb);(try have hb2:=yF hb);(try have hb2:=yG hb)))|(refine fun (K2:_→AHeap→Prop) hK2=>?_)|((with_reducible refine zY ?_ ?_);decide)|((with_reducible first|refine zZ ?_ (fun K hK=>?_)|refine yA ?_ (fun K hK=>?_));(focus go_simp;done);go_simp;refine hK _ _ ?_;clear hK K)|(go_simp;(try go_bits);refine hK2 _ _ ?_;clear hK2 K2))
        exact ⟨now, .slice da dn dn, .slice wa' wn wn, ds, ws, (by first|go_simp<;>go_num|assumption), (by first|go_simp<;>go_num|assumption), (by first|go_simp<;>go_num|assumption), (by first|go_simp<;>go_num|assumption), (by first|go_simp<;>go_num|assumption), hn2, HX, HG0, HG1, HT, HB⟩
    clear f0 f1 f2 f3 f4 hd f hq hn hq0 hn0 hp HRB
    rintro f H' ⟨now, dv, wv, ds, ws, f14, f5, f11, f12, hd, hn2, HX, HG0, HG1, HT, HB⟩
    have hdl := HB.out.dl
    have hwl2 := HB.out.wl
    have hds1 : 1 ≤ ds.length := by rw [hdl]; have := win_iff.1 hok.2.1; omega
    have hds8 : ds.length ≤ 8 := by omega
    have HDI := Lib.hid (ints_of_own HT.out.d (by omega))
    have HWI := Lib.hid (ints_of_own HT.out.w (by omega))
    obtain ⟨-, da, dc, rfl⟩ := HDI.out.slice
    obtain ⟨-, va, vc, rfl⟩ := HWI.out.slice
    have HC : Hid (CopyV H' (.agg #[.slice va ws.length vc, .int .i64 0, .int .i64 730, .int .i64 p]) ⟨ws, 0, 730, p⟩) := Lib.hid ⟨_, rfl, HWI.out⟩
    have hfit := HB.out.fits HERR.out hp1 hp2
    obtain ⟨hex, -, -⟩ := fits_ends hfit
    have hbf := first_below hfit
    have hbl := last_below hfit
    have hfv := fitsOk_V hfit
    have HTL := Lib.hid (fun lo hi (h : LongOk s ⟨ws, 0, 730, p⟩ lo hi) => took_long hfit h)
    have HPO := Lib.hid (fun k (h : k < ds.length) => days_poss hfit h)
    have HSB := Lib.hid (fun a (h : a ∈ s.alts) => seen_before hfit h)
    have HYB := Lib.hid (fun j (hj : j < ds.length) => show 0 ≤ ds[j] ∧ ds[j] ≤ 730 by
      have h1 := HB.out.ok j (by omega)
      have e : ds.getD j 0 = ds[j] := by simp [List.getD_eq_getElem?_getD, hj]
      rw [e] at h1
      exact ⟨h1.1, h1.2.1⟩)
    clear hfit HB HT
    generalize (⟨ws, 0, 730, p⟩ : Copy) = c at HC hex hbf hbl hfv HTL HPO HSB
    have HFX := Lib.hid (fun (loops : List (Nat × LInfo)) (G : AHeap) (hx : Ext H' G) => fits_s (loops := loops) ((HV.out.ext HX.out).ext hx) (HC.out.ext hx) (HDI.out.ext hx))
    have HF1 := Lib.hid (fun (loops : List (Nat × LInfo)) (G : AHeap) (hx : Ext H' G) => first_e (loops := loops) ((HV.out.ext HX.out).ext hx) (HC.out.ext hx))
    have HL1 := Lib.hid (fun (loops : List (Nat × LInfo)) (G : AHeap) (hx : Ext H' G) => last_e (loops := loops) ((HV.out.ext HX.out).ext hx) (HC.out.ext hx))
    have HLO := Lib.hid (fun (loops : List (Nat × LInfo)) (G : AHeap) (hx : Ext H' G) => long_s (loops := loops) ((HV.out.ext HX.out).ext hx) (HC.out.ext hx))
    have HS1 := Lib.hid (fun (loops : List (Nat × LInfo)) (G : AHeap) (hx : Ext H' G) => seen_e (loops := loops) ((HV.out.ext HX.out).ext hx) (HC.out.ext hx) (fun h => fewY (HFW.out.trans (by simpa using ‹(!fw) = false›)) h))
    have HPS := Lib.hid (fun (loops : List (Nat × LInfo)) (G : AHeap) (n : Int) (hx : Ext H' G) => possible_f (loops := loops) (n := n) ((HV.out.ext HX.out).ext hx) (HC.out.ext hx))
    rw [hfv] at HFX
    rw [hex] at HF1 HL1 HLO HS1
    have HBF := Lib.hid hbf
    have HBL := Lib.hid hbl
    clear hfv hbf hbl
    generalize firstL s c = F1 at HF1 HBF
    generalize lastL s c = L1 at HL1 HBL
    have HCELLS : Hid (∀ G : AHeap, Ext H' G → cellsAt G H.n 0 2 = some [Value.slice wa s.words.length wc, Value.slice aa s.alts.length ac] ∧ cellsAt G (H.n + 1) 0 4 = some [.slice va ws.length vc, .int .i64 0, .int .i64 730, .int .i64 p] ∧ H.n + 1 < G.n ∧ H.n < G.n ∧ cellAt G H.n 1 = some (Value.slice aa s.alts.length ac)) := Lib.hid (fun G hx => by
      have h1 := hx.n
      refine ⟨?_, ?_, by omega, by omega, ?_⟩
      · rw [hx.cellsAt (by omega)]; simp [cellsAt, HG0.out]
      · rw [hx.cellsAt (by omega)]; simp [cellsAt, HG1.out]
      · rw [hx.cellAt (by omega)]; simp [cellAt, HG0.out])
    obtain ⟨ck0, ck1, ck2, ck3, -⟩ := HCELLS.out _ (Ext.refl _)
    clear HG0 HG1 hn2
    have hl0 : 0 < ds.length := by omega
    have hl1 : ds.length - 1 < ds.length := by omega
    obtain ⟨db, dof, dsp, rfl, hdb, hd0⟩ := HDI.out.at_ hl0
    obtain ⟨_, _, _, h9, hdb2, hd1⟩ := HDI.out.at_ hl1
    cases h9
    have HTT : Hid (∀ lo hi, LongOk s c lo hi → lo ≤ ds[ds.length - 1] - ds[0] ∧ ds[ds.length - 1] - ds[0] ≤ hi) := Lib.hid (fun lo hi h => by
      have h3 := HTL.out lo hi h
      simpa [List.getD_eq_getElem?_getD, hl0, hl1] using h3)
    have hy0 := HYB.out _ hl0
    have hy1 := HYB.out _ hl1
    clear HYB
    have hd0' : cellAt H' db dof = some (.int .i64 ds[0]) := by simpa using hd0
    clear hd0 HTL
    generalize ds[0] = y0 at hd0' hy0 HTT
    generalize ds[ds.length - 1] = y1 at hd1 hy1 HTT
    obtain ⟨hy00, hy01⟩ := hy0
    obtain ⟨hy10, hy11⟩ := hy1
    have hwr : IntKind.i64.wrap (y1 - y0) = y1 - y0 := by rw [IntKind.wrap_i64]; omega
    have HDLL := Lib.hid hdl
    clear hdl hwl2
    have h0i : (0 : Int) ≤ (ds.length : Int) - 1 := by omega
    have h1i : (ds.length : Int) - 1 < (ds.length : Int) := by omega
    have h2i : (1 : Int) ≤ (ds.length : Int) := by omega
    have h3i : ((ds.length : Int) - 1).toNat = ds.length - 1 := by omega
    have h5i : (0 : Int) < (ds.length : Int) := by omega
    repeat' (first|((with_reducible refine stop_for (n := 33) ?_))|(with_reducible first|refine zA ?_|refine zB fun K hK=>?_|refine zC fun K2 hK2=>?_|refine zD ?_|refine zE ?_|refine zF ?_|refine zG ?_|refine zH ?_|refine zI ?_|refine zM ?_|refine zN ?_|refine zO ?_|refine zP ?_|refine zQ ?_|refine zR ?_)|((with_reducible refine zU (hK _ _ ?_));clear hK K)|((with_reducible refine zV ?_ ?_ fun K1 K3 d hdst h1 h3=>?_);rfl;exact yB rfl;cases hdst;go_simp)|((with_reducible refine zW fun K1 K3 h1 h3=>?_);go_simp)|((first|refine h1 ?_|refine h3 ?_);clear h1 h3 K1 K3)|((first|refine zX (fun hb=>h1 ?_) (fun hb=>h3 ?_)|refine zX (fun hb=>h3 ?_) (fun hb=>h1 ?_))<;>(clear h1 h3 K1 K3;(try have hb2:=yC hb);(try have hb2:=yD hb);(try have hb2:=yE hb);(try have hb2:=yF hb);(try have hb2:=yG hb)))|(refine fun (K2:_→AHeap→Prop) hK2=>?_)|((with_reducible refine zY ?_ ?_);decide)|((with_reducible first|refine zZ ?_ (fun K hK=>?_)|refine yA ?_ (fun K hK=>?_));(focus go_simp;done);go_simp;refine hK _ _ ?_;clear hK K)|((with_reducible refine yH mixed rfl ?_ 20 fun K0 hK0=>?_);kernel_rfl)|(with_reducible first|exact yI|exact yJ|refine yK ?_|refine yL ?_|refine yM ?_)|((with_reducible first|refine yN ?_ ?_|refine yO ?_ ?_|refine yP ?_ ?_);rfl)|((with_reducible refine yQ ?_ ?_);rfl;refine hK0 _ _ ?_;clear hK0 K0)|((with_reducible refine yR ?_ ?_ ?_ ?_);rfl;rfl;rfl)|((with_reducible refine yS ?_ ?_ ?_ fun K2 hK2=>?_);rfl;rfl;exact yB rfl)|((with_reducible refine yT ?_ ?_ ?_ ?_ fun K1 K3 d hdst h1 h3=>?_);rfl;rfl;rfl;exact yB rfl;cases hdst;go_simp)|((with_reducible refine yU ?_ ?_ ?_ ?_ fun K1 K3 d hdst h1 h3=>?_);rfl;rfl;rfl;exact yB rfl;cases hdst;go_simp)|((with_reducible refine yV ?_ ?_ (fun K2 hK2=>?_) ?_);rfl;exact yB rfl)|((with_reducible refine yW ?_ ?_ ?_ ?_ (fun K2 hK2=>?_) ?_);rfl;exact yB rfl;rfl;(focus go_simp;done))|((with_reducible refine yX ?_ ?_ ?_ (fun K2 hK2=>?_) ?_);rfl;rfl;exact yB rfl)|((with_reducible refine yY ?_ ?_ (fun K2 hK2=>?_) ?_);rfl;rfl)|((with_reducible refine yZ ?_ ?_);(first|rfl|(dsimp only;decide +kernel)))|((with_reducible refine xA ?_ ?_);(focus go_simp;done))|(go_simp;(try go_bits);(try first |((with_reducible show CallS _ _ _ _ _ _);first|(refine CallS.mono (HFX.out _ _ (Ext.refl _)) ?_; rintro _ _ ⟨rfl, h9⟩; rw [h9]; clear h9; go_simp)|(refine CallS.mono (HF1.out _ _ (Ext.refl _)) ?_; rintro _ H2 ⟨⟨fv, rfl, hi⟩, hx⟩; (obtain ⟨-, fa, fc, rfl⟩ := hi.slice); (have HI2 := Lib.hid hi); (have HX2 := Lib.hid hx); (obtain ⟨dk0, dk1, dk2, dk3, -⟩ := HCELLS.out _ hx); clear hi hx; go_simp)|(refine CallS.mono (HL1.out _ _ HX2.out) ?_; rintro _ H3 ⟨⟨lv, rfl, hi⟩, hx⟩; (obtain ⟨-, la, lc, rfl⟩ := hi.slice); (have HI3 := Lib.hid hi); (have HI23 := Lib.hid (HI2.out.ext hx)); (have HX3 := Lib.hid (HX2.out.trans hx)); (have HD3 := Lib.hid (HDI.out.ext (HX2.out.trans hx))); (obtain ⟨ek0, ek1, ek2, ek3, -⟩ := HCELLS.out _ HX3.out); (have hd03 := (HX3.out.cellAt hdb).trans hd0'); (have hd13 := (HX3.out.cellAt hdb).trans hd1); (have hdb3 := Nat.lt_of_lt_of_le hdb HX3.out.n); clear hi hx; go_simp)|(refine CallS.mono (HLO.out _ _ HX3.out) ?_; rintro _ _ ⟨⟨lo, hi, rfl, hlo⟩, h9⟩; rw [h9]; clear h9; (obtain ⟨hlo1, hlo2⟩ := HTT.out _ _ (hlo rfl)); clear hlo; go_simp)|(refine CallS.mono (below_s (n := ds.length) (HI23.out.ext (Ext.push _)) (HD3.out.ext (Ext.push _))) ?_; rintro _ _ ⟨rfl, h9⟩; rw [h9, HBF.out]; clear h9; go_simp)|(refine CallS.mono (below_s (n := ds.length) (HD3.out.ext (Ext.push _)) (HI3.out.ext (Ext.push _))) ?_; rintro _ _ ⟨rfl, h9⟩; rw [h9, HBL.out]; clear h9; go_simp)));(first|(refine hK2 _ _ ?_ ?_<;>clear hK2 K2)|(refine hK2 _ _ ?_;clear hK2 K2))))
    · exfalso; omega
    · exfalso; omega
    refine ⟨CodeS.cut (fun f G => Hid (Ext H' G) ∧ f.tmp 14 = .slice (some ⟨db, dof, dsp⟩) ds.length dc ∧ f.tmp 5 = .pointer (some ⟨H.n, 0, none⟩) ∧ f.tmp 11 = .bool true ∧ f.tmp 12 = .pointer (some ⟨H.n + 1, 0, none⟩) ∧ f.defers = []) ?_ ?_⟩
    · have HG3 := Lib.hid (HX3.out.push' (.row [.int .i64 lo, .int .i64 hi] 87))
      repeat' (first|(with_reducible first|refine zA ?_|refine zB fun K hK=>?_|refine zC fun K2 hK2=>?_|refine zD ?_|refine zE ?_|refine zF ?_|refine zG ?_|refine zH ?_|refine zI ?_|refine zM ?_|refine zN ?_|refine zO ?_|refine zP ?_|refine zQ ?_|refine zR ?_)|((with_reducible refine zU (hK _ _ ?_));clear hK K)|((with_reducible refine zV ?_ ?_ fun K1 K3 d hdst h1 h3=>?_);rfl;exact yB rfl;cases hdst;go_simp)|((with_reducible refine zW fun K1 K3 h1 h3=>?_);go_simp)|((first|refine h1 ?_|refine h3 ?_);clear h1 h3 K1 K3)|((first|refine zX (fun hb=>h1 ?_) (fun hb=>h3 ?_)|refine zX (fun hb=>h3 ?_) (fun hb=>h1 ?_))<;>(clear h1 h3 K1 K3;(try have hb2:=yC hb);(try have hb2:=yD hb);(try have hb2:=yE hb);(try have hb2:=yF hb);(try have hb2:=yG hb)))|(refine fun (K2:_→AHeap→Prop) hK2=>?_)|((with_reducible refine zY ?_ ?_);decide)|((with_reducible first|refine zZ ?_ (fun K hK=>?_)|refine yA ?_ (fun K hK=>?_));(focus go_simp;done);go_simp;refine hK _ _ ?_;clear hK K)|(go_simp;(try go_bits);refine hK2 _ _ ?_;clear hK2 K2))
      refine CodeS.loop (fun m f G => ∃ k : Nat, k ≤ ds.length ∧ m = ds.length - k ∧ f.tmp 29 = .int .i64 k ∧ Hid (Ext H' G) ∧ f.tmp 14 = .slice (some ⟨db, dof, dsp⟩) ds.length dc ∧ f.tmp 5 = .pointer (some ⟨H.n, 0, none⟩) ∧ f.tmp 11 = .bool true ∧ f.tmp 12 = .pointer (some ⟨H.n + 1, 0, none⟩) ∧ f.defers = []) ds.length ?_ ?_
      · exact ⟨0, by omega, by omega, (by first|go_simp<;>go_num|assumption), HG3, (by first|go_simp<;>go_num|assumption), (by first|go_simp<;>go_num|assumption), (by first|go_simp<;>go_num|assumption), (by first|go_simp<;>go_num|assumption), (by first|go_simp<;>go_num|assumption)⟩
      clear f14 f5 f11 f12 hd f
      rintro m f G ⟨k, hk, rfl, f29, HG, f14, f5, f11, f12, hd⟩
      obtain ⟨gk0, gk1, gk2, gk3, -⟩ := HCELLS.out _ HG.out
      by_cases hlt : k < ds.length
      · obtain ⟨_, _, _, h9, -, hdk⟩ := HDI.out.at_ hlt
        cases h9
        obtain ⟨hp3, hp4⟩ := HPO.out k hlt
        have hyg : ds.getD k 0 = ds[k] := by simp [List.getD_eq_getElem?_getD, hlt]
        rw [hyg] at hp4
        have hdk' := (HG.out.cellAt hdb).trans hdk
        have hdbG := Nat.lt_of_lt_of_le hdb HG.out.n
        clear hyg hdk
        generalize ds[k] = y at hdk' hp4
        have HP := Lib.hid (fun (loops : List (Nat × LInfo)) => HPS.out loops _ (k : Int) HG.out)
        rw [hp3] at HP
        generalize possL s c k = PL at HP hp4
        have HP4 := Lib.hid hp4
        clear hp3 hp4
        repeat' (first|(with_reducible first|refine zA ?_|refine zB fun K hK=>?_|refine zC fun K2 hK2=>?_|refine zD ?_|refine zE ?_|refine zF ?_|refine zG ?_|refine zH ?_|refine zI ?_|refine zM ?_|refine zN ?_|refine zO ?_|refine zP ?_|refine zQ ?_|refine zR ?_)|((with_reducible refine zU (hK _ _ ?_));clear hK K)|((with_reducible refine zV ?_ ?_ fun K1 K3 d hdst h1 h3=>?_);rfl;exact yB rfl;cases hdst;go_simp)|((with_reducible refine zW fun K1 K3 h1 h3=>?_);go_simp)|((first|refine h1 ?_|refine h3 ?_);clear h1 h3 K1 K3)|((first|refine zX (fun hb=>h1 ?_) (fun hb=>h3 ?_)|refine zX (fun hb=>h3 ?_) (fun hb=>h1 ?_))<;>(clear h1 h3 K1 K3;(try have hb2:=yC hb);(try have hb2:=yD hb);(try have hb2:=yE hb);(try have hb2:=yF hb);(try have hb2:=yG hb)))|(refine fun (K2:_→AHeap→Prop) hK2=>?_)|((with_reducible refine zY ?_ ?_);decide)|((with_reducible first|refine zZ ?_ (fun K hK=>?_)|refine yA ?_ (fun K hK=>?_));(focus go_simp;done);go_simp;refine hK _ _ ?_;clear hK K)|(go_simp;(try go_bits);(try first |((with_reducible show CallS _ _ _ _ _ _);first|(refine CallS.mono (HP.out _) ?_; rintro _ G2 ⟨⟨pv, rfl, hi⟩, hx⟩; (obtain ⟨-, -, pa, pc, rfl, -⟩ := id hi); (have HI := Lib.hid hi); (have HG2 := Lib.hid (HG.out.trans hx)); (have hdk2 := (hx.cellAt hdbG).trans hdk'); (have hdb2 := Nat.lt_of_lt_of_le hdbG hx.n); clear hi hx; go_simp)|(refine CallS.mono (inside_s (d := y) HI.out) ?_; rintro _ _ ⟨rfl, h9⟩; rw [h9, HP4.out]; clear h9; go_simp)));refine hK2 _ _ ?_;clear hK2 K2))
        exact Post.round_normal ⟨ds.length - (k + 1), by omega, k + 1, by omega, rfl, (by first|go_simp<;>go_num|assumption), HG2, (by first|go_simp<;>go_num|assumption), (by first|go_simp<;>go_num|assumption), (by first|go_simp<;>go_num|assumption), (by first|go_simp<;>go_num|assumption), (by first|go_simp<;>go_num|assumption)⟩
      · have hke : k = ds.length := by omega
        subst hke
        repeat' (first|(with_reducible first|refine zA ?_|refine zB fun K hK=>?_|refine zC fun K2 hK2=>?_|refine zD ?_|refine zE ?_|refine zF ?_|refine zG ?_|refine zH ?_|refine zI ?_|refine zM ?_|refine zN ?_|refine zO ?_|refine zP ?_|refine zQ ?_|refine zR ?_)|((with_reducible refine zU (hK _ _ ?_));clear hK K)|((with_reducible refine zV ?_ ?_ fun K1 K3 d hdst h1 h3=>?_);rfl;exact yB rfl;cases hdst;go_simp)|((with_reducible refine zW fun K1 K3 h1 h3=>?_);go_simp)|((first|refine h1 ?_|refine h3 ?_);clear h1 h3 K1 K3)|((first|refine zX (fun hb=>h1 ?_) (fun hb=>h3 ?_)|refine zX (fun hb=>h3 ?_) (fun hb=>h1 ?_))<;>(clear h1 h3 K1 K3;(try have hb2:=yC hb);(try have hb2:=yD hb);(try have hb2:=yE hb);(try have hb2:=yF hb);(try have hb2:=yG hb)))|(refine fun (K2:_→AHeap→Prop) hK2=>?_)|((with_reducible refine zY ?_ ?_);decide)|((with_reducible first|refine zZ ?_ (fun K hK=>?_)|refine yA ?_ (fun K hK=>?_));(focus go_simp;done);go_simp;refine hK _ _ ?_;clear hK K)|(go_simp;(try go_bits);refine hK2 _ _ ?_;clear hK2 K2))
        exact ⟨HG, (by first|go_simp<;>go_num|assumption), (by first|go_simp<;>go_num|assumption), (by first|go_simp<;>go_num|assumption), (by first|go_simp<;>go_num|assumption), (by first|go_simp<;>go_num|assumption)⟩
    clear f14 f5 f11 f12 hd f HI23 HD3 HI3 ck0 ck1 ck2 ck3 dk0 dk1 dk2 dk3 ek0 ek1 ek2 ek3 hd03 hd13 hdb3 hd0' hd1 HX2 HX3 HI2 HF1 HL1 HFX HLO HPS HPO
    rintro f G ⟨HG, f14, f5, f11, f12, hd⟩
    obtain ⟨gk0, gk1, gk2, gk3, -⟩ := HCELLS.out _ HG.out
    generalize sureL s c = S1 at HS1 HSB
    generalize maybeL s c = M1 at HS1 HSB
    repeat' (first|(with_reducible first|refine zA ?_|refine zB fun K hK=>?_|refine zC fun K2 hK2=>?_|refine zD ?_|refine zE ?_|refine zF ?_|refine zG ?_|refine zH ?_|refine zI ?_|refine zM ?_|refine zN ?_|refine zO ?_|refine zP ?_|refine zQ ?_|refine zR ?_)|((with_reducible refine zU (hK _ _ ?_));clear hK K)|((with_reducible refine zV ?_ ?_ fun K1 K3 d hdst h1 h3=>?_);rfl;exact yB rfl;cases hdst;go_simp)|((with_reducible refine zW fun K1 K3 h1 h3=>?_);go_simp)|((first|refine h1 ?_|refine h3 ?_);clear h1 h3 K1 K3)|((first|refine zX (fun hb=>h1 ?_) (fun hb=>h3 ?_)|refine zX (fun hb=>h3 ?_) (fun hb=>h1 ?_))<;>(clear h1 h3 K1 K3;(try have hb2:=yC hb);(try have hb2:=yD hb);(try have hb2:=yE hb);(try have hb2:=yF hb);(try have hb2:=yG hb)))|(refine fun (K2:_→AHeap→Prop) hK2=>?_)|((with_reducible refine zY ?_ ?_);decide)|((with_reducible first|refine zZ ?_ (fun K hK=>?_)|refine yA ?_ (fun K hK=>?_));(focus go_simp;done);go_simp;refine hK _ _ ?_;clear hK K)|(go_simp;(try go_bits);(try first | ((with_reducible show CallS _ _ _ _ _ _);refine CallS.mono (HS1.out _ _ HG.out) ?_; rintro _ G2 ⟨⟨pv, mv, rfl, hi1, hi2⟩, hx⟩; (obtain ⟨-, pa, pc, rfl⟩ := hi1.slice); (obtain ⟨-, ma, mc, rfl⟩ := hi2.slice); (have HI1 := Lib.hid hi1); (have HI2 := Lib.hid hi2); (have HG2 := Lib.hid (HG.out.trans hx)); clear hi1 hi2 hx; go_simp));refine hK2 _ _ ?_;clear hK2 K2))
    refine CodeS.loop (fun m f G => ∃ k : Nat, k ≤ s.alts.length ∧ m = s.alts.length - k ∧ f.tmp 35 = .int .i64 k ∧ Hid (Ext G2 G) ∧ f.tmp 14 = .slice (some ⟨db, dof, dsp⟩) ds.length dc ∧ f.tmp 5 = .pointer (some ⟨H.n, 0, none⟩) ∧ f.tmp 11 = .bool true ∧ f.tmp 32 = .slice pa S1.length pc ∧ f.tmp 33 = .slice ma M1.length mc ∧ f.defers = []) s.alts.length ?_ ?_
    · exact ⟨0, by omega, by omega, (by first|go_simp<;>go_num|assumption), Lib.hid (Ext.refl _), (by first|go_simp<;>go_num|assumption), (by first|go_simp<;>go_num|assumption), (by first|go_simp<;>go_num|assumption), (by first|go_simp<;>go_num|assumption), (by first|go_simp<;>go_num|assumption), (by first|go_simp<;>go_num|assumption)⟩
    clear f14 f5 f11 f12 hd f gk0 gk1 gk2 gk3
    rintro m f G ⟨k, hk, rfl, f35, HY, f14, f5, f11, f32, f33, hd⟩
    obtain ⟨-, -, -, gk3, gk4⟩ := HCELLS.out _ (HG2.out.trans HY.out)
    by_cases hlt : k < s.alts.length
    · obtain ⟨b, o, sp, haa, hb, hx6, -⟩ := (HA.out.ext (HX.out.trans (HG2.out.trans HY.out))).at_ hlt
      have hm : s.alts[k] ∈ s.alts := List.getElem_mem hlt
      obtain ⟨e1, e2, e3, -, -⟩ := (err_alts HERR.out).1 _ hm
      obtain ⟨hsb1, hsb2⟩ := HSB.out _ hm
      generalize s.alts[k] = a at hx6 e1 e2 e3 hsb1 hsb2
      clear hm
      obtain ⟨i1, i2, i3, i4, i5, i6⟩ := a
      have hx6' : cellsAt G b (o + k * 6) 6 = some [.int .i64 i1, .int .i64 i2, .int .i64 i3, .int .i64 i4, .int .i64 i5, .int .i64 i6] := hx6
      obtain ⟨u, rfl⟩ : ∃ u : Nat, i4 = u := ⟨i4.toNat, by show i4 = _; simp only at e1; omega⟩
      obtain ⟨t, rfl⟩ : ∃ t : Nat, i5 = t := ⟨i5.toNat, by show i5 = _; simp only at e1 e2; omega⟩
      simp only at e1 e2 e3 hsb1 hsb2
      have hut : u ≤ t := by omega
      have htd : t < ds.length := by have := HDLL.out; omega
      have HB1 := Lib.hid hsb1
      have HB2 := Lib.hid hsb2
      clear hx6 e1 e2 e3 hsb1 hsb2
      subst haa
      have hbn : b < G.n := hb
      repeat' (first|((with_reducible refine stop_for (n := 47) ?_))|(with_reducible first|refine zA ?_|refine zB fun K hK=>?_|refine zC fun K2 hK2=>?_|refine zD ?_|refine zE ?_|refine zF ?_|refine zG ?_|refine zH ?_|refine zI ?_|refine zM ?_|refine zN ?_|refine zO ?_|refine zP ?_|refine zQ ?_|refine zR ?_)|((with_reducible refine zU (hK _ _ ?_));clear hK K)|((with_reducible refine zV ?_ ?_ fun K1 K3 d hdst h1 h3=>?_);rfl;exact yB rfl;cases hdst;go_simp)|((with_reducible refine zW fun K1 K3 h1 h3=>?_);go_simp)|((first|refine h1 ?_|refine h3 ?_);clear h1 h3 K1 K3)|((first|refine zX (fun hb=>h1 ?_) (fun hb=>h3 ?_)|refine zX (fun hb=>h3 ?_) (fun hb=>h1 ?_))<;>(clear h1 h3 K1 K3;(try have hb2:=yC hb);(try have hb2:=yD hb);(try have hb2:=yE hb);(try have hb2:=yF hb);(try have hb2:=yG hb)))|(refine fun (K2:_→AHeap→Prop) hK2=>?_)|((with_reducible refine zY ?_ ?_);decide)|((with_reducible first|refine zZ ?_ (fun K hK=>?_)|refine yA ?_ (fun K hK=>?_));(focus go_simp;done);go_simp;refine hK _ _ ?_;clear hK K)|(go_simp;(try go_bits);refine hK2 _ _ ?_;clear hK2 K2))
      refine ⟨CodeS.cut (fun f G2 => ∃ bb : Bool, Hid (bb = true → i1 ∈ M1) ∧ Hid (bb = false → ¬ i1 ∈ S1) ∧ G2 = G.push (.row [.int .i64 i1, .int .i64 i2, .int .i64 i3, .int .i64 u, .int .i64 t, .int .i64 i6] 61) ∧ f.tmp 37 = .bool bb ∧ f.tmp 35 = .int .i64 k ∧ f.tmp 36 = .pointer (some ⟨G.n, 0, none⟩) ∧ f.tmp 14 = .slice (some ⟨db, dof, dsp⟩) ds.length dc ∧ f.tmp 5 = .pointer (some ⟨H.n, 0, none⟩) ∧ f.tmp 11 = .bool true ∧ f.tmp 32 = .slice pa S1.length pc ∧ f.tmp 33 = .slice ma M1.length mc ∧ f.defers = []) ?_ ?_⟩
      · repeat' (first|(with_reducible first|refine zA ?_|refine zB fun K hK=>?_|refine zC fun K2 hK2=>?_|refine zD ?_|refine zE ?_|refine zF ?_|refine zG ?_|refine zH ?_|refine zI ?_|refine zM ?_|refine zN ?_|refine zO ?_|refine zP ?_|refine zQ ?_|refine zR ?_)|((with_reducible refine zU (hK _ _ ?_));clear hK K)|((with_reducible refine zV ?_ ?_ fun K1 K3 d hdst h1 h3=>?_);rfl;exact yB rfl;cases hdst;go_simp)|((with_reducible refine zW fun K1 K3 h1 h3=>?_);go_simp)|((first|refine h1 ?_|refine h3 ?_);clear h1 h3 K1 K3)|((first|refine zX (fun hb=>h1 ?_) (fun hb=>h3 ?_)|refine zX (fun hb=>h3 ?_) (fun hb=>h1 ?_))<;>(clear h1 h3 K1 K3;(try have hb2:=yC hb);(try have hb2:=yD hb);(try have hb2:=yE hb);(try have hb2:=yF hb);(try have hb2:=yG hb)))|(refine fun (K2:_→AHeap→Prop) hK2=>?_)|((with_reducible refine zY ?_ ?_);decide)|((with_reducible first|refine zZ ?_ (fun K hK=>?_)|refine yA ?_ (fun K hK=>?_));(focus go_simp;done);go_simp;refine hK _ _ ?_;clear hK K)|(go_simp;(try go_bits);refine hK2 _ _ ?_;clear hK2 K2))
        refine CodeS.loop (fun m f G2 => ∃ (mm : Nat) (bb : Bool), u ≤ mm ∧ mm ≤ t + 1 ∧ m = t + 1 - mm ∧ Hid (bb = true → ∃ x : Nat, (u : Int) ≤ x ∧ (x : Int) ≤ t ∧ i3 ≤ ds.getD x 0) ∧ Hid (bb = false → ∀ x : Nat, (u : Int) ≤ x → x < mm → ds.getD x 0 < i3) ∧ G2 = G.push (.row [.int .i64 i1, .int .i64 i2, .int .i64 i3, .int .i64 u, .int .i64 t, .int .i64 i6] 61) ∧ f.tmp 38 = .int .i64 mm ∧ f.tmp 37 = .bool bb ∧ f.tmp 35 = .int .i64 k ∧ f.tmp 36 = .pointer (some ⟨G.n, 0, none⟩) ∧ f.tmp 14 = .slice (some ⟨db, dof, dsp⟩) ds.length dc ∧ f.tmp 5 = .pointer (some ⟨H.n, 0, none⟩) ∧ f.tmp 11 = .bool true ∧ f.tmp 32 = .slice pa S1.length pc ∧ f.tmp 33 = .slice ma M1.length mc ∧ f.defers = []) (t + 1 - u) ?_ ?_
        · exact ⟨u, false, Nat.le_refl _, by omega, by omega, Lib.hid (fun h => by cases h), Lib.hid (fun _ x h1 h2 => by omega), rfl, (by first|go_simp<;>go_num|assumption), (by first|go_simp<;>go_num|assumption), (by first|go_simp<;>go_num|assumption), (by first|go_simp<;>go_num|assumption), (by first|go_simp<;>go_num|assumption), (by first|go_simp<;>go_num|assumption), (by first|go_simp<;>go_num|assumption), (by first|go_simp<;>go_num|assumption), (by first|go_simp<;>go_num|assumption), (by first|go_simp<;>go_num|assumption)⟩
        clear f35 f14 f5 f11 f32 f33 hd f
        rintro m f _ ⟨mm, bb, hum, hmt, rfl, HT1, HT2, rfl, f38, f37, f35, f36, f14, f5, f11, f32, f33, hd⟩
        by_cases hlt2 : mm ≤ t
        · obtain ⟨_, _, _, h9, -, hdk⟩ := HDI.out.at_ (show mm < ds.length by omega)
          cases h9
          have hyg : ds.getD mm 0 = ds[mm]'(by omega) := by simp [List.getD_eq_getElem?_getD, show mm < ds.length by omega]
          have hdk' := ((((HG2.out.trans HY.out).push' (.row [.int .i64 i1, .int .i64 i2, .int .i64 i3, .int .i64 u, .int .i64 t, .int .i64 i6] 61)).cellAt hdb)).trans hdk
          have hdbG : db < G.n := Nat.lt_of_lt_of_le hdb (HG2.out.trans HY.out).n
          clear hdk
          have hmi : (mm : Int) < (ds.length : Int) := by omega
          generalize ds[mm]'(by omega) = y at hdk' hyg
          have HYG := Lib.hid hyg
          clear hyg
          cases bb
          · repeat' (first|(with_reducible first|refine zA ?_|refine zB fun K hK=>?_|refine zC fun K2 hK2=>?_|refine zD ?_|refine zE ?_|refine zF ?_|refine zG ?_|refine zH ?_|refine zI ?_|refine zM ?_|refine zN ?_|refine zO ?_|refine zP ?_|refine zQ ?_|refine zR ?_)|((with_reducible refine zU (hK _ _ ?_));clear hK K)|((with_reducible refine zV ?_ ?_ fun K1 K3 d hdst h1 h3=>?_);rfl;exact yB rfl;cases hdst;go_simp)|((with_reducible refine zW fun K1 K3 h1 h3=>?_);go_simp)|((first|refine h1 ?_|refine h3 ?_);clear h1 h3 K1 K3)|((first|refine zX (fun hb=>h1 ?_) (fun hb=>h3 ?_)|refine zX (fun hb=>h3 ?_) (fun hb=>h1 ?_))<;>(clear h1 h3 K1 K3;(try have hb2:=yC hb);(try have hb2:=yD hb);(try have hb2:=yE hb);(try have hb2:=yF hb);(try have hb2:=yG hb)))|(refine fun (K2:_→AHeap→Prop) hK2=>?_)|((with_reducible refine zY ?_ ?_);decide)|((with_reducible first|refine zZ ?_ (fun K hK=>?_)|refine yA ?_ (fun K hK=>?_));(focus go_simp;done);go_simp;refine hK _ _ ?_;clear hK K)|((with_reducible refine yH mixed rfl ?_ 20 fun K0 hK0=>?_);kernel_rfl)|(with_reducible first|exact yI|exact yJ|refine yK ?_|refine yL ?_|refine yM ?_)|((with_reducible first|refine yN ?_ ?_|refine yO ?_ ?_|refine yP ?_ ?_);rfl)|((with_reducible refine yQ ?_ ?_);rfl;refine hK0 _ _ ?_;clear hK0 K0)|((with_reducible refine yR ?_ ?_ ?_ ?_);rfl;rfl;rfl)|((with_reducible refine yS ?_ ?_ ?_ fun K2 hK2=>?_);rfl;rfl;exact yB rfl)|((with_reducible refine yT ?_ ?_ ?_ ?_ fun K1 K3 d hdst h1 h3=>?_);rfl;rfl;rfl;exact yB rfl;cases hdst;go_simp)|((with_reducible refine yU ?_ ?_ ?_ ?_ fun K1 K3 d hdst h1 h3=>?_);rfl;rfl;rfl;exact yB rfl;cases hdst;go_simp)|((with_reducible refine yV ?_ ?_ (fun K2 hK2=>?_) ?_);rfl;exact yB rfl)|((with_reducible refine yW ?_ ?_ ?_ ?_ (fun K2 hK2=>?_) ?_);rfl;exact yB rfl;rfl;(focus go_simp;done))|((with_reducible refine yX ?_ ?_ ?_ (fun K2 hK2=>?_) ?_);rfl;rfl;exact yB rfl)|((with_reducible refine yY ?_ ?_ (fun K2 hK2=>?_) ?_);rfl;rfl)|((with_reducible refine yZ ?_ ?_);(first|rfl|(dsimp only;decide +kernel)))|((with_reducible refine xA ?_ ?_);(focus go_simp;done))|(go_simp;(try go_bits);(first|(refine hK2 _ _ ?_ ?_<;>clear hK2 K2)|(refine hK2 _ _ ?_;clear hK2 K2))))
            refine Post.round_normal ⟨t + 1 - (mm + 1), by omega, mm + 1, decide (i3 ≤ y), by omega, by omega, rfl, Lib.hid (fun h => ⟨mm, by omega, by omega, by rw [HYG.out]; simpa using h⟩), Lib.hid (fun h x h1 h2 => ?_), rfl, (by first|go_simp<;>go_num|assumption), (by first|go_simp<;>go_num|assumption), (by first|go_simp<;>go_num|assumption), (by first|go_simp<;>go_num|assumption), (by first|go_simp<;>go_num|assumption), (by first|go_simp<;>go_num|assumption), (by first|go_simp<;>go_num|assumption), (by first|go_simp<;>go_num|assumption), (by first|go_simp<;>go_num|assumption), (by first|go_simp<;>go_num|assumption)⟩
            by_cases hxm : x = mm
            · subst hxm; rw [HYG.out]; simpa using h
            · exact HT2.out rfl x h1 (by omega)
          · repeat' (first|(with_reducible first|refine zA ?_|refine zB fun K hK=>?_|refine zC fun K2 hK2=>?_|refine zD ?_|refine zE ?_|refine zF ?_|refine zG ?_|refine zH ?_|refine zI ?_|refine zM ?_|refine zN ?_|refine zO ?_|refine zP ?_|refine zQ ?_|refine zR ?_)|((with_reducible refine zU (hK _ _ ?_));clear hK K)|((with_reducible refine zV ?_ ?_ fun K1 K3 d hdst h1 h3=>?_);rfl;exact yB rfl;cases hdst;go_simp)|((with_reducible refine zW fun K1 K3 h1 h3=>?_);go_simp)|((first|refine h1 ?_|refine h3 ?_);clear h1 h3 K1 K3)|((first|refine zX (fun hb=>h1 ?_) (fun hb=>h3 ?_)|refine zX (fun hb=>h3 ?_) (fun hb=>h1 ?_))<;>(clear h1 h3 K1 K3;(try have hb2:=yC hb);(try have hb2:=yD hb);(try have hb2:=yE hb);(try have hb2:=yF hb);(try have hb2:=yG hb)))|(refine fun (K2:_→AHeap→Prop) hK2=>?_)|((with_reducible refine zY ?_ ?_);decide)|((with_reducible first|refine zZ ?_ (fun K hK=>?_)|refine yA ?_ (fun K hK=>?_));(focus go_simp;done);go_simp;refine hK _ _ ?_;clear hK K)|((with_reducible refine yH mixed rfl ?_ 20 fun K0 hK0=>?_);kernel_rfl)|(with_reducible first|exact yI|exact yJ|refine yK ?_|refine yL ?_|refine yM ?_)|((with_reducible first|refine yN ?_ ?_|refine yO ?_ ?_|refine yP ?_ ?_);rfl)|((with_reducible refine yQ ?_ ?_);rfl;refine hK0 _ _ ?_;clear hK0 K0)|((with_reducible refine yR ?_ ?_ ?_ ?_);rfl;rfl;rfl)|((with_reducible refine yS ?_ ?_ ?_ fun K2 hK2=>?_);rfl;rfl;exact yB rfl)|((with_reducible refine yT ?_ ?_ ?_ ?_ fun K1 K3 d hdst h1 h3=>?_);rfl;rfl;rfl;exact yB rfl;cases hdst;go_simp)|((with_reducible refine yU ?_ ?_ ?_ ?_ fun K1 K3 d hdst h1 h3=>?_);rfl;rfl;rfl;exact yB rfl;cases hdst;go_simp)|((with_reducible refine yV ?_ ?_ (fun K2 hK2=>?_) ?_);rfl;exact yB rfl)|((with_reducible refine yW ?_ ?_ ?_ ?_ (fun K2 hK2=>?_) ?_);rfl;exact yB rfl;rfl;(focus go_simp;done))|((with_reducible refine yX ?_ ?_ ?_ (fun K2 hK2=>?_) ?_);rfl;rfl;exact yB rfl)|((with_reducible refine yY ?_ ?_ (fun K2 hK2=>?_) ?_);rfl;rfl)|((with_reducible refine yZ ?_ ?_);(first|rfl|(dsimp only;decide +kernel)))|((with_reducible refine xA ?_ ?_);(focus go_simp;done))|(go_simp;(try go_bits);(first|(refine hK2 _ _ ?_ ?_<;>clear hK2 K2)|(refine hK2 _ _ ?_;clear hK2 K2))))
            exact Post.round_normal ⟨t + 1 - (mm + 1), by omega, mm + 1, true, by omega, by omega, rfl, HT1, Lib.hid (fun h => by cases h), rfl, (by first|go_simp<;>go_num|assumption), (by first|go_simp<;>go_num|assumption), (by first|go_simp<;>go_num|assumption), (by first|go_simp<;>go_num|assumption), (by first|go_simp<;>go_num|assumption), (by first|go_simp<;>go_num|assumption), (by first|go_simp<;>go_num|assumption), (by first|go_simp<;>go_num|assumption), (by first|go_simp<;>go_num|assumption), (by first|go_simp<;>go_num|assumption)⟩
        · repeat' (first|(with_reducible first|refine zA ?_|refine zB fun K hK=>?_|refine zC fun K2 hK2=>?_|refine zD ?_|refine zE ?_|refine zF ?_|refine zG ?_|refine zH ?_|refine zI ?_|refine zM ?_|refine zN ?_|refine zO ?_|refine zP ?_|refine zQ ?_|refine zR ?_)|((with_reducible refine zU (hK _ _ ?_));clear hK K)|((with_reducible refine zV ?_ ?_ fun K1 K3 d hdst h1 h3=>?_);rfl;exact yB rfl;cases hdst;go_simp)|((with_reducible refine zW fun K1 K3 h1 h3=>?_);go_simp)|((first|refine h1 ?_|refine h3 ?_);clear h1 h3 K1 K3)|((first|refine zX (fun hb=>h1 ?_) (fun hb=>h3 ?_)|refine zX (fun hb=>h3 ?_) (fun hb=>h1 ?_))<;>(clear h1 h3 K1 K3;(try have hb2:=yC hb);(try have hb2:=yD hb);(try have hb2:=yE hb);(try have hb2:=yF hb);(try have hb2:=yG hb)))|(refine fun (K2:_→AHeap→Prop) hK2=>?_)|((with_reducible refine zY ?_ ?_);decide)|((with_reducible first|refine zZ ?_ (fun K hK=>?_)|refine yA ?_ (fun K hK=>?_));(focus go_simp;done);go_simp;refine hK _ _ ?_;clear hK K)|(go_simp;(try go_bits);refine hK2 _ _ ?_;clear hK2 K2))
          exact ⟨bb, Lib.hid (fun h => HB1.out (HT1.out h)), Lib.hid (fun h => HB2.out fun x h1 h2 => HT2.out h x h1 (by omega)), rfl, (by first|go_simp<;>go_num|assumption), (by first|go_simp<;>go_num|assumption), (by first|go_simp<;>go_num|assumption), (by first|go_simp<;>go_num|assumption), (by first|go_simp<;>go_num|assumption), (by first|go_simp<;>go_num|assumption), (by first|go_simp<;>go_num|assumption), (by first|go_simp<;>go_num|assumption), (by first|go_simp<;>go_num|assumption)⟩
      clear f35 f14 f5 f11 f32 f33 hd f HB1 HB2
      rintro f _ ⟨bb, HB1, HB2, rfl, f37, f35, f36, f14, f5, f11, f32, f33, hd⟩
      have hk8a : G.n < (G.push (.row [.int .i64 i1, .int .i64 i2, .int .i64 i3, .int .i64 u, .int .i64 t, .int .i64 i6] 61)).n := by rw [AHeap.n_push]; omega
      have HM := Lib.hid (fun (loops : List (Nat × LInfo)) => has_s (loops := loops) (w := i1) (HI2.out.ext (HY.out.push' (.row [.int .i64 i1, .int .i64 i2, .int .i64 i3, .int .i64 u, .int .i64 t, .int .i64 i6] 61))))
      have HS := Lib.hid (fun (loops : List (Nat × LInfo)) => has_s (loops := loops) (w := i1) (HI1.out.ext (HY.out.push' (.row [.int .i64 i1, .int .i64 i2, .int .i64 i3, .int .i64 u, .int .i64 t, .int .i64 i6] 61))))
      cases bb
      · rw [decide_eq_false (HB2.out rfl)] at HS
        repeat' (first|(with_reducible first|refine zA ?_|refine zB fun K hK=>?_|refine zC fun K2 hK2=>?_|refine zD ?_|refine zE ?_|refine zF ?_|refine zG ?_|refine zH ?_|refine zI ?_|refine zM ?_|refine zN ?_|refine zO ?_|refine zP ?_|refine zQ ?_|refine zR ?_)|((with_reducible refine zU (hK _ _ ?_));clear hK K)|((with_reducible refine zV ?_ ?_ fun K1 K3 d hdst h1 h3=>?_);rfl;exact yB rfl;cases hdst;go_simp)|((with_reducible refine zW fun K1 K3 h1 h3=>?_);go_simp)|((first|refine h1 ?_|refine h3 ?_);clear h1 h3 K1 K3)|((first|refine zX (fun hb=>h1 ?_) (fun hb=>h3 ?_)|refine zX (fun hb=>h3 ?_) (fun hb=>h1 ?_))<;>(clear h1 h3 K1 K3;(try have hb2:=yC hb);(try have hb2:=yD hb);(try have hb2:=yE hb);(try have hb2:=yF hb);(try have hb2:=yG hb)))|(refine fun (K2:_→AHeap→Prop) hK2=>?_)|((with_reducible refine zY ?_ ?_);decide)|((with_reducible first|refine zZ ?_ (fun K hK=>?_)|refine yA ?_ (fun K hK=>?_));(focus go_simp;done);go_simp;refine hK _ _ ?_;clear hK K)|(go_simp;(try go_bits);(try first | ((with_reducible show CallS _ _ _ _ _ _);refine CallS.mono (HS.out _) ?_; rintro _ _ ⟨rfl, h9⟩; rw [h9]; clear h9; go_simp));refine hK2 _ _ ?_;clear hK2 K2))
        exact Post.round_normal ⟨s.alts.length - (k + 1), by omega, k + 1, by omega, rfl, (by first|go_simp<;>go_num|assumption), Lib.hid (HY.out.push' _), (by first|go_simp<;>go_num|assumption), (by first|go_simp<;>go_num|assumption), (by first|go_simp<;>go_num|assumption), (by first|go_simp<;>go_num|assumption), (by first|go_simp<;>go_num|assumption), (by first|go_simp<;>go_num|assumption)⟩
      · rw [decide_eq_true (HB1.out rfl)] at HM
        repeat' (first|(with_reducible first|refine zA ?_|refine zB fun K hK=>?_|refine zC fun K2 hK2=>?_|refine zD ?_|refine zE ?_|refine zF ?_|refine zG ?_|refine zH ?_|refine zI ?_|refine zM ?_|refine zN ?_|refine zO ?_|refine zP ?_|refine zQ ?_|refine zR ?_)|((with_reducible refine zU (hK _ _ ?_));clear hK K)|((with_reducible refine zV ?_ ?_ fun K1 K3 d hdst h1 h3=>?_);rfl;exact yB rfl;cases hdst;go_simp)|((with_reducible refine zW fun K1 K3 h1 h3=>?_);go_simp)|((first|refine h1 ?_|refine h3 ?_);clear h1 h3 K1 K3)|((first|refine zX (fun hb=>h1 ?_) (fun hb=>h3 ?_)|refine zX (fun hb=>h3 ?_) (fun hb=>h1 ?_))<;>(clear h1 h3 K1 K3;(try have hb2:=yC hb);(try have hb2:=yD hb);(try have hb2:=yE hb);(try have hb2:=yF hb);(try have hb2:=yG hb)))|(refine fun (K2:_→AHeap→Prop) hK2=>?_)|((with_reducible refine zY ?_ ?_);decide)|((with_reducible first|refine zZ ?_ (fun K hK=>?_)|refine yA ?_ (fun K hK=>?_));(focus go_simp;done);go_simp;refine hK _ _ ?_;clear hK K)|(go_simp;(try go_bits);(try first | ((with_reducible show CallS _ _ _ _ _ _);refine CallS.mono (HM.out _) ?_; rintro _ _ ⟨rfl, h9⟩; rw [h9]; clear h9; go_simp));refine hK2 _ _ ?_;clear hK2 K2))
        exact Post.round_normal ⟨s.alts.length - (k + 1), by omega, k + 1, by omega, rfl, (by first|go_simp<;>go_num|assumption), Lib.hid (HY.out.push' _), (by first|go_simp<;>go_num|assumption), (by first|go_simp<;>go_num|assumption), (by first|go_simp<;>go_num|assumption), (by first|go_simp<;>go_num|assumption), (by first|go_simp<;>go_num|assumption), (by first|go_simp<;>go_num|assumption)⟩
    · repeat' (first|(with_reducible first|refine zA ?_|refine zB fun K hK=>?_|refine zC fun K2 hK2=>?_|refine zD ?_|refine zE ?_|refine zF ?_|refine zG ?_|refine zH ?_|refine zI ?_|refine zM ?_|refine zN ?_|refine zO ?_|refine zP ?_|refine zQ ?_|refine zR ?_)|((with_reducible refine zU (hK _ _ ?_));clear hK K)|((with_reducible refine zV ?_ ?_ fun K1 K3 d hdst h1 h3=>?_);rfl;exact yB rfl;cases hdst;go_simp)|((with_reducible refine zW fun K1 K3 h1 h3=>?_);go_simp)|((first|refine h1 ?_|refine h3 ?_);clear h1 h3 K1 K3)|((first|refine zX (fun hb=>h1 ?_) (fun hb=>h3 ?_)|refine zX (fun hb=>h3 ?_) (fun hb=>h1 ?_))<;>(clear h1 h3 K1 K3;(try have hb2:=yC hb);(try have hb2:=yD hb);(try have hb2:=yE hb);(try have hb2:=yF hb);(try have hb2:=yG hb)))|(refine fun (K2:_→AHeap→Prop) hK2=>?_)|((with_reducible refine zY ?_ ?_);decide)|((with_reducible first|refine zZ ?_ (fun K hK=>?_)|refine yA ?_ (fun K hK=>?_));(focus go_simp;done);go_simp;refine hK _ _ ?_;clear hK K)|(go_simp;(try go_bits);refine hK2 _ _ ?_;clear hK2 K2))
      rfl
  · have hez : (err s != 0) = true := by simpa using herr
    repeat' (first|(with_reducible first|refine zA ?_|refine zB fun K hK=>?_|refine zC fun K2 hK2=>?_|refine zD ?_|refine zE ?_|refine zF ?_|refine zG ?_|refine zH ?_|refine zI ?_|refine zM ?_|refine zN ?_|refine zO ?_|refine zP ?_|refine zQ ?_|refine zR ?_)|((with_reducible refine zU (hK _ _ ?_));clear hK K)|((with_reducible refine zV ?_ ?_ fun K1 K3 d hdst h1 h3=>?_);rfl;exact yB rfl;cases hdst;go_simp)|((with_reducible refine zW fun K1 K3 h1 h3=>?_);go_simp)|((first|refine h1 ?_|refine h3 ?_);clear h1 h3 K1 K3)|((first|refine zX (fun hb=>h1 ?_) (fun hb=>h3 ?_)|refine zX (fun hb=>h3 ?_) (fun hb=>h1 ?_))<;>(clear h1 h3 K1 K3;(try have hb2:=yC hb);(try have hb2:=yD hb);(try have hb2:=yE hb);(try have hb2:=yF hb);(try have hb2:=yG hb)))|(refine fun (K2:_→AHeap→Prop) hK2=>?_)|((with_reducible refine zY ?_ ?_);decide)|((with_reducible first|refine zZ ?_ (fun K hK=>?_)|refine yA ?_ (fun K hK=>?_));(focus go_simp;done);go_simp;refine hK _ _ ?_;clear hK K)|(go_simp;(try go_bits);(try first |((with_reducible show CallS _ _ _ _ _ _);first|(refine CallS.mono head_s ?_; rintro _ _ ⟨rfl, h9⟩; rw [h9]; clear h9; go_simp)|(refine CallS.mono (few_s (s := s) (HV.out.ext HX1.out)) ?_; rintro _ _ ⟨rfl, h9⟩; rw [h9, HFW.out]; clear h9; go_simp)|(refine CallS.mono (check_s (s := s) (HV.out.ext HX1.out)) ?_; rintro _ _ ⟨rfl, h9⟩; rw [h9]; clear h9; go_simp)));refine hK2 _ _ ?_;clear hK2 K2))
    all_goals rfl
end Go.Proofs.Try
namespace Go.Proofs.Try
open Go.ChangeShapes Go.WideShapes Go.ChangeAt Go.RowKit Go.Joins Go.Deep Go.Am
set_option maxRecDepth 100000


section
variable {H : Type} {enc : TypeId × Value → H} {P : Program} {w : World} {base : Nat} {spare : Nat → Bool} {held : Bool}
theorem open_slice_fields {t e : TypeId} {fs : Array Field} {fuel : Nat} {cs : List Value} {x : DataW H × List MemPlace} (ht : P.underlying t = some (.slice e)) (he : P.underlying e = some (.struct fs))
    (hone : oneCellFields P fs = true) (hC : P.cellsOf e = fs.size) (h : DataW.trod enc P w base spare held fuel t cs = some x) :
    (cs = [.slice none 0 0] ∧ x = (.nil, [])) ∨
    ∃ (a : Addr) (len cap m : Nat) (D : Nat → DataW H) (Pl : Nat → List MemPlace), cs = [.slice (some a) len cap] ∧ base ≤ a.block ∧ len ≤ cap ∧ cap ≤ maxLen ∧ m = (if spare a.block then cap else len) ∧
      x = (.slice ((List.range len).map D) ((List.range (m - len)).map fun j => D (len + j)), MemPlace.row a (m * fs.size) ++ (List.range m).flatMap Pl) ∧
      ∀ i, i < m → ∃ (ys : List (DataW H × List MemPlace)) (n : Nat), D i = .agg (ys.map (·.1)) ∧ Pl i = ys.flatMap (·.2) ∧ ys.length = fs.size ∧
        ∀ (j : Nat) (f : Field), fs[j]? = some f → ∃ (v : Value) (y : DataW H × List MemPlace), w.cell? (a.add (i * fs.size + j)) = some v ∧ ys[j]? = some y ∧ DataW.trod enc P w base spare held n f.type [v] = some y := by
  rcases open_slice ht h with h0 | ⟨a, len, cap, m, n, D, Pl, hcs, hb, hl, hm, hmm, hx, hi⟩
  · exact .inl h0
  · refine .inr ⟨a, len, cap, m, D, Pl, hcs, hb, hl, hm, hmm, by rw [hC] at hx; exact hx, fun i him => ?_⟩
    obtain ⟨cs', hc, ht'⟩ := hi i him
    rw [hC] at hc
    obtain ⟨ys, n', hn', hy, hlen, hyl, hf⟩ := DataW.trod_struct he ht'
    obtain ⟨_, hcl, hat⟩ := World.cells?_some hc
    simp only [Prod.mk.injEq] at hy
    refine ⟨ys, n', hy.1, hy.2, hyl, fun j f hj => ?_⟩
    obtain ⟨ho, hk⟩ := hone_of hone j f hj
    have hjl : j < fs.size := (Array.getElem?_eq_some_iff.1 hj).1
    have hcell := hat j hjl
    have hv : cs'[j]? = some (cs'[j]'(by omega)) := List.getElem?_eq_getElem (by omega)
    have h1 := hf j f hj
    rw [ho, hk] at h1
    have hone' : (cs'.drop j).take 1 = [cs'[j]'(by omega)] := by
      rw [List.drop_eq_getElem_cons (by omega)]
      rfl
    rw [hone'] at h1
    have hys : ys[j]? = some (ys[j]'(by omega)) := List.getElem?_eq_getElem (by omega)
    refine ⟨_, _, ?_, hys, h1.trans hys⟩
    rw [← Go.Deep.add_add, hcell, hv]
end
theorem add_at (b o j : Nat) : (⟨b, o, none⟩ : Addr).add j = ⟨b, o + j, none⟩ := by
  unfold Addr.add
  split
  · rename_i h; subst h; rfl
  · rfl
theorem cell_lt {w : World} {p : Addr} {v : Value} (h : w.cell? p = some v) : p.block < w.heap.size := by
  rcases Nat.lt_or_ge p.block w.heap.size with hlt | hge
  · exact hlt
  · unfold World.cell? at h
    rw [Array.getElem?_eq_none hge] at h
    cases h
theorem cell_spot {w : World} {p : Addr} {v : Value} (h : w.cell? p = some v) : p.spot = none := by
  unfold World.cell? at h
  split at h
  · split at h
    · cases h
    · rename_i h0; simpa using h0
  · cases h

theorem slice_abs {w : World} {a : Addr} {len cap size d : Nat} {us : List Value} (hl : len ≤ cap) (hc : len ≤ 9223372036854775807) (hus : us.length = len * size) (hsz : 0 < size) (hplain : ∀ (j : Nat) (u : Value), us[j]? = some u → absV w.heap.size 8 u = u) (hcell : ∀ (j : Nat) (u : Value), us[j]? = some u → w.cell? (a.add j) = some u) : Cells (absH w) (absV w.heap.size (d + 1) (.slice (some a) len cap)) size len us := by
  by_cases h0 : len = 0
  · subst h0
    simp only [absV]
    split
    · exact ⟨hus, hc, _, _, rfl, by omega⟩
    · rw [if_pos trivial]; exact ⟨hus, hc, _, _, rfl, by omega⟩
  · have hpos : 0 < us.length := by rw [hus]; exact Nat.mul_pos (by omega) hsz
    have h1 := hcell 0 _ (List.getElem?_eq_getElem hpos)
    have e0 : a.add 0 = a := by unfold Addr.add; rw [if_pos rfl]
    rw [e0] at h1
    have hsp := cell_spot h1
    have hlt := cell_lt h1
    obtain ⟨b, o, sp⟩ := a
    simp only at hsp hlt
    subst hsp
    simp only [absV]
    rw [if_pos ⟨trivial, hlt, hl⟩]
    refine ⟨hus, hc, _, _, rfl, fun _ => ⟨b, o, none, rfl, by rw [absH_n]; exact hlt, fun j u hu => ?_⟩⟩
    have h2 := hcell j u hu
    rw [add_at] at h2
    rw [abs_cell h2, hplain j u hu]

section
variable {H : Type} {enc : TypeId × Value → H} {w : World}
theorem ints_abs {fuel d : Nat} {v : Value} {x : DataW H × List MemPlace} (h : DataW.trod enc Try.prog w 0 (fun _ => true) true fuel 22 [v] = some x) : ∃ xs, Ints (absH w) (absV w.heap.size (d + 1) v) xs := by
  rcases open_ints Try.underlying22 Try.underlying3 (by kernel_rfl) h with ⟨hcs, _⟩ | ⟨a, l, c, zs, hcs, _, hl, hm, hz, _, hcell, _⟩
  · injection hcs with hcs _
    subst hcs
    exact ⟨[], rfl, by simp, none, 0, rfl, by simp⟩
  · injection hcs with hcs _
    subst hcs
    simp only [if_true] at hz
    have hlen : (zs.take l).length = l := by rw [List.length_take]; omega
    refine ⟨zs.take l, ?_⟩
    unfold Ints
    rw [hlen]
    refine slice_abs hl (by unfold maxLen at hm; omega) (by rw [List.length_map, hlen]; omega) (by decide) (fun j u hu => ?_) (fun j u hu => ?_)
    · rw [List.getElem?_map] at hu
      obtain ⟨z, _, rfl⟩ := Option.map_eq_some_iff.1 hu
      rfl
    · rw [List.getElem?_map] at hu
      obtain ⟨z, hz1, rfl⟩ := Option.map_eq_some_iff.1 hu
      rw [List.getElem?_take] at hz1
      split at hz1
      · have hj : j < zs.length := (List.getElem?_eq_some_iff.1 hz1).1
        rw [hcell j hj, List.getD_eq_getElem?_getD, hz1]
        rfl
      · cases hz1

theorem alts_abs {fuel d : Nat} {v : Value} {x : DataW H × List MemPlace} (h : DataW.trod enc Try.prog w 0 (fun _ => true) true fuel 23 [v] = some x) : ∃ l, Alts (absH w) (absV w.heap.size (d + 1) v) l := by
  rcases open_slice_fields Try.underlying23 Try.underlying61 (by kernel_rfl) (by kernel_rfl) h with ⟨hcs, _⟩ | ⟨a, len, cap, m, D, Pl, hcs, _, hl, hm, hmm, _, hf⟩
  · injection hcs with hcs _
    subst hcs
    exact ⟨[], rfl, by simp, none, 0, rfl, by simp⟩
  · injection hcs with hcs _
    subst hcs
    simp only [if_true] at hmm
    have hq : ∀ i, i < len → ∃ q : Alt, ∀ j u, q.cells[j]? = some u → w.cell? (a.add (i * 6 + j)) = some u := by
      intro i hi
      obtain ⟨ys, n, _, _, _, hj⟩ := hf i (by omega)
      obtain ⟨v0, y0, hc0, _, ht0⟩ := hj 0 _ rfl
      obtain ⟨v1, y1, hc1, _, ht1⟩ := hj 1 _ rfl
      obtain ⟨v2, y2, hc2, _, ht2⟩ := hj 2 _ rfl
      obtain ⟨v3, y3, hc3, _, ht3⟩ := hj 3 _ rfl
      obtain ⟨v4, y4, hc4, _, ht4⟩ := hj 4 _ rfl
      obtain ⟨v5, y5, hc5, _, ht5⟩ := hj 5 _ rfl
      obtain ⟨z0, hz0, _, _⟩ := DataW.trod_int Try.underlying3 ht0
      obtain ⟨z1, hz1, _, _⟩ := DataW.trod_int Try.underlying3 ht1
      obtain ⟨z2, hz2, _, _⟩ := DataW.trod_int Try.underlying3 ht2
      obtain ⟨z3, hz3, _, _⟩ := DataW.trod_int Try.underlying3 ht3
      obtain ⟨z4, hz4, _, _⟩ := DataW.trod_int Try.underlying3 ht4
      obtain ⟨z5, hz5, _, _⟩ := DataW.trod_int Try.underlying3 ht5
      injection hz0 with hz0 _
      injection hz1 with hz1 _
      injection hz2 with hz2 _
      injection hz3 with hz3 _
      injection hz4 with hz4 _
      injection hz5 with hz5 _
      subst hz0 hz1 hz2 hz3 hz4 hz5
      refine ⟨⟨z0, z1, z2, z3, z4, z5⟩, fun j u hu => ?_⟩
      match j, hu with
      | 0, hu => cases hu; exact hc0
      | 1, hu => cases hu; exact hc1
      | 2, hu => cases hu; exact hc2
      | 3, hu => cases hu; exact hc3
      | 4, hu => cases hu; exact hc4
      | 5, hu => cases hu; exact hc5
      | j + 6, hu => simp [Alt.cells] at hu
    obtain ⟨f, hf'⟩ := Classical.skolem.1 (fun i => show ∃ q : Alt, i < len → ∀ j u, q.cells[j]? = some u → w.cell? (a.add (i * 6 + j)) = some u by
      by_cases hi : i < len
      · obtain ⟨q, hq⟩ := hq i hi; exact ⟨q, fun _ => hq⟩
      · exact ⟨⟨0, 0, 0, 0, 0, 0⟩, fun h => absurd h hi⟩)
    have hlen : ((List.range len).map f).length = len := by simp
    refine ⟨(List.range len).map f, ?_⟩
    unfold Alts
    rw [hlen]
    have hget : ∀ j u, (altCells ((List.range len).map f))[j]? = some u → ∃ k i, k < len ∧ j = k * 6 + i ∧ (f k).cells[i]? = some u := by
      intro j u hu
      have hj : j < len * 6 := by
        have := (List.getElem?_eq_some_iff.1 hu).1
        rw [altCells_length, hlen] at this; exact this
      have hk : j / 6 < len := by omega
      have hi : j % 6 < 6 := Nat.mod_lt _ (by decide)
      have hcl : (f (j / 6)).cells.length = 6 := rfl
      have h1 := altCells_get ((List.range len).map f) (j / 6) (by rw [hlen]; exact hk) (j % 6) ((f (j / 6)).cells[j % 6]'(by rw [hcl]; exact hi)) (by simp)
      have e : j / 6 * 6 + j % 6 = j := by omega
      rw [e, hu] at h1
      refine ⟨j / 6, j % 6, hk, e.symm, ?_⟩
      rw [List.getElem?_eq_getElem (by rw [hcl]; exact hi)]
      exact h1.symm ▸ rfl
    refine slice_abs hl (by unfold maxLen at hm; omega) (by rw [altCells_length, hlen]) (by decide) (fun j u hu => ?_) (fun j u hu => ?_)
    · obtain ⟨k, i, hk, rfl, hi⟩ := hget j u hu
      match i, hi with
      | 0, hi => cases hi; rfl
      | 1, hi => cases hi; rfl
      | 2, hi => cases hi; rfl
      | 3, hi => cases hi; rfl
      | 4, hi => cases hi; rfl
      | 5, hi => cases hi; rfl
      | i + 6, hi => simp [Alt.cells] at hi
    · obtain ⟨k, i, hk, rfl, hi⟩ := hget j u hu
      exact hf' k hk i u hi
end

theorem ownOne : ownKnob Try.prog.godebug = none := by kernel_rfl
theorem laidOut : laidOutB Try.prog = true := by kernel_rfl

theorem fields25 : ∃ f0 f1 : Field, Try.prog.underlying 25 = some (.struct #[f0, f1]) ∧ f0.type = 22 ∧ f1.type = 23 ∧ f0.offset = 0 ∧ f1.offset = 1 ∧ Try.prog.cellsOf 22 = 1 ∧ Try.prog.cellsOf 23 = 1 ∧ Try.prog.cellsOf 25 = 2 :=
  ⟨(fieldOf Try.prog 25 0).getD default, (fieldOf Try.prog 25 1).getD default, by kernel_rfl, by kernel_rfl, by kernel_rfl, by kernel_rfl, by kernel_rfl, by kernel_rfl, by kernel_rfl, by kernel_rfl⟩

section
variable {H : Type} {enc : TypeId × Value → H} {w : World}
theorem sheet_abs {r : Reach} {b0 : Nat} {v : Value} {d : DataW H} {p : List MemPlace} (hval : Value.okWide Try.prog w r b0 25 v) (h : DataW.Trod enc Try.prog w 0 (fun _ => true) true 25 v d p) : ∃ s, SheetV (absH w) (absV w.heap.size 8 v) s := by
  obtain ⟨f0, f1, hu, h0, h1, h2, h3, h4, h5, h6⟩ := fields25
  obtain ⟨cs, rfl, hcs⟩ := okWide_struct hu hval
  obtain ⟨fuel, hf⟩ := h
  obtain ⟨y0, y1, n, _, _, ht0, ht1⟩ := trod_struct2 hu hf
  rw [h6] at hcs
  obtain ⟨a, b, rfl⟩ : ∃ a b, cs = #[a, b] := by
    obtain ⟨l⟩ := cs
    match l, hcs with
    | [a, b], _ => exact ⟨a, b, rfl⟩
  rw [h0, h2, h4] at ht0
  rw [h1, h3, h5] at ht1
  obtain ⟨xs, hx⟩ := ints_abs (d := 6) (v := a) (by simpa [Value.cells] using ht0)
  obtain ⟨l, hl⟩ := alts_abs (d := 6) (v := b) (by simpa [Value.cells] using ht1)
  exact ⟨⟨xs, l⟩, _, _, by simp [absV], hx, hl⟩
end

section
variable {H : Type} {enc : TypeId × Value → H} {w : World}
end
end Go.Proofs.Try
namespace Go.Proofs.Try
open Go.ChangeShapes Go.WideShapes Go.ChangeAt Go.RowKit Go.Joins Go.Deep Go.Am
set_option maxRecDepth 100000

section
variable {H : Type} {enc : TypeId × Value → H} {w : World}
theorem bytes_abs {r : Reach} {b0 : Nat} {v : Value} {d : DataW H} {p : List MemPlace} (hval : Value.okWide Try.prog w r b0 92 v) (h : DataW.Trod enc Try.prog w 0 (fun _ => true) true 92 v d p) : ∃ xs, Bytes (absH w) (absV w.heap.size 8 v) xs ∧ ∀ x ∈ xs, 0 ≤ x ∧ x ≤ 255 := by
  obtain ⟨a, len, cap, rfl⟩ := okWide_slice Try.underlying92 hval
  obtain ⟨fuel, hf⟩ := h
  rcases open_ints Try.underlying92 Try.underlying5 (by kernel_rfl) hf with ⟨hcs, _⟩ | ⟨a, l, c, zs, hcs, _, hl, hm, hz, _, hcell, hwf⟩
  · injection hcs with hcs _
    rw [hcs]
    exact ⟨[], ⟨rfl, by simp, none, 0, rfl, by simp⟩, by simp⟩
  · injection hcs with hcs _
    rw [hcs]
    simp only [if_true] at hz
    have hlen : (zs.take l).length = l := by rw [List.length_take]; omega
    refine ⟨zs.take l, ?_, fun x hx => ?_⟩
    · unfold Bytes
      rw [hlen]
      refine slice_abs hl (by unfold maxLen at hm; omega) (by rw [List.length_map, hlen]; omega) (by decide) (fun j u hu => ?_) (fun j u hu => ?_)
      · rw [List.getElem?_map] at hu
        obtain ⟨z, _, rfl⟩ := Option.map_eq_some_iff.1 hu
        rfl
      · rw [List.getElem?_map] at hu
        obtain ⟨z, hz1, rfl⟩ := Option.map_eq_some_iff.1 hu
        rw [List.getElem?_take] at hz1
        split at hz1
        · have hj : j < zs.length := (List.getElem?_eq_some_iff.1 hz1).1
          rw [hcell j hj, List.getD_eq_getElem?_getD, hz1]
          rfl
        · cases hz1
    · have h2 := hwf x (List.mem_of_mem_take hx)
      have h3 : IntKind.u8.min ≤ x ∧ x ≤ IntKind.u8.max := by simpa [Lit.wf] using h2
      exact h3
theorem bools_abs {r : Reach} {b0 : Nat} {v : Value} {d : DataW H} {p : List MemPlace} (hval : Value.okWide Try.prog w r b0 93 v) (h : DataW.Trod enc Try.prog w 0 (fun _ => true) true 93 v d p) : ∃ xs, Bools (absH w) (absV w.heap.size 8 v) xs := by
  obtain ⟨a, len, cap, rfl⟩ := okWide_slice Try.underlying93 hval
  obtain ⟨fuel, hf⟩ := h
  rcases open_bools Try.underlying93 Try.underlying4 (by kernel_rfl) hf with ⟨hcs, _⟩ | ⟨a, l, c, B, hcs, _, hl, hm, _, hcell⟩
  · injection hcs with hcs _
    rw [hcs]
    exact ⟨[], rfl, by simp, none, 0, rfl, by simp⟩
  · injection hcs with hcs _
    rw [hcs]
    have hlen : ((List.range l).map B).length = l := by simp
    refine ⟨(List.range l).map B, ?_⟩
    unfold Bools
    rw [hlen]
    refine slice_abs hl (by unfold maxLen at hm; omega) (by rw [List.length_map, hlen]; omega) (by decide) (fun j u hu => ?_) (fun j u hu => ?_)
    · rw [List.getElem?_map] at hu
      obtain ⟨z, _, rfl⟩ := Option.map_eq_some_iff.1 hu
      rfl
    · rw [List.getElem?_map] at hu
      obtain ⟨z, hz1, rfl⟩ := Option.map_eq_some_iff.1 hu
      have hj : j < l := by
        have := (List.getElem?_eq_some_iff.1 hz1).1
        simpa using this
      have e : ((List.range l).map B)[j]? = some (B j) := by simp [hj]
      rw [e] at hz1
      cases hz1
      exact hcell j (by omega)
end
end Go.Proofs.Try
