/- Contracts of functions, walked. -/
import Derived.Test.YtgddlpegljkgpaaStSA
import Derived.Test.YtgddlpegljkgpaaAmS
set_option linter.all false
namespace Go.Proofs.Try
open Go Go.Am Go.RowKit
set_option maxRecDepth 100000

/-! The law of the words that a line reads. -/

theorem head_s {loops : List (Nat × LInfo)} {H : AHeap} : CallS Try.prog loops 18 [] H fun r H' => r = .bool true ∧ H' = H := CallS.of_calls rfl rfl sanity_calls

def hasAt (s : Sheet) (line day : Int) : Has := atDay line day ⟨s.words[line.toNat]!, 0, false⟩ s.alts

theorem readsErr_ok {s : Sheet} {line day : Int} (h : readsErr s line day = 0) : errLine s line = 0 ∧ 0 ≤ day ∧ day ≤ 730 := by
  unfold readsErr at h
  by_cases h1 : errLine s line = 0
  · rw [if_pos h1] at h
    by_cases h2 : win 0 730 day = true
    · exact ⟨h1, win_iff.1 h2⟩
    · rw [if_neg h2] at h; cases h
  · rw [if_neg h1] at h; exact absurd h h1

theorem readsAt_eq {s : Sheet} {line day : Int} (h : readsErr s line day = 0) : readsAt s line day = (hasAt s line day).reads := by
  obtain ⟨h1, h2, h3⟩ := readsErr_ok h
  obtain ⟨he, hl0, hl1⟩ := errLine_ok h1
  obtain ⟨x, hx1, hx2, hx3⟩ := go_ok line day s.alts 0 ⟨s.words[line.toNat]!, 0, false⟩ (err_ok he).1 h2 h3
  rw [readsAt, if_pos h, findS, strs, hx1]
  simp only [Option.getD_some, hx2, hasAt]

theorem readsAt_len (s : Sheet) (line day : Int) : (readsAt s line day).length ≤ 2 := by
  by_cases h : readsErr s line day = 0
  · rw [readsAt_eq h]; exact reads_len _
  · rw [readsAt, if_neg h]; simp

theorem insideL_off (l : List Str) (w d : Int) : insideL (offS l w) d = l.any fun x => x.has.offers w && x.covers d := by
  induction l with
  | nil => rfl
  | cons x t ih =>
    have e : offS (x :: t) w = (if x.has.offers w = true then [(x.lo, x.hi)] else []) ++ offS t w := by
      unfold offS
      by_cases h : x.has.offers w = true <;> simp [h]
    rw [e, List.any_cons, ← ih]
    by_cases h : x.has.offers w = true <;> simp [h, insideL, Str.covers]

theorem when_inside {s : Sheet} {line day word : Int} (h : readsErr s line day = 0) (h2 : whenErr s line word = 0) : insideL (whenL s line word) day = (hasAt s line day).offers word := by
  obtain ⟨h1, hd0, hd1⟩ := readsErr_ok h
  obtain ⟨he, hl0, hl1⟩ := errLine_ok h1
  have hso := (err_ok he).1
  rw [whenL, if_pos h2, joinL, joinL_ok day _ [] (by simp) ?_, insideL_off, strs, go_any line day word s.alts 0 _ hso hd0 hd1]
  · simp [insideL, hasAt]
  · intro y hy
    unfold offS at hy
    obtain ⟨x, hx, rfl⟩ := List.mem_map.1 hy
    have hx2 := (List.mem_filter.1 hx).1
    exact (go_lo line s.alts 0 _ hso (by omega) x hx2).2

theorem can_eq {s : Sheet} {line day word : Int} (h : readsErr s line day = 0) (h2 : whenErr s line word = 0) : (decide (word ∈ readsAt s line day) || (decide (word = 0) && decide ((readsAt s line day).length = 0))) = insideL (whenL s line word) day := by
  rw [when_inside h h2, readsAt_eq h, reads_offers]

theorem first_eq {s : Sheet} {line : Int} (h : readsErr s line 0 = 0) (hn : ∀ a, a ∈ s.alts → a.day ≠ 0) : readsAt s line 0 = [s.words[line.toNat]!] := by
  obtain ⟨h1, h2, h3⟩ := readsErr_ok h
  obtain ⟨he, hl0, hl1⟩ := errLine_ok h1
  have hso := (err_ok he).1
  have hw := (err_ok he).2.2.1
  rw [readsAt_eq h, hasAt, atDay_first line s.alts _ hso hn]
  have hlt : line.toNat < s.words.length := by omega
  have hm : s.words[line.toNat]! ∈ s.words := by simp [hlt]
  have hne : ¬ s.words[line.toNat]! = 0 := by
    unfold wordsOk at hw
    have := List.all_eq_true.1 hw _ hm
    have := win_iff.1 this
    omega
  generalize s.words[line.toNat]! = w0 at hne
  simp [Has.reads, hne]

theorem before_eq {s : Sheet} {line day : Int} (h : readsErr s line day = 0) (hd : ¬ day = 0) (hn : ∀ a, a ∈ s.alts → a.day ≠ day) : readsErr s line (day - 1) = 0 ∧ readsAt s line (day - 1) = readsAt s line day := by
  obtain ⟨h1, h2, h3⟩ := readsErr_ok h
  have h4 : readsErr s line (day - 1) = 0 := by
    rw [readsErr, if_pos h1, if_pos (win_iff.2 ⟨by omega, by omega⟩)]
  refine ⟨h4, ?_⟩
  rw [readsAt_eq h4, readsAt_eq h, hasAt, hasAt, atDay_same line day s.alts _ hn]

set_option maxHeartbeats 4000000 in
theorem law8 {H : AHeap} {sv : Value} {s : Sheet} {line day word : Int} (hv : SheetV H sv s) : CallS Try.prog [] 8 [sv, .int .i64 line, .int .i64 day, .int .i64 word] H fun r _ => r = .bool true := by
  have HV := Lib.hid hv
  obtain ⟨wv, av, rfl, hw, ha⟩ := hv
  obtain ⟨hwl, wa, wc, rfl⟩ := hw.slice
  obtain ⟨hal, aa, ac, rfl⟩ := ha.slice
  have HW := Lib.hid hw
  have HA := Lib.hid ha
  clear hw ha
  refine CallS.enter' Try.func8 rfl Try.ntmps8 (by simp) fun f hd hf => ?_
  have f0 := hf 0
  have f1 := hf 1
  have f2 := hf 2
  have f3 := hf 3
  simp at f0 f1 f2 f3
  clear hf
  have HCAN := Lib.hid (@can_eq s line day word)
  have HLEN := Lib.hid (readsAt_len s line day)
  have HFST := Lib.hid (@first_eq s line)
  have HBEF := Lib.hid (@before_eq s line day)
  have HEOK := Lib.hid (@readsErr_ok s line day)
  have HRD := Lib.hid fun (loops : List (Nat × LInfo)) (H : AHeap) (sv : Value) (day : Int) => readsFn_e (loops := loops) (H := H) (sv := sv) (s := s) (line := line) (day := day)
  have HWH := Lib.hid fun (loops : List (Nat × LInfo)) (H : AHeap) (sv : Value) => when_e (loops := loops) (H := H) (sv := sv) (s := s) (line := line) (word := word)
  have hrd := HRD.out
  generalize hR : readsAt s line day = R at HCAN HLEN
  have HRE := Lib.hid hR
  generalize hE : readsErr s line day = ee at HCAN HEOK
  have HEE := Lib.hid hE
  generalize hW : whenL s line word = wl at HCAN HWH
  generalize hF : whenErr s line word = fe at HCAN HWH
  clear hrd hR hE hW hF
  repeat' (first | (with_reducible first | refine CodeS.seq ?_ | refine CodeS.region_k fun K hK => ?_ | refine opsP_go fun K2 hK2 => ?_ | refine Post.then_normal ?_ | refine Post.then_ret ?_ | refine Post.then_exit ?_ | refine Post.block_normal ?_ | refine Post.block_ret ?_ | refine Post.block_here ?_ | refine Post.scope_normal ?_ | refine Post.scope_ret ?_ | refine Post.scope_exit ?_ | refine Post.round_ret ?_ | refine Post.round_exit ?_ | refine CodeS.block ?_ | refine CodeS.skip ?_ | refine CodeS.ret ?_ | refine CodeS.exit ?_ | refine CodeS.scope ?_ | refine CodeS.label ?_) | ((with_reducible refine opsP_nil (hK _ _ ?_)); clear hK K) | ((with_reducible refine opsP_gd ?hj ?hlt fun K1 K3 d hdst h1 h3 => ?_); (case hj => rfl); (case hlt => exact Nat.le_of_ble_eq_true rfl); cases hdst; go_simp) | ((with_reducible refine CodeS.cond_k fun K1 K3 h1 h3 => ?_); go_simp) | (refine h1 ?_; clear h1 h3 K1 K3) | (refine h3 ?_; clear h1 h3 K1 K3) | ((refine Either.mk (fun hb => h1 ?_) (fun hb => h3 ?_)) <;> (clear h1 h3 K1 K3; (try have hb2 := of_decide hb); (try have hb2 := of_not_decide_lt hb); (try have hb2 := of_not_decide_le hb); (try have hb2 := of_not_decide_ltN hb); (try have hb2 := of_not_decide_leN hb))) | ((refine Either.mk (fun hb => h3 ?_) (fun hb => h1 ?_)) <;> (clear h1 h3 K1 K3; (try have hb2 := of_decide hb); (try have hb2 := of_not_decide_lt hb); (try have hb2 := of_not_decide_le hb); (try have hb2 := of_not_decide_ltN hb); (try have hb2 := of_not_decide_leN hb))) | (refine fun (K2 : _ → AHeap → Prop) hK2 => ?_) | ((with_reducible refine Post.block_off ?hn ?_); (case hn => decide)) | ((with_reducible first | refine Post.body_k ?hd (fun K hK => ?_) | refine Post.body_kn ?hd (fun K hK => ?_)); (case hd => (go_simp; done)); go_simp; refine hK _ _ ?_; clear hK K) | (go_simp; (try go_bits); (try first | ((with_reducible show CallS _ _ _ _ _ _); refine CallS.mono head_s ?_; rintro _ _ ⟨rfl, h9⟩; rw [h9]; clear h9; go_simp) | ((with_reducible show CallS _ _ _ _ _ _); refine CallS.mono (few_s (s := s) (HV.out.ext (Ext.push _))) ?_; rintro _ _ ⟨rfl, h9⟩; rw [h9]; clear h9; go_simp) | ((with_reducible show CallS _ _ _ _ _ _); refine CallS.mono (HRD.out _ _ _ day (HV.out.ext (Ext.push _))) ?_; rintro _ H2 ⟨rv, rfl, hi, hx⟩; rw [HRE.out] at hi; rw [HEE.out]; (have HR2 := Lib.hid hi); (have HX2 := Lib.hid hx); (have hcs2 : cellsAt H2 H.n 0 2 = some [.slice wa s.words.length wc, .slice aa s.alts.length ac] := (hx.cellsAt (by rw [AHeap.n_push]; omega)).trans (by go_simp)); (obtain ⟨hrl, ra, rc, rfl⟩ := hi.slice); clear hi hx; go_simp) | ((with_reducible show CallS _ _ _ _ _ _); refine CallS.mono (HWH.out _ _ _ (HV.out.ext ((Ext.push _).trans HX2.out))) ?_; rintro _ H3 ⟨wv, rfl, hi, hx⟩; (have HW3 := Lib.hid hi); (have HX3 := Lib.hid hx); (have HR3 := Lib.hid (HR2.out.ext hx)); (have hcs3 : cellsAt H3 H.n 0 2 = some [.slice wa s.words.length wc, .slice aa s.alts.length ac] := (hx.cellsAt (by have := HX2.out.n; rw [AHeap.n_push] at this; omega)).trans hcs2); (obtain ⟨hwl3, xa, xc, rfl⟩ := hi.slice); clear hi hx; go_simp) | ((with_reducible show CallS _ _ _ _ _ _); refine CallS.mono (has_s HR3.out) ?_; rintro _ _ ⟨rfl, h9⟩; rw [h9]; clear h9; go_simp) | ((refine neqB_k (by first | (go_simp; done) | (go_simp; rfl)) (by first | (go_simp; done) | (go_simp; rfl)) ?_); go_simp) | ((with_reducible show CallS _ _ _ _ _ _); refine CallS.mono (inside_s HW3.out) ?_; rintro _ _ ⟨rfl, h9⟩; rw [h9]; clear h9; go_simp)); refine hK2 _ _ ?_; clear hK2 K2))
  all_goals first
    | rfl
    | (exfalso; have := HLEN.out; omega)
    | (exfalso; have h := HCAN.out (by simpa using ‹(ee != 0) = false›) (by simpa using ‹(fe == 0) = true›); have hq : ((R.length : Int) == 0) = decide (R.length = 0) := (by rw [Bool.eq_iff_iff]; simp); rw [hq] at hb; clear hq; simp_all; done)
    | (exfalso; have h := HCAN.out (by simpa using ‹(ee != 0) = false›) (by simpa using ‹(fe == 0) = true›); simp_all; done)
    | skip
  all_goals
    have hee : ee = 0 := by simpa using ‹(ee != 0) = false›
    obtain ⟨hel, hd0, hd1⟩ := HEOK.out hee
    obtain ⟨hes, hl0, hl1⟩ := errLine_ok hel
    have HES := Lib.hid (And.intro hel hes)
    have HBF := Lib.hid (fun hd hn => HBEF.out (HEE.out.trans hee) hd hn)
    have HFS := Lib.hid (fun (hd : day = 0) => HFST.out (by have h := HEE.out.trans hee; rw [hd] at h; exact h))
    have hx02 : Ext H H3 := (Ext.push _).trans (HX2.out.trans HX3.out)
    have hnn : H.n < H2.n := by have := HX2.out.n; rw [AHeap.n_push] at this; omega
    have hg3 : H3.get H.n = .row [.slice wa s.words.length wc, .slice aa s.alts.length ac] 25 := (HX3.out.get _ hnn).trans ((HX2.out.get H.n (by rw [AHeap.n_push]; omega)).trans AHeap.get_push_new)
    have hca0 : cellAt H3 H.n 0 = some (.slice wa s.words.length wc) := by simp [cellAt, hg3]
    have hca1 : cellAt H3 H.n 1 = some (.slice aa s.alts.length ac) := by simp [cellAt, hg3]
    have HX := Lib.hid hx02
    obtain ⟨ln, rfl⟩ := Int.eq_ofNat_of_zero_le hl0
    clear hx02 hg3 hel hes hl0
    refine CodeS.loop (fun m f H' => ∃ k : Nat, k ≤ s.alts.length ∧ m = s.alts.length - k ∧ f.tmp 15 = .int .i64 k ∧ f.tmp 4 = .pointer (some ⟨H.n, 0, none⟩) ∧ f.tmp 9 = .bool true ∧ f.tmp 10 = .slice ra R.length rc ∧ f.tmp 1 = .int .i64 ln ∧ f.tmp 2 = .int .i64 day ∧ f.defers = [] ∧ Hid (∀ a, a ∈ s.alts.take k → a.day ≠ day) ∧ H' = H3) s.alts.length ?_ ?_
    · exact ⟨0, by simp, by simp, (by first | (go_simp; done) | (go_simp; go_num; done) | assumption), (by first | (go_simp; done) | (go_simp; go_num; done) | assumption), (by first | (go_simp; done) | (go_simp; go_num; done) | assumption), (by first | (go_simp; done) | (go_simp; go_num; done) | assumption), (by first | (go_simp; done) | (go_simp; go_num; done) | assumption), (by first | (go_simp; done) | (go_simp; go_num; done) | assumption), (by first | (go_simp; done) | (go_simp; go_num; done) | assumption), Lib.hid (by simp), rfl⟩
    clear f0 f1 f2 f3 hd f
    rintro m f H' ⟨k, hk, rfl, f15, f4, f9, f10, f1, f2, hd, HN, hH'⟩
    subst hH'
    by_cases hlt : k < s.alts.length
    · obtain ⟨b, o, sp, rfl, hb9, -, hc6⟩ := (HA.out.ext HX.out).at_ hlt
      have HT := Lib.hid (List.take_succ_eq_append_getElem hlt)
      have hcd := hc6 2 _ rfl
      generalize s.alts[k] = a at hcd HT
      obtain ⟨i, kd, dy, fr, to, wd⟩ := a
      simp only at hcd
      clear hc6
      repeat' (first | (with_reducible first | refine CodeS.seq ?_ | refine CodeS.region_k fun K hK => ?_ | refine opsP_go fun K2 hK2 => ?_ | refine Post.then_normal ?_ | refine Post.then_ret ?_ | refine Post.then_exit ?_ | refine Post.block_normal ?_ | refine Post.block_ret ?_ | refine Post.block_here ?_ | refine Post.scope_normal ?_ | refine Post.scope_ret ?_ | refine Post.scope_exit ?_ | refine Post.round_ret ?_ | refine Post.round_exit ?_ | refine CodeS.block ?_ | refine CodeS.skip ?_ | refine CodeS.ret ?_ | refine CodeS.exit ?_ | refine CodeS.scope ?_ | refine CodeS.label ?_) | ((with_reducible refine opsP_nil (hK _ _ ?_)); clear hK K) | ((with_reducible refine opsP_gd ?hj ?hlt fun K1 K3 d hdst h1 h3 => ?_); (case hj => rfl); (case hlt => exact Nat.le_of_ble_eq_true rfl); cases hdst; go_simp) | ((with_reducible refine CodeS.cond_k fun K1 K3 h1 h3 => ?_); go_simp) | (refine h1 ?_; clear h1 h3 K1 K3) | (refine h3 ?_; clear h1 h3 K1 K3) | ((refine Either.mk (fun hb => h1 ?_) (fun hb => h3 ?_)) <;> (clear h1 h3 K1 K3; (try have hb2 := of_decide hb); (try have hb2 := of_not_decide_lt hb); (try have hb2 := of_not_decide_le hb); (try have hb2 := of_not_decide_ltN hb); (try have hb2 := of_not_decide_leN hb))) | ((refine Either.mk (fun hb => h3 ?_) (fun hb => h1 ?_)) <;> (clear h1 h3 K1 K3; (try have hb2 := of_decide hb); (try have hb2 := of_not_decide_lt hb); (try have hb2 := of_not_decide_le hb); (try have hb2 := of_not_decide_ltN hb); (try have hb2 := of_not_decide_leN hb))) | (refine fun (K2 : _ → AHeap → Prop) hK2 => ?_) | ((with_reducible refine Post.block_off ?hn ?_); (case hn => decide)) | ((with_reducible first | refine Post.body_k ?hd (fun K hK => ?_) | refine Post.body_kn ?hd (fun K hK => ?_)); (case hd => (go_simp; done)); go_simp; refine hK _ _ ?_; clear hK K) | (go_simp; (try go_bits); refine hK2 _ _ ?_; clear hK2 K2))
      · trivial
      · have hnd : ¬ dy = day := by simpa using ‹(dy == day) = false›
        refine Post.round_normal ⟨s.alts.length - (k + 1), by omega, k + 1, by omega, rfl, (by first | (go_simp; done) | (go_simp; go_num; done) | assumption), (by first | (go_simp; done) | (go_simp; go_num; done) | assumption), (by first | (go_simp; done) | (go_simp; go_num; done) | assumption), (by first | (go_simp; done) | (go_simp; go_num; done) | assumption), (by first | (go_simp; done) | (go_simp; go_num; done) | assumption), (by first | (go_simp; done) | (go_simp; go_num; done) | assumption), (by first | (go_simp; done) | (go_simp; go_num; done) | assumption), Lib.hid ?_, rfl⟩
        rw [HT.out]
        intro x hx
        rcases List.mem_append.1 hx with h | h
        · exact HN.out x h
        · rw [List.mem_singleton.1 h]; exact hnd
    · have hnone : ∀ a, a ∈ s.alts → a.day ≠ day := by
        have := HN.out
        rwa [List.take_of_length_le (by omega)] at this
      have HNO := Lib.hid hnone
      clear hnone
      by_cases hday : day = 0
      · have hR1 := HFS.out hday (fun a ha => by rw [← hday]; exact HNO.out a ha)
        have hRR := HRE.out
        rw [hday, hR1] at hRR
        have hln : ln < s.words.length := by omega
        obtain ⟨bw, ow, sw, rfl, hbw, hcw⟩ := (HW.out.ext HX.out).at_ hln
        have e0 : s.words[(ln : Int).toNat]! = s.words[ln] := by simp [hln]
        rw [e0] at hRR
        have hlen1 : R.length = 1 := by rw [← hRR]; rfl
        obtain ⟨br, or_, sr, rfl, hbr, hcr⟩ := HR3.out.at_ (k := 0) (by omega)
        simp only [← hRR, List.getElem_cons_zero, Nat.add_zero] at hcr
        rw [hlen1] at f10
        rw [hday] at f2
        have HRR := Lib.hid hRR
        generalize s.words[ln] = w0 at hcw hcr
        clear hR1 hRR e0 hlen1 hday
        repeat' (first | (with_reducible first | refine CodeS.seq ?_ | refine CodeS.region_k fun K hK => ?_ | refine opsP_go fun K2 hK2 => ?_ | refine Post.then_normal ?_ | refine Post.then_ret ?_ | refine Post.then_exit ?_ | refine Post.block_normal ?_ | refine Post.block_ret ?_ | refine Post.block_here ?_ | refine Post.scope_normal ?_ | refine Post.scope_ret ?_ | refine Post.scope_exit ?_ | refine Post.round_ret ?_ | refine Post.round_exit ?_ | refine CodeS.block ?_ | refine CodeS.skip ?_ | refine CodeS.ret ?_ | refine CodeS.exit ?_ | refine CodeS.scope ?_ | refine CodeS.label ?_) | ((with_reducible refine opsP_nil (hK _ _ ?_)); clear hK K) | ((with_reducible refine opsP_gd ?hj ?hlt fun K1 K3 d hdst h1 h3 => ?_); (case hj => rfl); (case hlt => exact Nat.le_of_ble_eq_true rfl); cases hdst; go_simp) | ((with_reducible refine CodeS.cond_k fun K1 K3 h1 h3 => ?_); go_simp) | (refine h1 ?_; clear h1 h3 K1 K3) | (refine h3 ?_; clear h1 h3 K1 K3) | ((refine Either.mk (fun hb => h1 ?_) (fun hb => h3 ?_)) <;> (clear h1 h3 K1 K3; (try have hb2 := of_decide hb); (try have hb2 := of_not_decide_lt hb); (try have hb2 := of_not_decide_le hb); (try have hb2 := of_not_decide_ltN hb); (try have hb2 := of_not_decide_leN hb))) | ((refine Either.mk (fun hb => h3 ?_) (fun hb => h1 ?_)) <;> (clear h1 h3 K1 K3; (try have hb2 := of_decide hb); (try have hb2 := of_not_decide_lt hb); (try have hb2 := of_not_decide_le hb); (try have hb2 := of_not_decide_ltN hb); (try have hb2 := of_not_decide_leN hb))) | (refine fun (K2 : _ → AHeap → Prop) hK2 => ?_) | ((with_reducible refine Post.block_off ?hn ?_); (case hn => decide)) | ((with_reducible first | refine Post.body_k ?hd (fun K hK => ?_) | refine Post.body_kn ?hd (fun K hK => ?_)); (case hd => (go_simp; done)); go_simp; refine hK _ _ ?_; clear hK K) | (go_simp; (try go_bits); refine hK2 _ _ ?_; clear hK2 K2))
        repeat' (first | (with_reducible first | refine CodeS.seq ?_ | refine CodeS.region_k fun K hK => ?_ | refine opsP_go fun K2 hK2 => ?_ | refine Post.then_normal ?_ | refine Post.then_ret ?_ | refine Post.then_exit ?_ | refine Post.block_normal ?_ | refine Post.block_ret ?_ | refine Post.block_here ?_ | refine Post.scope_normal ?_ | refine Post.scope_ret ?_ | refine Post.scope_exit ?_ | refine Post.round_ret ?_ | refine Post.round_exit ?_ | refine CodeS.block ?_ | refine CodeS.skip ?_ | refine CodeS.ret ?_ | refine CodeS.exit ?_ | refine CodeS.scope ?_ | refine CodeS.label ?_) | ((with_reducible refine opsP_nil (hK _ _ ?_)); clear hK K) | ((with_reducible refine opsP_gd ?hj ?hlt fun K1 K3 d hdst h1 h3 => ?_); (case hj => rfl); (case hlt => exact Nat.le_of_ble_eq_true rfl); cases hdst; go_simp) | ((with_reducible refine CodeS.cond_k fun K1 K3 h1 h3 => ?_); go_simp) | (refine h1 ?_; clear h1 h3 K1 K3) | (refine h3 ?_; clear h1 h3 K1 K3) | ((refine Either.mk (fun hb => h1 ?_) (fun hb => h3 ?_)) <;> (clear h1 h3 K1 K3; (try have hb2 := of_decide hb); (try have hb2 := of_not_decide_lt hb); (try have hb2 := of_not_decide_le hb); (try have hb2 := of_not_decide_ltN hb); (try have hb2 := of_not_decide_leN hb))) | ((refine Either.mk (fun hb => h3 ?_) (fun hb => h1 ?_)) <;> (clear h1 h3 K1 K3; (try have hb2 := of_decide hb); (try have hb2 := of_not_decide_lt hb); (try have hb2 := of_not_decide_le hb); (try have hb2 := of_not_decide_ltN hb); (try have hb2 := of_not_decide_leN hb))) | (refine fun (K2 : _ → AHeap → Prop) hK2 => ?_) | ((with_reducible refine Post.block_off ?hn ?_); (case hn => decide)) | ((with_reducible first | refine Post.body_k ?hd (fun K hK => ?_) | refine Post.body_kn ?hd (fun K hK => ?_)); (case hd => (go_simp; done)); go_simp; refine hK _ _ ?_; clear hK K) | ((with_reducible refine CodeS.tree_lit mixed rfl ?hok 20 fun K0 hK0 => ?_); (case hok => kernel_rfl)) | (with_reducible first | exact loudsP_nil | exact stableP_nil | refine treeP_lit ?_ | refine passP_nil ?_ | refine stableP_keep ?_) | ((with_reducible first | refine passP_skip ?h1 ?_ | refine loudsP_skip ?h1 ?_ | refine stepT_more ?h1 ?_); (case h1 => rfl)) | ((with_reducible refine stepT_done ?h1 ?_); (case h1 => rfl); refine hK0 _ _ ?_; clear hK0 K0) | ((with_reducible refine passP_loud ?h1 ?hg ?hl ?_); (case h1 => rfl); (case hg => rfl); (case hl => rfl)) | ((with_reducible refine passP_q ?h1 ?hl ?hlt fun K2 hK2 => ?_); (case h1 => rfl); (case hl => rfl); (case hlt => exact Nat.le_of_ble_eq_true rfl)) | ((with_reducible refine passP_g ?h1 ?hj ?hl ?hlt fun K1 K3 d hdst h1 h3 => ?_); (case h1 => rfl); (case hj => rfl); (case hl => rfl); (case hlt => exact Nat.le_of_ble_eq_true rfl); cases hdst; go_simp) | ((with_reducible refine passP_lg ?h1 ?hj ?hl ?hlt fun K1 K3 d hdst h1 h3 => ?_); (case h1 => rfl); (case hj => rfl); (case hl => rfl); (case hlt => exact Nat.le_of_ble_eq_true rfl); cases hdst; go_simp) | ((with_reducible refine loudsP_c ?h1 ?hlt (fun K2 hK2 => ?_) ?_); (case h1 => rfl); (case hlt => exact Nat.le_of_ble_eq_true rfl)) | ((with_reducible refine loudsP_cg ?h1 ?hlt ?hj ?hw (fun K2 hK2 => ?_) ?_); (case h1 => rfl); (case hlt => exact Nat.le_of_ble_eq_true rfl); (case hj => rfl); (case hw => (go_simp; done))) | ((with_reducible refine loudsP_v ?h1 ?hv ?hlt (fun K2 hK2 => ?_) ?_); (case h1 => rfl); (case hv => rfl); (case hlt => exact Nat.le_of_ble_eq_true rfl)) | ((with_reducible refine loudsP_u ?h1 ?hv (fun K2 hK2 => ?_) ?_); (case h1 => rfl); (case hv => rfl)) | ((with_reducible refine stableP_pre ?h1 ?_); (case h1 => (first | rfl | (dsimp only; decide +kernel)))) | ((with_reducible refine stableP_re ?h1 ?_); (case h1 => (go_simp; done))) | (go_simp; (try go_bits); (first | (refine hK2 _ _ ?_ ?_ <;> clear hK2 K2) | (refine hK2 _ _ ?_; clear hK2 K2))))
        repeat' (first | (with_reducible first | refine CodeS.seq ?_ | refine CodeS.region_k fun K hK => ?_ | refine opsP_go fun K2 hK2 => ?_ | refine Post.then_normal ?_ | refine Post.then_ret ?_ | refine Post.then_exit ?_ | refine Post.block_normal ?_ | refine Post.block_ret ?_ | refine Post.block_here ?_ | refine Post.scope_normal ?_ | refine Post.scope_ret ?_ | refine Post.scope_exit ?_ | refine Post.round_ret ?_ | refine Post.round_exit ?_ | refine CodeS.block ?_ | refine CodeS.skip ?_ | refine CodeS.ret ?_ | refine CodeS.exit ?_ | refine CodeS.scope ?_ | refine CodeS.label ?_) | ((with_reducible refine opsP_nil (hK _ _ ?_)); clear hK K) | ((with_reducible refine opsP_gd ?hj ?hlt fun K1 K3 d hdst h1 h3 => ?_); (case hj => rfl); (case hlt => exact Nat.le_of_ble_eq_true rfl); cases hdst; go_simp) | ((with_reducible refine CodeS.cond_k fun K1 K3 h1 h3 => ?_); go_simp) | (refine h1 ?_; clear h1 h3 K1 K3) | (refine h3 ?_; clear h1 h3 K1 K3) | ((refine Either.mk (fun hb => h1 ?_) (fun hb => h3 ?_)) <;> (clear h1 h3 K1 K3; (try have hb2 := of_decide hb); (try have hb2 := of_not_decide_lt hb); (try have hb2 := of_not_decide_le hb); (try have hb2 := of_not_decide_ltN hb); (try have hb2 := of_not_decide_leN hb))) | ((refine Either.mk (fun hb => h3 ?_) (fun hb => h1 ?_)) <;> (clear h1 h3 K1 K3; (try have hb2 := of_decide hb); (try have hb2 := of_not_decide_lt hb); (try have hb2 := of_not_decide_le hb); (try have hb2 := of_not_decide_ltN hb); (try have hb2 := of_not_decide_leN hb))) | (refine fun (K2 : _ → AHeap → Prop) hK2 => ?_) | ((with_reducible refine Post.block_off ?hn ?_); (case hn => decide)) | ((with_reducible first | refine Post.body_k ?hd (fun K hK => ?_) | refine Post.body_kn ?hd (fun K hK => ?_)); (case hd => (go_simp; done)); go_simp; refine hK _ _ ?_; clear hK K) | (go_simp; (try go_bits); refine hK2 _ _ ?_; clear hK2 K2))
        all_goals first
          | rfl
          | (simp; done)
      · obtain ⟨hb1, hb2⟩ := HBF.out hday HNO.out
        rw [HRE.out] at hb2
        have HB1 := Lib.hid hb1
        have HB2 := Lib.hid hb2
        clear hb1 hb2
        repeat' (first | (with_reducible first | refine CodeS.seq ?_ | refine CodeS.region_k fun K hK => ?_ | refine opsP_go fun K2 hK2 => ?_ | refine Post.then_normal ?_ | refine Post.then_ret ?_ | refine Post.then_exit ?_ | refine Post.block_normal ?_ | refine Post.block_ret ?_ | refine Post.block_here ?_ | refine Post.scope_normal ?_ | refine Post.scope_ret ?_ | refine Post.scope_exit ?_ | refine Post.round_ret ?_ | refine Post.round_exit ?_ | refine CodeS.block ?_ | refine CodeS.skip ?_ | refine CodeS.ret ?_ | refine CodeS.exit ?_ | refine CodeS.scope ?_ | refine CodeS.label ?_) | ((with_reducible refine opsP_nil (hK _ _ ?_)); clear hK K) | ((with_reducible refine opsP_gd ?hj ?hlt fun K1 K3 d hdst h1 h3 => ?_); (case hj => rfl); (case hlt => exact Nat.le_of_ble_eq_true rfl); cases hdst; go_simp) | ((with_reducible refine CodeS.cond_k fun K1 K3 h1 h3 => ?_); go_simp) | (refine h1 ?_; clear h1 h3 K1 K3) | (refine h3 ?_; clear h1 h3 K1 K3) | ((refine Either.mk (fun hb => h1 ?_) (fun hb => h3 ?_)) <;> (clear h1 h3 K1 K3; (try have hb2 := of_decide hb); (try have hb2 := of_not_decide_lt hb); (try have hb2 := of_not_decide_le hb); (try have hb2 := of_not_decide_ltN hb); (try have hb2 := of_not_decide_leN hb))) | ((refine Either.mk (fun hb => h3 ?_) (fun hb => h1 ?_)) <;> (clear h1 h3 K1 K3; (try have hb2 := of_decide hb); (try have hb2 := of_not_decide_lt hb); (try have hb2 := of_not_decide_le hb); (try have hb2 := of_not_decide_ltN hb); (try have hb2 := of_not_decide_leN hb))) | (refine fun (K2 : _ → AHeap → Prop) hK2 => ?_) | ((with_reducible refine Post.block_off ?hn ?_); (case hn => decide)) | ((with_reducible first | refine Post.body_k ?hd (fun K hK => ?_) | refine Post.body_kn ?hd (fun K hK => ?_)); (case hd => (go_simp; done)); go_simp; refine hK _ _ ?_; clear hK K) | (go_simp; (try go_bits); (try first | ((with_reducible show CallS _ _ _ _ _ _); refine CallS.mono (HRD.out _ _ _ (day - 1) (HV.out.ext HX.out)) ?_; rintro _ H4 ⟨rv2, rfl, hi, hx⟩; rw [HB2.out] at hi; rw [HB1.out]; (have HR4 := Lib.hid hi); (have HX4 := Lib.hid hx); (obtain ⟨hrl2, ra2, rc2, rfl⟩ := hi.slice); clear hi hx; go_simp) | ((with_reducible show CallS _ _ _ _ _ _); refine CallS.mono (sameInts_s (HR3.out.ext HX4.out) HR4.out) ?_; rintro _ _ ⟨rfl, h9⟩; rw [h9]; clear h9; go_simp)); refine hK2 _ _ ?_; clear hK2 K2))
        all_goals first
          | rfl
          | (exfalso; exact hday (by simpa using ‹(day == 0) = true›))
end Go.Proofs.Try
