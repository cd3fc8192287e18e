/- SamePieces, and PieceTexts' law, but for the examples that it calls. -/
import Derived.Test.YtcoplbaopaigcaaGreatCqO
import Derived.Test.YtcoplbaopaigcaaGreatCqQ
import Derived.Test.YtcoplbaopaigcaaGreatTqT
set_option linter.all false
namespace Go.Proofs.YtcoplbaopaigcaaGreat
open Go.RowKit
def SpRel (n : Nat) (w wr : World) (i : Value) : Prop := ∃ k d : Nat, k ≤ n ∧ wr = w.drewN d ∧ i = .int .i64 k
theorem sp_next {n k d a : Nat} {w wo : World} (HO : Hid (w.drewN d = wo)) (hk : k < n) : SpRel n w (wo.drewN a) (.int .i64 ((k : Int) + 1)) :=
  ⟨k + 1, _, by omega, by rw [← HO.out, drew2], by go_num⟩
def RetTrue (w : World) (e : Ending) (w' : World) : Prop := e = .returned (.bool true) ∧ ∃ d, w' = w.drewN d
theorem dataP_at {pa pb : List Pc} (h : pa.map dataP = pb.map dataP) {k : Nat} {a b : Pc} (ha : pa[k]? = some a) (hb : pb[k]? = some b) : a.id = b.id ∧ a.ws = b.ws ∧ a.ct = b.ct := by
  have h1 := congrArg (fun l : List (Int × List Int × Int) => l[k]?) h
  simp only [List.getElem?_map, ha, hb, Option.map_some, Option.some.injEq] at h1
  unfold dataP at h1
  injection h1 with h1 h2
  injection h2 with h2 h3
  exact ⟨h1, h2, h3⟩
set_option maxHeartbeats 4000000 in
set_option maxRecDepth 100000 in
theorem samePieces_any (A : Option Addr) (n c : Nat) (pa : List Pc) (A2 : Option Addr) (c2 : Nat) (pb : List Pc) (w : World) (B : Nat) (hq : Ps w B A n pa) (hq2 : Ps w B A2 n pb) (hd : pa.map dataP = pb.map dataP) :
    Calls Tryz.prog 52 #[.slice A n c, .slice A2 n c2] w (RetTrue w) := by
  have hn := hq.2.1
  unfold maxLen at hn
  have HD := hid hd
  clear hd
  go_enter Tryz.func52, Tryz.ntmps52
  go_wp2
  go_loopw [5] (fun i wr => SpRel n w wr i) (fun i _ => n - (intOf i).toNat)
  case atStart => exact ⟨0, 0, Nat.zero_le _, rfl, rfl⟩
  case round =>
    obtain ⟨k, d, hk, rfl, rfl⟩ := hrel
    obtain ⟨wo, hwo⟩ : ∃ wo, w.drewN d = wo := ⟨_, rfl⟩
    rw [hwo]
    have hqo : Ps wo B A n pa := by rw [← hwo]; exact hq.keep fun _ _ => rfl
    have hqo2 : Ps wo B A2 n pb := by rw [← hwo]; exact hq2.keep fun _ _ => rfl
    have HO := hid hwo
    clear hwo
    by_cases hlt : k < n
    · obtain ⟨ad, p, a, rfl, hp, hka, hfa, hat⟩ := hqo.at_ hlt
      obtain ⟨ad2, p2, b, rfl, hp2, hkb, hfb, hbt⟩ := hqo2.at_ hlt
      obtain ⟨e1, e2, e3⟩ := dataP_at HD.out hka hkb
      have a0 := hat.c0
      have a1 := hat.c1
      have a2 := hat.c2
      have b0 := hbt.c0
      have b1 := hbt.c1
      have b2 := hbt.c2
      rw [← e1] at b0
      rw [← e3] at b2
      have hrb := hfb.2.2.2
      rw [← e2] at hrb
      have HSI := hid (fun (w' : World) (h : ∀ p : Addr, w'.cell? p = wo.cell? p) => (sameInts_any a.A a.n a.c a.ws b.A b.n b.c a.ws w' B (hfa.2.2.2.keep fun p _ => h p) (hrb.keep fun p _ => h p) hfa.1).mono fun e w2 h => show e = .returned (.bool true) ∧ ∃ d, w2 = w'.drewN d from ⟨by rw [h.1, decide_eq_true rfl], h.2⟩)
      clear hka hkb hfa hfb hat hbt e1 e2 e3 hrb
      go_wp2
      go_quiet ((go_at_call 29; exact Calls.quiet_of (HSI.out _ (by intro _; rfl))))
      go_wp2
      go_quiet (fail)
      go_wp2
      go_roundw
      case rel => exact sp_next HO hlt
      case measure => simp [intOf]; omega
    · go_wp2
      go_ret
      exact ⟨rfl, _, HO.out.symm⟩
end Go.Proofs.YtcoplbaopaigcaaGreat
namespace Go.Proofs.YtcoplbaopaigcaaGreat
open Go.RowKit
theorem Ps.mono {w : World} {B B' : Nat} {A : Option Addr} {n : Nat} {ps : List Pc} (h : Ps w B A n ps) (hB : B ≤ B') : Ps w B' A n ps := by
  obtain ⟨h1, h2, h3, h4⟩ := h
  refine ⟨h1, h2, fun q hq => ?_, fun hn => ?_⟩
  · obtain ⟨a, b, c, d⟩ := h3 q hq
    exact ⟨a, b, c, d.mono hB⟩
  · obtain ⟨ad, e, hb, hc⟩ := h4 hn
    exact ⟨ad, e, by omega, hc⟩
theorem cutGo_le (tx : List Int) : ∀ (l : List Int) (i s : Nat), ∀ d ∈ cutGo tx i s l, d.2.1.length ≤ tx.length := by
  intro l
  induction l with
  | nil => intro i s d hd; simp [cutGo] at hd
  | cons e t ih =>
    intro i s d hd
    rw [cutGo] at hd
    rcases List.mem_cons.1 hd with rfl | hd
    · simp; omega
    · exact ih _ _ d hd
theorem cutL_fit {tx l : List Int} {ps : List Pc} (h : ps.map dataP = cutL tx l) : ps.length ≤ 24 ∧ (∀ p ∈ ps, 0 ≤ p.id ∧ p.id ≤ 24) ∧ ∀ p ∈ ps, p.ws.length ≤ 960 := by
  unfold cutL at h
  by_cases h0 : cutE tx l = 0
  · rw [if_pos h0] at h
    unfold cutE at h0
    by_cases h1 : 960 < tx.length ∨ 24 < l.length
    · rw [if_pos h1] at h0; cases h0
    · have hids := cut_ids tx l 0 0 ps h
      have hl : ps.length = l.length := by
        have := congrArg List.length hids
        simpa [idsL] using this
      refine ⟨by omega, fun p hp => ?_, fun p hp => ?_⟩
      · have hm : p.id ∈ idsL 0 l.length := by rw [← hids]; exact List.mem_map.2 ⟨p, hp, rfl⟩
        have a := idsL_gt hm
        have b := idsL_le hm
        omega
      · have hm : dataP p ∈ cutGo tx 0 0 l := by rw [← h]; exact List.mem_map.2 ⟨p, hp, rfl⟩
        have := cutGo_le tx l 0 0 _ hm
        simp only [dataP] at this
        omega
  · rw [if_neg h0, List.map_eq_nil_iff] at h
    subst h
    exact ⟨by simp, by simp, by simp⟩
theorem cut_ps {w : World} {base : Nat} {v : Value} {tx l : List Int} {ps : List Pc} (h : ps.map dataP = cutL tx l) (ho : w.ownsRow base 107 3 v ps.length (cellsP ps)) (hw : OwnsWords w base ps) : ∃ A c, v = .slice A ps.length c ∧ Ps w w.heap.size A ps.length ps := by
  obtain ⟨h1, h2, h3⟩ := cutL_fit h
  refine ps_of_own ho rfl (by unfold maxLen; omega) hw (fun p hp => by have := h2 p hp; omega) (fun p hp => ?_)
  have a := (hw p hp).1
  have b := h3 p hp
  simp at a
  unfold maxLen; omega
theorem textR_len {w : World} {B n : Nat} {A : Option Addr} {ps : List Pc} {gl : List Int} (hq : Ps w B A n ps) : (textR ps gl).length ≤ 960 := by
  unfold textR
  by_cases h : isOrd ps gl = true
  · rw [if_pos h]
    obtain ⟨h1, h2, _⟩ := isOrd_ids h
    obtain ⟨h3, h4, _⟩ := errP_ok h1
    have := textS_length (ps := ps) (wordsOf_le (w := w) (B := B) fun q hm => ⟨h4 q hm, hq.2.2.1 q hm⟩) gl
    omega
  · rw [if_neg h]; simp
set_option maxHeartbeats 20000000 in
set_option maxRecDepth 100000 in
theorem texts_law (hsan : ∀ w : World, Calls Tryz.prog 16 #[] w fun e w' => e = .returned (.bool true) ∧ Below w.heap.size w w')
    (A : Option Addr) (n c : Nat) (ps : List Pc) (A2 : Option Addr) (m c2 : Nat) (gl : List Int) (A3 : Option Addr) (k c3 : Nat) (tx : List Int) (A4 : Option Addr) (j c4 : Nat) (l : List Int) (w : World)
    (hq : Ps w w.heap.size A n ps) (hr : Reads w w.heap.size 1 A2 m (gl.map (Value.int .i64))) (hm : m ≤ maxLen) (hwf : ∀ z ∈ gl, -9223372036854775808 ≤ z ∧ z ≤ 9223372036854775807)
    (hr3 : Reads w w.heap.size 1 A3 k (tx.map (Value.int .i64))) (hk : k ≤ maxLen) (hcap : k ≤ c3)
    (hr4 : Reads w w.heap.size 1 A4 j (l.map (Value.int .i64))) (hj : j ≤ maxLen) (hwf4 : ∀ z ∈ l, -9223372036854775808 ≤ z ∧ z ≤ 9223372036854775807) :
    Calls Tryz.prog 7 #[.slice A n c, .slice A2 m c2, .slice A3 k c3, .slice A4 j c4] w fun e w' => e = .returned (.bool true) ∧ Below w.heap.size w w' := by
  have HQ := hid hq
  have HFW := hid (few_any A n c ps 24 w w.heap.size hq)
  have HT := hid (text_any A n c ps A2 m c2 gl w w.heap.size (Nat.le_refl _) hq hr hm hwf)
  have HRT := hid (fun (w' : World) (hb : Below w.heap.size w w') => refText_any A n c ps A2 m c2 gl w' w.heap.size hb.size (hq.below hb) (hr.below hb) hm)
  have HCT := hid (fun (w' : World) (hb : Below w.heap.size w w') => cut_any A3 k c3 tx A4 j c4 l w' w.heap.size hb.size (hr3.below hb) hk hcap (hr4.below hb) hj hwf4)
  have HRC := hid (fun (w' : World) (hb : Below w.heap.size w w') => refCut_any A3 k c3 tx A4 j c4 l w' w.heap.size hb.size (hr3.below hb) hk hcap (hr4.below hb) hj hwf4)
  obtain ⟨xs, hxs⟩ : ∃ xs, textR ps gl = xs := ⟨_, rfl⟩
  obtain ⟨er, her⟩ : ∃ er, textE ps gl = er := ⟨_, rfl⟩
  have HXL := hid (show xs.length ≤ maxLen by rw [← hxs]; have := textR_len (gl := gl) hq; unfold maxLen; omega)
  rw [hxs, her] at HT HRT
  unfold maxLen at hm hk hj
  clear hq hr hr3 hr4 hwf hwf4 hxs her
  by_cases h1 : 40 < m
  · have h1' : decide ((40 : Int) < m) = true := by simp; omega
    go_enter Tryz.func7, Tryz.ntmps7
    go_wp2_with (go_at_call 15; refine HFW.out.mono ?_; rintro e w' ⟨bb, rfl, rfl⟩; cases bb)
    all_goals
      go_at_call 16
      refine (hsan _).mono ?_
      rintro e w1 ⟨rfl, hb1⟩
      have HB1 := hid hb1
      clear hb1
      go_wp2
      go_ret
      exact ⟨rfl, HB1.out⟩
  · have h1' : decide ((40 : Int) < m) = false := by simp; omega
    by_cases h2 : 1000 < k
    · have h2' : decide ((1000 : Int) < k) = true := by simp; omega
      go_enter Tryz.func7, Tryz.ntmps7
      go_wp2_with (go_at_call 15; refine HFW.out.mono ?_; rintro e w' ⟨bb, rfl, rfl⟩; cases bb)
      all_goals
        go_at_call 16
        refine (hsan _).mono ?_
        rintro e w1 ⟨rfl, hb1⟩
        have HB1 := hid hb1
        clear hb1
        go_wp2
        go_ret
        exact ⟨rfl, HB1.out⟩
    · have h2' : decide ((1000 : Int) < k) = false := by simp; omega
      by_cases h3 : 30 < j
      · have h3' : decide ((30 : Int) < j) = true := by simp; omega
        go_enter Tryz.func7, Tryz.ntmps7
        go_wp2_with (go_at_call 15; refine HFW.out.mono ?_; rintro e w' ⟨bb, rfl, rfl⟩; cases bb)
        all_goals
          go_at_call 16
          refine (hsan _).mono ?_
          rintro e w1 ⟨rfl, hb1⟩
          have HB1 := hid hb1
          clear hb1
          go_wp2
          go_ret
          exact ⟨rfl, HB1.out⟩
      · have h3' : decide ((30 : Int) < j) = false := by simp; omega
        go_enter Tryz.func7, Tryz.ntmps7
        go_wp2_with (go_at_call 15; refine HFW.out.mono ?_; rintro e w' ⟨bb, rfl, rfl⟩; cases bb)
        · go_at_call 16
          refine (hsan _).mono ?_
          rintro e w1 ⟨rfl, hb1⟩
          have HB1 := hid hb1
          clear hb1
          go_wp2
          go_ret
          exact ⟨rfl, HB1.out⟩
        · go_at_call 48
          refine HT.out.mono ?_
          rintro e w1 ⟨v1, rfl, ho1, hb1⟩
          obtain ⟨B1, d1, rfl, _, hr1⟩ := own_reads ho1
          have HR1 := hid hr1
          have HB1 := hid hb1
          clear ho1 hr1 hb1
          go_wp2_with fail
          go_at_call 49
          refine (HRT.out _ HB1.out).mono ?_
          rintro e w2 ⟨v2, rfl, ho2, hb2⟩
          obtain ⟨B2, d2, rfl, _, hr2⟩ := own_reads ho2
          have HR2 := hid hr2
          have HB2 := hid (HB1.out.trans (hb2.mono HB1.out.size))
          have HB12 := hid hb2
          have HX2 := hid (Has.new w2 34 (.slice B2 xs.length d2) (.int .i64 er))
          clear ho2 hr2 hb2
          go_wp2_with fail
          go_at_call 50
          refine (HCT.out _ (HB2.out.alloc HB2.out.size _)).mono ?_
          rintro e w3 ⟨v3, ps3, rfl, hd3, ho3, hw3, hb3⟩
          obtain ⟨B3, d3, rfl, hp3⟩ := cut_ps hd3 ho3 hw3
          have HB3 := hid (below_next HB2.out hb3)
          have HB23 := hid (below_next (Below.refl _ _) hb3)
          have HX3 := hid (HX2.out.below hb3)
          have HD3 := hid hd3
          have HP3 := hid hp3
          clear hd3 ho3 hw3 hb3 hp3
          go_wp2_with fail
          go_at_call 51
          refine (HRC.out _ HB3.out).mono ?_
          rintro e w4 ⟨v4, ps4, rfl, hd4, ho4, hw4, hb4⟩
          obtain ⟨B4, d4, rfl, hp4⟩ := cut_ps hd4 ho4 hw4
          have HB4 := hid (below_go HB3.out hb4)
          have HB34 := hid hb4
          have HX4 := hid (HX3.out.below hb4)
          have HD4 := hid hd4
          have HP4 := hid hp4
          obtain ⟨er2, her2⟩ : ∃ er2, cutE tx l = er2 := ⟨_, rfl⟩
          rw [her2]
          have HY4 := hid (Has.new w4 84 (.slice B4 ps4.length d4) (.int .i64 er2))
          clear hd4 ho4 hw4 hb4 hp4 her2
          go_wp2_with fail
          go_at_call 16
          refine (hsan _).mono ?_
          rintro e w5 ⟨rfl, hb5⟩
          have HB5 := hid (below_next HB4.out hb5)
          have HB45 := hid (below_next (Below.refl _ _) hb5)
          obtain ⟨-, x0, x1⟩ := (HX4.out.alloc _).below hb5
          obtain ⟨-, y0, y1⟩ := HY4.out.below hb5
          clear hb5
          have s1 := HB12.out.size
          have s2 := HB23.out.size
          have s3 := HB34.out.size
          have s4 := HB45.out.size
          have HE := hid (show ps3.map dataP = ps4.map dataP from HD3.out.trans HD4.out.symm)
          have hpl : ps4.length = ps3.length := by have := congrArg List.length HE.out; simpa using this.symm
          have H1 := hid (show Reads w5 w5.heap.size 1 B1 xs.length (xs.map (Value.int .i64)) from ((((HR1.out.below HB12.out).mono s1 |>.below HB23.out).mono s2 |>.below HB34.out).mono s3 |>.below HB45.out).mono s4)
          have H2 := hid (show Reads w5 w5.heap.size 1 B2 xs.length (xs.map (Value.int .i64)) from (((HR2.out.below HB23.out).mono s2 |>.below HB34.out).mono s3 |>.below HB45.out).mono s4)
          have H3 := hid (show Ps w5 w5.heap.size B3 ps3.length ps3 from ((HP3.out.below HB34.out).mono s3 |>.below HB45.out).mono s4)
          have H4 := hid (show Ps w5 w5.heap.size B4 ps3.length ps4 by rw [← hpl]; exact (HP4.out.below HB45.out).mono s4)
          rw [hpl] at y0
          have HPL := hid hpl
          clear hpl
          go_wp2_with (first
            | (go_at_call 29; refine (sameInts_any B1 xs.length d1 xs B2 xs.length d2 xs w5 w5.heap.size H1.out H2.out HXL.out).mono ?_; rintro e w6 ⟨rfl, d, rfl⟩; rw [decide_eq_true rfl])
            | (go_at_call 52; refine (samePieces_any B3 ps3.length d3 ps3 B4 d4 ps4 _ w5.heap.size (H3.out.keep (by intro _ _; rfl)) (H4.out.keep (by intro _ _; rfl)) HE.out).mono ?_; rintro e w7 ⟨rfl, d', rfl⟩))
          go_ret
          exact ⟨rfl, below_drewN HB5.out _⟩
end Go.Proofs.YtcoplbaopaigcaaGreat
