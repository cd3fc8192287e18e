/- IsOrder and Text of the specification. -/
import Derived.OneCell
import Derived.Test.YtcoplbaopaigcaaGreatTqR
set_option linter.all false
namespace Go.Proofs.YtcoplbaopaigcaaGreat
open Go.RowKit
theorem isOrd_row {ps : List Pc} {gl : List Int} (he : errP ps = 0) : isOrd ps gl = (((takeS (trs ps) none gl).1 && decide (0 < gl.length)) && decide (gl.length = ps.length)) := by
  unfold isOrd orderS
  rw [if_pos he]
  obtain ⟨_, _, hnd⟩ := errP_ok he
  cases h : (takeS (trs ps) none gl).1 with
  | false => simp
  | true =>
    obtain ⟨_, i2⟩ := takeS_ids gl (trs ps) none (by rw [trs_ids]; exact hnd) h
    rw [trs_length] at i2
    congr 1
    rw [decide_eq_decide]
    omega
theorem below_drewN0 (w : World) (d : Nat) : Below w.heap.size w (w.drewN d) := below_drewN (Below.refl _ _) d
set_option maxHeartbeats 4000000 in
set_option maxRecDepth 100000 in
theorem refIsOrder_any (A : Option Addr) (n c : Nat) (ps : List Pc) (A2 : Option Addr) (m c2 : Nat) (gl : List Int) (w : World) (B : Nat) (hB : B ≤ w.heap.size) (hq : Ps w B A n ps) (hr : Reads w B 1 A2 m (gl.map (Value.int .i64))) (hm : m ≤ maxLen) :
    Calls Tryz.prog 22 #[.slice A n c, .slice A2 m c2] w fun e w' => e = .returned (.tuple #[.bool (isOrd ps gl), .int .i64 (errP ps)]) ∧ Below w.heap.size w w' := by
  have HL := hid hq.1
  have HL2 := hid (show gl.length = m by have := hr.1; simpa using this)
  have HQ := hid hq
  have HR := hid hr
  have hm' := hm
  unfold maxLen at hm
  have hn := hq.2.1
  unfold maxLen at hn
  have HC := hid (refCheck_any A n c ps w B hB hq)
  obtain ⟨er, her⟩ : ∃ er, errP ps = er := ⟨_, rfl⟩
  have HE := hid her
  rw [her] at HC ⊢
  clear hq hr her
  by_cases h0 : er = 0
  · subst h0
    obtain ⟨h24, hok, hnd⟩ := errP_ok HE.out
    have HRW := hid (fun (w1 : World) (hb : Below w.heap.size w w1) => refRow_any A n c ps A2 m c2 gl w1 B (HQ.out.below (hb.mono hB)) hok hnd (HR.out.below (hb.mono hB)) hm')
    have HO := hid (isOrd_row (gl := gl) HE.out)
    obtain ⟨rb, hrb⟩ : ∃ rb, ((takeS (trs ps) none gl).1 && decide (0 < gl.length)) = rb := ⟨_, rfl⟩
    rw [hrb] at HRW HO
    clear hok hnd hrb h24
    by_cases hmn : m = n
    · have HX := hid (show isOrd ps gl = rb by rw [HO.out, HL2.out, HL.out]; simp [hmn])
      rw [HX.out]
      subst hmn
      cases rb
      all_goals
        go_enter Tryz.func22, Tryz.ntmps22
        go_wp2_with (first
          | (go_at_call 28; refine HC.out.mono ?_; rintro e w1 ⟨rfl, hb1⟩; have HB1 := hid hb1; clear hb1)
          | (go_at_call 77; refine (HRW.out _ HB1.out).mono ?_; rintro e w2 ⟨rfl, d, rfl⟩))
        refine bodyPost_ret (v := .tuple #[.bool _, .int .i64 0]) (by simp [results, Tryz.results22, go_sem]) rfl ⟨rfl, HB1.out.trans ((below_drewN0 _ _).mono HB1.out.size)⟩
    · have hne : ¬ (m : Int) = n := by omega
      have hne' : ((m : Int) == n) = false := by simp only [beq_eq_false_iff_ne, ne_eq]; omega
      have HX := hid (show isOrd ps gl = false by rw [HO.out, HL2.out, HL.out]; simp [hmn])
      rw [HX.out]
      clear hmn
      cases rb
      all_goals
        go_enter Tryz.func22, Tryz.ntmps22
        go_wp2_with (first
          | (go_at_call 28; refine HC.out.mono ?_; rintro e w1 ⟨rfl, hb1⟩; have HB1 := hid hb1; clear hb1)
          | (go_at_call 77; refine (HRW.out _ HB1.out).mono ?_; rintro e w2 ⟨rfl, d, rfl⟩))
        refine bodyPost_ret (v := .tuple #[.bool _, .int .i64 0]) (by simp [results, Tryz.results22, go_sem]) rfl ⟨rfl, HB1.out.trans ((below_drewN0 _ _).mono HB1.out.size)⟩
  · have HO := hid (show isOrd ps gl = false by unfold isOrd; rw [if_neg (by rw [HE.out]; exact h0)])
    rw [HO.out]
    clear HO
    go_enter Tryz.func22, Tryz.ntmps22
    go_wp2_with (go_at_call 28; refine HC.out.mono ?_; rintro e w1 ⟨rfl, hb1⟩; have HB1 := hid hb1; clear hb1)
    refine bodyPost_ret (v := .tuple #[.bool false, .int .i64 er]) (by simp [results, Tryz.results22, go_sem]) rfl ⟨rfl, HB1.out⟩
end Go.Proofs.YtcoplbaopaigcaaGreat
namespace Go.Proofs.YtcoplbaopaigcaaGreat
open Go.RowKit Go.Maps
/-- It returns a struct of a list of numbers of its own, and an error. -/
def RetIs (xs : List Int) (er : Int) (w : World) (e : Ending) (w' : World) : Prop := ∃ v, e = .returned (.agg #[v, .int .i64 er]) ∧ w'.ownsRow w.heap.size 3 1 v xs.length (xs.map (Value.int .i64)) ∧ Below w.heap.size w w'
theorem own_back {w : World} {b0 b1 n size : Nat} {e : TypeId} {v : Value} {xs : List Value} (h : w.ownsRow (b1 + 1) e size v n xs) (h01 : b0 < b1) (u1 u2 : Value) : ((w.setCell ⟨b0, 0, none⟩ u1).setCell ⟨b0, 1, none⟩ u2).ownsRow b0 e size v n xs :=
  own_base (ownsRow_setCell_below (a := ⟨b0, 1, none⟩) (ownsRow_setCell_below (a := ⟨b0, 0, none⟩) h (by show b0 < b1 + 1; omega) u1) (by show b0 < b1 + 1; omega) u2) (by omega)
def T3Rel (ps : List Pc) (gl : List Int) (m b1 : Nat) (w wr : World) (i : Value) : Prop :=
  ∃ (k : Nat) (v : Value), k ≤ m ∧ i = .int .i64 k ∧ Below w.heap.size w wr ∧ Blk wr w.heap.size 34 #[.slice none 0 0, .int .i64 0] ∧ Blk wr b1 34 #[v, .int .i64 0] ∧
    wr.ownsRow (b1 + 1) 3 1 v (textS ps (gl.take k)).length ((textS ps (gl.take k)).map (Value.int .i64))
theorem t3_next {ps : List Pc} {gl : List Int} {m b1 k : Nat} {q : Pc} {w wo w2 : World} {v v1 : Value} (hkl : k < gl.length) (hk : k < m) (hz : q.id = gl[k]) (hws : wordsOf ps q.id = q.ws) (hbl : Below w.heap.size w wo) (hb1 : w.heap.size < b1)
    (HB0 : Hid (Blk wo w.heap.size 34 #[.slice none 0 0, .int .i64 0])) (HBK : Hid (Blk wo b1 34 #[v, .int .i64 0])) (HOW : Hid (wo.ownsRow (b1 + 1) 3 1 v (textS ps (gl.take k)).length ((textS ps (gl.take k)).map (Value.int .i64))))
    (HG : Hid (wo.drew.grownBy w2 v.ownBlock)) (HO : Hid (w2.ownsRow (b1 + 1) 3 1 v1 ((textS ps (gl.take k)).length + q.n) ((textS ps (gl.take k)).map (Value.int .i64) ++ q.ws.map (Value.int .i64)))) (hql : q.ws.length = q.n) :
    T3Rel ps gl m b1 w (w2.setCell ⟨b1, 0, none⟩ v1) (.int .i64 ((k : Int) + 1)) := by
  have e : textS ps (gl.take (k + 1)) = textS ps (gl.take k) ++ q.ws := by rw [textS_succ hkl, ← hz, hws]
  have hne : ∀ b, b ≤ b1 → some b ≠ v.ownBlock := fun b hb e => by have := (HOW.out.lt b e.symm).1; omega
  have hBd : Below wo.heap.size wo wo.drew := below_drew wo
  refine ⟨k + 1, v1, by omega, by go_num, ?_, ?_, ?_, ?_⟩
  · exact ((hbl.trans (hBd.mono hbl.size)).grown HG.out (by have := hbl.size; simp; omega) (fun g hg => by have := (HOW.out.lt g hg).1; omega)).setCell (by show w.heap.size ≤ b1; omega) _
  · have h1 : Blk wo.drew w.heap.size 34 #[.slice none 0 0, .int .i64 0] := HB0.out.below hBd HB0.out.lt
    have h2 := h1.grown HG.out (hne _ (by omega))
    unfold Blk at h2 ⊢
    rw [Below.heap_setCell _ _ _ _ (by show w.heap.size ≠ b1; omega)]
    exact h2
  · have h1 : Blk wo.drew b1 34 #[v, .int .i64 0] := HBK.out.below hBd HBK.out.lt
    have h2 := (h1.grown HG.out (hne _ (Nat.le_refl _))).set 0 v1
    exact h2
  · rw [e, List.map_append, List.length_append, hql]
    exact ownsRow_setCell_below HO.out (by show b1 < b1 + 1; omega) _
set_option maxHeartbeats 20000000 in
set_option maxRecDepth 100000 in
theorem refText_any (A : Option Addr) (n c : Nat) (ps : List Pc) (A2 : Option Addr) (m c2 : Nat) (gl : List Int) (w : World) (B : Nat) (hB : B ≤ w.heap.size) (hq : Ps w B A n ps) (hr : Reads w B 1 A2 m (gl.map (Value.int .i64))) (hm : m ≤ maxLen) :
    Calls Tryz.prog 49 #[.slice A n c, .slice A2 m c2] w (RetIs (textR ps gl) (textE ps gl) w) := by
  have HL := hid hq.1
  have HGL := hid (show gl.length = m by have := hr.1; simpa using this)
  obtain ⟨W, hW⟩ : ∃ W, w.alloc (Obj.cells #[Value.slice none 0 0, Value.int .i64 0] 34) = W := ⟨_, rfl⟩
  have hBW : Below w.heap.size w W := by rw [← hW]; exact (Below.refl _ _).alloc (Nat.le_refl _) _
  have HBW := hid hBW
  have HK := hid (show Blk W w.heap.size 34 #[.slice none 0 0, .int .i64 0] by rw [← hW]; exact Blk.new _ _ _)
  have HQ := hid (hq.below (hBW.mono hB))
  have HR := hid (hr.below (hBW.mono hB))
  have hBs : B ≤ W.heap.size := Nat.le_trans hB hBW.size
  have HC := hid (refIsOrder_any A n c ps A2 m c2 gl W B hBs HQ.out HR.out hm)
  obtain ⟨er, her⟩ : ∃ er, errP ps = er := ⟨_, rfl⟩
  obtain ⟨bo, hbo⟩ : ∃ bo, isOrd ps gl = bo := ⟨_, rfl⟩
  have HE := hid her
  have HO := hid hbo
  rw [her, hbo] at HC
  clear hq hr her hbo hBW
  by_cases h0 : er = 0
  · subst h0
    cases bo with
    | false =>
      have HX := hid (show textR ps gl = [] ∧ textE ps gl = 1 by unfold textR textE; rw [HO.out, HE.out]; exact ⟨rfl, rfl⟩)
      rw [HX.out.1, HX.out.2]
      go_enter Tryz.func49, Tryz.ntmps49
      go_wp2_with (go_at_call 22; refine HC.out.mono ?_; rintro e w1 ⟨rfl, hb1⟩; have HB1 := hid hb1; have hk1 := HK.out.below hb1 HK.out.lt; have r0 := hk1.cell 0; have r1 := hk1.cell 1; have z0 := blk_frozen hk1 0; have z1 := blk_frozen hk1 1; clear hb1 hk1)
      refine bodyPost_ret (v := .agg #[.slice none 0 0, .int .i64 1]) (by simp [results, Tryz.results49, go_sem, r0, r1]) rfl ⟨_, rfl, World.ownsRow_nil _ _ _ _, ?_⟩
      exact ((HBW.out.trans (HB1.out.mono HBW.out.size)).setCell (Nat.le_refl _) _).setCell (Nat.le_refl _) _
    | true =>
      have HX := hid (show textR ps gl = textS ps gl ∧ textE ps gl = 0 by unfold textR textE; rw [HO.out, HE.out]; exact ⟨rfl, rfl⟩)
      rw [HX.out.1, HX.out.2]
      obtain ⟨h24, hok, hnd⟩ := errP_ok HE.out
      have HOK := hid hok
      have HND := hid hnd
      have hids := isOrd_ids HO.out
      have HIN := hid hids.2.2
      have hm24 : m ≤ 24 := by have := hids.2.1; have := HGL.out; omega
      have HM := hid (textS_length (ps := ps) (wordsOf_le (w := W) (B := B) fun q h => ⟨HOK.out q h, HQ.out.2.2.1 q h⟩))
      have hn24 : n ≤ 24 := by have := HL.out; omega
      clear hok hnd hids
      obtain ⟨i0, hi0, hz0, hz1, hz2⟩ := info_parts info3'
      go_enter Tryz.func49, Tryz.ntmps49
      go_wp2_with (go_at_call 22; refine HC.out.mono ?_; rintro e w1 ⟨rfl, hb1⟩; have HB1 := hid hb1; clear hb1)
      have HW1 := hid (HBW.out.trans (HB1.out.mono HBW.out.size))
      have hs1 : w.heap.size < w1.heap.size := by have := HK.out.lt; have := HB1.out.size; omega
      go_loopw [8] (fun i wr => T3Rel ps gl m w1.heap.size w wr i) (fun i _ => m - (intOf i).toNat)
      case atStart => exact ⟨0, _, Nat.zero_le _, rfl, HW1.out.alloc HW1.out.size _, (HK.out.below HB1.out HK.out.lt).alloc _, Blk.new _ _ _, World.ownsRow_nil _ _ _ _⟩
      case round =>
        obtain ⟨k, v, hk, rfl, hbl, hb0, hbk, hown⟩ := hrel
        have HB0 := hid hb0
        have HBK := hid hbk
        have HOW := hid hown
        clear hb0 hbk hown
        obtain ⟨wo, rfl⟩ : ∃ wo : World, wo = wr := ⟨_, rfl⟩
        have f0 : wo.cell? ⟨w1.heap.size, 0, none⟩ = some v := HBK.out.cell 0
        have f1 : wo.cell? ⟨w1.heap.size, 1, none⟩ = some (.int .i64 0) := HBK.out.cell 1
        by_cases hlt : k < m
        · have hkl : k < gl.length := by rw [HGL.out]; exact hlt
          have hqw := HQ.out.keep (w' := wo) fun p hp => by rw [hbl.cell (p := p) (by omega), HBW.out.cell (p := p) (by omega)]
          have hrw := HR.out.keep (w' := wo) fun p hp => by rw [hbl.cell (p := p) (by omega), HBW.out.cell (p := p) (by omega)]
          obtain ⟨ad, rfl, hc⟩ := reads_int hrw hlt hkl
          obtain ⟨q0, hqm, hqz⟩ := HIN.out gl[k] (List.getElem_mem _)
          rcases placeR_cases ps gl[k] with ⟨_, hno⟩ | ⟨a, q, hp, hqa, hqz2⟩
          · exact absurd hqz (hno q0 hqm)
          · have hqm2 := List.mem_of_getElem? hqa
            have HZ := hid hqz2
            have HWS := hid (wordsOf_at HND.out hqm2)
            have han : a < n := by
              have := (List.getElem?_eq_some_iff.1 hqa).1
              rw [HL.out] at this; exact this
            obtain ⟨adp, p, q', rfl, hpe, hqa', hfit, hat⟩ := hqw.at_ han
            obtain rfl : q' = q := by rw [hqa] at hqa'; exact (Option.some.inj hqa').symm
            have e1 := hat.c1
            have hpp := pok_parts (HOK.out q' hqm2)
            obtain ⟨hn1, hn2⟩ : 1 ≤ q'.n ∧ q'.n ≤ 40 := ⟨hpp.2.2.1, hpp.2.2.2.1⟩
            have hrq := hfit.2.2.2
            obtain ⟨adw, hA, hab, hcw⟩ := hrq.2 (by omega)
            rw [hA] at e1
            have HWL := hid (show (q'.ws.map (Value.int .i64)).length = q'.n * 1 from hrq.1)
            have HCW := hid hcw
            have HQL := hid (show q'.ws.length = q'.n by have := hrq.1; simpa using this)
            obtain ⟨z, hz⟩ : ∃ z, gl[k] = z := ⟨_, rfl⟩
            rw [hz] at hc
            have HP1 := hid (show placeR ps z = a by rw [← hz]; exact hp)
            have HPC := hid (fun (w' : World) (h : ∀ p : Addr, w'.cell? p = wo.cell? p) => place_any (some adp) n c ps z w' B (hqw.keep fun p _ => h p))
            have htl := HM.out (gl.take k)
            have htk : (gl.take k).length = k := by simp; omega
            have HTL := hid (show (textS ps (gl.take k)).length ≤ 960 by omega)
            clear hp hqa hqz2 hqa' hfit hat hrq hcw hA hqm hqm2 hqz hpp hqw hrw hz htk htl
            have htl := HTL.out
            go_wp2
            go_region_law (first
              | (go_simp; go_at_call 71; refine (HPC.out _ (by intro _; rfl)).mono ?_; rintro e w' ⟨rfl, rfl⟩; rw [HP1.out])
              | (refine step_append_own rfl (.tmp 30) (.tmp 40) 25 rfl (w1.heap.size + 1) 3 i0 _ 1 8 Tryz.underlying25 hi0 hz0 hz1 hz2 rfl (by decide) v _ _ rfl (own_below HOW.out (below_drew wo)) adw q'.n q'.c (q'.ws.map (Value.int .i64)) rfl HWL.out HCW.out (by intro u hu; obtain ⟨z, _, rfl⟩ := List.mem_map.1 hu; rfl) (by unfold maxLen; omega) (by omega) (by have := HBK.out.lt; simp; omega) ?_; intro v1 w2 hown1 hg1; obtain ⟨A1, d1, rfl⟩ := own_slice hown1; have HG1 := hid hg1; have HO1 := hid hown1; have hbk2 := (HBK.out.below (below_drew wo) HBK.out.lt).grown hg1 (fun e => by have := (HOW.out.lt _ e.symm).1; omega); have y0 := hbk2.cell 0; have zz0 := blk_frozen hbk2 0; clear hg1 hown1 hbk2))
            all_goals (
              go_wp2
              go_roundw
              case rel => exact t3_next hkl hlt HZ.out HWS.out hbl hs1 HB0 HBK HOW HG1 HO1 HQL.out
              case measure => simp [intOf]; omega)
        · have HX2 := hid (show k = m by omega)
          obtain ⟨Av, cv, rfl⟩ := own_slice HOW.out
          have g0 : wo.cell? ⟨w.heap.size, 0, none⟩ = some (.slice none 0 0) := HB0.out.cell 0
          have g1 : wo.cell? ⟨w.heap.size, 1, none⟩ = some (.int .i64 0) := HB0.out.cell 1
          have z0 := blk_frozen HB0.out 0
          have z1 := blk_frozen HB0.out 1
          go_wp2
          refine bodyPost_ret (v := .agg #[.slice Av (textS ps (gl.take k)).length cv, .int .i64 0]) (by simp [results, Tryz.results49, go_sem, g0, g1]) rfl ⟨_, rfl, ?_, (hbl.setCell (Nat.le_refl _) _).setCell (Nat.le_refl _) _⟩
          have e : gl.take k = gl := by rw [HX2.out, ← HGL.out]; simp
          have := own_back HOW.out hs1 (Value.slice Av (textS ps (gl.take k)).length cv) (.int .i64 0)
          rw [e] at this ⊢
          exact this
  · have HX := hid (show textR ps gl = [] ∧ textE ps gl = er by
      have : isOrd ps gl = false := by unfold isOrd; rw [if_neg (by rw [HE.out]; exact h0)]
      unfold textR textE; rw [this, HE.out, if_neg h0]; exact ⟨rfl, rfl⟩)
    have hbf : bo = false := by rw [← HO.out]; unfold isOrd; rw [if_neg (by rw [HE.out]; exact h0)]
    subst hbf
    rw [HX.out.1, HX.out.2]
    go_enter Tryz.func49, Tryz.ntmps49
    go_wp2_with (go_at_call 22; refine HC.out.mono ?_; rintro e w1 ⟨rfl, hb1⟩; have HB1 := hid hb1; have hk1 := HK.out.below hb1 HK.out.lt; have r0 := hk1.cell 0; have r1 := hk1.cell 1; have z0 := blk_frozen hk1 0; have z1 := blk_frozen hk1 1; clear hb1 hk1)
    refine bodyPost_ret (v := .agg #[.slice none 0 0, .int .i64 er]) (by simp [results, Tryz.results49, go_sem, r0, r1]) rfl ⟨_, rfl, World.ownsRow_nil _ _ _ _, ?_⟩
    exact ((HBW.out.trans (HB1.out.mono HBW.out.size)).setCell (Nat.le_refl _) _).setCell (Nat.le_refl _) _
end Go.Proofs.YtcoplbaopaigcaaGreat
