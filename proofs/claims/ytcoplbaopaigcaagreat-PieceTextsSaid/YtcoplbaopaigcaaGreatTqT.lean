/- Cut of the specification. -/
import Derived.Test.YtcoplbaopaigcaaGreatTqS
set_option linter.all false
namespace Go.Proofs.YtcoplbaopaigcaaGreat
open Go.RowKit
def RetPs (tx l : List Int) (w : World) (e : Ending) (w' : World) : Prop :=
  ∃ v ps, e = .returned (.agg #[v, .int .i64 (cutE tx l)]) ∧ ps.map dataP = cutL tx l ∧ w'.ownsRow w.heap.size 107 3 v ps.length (cellsP ps) ∧ OwnsWords w' w.heap.size ps ∧ Below w.heap.size w w'
theorem retPs_err {tx l : List Int} {w w' : World} {er : Int} (h : cutE tx l = er) (h0 : er ≠ 0) (hb : Below w.heap.size w w') : RetPs tx l w (.returned (.agg #[.slice none 0 0, .int .i64 er])) w' :=
  ⟨_, [], by rw [h], by unfold cutL; rw [h, if_neg h0]; rfl, World.ownsRow_nil _ _ _ _, by intro p hp; simp at hp, hb⟩
def Cut3 (tx l : List Int) (m b1 : Nat) (w wr : World) (st i : Value) : Prop :=
  ∃ (k s : Nat) (v : Value) (ps : List Pc), k ≤ m ∧ i = .int .i64 k ∧ st = .int .i64 s ∧ s ≤ tx.length ∧ endsGo tx.length 0 l = endsGo tx.length s (l.drop k) ∧ Below w.heap.size w wr ∧ ps.length = k ∧
    Blk wr w.heap.size 84 #[.slice none 0 0, .int .i64 0] ∧ Blk wr b1 84 #[v, .int .i64 0] ∧ wr.ownsRow (b1 + 1) 107 3 v k (cellsP ps) ∧ OwnsWords wr (b1 + 1) ps ∧ ps.map dataP ++ cutGo tx k s (l.drop k) = cutGo tx 0 0 l
theorem cut3_next {tx l : List Int} {n m k s e b1 : Nat} {ps : List Pc} {w wo w7 w3 : World} {v v1 : Value} {A' : Option Addr} {d' : Nat} {y : Int} {o : Obj} (hkl : k < l.length) (hkm : k < m) (HL : Hid (tx.length = n)) (HZ : Hid (l[k] = (e : Int)))
    (HQ4 : Hid (endsGo tx.length s ((e : Int) :: l.drop (k + 1)) = endsGo tx.length e (l.drop (k + 1)))) (HEG : Hid (endsGo tx.length 0 l = endsGo tx.length s (l.drop k))) (HPL : Hid (ps.length = k))
    (HDA : Hid (ps.map dataP ++ cutGo tx k s (l.drop k) = cutGo tx 0 0 l)) (hen : e ≤ n) (HY : Hid (tx.getD (e % tx.length) 0 = y))
    (hbl : Below w.heap.size w wo) (hb1 : w.heap.size < b1) (HB0 : Hid (Blk wo w.heap.size 84 #[.slice none 0 0, .int .i64 0])) (HBK : Hid (Blk wo b1 84 #[v, .int .i64 0]))
    (HOW : Hid (wo.ownsRow (b1 + 1) 107 3 v k (cellsP ps))) (HOO : Hid (OwnsWords wo (b1 + 1) ps)) (hb7 : Below wo.heap.size wo w7)
    (HOX : w7.ownsRow (b1 + 1) 3 1 (.slice A' (e - s) d') (e - s) (((tx.drop s).take (e - s)).map (Value.int .i64))) (HG : Hid ((w7.alloc o).grownBy w3 v.ownBlock))
    (HO : Hid (w3.ownsRow (b1 + 1) 107 3 v1 (k + 1) (cellsP ps ++ [.int .i64 ((k : Int) + 1), .slice A' (e - s) d', .int .i64 y]))) :
    Cut3 tx l m b1 w (w3.setCell ⟨b1, 0, none⟩ v1) (.int .i64 e) (.int .i64 ((k : Int) + 1)) := by
  have hWo : Below wo.heap.size wo (w7.alloc o) := hb7.alloc hb7.size _
  have hown : (w7.alloc o).ownsRow (b1 + 1) 107 3 v k (cellsP ps) := own_below HOW.out hWo
  have hdr := List.drop_eq_getElem_cons hkl
  have hne : ∀ b, b ≤ b1 → some b ≠ v.ownBlock := fun b hb e => by have := (HOW.out.lt b e.symm).1; omega
  refine ⟨k + 1, e, v1, ps ++ [⟨(k : Int) + 1, A', e - s, d', (tx.drop s).take (e - s), y⟩], by omega, by go_num, rfl, by rw [HL.out]; exact hen, ?_, ?_, ?_, ?_, ?_, ?_, ?_, ?_⟩
  · rw [HEG.out, hdr, HZ.out, HQ4.out]
  · exact ((hbl.trans (hWo.mono hbl.size)).grown HG.out (by have := hbl.size; have := hWo.size; omega) (fun g hg => by have := (HOW.out.lt g hg).1; omega)).setCell (by show w.heap.size ≤ b1; omega) _
  · simp [HPL.out]
  · have h2 := (HB0.out.below hWo HB0.out.lt).grown HG.out (hne _ (by omega))
    unfold Blk at h2 ⊢
    rw [Below.heap_setCell _ _ _ _ (by show w.heap.size ≠ b1; omega)]
    exact h2
  · exact ((HBK.out.below hWo HBK.out.lt).grown HG.out (hne _ (Nat.le_refl _))).set 0 v1
  · rw [cellsP_app]; exact ownsRow_setCell_below HO.out (by show b1 < b1 + 1; omega) _
  · intro p hp
    refine ownsRow_setCell_below ?_ (by show b1 < b1 + 1; omega) _
    rcases List.mem_append.1 hp with hp | hp
    · exact own_grown (own_below (HOO.out p hp) hWo) hown (by decide) HG.out
    · have : p = ⟨(k : Int) + 1, A', e - s, d', (tx.drop s).take (e - s), y⟩ := by simpa using hp
      subst this
      exact own_grown (HOX.alloc _) hown (by decide) HG.out
  · rw [← HDA.out, hdr, HZ.out, cutGo, List.map_append, List.append_assoc]
    congr 1
    simp [dataP]
    exact HY.out.symm.trans (by simp)
theorem sub_cells {w : World} {ad : Addr} {tx : List Int} (h : ∀ j u, (tx.map (Value.int .i64))[j]? = some u → w.cell? (ad.add j) = some u) (s e : Nat) : ∀ j u, (((tx.drop s).take (e - s)).map (Value.int .i64))[j]? = some u → w.cell? ((ad.add s).add j) = some u := by
  intro j u hu
  rw [add_of_add]
  apply h
  rw [List.getElem?_map] at hu ⊢
  rw [List.getElem?_take] at hu
  split at hu
  · rwa [List.getElem?_drop] at hu
  · cases hu
theorem ints_one {xs : List Int} : ∀ u ∈ xs.map (Value.int .i64), u.oneCell' = true := by
  intro u hu; obtain ⟨z, _, rfl⟩ := List.mem_map.1 hu; rfl
theorem own_none {w w' : World} {base n size : Nat} {e : TypeId} {v : Value} {xs : List Value} (h : w.ownsRow base e size v n xs) (hg : w.grownBy w' none) : w'.ownsRow base e size v n xs :=
  h.kept hg (by cases v.ownBlock <;> simp)
theorem endsOk_no {W : Int} {l : List Int} (h : endsGo W 0 l = none) : endsOk W l = false := by unfold endsOk; rw [h]
theorem cutE_ends {tx l : List Int} (h1 : tx.length ≤ 960) (h2 : l.length ≤ 24) (h : endsOk tx.length l = false) : cutE tx l = 1 := by
  unfold cutE; rw [if_neg (by omega), h]; simp
end Go.Proofs.YtcoplbaopaigcaaGreat
namespace Go.Proofs.YtcoplbaopaigcaaGreat
open Go.RowKit
theorem new3s (w : World) (a : Addr) (u : Value) (t : TypeId) (x y z : Value) : ∀ j v, [x, y, z][j]? = some v → ((w.setCell a u).alloc (.cells #[x, y, z] t)).cell? ((⟨w.heap.size, 0, none⟩ : Addr).add j) = some v := by
  have := new3 (w.setCell a u) t x y z
  rwa [World.size_setCell] at this
set_option maxHeartbeats 20000000 in
set_option maxRecDepth 100000 in
theorem refCut_any (A : Option Addr) (n c : Nat) (tx : List Int) (A2 : Option Addr) (m c2 : Nat) (l : List Int) (w : World) (B : Nat) (hB : B ≤ w.heap.size) (hr : Reads w B 1 A n (tx.map (Value.int .i64))) (hn : n ≤ maxLen) (hcap : n ≤ c)
    (hr2 : Reads w B 1 A2 m (l.map (Value.int .i64))) (hm : m ≤ maxLen) (hwf : ∀ z ∈ l, -9223372036854775808 ≤ z ∧ z ≤ 9223372036854775807) :
    Calls Tryz.prog 51 #[.slice A n c, .slice A2 m c2] w (RetPs tx l w) := by
  have HL := hid (show tx.length = n by have := hr.1; simpa using this)
  have HL2 := hid (show l.length = m by have := hr2.1; simpa using this)
  unfold maxLen at hn hm
  obtain ⟨W, hW⟩ : ∃ W, w.alloc (Obj.cells #[Value.slice none 0 0, Value.int .i64 0] 84) = W := ⟨_, rfl⟩
  have hBW : Below w.heap.size w W := by rw [← hW]; exact (Below.refl _ _).alloc (Nat.le_refl _) _
  have HBW := hid hBW
  have HK := hid (show Blk W w.heap.size 84 #[.slice none 0 0, .int .i64 0] by rw [← hW]; exact Blk.new _ _ _)
  have HR := hid (hr.below (hBW.mono hB))
  have HR2 := hid (hr2.below (hBW.mono hB))
  have HWF := hid hwf
  have hBs : B ≤ W.heap.size := Nat.le_trans hB hBW.size
  have r0 : W.cell? ⟨w.heap.size, 0, none⟩ = some (.slice none 0 0) := HK.out.cell 0
  have r1 : W.cell? ⟨w.heap.size, 1, none⟩ = some (.int .i64 0) := HK.out.cell 1
  have z0 := blk_frozen HK.out 0
  have z1 := blk_frozen HK.out 1
  have HEND := hid (show ∀ u1 u2 : Value, Below w.heap.size w ((W.setCell ⟨w.heap.size, 0, none⟩ u1).setCell ⟨w.heap.size, 1, none⟩ u2) from fun u1 u2 => (HBW.out.setCell (Nat.le_refl _) _).setCell (Nat.le_refl _) _)
  clear hr hr2 hwf hBW
  by_cases h960 : 960 < n
  · have HE := hid (show cutE tx l = 2 by unfold cutE; rw [HL.out, if_pos (Or.inl h960)])
    go_enter Tryz.func51, Tryz.ntmps51
    go_wp2
    refine bodyPost_ret (v := .agg #[.slice none 0 0, .int .i64 2]) (by simp [results, Tryz.results51, go_sem, r0, r1]) rfl (retPs_err HE.out (by decide) (HEND.out _ _))
  · by_cases h24 : 24 < m
    · have HE := hid (show cutE tx l = 2 by unfold cutE; rw [HL2.out, if_pos (Or.inr h24)])
      go_enter Tryz.func51, Tryz.ntmps51
      go_wp2
      refine bodyPost_ret (v := .agg #[.slice none 0 0, .int .i64 2]) (by simp [results, Tryz.results51, go_sem, r0, r1]) rfl (retPs_err HE.out (by decide) (HEND.out _ _))
    · go_enter Tryz.func51, Tryz.ntmps51
      go_wp2
      clear hW
      go_loop [5] (WsRel tx n) (fun i => n - (intOf i).toNat)
      case atStart => exact ⟨0, Nat.zero_le _, rfl, by intros; omega⟩
      case round =>
        obtain ⟨k, hk, rfl, hall⟩ := hrel
        have HA := hid hall
        clear hall
        by_cases hlt : k < n
        · have hkl : k < tx.length := by rw [HL.out]; exact hlt
          obtain ⟨ad, rfl, hc⟩ := reads_int HR.out hlt hkl
          obtain ⟨y, hy⟩ : ∃ y, tx[k] = y := ⟨_, rfl⟩
          rw [hy] at hc
          have HY := hid hy
          clear hy
          by_cases g1 : win 1 9999 y = true
          · go_wp2_with (go_at_call 115; refine (in_any _ _ _ _).mono ?_; rintro e w' ⟨rfl, rfl⟩)
            go_round
            case rel =>
              refine ⟨k + 1, by omega, by go_num, fun j h hj => ?_⟩
              by_cases hjk : j = k
              · subst hjk; rw [HY.out]; exact g1
              · exact HA.out j h (by omega)
            case measure => simp [intOf]; omega
          · have g1' : win 1 9999 y = false := by simpa using g1
            have HE := hid (show cutE tx l = 1 by
              unfold cutE
              rw [HL.out, HL2.out, if_neg (by omega), wsOk_no hkl (by rw [HY.out]; exact g1')]; rfl)
            go_wp2_with (go_at_call 115; refine (in_any _ _ _ _).mono ?_; rintro e w' ⟨rfl, rfl⟩)
            refine bodyPost_ret (v := .agg #[.slice none 0 0, .int .i64 1]) (by simp [results, Tryz.results51, go_sem, r0, r1]) rfl (retPs_err HE.out (by decide) (HEND.out _ _))
        · have HWO := hid (show wsOk tx = true from wsOk_yes fun j h => HA.out j h (by rw [HL.out] at h; omega))
          clear HA
          have HCE := hid (fun (h : endsOk n l = false) => cutE_ends (tx := tx) (l := l) (by rw [HL.out]; omega) (by rw [HL2.out]; omega) (by rw [HL.out]; exact h))
          go_wp2
          go_loop [6, 7] (EnRel n l m) (fun _ i => m - (intOf i).toNat)
          case atStart => exact ⟨0, 0, Nat.zero_le _, rfl, rfl, by omega, by omega, rfl⟩
          case round =>
            obtain ⟨k, sv, hk, rfl, rfl, h0, h1, he⟩ := hrel
            have HE := hid he
            clear he
            by_cases hlt : k < m
            · have hkl : k < l.length := by rw [HL2.out]; exact hlt
              obtain ⟨ad, rfl, hc⟩ := reads_int HR2.out hlt hkl
              have hzw := HWF.out l[k] (List.getElem_mem _)
              have hdr := List.drop_eq_getElem_cons hkl
              obtain ⟨z, hz⟩ : ∃ z, l[k] = z := ⟨_, rfl⟩
              rw [hz] at hc hzw hdr
              have HD := hid hdr
              clear hz hdr
              by_cases g1 : z ≤ sv
              · have g1' : decide (z ≤ sv) = true := by simpa using g1
                have HN := hid (HCE.out (endsOk_no (by rw [HE.out, HD.out, endsGo, if_pos (by
                  have : win 1 40 (z - sv) = false := by cases hh : win 1 40 (z - sv) with | false => rfl | true => have := win_iff.1 hh; omega
                  simp [this])])))
                go_wp2
                refine bodyPost_ret (v := .agg #[.slice none 0 0, .int .i64 1]) (by simp [results, Tryz.results51, go_sem, r0, r1]) rfl (retPs_err HN.out (by decide) (HEND.out _ _))
              · have g1' : decide (z ≤ sv) = false := by simpa using g1
                by_cases g2 : (n : Int) < z
                · have g2' : decide ((n : Int) < z) = true := by simpa using g2
                  have HN := hid (HCE.out (endsOk_no (by rw [HE.out, HD.out, endsGo, if_pos (by simp [g2])])))
                  go_wp2
                  refine bodyPost_ret (v := .agg #[.slice none 0 0, .int .i64 1]) (by simp [results, Tryz.results51, go_sem, r0, r1]) rfl (retPs_err HN.out (by decide) (HEND.out _ _))
                · have g2' : decide ((n : Int) < z) = false := by simpa using g2
                  by_cases g3 : 40 < z - sv
                  · have g3' : decide (40 < z - sv) = true := by simpa using g3
                    have HN := hid (HCE.out (endsOk_no (by rw [HE.out, HD.out, endsGo, if_pos (by
                      have : win 1 40 (z - sv) = false := by cases hh : win 1 40 (z - sv) with | false => rfl | true => have := win_iff.1 hh; omega
                      simp [this])])))
                    go_wp2
                    refine bodyPost_ret (v := .agg #[.slice none 0 0, .int .i64 1]) (by simp [results, Tryz.results51, go_sem, r0, r1]) rfl (retPs_err HN.out (by decide) (HEND.out _ _))
                  · have g3' : decide (40 < z - sv) = false := by simpa using g3
                    have HN := hid (show endsGo n 0 l = endsGo n z (l.drop (k + 1)) by
                      rw [HE.out, HD.out, endsGo, if_neg]
                      have : win 1 40 (z - sv) = true := win_iff.2 ⟨by omega, by omega⟩
                      simp [this]; omega)
                    go_wp2
                    go_round
                    case rel => exact ⟨k + 1, z, by omega, by go_num, rfl, by omega, by omega, HN.out⟩
                    case measure => simp [intOf]; omega
            · have HN := hid (show endsGo n 0 l = some sv by
                rw [HE.out, show l.drop k = [] by rw [show k = l.length by rw [HL2.out]; omega]; simp, endsGo])
              clear HE
              by_cases hm0 : m = 0
              · have HX := hid (HCE.out (by unfold endsOk; rw [HN.out, HL2.out]; simp [hm0]))
                have hm1 : ((m : Int) == 0) = true := by simpa using hm0
                have HM0 := hid hm0
                clear hm0
                go_wp2
                refine bodyPost_ret (v := .agg #[.slice none 0 0, .int .i64 1]) (by simp [results, Tryz.results51, go_sem, r0, r1]) rfl (retPs_err HX.out (by decide) (HEND.out _ _))
              · have hm1 : ((m : Int) == 0) = false := by simpa using hm0
                by_cases hsn : sv = n
                · have HX := hid (show cutE tx l = 0 by
                    unfold cutE endsOk
                    rw [HL.out, HL2.out, if_neg (by omega), HWO.out, HN.out]
                    simp [hsn]; omega)
                  have hsn1 : (sv != (n : Int)) = false := by simpa using hsn
                  have HCL := hid (show cutL tx l = cutGo tx 0 0 l by unfold cutL; rw [HX.out, if_pos rfl])
                  have HS := hid (show ∀ s k, endsGo tx.length 0 l = endsGo tx.length s (l.drop k) → endsGo (tx.length : Int) s (l.drop k) ≠ none by
                    intro s k h e
                    rw [e, HL.out, HN.out] at h
                    cases h)
                  have HSN := hid hsn
                  clear hsn
                  obtain ⟨i0, hi0, hz0, hz1, hz2⟩ := info_parts info3'
                  obtain ⟨j0, hj0, hy0, hy1, hy2⟩ := info_parts info107
                  go_wp2
                  go_loopw [6, 9] (fun st i wr => Cut3 tx l m W.heap.size w wr st i) (fun _ i _ => m - (intOf i).toNat)
                  case atStart => exact ⟨0, 0, _, [], Nat.zero_le _, rfl, rfl, Nat.zero_le _, rfl, HBW.out.alloc HBW.out.size _, rfl, HK.out.alloc _, Blk.new _ _ _, World.ownsRow_nil _ _ _ _, by intro p hp; simp at hp, rfl⟩
                  case round =>
                    obtain ⟨k, s, v, ps, hk, rfl, rfl, hsn, heg, hbl, hpl, hb0, hbk, hown, howw, hdat⟩ := hrel
                    have HEG := hid heg
                    have HPL := hid hpl
                    have HB0 := hid hb0
                    have HBK := hid hbk
                    have HOW := hid hown
                    have HOO := hid howw
                    have HDA := hid hdat
                    clear heg hpl hb0 hbk hown howw hdat r0 r1 z0 z1
                    obtain ⟨wo, rfl⟩ : ∃ wo : World, wo = wr := ⟨_, rfl⟩
                    have hsW : w.heap.size < W.heap.size := HK.out.lt
                    have hsO : W.heap.size < wo.heap.size := HBK.out.lt
                    by_cases hlt : k < m
                    · have hkl : k < l.length := by rw [HL2.out]; exact hlt
                      have hrl := HR2.out.keep (w' := wo) fun p hp => by rw [hbl.cell (p := p) (by omega), HBW.out.cell (p := p) (by omega)]
                      obtain ⟨ad2, rfl, hc2⟩ := reads_int hrl hlt hkl
                      have hab2 : ad2.block < B := by obtain ⟨a, ea, hb, _⟩ := HR2.out.2 (by omega); cases ea; exact hb
                      have hst := endsGo_step (by have := HS.out s k HEG.out; rwa [List.drop_eq_getElem_cons hkl] at this)
                      obtain ⟨z, hz⟩ : ∃ z, l[k] = z := ⟨_, rfl⟩
                      rw [hz] at hc2 hst
                      obtain ⟨q1, q2, q3, q4⟩ := hst
                      have HZ := hid hz
                      have HQ4 := hid q4
                      clear hz q4 hrl
                      rw [HL.out] at q1
                      obtain ⟨e, rfl⟩ : ∃ e : Nat, z = e := ⟨z.toNat, by omega⟩
                      have hse : s < e := by omega
                      have hen : e ≤ n := by omega
                      have he40 : e ≤ s + 40 := by omega
                      clear q1 q2 q3
                      have hn0 : 0 < n := by omega
                      obtain ⟨ad, hA, hab, hcw⟩ := HR.out.2 hn0
                      subst hA
                      have HTX := hid (fun (w' : World) (h : Below wo.heap.size wo w') (j : Nat) (u : Value) (hu : (tx.map (Value.int .i64))[j]? = some u) => show w'.cell? (ad.add j) = some u by
                        have hbj : (ad.add j).block < w.heap.size := by rw [block_of_add]; omega
                        rw [h.cell (p := ad.add j) (by omega), hbl.cell (p := ad.add j) hbj, ← HBW.out.cell (p := ad.add j) hbj]; exact hcw j u hu)
                      have HEN := hid (fun (w' : World) (h : Below wo.heap.size wo w') => show w'.cell? (ad2.add k) = some (.int .i64 e) by
                        rw [h.cell (p := ad2.add k) (by rw [block_of_add]; omega)]; exact hc2)
                      obtain ⟨c0, hc0⟩ : ∃ y, tx[0]'(by rw [HL.out]; exact hn0) = y := ⟨_, rfl⟩
                      have hx0 := HTX.out wo (Below.refl _ _) 0 (.int .i64 c0) (by rw [List.getElem?_map, List.getElem?_eq_getElem (by rw [HL.out]; exact hn0), hc0]; rfl)
                      have hx0' := hx0
                      rw [add0] at hx0'
                      have HC0 := hid hc0
                      have HSL := hid (show (((tx.drop s).take (e - s)).map (Value.int .i64)).length = (e - s) * 1 by simp [HL.out]; omega)
                      clear hcw hc2 hc0
                      have hsc : e ≤ c := by omega
                      have hse' : s ≤ e := by omega
                      have hcs : ¬ c = s := by omega
                      go_wp2
                      have hbk5 := Blk.new wo 107 #[.int .i64 ((k : Int) + 1), .slice none 0 0, .int .i64 c0]
                      have HB5 := hid ((Below.refl wo.heap.size wo).alloc (Nat.le_refl _) (.cells #[.int .i64 ((k : Int) + 1), .slice none 0 0, .int .i64 c0] 107))
                      clear hx0 hx0'
                      generalize wo.alloc (.cells #[.int .i64 ((k : Int) + 1), .slice none 0 0, .int .i64 c0] 107) = w5 at hbk5 HB5 ⊢
                      obtain ⟨b5, hb5⟩ : ∃ b, wo.heap.size = b := ⟨_, rfl⟩
                      rw [hb5] at hbk5 ⊢
                      have HB5E := hid hb5
                      clear hb5
                      have hs5 : W.heap.size + 1 ≤ w5.heap.size := by have := HB5.out.size; omega
                      have p1 : w5.cell? ⟨b5, 1, none⟩ = some (.slice none 0 0) := hbk5.cell 1
                      have hce5 := HEN.out w5 HB5.out
                      have HBK5 := hid hbk5
                      clear hbk5
                      have HTX5 := hid (fun (w' : World) (h : ∀ p : Addr, w'.cell? p = w5.cell? p) (j : Nat) (u : Value) (hu : (tx.map (Value.int .i64))[j]? = some u) => show w'.cell? (ad.add j) = some u from (h _).trans (HTX.out w5 HB5.out j u hu))
                      go_region_law (refine step_append_own rfl (.tmp 92) (.tmp 99) 25 rfl (W.heap.size + 1) 3 i0 _ 1 8 Tryz.underlying25 hi0 hz0 hz1 hz2 rfl (by decide) (.slice none 0 0) 0 [] rfl (World.ownsRow_nil _ _ _ _) (ad.add s) (e - s) _ (((tx.drop s).take (e - s)).map (Value.int .i64)) rfl HSL.out (sub_cells (HTX5.out _ (by intro _; rfl)) s e) ints_one (by unfold maxLen; omega) (by omega) (by simp; omega) ?_; intro v1 w2 hown1 hg1; have hown1' : w2.ownsRow (W.heap.size + 1) 3 1 v1 (e - s) (((tx.drop s).take (e - s)).map (Value.int .i64)) := (by simpa using hown1); obtain ⟨A', d', rfl⟩ := own_slice hown1'; have HOX := hid hown1'; have HG5 := hid hg1; have hb52 := (HBK5.out.below (below_drew w5) HBK5.out.lt).grown hg1 (by simp [Value.ownBlock]); have HB52 := hid hb52; have y1 := hb52.cell 1; have zz1 := blk_frozen hb52 1; clear hown1 hg1 hown1' hb52)
                      all_goals (
                        have hb6 := HB52.out.set 1 (.slice A' (e - s) d')
                        have hX6 : Below wo.heap.size wo (w2.setCell ⟨b5, 1, none⟩ (.slice A' (e - s) d')) := ((HB5.out.trans ((below_drew w5).mono HB5.out.size)).grown HG5.out (by have := HB5.out.size; exact this) (by intro g hg; simp [Value.ownBlock] at hg)).setCell (by show wo.heap.size ≤ b5; rw [HB5E.out]; exact Nat.le_refl _) _
                        have HOX6 := hid (ownsRow_setCell_other HOX.out (a := ⟨b5, 1, none⟩) (own_blk_ne HOX.out HB52.out (by decide)) (.slice A' (e - s) d'))
                        clear y1 zz1
                        generalize w2.setCell ⟨b5, 1, none⟩ (.slice A' (e - s) d') = w6 at hb6 hX6 HOX6 ⊢
                        have HX6 := hid hX6
                        have HB6 := hid hb6
                        have p0 : w6.cell? ⟨b5, 0, none⟩ = some (.int .i64 ((k : Int) + 1)) := hb6.cell 0
                        have p1 : w6.cell? ⟨b5, 1, none⟩ = some (.slice A' (e - s) d') := hb6.cell 1
                        have p2 : w6.cell? ⟨b5, 2, none⟩ = some (.int .i64 c0) := hb6.cell 2
                        have zz2 := blk_frozen hb6 2
                        have hce6 := HEN.out w6 hX6
                        have fo0 : w6.cell? ⟨W.heap.size, 0, none⟩ = some v := (HBK.out.below hX6 HBK.out.lt).cell 0
                        have hb5b : W.heap.size < b5 := by rw [← HB5E.out]; exact hsO
                        clear hb6 hX6
                        by_cases hee : e < n
                        · obtain ⟨ye, hye⟩ : ∃ y, tx[e]'(by rw [HL.out]; exact hee) = y := ⟨_, rfl⟩
                          have hte := HTX.out w6 HX6.out e (.int .i64 ye) (by rw [List.getElem?_map, List.getElem?_eq_getElem (by rw [HL.out]; exact hee), hye]; rfl)
                          have HY := hid (show tx.getD (e % tx.length) 0 = ye by rw [HL.out, Nat.mod_eq_of_lt hee, ← hye]; simp [List.getD, List.getElem?_eq_getElem (show e < tx.length by rw [HL.out]; exact hee)])
                          have hmin : min (e : Int) ((n : Int) - 1) = e := by omega
                          have HX7 := hid (HX6.out.setCell (p := ⟨b5, 2, none⟩) (by show wo.heap.size ≤ b5; rw [HB5E.out]; exact Nat.le_refl _) (.int .i64 ye))
                          have HOX7 := hid (ownsRow_setCell_other HOX6.out (a := ⟨b5, 2, none⟩) (own_blk_ne HOX6.out HB6.out (by decide)) (.int .i64 ye))
                          have hce7 := HEN.out _ HX7.out
                          have fo7 : (w6.setCell ⟨b5, 2, none⟩ (.int .i64 ye)).cell? ⟨W.heap.size, 0, none⟩ = some v := (HBK.out.below HX7.out HBK.out.lt).cell 0
                          clear hye
                          go_wp2_with (at_builtin; refine wpList_append_own _ rfl (.tmp 122) (.tmp 124) 22 rfl (W.heap.size + 1) 107 j0 _ 3 40 Tryz.underlying22 hj0 hy0 hy1 hy2 rfl (by decide) v _ _ rfl (own_below HOW.out (HX7.out.alloc HX7.out.size _)) ⟨_, 0, none⟩ 1 1 [.int .i64 ((k : Int) + 1), .slice A' (e - s) d', .int .i64 ye] rfl rfl (new3s _ _ _ _ _ _ _) (one3' _ _ _ _ _) (by unfold maxLen; omega) (by omega) (by have := HX6.out.size; simp; omega) ?_; intro v3 w3 hown3 hg3 _hz; obtain ⟨A3, d3, rfl⟩ := own_slice hown3; have HG3 := hid hg3; have HO3 := hid hown3; have hbk3 := (HBK.out.below (HX7.out.alloc HX7.out.size _) HBK.out.lt).grown hg3 (fun e => by have := (HOW.out.lt _ e.symm).1; omega); have q0 := hbk3.cell 0; have zq := blk_frozen hbk3 0; have hB9 : Below w.heap.size w (w3.setCell ⟨W.heap.size, 0, none⟩ (.slice A3 (k + 1) d3)) := (((hbl.trans ((HX7.out.alloc HX7.out.size _).mono hbl.size)).grown hg3 (by have := HX6.out.size; simp; omega) (fun g hg => by have := (HOW.out.lt g hg).1; omega)).setCell (by show w.heap.size ≤ W.heap.size; omega) _); have hce9 := (hB9.cell (p := ad2.add k) (by rw [block_of_add]; omega)).trans ((hbl.cell (p := ad2.add k) (by rw [block_of_add]; omega)).symm.trans (HEN.out wo (Below.refl _ _))); clear hown3 hg3 _hz hbk3 hB9)
                          go_roundw
                          case rel => exact cut3_next hkl hlt HL HZ HQ4 HEG HPL HDA hen HY hbl hsW HB0 HBK HOW HOO HX7.out HOX7.out HG3 HO3
                          case measure => simp [intOf]; omega
                        · have hen' : e = n := by omega
                          have HY := hid (show tx.getD (e % tx.length) 0 = c0 by rw [HL.out, hen', Nat.mod_self, ← HC0.out]; simp [List.getD, List.getElem?_eq_getElem (show 0 < tx.length by rw [HL.out]; exact hn0)])
                          clear hen'
                          go_wp2_with (at_builtin; refine wpList_append_own _ rfl (.tmp 122) (.tmp 124) 22 rfl (W.heap.size + 1) 107 j0 _ 3 40 Tryz.underlying22 hj0 hy0 hy1 hy2 rfl (by decide) v _ _ rfl (own_below HOW.out (HX6.out.alloc HX6.out.size _)) ⟨_, 0, none⟩ 1 1 [.int .i64 ((k : Int) + 1), .slice A' (e - s) d', .int .i64 c0] rfl rfl (new3 _ _ _ _ _) (one3' _ _ _ _ _) (by unfold maxLen; omega) (by omega) (by have := HX6.out.size; simp; omega) ?_; intro v3 w3 hown3 hg3 _hz; obtain ⟨A3, d3, rfl⟩ := own_slice hown3; have HG3 := hid hg3; have HO3 := hid hown3; have hbk3 := (HBK.out.below (HX6.out.alloc HX6.out.size _) HBK.out.lt).grown hg3 (fun e => by have := (HOW.out.lt _ e.symm).1; omega); have q0 := hbk3.cell 0; have zq := blk_frozen hbk3 0; have hB9 : Below w.heap.size w (w3.setCell ⟨W.heap.size, 0, none⟩ (.slice A3 (k + 1) d3)) := (((hbl.trans ((HX6.out.alloc HX6.out.size _).mono hbl.size)).grown hg3 (by have := HX6.out.size; simp; omega) (fun g hg => by have := (HOW.out.lt g hg).1; omega)).setCell (by show w.heap.size ≤ W.heap.size; omega) _); have hce9 := (hB9.cell (p := ad2.add k) (by rw [block_of_add]; omega)).trans ((hbl.cell (p := ad2.add k) (by rw [block_of_add]; omega)).symm.trans (HEN.out wo (Below.refl _ _))); clear hown3 hg3 _hz hbk3 hB9)
                          go_roundw
                          case rel => exact cut3_next hkl hlt HL HZ HQ4 HEG HPL HDA hen HY hbl hsW HB0 HBK HOW HOO HX6.out HOX6.out HG3 HO3
                          case measure => simp [intOf]; omega)
                    · have HXM := hid (show k = m by omega)
                      obtain ⟨Av, cv, rfl⟩ := own_slice HOW.out
                      have f0 : wo.cell? ⟨W.heap.size, 0, none⟩ = some (.slice Av k cv) := HBK.out.cell 0
                      have f1 : wo.cell? ⟨W.heap.size, 1, none⟩ = some (.int .i64 0) := HBK.out.cell 1
                      have g0 : wo.cell? ⟨w.heap.size, 0, none⟩ = some (.slice none 0 0) := HB0.out.cell 0
                      have g1 : wo.cell? ⟨w.heap.size, 1, none⟩ = some (.int .i64 0) := HB0.out.cell 1
                      have z0 := blk_frozen HB0.out 0
                      have z1 := blk_frozen HB0.out 1
                      go_wp2
                      refine bodyPost_ret (v := .agg #[.slice Av k cv, .int .i64 0]) (by simp [results, Tryz.results51, go_sem, g0, g1]) rfl ⟨.slice Av k cv, ps, by rw [HX.out], ?_, ?_, ?_, (hbl.setCell (Nat.le_refl _) _).setCell (Nat.le_refl _) _⟩
                      · have := HDA.out
                        rw [show l.drop k = [] by rw [HXM.out, ← HL2.out]; simp, cutGo, List.append_nil] at this
                        rw [HCL.out, this]
                      · rw [HPL.out]
                        exact own_back HOW.out hsW _ _
                      · intro p hp
                        exact own_back (HOO.out p hp) hsW _ _
                · have HX := hid (HCE.out (by unfold endsOk; rw [HN.out]; simp [hsn]))
                  have hsn1 : (sv != (n : Int)) = true := by simpa using hsn
                  clear hsn
                  go_wp2
                  refine bodyPost_ret (v := .agg #[.slice none 0 0, .int .i64 1]) (by simp [results, Tryz.results51, go_sem, r0, r1]) rfl (retPs_err HX.out (by decide) (HEND.out _ _))
end Go.Proofs.YtcoplbaopaigcaaGreat
