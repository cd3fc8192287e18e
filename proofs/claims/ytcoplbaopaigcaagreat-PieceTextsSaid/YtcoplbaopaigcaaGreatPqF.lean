/- NumberOf of the specification, and Partner of the program. -/
import Derived.RegionTactic
import Derived.Deep.RegionWith
import Derived.Test.YtcoplbaopaigcaaGreatPqE
set_option linter.all false
namespace Go.Proofs.YtcoplbaopaigcaaGreat
open Go.RowKit
def RetSaid (r : Int × Int) (w : World) (e : Ending) (w' : World) : Prop :=
  e = .returned (.agg #[.int .i64 r.1, .int .i64 r.2]) ∧ Below w.heap.size w w'
theorem ret_said {a b : Int} {r : Int × Int} {w w' : World} (h : r = (a, b)) (hb : Below w.heap.size w w') : RetSaid r w (.returned (.agg #[.int .i64 a, .int .i64 b])) w' := by
  subst h; exact ⟨rfl, hb⟩
theorem ixL_neg {f : Int × Int} {l : List (Int × Int)} (h : ∀ j (hj : j < l.length), l[j] ≠ f) : ixL f l < 0 := by rw [ixL_no h]; decide
set_option maxHeartbeats 4000000 in
set_option maxRecDepth 100000 in
theorem refNumberOf_any (A : Option Addr) (n c : Nat) (qs : List Q) (x y : Int) (w : World) (B : Nat) (hB : B ≤ w.heap.size) (hq : Qs w B A n qs) :
    Calls Tryz.prog 57 #[.slice A n c, .agg #[.int .i64 x, .int .i64 y]] w (RetSaid (numR qs (x, y)) w) := by
  have HL := hid hq.1
  obtain ⟨e, he⟩ : ∃ e, err qs = e := ⟨_, rfl⟩
  obtain ⟨W, hW⟩ : ∃ W, (w.alloc (Obj.cells #[Value.int .i64 x, Value.int .i64 y] 90)).alloc (Obj.cells #[Value.int .i64 0, Value.int .i64 0] 53) = W := ⟨_, rfl⟩
  have hBW : Below w.heap.size w W := by rw [← hW]; exact ((Below.refl _ _).alloc (Nat.le_refl _) _).alloc (by simp) _
  have hq0 : Qs W B A n qs := hq.below (hBW.mono hB)
  have hsz : w.heap.size + 1 < W.heap.size := by rw [← hW]; simp
  have x0 : W.cell? ⟨w.heap.size, 0, none⟩ = some (.int .i64 x) := by rw [← hW]; simp [go_sem]
  have x1 : W.cell? ⟨w.heap.size, 1, none⟩ = some (.int .i64 y) := by rw [← hW]; simp [go_sem]
  have y0 : W.cell? ⟨w.heap.size + 1, 0, none⟩ = some (.int .i64 0) := by rw [← hW]; simp [go_sem]
  have y1 : W.cell? ⟨w.heap.size + 1, 1, none⟩ = some (.int .i64 0) := by rw [← hW]; simp [go_sem]
  have z0 : W.frozen? ⟨w.heap.size + 1, 0, none⟩ = false := by rw [← hW]; simp [go_sem]
  have z1 : W.frozen? ⟨w.heap.size + 1, 1, none⟩ = false := by rw [← hW]; simp [go_sem]
  by_cases h0 : e = 0
  · subst h0
    have HE := hid he
    obtain ⟨h40, h24⟩ := err_ok he
    have H24 := hid h24
    rw [HL.out] at h40
    clear h24
    have hlen : (leavesL qs).length ≤ 24 * 40 := Nat.le_trans (firstL_length qs (fun q h => (H24.out q h).2) _) (by rw [HL.out]; omega)
    go_enter Tryz.func57, Tryz.ntmps57
    go_wp2_with (first
      | (go_at_call 119; refine (Quires_any A n c qs W B (by omega) hq0).mono ?_; rintro e w1 ⟨rfl, hb1⟩)
      | (go_at_call 120; refine (leaves_any A n c qs _ B (by have := hb1.size; omega) (hq0.below (hb1.mono (by omega))) h40 H24.out).mono ?_; rintro e w2 ⟨v, rfl, hown, hb2⟩; obtain ⟨A2, c2, rfl, hls⟩ := ls_of_own hown; obtain ⟨r0, s0⟩ := cell_later2 (b := w.heap.size + 1) (o := 0) (v := .int .i64 0) hb1 hb2 hsz y0 z0; obtain ⟨r1, s1⟩ := cell_later2 (b := w.heap.size + 1) (o := 1) (v := .int .i64 0) hb1 hb2 hsz y1 z1; have q0 := (hb2.cell (p := ⟨w.heap.size, 0, none⟩) (Nat.lt_of_lt_of_le (Nat.lt_of_succ_lt hsz) hb1.size)).trans ((hb1.cell (p := ⟨w.heap.size, 0, none⟩) (Nat.lt_of_succ_lt hsz)).trans x0); have q1 := (hb2.cell (p := ⟨w.heap.size, 1, none⟩) (Nat.lt_of_lt_of_le (Nat.lt_of_succ_lt hsz) hb1.size)).trans ((hb1.cell (p := ⟨w.heap.size, 1, none⟩) (Nat.lt_of_succ_lt hsz)).trans x1); obtain ⟨m, hm⟩ : ∃ m, (leavesL qs).length = m := ⟨_, rfl⟩; rw [hm] at hls; have HM := hid hm; clear hown))
    have hm960 : m ≤ 960 := by rw [← HM.out]; exact hlen
    have hb12 : Below w.heap.size w w2 := (hBW.trans (hb1.mono hBW.size)).trans (hb2.mono (Nat.le_trans hBW.size hb1.size))
    clear hm hlen x0 x1 y0 y1 z0 z1 hW
    go_loopw [7] (fun i wr => LxRel (x, y) (leavesL qs) m w2 wr i) (fun i _ => m - (intOf i).toNat)
    case atStart => exact ⟨0, 0, Nat.zero_le _, rfl, rfl, by intros; omega⟩
    case round =>
      obtain ⟨k, d, hk, rfl, rfl, hall⟩ := hrel
      have HA := hid hall
      clear hall
      by_cases hlt : k < m
      · obtain ⟨ad, p, ⟨a, b⟩, rfl, hp, hkx, hpb, e0, e1⟩ := hls.at_ hlt
        have HX := hid hkx
        clear hkx
        have qq := fun X Y xs ys w => guardrun90 X Y xs ys w
        by_cases h1 : (a == x && b == y) = true
        · have q2 := fun w => (eq90 a b x y w).trans (by rw [h1])
          have HE1 := hid (show (a, b) = (x, y) by simp only [Bool.and_eq_true, beq_iff_eq] at h1; rw [h1.1, h1.2])
          clear h1
          go_wp2
          go_quiet (fail)
          go_wp2
          have hix : ixL (x, y) (leavesL qs) = k := ixL_at (by rw [HX.out, HE1.out]) HA.out
          refine bodyPost_ret (v := .agg #[.int .i64 ((k : Int) + 1), .int .i64 0]) (by simp [results, Tryz.results57, go_sem, r0, r1]) rfl (ret_said (by rw [numR_yes he (by rw [hix]; omega), hix]) ?_)
          exact ((below_drewN hb12 _).setCell (by simp) _).setCell (by simp) _
        · have h1' : (a == x && b == y) = false := by simpa using h1
          have q2 := fun w => (eq90 a b x y w).trans (by rw [h1'])
          have HE1 := hid (show ¬ (a, b) = (x, y) by
            intro h; apply h1; simp only [Prod.mk.injEq] at h; simp [h.1, h.2])
          clear h1 h1'
          go_wp2
          go_quiet (fail)
          go_wp2
          go_roundw
          case rel =>
            refine ⟨k + 1, _, by omega, by go_num, rfl, fun j h hj => ?_⟩
            by_cases hjk : j = k
            · subst hjk
              have e := HX.out
              rw [List.getElem?_eq_getElem h] at e
              rw [Option.some.inj e]
              exact HE1.out
            · exact HA.out j h (by omega)
          case measure => simp [intOf]; omega
      · go_wp2
        refine bodyPost_ret (v := .agg #[.int .i64 0, .int .i64 1]) (by simp [results, Tryz.results57, go_sem, r0, r1]) rfl (ret_said (numR_no he (ixL_neg fun j h => HA.out j h (by rw [HM.out] at h; omega))) ?_)
        exact ((below_drewN hb12 _).setCell (by simp) _).setCell (by simp) _
  · have h0' : (e != 0) = true := by simpa using h0
    have HE := hid he
    go_enter Tryz.func57, Tryz.ntmps57
    go_wp2_with (go_at_call 119; refine (Quires_any A n c qs W B (by omega) hq0).mono ?_; rintro e w1 ⟨rfl, hb1⟩; obtain ⟨r0, s0⟩ := cell_later1 hb1 hsz y0 z0; obtain ⟨r1, s1⟩ := cell_later1 hb1 hsz y1 z1)
    refine bodyPost_ret (v := .agg #[.int .i64 0, .int .i64 e]) (by simp [results, Tryz.results57, go_sem, r0, r1]) rfl (ret_said (by rw [numR_err (by rw [HE.out]; exact h0), HE.out]) ?_)
    exact ((hBW.trans (hb1.mono hBW.size)).setCell (by simp) _).setCell (by simp) _
end Go.Proofs.YtcoplbaopaigcaaGreat
namespace Go.Proofs.YtcoplbaopaigcaaGreat
open Go.RowKit
/-- The leaf that hangs together with another one. -/
def mate (qs : List Q) (x y : Int) : Int × Int := (x, (match qs[x.toNat]? with | some q => q.lv | none => 0) + 1 - y)
def partR (qs : List Q) (f : Int × Int) : (Int × Int) × Bool × Int :=
  if err qs ≠ 0 then ((0, 0), false, err qs) else if hasL f (leavesL qs) = false then ((0, 0), false, 1) else
  if hasL (mate qs f.1 f.2) (leavesL qs) = true then (mate qs f.1 f.2, true, 0) else ((0, 0), false, 0)
theorem partR_err {qs : List Q} {f : Int × Int} (h : err qs ≠ 0) : partR qs f = ((0, 0), false, err qs) := by unfold partR; rw [if_pos h]
theorem partR_no {qs : List Q} {f : Int × Int} (h : err qs = 0) (h1 : hasL f (leavesL qs) = false) : partR qs f = ((0, 0), false, 1) := by unfold partR; rw [if_neg (by simp [h]), if_pos h1]
theorem partR_gone {qs : List Q} {f : Int × Int} (h : err qs = 0) (h1 : hasL f (leavesL qs) = true) (h2 : hasL (mate qs f.1 f.2) (leavesL qs) = false) : partR qs f = ((0, 0), false, 0) := by
  unfold partR; rw [if_neg (by simp [h]), if_neg (by simp [h1]), if_neg (by simp [h2])]
theorem partR_yes {qs : List Q} {f : Int × Int} (h : err qs = 0) (h1 : hasL f (leavesL qs) = true) (h2 : hasL (mate qs f.1 f.2) (leavesL qs) = true) : partR qs f = (mate qs f.1 f.2, true, 0) := by
  unfold partR; rw [if_neg (by simp [h]), if_neg (by simp [h1]), if_pos h2]
theorem leaf_in {qs : List Q} {x y : Int} (h : hasL (x, y) (leavesL qs) = true) : ∃ k : Nat, ∃ hk : k < qs.length, x = k ∧ 1 ≤ y ∧ y ≤ qs[k].lv := by
  have : (x, y) ∈ leavesL qs := by simpa [hasL] using h
  obtain ⟨i, hi, h1, h2, h3, _⟩ := mem_leavesL.1 this
  exact ⟨i, hi, h1, h2, h3⟩
def RetPart (r : (Int × Int) × Bool × Int) (w : World) (e : Ending) (w' : World) : Prop :=
  e = .returned (.tuple #[.agg #[.int .i64 r.1.1, .int .i64 r.1.2], .bool r.2.1, .int .i64 r.2.2]) ∧ Below w.heap.size w w'
theorem ret_part {a b c : Int} {i : Bool} {r : (Int × Int) × Bool × Int} {w w' : World} (h : r = ((a, b), i, c)) (hb : Below w.heap.size w w') : RetPart r w (.returned (.tuple #[.agg #[.int .i64 a, .int .i64 b], .bool i, .int .i64 c])) w' := by
  subst h; exact ⟨rfl, hb⟩
theorem cellB {w1 w2 : World} {b o : Nat} {v : Value} (hb : Below w1.heap.size w1 w2) (hl : b < w1.heap.size) (hc : w1.cell? ⟨b, o, none⟩ = some v) : w2.cell? ⟨b, o, none⟩ = some v ∧ b < w2.heap.size :=
  ⟨(hb.cell (p := ⟨b, o, none⟩) hl).trans hc, Nat.lt_of_lt_of_le hl hb.size⟩
theorem frozB {w1 w2 : World} {b o : Nat} (hb : Below w1.heap.size w1 w2) (hl : b < w1.heap.size) (hc : w1.frozen? ⟨b, o, none⟩ = false) : w2.frozen? ⟨b, o, none⟩ = false :=
  (hb.frozen (p := ⟨b, o, none⟩) hl).trans hc
/-- What the call's two blocks hold. -/
structure Two (w : World) (b : Nat) (x y z0 z1 : Value) : Prop where
  lt : b + 1 < w.heap.size
  x0 : w.cell? ⟨b, 0, none⟩ = some x
  x1 : w.cell? ⟨b, 1, none⟩ = some y
  y0 : w.cell? ⟨b + 1, 0, none⟩ = some z0
  y1 : w.cell? ⟨b + 1, 1, none⟩ = some z1
  f0 : w.frozen? ⟨b + 1, 0, none⟩ = false
  f1 : w.frozen? ⟨b + 1, 1, none⟩ = false
theorem Two.below {w w' : World} {b : Nat} {x y z0 z1 : Value} (h : Two w b x y z0 z1) (hb : Below w.heap.size w w') : Two w' b x y z0 z1 :=
  have hl := h.lt
  ⟨Nat.lt_of_lt_of_le h.lt hb.size, (cellB hb (by omega) h.x0).1, (cellB hb (by omega) h.x1).1, (cellB hb h.lt h.y0).1, (cellB hb h.lt h.y1).1, frozB hb h.lt h.f0, frozB hb h.lt h.f1⟩
theorem chain5 {w W w1 w2 w3 w5 : World} (a : Below w.heap.size w W) (b : Below W.heap.size W w1) (c : Below w1.heap.size w1 w2) (d : Below w2.heap.size w2 w3) (e : Below w3.heap.size w3 w5) : Below w.heap.size w w5 := by
  have h1 := a.trans (b.mono a.size)
  have h2 := h1.trans (c.mono h1.size)
  have h3 := h2.trans (d.mono h2.size)
  exact h3.trans (e.mono h3.size)
theorem below_mid {w3 w5 : World} {o : Obj} (h : Below (w3.alloc o).drew.heap.size (w3.alloc o).drew w5) : Below w3.heap.size w3 w5 :=
  (((Below.refl _ _).alloc (Nat.le_refl _) _).drew).trans (h.mono (by simp))
set_option maxHeartbeats 4000000 in
set_option maxRecDepth 100000 in
theorem partner_any (A : Option Addr) (n c : Nat) (qs : List Q) (x y : Int) (w : World) (B : Nat) (hB : B ≤ w.heap.size) (hq : Qs w B A n qs) :
    Calls Tryz.prog 58 #[.slice A n c, .agg #[.int .i64 x, .int .i64 y]] w (RetPart (partR qs (x, y)) w) := by
  have HL := hid hq.1
  have hn9 := hq.2.1
  unfold maxLen at hn9
  obtain ⟨e, he⟩ : ∃ e, err qs = e := ⟨_, rfl⟩
  obtain ⟨W, hW⟩ : ∃ W, (w.alloc (Obj.cells #[Value.int .i64 x, Value.int .i64 y] 90)).alloc (Obj.cells #[Value.int .i64 0, Value.int .i64 0] 90) = W := ⟨_, rfl⟩
  have hBW : Below w.heap.size w W := by rw [← hW]; exact ((Below.refl _ _).alloc (Nat.le_refl _) _).alloc (by simp) _
  have hq0 : Qs W B A n qs := hq.below (hBW.mono hB)
  have ht : Two W w.heap.size (.int .i64 x) (.int .i64 y) (.int .i64 0) (.int .i64 0) := by
    rw [← hW]; exact ⟨by simp, by simp [go_sem], by simp [go_sem], by simp [go_sem], by simp [go_sem], by simp [go_sem], by simp [go_sem]⟩
  have hBs : B ≤ W.heap.size := Nat.le_trans hB hBW.size
  by_cases h0 : e = 0
  · subst h0
    have HE := hid he
    obtain ⟨h40, h24⟩ := err_ok he
    have H24 := hid h24
    rw [HL.out] at h40
    clear h24
    by_cases hh : hasL (x, y) (leavesL qs) = true
    · obtain ⟨k, hk, rfl, hy1, hy2⟩ := leaf_in hh
      have hkn : k < n := by rw [← HL.out]; exact hk
      have hlv := (H24.out qs[k] (List.getElem_mem _)).2
      have HH := hid hh
      obtain ⟨ad, p, q, rfl, hp, hqk, hfit, hat⟩ := hq0.at_ hkn
      obtain rfl : qs[k] = q := by rw [List.getElem?_eq_getElem hk] at hqk; exact Option.some.inj hqk
      obtain ⟨lv, hlveq⟩ : ∃ lv, qs[k].lv = lv := ⟨_, rfl⟩
      have HM := hid (show mate qs (k : Int) y = ((k : Int), lv + 1 - y) by unfold mate; simp only [Int.toNat_natCast, List.getElem?_eq_getElem hk, hlveq])
      rw [hlveq] at hy2 hlv
      have HAT := hid hat
      have HT := hid ht
      have e1' := hat.c1
      rw [hlveq] at e1'
      have E1 := hid e1'
      have hpB := hat.lt
      clear hqk hfit hat ht e1' hlveq
      by_cases hmm : hasL ((k : Int), lv + 1 - y) (leavesL qs) = true
      · have HMM := hid (show hasL (mate qs (k : Int) y) (leavesL qs) = true by rw [HM.out]; exact hmm)
        go_enter Tryz.func58, Tryz.ntmps58
        go_wp2_with (first
          | (go_at_call 116; refine (checkQuires_any _ n c qs W B hBs hq0).mono ?_; rintro e w1 ⟨rfl, hb1⟩)
          | (go_at_call 117; refine (leavesOf_any _ n c qs w1 B (Nat.le_trans hBs hb1.size) (hq0.below (hb1.mono hBs)) h40 H24.out).mono ?_; rintro e w2 ⟨v, rfl, hown, hb2⟩; obtain ⟨A2, c2, rfl, hls⟩ := ls_of_own hown; have HT2 := hid ((HT.out.below hb1).below hb2); obtain ⟨ht2, q0, q1, r0, r1, s0, s1⟩ := HT2.out)
          | (go_at_call 122; refine (containsL_any A2 _ c2 (leavesL qs) (k : Int) y w2 _ (Nat.le_refl _) hls).mono ?_; rintro e w3 ⟨rfl, hb3⟩; clear q0 q1 r0 r1 s0 s1; have HT3 := hid (HT2.out.below hb3); obtain ⟨ht3, q0, q1, r0, r1, s0, s1⟩ := HT3.out; have e1 := ((((hb1.mono hBs).trans (hb2.mono (Nat.le_trans hBs hb1.size))).trans (hb3.mono (Nat.le_trans hBs (Nat.le_trans hb1.size hb2.size)))).cell (p := ⟨p.block, p.off + 1, none⟩) hpB).trans E1.out))
        have hlv1 : 1 ≤ lv := by omega
        have hs3 : B ≤ w3.heap.size := Nat.le_trans hBs (Nat.le_trans hb1.size (Nat.le_trans hb2.size hb3.size))
        have a0 := fun o => (World.cell?_alloc_lt w3 o ⟨w.heap.size, 0, none⟩ (Nat.lt_of_succ_lt ht3)).trans q0
        have a1 := fun o => (World.cell?_alloc_lt w3 o ⟨w.heap.size, 1, none⟩ (Nat.lt_of_succ_lt ht3)).trans q1
        have a2 := fun o => (World.cell?_alloc_lt w3 o ⟨p.block, p.off + 1, none⟩ (Nat.lt_of_lt_of_le hpB hs3)).trans e1
        have HLS := hid (show ∀ o, Ls (w3.alloc o).drew w2.heap.size A2 (leavesL qs).length (leavesL qs) from fun o => ((hls.below hb3).alloc hb3.size o).keep (fun _ _ => rfl))
        have HSZ := hid (show ∀ o, w2.heap.size ≤ (w3.alloc o).drew.heap.size from fun o => by have := hb3.size; simp; omega)
        go_region
        go_wp2_with fail
        go_at_call 122
        refine (containsL_any A2 _ c2 (leavesL qs) (k : Int) (lv + 1 - y) _ w2.heap.size (HSZ.out _) (HLS.out _)).mono ?_
        rintro e w5 ⟨rfl, hb5⟩
        have hb35 := below_mid hb5
        have HB35 := hid hb35
        clear q0 q1 r0 r1 s0 s1
        obtain ⟨ht5, q0, q1, r0, r1, s0, s1⟩ := HT3.out.below hb35
        have p0 := (cellB (b := w3.heap.size) (o := 0) (v := .int .i64 (k : Int)) hb5 (by simp) (by simp [go_sem])).1
        have p1 := (cellB (b := w3.heap.size) (o := 1) (v := .int .i64 (lv + 1 - y)) hb5 (by simp) (by simp [go_sem])).1
        clear a0 a1 a2 hb35
        go_wp2
        refine bodyPost_ret (v := .tuple #[.agg #[.int .i64 (k : Int), .int .i64 (lv + 1 - y)], .bool true, .int .i64 0]) (by simp [results, Tryz.results58, go_sem, r0, r1]) rfl (ret_part (by rw [partR_yes he HH.out HMM.out]; show (mate qs (k : Int) y, true, (0 : Int)) = _; rw [HM.out]) ?_)
        exact ((chain5 hBW hb1 hb2 hb3 HB35.out).setCell (by simp) _).setCell (by simp) _
      · have hmm' : hasL ((k : Int), lv + 1 - y) (leavesL qs) = false := by simpa using hmm
        have HMM := hid (show hasL (mate qs (k : Int) y) (leavesL qs) = false by rw [HM.out]; exact hmm')
        go_enter Tryz.func58, Tryz.ntmps58
        go_wp2_with (first
          | (go_at_call 116; refine (checkQuires_any _ n c qs W B hBs hq0).mono ?_; rintro e w1 ⟨rfl, hb1⟩)
          | (go_at_call 117; refine (leavesOf_any _ n c qs w1 B (Nat.le_trans hBs hb1.size) (hq0.below (hb1.mono hBs)) h40 H24.out).mono ?_; rintro e w2 ⟨v, rfl, hown, hb2⟩; obtain ⟨A2, c2, rfl, hls⟩ := ls_of_own hown; have HT2 := hid ((HT.out.below hb1).below hb2); obtain ⟨ht2, q0, q1, r0, r1, s0, s1⟩ := HT2.out)
          | (go_at_call 122; refine (containsL_any A2 _ c2 (leavesL qs) (k : Int) y w2 _ (Nat.le_refl _) hls).mono ?_; rintro e w3 ⟨rfl, hb3⟩; clear q0 q1 r0 r1 s0 s1; have HT3 := hid (HT2.out.below hb3); obtain ⟨ht3, q0, q1, r0, r1, s0, s1⟩ := HT3.out; have e1 := ((((hb1.mono hBs).trans (hb2.mono (Nat.le_trans hBs hb1.size))).trans (hb3.mono (Nat.le_trans hBs (Nat.le_trans hb1.size hb2.size)))).cell (p := ⟨p.block, p.off + 1, none⟩) hpB).trans E1.out))
        have hlv1 : 1 ≤ lv := by omega
        have hs3 : B ≤ w3.heap.size := Nat.le_trans hBs (Nat.le_trans hb1.size (Nat.le_trans hb2.size hb3.size))
        have a0 := fun o => (World.cell?_alloc_lt w3 o ⟨w.heap.size, 0, none⟩ (Nat.lt_of_succ_lt ht3)).trans q0
        have a1 := fun o => (World.cell?_alloc_lt w3 o ⟨w.heap.size, 1, none⟩ (Nat.lt_of_succ_lt ht3)).trans q1
        have a2 := fun o => (World.cell?_alloc_lt w3 o ⟨p.block, p.off + 1, none⟩ (Nat.lt_of_lt_of_le hpB hs3)).trans e1
        have HLS := hid (show ∀ o, Ls (w3.alloc o).drew w2.heap.size A2 (leavesL qs).length (leavesL qs) from fun o => ((hls.below hb3).alloc hb3.size o).keep (fun _ _ => rfl))
        have HSZ := hid (show ∀ o, w2.heap.size ≤ (w3.alloc o).drew.heap.size from fun o => by have := hb3.size; simp; omega)
        go_region
        go_wp2_with fail
        go_at_call 122
        refine (containsL_any A2 _ c2 (leavesL qs) (k : Int) (lv + 1 - y) _ w2.heap.size (HSZ.out _) (HLS.out _)).mono ?_
        rintro e w5 ⟨rfl, hb5⟩
        have hb35 := below_mid hb5
        have HB35 := hid hb35
        clear q0 q1 r0 r1 s0 s1
        obtain ⟨ht5, q0, q1, r0, r1, s0, s1⟩ := HT3.out.below hb35
        have p0 := (cellB (b := w3.heap.size) (o := 0) (v := .int .i64 (k : Int)) hb5 (by simp) (by simp [go_sem])).1
        have p1 := (cellB (b := w3.heap.size) (o := 1) (v := .int .i64 (lv + 1 - y)) hb5 (by simp) (by simp [go_sem])).1
        clear a0 a1 a2 hb35
        go_wp2
        refine bodyPost_ret (v := .tuple #[.agg #[.int .i64 0, .int .i64 0], .bool false, .int .i64 0]) (by simp [results, Tryz.results58, go_sem, r0, r1]) rfl (ret_part (partR_gone he HH.out HMM.out) ?_)
        exact ((chain5 hBW hb1 hb2 hb3 HB35.out).setCell (by simp) _).setCell (by simp) _
    · have hh' : hasL (x, y) (leavesL qs) = false := by simpa using hh
      have HT := hid ht
      clear ht
      go_enter Tryz.func58, Tryz.ntmps58
      go_wp2_with (first
        | (go_at_call 116; refine (checkQuires_any _ n c qs W B hBs hq0).mono ?_; rintro e w1 ⟨rfl, hb1⟩)
        | (go_at_call 117; refine (leavesOf_any _ n c qs w1 B (Nat.le_trans hBs hb1.size) (hq0.below (hb1.mono hBs)) h40 H24.out).mono ?_; rintro e w2 ⟨v, rfl, hown, hb2⟩; obtain ⟨A2, c2, rfl, hls⟩ := ls_of_own hown; have HT2 := hid ((HT.out.below hb1).below hb2); obtain ⟨ht2, q0, q1, r0, r1, s0, s1⟩ := HT2.out)
        | (go_at_call 122; refine (containsL_any A2 _ c2 (leavesL qs) x y w2 _ (Nat.le_refl _) hls).mono ?_; rintro e w3 ⟨rfl, hb3⟩; clear q0 q1 r0 r1 s0 s1; have HT3 := hid (HT2.out.below hb3); obtain ⟨ht3, q0, q1, r0, r1, s0, s1⟩ := HT3.out))
      refine bodyPost_ret (v := .tuple #[.agg #[.int .i64 0, .int .i64 0], .bool false, .int .i64 1]) (by simp [results, Tryz.results58, go_sem, r0, r1]) rfl (ret_part (partR_no he hh') ?_)
      exact ((chain5 hBW hb1 hb2 hb3 (Below.refl _ _)).setCell (by simp) _).setCell (by simp) _
  · have h0' : (e != 0) = true := by simpa using h0
    have HE := hid he
    have HT := hid ht
    clear ht
    go_enter Tryz.func58, Tryz.ntmps58
    go_wp2_with (go_at_call 116; refine (checkQuires_any _ n c qs W B hBs hq0).mono ?_; rintro e w1 ⟨rfl, hb1⟩; obtain ⟨ht2, q0, q1, r0, r1, s0, s1⟩ := HT.out.below hb1)
    refine bodyPost_ret (v := .tuple #[.agg #[.int .i64 0, .int .i64 0], .bool false, .int .i64 e]) (by simp [results, Tryz.results58, go_sem, r0, r1]) rfl (ret_part (by rw [partR_err (by rw [HE.out]; exact h0), HE.out]) ?_)
    exact ((hBW.trans (hb1.mono hBW.size)).setCell (by simp) _).setCell (by simp) _
end Go.Proofs.YtcoplbaopaigcaaGreat
