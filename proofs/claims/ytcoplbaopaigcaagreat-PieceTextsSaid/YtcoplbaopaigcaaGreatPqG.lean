/- Partner of the specification, and the law itself, but for the examples that it calls. -/
import Derived.RegionTactic
import Derived.Deep.RegionWith
import Derived.Test.YtcoplbaopaigcaaGreatPqF
set_option linter.all false
namespace Go.Proofs.YtcoplbaopaigcaaGreat
open Go.RowKit
theorem hasL_ix {f : Int × Int} {l : List (Int × Int)} : hasL f l = decide (0 ≤ ixL f l) := (ixL_geq f l).symm
theorem numR_hi {qs : List Q} {f : Int × Int} (h : err qs = 0) (h1 : hasL f (leavesL qs) = true) : (numR qs f).2 = 0 := by
  rw [hasL_ix] at h1
  rw [numR_yes h (by simpa using h1)]
theorem numR_lo {qs : List Q} {f : Int × Int} (h : err qs = 0) (h1 : hasL f (leavesL qs) = false) : (numR qs f).2 = 1 := by
  rw [hasL_ix] at h1
  rw [numR_no h (by simpa using h1)]
theorem numR_bad {qs : List Q} {f : Int × Int} (h : err qs ≠ 0) : (numR qs f).2 = err qs := by rw [numR_err h]
/-- What the call's two blocks hold, the second one of four cells. -/
structure Four (w : World) (b : Nat) (x y z0 z1 z2 z3 : Value) : Prop where
  lt : b + 1 < w.heap.size
  x0 : w.cell? ⟨b, 0, none⟩ = some x
  x1 : w.cell? ⟨b, 1, none⟩ = some y
  y0 : w.cell? ⟨b + 1, 0, none⟩ = some z0
  y1 : w.cell? ⟨b + 1, 1, none⟩ = some z1
  y2 : w.cell? ⟨b + 1, 2, none⟩ = some z2
  y3 : w.cell? ⟨b + 1, 3, none⟩ = some z3
  f0 : w.frozen? ⟨b + 1, 0, none⟩ = false
  f1 : w.frozen? ⟨b + 1, 1, none⟩ = false
  f2 : w.frozen? ⟨b + 1, 2, none⟩ = false
  f3 : w.frozen? ⟨b + 1, 3, none⟩ = false
theorem Four.below {w w' : World} {b : Nat} {x y z0 z1 z2 z3 : Value} (h : Four w b x y z0 z1 z2 z3) (hb : Below w.heap.size w w') : Four w' b x y z0 z1 z2 z3 :=
  have hl := h.lt
  ⟨Nat.lt_of_lt_of_le h.lt hb.size, (cellB hb (by omega) h.x0).1, (cellB hb (by omega) h.x1).1, (cellB hb h.lt h.y0).1, (cellB hb h.lt h.y1).1, (cellB hb h.lt h.y2).1, (cellB hb h.lt h.y3).1, frozB hb h.lt h.f0, frozB hb h.lt h.f1, frozB hb h.lt h.f2, frozB hb h.lt h.f3⟩
set_option maxHeartbeats 4000000 in
set_option maxRecDepth 100000 in
theorem refPartner_any (A : Option Addr) (n c : Nat) (qs : List Q) (x y : Int) (w : World) (B : Nat) (hB : B ≤ w.heap.size) (hq : Qs w B A n qs) :
    Calls Tryz.prog 59 #[.slice A n c, .agg #[.int .i64 x, .int .i64 y]] w (RetLd (partR qs (x, y)) w) := by
  have HL := hid hq.1
  have hn9 := hq.2.1
  unfold maxLen at hn9
  obtain ⟨e, he⟩ : ∃ e, err qs = e := ⟨_, rfl⟩
  obtain ⟨W, hW⟩ : ∃ W, (w.alloc (Obj.cells #[Value.int .i64 x, Value.int .i64 y] 90)).alloc (Obj.cells #[Value.int .i64 0, Value.int .i64 0, Value.bool false, Value.int .i64 0] 95) = W := ⟨_, rfl⟩
  have hBW : Below w.heap.size w W := by rw [← hW]; exact ((Below.refl _ _).alloc (Nat.le_refl _) _).alloc (by simp) _
  have hq0 : Qs W B A n qs := hq.below (hBW.mono hB)
  have ht : Four W w.heap.size (.int .i64 x) (.int .i64 y) (.int .i64 0) (.int .i64 0) (.bool false) (.int .i64 0) := by
    rw [← hW]; exact ⟨by simp, by simp [go_sem], by simp [go_sem], by simp [go_sem], by simp [go_sem], by simp [go_sem], by simp [go_sem], by simp [go_sem], by simp [go_sem], by simp [go_sem], by simp [go_sem]⟩
  have hBs : B ≤ W.heap.size := Nat.le_trans hB hBW.size
  have t0 := ht.x0
  have t1 := ht.x1
  by_cases h0 : e = 0
  · subst h0
    have HE := hid he
    by_cases hh : hasL (x, y) (leavesL qs) = true
    · obtain ⟨h40, h24⟩ := err_ok he
      obtain ⟨k, hk, rfl, hy1, hy2⟩ := leaf_in hh
      have hkn : k < n := by rw [← HL.out]; exact hk
      have hlv := (h24 qs[k] (List.getElem_mem _)).2
      have HH := hid hh
      have HN := hid (numR_hi he hh)
      clear h40 h24
      obtain ⟨ad, p, q, rfl, hp, hqk, hfit, hat⟩ := hq0.at_ hkn
      obtain rfl : qs[k] = q := by rw [List.getElem?_eq_getElem hk] at hqk; exact Option.some.inj hqk
      obtain ⟨lv, hlveq⟩ : ∃ lv, qs[k].lv = lv := ⟨_, rfl⟩
      have HM := hid (show mate qs (k : Int) y = ((k : Int), lv + 1 - y) by unfold mate; simp only [Int.toNat_natCast, List.getElem?_eq_getElem hk, hlveq])
      rw [hlveq] at hy2 hlv
      have HT := hid ht
      have e1' := hat.c1
      rw [hlveq] at e1'
      have E1 := hid e1'
      have hpB := hat.lt
      have hlv1 : 1 ≤ lv := by omega
      clear hqk hfit hat ht e1' hlveq
      obtain ⟨r9, hr9⟩ : ∃ r9, (numR qs ((k : Int), y)).1 = r9 := ⟨_, rfl⟩
      have HLF := hid (show isLeaf qs (k : Int) (lv + 1 - y) = hasL (mate qs (k : Int) y) (leavesL qs) by rw [HM.out]; exact isLeaf_hasL _ _ _)
      obtain ⟨lf, hlf⟩ : ∃ lf, isLeaf qs (k : Int) (lv + 1 - y) = lf := ⟨_, rfl⟩
      have HMM := hid (show hasL (mate qs (k : Int) y) (leavesL qs) = lf by rw [← HLF.out, hlf])
      clear HLF
      cases lf
      all_goals
        go_enter Tryz.func59, Tryz.ntmps59
        go_wp2_with (go_at_call 57; refine (refNumberOf_any _ n c qs (k : Int) y W B hBs hq0).mono ?_; rintro e w1 ⟨he1, hb1⟩; rw [hr9, HN.out] at he1; subst he1)
        generalize hw3 : w1.alloc (Obj.cells #[Value.int IntKind.i64 r9, Value.int IntKind.i64 0] 53) = w3
        have hb13 : Below w1.heap.size w1 w3 := by rw [← hw3]; exact (Below.refl _ _).alloc (Nat.le_refl _) _
        have hBo1 := Nat.le_trans hBs hb1.size
        have hs3 : B ≤ w3.heap.size := Nat.le_trans hBo1 hb13.size
        have hq3 : Qs w3 B (some ad) n qs := (hq0.below (hb1.mono hBs)).below (hb13.mono hBo1)
        have HT3 := hid ((HT.out.below hb1).below hb13)
        obtain ⟨ht3, q0, q1, r0, r1, r2, r3, s0, s1, s2, s3⟩ := HT3.out
        have e1 := (((hb1.mono hBs).trans (hb13.mono hBo1)).cell (p := ⟨p.block, p.off + 1, none⟩) hpB).trans E1.out
        have a0 := fun o => (World.cell?_alloc_lt w3 o ⟨w.heap.size, 0, none⟩ (Nat.lt_of_succ_lt ht3)).trans q0
        have a1 := fun o => (World.cell?_alloc_lt w3 o ⟨w.heap.size, 1, none⟩ (Nat.lt_of_succ_lt ht3)).trans q1
        have a2 := fun o => (World.cell?_alloc_lt w3 o ⟨p.block, p.off + 1, none⟩ (Nat.lt_of_lt_of_le hpB hs3)).trans e1
        have HQS := hid (show ∀ o, Qs (w3.alloc o).drew B (some ad) n qs from fun o => (hq3.alloc hs3 o).keep (fun _ _ => rfl))
        have HSZ := hid (show ∀ o, B ≤ (w3.alloc o).drew.heap.size from fun o => by simp; omega)
        clear hw3 t0 t1
        go_region
        go_wp2_with fail
        go_at_call 123
        refine (leaf_any (some ad) n c qs (k : Int) (lv + 1 - y) _ B (HSZ.out _) (HQS.out _)).mono ?_
        rintro e w5 ⟨rfl, hb5⟩
        have hb35 := below_mid hb5
        have HB35 := hid hb35
        clear q0 q1 r0 r1 r2 r3 s0 s1 s2 s3
        obtain ⟨ht5, q0, q1, r0, r1, r2, r3, s0, s1, s2, s3⟩ := HT3.out.below hb35
        have p0 := (cellB (b := w3.heap.size) (o := 0) (v := .int .i64 (k : Int)) hb5 (by simp) (by simp [go_sem])).1
        have p1 := (cellB (b := w3.heap.size) (o := 1) (v := .int .i64 (lv + 1 - y)) hb5 (by simp) (by simp [go_sem])).1
        clear a0 a1 a2 hb35
        go_wp2
      · refine bodyPost_ret (v := .agg #[.int .i64 0, .int .i64 0, .bool false, .int .i64 0]) (by simp [results, Tryz.results59, go_sem, r0, r1, r2, r3]) rfl (ret_ld (by rw [partR_gone he HH.out HMM.out]) ?_)
        exact ((((chain5 hBW hb1 hb13 (Below.refl _ _) HB35.out).setCell (by simp) _).setCell (by simp) _).setCell (by simp) _).setCell (by simp) _
      · refine bodyPost_ret (v := .agg #[.int .i64 (k : Int), .int .i64 (lv + 1 - y), .bool true, .int .i64 0]) (by simp [results, Tryz.results59, go_sem, r0, r1, r2, r3]) rfl (ret_ld (by rw [partR_yes he HH.out HMM.out]; show (mate qs (k : Int) y, true, (0 : Int)) = _; rw [HM.out]) ?_)
        exact ((((chain5 hBW hb1 hb13 (Below.refl _ _) HB35.out).setCell (by simp) _).setCell (by simp) _).setCell (by simp) _).setCell (by simp) _
    · have hh' : hasL (x, y) (leavesL qs) = false := by simpa using hh
      have HN := hid (numR_lo he hh')
      have HT := hid ht
      clear ht
      obtain ⟨r9, hr9⟩ : ∃ r9, (numR qs (x, y)).1 = r9 := ⟨_, rfl⟩
      go_enter Tryz.func59, Tryz.ntmps59
      go_wp2_with (go_at_call 57; refine (refNumberOf_any _ n c qs x y W B hBs hq0).mono ?_; rintro e w1 ⟨he1, hb1⟩; rw [hr9, HN.out] at he1; subst he1; have HT1 := hid ((HT.out.below hb1).below ((Below.refl _ _).alloc (Nat.le_refl _) (Obj.cells #[Value.int IntKind.i64 r9, Value.int IntKind.i64 1] 53))); obtain ⟨ht3, q0, q1, r0, r1, r2, r3, s0, s1, s2, s3⟩ := HT1.out)
      refine bodyPost_ret (v := .agg #[.int .i64 0, .int .i64 0, .bool false, .int .i64 1]) (by simp [results, Tryz.results59, go_sem, r0, r1, r2, r3]) rfl (ret_ld (partR_no he hh') ?_)
      exact (((((hBW.trans (hb1.mono hBW.size)).alloc (Nat.le_trans hBW.size hb1.size) _).setCell (by simp) _).setCell (by simp) _).setCell (by simp) _).setCell (by simp) _
  · have h0' : (e != 0) = true := by simpa using h0
    have HE := hid he
    have HN := hid (show (numR qs (x, y)).2 = e by rw [numR_bad (by rw [he]; exact h0), he])
    have HT := hid ht
    clear ht
    obtain ⟨r9, hr9⟩ : ∃ r9, (numR qs (x, y)).1 = r9 := ⟨_, rfl⟩
    go_enter Tryz.func59, Tryz.ntmps59
    go_wp2_with (go_at_call 57; refine (refNumberOf_any _ n c qs x y W B hBs hq0).mono ?_; rintro e2 w1 ⟨he1, hb1⟩; rw [hr9, HN.out] at he1; subst he1; have HT1 := hid ((HT.out.below hb1).below ((Below.refl _ _).alloc (Nat.le_refl _) (Obj.cells #[Value.int IntKind.i64 r9, Value.int IntKind.i64 e] 53))); obtain ⟨ht3, q0, q1, r0, r1, r2, r3, s0, s1, s2, s3⟩ := HT1.out)
    refine bodyPost_ret (v := .agg #[.int .i64 0, .int .i64 0, .bool false, .int .i64 e]) (by simp [results, Tryz.results59, go_sem, r0, r1, r2, r3]) rfl (ret_ld (by rw [partR_err (by rw [HE.out]; exact h0), HE.out]) ?_)
    exact (((((hBW.trans (hb1.mono hBW.size)).alloc (Nat.le_trans hBW.size hb1.size) _).setCell (by simp) _).setCell (by simp) _).setCell (by simp) _).setCell (by simp) _
end Go.Proofs.YtcoplbaopaigcaaGreat
namespace Go.Proofs.YtcoplbaopaigcaaGreat
open Go.RowKit
def RetSome (w : World) (e : Ending) (w' : World) : Prop := ∃ b : Bool, e = .returned (.bool b) ∧ w = w'
set_option maxHeartbeats 4000000 in
set_option maxRecDepth 100000 in
theorem brief_any (A : Option Addr) (n c : Nat) (qs : List Q) (w : World) (B : Nat) (hq : Qs w B A n qs) :
    Calls Tryz.prog 53 #[.slice A n c] w (RetSome w) := by
  have hn := hq.2.1
  unfold maxLen at hn
  go_enter Tryz.func53, Tryz.ntmps53
  go_wp2
  go_loop [3] (fun i => ∃ k : Nat, k ≤ n ∧ i = .int .i64 k) (fun i => n - (intOf i).toNat)
  case atStart => exact ⟨0, Nat.zero_le _, rfl⟩
  case round =>
    obtain ⟨k, hk, rfl⟩ := hrel
    by_cases hlt : k < n
    · obtain ⟨ad, p, q, rfl, hp, hqk, hfit, hat⟩ := hq.at_ hlt
      have hs := hfit.1
      have hqn := hfit.2.1
      unfold maxLen at hs hqn
      have e0 := hat.c0
      have e2 := hat.c2
      clear hqk hfit hat
      by_cases h1 : 30 < q.n
      · have h1' : decide (30 < q.n) = true := by simpa using h1
        go_wp2
        go_ret
        exact ⟨_, rfl, rfl⟩
      · have h1' : decide (30 < q.n) = false := by simpa using h1
        by_cases h2 : 10 < q.s.size
        · have h2' : decide (10 < q.s.size) = true := by simpa using h2
          go_wp2
          go_ret
          exact ⟨_, rfl, rfl⟩
        · have h2' : decide (10 < q.s.size) = false := by simpa using h2
          go_wp2
          go_round
          case rel => exact ⟨k + 1, by omega, by go_num⟩
          case measure => simp [intOf]; omega
    · go_wp2
      go_ret
      exact ⟨_, rfl, rfl⟩
end Go.Proofs.YtcoplbaopaigcaaGreat
namespace Go.Proofs.YtcoplbaopaigcaaGreat
open Go.RowKit
/-- A block of the call's own: its first two cells. -/
structure Has (w : World) (b : Nat) (x y : Value) : Prop where
  lt : b < w.heap.size
  c0 : w.cell? ⟨b, 0, none⟩ = some x
  c1 : w.cell? ⟨b, 1, none⟩ = some y
theorem Has.below {w w' : World} {b : Nat} {x y : Value} (h : Has w b x y) (hb : Below w.heap.size w w') : Has w' b x y :=
  ⟨Nat.lt_of_lt_of_le h.lt hb.size, (cellB hb h.lt h.c0).1, (cellB hb h.lt h.c1).1⟩
theorem Has.alloc {w : World} {b : Nat} {x y : Value} (h : Has w b x y) (o : Obj) : Has (w.alloc o) b x y := h.below ((Below.refl _ _).alloc (Nat.le_refl _) o)
theorem Has.alls {w : World} {b : Nat} {x y : Value} (h : Has w b x y) : (∀ o, (w.alloc o).cell? ⟨b, 0, none⟩ = some x) ∧ (∀ o, (w.alloc o).cell? ⟨b, 1, none⟩ = some y) := ⟨fun o => (h.alloc o).c0, fun o => (h.alloc o).c1⟩
theorem Has.new (w : World) (t : TypeId) (x y : Value) : Has (w.alloc (.cells #[x, y] t)) w.heap.size x y := by
  have hb : Blk (w.alloc (.cells #[x, y] t)) w.heap.size t #[x, y] := Blk.new _ _ _
  exact ⟨by simp, by rw [hb.cell]; rfl, by rw [hb.cell]; rfl⟩
/-- A block of the call's own: its four cells. -/
structure Has4 (w : World) (b : Nat) (x y z u : Value) : Prop where
  lt : b < w.heap.size
  c0 : w.cell? ⟨b, 0, none⟩ = some x
  c1 : w.cell? ⟨b, 1, none⟩ = some y
  c2 : w.cell? ⟨b, 2, none⟩ = some z
  c3 : w.cell? ⟨b, 3, none⟩ = some u
theorem Has4.below {w w' : World} {b : Nat} {x y z u : Value} (h : Has4 w b x y z u) (hb : Below w.heap.size w w') : Has4 w' b x y z u :=
  ⟨Nat.lt_of_lt_of_le h.lt hb.size, (cellB hb h.lt h.c0).1, (cellB hb h.lt h.c1).1, (cellB hb h.lt h.c2).1, (cellB hb h.lt h.c3).1⟩
theorem Has4.alloc {w : World} {b : Nat} {x y z u : Value} (h : Has4 w b x y z u) (o : Obj) : Has4 (w.alloc o) b x y z u := h.below ((Below.refl _ _).alloc (Nat.le_refl _) o)
theorem Has4.new (w : World) (t : TypeId) (x y z u : Value) : Has4 (w.alloc (.cells #[x, y, z, u] t)) w.heap.size x y z u := by
  have hb : Blk (w.alloc (.cells #[x, y, z, u] t)) w.heap.size t #[x, y, z, u] := Blk.new _ _ _
  exact ⟨by simp, by rw [hb.cell]; rfl, by rw [hb.cell]; rfl, by rw [hb.cell]; rfl, by rw [hb.cell]; rfl⟩
theorem below_next {w wa wb : World} {o : Obj} (h : Below w.heap.size w wa) (hb : Below (wa.alloc o).heap.size (wa.alloc o) wb) : Below w.heap.size w wb :=
  h.trans ((((Below.refl _ _).alloc (Nat.le_refl _) o).trans (hb.mono (by simp))).mono h.size)
theorem below_go {w wa wb : World} (h : Below w.heap.size w wa) (hb : Below wa.heap.size wa wb) : Below w.heap.size w wb := h.trans (hb.mono h.size)
set_option maxHeartbeats 8000000 in
set_option maxRecDepth 100000 in
theorem law_any (hsan : ∀ w : World, Calls Tryz.prog 16 #[] w fun e w' => e = .returned (.bool true) ∧ Below w.heap.size w w')
    (A : Option Addr) (n c : Nat) (qs : List Q) (x a b : Int) (hx1 : -9223372036854775808 ≤ x) (hx2 : x ≤ 9223372036854775807) (w : World) (hq : Qs w w.heap.size A n qs) :
    Calls Tryz.prog 8 #[.slice A n c, .int .i64 x, .agg #[.int .i64 a, .int .i64 b]] w fun e w' => e = .returned (.bool true) ∧ Below w.heap.size w w' := by
  obtain ⟨⟨⟨l1, l2⟩, l3⟩, hl⟩ : ∃ r, leafR qs x = r := ⟨_, rfl⟩
  obtain ⟨⟨m1, m2⟩, hm⟩ : ∃ r, numR qs (a, b) = r := ⟨_, rfl⟩
  obtain ⟨⟨⟨p1, p2⟩, p3, p4⟩, hp⟩ : ∃ r, partR qs (a, b) = r := ⟨_, rfl⟩
  have hBF : Below w.heap.size w (w.alloc (Obj.cells #[Value.int .i64 a, Value.int .i64 b] 90)) := (Below.refl _ _).alloc (Nat.le_refl _) _
  have F0 := hid (Has.new w 90 (.int .i64 a) (.int .i64 b))
  have HL := hid hl
  have HM := hid hm
  have HP := hid hp
  have HBF := hid hBF
  clear hl hm hp hBF
  have qq := fun X Y xs ys w => guardrun90 X Y xs ys w
  have q1 := fun w => (eq90 l1 l2 l1 l2 w).trans (show Result.ok (Value.bool (l1 == l1 && l2 == l2)) w = Result.ok (Value.bool true) w by simp)
  have q2 := fun w => (eq90 p1 p2 p1 p2 w).trans (show Result.ok (Value.bool (p1 == p1 && p2 == p2)) w = Result.ok (Value.bool true) w by simp)
  go_enter Tryz.func8, Tryz.ntmps8
  go_wp2_with (go_at_call 53; refine (brief_any A n c qs _ w.heap.size (hq.below HBF.out)).mono ?_; rintro e w' ⟨bb, rfl, rfl⟩; cases bb)
  · go_at_call 16
    refine (hsan _).mono ?_
    rintro e w1 ⟨rfl, hb1⟩
    have HB1 := hid hb1
    clear hb1
    go_wp2
    go_ret
    exact ⟨rfl, below_go HBF.out HB1.out⟩
  · go_at_call 54
    refine (leafOf_any A n c qs x hx1 hx2 _ w.heap.size HBF.out.size (hq.below HBF.out)).mono ?_
    rintro e w1 ⟨he, hb1⟩
    rw [HL.out] at he
    simp only at he
    subst he
    have F1 := hid (F0.out.below hb1)
    have HBF1 := hid (below_go HBF.out hb1)
    obtain ⟨f0, f1⟩ := F1.out.alls
    clear hb1
    go_wp2_with fail
    go_at_call 55
    refine (refLeafOf_any A n c qs x hx1 hx2 _ w.heap.size (((HBF1.out.alloc HBF1.out.size _)).size) (hq.below (HBF1.out.alloc HBF1.out.size _))).mono ?_
    rintro e w2 ⟨he, hb2⟩
    rw [HL.out] at he
    simp only at he
    subst he
    clear f0 f1
    have F2 := hid ((F1.out.alloc _).below hb2)
    have A2 := hid ((Has.new w1 90 (.int .i64 l1) (.int .i64 l2)).below hb2)
    have HBF2 := hid (below_next HBF1.out hb2)
    obtain ⟨f0, f1⟩ := F2.out.alls
    clear hb2
    go_wp2_with fail
    go_at_call 56
    refine (numberOf_any A n c qs a b _ w.heap.size (((HBF2.out.alloc HBF2.out.size _)).size) (hq.below (HBF2.out.alloc HBF2.out.size _))).mono ?_
    rintro e w3 ⟨he, hb3⟩
    rw [HM.out] at he
    simp only at he
    subst he
    clear f0 f1
    have F3 := hid ((F2.out.alloc _).below hb3)
    have A3 := hid ((A2.out.alloc _).below hb3)
    have X3 := hid ((Has4.new w2 95 (.int .i64 l1) (.int .i64 l2) (.bool false) (.int .i64 l3)).below hb3)
    have HBF3 := hid (below_next HBF2.out hb3)
    obtain ⟨-, f0, f1⟩ := F3.out
    clear hb3
    go_wp2_with fail
    go_at_call 57
    refine (refNumberOf_any A n c qs a b _ w.heap.size HBF3.out.size (hq.below HBF3.out)).mono ?_
    rintro e w4 ⟨he, hb4⟩
    rw [HM.out] at he
    simp only at he
    subst he
    clear f0 f1
    have F4 := hid (F3.out.below hb4)
    have A4 := hid (A3.out.below hb4)
    have X4 := hid (X3.out.below hb4)
    have HBF4 := hid (below_go HBF3.out hb4)
    obtain ⟨f0, f1⟩ := F4.out.alls
    clear hb4
    go_wp2_with fail
    go_at_call 58
    refine (partner_any A n c qs a b _ w.heap.size (((HBF4.out.alloc HBF4.out.size _)).size) (hq.below (HBF4.out.alloc HBF4.out.size _))).mono ?_
    rintro e w5 ⟨he, hb5⟩
    rw [HP.out] at he
    simp only at he
    subst he
    clear f0 f1
    have F5 := hid ((F4.out.alloc _).below hb5)
    have A5 := hid ((A4.out.alloc _).below hb5)
    have X5 := hid ((X4.out.alloc _).below hb5)
    have Y5 := hid ((Has.new w4 53 (.int .i64 m1) (.int .i64 m2)).below hb5)
    have HBF5 := hid (below_next HBF4.out hb5)
    obtain ⟨f0, f1⟩ := F5.out.alls
    clear hb5
    go_wp2_with fail
    go_at_call 59
    refine (refPartner_any A n c qs a b _ w.heap.size (((HBF5.out.alloc HBF5.out.size _)).size) (hq.below (HBF5.out.alloc HBF5.out.size _))).mono ?_
    rintro e w6 ⟨he, hb6⟩
    rw [HP.out] at he
    simp only at he
    subst he
    clear f0 f1
    have A6 := hid ((A5.out.alloc _).below hb6)
    have X6 := hid ((X5.out.alloc _).below hb6)
    have Y6 := hid ((Y5.out.alloc _).below hb6)
    have C6 := hid ((Has.new w5 90 (.int .i64 p1) (.int .i64 p2)).below hb6)
    have HBF6 := hid (below_next HBF5.out hb6)
    clear hb6
    go_wp2_with fail
    go_at_call 16
    refine (hsan _).mono ?_
    rintro e w7 ⟨rfl, hb7⟩
    obtain ⟨-, a0, a1⟩ := (A6.out.alloc _).below hb7
    obtain ⟨-, x0, x1, x2, x3⟩ := (X6.out.alloc _).below hb7
    obtain ⟨-, y0, y1⟩ := (Y6.out.alloc _).below hb7
    obtain ⟨-, c0, c1⟩ := (C6.out.alloc _).below hb7
    obtain ⟨-, z0, z1, z2, z3⟩ := (Has4.new w6 95 (.int .i64 p1) (.int .i64 p2) (.bool p3) (.int .i64 p4)).below hb7
    have HBF7 := hid (below_next HBF6.out hb7)
    clear hb7
    go_wp2
    go_ret
    exact ⟨rfl, HBF7.out⟩
end Go.Proofs.YtcoplbaopaigcaaGreat
