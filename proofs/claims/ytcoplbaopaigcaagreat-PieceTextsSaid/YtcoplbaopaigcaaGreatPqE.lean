/- LeafOf, and NumberOf of the program. -/
import Derived.RegionTactic
import Derived.Deep.RegionWith
import Derived.Test.YtcoplbaopaigcaaGreatPqD
set_option linter.all false
namespace Go.Proofs.YtcoplbaopaigcaaGreat
open Go.RowKit
theorem err_ok {qs : List Q} (h : err qs = 0) : qs.length ≤ 40 ∧ ∀ q ∈ qs, 2 ≤ q.lv ∧ q.lv ≤ 24 := by
  unfold err at h
  by_cases h40 : 40 < qs.length
  · rw [if_pos h40] at h; exact absurd h (by omega)
  · rw [if_neg h40] at h
    refine ⟨by omega, fun q hq => ?_⟩
    have := ok_of_errGo qs [] h q hq
    unfold Q.ok qOkB at this
    simp only [Bool.and_eq_true] at this
    exact win_iff.1 this.1.2
/-- The cells of a block of the call's own, two calls later. -/
theorem cell_later2 {W w1 w2 : World} {b o : Nat} {v : Value} (h1 : Below W.heap.size W w1) (h2 : Below w1.heap.size w1 w2) (hb : b < W.heap.size) (hc : W.cell? ⟨b, o, none⟩ = some v) (hf : W.frozen? ⟨b, o, none⟩ = false) :
    w2.cell? ⟨b, o, none⟩ = some v ∧ w2.frozen? ⟨b, o, none⟩ = false :=
  ⟨(h2.cell (p := ⟨b, o, none⟩) (Nat.lt_of_lt_of_le hb h1.size)).trans ((h1.cell (p := ⟨b, o, none⟩) hb).trans hc), (h2.frozen (p := ⟨b, o, none⟩) (Nat.lt_of_lt_of_le hb h1.size)).trans ((h1.frozen (p := ⟨b, o, none⟩) hb).trans hf)⟩
theorem cell_later1 {W w1 : World} {b o : Nat} {v : Value} (h1 : Below W.heap.size W w1) (hb : b < W.heap.size) (hc : W.cell? ⟨b, o, none⟩ = some v) (hf : W.frozen? ⟨b, o, none⟩ = false) :
    w1.cell? ⟨b, o, none⟩ = some v ∧ w1.frozen? ⟨b, o, none⟩ = false :=
  ⟨(h1.cell (p := ⟨b, o, none⟩) hb).trans hc, (h1.frozen (p := ⟨b, o, none⟩) hb).trans hf⟩
theorem below_two {w w1 w2 : World} {o : Obj} (h1 : Below (w.alloc o).heap.size (w.alloc o) w1) (h2 : Below w1.heap.size w1 w2) : Below w.heap.size w w2 :=
  (((Below.refl _ _).alloc (Nat.le_refl _) _).trans (h1.mono (by simp))).trans (h2.mono (by have := h1.size; simp at this; omega))
theorem below_one {w w1 : World} {o : Obj} (h1 : Below (w.alloc o).heap.size (w.alloc o) w1) : Below w.heap.size w w1 :=
  ((Below.refl _ _).alloc (Nat.le_refl _) _).trans (h1.mono (by simp))
def leafR (qs : List Q) (n : Int) : (Int × Int) × Int :=
  if err qs ≠ 0 then ((0, 0), err qs) else if win 1 (leavesL qs).length n = true then ((leavesL qs).getD (n - 1).toNat (0, 0), 0) else ((0, 0), 5)
theorem leafR_err {qs : List Q} {n : Int} (h : err qs ≠ 0) : leafR qs n = ((0, 0), err qs) := by unfold leafR; rw [if_pos h]
theorem leafR_no {qs : List Q} {n : Int} (h : err qs = 0) (h1 : win 1 (leavesL qs).length n = false) : leafR qs n = ((0, 0), 5) := by unfold leafR; rw [if_neg (by simp [h]), if_neg (by simp [h1])]
theorem leafR_yes {qs : List Q} {n : Int} {k : Nat} {f : Int × Int} (h : err qs = 0) (hk : n = (k : Int) + 1) (hf : (leavesL qs)[k]? = some f) : leafR qs n = (f, 0) := by
  obtain ⟨hl, hf⟩ := List.getElem?_eq_some_iff.1 hf
  unfold leafR
  rw [if_neg (by simp [h]), if_pos (win_iff.2 ⟨by omega, by omega⟩), show (n - 1).toNat = k by omega, List.getD_eq_getElem?_getD, List.getElem?_eq_getElem hl, hf]; rfl
def RetLeaf (r : (Int × Int) × Int) (w : World) (e : Ending) (w' : World) : Prop :=
  e = .returned (.tuple #[.agg #[.int .i64 r.1.1, .int .i64 r.1.2], .int .i64 r.2]) ∧ Below w.heap.size w w'
theorem ret_leaf {a b c : Int} {r : (Int × Int) × Int} {w w' : World} (h : r = ((a, b), c)) (hb : Below w.heap.size w w') : RetLeaf r w (.returned (.tuple #[.agg #[.int .i64 a, .int .i64 b], .int .i64 c])) w' := by
  subst h; exact ⟨rfl, hb⟩
set_option maxHeartbeats 4000000 in
set_option maxRecDepth 100000 in
theorem leafOf_any (A : Option Addr) (n c : Nat) (qs : List Q) (x : Int) (hx1 : -9223372036854775808 ≤ x) (hx2 : x ≤ 9223372036854775807) (w : World) (B : Nat) (hB : B ≤ w.heap.size) (hq : Qs w B A n qs) :
    Calls Tryz.prog 54 #[.slice A n c, .int .i64 x] w (RetLeaf (leafR qs x) w) := by
  have HL := hid hq.1
  obtain ⟨e, he⟩ : ∃ e, err qs = e := ⟨_, rfl⟩
  have hq0 := hq.alloc hB (Obj.cells #[Value.int .i64 0, Value.int .i64 0] 90)
  by_cases h0 : e = 0
  · subst h0
    have HE := hid he
    obtain ⟨h40, h24⟩ := err_ok he
    have H24 := hid h24
    rw [HL.out] at h40
    clear h24
    by_cases hw : win 1 (leavesL qs).length x = true
    · have HW := hid hw
      obtain ⟨hlo, hhi⟩ := win_iff.1 hw
      obtain ⟨k, rfl⟩ : ∃ k : Nat, x = (k : Int) + 1 := ⟨(x - 1).toNat, by omega⟩
      go_enter Tryz.func54, Tryz.ntmps54
      go_wp2_with (first
        | (go_at_call 116; refine (checkQuires_any A n c qs _ B (by simp; omega) hq0).mono ?_; rintro e w1 ⟨rfl, hb1⟩; obtain ⟨hc1, hf1⟩ := bcell hb1)
        | (go_at_call 117; refine (leavesOf_any A n c qs _ B (by have := hb1.size; simp at this; omega) (hq0.below (hb1.mono (by simp; omega))) h40 H24.out).mono ?_; rintro e w2 ⟨v, rfl, hown, hb2⟩; obtain ⟨A2, c2, rfl, hls⟩ := ls_of_own hown; obtain ⟨ad2, p2, f, rfl, hp2, hf, hpb, g0, g1⟩ := hls.at_ (k := k) (by omega); obtain ⟨r0, s0⟩ := cell_later2 (b := w.heap.size) (o := 0) (v := .int .i64 0) hb1 hb2 (by simp) (by simp [go_sem]) (by simp [go_sem]); obtain ⟨r1, s1⟩ := cell_later2 (b := w.heap.size) (o := 1) (v := .int .i64 0) hb1 hb2 (by simp) (by simp [go_sem]) (by simp [go_sem]); have HF := hid hf; clear hf hc1 hf1)
        | (go_at_call 118; refine (within_any _ _ _ _).mono ?_; rintro e w' ⟨rfl, rfl⟩))
      refine bodyPost_ret (v := .tuple #[.agg #[.int .i64 f.1, .int .i64 f.2], .int .i64 0]) (by simp [results, Tryz.results54, go_sem, r0, r1]) rfl (ret_leaf (leafR_yes he rfl HF.out) ?_)
      exact ((below_two hb1 hb2).setCell (Nat.le_refl _) _).setCell (Nat.le_refl _) _
    · have hw' : win 1 (leavesL qs).length x = false := by simpa using hw
      go_enter Tryz.func54, Tryz.ntmps54
      go_wp2_with (first
        | (go_at_call 116; refine (checkQuires_any A n c qs _ B (by simp; omega) hq0).mono ?_; rintro e w1 ⟨rfl, hb1⟩)
        | (go_at_call 117; refine (leavesOf_any A n c qs _ B (by have := hb1.size; simp at this; omega) (hq0.below (hb1.mono (by simp; omega))) h40 H24.out).mono ?_; rintro e w2 ⟨v, rfl, hown, hb2⟩; obtain ⟨A2, c2, rfl, hls⟩ := ls_of_own hown; obtain ⟨r0, s0⟩ := cell_later2 (b := w.heap.size) (o := 0) (v := .int .i64 0) hb1 hb2 (by simp) (by simp [go_sem]) (by simp [go_sem]); obtain ⟨r1, s1⟩ := cell_later2 (b := w.heap.size) (o := 1) (v := .int .i64 0) hb1 hb2 (by simp) (by simp [go_sem]) (by simp [go_sem]))
        | (go_at_call 118; refine (within_any _ _ _ _).mono ?_; rintro e w' ⟨rfl, rfl⟩))
      refine bodyPost_ret (v := .tuple #[.agg #[.int .i64 0, .int .i64 0], .int .i64 5]) (by simp [results, Tryz.results54, go_sem, r0, r1]) rfl (ret_leaf (leafR_no he hw') ?_)
      exact ((below_two hb1 hb2).setCell (Nat.le_refl _) _).setCell (Nat.le_refl _) _
  · have h0' : (e != 0) = true := by simpa using h0
    have HE := hid he
    go_enter Tryz.func54, Tryz.ntmps54
    go_wp2_with (first
        | (go_at_call 116; refine (checkQuires_any A n c qs _ B (by simp; omega) hq0).mono ?_; rintro e w1 ⟨rfl, hb1⟩; obtain ⟨r0, s0⟩ := cell_later1 (b := w.heap.size) (o := 0) (v := .int .i64 0) hb1 (by simp) (by simp [go_sem]) (by simp [go_sem]); obtain ⟨r1, s1⟩ := cell_later1 (b := w.heap.size) (o := 1) (v := .int .i64 0) hb1 (by simp) (by simp [go_sem]) (by simp [go_sem])))
    refine bodyPost_ret (v := .tuple #[.agg #[.int .i64 0, .int .i64 0], .int .i64 e]) (by simp [results, Tryz.results54, go_sem, r0, r1]) rfl (ret_leaf (by rw [leafR_err (by rw [HE.out]; exact h0), HE.out]) ?_)
    exact ((below_one hb1).setCell (Nat.le_refl _) _).setCell (Nat.le_refl _) _
end Go.Proofs.YtcoplbaopaigcaaGreat
namespace Go.Proofs.YtcoplbaopaigcaaGreat
open Go.RowKit
def RetLd (r : (Int × Int) × Bool × Int) (w : World) (e : Ending) (w' : World) : Prop :=
  e = .returned (.agg #[.int .i64 r.1.1, .int .i64 r.1.2, .bool r.2.1, .int .i64 r.2.2]) ∧ Below w.heap.size w w'
theorem ret_ld {a b c : Int} {i : Bool} {r : (Int × Int) × Bool × Int} {w w' : World} (h : r = ((a, b), i, c)) (hb : Below w.heap.size w w') : RetLd r w (.returned (.agg #[.int .i64 a, .int .i64 b, .bool i, .int .i64 c])) w' := by
  subst h; exact ⟨rfl, hb⟩
abbrev zero95 : Obj := Obj.cells #[Value.int .i64 0, Value.int .i64 0, Value.bool false, Value.int .i64 0] 95
set_option maxHeartbeats 4000000 in
set_option maxRecDepth 100000 in
theorem refLeafOf_any (A : Option Addr) (n c : Nat) (qs : List Q) (x : Int) (hx1 : -9223372036854775808 ≤ x) (hx2 : x ≤ 9223372036854775807) (w : World) (B : Nat) (hB : B ≤ w.heap.size) (hq : Qs w B A n qs) :
    Calls Tryz.prog 55 #[.slice A n c, .int .i64 x] w (RetLd ((leafR qs x).1, false, (leafR qs x).2) w) := by
  have HL := hid hq.1
  obtain ⟨e, he⟩ : ∃ e, err qs = e := ⟨_, rfl⟩
  have hq0 := hq.alloc hB (Obj.cells #[Value.int .i64 0, Value.int .i64 0, Value.bool false, Value.int .i64 0] 95)
  by_cases h0 : e = 0
  · subst h0
    have HE := hid he
    obtain ⟨h40, h24⟩ := err_ok he
    have H24 := hid h24
    rw [HL.out] at h40
    clear h24
    by_cases hw : win 1 (leavesL qs).length x = true
    · have HW := hid hw
      obtain ⟨hlo, hhi⟩ := win_iff.1 hw
      obtain ⟨k, rfl⟩ : ∃ k : Nat, x = (k : Int) + 1 := ⟨(x - 1).toNat, by omega⟩
      go_enter Tryz.func55, Tryz.ntmps55
      go_wp2_with (first
        | (go_at_call 119; refine (Quires_any A n c qs _ B (by simp; omega) hq0).mono ?_; rintro e w1 ⟨rfl, hb1⟩)
        | (go_at_call 120; refine (leaves_any A n c qs _ B (by have := hb1.size; simp at this; omega) (hq0.below (hb1.mono (by simp; omega))) h40 H24.out).mono ?_; rintro e w2 ⟨v, rfl, hown, hb2⟩; obtain ⟨A2, c2, rfl, hls⟩ := ls_of_own hown; obtain ⟨ad2, p2, f, rfl, hp2, hf, hpb, g0, g1⟩ := hls.at_ (k := k) (by omega); obtain ⟨r0, s0⟩ := cell_later2 (b := w.heap.size) (o := 0) (v := .int .i64 0) hb1 hb2 (by simp) (by simp [go_sem]) (by simp [go_sem]); obtain ⟨r1, s1⟩ := cell_later2 (b := w.heap.size) (o := 1) (v := .int .i64 0) hb1 hb2 (by simp) (by simp [go_sem]) (by simp [go_sem]); obtain ⟨r2, s2⟩ := cell_later2 (b := w.heap.size) (o := 2) (v := .bool false) hb1 hb2 (by simp) (by simp [go_sem]) (by simp [go_sem]); obtain ⟨r3, s3⟩ := cell_later2 (b := w.heap.size) (o := 3) (v := .int .i64 0) hb1 hb2 (by simp) (by simp [go_sem]) (by simp [go_sem]); have HF := hid hf; clear hf)
        | (go_at_call 115; refine (in_any _ _ _ _).mono ?_; rintro e w' ⟨rfl, rfl⟩))
      refine bodyPost_ret (v := .agg #[.int .i64 f.1, .int .i64 f.2, .bool false, .int .i64 0]) (by simp [results, Tryz.results55, go_sem, r0, r1, r2, r3]) rfl (ret_ld (by rw [leafR_yes he rfl HF.out]) ?_)
      exact ((((below_two hb1 hb2).setCell (Nat.le_refl _) _).setCell (Nat.le_refl _) _).setCell (Nat.le_refl _) _).setCell (Nat.le_refl _) _
    · have hw' : win 1 (leavesL qs).length x = false := by simpa using hw
      go_enter Tryz.func55, Tryz.ntmps55
      go_wp2_with (first
        | (go_at_call 119; refine (Quires_any A n c qs _ B (by simp; omega) hq0).mono ?_; rintro e w1 ⟨rfl, hb1⟩)
        | (go_at_call 120; refine (leaves_any A n c qs _ B (by have := hb1.size; simp at this; omega) (hq0.below (hb1.mono (by simp; omega))) h40 H24.out).mono ?_; rintro e w2 ⟨v, rfl, hown, hb2⟩; obtain ⟨A2, c2, rfl, hls⟩ := ls_of_own hown; obtain ⟨r0, s0⟩ := cell_later2 (b := w.heap.size) (o := 0) (v := .int .i64 0) hb1 hb2 (by simp) (by simp [go_sem]) (by simp [go_sem]); obtain ⟨r1, s1⟩ := cell_later2 (b := w.heap.size) (o := 1) (v := .int .i64 0) hb1 hb2 (by simp) (by simp [go_sem]) (by simp [go_sem]); obtain ⟨r2, s2⟩ := cell_later2 (b := w.heap.size) (o := 2) (v := .bool false) hb1 hb2 (by simp) (by simp [go_sem]) (by simp [go_sem]); obtain ⟨r3, s3⟩ := cell_later2 (b := w.heap.size) (o := 3) (v := .int .i64 0) hb1 hb2 (by simp) (by simp [go_sem]) (by simp [go_sem]))
        | (go_at_call 115; refine (in_any _ _ _ _).mono ?_; rintro e w' ⟨rfl, rfl⟩))
      refine bodyPost_ret (v := .agg #[.int .i64 0, .int .i64 0, .bool false, .int .i64 5]) (by simp [results, Tryz.results55, go_sem, r0, r1, r2, r3]) rfl (ret_ld (by rw [leafR_no he hw']) ?_)
      exact ((((below_two hb1 hb2).setCell (Nat.le_refl _) _).setCell (Nat.le_refl _) _).setCell (Nat.le_refl _) _).setCell (Nat.le_refl _) _
  · have h0' : (e != 0) = true := by simpa using h0
    have HE := hid he
    go_enter Tryz.func55, Tryz.ntmps55
    go_wp2_with (first
        | (go_at_call 119; refine (Quires_any A n c qs _ B (by simp; omega) hq0).mono ?_; rintro e w1 ⟨rfl, hb1⟩; obtain ⟨r0, s0⟩ := cell_later1 (b := w.heap.size) (o := 0) (v := .int .i64 0) hb1 (by simp) (by simp [go_sem]) (by simp [go_sem]); obtain ⟨r1, s1⟩ := cell_later1 (b := w.heap.size) (o := 1) (v := .int .i64 0) hb1 (by simp) (by simp [go_sem]) (by simp [go_sem]); obtain ⟨r2, s2⟩ := cell_later1 (b := w.heap.size) (o := 2) (v := .bool false) hb1 (by simp) (by simp [go_sem]) (by simp [go_sem]); obtain ⟨r3, s3⟩ := cell_later1 (b := w.heap.size) (o := 3) (v := .int .i64 0) hb1 (by simp) (by simp [go_sem]) (by simp [go_sem])))
    refine bodyPost_ret (v := .agg #[.int .i64 0, .int .i64 0, .bool false, .int .i64 e]) (by simp [results, Tryz.results55, go_sem, r0, r1, r2, r3]) rfl (ret_ld (by rw [leafR_err (by rw [HE.out]; exact h0), HE.out]) ?_)
    exact ((((below_one hb1).setCell (Nat.le_refl _) _).setCell (Nat.le_refl _) _).setCell (Nat.le_refl _) _).setCell (Nat.le_refl _) _
end Go.Proofs.YtcoplbaopaigcaaGreat
namespace Go.Proofs.YtcoplbaopaigcaaGreat
open Go.RowKit
def numR (qs : List Q) (f : Int × Int) : Int × Int :=
  if err qs ≠ 0 then (0, err qs) else if ixL f (leavesL qs) < 0 then (0, 1) else (ixL f (leavesL qs) + 1, 0)
theorem numR_err {qs : List Q} {f : Int × Int} (h : err qs ≠ 0) : numR qs f = (0, err qs) := by unfold numR; rw [if_pos h]
theorem numR_no {qs : List Q} {f : Int × Int} (h : err qs = 0) (h1 : ixL f (leavesL qs) < 0) : numR qs f = (0, 1) := by unfold numR; rw [if_neg (by simp [h]), if_pos h1]
theorem numR_yes {qs : List Q} {f : Int × Int} (h : err qs = 0) (h1 : ¬ ixL f (leavesL qs) < 0) : numR qs f = (ixL f (leavesL qs) + 1, 0) := by unfold numR; rw [if_neg (by simp [h]), if_neg h1]
theorem ixL_le (f : Int × Int) (l : List (Int × Int)) : -1 ≤ ixL f l ∧ ixL f l ≤ l.length := by
  unfold ixL
  by_cases h : f ∈ l
  · rw [if_pos h]; have := List.idxOf_le_length (a := f) (l := l); omega
  · rw [if_neg h]; omega
theorem below_num {w w1 w2 w3 : World} {o : Obj} (h1 : Below (w.alloc o).heap.size (w.alloc o) w1) (h2 : Below w1.drew.heap.size w1.drew w2) (h3 : Below w2.heap.size w2 w3) : Below w.heap.size w w3 := by
  have b1 := (below_one h1).drew
  have b2 := b1.trans (h2.mono b1.size)
  exact b2.trans (h3.mono b2.size)
def RetNum (r : Int × Int) (w : World) (e : Ending) (w' : World) : Prop :=
  e = .returned (.tuple #[.int .i64 r.1, .int .i64 r.2]) ∧ Below w.heap.size w w'
theorem ret_num {a b : Int} {r : Int × Int} {w w' : World} (h : r = (a, b)) (hb : Below w.heap.size w w') : RetNum r w (.returned (.tuple #[.int .i64 a, .int .i64 b])) w' := by
  subst h; exact ⟨rfl, hb⟩
set_option maxHeartbeats 4000000 in
set_option maxRecDepth 100000 in
theorem numberOf_any (A : Option Addr) (n c : Nat) (qs : List Q) (x y : Int) (w : World) (B : Nat) (hB : B ≤ w.heap.size) (hq : Qs w B A n qs) :
    Calls Tryz.prog 56 #[.slice A n c, .agg #[.int .i64 x, .int .i64 y]] w (RetNum (numR qs (x, y)) w) := by
  have HL := hid hq.1
  obtain ⟨e, he⟩ : ∃ e, err qs = e := ⟨_, rfl⟩
  have hq0 := hq.alloc hB (Obj.cells #[Value.int .i64 x, Value.int .i64 y] 90)
  by_cases h0 : e = 0
  · subst h0
    have HE := hid he
    obtain ⟨h40, h24⟩ := err_ok he
    have H24 := hid h24
    rw [HL.out] at h40
    clear h24
    have hle := ixL_le (x, y) (leavesL qs)
    have hlen : (leavesL qs).length ≤ 24 * 40 := Nat.le_trans (firstL_length qs (fun q h => (H24.out q h).2) _) (by rw [HL.out]; omega)
    obtain ⟨k, hk⟩ : ∃ k, ixL (x, y) (leavesL qs) = k := ⟨_, rfl⟩
    rw [hk] at hle
    by_cases hw : k < 0
    · go_enter Tryz.func56, Tryz.ntmps56
      go_wp2_with (first
        | (go_at_call 116; refine (checkQuires_any A n c qs _ B (by simp; omega) hq0).mono ?_; rintro e w1 ⟨rfl, hb1⟩; obtain ⟨r0, s0⟩ := cell_later1 (b := w.heap.size) (o := 0) (v := .int .i64 x) hb1 (by simp) (by simp [go_sem]) (by simp [go_sem]); obtain ⟨r1, s1⟩ := cell_later1 (b := w.heap.size) (o := 1) (v := .int .i64 y) hb1 (by simp) (by simp [go_sem]) (by simp [go_sem])))
      have HC := hid (show ∀ w' : World, Below w1.heap.size w1 w' → Calls Tryz.prog 117 #[.slice A n c] w' (RetLs (leavesL qs) w') by
        intro w' h
        have hs := hb1.size
        simp at hs
        exact leavesOf_any A n c qs w' B (by have := h.size; omega) ((hq0.below (hb1.mono (by simp; omega))).below (h.mono (by omega))) h40 H24.out)
      have hlt1 : w.heap.size < w1.heap.size := by have := hb1.size; simp at this; omega
      go_region_with ((first
        | (go_at_call 117; refine (HC.out _ (by first | exact Below.refl _ _ | exact (Below.refl _ _).drew)).mono ?_; rintro e w2 ⟨v, rfl, hown, hb2⟩; obtain ⟨A2, c2, rfl, hls⟩ := ls_of_own hown; have r0' := (hb2.cell (p := ⟨w.heap.size, 0, none⟩) hlt1).trans r0; have r1' := (hb2.cell (p := ⟨w.heap.size, 1, none⟩) hlt1).trans r1)
        | (go_at_call 121; refine (indexL_any A2 _ c2 (leavesL qs) x y _ _ (Nat.le_refl _) hls).mono ?_; rintro e w3 ⟨rfl, hb3⟩)))
      all_goals go_wp2
      all_goals go_ret2
      all_goals exact ret_num (numR_no he (by rw [hk]; exact hw)) (below_num hb1 hb2 hb3)
    · have hw' : decide (k < 0) = false := by simpa using hw
      go_enter Tryz.func56, Tryz.ntmps56
      go_wp2_with (first
        | (go_at_call 116; refine (checkQuires_any A n c qs _ B (by simp; omega) hq0).mono ?_; rintro e w1 ⟨rfl, hb1⟩; obtain ⟨r0, s0⟩ := cell_later1 (b := w.heap.size) (o := 0) (v := .int .i64 x) hb1 (by simp) (by simp [go_sem]) (by simp [go_sem]); obtain ⟨r1, s1⟩ := cell_later1 (b := w.heap.size) (o := 1) (v := .int .i64 y) hb1 (by simp) (by simp [go_sem]) (by simp [go_sem])))
      have HC := hid (show ∀ w' : World, Below w1.heap.size w1 w' → Calls Tryz.prog 117 #[.slice A n c] w' (RetLs (leavesL qs) w') by
        intro w' h
        have hs := hb1.size
        simp at hs
        exact leavesOf_any A n c qs w' B (by have := h.size; omega) ((hq0.below (hb1.mono (by simp; omega))).below (h.mono (by omega))) h40 H24.out)
      have hlt1 : w.heap.size < w1.heap.size := by have := hb1.size; simp at this; omega
      go_region_with ((first
        | (go_at_call 117; refine (HC.out _ (by first | exact Below.refl _ _ | exact (Below.refl _ _).drew)).mono ?_; rintro e w2 ⟨v, rfl, hown, hb2⟩; obtain ⟨A2, c2, rfl, hls⟩ := ls_of_own hown; have r0' := (hb2.cell (p := ⟨w.heap.size, 0, none⟩) hlt1).trans r0; have r1' := (hb2.cell (p := ⟨w.heap.size, 1, none⟩) hlt1).trans r1)
        | (go_at_call 121; refine (indexL_any A2 _ c2 (leavesL qs) x y _ _ (Nat.le_refl _) hls).mono ?_; rintro e w3 ⟨rfl, hb3⟩)))
      all_goals go_wp2
      all_goals go_ret2
      all_goals exact ret_num (by rw [numR_yes he (by rw [hk]; omega), hk]) (below_num hb1 hb2 hb3)
  · have h0' : (e != 0) = true := by simpa using h0
    have HE := hid he
    go_enter Tryz.func56, Tryz.ntmps56
    go_wp2_with (go_at_call 116; refine (checkQuires_any A n c qs _ B (by simp; omega) hq0).mono ?_; rintro e w1 ⟨rfl, hb1⟩)
    go_ret2
    exact ret_num (by rw [numR_err (by rw [HE.out]; exact h0), HE.out]) (below_one hb1)
end Go.Proofs.YtcoplbaopaigcaaGreat
