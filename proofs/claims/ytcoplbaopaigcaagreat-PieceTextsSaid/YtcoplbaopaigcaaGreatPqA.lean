/- Letters, signs and leaves that are gone: the contracts of the small functions. -/
import Derived.Test.YtcoplbaopaigcaaGreatProg
import Derived.WalkKit
import Derived.WalkSpells
import Derived.WalkLawsBesides
import Derived.Below
import Derived.Laws.OwnMore
import Derived.Deep.AppendLies
import Derived.Deep.Draws
import Derived.Laws.RangeAny
import Derived.Laws.RangeString
set_option linter.all false
namespace Go.Proofs.YtcoplbaopaigcaaGreat
open Go.RowKit
def win (lo hi n : Int) : Bool := decide (lo ≤ n) && decide (n ≤ hi)
set_option maxHeartbeats 400000 in
theorem within_any (n lo hi : Int) (w : World) :
    Calls Tryz.prog 118 #[.int .i64 n, .int .i64 lo, .int .i64 hi] w fun e w' => e = .returned (.bool (win lo hi n)) ∧ w = w' := by
  unfold win
  by_cases h1 : lo ≤ n
  · have h1' : decide (lo ≤ n) = true := by simpa using h1
    go_enter Tryz.func118, Tryz.ntmps118
    go_wp2
    go_ret
    exact ⟨by simp [h1], rfl⟩
  · have h1' : decide (lo ≤ n) = false := by simpa using h1
    go_enter Tryz.func118, Tryz.ntmps118
    go_wp2
    go_ret
    exact ⟨by simp, rfl⟩
set_option maxHeartbeats 400000 in
theorem isLetter_any (n : Int) (w : World) :
    Calls Tryz.prog 162 #[.int .i32 n] w fun e w' => e = .returned (.bool (win 65 90 n)) ∧ w = w' := by
  unfold win
  by_cases h1 : 65 ≤ n
  · have h1' : decide (65 ≤ n) = true := by simpa using h1
    go_enter Tryz.func162, Tryz.ntmps162
    go_wp2
    go_ret
    exact ⟨by simp [h1], rfl⟩
  · have h1' : decide (65 ≤ n) = false := by simpa using h1
    go_enter Tryz.func162, Tryz.ntmps162
    go_wp2
    go_ret
    exact ⟨by simp, rfl⟩

def Reads (w : World) (B size : Nat) (A : Option Addr) (n : Nat) (xs : List Value) : Prop :=
  xs.length = n * size ∧ (0 < n → ∃ ad, A = some ad ∧ ad.block < B ∧ ∀ j u, xs[j]? = some u → w.cell? (ad.add j) = some u)
theorem Reads.at_ {w : World} {B n : Nat} {A : Option Addr} {xs : List Value} {k : Nat} (h : Reads w B 1 A n xs) (hk : k < n) : ∃ ad u, A = some ad ∧ ad.block < B ∧ xs[k]? = some u ∧ w.cell? (ad.add k) = some u := by
  obtain ⟨ad, e, hb, hc⟩ := h.2 (by omega)
  have hl : k < xs.length := by have := h.1; omega
  exact ⟨ad, xs[k], e, hb, List.getElem?_eq_getElem hl, hc k _ (List.getElem?_eq_getElem hl)⟩

def goneOk (lv : Int) : Int → List Int → Bool
  | _, [] => true
  | b, n :: t => decide (b < n) && decide (n ≤ lv) && goneOk lv n t
theorem goneOk_cons {lv b n : Int} {t : List Int} (h1 : b < n) (h2 : n ≤ lv) : goneOk lv b (n :: t) = goneOk lv n t := by simp [goneOk, h1, h2]
theorem goneOk_no {lv b n : Int} {t : List Int} (h : ¬ (b < n ∧ n ≤ lv)) : goneOk lv b (n :: t) = false := by
  simp only [goneOk, Bool.and_eq_false_iff, decide_eq_false_iff_not]; omega

theorem ret_bool {a b : Bool} (h : a = b) : Ending.returned (.bool a) = .returned (.bool b) := by rw [h]

def GoneRel (lv : Int) (gl : List Int) (n : Nat) (b i : Value) : Prop :=
  ∃ (k : Nat) (x : Int), k ≤ n ∧ i = .int .i64 k ∧ b = .int .i64 x ∧ goneOk lv x (gl.drop k) = goneOk lv 0 gl
set_option maxHeartbeats 400000 in
theorem areGone_any (A : Option Addr) (n c : Nat) (gl : List Int) (lv : Int) (w : World) (B : Nat) (hr : Reads w B 1 A n (gl.map (Value.int .i64))) (hn : n ≤ maxLen) :
    Calls Tryz.prog 161 #[.slice A n c, .int .i64 lv] w fun e w' => e = .returned (.bool (goneOk lv 0 gl)) ∧ w = w' := by
  unfold maxLen at hn
  have hlen : gl.length = n := by have := hr.1; simpa using this
  have HL : Hid (gl.length = n) := hlen
  clear hlen
  go_enter Tryz.func161, Tryz.ntmps161
  go_wp2
  go_loop [5, 10] (GoneRel lv gl n) (fun _ i => n - (intOf i).toNat)
  case atStart => exact ⟨0, 0, Nat.zero_le _, rfl, rfl, by simp⟩
  case round =>
    obtain ⟨k, x, hk, rfl, rfl, hg⟩ := hrel
    by_cases hlt : k < n
    · obtain ⟨ad, u, rfl, _, hu, hc⟩ := hr.at_ hlt
      have hkl : k < gl.length := by rw [HL.out]; exact hlt
      obtain ⟨y, hy⟩ : ∃ y, gl[k] = y := ⟨_, rfl⟩
      have hu' : u = .int .i64 y := by
        rw [List.getElem?_map, List.getElem?_eq_getElem hkl, hy] at hu
        simpa using hu.symm
      subst hu'
      have HD : Hid (gl.drop k = y :: gl.drop (k + 1)) := by rw [← hy]; exact List.drop_eq_getElem_cons hkl
      have HG : Hid (goneOk lv x (gl.drop k) = goneOk lv 0 gl) := hg
      clear hg hu hy hkl
      by_cases h1 : x < y
      · have h1' : decide (y ≤ x) = false := by simpa using h1
        by_cases h2 : y ≤ lv
        · have h2' : decide (lv < y) = false := by simpa using h2
          go_wp2
          go_round
          case rel => exact ⟨k + 1, y, by omega, by go_num, rfl, by rw [← HG.out, HD.out, goneOk_cons h1 h2]⟩
          case measure => simp [intOf]; omega
        · have h2' : decide (lv < y) = true := by simpa using h2
          go_wp2
          go_ret
          exact ⟨ret_bool (by rw [← HG.out, HD.out, goneOk_no (by omega)]), rfl⟩
      · have h1' : decide (y ≤ x) = true := by simpa using h1
        go_wp2
        go_ret
        exact ⟨ret_bool (by rw [← HG.out, HD.out, goneOk_no (by omega)]), rfl⟩
    · have HG : Hid (goneOk lv x (gl.drop k) = goneOk lv 0 gl) := hg
      clear hg
      go_wp2
      go_ret
      exact ⟨ret_bool (by rw [← HG.out, List.drop_eq_nil_of_le (by rw [HL.out]; omega), goneOk]), rfl⟩
end Go.Proofs.YtcoplbaopaigcaaGreat
namespace Go.Proofs.YtcoplbaopaigcaaGreat
open Go.RowKit
def letter (c : UInt8) : Bool := decide (65 ≤ c.toNat) && decide (c.toNat ≤ 90)
def sgnOk (s : List UInt8) : Bool := (s.all fun c => letter c && c == s.headD 0) && decide (1 ≤ s.length) && decide (s.length ≤ 3)
def sOk (s : ByteArray) : Bool := sgnOk s.data.toList

theorem getL (s : ByteArray) (j : Nat) (h : j < s.size) : s.data.toList[j]'(by simpa using h) = s[j] := by rfl
theorem headD_get (l : List UInt8) (h : 0 < l.length) : l.headD 0 = l[0] := by
  cases l with
  | nil => simp at h
  | cons a t => rfl
theorem headL (s : ByteArray) (h : 0 < s.size) : s.data.toList.headD 0 = s[0] := by
  rw [← getL s 0 h]
  exact headD_get _ (by simpa using h)
theorem sOk_no {s : ByteArray} {j : Nat} (h : j < s.size) (hb : ¬ (win 65 90 s[j].toNat = true ∧ ((s[j].toNat : Int) = s[0].toNat))) : sOk s = false := by
  unfold sOk sgnOk
  have : (s.data.toList.all fun c => letter c && c == s.data.toList.headD 0) = false := by
    rw [List.all_eq_false]
    refine ⟨s[j], by rw [← getL s j h]; exact List.getElem_mem _, ?_⟩
    intro hc
    apply hb
    rw [headL s (by omega)] at hc
    simp only [letter, Bool.and_eq_true, decide_eq_true_eq, beq_iff_eq] at hc
    unfold win
    simp only [Bool.and_eq_true, decide_eq_true_eq]
    refine ⟨⟨by omega, by omega⟩, ?_⟩
    have h3 := congrArg UInt8.toNat hc.2
    omega
  rw [this]; rfl
theorem sOk_all {s : ByteArray} (hb : ∀ j (h : j < s.size), win 65 90 s[j].toNat = true ∧ ((s[j].toNat : Int) = (s[0]'(by omega)).toNat)) : sOk s = win 1 3 s.size := by
  unfold sOk sgnOk
  have hl : s.data.toList.length = s.size := by simp
  have : (s.data.toList.all fun c => letter c && c == s.data.toList.headD 0) = true := by
    rw [List.all_eq_true]
    intro c hc
    obtain ⟨j, hj, rfl⟩ := List.getElem_of_mem hc
    have hj' : j < s.size := by omega
    rw [getL s j hj', headL s (by omega)]
    obtain ⟨h1, h2⟩ := hb j hj'
    simp only [win, Bool.and_eq_true, decide_eq_true_eq] at h1
    simp only [letter, Bool.and_eq_true, decide_eq_true_eq, beq_iff_eq]
    refine ⟨⟨by omega, by omega⟩, UInt8.toNat_inj.1 (by omega)⟩
  rw [this, hl]
  simp only [win, Bool.true_and]
  congr 1 <;> rw [decide_eq_decide] <;> omega

def SignRel (s : ByteArray) (w w' : World) : Prop :=
  ∃ pos, pos ≤ s.size ∧ w' = w.iter s pos ∧ ∀ j (h : j < s.size), j < pos → win 65 90 s[j].toNat = true ∧ ((s[j].toNat : Int) = (s[0]'(by omega)).toNat)
set_option maxHeartbeats 400000 in
set_option maxRecDepth 100000 in
theorem isSign_any (s : ByteArray) (w : World) (hs : s.size ≤ maxLen) :
    Calls Tryz.prog 160 #[.string s] w fun e w' => e = .returned (.bool (sOk s)) ∧ Below w.heap.size w w' := by
  unfold maxLen at hs
  go_enter Tryz.func160, Tryz.ntmps160
  go_wp2
  go_loopw [2] (fun _ w' => SignRel s w w') (fun _ w' => s.size - w'.iterPos w.heap.size)
  case atStart => exact ⟨0, Nat.zero_le _, rfl, by intros; omega⟩
  case round =>
    obtain ⟨pos, hpos, rfl, hall⟩ := hrel
    by_cases hp : pos < s.size
    · have hnx : ∀ ty, (Instr.next (.pointer (some ⟨w.heap.size, 0, none⟩)) true ty).run Tryz.prog (w.iter s pos) = _ := fun ty => run_next_any w s pos ty hp
      by_cases ha : s[pos].toNat < 128
      · rw [decode_ascii s pos hp ha] at hnx
        have h0 : 0 < s.size := by omega
        have hb0 : s[0].toNat < 256 := UInt8.toNat_lt _
        have HA : Hid (∀ j (h : j < s.size), j < pos → win 65 90 s[j].toNat = true ∧ ((s[j].toNat : Int) = (s[0]'(by omega)).toNat)) := hall
        clear hall
        by_cases h1 : win 65 90 s[pos].toNat = true
        · by_cases h2 : (s[pos].toNat : Int) = s[0].toNat
          · have h10 : win 65 90 s[0].toNat = true := by rw [← h2]; exact h1
            go_wp2_with (go_at_call 162; refine (isLetter_any _ _).mono ?_; rintro e w' ⟨rfl, rfl⟩)
            go_roundw
            case rel =>
              refine ⟨pos + 1, by omega, rfl, fun j h hj => ?_⟩
              by_cases hjp : j = pos
              · subst hjp; exact ⟨h1, h2⟩
              · exact HA.out j h (by omega)
            case measure => simp; omega
          · have h2' : ((s[pos].toNat : Int) == s[0].toNat) = false := by simpa using h2
            have h2'' : ((s[pos].toNat : Int) != s[0].toNat) = true := by simpa using h2
            go_wp2_with (go_at_call 162; refine (isLetter_any _ _).mono ?_; rintro e w' ⟨rfl, rfl⟩)
            go_ret
            refine ⟨ret_bool (sOk_no hp (by rintro ⟨_, h⟩; exact h2 h)).symm, ?_⟩
            exact (Below.refl _ _).alloc (Nat.le_refl _) _
        · have h1' : win 65 90 s[pos].toNat = false := by simpa using h1
          go_wp2_with (go_at_call 162; refine (isLetter_any _ _).mono ?_; rintro e w' ⟨rfl, rfl⟩)
          go_ret
          refine ⟨ret_bool (sOk_no hp (by rintro ⟨h, _⟩; exact h1 h)).symm, ?_⟩
          exact (Below.refl _ _).alloc (Nat.le_refl _) _
      · obtain ⟨hd, hw⟩ := decode_high s pos hp (by omega)
        obtain ⟨cv, hcv⟩ : ∃ cv, (Utf8.decode s pos).1 = cv := ⟨_, rfl⟩
        obtain ⟨cw, hcw⟩ : ∃ cw, (Utf8.decode s pos).2 = cw := ⟨_, rfl⟩
        rw [hcv, hcw] at hnx
        rw [hcv] at hd
        clear hcv hcw hw hall
        have h1' : win 65 90 cv = false := by unfold win; simp; omega
        go_wp2_with (go_at_call 162; refine (isLetter_any _ _).mono ?_; rintro e w' ⟨rfl, rfl⟩)
        go_ret
        refine ⟨ret_bool (sOk_no hp (by unfold win; rintro ⟨h, _⟩; simp at h; omega)).symm, ?_⟩
        exact (Below.refl _ _).alloc (Nat.le_refl _) _
    · have hnx : ∀ ty, (Instr.next (.pointer (some ⟨w.heap.size, 0, none⟩)) true ty).run Tryz.prog (w.iter s pos) = _ := fun ty => run_next_end w s pos ty hp
      have HE : Hid (sOk s = win 1 3 s.size) := sOk_all fun j h => hall j h (by omega)
      clear hall
      go_wp2_with (go_at_call 118; refine (within_any _ _ _ _).mono ?_; rintro e w' ⟨rfl, rfl⟩)
      go_ret
      exact ⟨ret_bool HE.out.symm, (Below.refl _ _).alloc (Nat.le_refl _) _⟩
end Go.Proofs.YtcoplbaopaigcaaGreat
namespace Go.Proofs.YtcoplbaopaigcaaGreat
open Go.RowKit
theorem block_of_add (a : Addr) (n : Nat) : (a.add n).block = a.block := by unfold Addr.add; split <;> rfl
theorem add_of_add (a : Addr) (i j : Nat) : (a.add i).add j = a.add (i + j) := by
  unfold Addr.add
  by_cases hi : i = 0 <;> by_cases hj : j = 0 <;> simp [hi, hj, Nat.add_assoc]
section
variable {w w' : World} {B B' size n : Nat} {A : Option Addr} {xs : List Value}
theorem Reads.none_ : Reads w B size A 0 [] := ⟨by simp, fun h => absurd h (by omega)⟩
theorem Reads.keep (h : Reads w B size A n xs) (hk : ∀ p : Addr, p.block < B → w'.cell? p = w.cell? p) : Reads w' B size A n xs :=
  ⟨h.1, fun hn => by
    obtain ⟨ad, e, hb, hc⟩ := h.2 hn
    exact ⟨ad, e, hb, fun j u hu => (hk _ (by rw [block_of_add]; exact hb)).trans (hc j u hu)⟩⟩
theorem Reads.more (h : Reads w B size A n xs) (hB : B ≤ B') : Reads w B' size A n xs :=
  ⟨h.1, fun hn => by
    obtain ⟨ad, e, hb, hc⟩ := h.2 hn
    exact ⟨ad, e, by omega, hc⟩⟩
theorem Reads.below (h : Reads w B size A n xs) (hb : Below B w w') : Reads w' B size A n xs := h.keep fun _ hp => hb.cell hp
theorem Reads.alloc (h : Reads w B size A n xs) (hB : B ≤ w.heap.size) (o : Obj) : Reads (w.alloc o) B size A n xs := h.keep fun p hp => World.cell?_alloc_lt w o p (by omega)
end
theorem bcell {W w1 : World} (hb : Below W.heap.size W w1) : (∀ b o, b < W.heap.size → w1.cell? ⟨b, o, none⟩ = W.cell? ⟨b, o, none⟩) ∧ (∀ b o, b < W.heap.size → w1.frozen? ⟨b, o, none⟩ = W.frozen? ⟨b, o, none⟩) :=
  ⟨fun b o h => hb.cell (p := ⟨b, o, none⟩) h, fun b o h => hb.frozen (p := ⟨b, o, none⟩) h⟩

theorem hid {p : Prop} (h : p) : Hid p := h
def qOkB (s : ByteArray) (lv : Int) (gl : List Int) : Bool := sOk s && (lv.tmod 2 == 0) && win 2 24 lv && goneOk lv 0 gl

set_option maxHeartbeats 1000000 in
set_option maxRecDepth 100000 in
theorem isQuire_any (s : ByteArray) (lv : Int) (A : Option Addr) (n c : Nat) (gl : List Int) (w : World) (B : Nat) (hB : B ≤ w.heap.size) (hs : s.size ≤ maxLen) (hr : Reads w B 1 A n (gl.map (Value.int .i64))) (hn : n ≤ maxLen) :
    Calls Tryz.prog 146 #[.agg #[.string s, .int .i64 lv, .slice A n c]] w fun e w' => e = .returned (.bool (qOkB s lv gl)) ∧ Below w.heap.size w w' := by
  obtain ⟨q, hq⟩ : ∃ q, qOkB s lv gl = q := ⟨_, rfl⟩
  rw [hq]
  have HQ : Hid (qOkB s lv gl = q) := hq
  clear hq
  by_cases h1 : sOk s = true
  · by_cases h2 : (lv.tmod 2 == 0) = true
    · by_cases h3 : win 2 24 lv = true
      · have HG := hid (show goneOk lv 0 gl = q by have := HQ.out; simpa [qOkB, h1, h2, h3] using this)
        clear HQ
        go_enter Tryz.func146, Tryz.ntmps146
        go_wp2_with (first
          | (go_at_call 160; refine (isSign_any _ _ hs).mono ?_; rintro e w1 ⟨rfl, hb⟩; obtain ⟨hc, hf⟩ := bcell hb)
          | (go_at_call 118; refine (within_any _ _ _ _).mono ?_; rintro e w' ⟨rfl, rfl⟩)
          | (go_at_call 161; refine (areGone_any A n c gl _ _ B ((hr.alloc hB _).below (hb.mono (by simp; omega))) hn).mono ?_; rintro e w' ⟨rfl, rfl⟩))
        go_ret
        exact ⟨ret_bool HG.out, ((Below.refl _ _).alloc (Nat.le_refl _) _).trans (hb.mono (by simp))⟩
      · have h3' : win 2 24 lv = false := by simpa using h3
        have HG := hid (show q = false by have := HQ.out; rw [← this]; simp [qOkB, h3'])
        clear HQ
        go_enter Tryz.func146, Tryz.ntmps146
        go_wp2_with (first
          | (go_at_call 160; refine (isSign_any _ _ hs).mono ?_; rintro e w1 ⟨rfl, hb⟩; obtain ⟨hc, hf⟩ := bcell hb)
          | (go_at_call 118; refine (within_any _ _ _ _).mono ?_; rintro e w' ⟨rfl, rfl⟩))
        go_ret
        exact ⟨ret_bool HG.out.symm, ((Below.refl _ _).alloc (Nat.le_refl _) _).trans (hb.mono (by simp))⟩
    · have h2' : (lv.tmod 2 == 0) = false := by simpa using h2
      have HG := hid (show q = false by have := HQ.out; rw [← this]; simp [qOkB, h2'])
      clear HQ
      go_enter Tryz.func146, Tryz.ntmps146
      go_wp2_with (first
          | (go_at_call 160; refine (isSign_any _ _ hs).mono ?_; rintro e w1 ⟨rfl, hb⟩; obtain ⟨hc, hf⟩ := bcell hb))
      go_ret
      exact ⟨ret_bool HG.out.symm, ((Below.refl _ _).alloc (Nat.le_refl _) _).trans (hb.mono (by simp))⟩
  · have h1' : sOk s = false := by simpa using h1
    have HG := hid (show q = false by have := HQ.out; rw [← this]; simp [qOkB, h1'])
    clear HQ
    go_enter Tryz.func146, Tryz.ntmps146
    go_wp2_with (first
          | (go_at_call 160; refine (isSign_any _ _ hs).mono ?_; rintro e w1 ⟨rfl, hb⟩; obtain ⟨hc, hf⟩ := bcell hb))
    go_ret
    exact ⟨ret_bool HG.out.symm, ((Below.refl _ _).alloc (Nat.le_refl _) _).trans (hb.mono (by simp))⟩
end Go.Proofs.YtcoplbaopaigcaaGreat
namespace Go.Proofs.YtcoplbaopaigcaaGreat
open Go.RowKit
set_option maxHeartbeats 400000 in
theorem in_any (n lo hi : Int) (w : World) :
    Calls Tryz.prog 115 #[.int .i64 n, .int .i64 lo, .int .i64 hi] w fun e w' => e = .returned (.bool (win lo hi n)) ∧ w = w' := by
  unfold win
  by_cases h1 : lo ≤ n
  · have h1' : decide (lo ≤ n) = true := by simpa using h1
    go_enter Tryz.func115, Tryz.ntmps115
    go_wp2
    go_ret
    exact ⟨by simp [h1], rfl⟩
  · have h1' : decide (lo ≤ n) = false := by simpa using h1
    go_enter Tryz.func115, Tryz.ntmps115
    go_wp2
    go_ret
    exact ⟨by simp, rfl⟩

theorem ret_int {k : IntKind} {a b : Int} (h : a = b) : Ending.returned (.int k a) = .returned (.int k b) := by rw [h]
/-- The index of a number, or -1. -/
def ixI (m : Int) (gl : List Int) : Int := if m ∈ gl then (gl.idxOf m : Int) else -1
theorem ixI_at {m : Int} {gl : List Int} {k : Nat} (hk : k < gl.length) (he : gl[k] = m) (hb : ∀ j (h : j < gl.length), j < k → gl[j] ≠ m) : ixI m gl = k := by
  unfold ixI
  rw [if_pos (by rw [← he]; exact List.getElem_mem _)]
  congr 1
  have h1 : gl.idxOf m < gl.length := List.idxOf_lt_length_iff.2 (by rw [← he]; exact List.getElem_mem _)
  have h2 : gl[gl.idxOf m] = m := List.getElem_idxOf h1
  rcases Nat.lt_trichotomy (gl.idxOf m) k with h | h | h
  · exact absurd h2 (hb _ h1 h)
  · exact h
  · have := List.not_of_lt_findIdx (p := (· == m)) (xs := gl) (i := k) h
    simp [he] at this
theorem ixI_no {m : Int} {gl : List Int} (hb : ∀ j (h : j < gl.length), gl[j] ≠ m) : ixI m gl = -1 := by
  unfold ixI
  rw [if_neg]
  intro hm
  obtain ⟨j, hj, he⟩ := List.getElem_of_mem hm
  exact hb j hj he
def hasI (m : Int) (gl : List Int) : Bool := gl.contains m
theorem ixI_geq (m : Int) (gl : List Int) : decide (ixI m gl ≥ 0) = hasI m gl := by
  unfold hasI
  unfold ixI
  by_cases h : m ∈ gl <;> simp [h]

def IxRel (m : Int) (gl : List Int) (n : Nat) (i : Value) : Prop :=
  ∃ k : Nat, k ≤ n ∧ i = .int .i64 k ∧ ∀ j (h : j < gl.length), j < k → gl[j] ≠ m
theorem reads_int {w : World} {B n : Nat} {A : Option Addr} {gl : List Int} (hr : Reads w B 1 A n (gl.map (Value.int .i64))) {k : Nat} (hk : k < n) (hkl : k < gl.length) :
    ∃ ad, A = some ad ∧ w.cell? (ad.add k) = some (.int .i64 gl[k]) := by
  obtain ⟨ad, u, rfl, _, hu, hc⟩ := hr.at_ hk
  rw [List.getElem?_map, List.getElem?_eq_getElem hkl] at hu
  simp only [Option.map_some, Option.some.injEq] at hu
  subst hu
  exact ⟨ad, rfl, hc⟩
set_option maxHeartbeats 400000 in
theorem indexI_any (A : Option Addr) (n c : Nat) (gl : List Int) (m : Int) (w : World) (B : Nat) (hr : Reads w B 1 A n (gl.map (Value.int .i64))) (hn : n ≤ maxLen) :
    Calls Tryz.prog 137 #[.slice A n c, .int .i64 m] w fun e w' => e = .returned (.int .i64 (ixI m gl)) ∧ w = w' := by
  unfold maxLen at hn
  have HL := hid (show gl.length = n by have := hr.1; simpa using this)
  go_enter Tryz.func137, Tryz.ntmps137
  go_wp2
  go_loop [8] (IxRel m gl n) (fun i => n - (intOf i).toNat)
  case atStart => exact ⟨0, Nat.zero_le _, rfl, by intros; omega⟩
  case round =>
    obtain ⟨k, hk, rfl, hall⟩ := hrel
    have HA := hid hall
    clear hall
    by_cases hlt : k < n
    · have hkl : k < gl.length := by rw [HL.out]; exact hlt
      obtain ⟨ad, rfl, hc⟩ := reads_int hr hlt hkl
      obtain ⟨y, hy⟩ : ∃ y, gl[k] = y := ⟨_, rfl⟩
      rw [hy] at hc
      have HY := hid hy
      clear hy
      by_cases h1 : m = y
      · have h1' : (m == y) = true := by simpa using h1
        have HM := hid h1
        clear h1
        go_wp2
        go_ret
        exact ⟨ret_int (ixI_at hkl (HY.out.trans HM.out.symm) HA.out).symm, rfl⟩
      · have h1' : (m == y) = false := by simpa using h1
        go_wp2
        go_round
        case rel =>
          refine ⟨k + 1, by omega, by go_num, fun j h hj => ?_⟩
          by_cases hjk : j = k
          · subst hjk; rw [HY.out]; exact fun e => h1 e.symm
          · exact HA.out j h (by omega)
        case measure => simp [intOf]; omega
    · go_wp2
      go_ret
      exact ⟨ret_int (ixI_no fun j h => HA.out j h (by rw [HL.out] at h; omega)).symm, rfl⟩
set_option maxHeartbeats 400000 in
theorem containsI_any (A : Option Addr) (n c : Nat) (gl : List Int) (m : Int) (w : World) (B : Nat) (hr : Reads w B 1 A n (gl.map (Value.int .i64))) (hn : n ≤ maxLen) :
    Calls Tryz.prog 98 #[.slice A n c, .int .i64 m] w fun e w' => e = .returned (.bool (hasI m gl)) ∧ w = w' := by
  have HG := hid (ixI_geq m gl)
  go_enter Tryz.func98, Tryz.ntmps98
  go_wp2_with (go_at_call 137; refine (indexI_any A n c gl m _ B hr hn).mono ?_; rintro e w' ⟨rfl, rfl⟩)
  go_ret
  exact ⟨ret_bool (by rw [← HG.out]), rfl⟩
set_option maxHeartbeats 400000 in
theorem has_any (A : Option Addr) (n c : Nat) (gl : List Int) (m : Int) (w : World) (B : Nat) (hr : Reads w B 1 A n (gl.map (Value.int .i64))) (hn : n ≤ maxLen) :
    Calls Tryz.prog 107 #[.slice A n c, .int .i64 m] w fun e w' => e = .returned (.bool (hasI m gl)) ∧ w = w' := by
  unfold maxLen at hn
  have HL := hid (show gl.length = n by have := hr.1; simpa using this)
  have HG := hid (ixI_geq m gl)
  go_enter Tryz.func107, Tryz.ntmps107
  go_wp2
  go_loop [5] (IxRel m gl n) (fun i => n - (intOf i).toNat)
  case atStart => exact ⟨0, Nat.zero_le _, rfl, by intros; omega⟩
  case round =>
    obtain ⟨k, hk, rfl, hall⟩ := hrel
    have HA := hid hall
    clear hall
    by_cases hlt : k < n
    · have hkl : k < gl.length := by rw [HL.out]; exact hlt
      obtain ⟨ad, rfl, hc⟩ := reads_int hr hlt hkl
      obtain ⟨y, hy⟩ : ∃ y, gl[k] = y := ⟨_, rfl⟩
      rw [hy] at hc
      have HY := hid hy
      clear hy
      by_cases h1 : y = m
      · have h1' : (y == m) = true := by simpa using h1
        have HM := hid h1
        clear h1
        go_wp2
        go_ret
        exact ⟨ret_bool (by rw [← HG.out, ixI_at hkl (HY.out.trans HM.out) HA.out]; simp), rfl⟩
      · have h1' : (y == m) = false := by simpa using h1
        go_wp2
        go_round
        case rel =>
          refine ⟨k + 1, by omega, by go_num, fun j h hj => ?_⟩
          by_cases hjk : j = k
          · subst hjk; rw [HY.out]; exact h1
          · exact HA.out j h (by omega)
        case measure => simp [intOf]; omega
    · go_wp2
      go_ret
      exact ⟨ret_bool (by rw [← HG.out, ixI_no fun j h => HA.out j h (by rw [HL.out] at h; omega)]; simp), rfl⟩
end Go.Proofs.YtcoplbaopaigcaaGreat
