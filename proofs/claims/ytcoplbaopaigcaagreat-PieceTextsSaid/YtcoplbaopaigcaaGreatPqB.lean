/- Whether a quire is right, by the specification; a slice of quires as it reads; whether a leaf is one. -/
import Derived.Deep.QuietTactic
import Derived.BigQuiet
import Derived.WalkSmall
import Derived.IntWalk
import Derived.Test.YtcoplbaopaigcaaGreatPqA
set_option linter.all false
namespace Go.Proofs.YtcoplbaopaigcaaGreat
open Go.RowKit
def SRel (s : ByteArray) (W wr : World) (i : Value) : Prop :=
  ∃ (k d : Nat), k ≤ s.size ∧ i = .int .i64 k ∧ wr = W.drewN d ∧ ∀ j (h : j < s.size), j < k → win 65 90 s[j].toNat = true ∧ ((s[j].toNat : Int) = (s[0]'(by omega)).toNat)
def GRel (lv : Int) (gl : List Int) (n : Nat) (W wr : World) (i : Value) : Prop :=
  ∃ (k d : Nat) (x : Int), k ≤ n ∧ i = .int .i64 k ∧ wr = W.drewN d ∧ 0 ≤ x ∧ (k = 0 → x = 0) ∧ (∀ h : k - 1 < gl.length, 0 < k → gl[k - 1] = x) ∧ goneOk lv x (gl.drop k) = goneOk lv 0 gl
theorem win_iff {lo hi n : Int} : win lo hi n = true ↔ lo ≤ n ∧ n ≤ hi := by simp [win]
theorem g_next {lv x y : Int} {gl : List Int} {n m d nq : Nat} {W wo : World} (HO : Hid (W.drewN d = wo)) {hml : m < gl.length} (HY : Hid (gl[m] = y)) (HH : Hid (goneOk lv x (gl.drop m) = goneOk lv 0 gl))
    (HD : Hid (gl.drop m = y :: gl.drop (m + 1))) (hmn : m < n) (g1 : win 1 lv y = true) (hxy : x < y) : GRel lv gl n W (wo.drewN nq) (.int .i64 ((m : Int) + 1)) := by
  obtain ⟨ha, hb⟩ := win_iff.1 g1
  refine ⟨m + 1, d + nq, y, by omega, by go_num, by rw [← HO.out, World.drewN_drewN], by omega, by omega, fun _ _ => HY.out, ?_⟩
  rw [← HH.out, HD.out, goneOk_cons hxy hb]
theorem below_box {w W : World} {o : Obj} (h : Hid (w.alloc o = W)) (d : Nat) : Below w.heap.size w (W.drewN d) := by
  rw [← h.out]
  exact below_drewN ((Below.refl _ _).alloc (Nat.le_refl _) _) d
theorem q_no1 {s : ByteArray} {lv : Int} {gl : List Int} {q : Bool} (HQ : Hid (qOkB s lv gl = q)) (h : sOk s = false) : q = false := by rw [← HQ.out]; simp [qOkB, h]
theorem q_no4 {s : ByteArray} {lv : Int} {gl : List Int} {q : Bool} (HQ : Hid (qOkB s lv gl = q)) (h : goneOk lv 0 gl = false) : q = false := by rw [← HQ.out]; simp [qOkB, h]
set_option maxHeartbeats 4000000 in
set_option maxRecDepth 100000 in
theorem quire_yes (s : ByteArray) (lv : Int) (A : Option Addr) (n c : Nat) (gl : List Int) (w : World) (B : Nat) (hB : B ≤ w.heap.size) (hs : s.size ≤ maxLen) (hr : Reads w B 1 A n (gl.map (Value.int .i64))) (hn : n ≤ maxLen)
    (h1 : win 1 3 s.size = true) (h2 : (lv.tmod 2 != 0) = false) (h3 : win 2 24 lv = true) (q : Bool) (HQ : Hid (qOkB s lv gl = q)) :
    Calls Tryz.prog 147 #[.agg #[.string s, .int .i64 lv, .slice A n c]] w fun e w' => e = .returned (.bool q) ∧ Below w.heap.size w w' := by
  unfold maxLen at hs hn
  have HL := hid (show gl.length = n by have := hr.1; simpa using this)
  obtain ⟨W, hW⟩ : ∃ W, w.alloc (Obj.cells #[Value.string s, Value.int IntKind.i64 lv, Value.slice A n c] 168) = W := ⟨_, rfl⟩
  have c0 : W.cell? ⟨w.heap.size, 0, none⟩ = some (.string s) := by subst hW; simp [go_sem]
  have c1 : W.cell? ⟨w.heap.size, 1, none⟩ = some (.int .i64 lv) := by subst hW; simp [go_sem]
  have c2 : W.cell? ⟨w.heap.size, 2, none⟩ = some (.slice A n c) := by subst hW; simp [go_sem]
  have hrW : Reads W B 1 A n (gl.map (Value.int .i64)) := by subst hW; exact hr.alloc hB _
  have HW := hid hW
  go_enter Tryz.func147, Tryz.ntmps147
  go_wp2_with (first
    | (go_at_call 115; refine (in_any _ _ _ _).mono ?_; rintro e w' ⟨rfl, rfl⟩))
  clear hW
  go_loopw [3] (fun i wr => SRel s W wr i) (fun i _ => s.size - (intOf i).toNat)
  case atStart => exact ⟨0, 0, Nat.zero_le _, rfl, rfl, by intros; omega⟩
  case round =>
    obtain ⟨k, d, hk, rfl, rfl, hall⟩ := hrel
    by_cases hlt : k < s.size
    · have HA : Hid (∀ j (h : j < s.size), j < k → win 65 90 s[j].toNat = true ∧ ((s[j].toNat : Int) = (s[0]'(by omega)).toNat)) := hall
      clear hall
      have h0 : 0 < s.size := by omega
      have hb0 : s[0].toNat < 256 := UInt8.toNat_lt _
      have hbk : s[k].toNat < 256 := UInt8.toNat_lt _
      by_cases g1 : (s[k].toNat : Int) < 65
      · have g1' : decide ((s[k].toNat : Int) < 65) = true := by simpa using g1
        go_wp2
        go_quiet (fail)
        go_wp2
        go_ret
        exact ⟨ret_bool (q_no1 HQ (sOk_no hlt (by unfold win; simp; omega))).symm, by simpa using below_box HW _⟩
      · have g1' : decide ((s[k].toNat : Int) < 65) = false := by simpa using g1
        by_cases g2 : (s[k].toNat : Int) > 90
        · have g2' : decide ((s[k].toNat : Int) > 90) = true := by simpa using g2
          go_wp2
          go_quiet (fail)
          go_wp2
          go_ret
          exact ⟨ret_bool (q_no1 HQ (sOk_no hlt (by unfold win; simp; omega))).symm, by simpa using below_box HW _⟩
        · have g2' : decide ((s[k].toNat : Int) > 90) = false := by simpa using g2
          by_cases g3 : (s[k].toNat : Int) = s[0].toNat
          · have g3' : ((s[k].toNat : Int) != s[0].toNat) = false := by simpa using g3
            have G3 := hid g3
            clear g3
            go_wp2
            go_quiet (fail)
            go_wp2
            go_roundw
            case rel =>
              refine ⟨k + 1, _, by omega, by go_num, rfl, fun j h hj => ?_⟩
              by_cases hjk : j = k
              · subst hjk; exact ⟨by unfold win; simp; omega, G3.out⟩
              · exact HA.out j h (by omega)
            case measure => simp [intOf]; omega
          · have g3' : ((s[k].toNat : Int) != s[0].toNat) = true := by simpa using g3
            go_wp2
            go_quiet (fail)
            go_wp2
            go_ret
            exact ⟨ret_bool (q_no1 HQ (sOk_no hlt (by rintro ⟨_, h⟩; exact g3 h))).symm, by simpa using below_box HW _⟩
    · have HG := hid (show goneOk lv 0 gl = q by
        have e := sOk_all fun j h => hall j h (by omega)
        rw [h1] at e
        have h2' : (lv.tmod 2 == 0) = true := by simpa [bne] using h2
        have := HQ.out
        simpa [qOkB, e, h2', h3] using this)
      clear hall HQ
      go_wp2
      go_loopw [4] (fun i wr => GRel lv gl n W wr i) (fun i _ => n - (intOf i).toNat)
      case atStart => exact ⟨0, d, 0, Nat.zero_le _, rfl, rfl, by omega, fun _ => rfl, by intros; omega, by simp⟩
      case round =>
        obtain ⟨m, d', x, hm, rfl, rfl, hx, hx0, hxk, hg⟩ := hrel
        by_cases hlt : m < n
        · have hml : m < gl.length := by rw [HL.out]; exact hlt
          obtain ⟨ad, rfl, hc⟩ := reads_int hrW hlt hml
          obtain ⟨y, hy⟩ : ∃ y, gl[m] = y := ⟨_, rfl⟩
          rw [hy] at hc
          have HY := hid hy
          have HD : Hid (gl.drop m = y :: gl.drop (m + 1)) := by rw [← hy]; exact List.drop_eq_getElem_cons hml
          have HH := hid hg
          have HX := hid hx0
          have HB := below_box HW d'
          obtain ⟨wo, hwo⟩ : ∃ wo, W.drewN d' = wo := ⟨_, rfl⟩
          have e1 : wo.cell? ⟨w.heap.size, 1, none⟩ = some (.int .i64 lv) := by rw [← hwo]; exact c1
          have e2 : wo.cell? ⟨w.heap.size, 2, none⟩ = some (.slice (some ad) n c) := by rw [← hwo]; exact c2
          have e3 : wo.cell? (ad.add m) = some (.int .i64 y) := by rw [← hwo]; exact hc
          have hxc : 0 < m → wo.cell? (ad.add (m - 1)) = some (.int .i64 x) := by
            intro h
            have hl1 : m - 1 < gl.length := by omega
            obtain ⟨ad', ha, h'⟩ := reads_int hrW (show m - 1 < n by omega) hl1
            rw [hxk hl1 h] at h'
            rw [← hwo]
            cases ha
            exact h'
          rw [hwo]
          have HO := hid hwo
          rw [hwo] at HB
          clear hy hg hx0 hxk hwo hc hrW c0 c1 c2 hr
          by_cases g1 : win 1 lv y = true
          · by_cases hm0 : m = 0
            · have h00 : decide (0 < m) = false := by simp; omega
              have HM := hid hm0
              clear hm0 hxc
              go_wp2
              go_quiet ((go_at_call 115; exact Calls.quiet_of_same ((in_any _ _ _ _).mono fun _ _ h => ⟨h.1, h.2.symm⟩)))
              go_wp2
              go_roundw
              case rel => exact g_next HO HY HH HD hlt g1 (by have := HX.out HM.out; have := (win_iff.1 g1).1; omega)
              case measure => simp [intOf]; omega
            · have h00 : decide (0 < m) = true := by simp; omega
              obtain ⟨p, hp⟩ : ∃ p, m - 1 = p := ⟨_, rfl⟩
              have e4 := hxc (by omega)
              rw [hp] at e4
              have hpn : p < n := by omega
              have hwp : IntKind.i64.wrap ((m : Int) - 1) = (p : Int) := by rw [IntWalk.i64_in _ (by omega)]; omega
              have hif : (if 0 < p then (p : Int) else 0) = (p : Int) := by split <;> omega
              have HP := hid hp
              clear hxc hp
              by_cases g2 : y ≤ x
              · have g2' : decide (y ≤ x) = true := by simpa using g2
                go_wp2
                go_quiet ((go_at_call 115; exact Calls.quiet_of_same ((in_any _ _ _ _).mono fun _ _ h => ⟨h.1, h.2.symm⟩)))
                clear hwp hif
                go_wp2
                go_ret
                exact ⟨ret_bool (by rw [← HG.out, ← HH.out, HD.out, goneOk_no (by omega)]), below_drewN HB _⟩
              · have g2' : decide (y ≤ x) = false := by simpa using g2
                go_wp2
                go_quiet ((go_at_call 115; exact Calls.quiet_of_same ((in_any _ _ _ _).mono fun _ _ h => ⟨h.1, h.2.symm⟩)))
                clear hwp hif
                go_wp2
                go_roundw
                case rel => exact g_next HO HY HH HD hlt g1 (by omega)
                case measure => simp [intOf]; omega
          · have g1' : win 1 lv y = false := by simpa using g1
            clear hxc
            go_wp2
            go_quiet ((go_at_call 115; exact Calls.quiet_of_same ((in_any _ _ _ _).mono fun _ _ h => ⟨h.1, h.2.symm⟩)))
            go_wp2
            go_ret
            exact ⟨ret_bool (by rw [← HG.out, ← HH.out, HD.out, goneOk_no (by intro ⟨h, h'⟩; have : win 1 lv y = true := win_iff.2 ⟨by omega, h'⟩; rw [this] at g1'; cases g1')]), below_drewN HB _⟩
        · go_wp2
          go_ret
          exact ⟨ret_bool (by rw [← HG.out, ← hg, List.drop_eq_nil_of_le (by rw [HL.out]; omega), goneOk]), below_box HW _⟩
end Go.Proofs.YtcoplbaopaigcaaGreat
namespace Go.Proofs.YtcoplbaopaigcaaGreat
open Go.RowKit
set_option maxHeartbeats 1000000 in
set_option maxRecDepth 100000 in
theorem quire_any (s : ByteArray) (lv : Int) (A : Option Addr) (n c : Nat) (gl : List Int) (w : World) (B : Nat) (hB : B ≤ w.heap.size) (hs : s.size ≤ maxLen) (hr : Reads w B 1 A n (gl.map (Value.int .i64))) (hn : n ≤ maxLen) :
    Calls Tryz.prog 147 #[.agg #[.string s, .int .i64 lv, .slice A n c]] w fun e w' => e = .returned (.bool (qOkB s lv gl)) ∧ Below w.heap.size w w' := by
  by_cases h1 : win 1 3 s.size = true
  · by_cases h2 : (lv.tmod 2 == 0) = true
    · by_cases h3 : win 2 24 lv = true
      · exact quire_yes s lv A n c gl w B hB hs hr hn h1 (by rw [bne, h2]; rfl) h3 _ rfl
      · have h3' : win 2 24 lv = false := by simpa using h3
        have HQ : qOkB s lv gl = false := by simp [qOkB, h3']
        have h2' : (lv.tmod 2 != 0) = false := by rw [bne, h2]; rfl
        rw [HQ]
        clear HQ h2
        go_enter Tryz.func147, Tryz.ntmps147
        go_wp2_with (go_at_call 115; refine (in_any _ _ _ _).mono ?_; rintro e w' ⟨rfl, rfl⟩)
        go_ret
        exact ⟨rfl, (Below.refl _ _).alloc (Nat.le_refl _) _⟩
    · have h2' : (lv.tmod 2 != 0) = true := by rw [bne]; simpa using h2
      have HQ : qOkB s lv gl = false := by have : (lv.tmod 2 == 0) = false := by simpa using h2
                                           simp [qOkB, this]
      rw [HQ]
      clear HQ h2
      go_enter Tryz.func147, Tryz.ntmps147
      go_wp2_with (go_at_call 115; refine (in_any _ _ _ _).mono ?_; rintro e w' ⟨rfl, rfl⟩)
      go_ret
      exact ⟨rfl, (Below.refl _ _).alloc (Nat.le_refl _) _⟩
  · have h1' : win 1 3 s.size = false := by simpa using h1
    have HQ : qOkB s lv gl = false := by
      have : sOk s = false := by
        unfold sOk sgnOk
        have hl : s.data.toList.length = s.size := by simp
        simp only [Bool.and_eq_false_iff, decide_eq_false_iff_not]
        rw [hl]
        simp only [win, Bool.and_eq_false_iff, decide_eq_false_iff_not] at h1'
        omega
      simp [qOkB, this]
    rw [HQ]
    clear HQ h1
    go_enter Tryz.func147, Tryz.ntmps147
    go_wp2_with (go_at_call 115; refine (in_any _ _ _ _).mono ?_; rintro e w' ⟨rfl, rfl⟩)
    go_ret
    exact ⟨rfl, (Below.refl _ _).alloc (Nat.le_refl _) _⟩

structure Q where
  s : ByteArray
  lv : Int
  A : Option Addr
  n : Nat
  c : Nat
  gl : List Int
def Q.fit (w : World) (B : Nat) (q : Q) : Prop := q.s.size ≤ maxLen ∧ q.n ≤ maxLen ∧ -9223372036854775808 ≤ q.lv ∧ q.lv ≤ 9223372036854775807 ∧ Reads w B 1 q.A q.n (q.gl.map (Value.int .i64))
def Q.ok (q : Q) : Bool := qOkB q.s q.lv q.gl
/-- A slice of quires as it reads in a world, all of it below block B. -/
def Qs (w : World) (B : Nat) (A : Option Addr) (n : Nat) (qs : List Q) : Prop :=
  qs.length = n ∧ n ≤ maxLen ∧ (∀ q ∈ qs, q.fit w B) ∧ (0 < n → ∃ ad, A = some ad ∧ ad.block < B ∧ ∀ k (h : k < qs.length),
    w.cell? (ad.add (k * 3)) = some (.string qs[k].s) ∧ w.cell? ⟨(ad.add (k * 3)).block, (ad.add (k * 3)).off + 1, none⟩ = some (.int .i64 qs[k].lv) ∧ w.cell? ⟨(ad.add (k * 3)).block, (ad.add (k * 3)).off + 2, none⟩ = some (.slice qs[k].A qs[k].n qs[k].c))
theorem Qs.keep {w w' : World} {B : Nat} {A : Option Addr} {n : Nat} {qs : List Q} (h : Qs w B A n qs) (hk : ∀ p : Addr, p.block < B → w'.cell? p = w.cell? p) : Qs w' B A n qs := by
  obtain ⟨h1, h2, h3, h4⟩ := h
  refine ⟨h1, h2, fun q hq => ?_, fun hn => ?_⟩
  · obtain ⟨a, b, c, d, e⟩ := h3 q hq
    exact ⟨a, b, c, d, e.keep hk⟩
  · obtain ⟨ad, e, hb, hc⟩ := h4 hn
    refine ⟨ad, e, hb, fun k h => ?_⟩
    obtain ⟨a, b, c⟩ := hc k h
    have hb' : (ad.add (k * 3)).block < B := by rw [block_of_add]; exact hb
    exact ⟨(hk _ hb').trans a, (hk ⟨(ad.add (k * 3)).block, (ad.add (k * 3)).off + 1, none⟩ hb').trans b, (hk ⟨(ad.add (k * 3)).block, (ad.add (k * 3)).off + 2, none⟩ hb').trans c⟩
theorem Qs.below {w w' : World} {B : Nat} {A : Option Addr} {n : Nat} {qs : List Q} (h : Qs w B A n qs) (hb : Below B w w') : Qs w' B A n qs := h.keep fun _ hp => hb.cell hp
theorem Qs.alloc {w : World} {B : Nat} {A : Option Addr} {n : Nat} {qs : List Q} (h : Qs w B A n qs) (hB : B ≤ w.heap.size) (o : Obj) : Qs (w.alloc o) B A n qs := h.keep fun p hp => World.cell?_alloc_lt w o p (by omega)
theorem Qs.drewN {w : World} {B : Nat} {A : Option Addr} {n : Nat} {qs : List Q} (h : Qs w B A n qs) (d : Nat) : Qs (w.drewN d) B A n qs := h.keep fun _ _ => rfl
/-- One quire: where it lies, and what its cells read, also behind a new block. -/
structure At (w : World) (B : Nat) (p : Addr) (q : Q) : Prop where
  lt : p.block < B
  c0 : w.cell? p = some (.string q.s)
  c1 : w.cell? ⟨p.block, p.off + 1, none⟩ = some (.int .i64 q.lv)
  c2 : w.cell? ⟨p.block, p.off + 2, none⟩ = some (.slice q.A q.n q.c)
theorem Qs.at_ {w : World} {B : Nat} {A : Option Addr} {n : Nat} {qs : List Q} (h : Qs w B A n qs) {k : Nat} (hk : k < n) :
    ∃ (ad p : Addr) (q : Q), A = some ad ∧ ad.add (k * 3) = p ∧ qs[k]? = some q ∧ q.fit w B ∧ At w B p q := by
  obtain ⟨h1, h2, h3, h4⟩ := h
  obtain ⟨ad, e, hb, hc⟩ := h4 (by omega)
  have hl : k < qs.length := by omega
  obtain ⟨a, b, c⟩ := hc k hl
  exact ⟨ad, _, qs[k], e, rfl, List.getElem?_eq_getElem hl, h3 _ (List.getElem_mem hl), ⟨by rw [block_of_add]; exact hb, a, b, c⟩⟩
theorem At.alloc {w : World} {B : Nat} {p : Addr} {q : Q} (h : At w B p q) (hB : B ≤ w.heap.size) (o : Obj) : At (w.alloc o) B p q :=
  ⟨h.lt, (World.cell?_alloc_lt w o p (by have := h.lt; omega)).trans h.c0, (World.cell?_alloc_lt w o _ (by have := h.lt; simp only; omega)).trans h.c1, (World.cell?_alloc_lt w o _ (by have := h.lt; simp only; omega)).trans h.c2⟩
theorem At.alls {w : World} {B : Nat} {p : Addr} {q : Q} (h : At w B p q) (hB : B ≤ w.heap.size) :
    (∀ o, (w.alloc o).cell? p = some (.string q.s)) ∧ (∀ o, (w.alloc o).cell? ⟨p.block, p.off + 1, none⟩ = some (.int .i64 q.lv)) ∧ (∀ o, (w.alloc o).cell? ⟨p.block, p.off + 2, none⟩ = some (.slice q.A q.n q.c)) :=
  ⟨fun o => (h.alloc hB o).c0, fun o => (h.alloc hB o).c1, fun o => (h.alloc hB o).c2⟩
theorem At.below {w w' : World} {B : Nat} {p : Addr} {q : Q} (h : At w B p q) (hb : Below B w w') : At w' B p q :=
  ⟨h.lt, (hb.cell h.lt).trans h.c0, (hb.cell (p := ⟨p.block, p.off + 1, none⟩) h.lt).trans h.c1, (hb.cell (p := ⟨p.block, p.off + 2, none⟩) h.lt).trans h.c2⟩

/-- Whether a leaf is one of the quires. -/
def isLeaf (l : List Q) (a b : Int) : Bool :=
  win 0 ((l.length : Int) - 1) a && match l[a.toNat]? with
    | some q => win 1 q.lv b && !hasI b q.gl
    | none => false
set_option maxHeartbeats 1000000 in
set_option maxRecDepth 100000 in
theorem leaf_any (A : Option Addr) (n c : Nat) (qs : List Q) (a b : Int) (w : World) (B : Nat) (hB : B ≤ w.heap.size) (hq : Qs w B A n qs) :
    Calls Tryz.prog 123 #[.slice A n c, .agg #[.int .i64 a, .int .i64 b]] w fun e w' => e = .returned (.bool (isLeaf qs a b)) ∧ Below w.heap.size w w' := by
  obtain ⟨v, hv⟩ : ∃ v, isLeaf qs a b = v := ⟨_, rfl⟩
  rw [hv]
  have hn : n ≤ maxLen := hq.2.1
  unfold maxLen at hn
  have HL := hid hq.1
  by_cases h1 : win 0 ((n : Int) - 1) a = true
  · obtain ⟨ha, hb⟩ := win_iff.1 h1
    obtain ⟨k, rfl⟩ : ∃ k : Nat, a = k := ⟨a.toNat, by omega⟩
    have hk : k < n := by omega
    obtain ⟨ad, p, q, rfl, hp, hqk, hfit, hat⟩ := hq.at_ hk
    obtain ⟨e0, e1, e2⟩ := hat.alls hB
    have HK := hid hqk
    have HV := hid hv
    have hrg := hfit.2.2.2.2
    have hgn := hfit.2.1
    have HC : Hid (∀ (w' : World), Below w.heap.size w w' → ∀ e : Ending → World → Prop, e (.returned (.bool (hasI b q.gl))) w' → Calls Tryz.prog 107 #[.slice q.A q.n q.c, .int .i64 b] w' e) := by
      intro w' hb' e he
      refine (has_any q.A q.n q.c q.gl b w' B ((hrg.below (hb'.mono hB))) hgn).mono ?_
      rintro e2 w2 ⟨rfl, rfl⟩
      exact he
    clear hqk hv hfit hrg hgn
    by_cases g1 : win 1 q.lv b = true
    · have HW : Hid (v = !hasI b q.gl) := by
        have := HV.out
        unfold isLeaf at this
        rw [HL.out, h1] at this
        simp only [Int.toNat_natCast, HK.out, g1, Bool.true_and] at this
        exact this.symm
      clear HV
      go_enter Tryz.func123, Tryz.ntmps123
      go_wp2_with (first
        | (go_at_call 115; refine (in_any _ _ _ _).mono ?_; rintro e w' ⟨rfl, rfl⟩)
        | (go_at_call 107; refine HC.out _ (((Below.refl _ _).alloc (Nat.le_refl _) _).alloc (by simp) _) _ ?_))
      go_ret
      exact ⟨ret_bool HW.out.symm, ((Below.refl _ _).alloc (Nat.le_refl _) _).alloc (by simp) _⟩
    · have g1' : win 1 q.lv b = false := by simpa using g1
      have HW : Hid (v = false) := by
        have := HV.out
        unfold isLeaf at this
        rw [HL.out, h1] at this
        simp only [Int.toNat_natCast, HK.out, g1', Bool.true_and, Bool.false_and] at this
        exact this.symm
      clear HV
      go_enter Tryz.func123, Tryz.ntmps123
      go_wp2_with (first
        | (go_at_call 115; refine (in_any _ _ _ _).mono ?_; rintro e w' ⟨rfl, rfl⟩)
        | (go_at_call 107; refine HC.out _ (((Below.refl _ _).alloc (Nat.le_refl _) _).alloc (by simp) _) _ ?_))
      go_ret
      exact ⟨ret_bool HW.out.symm, ((Below.refl _ _).alloc (Nat.le_refl _) _).alloc (by simp) _⟩
  · have h1' : win 0 ((n : Int) - 1) a = false := by simpa using h1
    have HV := hid (show v = false by rw [← hv]; unfold isLeaf; rw [HL.out, h1']; rfl)
    clear hv h1
    go_enter Tryz.func123, Tryz.ntmps123
    go_wp2_with (first
      | (go_at_call 115; refine (in_any _ _ _ _).mono ?_; rintro e w' ⟨rfl, rfl⟩))
    go_ret
    exact ⟨ret_bool HV.out.symm, (Below.refl _ _).alloc (Nat.le_refl _) _⟩
end Go.Proofs.YtcoplbaopaigcaaGreat
