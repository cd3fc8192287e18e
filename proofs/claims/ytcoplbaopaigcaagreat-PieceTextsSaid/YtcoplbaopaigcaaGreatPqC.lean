/- The first error of quires, in the program and in the specification. -/
import Derived.Maps.OwnOps
import Derived.Maps.Views
import Derived.Maps.OwnSet
import Derived.Test.YtcoplbaopaigcaaGreatPqB
set_option linter.all false
namespace Go.Proofs.YtcoplbaopaigcaaGreat
open Go.RowKit
/-- A slice of leaves as it reads in a world, all of it below block B. -/
def Ls (w : World) (B : Nat) (A : Option Addr) (n : Nat) (ls : List (Int × Int)) : Prop :=
  ls.length = n ∧ n ≤ maxLen ∧ (0 < n → ∃ ad, A = some ad ∧ ad.block < B ∧ ∀ k (h : k < ls.length),
    w.cell? (ad.add (k * 2)) = some (.int .i64 ls[k].1) ∧ w.cell? ⟨(ad.add (k * 2)).block, (ad.add (k * 2)).off + 1, none⟩ = some (.int .i64 ls[k].2))
theorem Ls.keep {w w' : World} {B : Nat} {A : Option Addr} {n : Nat} {ls : List (Int × Int)} (h : Ls w B A n ls) (hk : ∀ p : Addr, p.block < B → w'.cell? p = w.cell? p) : Ls w' B A n ls := by
  obtain ⟨h1, h2, h4⟩ := h
  refine ⟨h1, h2, fun hn => ?_⟩
  obtain ⟨ad, e, hb, hc⟩ := h4 hn
  refine ⟨ad, e, hb, fun k h => ?_⟩
  obtain ⟨a, b⟩ := hc k h
  have hb' : (ad.add (k * 2)).block < B := by rw [block_of_add]; exact hb
  exact ⟨(hk _ hb').trans a, (hk ⟨(ad.add (k * 2)).block, (ad.add (k * 2)).off + 1, none⟩ hb').trans b⟩
theorem Ls.below {w w' : World} {B : Nat} {A : Option Addr} {n : Nat} {ls : List (Int × Int)} (h : Ls w B A n ls) (hb : Below B w w') : Ls w' B A n ls := h.keep fun _ hp => hb.cell hp
theorem Ls.alloc {w : World} {B : Nat} {A : Option Addr} {n : Nat} {ls : List (Int × Int)} (h : Ls w B A n ls) (hB : B ≤ w.heap.size) (o : Obj) : Ls (w.alloc o) B A n ls := h.keep fun p hp => World.cell?_alloc_lt w o p (by omega)
theorem Ls.at_ {w : World} {B : Nat} {A : Option Addr} {n : Nat} {ls : List (Int × Int)} (h : Ls w B A n ls) {k : Nat} (hk : k < n) :
    ∃ (ad p : Addr) (x : Int × Int), A = some ad ∧ ad.add (k * 2) = p ∧ ls[k]? = some x ∧ p.block < B ∧ w.cell? p = some (.int .i64 x.1) ∧ w.cell? ⟨p.block, p.off + 1, none⟩ = some (.int .i64 x.2) := by
  obtain ⟨h1, h2, h4⟩ := h
  obtain ⟨ad, e, hb, hc⟩ := h4 (by omega)
  have hl : k < ls.length := by omega
  obtain ⟨a, b⟩ := hc k hl
  exact ⟨ad, _, ls[k], e, rfl, List.getElem?_eq_getElem hl, by rw [block_of_add]; exact hb, a, b⟩

theorem stood90 : Tryz.prog.stoodInHeld 90 = false := by kernel_rfl
theorem guard90 : Tryz.prog.eqGuardType Tryz.prog.depth 90 = false := by kernel_rfl
theorem und90 : Tryz.prog.underlying 90 = some (.struct (Tryz.prog.fieldsOf 90)) := by kernel_rfl
theorem eq90 (x y a b : Int) (w : World) : (binOp .eql 90 (.agg #[.int .i64 x, .int .i64 y]) (.agg #[.int .i64 a, .int .i64 b])).run Tryz.prog w = .ok (.bool (x == a && y == b)) w := by
  rw [run_eql_struct, run_equalIn_struct _ _ _ _ _ und90 stood90]
  have hf : (Tryz.prog.fieldsOf 90).toList = [{ name := "Quire", type := 3, offset := 0, embedded := false, tag := "", pkgPath := "", byteOffset := 0 }, { name := "Number", type := 3, offset := 1, embedded := false, tag := "", pkgPath := "", byteOffset := 8 }] := by kernel_rfl
  rw [hf]
  by_cases h1 : x = a <;> by_cases h2 : y = b <;> simp [go_sem, Op.eqFields, h1, h2]
theorem guardrun90 (X Y : Operand) (xs ys : Array Value) (w : World) : (eqGuard .eql 90 X Y (.agg xs) (.agg ys)).run Tryz.prog w = .ok () w := run_eqGuard_agg _ _ _ _ _ _ _ guard90

/-- The index of a leaf, or -1. -/
def ixL (f : Int × Int) (l : List (Int × Int)) : Int := if f ∈ l then (l.idxOf f : Int) else -1
theorem ixL_at {m : Int × Int} {gl : List (Int × Int)} {k : Nat} (he : gl[k]? = some m) (hb : ∀ j (h : j < gl.length), j < k → gl[j] ≠ m) : ixL m gl = k := by
  obtain ⟨hk, he⟩ := List.getElem?_eq_some_iff.1 he
  unfold ixL
  rw [if_pos (by rw [← he]; exact List.getElem_mem _)]
  congr 1
  have h1 : gl.idxOf m < gl.length := List.idxOf_lt_length_iff.2 (by rw [← he]; exact List.getElem_mem _)
  have h2 : gl[gl.idxOf m] = m := List.getElem_idxOf h1
  rcases Nat.lt_trichotomy (gl.idxOf m) k with h | h | h
  · exact absurd h2 (hb _ h1 h)
  · exact h
  · have := List.not_of_lt_findIdx (p := (· == m)) (xs := gl) (i := k) h
    simp [he] at this
theorem ixL_no {m : Int × Int} {gl : List (Int × Int)} (hb : ∀ j (h : j < gl.length), gl[j] ≠ m) : ixL m gl = -1 := by
  unfold ixL
  rw [if_neg]
  intro hm
  obtain ⟨j, hj, he⟩ := List.getElem_of_mem hm
  exact hb j hj he
def hasL (m : Int × Int) (gl : List (Int × Int)) : Bool := gl.contains m
theorem ixL_geq (m : Int × Int) (gl : List (Int × Int)) : decide (ixL m gl ≥ 0) = hasL m gl := by
  unfold hasL ixL
  by_cases h : m ∈ gl <;> simp [h]

def LxRel (m : Int × Int) (gl : List (Int × Int)) (n : Nat) (W wr : World) (i : Value) : Prop :=
  ∃ k d : Nat, k ≤ n ∧ i = .int .i64 k ∧ wr = W.drewN d ∧ ∀ j (h : j < gl.length), j < k → gl[j] ≠ m
set_option maxHeartbeats 1000000 in
theorem indexL_any (A : Option Addr) (n c : Nat) (ls : List (Int × Int)) (a b : Int) (w : World) (B : Nat) (hB : B ≤ w.heap.size) (hr : Ls w B A n ls) :
    Calls Tryz.prog 121 #[.slice A n c, .agg #[.int .i64 a, .int .i64 b]] w fun e w' => e = .returned (.int .i64 (ixL (a, b) ls)) ∧ Below w.heap.size w w' := by
  have hn := hr.2.1
  unfold maxLen at hn
  have HL := hid hr.1
  obtain ⟨W, hW⟩ : ∃ W, w.alloc (Obj.cells #[Value.int IntKind.i64 a, Value.int IntKind.i64 b] 90) = W := ⟨_, rfl⟩
  have c0 : W.cell? ⟨w.heap.size, 0, none⟩ = some (.int .i64 a) := by subst hW; simp [go_sem]
  have c1 : W.cell? ⟨w.heap.size, 1, none⟩ = some (.int .i64 b) := by subst hW; simp [go_sem]
  have hrW : Ls W B A n ls := by subst hW; exact hr.alloc hB _
  have HW := hid hW
  go_enter Tryz.func121, Tryz.ntmps121
  go_wp2
  clear hW
  go_loopw [8] (fun i wr => LxRel (a, b) ls n W wr i) (fun i _ => n - (intOf i).toNat)
  case atStart => exact ⟨0, 0, Nat.zero_le _, rfl, rfl, by intros; omega⟩
  case round =>
    obtain ⟨k, d, hk, rfl, rfl, hall⟩ := hrel
    have HA := hid hall
    clear hall
    by_cases hlt : k < n
    · obtain ⟨ad, p, ⟨x, y⟩, rfl, hp, hkx, hpb, e0, e1⟩ := hrW.at_ hlt
      have HX := hid hkx
      clear hkx
      have q1 := fun X Y xs ys w => guardrun90 X Y xs ys w
      by_cases h1 : (a == x && b == y) = true
      · have q2 := fun w => (eq90 a b x y w).trans (by rw [h1])
        have HE := hid (show (x, y) = (a, b) by simp only [Bool.and_eq_true, beq_iff_eq] at h1; rw [h1.1, h1.2])
        clear h1
        go_wp2
        go_quiet (fail)
        go_wp2
        go_ret
        exact ⟨ret_int (ixL_at (by rw [HX.out, HE.out]) HA.out).symm, by simpa using below_box HW _⟩
      · have h1' : (a == x && b == y) = false := by simpa using h1
        have q2 := fun w => (eq90 a b x y w).trans (by rw [h1'])
        have HE := hid (show ¬ (x, y) = (a, b) by
          intro h; apply h1; simp only [Prod.mk.injEq] at h; simp [h.1, h.2])
        clear h1 h1'
        go_wp2
        go_quiet (fail)
        go_wp2
        go_roundw
        case rel =>
          refine ⟨k + 1, _, by omega, by go_num, rfl, fun j h hj => ?_⟩
          by_cases hjk : j = k
          · subst hjk
            have e := HX.out
            rw [List.getElem?_eq_getElem h] at e
            rw [Option.some.inj e]
            exact HE.out
          · exact HA.out j h (by omega)
        case measure => simp [intOf]; omega
    · go_wp2
      go_ret
      exact ⟨ret_int (ixL_no fun j h => HA.out j h (by rw [HL.out] at h; omega)).symm, below_box HW _⟩
set_option maxHeartbeats 400000 in
theorem containsL_any (A : Option Addr) (n c : Nat) (ls : List (Int × Int)) (a b : Int) (w : World) (B : Nat) (hB : B ≤ w.heap.size) (hr : Ls w B A n ls) :
    Calls Tryz.prog 122 #[.slice A n c, .agg #[.int .i64 a, .int .i64 b]] w fun e w' => e = .returned (.bool (hasL (a, b) ls)) ∧ Below w.heap.size w w' := by
  have HG := hid (ixL_geq (a, b) ls)
  go_enter Tryz.func122, Tryz.ntmps122
  go_wp2_with (go_at_call 121; refine (indexL_any A n c ls a b _ B (by simp; omega) (hr.alloc hB _)).mono ?_; rintro e w1 ⟨rfl, hb⟩)
  go_ret
  exact ⟨ret_bool (by rw [← HG.out]), ((Below.refl _ _).alloc (Nat.le_refl _) _).trans (hb.mono (by simp))⟩
end Go.Proofs.YtcoplbaopaigcaaGreat
namespace Go.Proofs.YtcoplbaopaigcaaGreat
open Go.RowKit
def Q.t (q : Q) : List UInt8 := q.s.data.toList
theorem t_inj {a b : ByteArray} (h : a.data.toList = b.data.toList) : a = b := by
  obtain ⟨⟨x⟩⟩ := a
  obtain ⟨⟨y⟩⟩ := b
  simp only at h
  rw [h]
def errGo : List (List UInt8) → List Q → Int
  | _, [] => 0
  | seen, q :: t => if q.ok = false then 1 else if q.t ∈ seen then 6 else errGo (seen ++ [q.t]) t
def err (l : List Q) : Int := if 40 < l.length then 2 else errGo [] l

/-- After k quires nothing was found. -/
def clean (l : List Q) : Prop := errGo [] l = 0

theorem errGo_app (pre : List Q) : ∀ (seen : List (List UInt8)) (post : List Q), errGo seen pre = 0 → errGo seen (pre ++ post) = errGo (seen ++ pre.map (·.t)) post := by
  induction pre with
  | nil => intro seen post _; simp
  | cons q t ih =>
    intro seen post h
    rw [List.cons_append, errGo]
    rw [errGo] at h
    by_cases h1 : q.ok = false
    · rw [if_pos h1] at h; exact absurd h (by omega)
    · rw [if_neg h1] at h ⊢
      by_cases h2 : q.t ∈ seen
      · rw [if_pos h2] at h; exact absurd h (by omega)
      · rw [if_neg h2] at h ⊢
        rw [ih _ post h]
        simp [List.append_assoc]

section
variable {l : List Q} {k : Nat}
theorem take_split (hk : k < l.length) : l = l.take k ++ l[k] :: l.drop (k + 1) := by
  rw [List.getElem_cons_drop, List.take_append_drop]
theorem bad_at (hk : k < l.length) (hc : clean (l.take k)) (hq : l[k].ok = false) : errGo [] l = 1 := by
  rw [take_split hk, errGo_app _ _ _ hc, errGo, if_pos hq]
theorem twice_at (hk : k < l.length) (hc : clean (l.take k)) (hq : l[k].ok = true) (hs : l[k].t ∈ (l.take k).map (·.t)) : errGo [] l = 6 := by
  rw [take_split hk, errGo_app _ _ _ hc, errGo, if_neg (by simp [hq]), if_pos (by simpa using hs)]
theorem clean_at (hk : k < l.length) (hc : clean (l.take k)) (hq : l[k].ok = true) (hs : l[k].t ∉ (l.take k).map (·.t)) : clean (l.take (k + 1)) := by
  have e : l.take (k + 1) = l.take k ++ [l[k]] := (List.take_append_getElem hk).symm
  unfold clean
  rw [e, errGo_app _ _ _ hc, errGo, if_neg (by simp [hq]), if_neg (by simpa using hs), errGo]
theorem clean_zero : clean (l.take 0) := by simp [clean, errGo]
theorem clean_all (hc : clean (l.take l.length)) : errGo [] l = 0 := by simpa [clean] using hc
theorem ok_of_errGo : ∀ (l : List Q) (seen : List (List UInt8)), errGo seen l = 0 → ∀ q ∈ l, q.ok = true := by
  intro l
  induction l with
  | nil => intro _ _ q hq; cases hq
  | cons a t ih =>
    intro seen h q hq
    rw [errGo] at h
    by_cases h1 : a.ok = false
    · rw [if_pos h1] at h; exact absurd h (by omega)
    · rw [if_neg h1] at h
      by_cases h2 : a.t ∈ seen
      · rw [if_pos h2] at h; exact absurd h (by omega)
      · rw [if_neg h2] at h
        rcases List.mem_cons.1 hq with rfl | hq
        · simpa using h1
        · exact ih _ h q hq
end


theorem mem_signs {l : List Q} {k : Nat} {q : Q} (hk : k ≤ l.length) : q.t ∈ (l.take k).map (·.t) ↔ ∃ j, ∃ h : j < l.length, j < k ∧ l[j].s = q.s := by
  rw [List.mem_map]
  constructor
  · rintro ⟨q', hq, he⟩
    obtain ⟨j, hj, rfl⟩ := List.getElem_of_mem hq
    have hj' : j < k := by rw [List.length_take] at hj; omega
    refine ⟨j, by omega, hj', ?_⟩
    rw [List.getElem_take] at he
    exact t_inj he
  · rintro ⟨j, h, hj, he⟩
    exact ⟨l[j], by rw [List.mem_take_iff_getElem]; exact ⟨j, by omega, rfl⟩, by unfold Q.t; rw [he]⟩
end Go.Proofs.YtcoplbaopaigcaaGreat
namespace Go.Proofs.YtcoplbaopaigcaaGreat
open Go.RowKit
theorem bs_eq {a b : ByteArray} (h : a = b) : (a == b) = true ∧ (a.toList == b.toList) = true := by
  rw [beq_toListBytes]
  subst h
  simp
theorem bs_ne {a b : ByteArray} (h : a ≠ b) : (a == b) = false ∧ (a.toList == b.toList) = false := by
  rw [beq_toListBytes]
  have : (a.toList == b.toList) = false := by
    rw [ByteArray.toList_eq, ByteArray.toList_eq]
    simp only [beq_eq_false_iff_ne, ne_eq]
    exact fun e => h (t_inj e)
  exact ⟨this, this⟩
def QuiRel (qs : List Q) (n : Nat) (w wr : World) (i : Value) : Prop :=
  ∃ k : Nat, k ≤ n ∧ i = .int .i64 k ∧ Below w.heap.size w wr ∧ clean (qs.take k)
def SameRel (qs : List Q) (k : Nat) (s : ByteArray) (wo wr : World) (i : Value) : Prop :=
  ∃ j d : Nat, j ≤ k ∧ i = .int .i64 j ∧ wr = wo.drewN d ∧ ∀ t (h : t < qs.length), t < j → qs[t].s ≠ s
set_option maxHeartbeats 4000000 in
set_option maxRecDepth 100000 in
theorem Quires_any (A : Option Addr) (n c : Nat) (qs : List Q) (w : World) (B : Nat) (hB : B ≤ w.heap.size) (hq : Qs w B A n qs) :
    Calls Tryz.prog 119 #[.slice A n c] w fun e w' => e = .returned (.int .i64 (err qs)) ∧ Below w.heap.size w w' := by
  have hn := hq.2.1
  unfold maxLen at hn
  have HL := hid hq.1
  by_cases h40 : 40 < n
  · have HE := hid (show err qs = 2 by unfold err; rw [HL.out, if_pos h40])
    go_enter Tryz.func119, Tryz.ntmps119
    go_wp2
    go_ret
    exact ⟨ret_int HE.out.symm, Below.refl _ _⟩
  · have HE := hid (show err qs = errGo [] qs by unfold err; rw [HL.out, if_neg h40])
    go_enter Tryz.func119, Tryz.ntmps119
    go_wp2
    go_loopw [3] (fun i wr => QuiRel qs n w wr i) (fun i _ => n - (intOf i).toNat)
    case atStart => exact ⟨0, Nat.zero_le _, rfl, Below.refl _ _, clean_zero⟩
    case round =>
      obtain ⟨k, hk, rfl, hbl, hcl⟩ := hrel
      have HC := hid hcl
      clear hcl
      obtain ⟨wo, rfl⟩ : ∃ wo : World, wo = wr := ⟨_, rfl⟩
      by_cases hlt : k < n
      · obtain ⟨ad, p, q, rfl, hp, hqk, hfit, hat⟩ := (hq.below (hbl.mono hB)).at_ hlt
        have e0 := hat.c0
        have e1 := hat.c1
        have e2 := hat.c2
        have HK := hid hqk
        have HF := hid hfit
        have hkl : k < qs.length := by rw [HL.out]; exact hlt
        have hqk' : qs[k] = q := by rw [List.getElem?_eq_getElem hkl] at hqk; exact Option.some.inj hqk
        have HQ := hid hqk'
        clear hqk hfit hqk'
        have hBo : B ≤ wo.heap.size := Nat.le_trans hB hbl.size
        by_cases hok : qOkB q.s q.lv q.gl = true
        · go_wp2_with (go_at_call 147; refine (quire_any q.s q.lv q.A q.n q.c q.gl wo B hBo HF.out.1 HF.out.2.2.2.2 HF.out.2.1).mono ?_; rintro e w1 ⟨rfl, hb1⟩)
          have hq1 : Qs w1 B (some ad) n qs := (hq.below (hbl.mono hB)).below (hb1.mono hBo)
          have hat1 := hat.below (hb1.mono hBo)
          have f0 := hat1.c0
          clear e0 e1 e2
          go_loopw [5] (fun i wr => SameRel qs k q.s w1 wr i) (fun i _ => k - (intOf i).toNat)
          case atStart => exact ⟨0, 0, Nat.zero_le _, rfl, rfl, by intros; omega⟩
          case round =>
            obtain ⟨j, d, hj, rfl, rfl, hne⟩ := hrel
            have HN := hid hne
            clear hne
            by_cases hjk : j < k
            · have hjn : j < n := by omega
              obtain ⟨ad', p', q', hA, hp', hqj, -, hat'⟩ := hq1.at_ hjn
              cases hA
              have hjl : j < qs.length := by omega
              have HJ := hid (show qs[j] = q' by rw [List.getElem?_eq_getElem hjl] at hqj; exact Option.some.inj hqj)
              clear hqj
              have g0 := hat'.c0
              by_cases hs : q'.s = q.s
              · have HS := hid hs
                obtain ⟨hs1, hs2⟩ := bs_eq hs
                clear hs
                go_wp2
                go_quiet (fail)
                go_wp2
                go_ret
                refine ⟨ret_int ?_, by simpa using below_drewN (hbl.trans (hb1.mono hbl.size)) _⟩
                rw [HE.out]
                exact (twice_at hkl HC.out (by rw [HQ.out]; exact hok) ((mem_signs (by omega)).2 ⟨j, hjl, hjk, by rw [HJ.out, HQ.out]; exact HS.out⟩)).symm
              · have HS := hid hs
                obtain ⟨hs1, hs2⟩ := bs_ne hs
                clear hs
                go_wp2
                go_quiet (fail)
                go_wp2
                go_roundw
                case rel =>
                  refine ⟨j + 1, _, by omega, by go_num, rfl, fun t h ht => ?_⟩
                  by_cases htj : t = j
                  · subst htj; rw [HJ.out]; exact HS.out
                  · exact HN.out t h (by omega)
                case measure => simp [intOf]; omega
            · go_wp2
              go_roundw
              case rel =>
                refine ⟨k + 1, by omega, by go_num, below_drewN (hbl.trans (hb1.mono hbl.size)) _, clean_at hkl HC.out (by rw [HQ.out]; exact hok) ?_⟩
                intro hm
                obtain ⟨t, h, ht, he⟩ := (mem_signs (by omega)).1 hm
                exact HN.out t h (by omega) (by rw [he, HQ.out])
              case measure => simp [intOf]; omega
        · have hok' : qOkB q.s q.lv q.gl = false := by simpa using hok
          go_wp2_with (go_at_call 147; refine (quire_any q.s q.lv q.A q.n q.c q.gl wo B hBo HF.out.1 HF.out.2.2.2.2 HF.out.2.1).mono ?_; rintro e w1 ⟨rfl, hb1⟩)
          go_ret
          exact ⟨ret_int (by rw [HE.out]; exact (bad_at hkl HC.out (by rw [HQ.out]; exact hok')).symm), hbl.trans (hb1.mono hbl.size)⟩
      · go_wp2
        go_ret
        exact ⟨ret_int (by rw [HE.out]; have := HC.out; rw [show k = qs.length by rw [HL.out]; omega] at this; exact (clean_all this).symm), hbl⟩
end Go.Proofs.YtcoplbaopaigcaaGreat
namespace Go.Proofs.YtcoplbaopaigcaaGreat
open Go.RowKit Go.Maps Go.WideMaps
theorem zeroB (w : World) : (zeroValue 4).run Tryz.prog w = .ok (.bool false) w := by kernel_rfl
theorem strK : Keyed Tryz.prog 9 := string_keyed Tryz.underlying9
/-- Block b is a map of the call's own, of at most n entries: whether a text is among S. -/
def SetS (w : World) (b n : Nat) (S : List (List UInt8)) : Prop :=
  ∃ D : DataW Unit, w.ownsMap Tryz.prog 9 (plainElem Tryz.prog 4) b n D ∧ IsMap D ∧ ∀ s, D.atKey (.string s) (.lit (.bool false)) = .lit (.bool (S.contains s))
theorem SetS.made (w : World) : SetS (w.alloc (.map #[] 0)) w.heap.size 0 [] :=
  ⟨_, World.ownsMap_made w _ _ _, isMap_empty, fun _ => rfl⟩
theorem SetS.kept {w w' : World} {row : Option Nat} {b n : Nat} {S : List (List UInt8)} (h : SetS w b n S) (hg : w.grownBy w' row) (hne : some b ≠ row) : SetS w' b n S := by
  obtain ⟨D, h1, h2, h3⟩ := h
  exact ⟨D, h1.kept hg hne, h2, h3⟩
theorem SetS.lt {w : World} {b n : Nat} {S : List (List UInt8)} (h : SetS w b n S) : b < w.heap.size := by
  obtain ⟨D, h1, _⟩ := h
  exact h1.lt
theorem SetS.below {w w' : World} {B b n : Nat} {S : List (List UInt8)} (h : SetS w b n S) (hb : Below B w w') (hB : b < B) : SetS w' b n S := by
  obtain ⟨D, ⟨es, clock, hh, r⟩, h2, h3⟩ := h
  exact ⟨D, ⟨es, clock, (hb.block b hB).trans hh, r⟩, h2, h3⟩
theorem SetS.alloc {w : World} {b n : Nat} {S : List (List UInt8)} (h : SetS w b n S) (o : Obj) : SetS (w.alloc o) b n S := by
  obtain ⟨D, h1, h2, h3⟩ := h
  exact ⟨D, h1.alloc o, h2, h3⟩
theorem plainElem_bool_inv {P : Program} {e : TypeId} (he : P.underlying e = some .bool) {v : Value} {z : DataW Unit × List MemPlace} (h : plainElem P e v = some z) : ∃ x, v = .bool x ∧ z = (.lit (.bool x), []) := by
  unfold plainElem at h
  rw [he] at h
  cases v <;> simp at h
  exact ⟨_, rfl, h.symm⟩
theorem SetS.lookup {w : World} {b n : Nat} {S : List (List UInt8)} (h : SetS w b n S) {s : ByteArray} (hs : s.size ≤ maxLen) :
    (Instr.lookup 195 (.map (some b)) (.string s) false).run Tryz.prog w = .ok (.bool (S.contains s.data.toList)) w := by
  obtain ⟨D, h1, h2, h3⟩ := h
  obtain ⟨v, ps, hrun, hv⟩ := h1.lookup strK Tryz.underlying195 (zeroB w) (plainElem_bool Tryz.underlying4 false) (keyOf_string_mk Tryz.underlying9 hs)
  obtain ⟨x, rfl, hx⟩ := plainElem_bool_inv Tryz.underlying4 hv
  rw [h3] at hx
  simp only [Prod.mk.injEq] at hx
  have : S.contains s.data.toList = x := Lit.bool.inj (DataW.lit.inj hx.1)
  rw [hrun, this]
theorem SetS.update {w : World} {b n : Nat} {S : List (List UInt8)} (h : SetS w b n S) (hn : n < maxLen) {s : ByteArray} (hs : s.size ≤ maxLen) :
    ∃ w', (Instr.mapUpdate 195 (.map (some b)) (.string s) (.bool true)).run Tryz.prog w = .ok () w' ∧ SetS w' b (n + 1) (S ++ [s.data.toList]) ∧ w.grownBy w' (some b) := by
  obtain ⟨D, h1, h2, h3⟩ := h
  obtain ⟨w', hrun, h4, h5⟩ := h1.update strK Tryz.underlying195 hn (keyOf_string_mk Tryz.underlying9 hs) (plainElem_bool Tryz.underlying4 true)
  refine ⟨w', hrun, ⟨_, h4, h2.put _ _, fun t => ?_⟩, h5⟩
  by_cases ht : t = s.data.toList
  · subst ht
    rw [atKey_put_same h2 (by show True; trivial)]
    simp
  · rw [atKey_put_other (fun e => ht (by injection e)), h3]
    simp [ht]
def ChkRel (qs : List Q) (n : Nat) (w : World) (bm : Nat) (wr : World) (i : Value) : Prop :=
  ∃ k : Nat, k ≤ n ∧ i = .int .i64 k ∧ Below w.heap.size w wr ∧ SetS wr bm k ((qs.take k).map (·.t)) ∧ clean (qs.take k)
set_option maxHeartbeats 4000000 in
set_option maxRecDepth 100000 in
theorem checkQuires_any (A : Option Addr) (n c : Nat) (qs : List Q) (w : World) (B : Nat) (hB : B ≤ w.heap.size) (hq : Qs w B A n qs) :
    Calls Tryz.prog 116 #[.slice A n c] w fun e w' => e = .returned (.int .i64 (err qs)) ∧ Below w.heap.size w w' := by
  have hn := hq.2.1
  unfold maxLen at hn
  have HL := hid hq.1
  by_cases h40 : 40 < n
  · have HE := hid (show err qs = 2 by unfold err; rw [HL.out, if_pos h40])
    go_enter Tryz.func116, Tryz.ntmps116
    go_wp2
    go_ret
    exact ⟨ret_int HE.out.symm, Below.refl _ _⟩
  · have HE := hid (show err qs = errGo [] qs by unfold err; rw [HL.out, if_neg h40])
    have hmm := @run_makeMap Tryz.prog
    go_enter Tryz.func116, Tryz.ntmps116
    go_wp2
    go_loopw [12] (fun i wr => ChkRel qs n w w.heap.size wr i) (fun i _ => n - (intOf i).toNat)
    case atStart => exact ⟨0, Nat.zero_le _, rfl, (Below.refl _ _).alloc (Nat.le_refl _) _, SetS.made w, clean_zero⟩
    case round =>
      obtain ⟨k, hk, rfl, hbl, hset, hcl⟩ := hrel
      have HC := hid hcl
      have HS := hid hset
      clear hcl hset
      obtain ⟨wo, rfl⟩ : ∃ wo : World, wo = wr := ⟨_, rfl⟩
      by_cases hlt : k < n
      · obtain ⟨ad, p, q, rfl, hp, hqk, hfit, hat⟩ := (hq.below (hbl.mono hB)).at_ hlt
        have e0 := hat.c0
        have e1 := hat.c1
        have e2 := hat.c2
        have hBo : B ≤ wo.heap.size := Nat.le_trans hB hbl.size
        have hkl : k < qs.length := by rw [HL.out]; exact hlt
        have HQ := hid (show qs[k] = q by rw [List.getElem?_eq_getElem hkl] at hqk; exact Option.some.inj hqk)
        have HF := hid hfit
        clear hqk hfit
        by_cases hok : qOkB q.s q.lv q.gl = true
        · by_cases hs : ((qs.take k).map (·.t)).contains q.t = true
          · have hin : ((qs.take k).map (·.t)).contains q.s.data.toList = true := hs
            have HM := hid (show q.t ∈ (qs.take k).map (·.t) by simpa using hs)
            clear hs
            go_wp2_with (go_at_call 146; refine (isQuire_any q.s q.lv q.A q.n q.c q.gl _ B (by simp; omega) HF.out.1 (HF.out.2.2.2.2.alloc hBo _) HF.out.2.1).mono ?_; rintro e w1 ⟨rfl, hb1⟩; obtain ⟨hc, hf⟩ := bcell hb1; have hset1 := (HS.out.alloc (Obj.cells #[Value.string q.s, Value.int IntKind.i64 q.lv, Value.slice q.A q.n q.c] 168)).below hb1 (by have := HS.out.lt; simp; omega); have hlk := (hset1.lookup HF.out.1).trans (by rw [hin]); have HB1 := hid hb1; clear hset1 hb1)
            go_ret
            exact ⟨ret_int (by rw [HE.out]; exact (twice_at hkl HC.out (by rw [HQ.out]; exact hok) (by rw [HQ.out]; exact HM.out)).symm), (hbl.alloc hbl.size _).trans (HB1.out.mono (by have := hbl.size; simp; omega))⟩
          · have hin : ((qs.take k).map (·.t)).contains q.s.data.toList = false := by
              have : ((qs.take k).map (·.t)).contains q.t = false := by simpa using hs
              exact this
            have HM := hid (show q.t ∉ (qs.take k).map (·.t) by simpa using hs)
            clear hs
            go_wp2_with (go_at_call 146; refine (isQuire_any q.s q.lv q.A q.n q.c q.gl _ B (by simp; omega) HF.out.1 (HF.out.2.2.2.2.alloc hBo _) HF.out.2.1).mono ?_; rintro e w1 ⟨rfl, hb1⟩; obtain ⟨hc, hf⟩ := bcell hb1; have hset1 := (HS.out.alloc (Obj.cells #[Value.string q.s, Value.int IntKind.i64 q.lv, Value.slice q.A q.n q.c] 168)).below hb1 (by have := HS.out.lt; simp; omega); have hlk := (hset1.lookup HF.out.1).trans (by rw [hin]); have HB1 := hid hb1; obtain ⟨w2, hup, hset2, hg2⟩ := hset1.update (s := q.s) (by unfold maxLen; omega) HF.out.1; clear hset1 hb1; have HS2 := hid hset2; have HG2 := hid hg2; clear hset2 hg2)
            go_roundw
            case rel =>
              have e : (qs.take k).map (·.t) ++ [q.s.data.toList] = (qs.take (k + 1)).map (·.t) := by
                rw [← List.take_append_getElem hkl, List.map_append, HQ.out]; rfl
              refine ⟨k + 1, by omega, by go_num, ?_, by rw [← e]; exact HS2.out, clean_at hkl HC.out (by rw [HQ.out]; exact hok) (by rw [HQ.out]; exact HM.out)⟩
              exact ((hbl.alloc hbl.size _).trans (HB1.out.mono (by have := hbl.size; simp; omega))).grown HG2.out (by have := HB1.out.size; have := hbl.size; simp at *; omega) (fun g hg => by cases hg; exact Nat.le_refl _)
            case measure => simp [intOf]; omega
        · have hok' : qOkB q.s q.lv q.gl = false := by simpa using hok
          go_wp2_with (go_at_call 146; refine (isQuire_any q.s q.lv q.A q.n q.c q.gl _ B (by simp; omega) HF.out.1 (HF.out.2.2.2.2.alloc hBo _) HF.out.2.1).mono ?_; rintro e w1 ⟨rfl, hb1⟩; obtain ⟨hc, hf⟩ := bcell hb1)
          go_ret
          exact ⟨ret_int (by rw [HE.out]; exact (bad_at hkl HC.out (by rw [HQ.out]; exact hok')).symm), (hbl.alloc hbl.size _).trans (hb1.mono (by have := hbl.size; simp; omega))⟩
      · go_wp2
        go_ret
        exact ⟨ret_int (by rw [HE.out]; have := HC.out; rw [show k = qs.length by rw [HL.out]; omega] at this; exact (clean_all this).symm), hbl⟩
end Go.Proofs.YtcoplbaopaigcaaGreat
