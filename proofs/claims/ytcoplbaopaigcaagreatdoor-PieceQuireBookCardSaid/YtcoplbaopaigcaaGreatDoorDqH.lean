/- Print: the text of quires. -/
import Derived.WalkSpells
import Derived.WalkLawsBesides
import Derived.Test.YtcoplbaopaigcaaGreatDoorDqG
import Derived.Test.YtcoplbaopaigcaaGreatDoorDqJ
import Derived.Test.YtcoplbaopaigcaaGreatDoorDqS
set_option linter.all false
namespace Go.Proofs.YtcoplbaopaigcaaGreatDoor
open Go.RowKit
def RetSome (w : World) (e : Ending) (w' : World) : Prop := ∃ b : Bool, e = .returned (.bool b) ∧ w = w'
set_option maxHeartbeats 4000000 in
set_option maxRecDepth 100000 in
theorem brief_any (A : Option Addr) (n c : Nat) (qs : List Q) (w : World) (B : Nat) (hq : Qs w B A n qs) :
    Calls Tryz.prog 6 #[.slice A n c] w (RetSome w) := by
  have hn := hq.2.1
  unfold maxLen at hn
  go_enter Tryz.func6, Tryz.ntmps6
  go_wp2
  go_loop [3] (fun i => ∃ k : Nat, k ≤ n ∧ i = .int .i64 k) (fun i => n - (intOf i).toNat)
  case atStart => exact ⟨0, Nat.zero_le _, rfl⟩
  case round =>
    obtain ⟨k, hk, rfl⟩ := hrel
    by_cases hlt : k < n
    · obtain ⟨ad, p, q, rfl, hp, hqk, hfit, hat⟩ := hq.at_ hlt
      have hs := hfit.1
      have hqn := hfit.2.1
      unfold maxLen at hs hqn
      have e0 := hat.c0
      have e2 := hat.c2
      clear hqk hfit hat
      by_cases h1 : 30 < q.n
      · have h1' : decide (30 < q.n) = true := by simpa using h1
        go_wp2
        go_ret
        exact ⟨_, rfl, rfl⟩
      · have h1' : decide (30 < q.n) = false := by simpa using h1
        by_cases h2 : 10 < q.s.size
        · have h2' : decide (10 < q.s.size) = true := by simpa using h2
          go_wp2
          go_ret
          exact ⟨_, rfl, rfl⟩
        · have h2' : decide (10 < q.s.size) = false := by simpa using h2
          go_wp2
          go_round
          case rel => exact ⟨k + 1, by omega, by go_num⟩
          case measure => simp [intOf]; omega
    · go_wp2
      go_ret
      exact ⟨_, rfl, rfl⟩
end Go.Proofs.YtcoplbaopaigcaaGreatDoor
namespace Go.Proofs.YtcoplbaopaigcaaGreatDoor
open Go.RowKit
theorem itoa_any (z : Int) (h0 : 0 ≤ z) (h1 : z < 100) (w : World) :
    Calls Tryz.prog 32 #[.int .i64 z] w fun e w' => e = .returned (.string ⟨(Lib.decDigits z.toNat).toArray⟩) ∧ w' = w := by
  have h := Tryz.strconv_Itoa_small z.toNat (by omega) w
  rwa [show ((z.toNat : Nat) : Int) = z by omega] at h
def dec (z : Int) : List UInt8 := Lib.decDigits z.toNat
def decB (z : Int) : ByteArray := ⟨(Lib.decDigits z.toNat).toArray⟩
theorem decB_list (z : Int) : (decB z).data.toList = dec z := by simp [decB, dec]
/-- A quire's text, without some of those that are gone. -/
def textTo (q : Q) (j : Nat) : List UInt8 := q.t ++ dec q.lv ++ (q.gl.take j).flatMap fun n => 45 :: dec n
def textQ (q : Q) : List UInt8 := textTo q q.gl.length
def printL (qs : List Q) : List UInt8 := Lib.join (qs.map textQ) [32]
theorem textTo_succ {q : Q} {j : Nat} (hj : j < q.gl.length) : textTo q (j + 1) = textTo q j ++ (45 :: dec q.gl[j]) := by
  unfold textTo
  rw [← List.take_append_getElem hj, List.flatMap_append]
  simp [List.append_assoc]
theorem dec_len {z : Int} (h0 : 0 ≤ z) (h1 : z < 100) : (Lib.decDigits z.toNat).length ≤ 2 := by
  rw [Lib.decDigits]
  split
  · simp
  · rw [Lib.decDigits, dif_pos (by omega)]
    simp
theorem sOk_len {s : ByteArray} (h : sOk s = true) : s.size ≤ 3 := by
  unfold sOk sgnOk at h
  simp only [Bool.and_eq_true, decide_eq_true_eq] at h
  have hl : s.data.toList.length = s.size := by simp
  omega
theorem gone_len {q : Q} (h : sOk q.s = true ∧ q.lv % 2 = 0 ∧ 2 ≤ q.lv ∧ q.lv ≤ 24 ∧ goneOk q.lv 0 q.gl = true) : q.gl.length ≤ 24 := by
  have h1 := upTo_cnt h.2.2.2.2 0 q.lv.toNat
  have h2 := cnt_all h.2.2.2.2
  rw [show ((q.lv.toNat : Nat) : Int) = q.lv by omega, h2] at h1
  omega
theorem textTo_len {q : Q} (h : sOk q.s = true ∧ q.lv % 2 = 0 ∧ 2 ≤ q.lv ∧ q.lv ≤ 24 ∧ goneOk q.lv 0 q.gl = true) : ∀ j, (textTo q j).length ≤ 5 + 3 * j := by
  intro j
  induction j with
  | zero =>
    have h1 := sOk_len h.1
    have h2 := dec_len (z := q.lv) (by omega) (by omega)
    have h3 : q.t.length = q.s.size := by simp [Q.t]
    simp only [textTo, List.take_zero, List.flatMap_nil, List.append_nil, List.length_append, dec]
    omega
  | succ j ih =>
    by_cases hj : j < q.gl.length
    · have hy := gone_gt h.2.2.2.2 q.gl[j] (List.getElem_mem _)
      have h2 := dec_len (z := q.gl[j]) (by omega) (by omega)
      rw [textTo_succ hj, List.length_append]
      simp only [List.length_cons, dec]
      omega
    · have : textTo q (j + 1) = textTo q j := by
        unfold textTo
        rw [List.take_of_length_le (by omega), List.take_of_length_le (by omega)]
      rw [this]; omega
def PrRel (qs : List Q) (n : Nat) (w wr : World) (v i : Value) : Prop :=
  ∃ (k : Nat) (xs : List ByteArray), k ≤ n ∧ i = .int .i64 k ∧ Below w.heap.size w wr ∧ xs.map (·.data.toList) = (qs.take k).map textQ ∧ wr.ownsRow w.heap.size 9 1 v xs.length (xs.map Value.string)
def TxRel (q : Q) (wo wr : World) (v i : Value) : Prop :=
  ∃ (j : Nat) (x : ByteArray), j ≤ q.n ∧ i = .int .i64 j ∧ wr = wo ∧ v = .string x ∧ x.data.toList = textTo q j
def RetPr (b : List UInt8) (c : Int) (w : World) (e : Ending) (w' : World) : Prop :=
  ∃ x : ByteArray, x.data.toList = b ∧ e = .returned (.tuple #[.string x, .int .i64 c]) ∧ Below w.heap.size w w'
theorem info9 : (Tryz.prog.info? 9).map (fun i => (i.zero, i.size, i.bytes)) = some (some (.string ByteArray.empty), 1, 16) := by kernel_rfl
theorem new1 (w : World) (t : TypeId) (x : Value) : ∀ j u, [x][j]? = some u → (w.alloc (.cells #[x] t)).cell? ((⟨w.heap.size, 0, none⟩ : Addr).add j) = some u := by
  intro j u h
  have hb : Blk (w.alloc (.cells #[x] t)) w.heap.size t #[x] := Blk.new _ _ _
  have e : (⟨w.heap.size, 0, none⟩ : Addr).add j = ⟨w.heap.size, j, none⟩ := by unfold Addr.add; by_cases h0 : j = 0 <;> simp [h0]
  rw [e, hb.cell]
  simpa using h
theorem one1 (x : ByteArray) : ∀ u ∈ [Value.string x], u.oneCell' = true := by
  intro u hu
  simp only [List.mem_singleton] at hu
  subst hu; rfl
theorem own_strings {w : World} {base g n cap : Nat} {xs : List ByteArray} (h : w.ownsRow base 9 1 (.slice (some ⟨g, 0, none⟩) n cap) n (xs.map Value.string)) :
    ∀ (j : Nat) x, xs[j]? = some x → w.cell? ⟨g, 0 + j, none⟩ = some (.string x) := by
  intro j x hj
  have := h.cells (g := g) rfl j (.string x) (by rw [List.getElem?_map, hj]; rfl)
  rw [← this]
  congr 1
  unfold Addr.add
  by_cases h0 : j = 0 <;> simp [h0]
theorem join_len : ∀ (ls : List (List UInt8)) (sep : List UInt8) (m : Nat), (∀ l ∈ ls, l.length ≤ m) → (Lib.join ls sep).length ≤ ls.length * (m + sep.length) := by
  have tail : ∀ (r : List (List UInt8)) (sep : List UInt8) (m : Nat), (∀ l ∈ r, l.length ≤ m) → (Lib.joinTail sep r).length ≤ r.length * (m + sep.length) := by
    intro r sep m
    induction r with
    | nil => intro _; simp [Lib.joinTail]
    | cons a t ih =>
      intro h
      have h1 := ih fun l hl => h l (List.mem_cons_of_mem _ hl)
      have h2 := h a List.mem_cons_self
      simp only [Lib.joinTail, List.map_cons, List.flatten_cons, List.length_append, List.length_cons] at h1 ⊢
      rw [Nat.succ_mul]
      omega
  intro ls sep m h
  cases ls with
  | nil => simp [Lib.join_nil]
  | cons a t =>
    have h1 := tail t sep m fun l hl => h l (List.mem_cons_of_mem _ hl)
    have h2 := h a List.mem_cons_self
    rw [Lib.join_cons, List.length_append, List.length_cons, Nat.succ_mul]
    omega
theorem print_len {qs : List Q} {xs : List ByteArray} {k : Nat} (h : ∀ q ∈ qs, q.ok = true) (hx : xs.map (·.data.toList) = (qs.take k).map textQ) (hl : xs.length ≤ 40) : (Lib.join (xs.map (·.data.toList)) [32]).length ≤ 140737488355328 := by
  have h1 := join_len (xs.map (·.data.toList)) [32] 77 (by
    intro l hl
    rw [hx] at hl
    obtain ⟨q, hq, rfl⟩ := List.mem_map.1 hl
    have hk := ok_parts (h q (List.mem_of_mem_take hq))
    have := textTo_len hk q.gl.length
    have := gone_len hk
    unfold textQ
    omega)
  rw [List.length_map] at h1
  have : xs.length * (77 + [32].length) ≤ 40 * 78 := Nat.mul_le_mul hl (Nat.le_refl _)
  omega
theorem pr_next {qs : List Q} {n k j : Nat} {q : Q} {w wo w4 w7 : World} {u v1 : Value} {xs : List ByteArray} {x : ByteArray} (hbl : Below w.heap.size w wo) (HB4 : Hid (Below wo.heap.size wo w4))
    (HO4 : Hid (w4.ownsRow w.heap.size 9 1 u xs.length (xs.map Value.string))) (HX : Hid (xs.map (·.data.toList) = (qs.take k).map textQ)) (HXX : Hid (x.data.toList = textTo q j)) (hkl : k < qs.length) {h : k < qs.length} (HQ : Hid (qs[k] = q))
    (hj : q.gl.length ≤ j) (HG1 : Hid ((w4.alloc (.cells #[.string x] 9)).grownBy w7 u.ownBlock)) (HO1 : Hid (w7.ownsRow w.heap.size 9 1 v1 (xs.length + 1) (xs.map Value.string ++ [.string x]))) (hkn : k < n) :
    PrRel qs n w w7 v1 (.int .i64 ((k : Int) + 1)) := by
  have hb := hbl.trans (HB4.out.mono hbl.size)
  refine ⟨k + 1, xs ++ [x], by omega, by go_num, ?_, ?_, ?_⟩
  · exact (hb.alloc hb.size _).grown HG1.out (by have := hb.size; simp; omega) (fun g hg => (HO4.out.lt g hg).1)
  · rw [List.map_append, HX.out, ← List.take_append_getElem hkl, List.map_append, HQ.out]
    congr 1
    simp only [List.map_cons, List.map_nil, HXX.out, textQ, textTo]
    rw [List.take_of_length_le hj, List.take_of_length_le (Nat.le_refl _)]
  · simpa using HO1.out
set_option maxHeartbeats 4000000 in
set_option maxRecDepth 100000 in
theorem print_ok (A : Option Addr) (n c : Nat) (qs : List Q) (w : World) (B : Nat) (hB : B ≤ w.heap.size) (hq : Qs w B A n qs) (he : err qs = 0) :
    Calls Tryz.prog 8 #[.slice A n c] w (RetPr (printL qs) 0 w) := by
  have HL := hid hq.1
  have h40 := (err_ok he).1
  rw [HL.out] at h40
  have HE := hid (err_all he)
  obtain ⟨i0, hi0, hz0, hz1, hz2⟩ := info_parts info9
  go_enter Tryz.func8, Tryz.ntmps8
  go_wp2_with (go_at_call 31; refine (checkQuires_any A n c qs w B hB hq).mono ?_; rintro e w1 ⟨rfl, hb1⟩)
  go_loopw [5, 18] (fun v i wr => PrRel qs n w wr v i) (fun _ i _ => n - (intOf i).toNat)
  case atStart => exact ⟨0, [], Nat.zero_le _, rfl, hb1, by simp, World.ownsRow_nil _ _ _ _⟩
  case round =>
    obtain ⟨k, xs, hk, rfl, hbl, hxs, hown⟩ := hrel
    obtain ⟨wo, rfl⟩ : ∃ wo : World, wo = wr := ⟨_, rfl⟩
    have HO := hid hown
    have HX := hid hxs
    clear hown hxs
    by_cases hlt : k < n
    · obtain ⟨ad, p, q, rfl, hp, hqk, hfit, hat⟩ := (hq.below (hbl.mono hB)).at_ hlt
      obtain ⟨qA, hqA⟩ : ∃ qA, q.A = qA := ⟨_, rfl⟩
      have e0 := hat.c0
      have e1 := hat.c1
      have e2 := hat.c2
      rw [hqA] at e2
      have hBo : B ≤ wo.heap.size := Nat.le_trans hB hbl.size
      have hkl : k < qs.length := by rw [HL.out]; exact hlt
      have HQ := hid (show qs[k] = q by rw [List.getElem?_eq_getElem hkl] at hqk; exact Option.some.inj hqk)
      have hrq := hfit.2.2.2.2
      rw [hqA] at hrq
      have HRQ := hid hrq
      have hok := ok_parts (HE.out q (by rw [← HQ.out]; exact List.getElem_mem _))
      have HK := hid hok
      have hlv : 2 ≤ q.lv ∧ q.lv ≤ 24 := ⟨hok.2.2.1, hok.2.2.2.1⟩
      have hok' := hok
      clear hqk hfit hok hat hqA hrq
      go_wp2
      generalize hW3 : wo.alloc (Obj.cells #[Value.string q.s, Value.int IntKind.i64 q.lv, Value.slice qA q.n q.c] 37) = w3
      have hb3 : Below wo.heap.size wo w3 := by rw [← hW3]; exact (Below.refl _ _).alloc (Nat.le_refl _) _
      have hbk : Blk w3 wo.heap.size 37 #[.string q.s, .int .i64 q.lv, .slice qA q.n q.c] := by rw [← hW3]; exact Blk.new _ _ _
      have f0 : w3.cell? ⟨wo.heap.size, 0, none⟩ = some (.string q.s) := by rw [hbk.cell]; rfl
      have f1 : w3.cell? ⟨wo.heap.size, 1, none⟩ = some (.int .i64 q.lv) := by rw [hbk.cell]; rfl
      have f2 : w3.cell? ⟨wo.heap.size, 2, none⟩ = some (.slice qA q.n q.c) := by rw [hbk.cell]; rfl
      have HI := hid (show ∀ d, Calls Tryz.prog 32 #[.int .i64 q.lv] (w3.drewN d) fun e w' => e = .returned (.string ⟨(Lib.decDigits q.lv.toNat).toArray⟩) ∧ w' = w3.drewN d from fun d => itoa_any q.lv (by omega) (by omega) _)
      have hsz : q.s.size ≤ 3 := sOk_len HK.out.1
      have hlen := dec_len (z := q.lv) (by omega) (by omega)
      have hs1 : ¬ 9223372036854775807 < q.s.size + (Lib.decDigits q.lv.toNat).length := by omega
      clear hW3 hbk e0 e1 e2
      go_quiet ((go_at_call 32; exact Calls.quiet_of_same (HI.out _)))
      have hgl := gone_len hok' 
      generalize hx0 : (q.s ++ { data := (Lib.decDigits q.lv.toNat).toArray } : ByteArray) = x0
      have HX0 := hid (show x0.data.toList = textTo q 0 by rw [← hx0]; simp [textTo, Q.t, dec])
      generalize hw4 : w3.drewN nq = w4
      have hb4 : Below wo.heap.size wo w4 := by rw [← hw4]; exact below_drewN hb3 nq
      have g2 : w4.cell? ⟨wo.heap.size, 2, none⟩ = some (.slice qA q.n q.c) := by rw [← hw4]; exact f2
      have hrd : Reads w4 B 1 qA q.n (q.gl.map (Value.int .i64)) := HRQ.out.below (hb4.mono hBo)
      have hgn : q.gl.length = q.n := by have := hrd.1; simpa using this
      clear hx0 hw4 f0 f1 f2 HI hs1 hb3
      go_wp2
      go_loopw [8, 31] (fun v i wr => TxRel q w4 wr v i) (fun _ i _ => q.n - (intOf i).toNat)
      case atStart => exact ⟨0, x0, Nat.zero_le _, rfl, rfl, rfl, HX0.out⟩
      case round =>
        obtain ⟨j, x, hj, rfl, rfl, rfl, hx⟩ := hrel
        have HXX := hid hx
        have hxs : x.size ≤ 5 + 3 * j := by
          have := textTo_len HK.out j
          rw [← hx] at this
          simpa using this
        clear hx
        by_cases hjn : j < q.n
        · have hjl : j < q.gl.length := by omega
          obtain ⟨adg, rfl, hcg⟩ := reads_int hrd hjn hjl
          obtain ⟨y, hy⟩ : ∃ y, q.gl[j] = y := ⟨_, rfl⟩
          have hyr := gone_gt HK.out.2.2.2.2 q.gl[j] (List.getElem_mem _)
          rw [hy] at hcg hyr
          have HY := hid hy
          have hl2 := dec_len (z := y) (by omega) (by omega)
          have hs2 : ¬ 9223372036854775807 < 1 + (Lib.decDigits y.toNat).length := by omega
          have hs3 : ¬ 9223372036854775807 < x.size + (1 + (Lib.decDigits y.toNat).length) := by omega
          clear hy
          go_wp2_with (go_at_call 32; refine (itoa_any y (by omega) (by omega) _).mono ?_; rintro e w' ⟨rfl, rfl⟩)
          go_roundw
          case rel =>
            refine ⟨j + 1, _, by omega, by go_num, rfl, rfl, ?_⟩
            rw [textTo_succ hjl, HY.out, ← HXX.out]
            simp [dec]
          case measure => simp [intOf]; omega
        · have HB4 := hid hb4
          have HO4 := hid (own_below HO.out hb4)
          have hxl : xs.length ≤ k := by have := congrArg List.length HX.out; simp at this; omega
          go_wp2_with (at_builtin
                       refine wpList_append_own _ rfl (.tmp 41) (.tmp 43) 79 rfl w.heap.size 9 i0 _ 1 16 Tryz.underlying79 hi0 hz0 hz1 hz2 rfl (by decide) u5 _ _ rfl (HO4.out.alloc _) ⟨wr.heap.size, 0, none⟩ 1 1 [.string x] rfl rfl (new1 _ _ _) (one1 _) (by unfold maxLen; omega) (by omega) (by have := hbl.size; have := HB4.out.size; simp; omega) ?_
                       intro v1 w7 hown1 hg1 _hz
                       have HG1 := hid hg1
                       have HO1 := hid hown1
                       clear hg1 hown1 _hz)
          go_roundw
          case rel => exact pr_next hbl HB4 HO4 HX HXX hkl HQ (by omega) HG1 HO1 hlt
          case measure => simp [intOf]; omega
    · have HXL := hid (show xs.length = k by have := congrArg List.length HX.out; simp [List.length_take] at this; rw [HL.out] at this; omega)
      have HP := hid (show (Lib.join (xs.map (·.data.toList)) [32]) = printL qs by rw [HX.out, List.take_of_length_le (by rw [HL.out]; omega)]; rfl)
      have HJ := hid (show (Lib.join (xs.map (·.data.toList)) [32]).length ≤ 140737488355328 from print_len HE.out HX.out (by rw [HXL.out]; omega))
      rcases HO.out.2 with ⟨rfl, h0⟩ | ⟨g, cap, cur, rfl, hg, hh, hcc, hcm, hcs, hct⟩
      · have hx0 : xs = [] := List.eq_nil_of_length_eq_zero h0
        subst hx0
        go_wp2_with (go_at_call 33; refine (Tryz.strings_Join_none none 0 _ _).mono ?_; rintro e w9 ⟨rfl, rfl⟩)
        go_ret2
        exact ⟨⟨#[]⟩, by have := HP.out; simpa [Lib.join_nil] using this, rfl, hbl⟩
      · have HC := hid (show Calls Tryz.prog 33 #[.slice (some ⟨g, 0, none⟩) xs.length cap, .string ⟨#[32]⟩] wo fun e w' => e = .returned (.string ⟨(Lib.join (xs.map (·.data.toList)) [32]).toArray⟩) ∧ Below wo.heap.size wo w' from
          Tryz.strings_Join g 0 cap xs ⟨#[32]⟩ wo (own_strings HO.out) (HO.out.lt g rfl).2 (by rw [HXL.out]; omega) hcc HJ.out)
        clear hh hcs hct
        go_wp2_with (go_at_call 33; refine HC.out.mono ?_; rintro e w9 ⟨rfl, hb9⟩)
        go_ret2
        exact ⟨⟨(Lib.join (xs.map (·.data.toList)) [32]).toArray⟩, by simpa using HP.out, rfl, below_go hbl hb9⟩
set_option maxHeartbeats 1000000 in
theorem print_bad (A : Option Addr) (n c : Nat) (qs : List Q) (w : World) (B : Nat) (hB : B ≤ w.heap.size) (hq : Qs w B A n qs) (e : Int) (he : err qs = e) (h0 : e ≠ 0) :
    Calls Tryz.prog 8 #[.slice A n c] w (RetPr [] e w) := by
  have h0' : (e != 0) = true := by simpa using h0
  go_enter Tryz.func8, Tryz.ntmps8
  go_wp2_with (go_at_call 31; refine (checkQuires_any A n c qs w B hB hq).mono ?_; rintro e1 w1 ⟨rfl, hb1⟩)
  go_ret2
  exact ⟨⟨#[]⟩, rfl, rfl, hb1⟩
theorem print_any (A : Option Addr) (n c : Nat) (qs : List Q) (w : World) (B : Nat) (hB : B ≤ w.heap.size) (hq : Qs w B A n qs) :
    Calls Tryz.prog 8 #[.slice A n c] w (RetPr (if err qs = 0 then printL qs else []) (err qs) w) := by
  by_cases h : err qs = 0
  · rw [if_pos h, h]; exact print_ok A n c qs w B hB hq h
  · rw [if_neg h]; exact print_bad A n c qs w B hB hq _ rfl h
end Go.Proofs.YtcoplbaopaigcaaGreatDoor
