/- The first error of pieces, in the program and in the specification. -/
import Derived.Test.YtcoplbaopaigcaaGreatPqG
set_option linter.all false
namespace Go.Proofs.YtcoplbaopaigcaaGreat
open Go.RowKit
/-- A piece that came in: its ID, its words (a slice), its catchword. -/
structure Pc where
  id : Int
  A : Option Addr
  n : Nat
  c : Nat
  ws : List Int
  ct : Int
def wsOk (l : List Int) : Bool := l.all fun x => win 1 9999 x
def Pc.ok (p : Pc) : Bool := win 1 1099511627776 p.id && win 1 40 p.n && wsOk p.ws && win 1 9999 p.ct
def Pc.fit (w : World) (B : Nat) (p : Pc) : Prop := p.n ≤ maxLen ∧ -9223372036854775808 ≤ p.id ∧ p.id ≤ 9223372036854775807 ∧ Reads w B 1 p.A p.n (p.ws.map (Value.int .i64))
def Ps (w : World) (B : Nat) (A : Option Addr) (n : Nat) (ps : List Pc) : Prop :=
  ps.length = n ∧ n ≤ maxLen ∧ (∀ p ∈ ps, p.fit w B) ∧ (0 < n → ∃ ad, A = some ad ∧ ad.block < B ∧ ∀ k (h : k < ps.length),
    w.cell? (ad.add (k * 3)) = some (.int .i64 ps[k].id) ∧ w.cell? ⟨(ad.add (k * 3)).block, (ad.add (k * 3)).off + 1, none⟩ = some (.slice ps[k].A ps[k].n ps[k].c) ∧ w.cell? ⟨(ad.add (k * 3)).block, (ad.add (k * 3)).off + 2, none⟩ = some (.int .i64 ps[k].ct))
theorem Ps.keep {w w' : World} {B : Nat} {A : Option Addr} {n : Nat} {ps : List Pc} (h : Ps w B A n ps) (hk : ∀ p : Addr, p.block < B → w'.cell? p = w.cell? p) : Ps w' B A n ps := by
  obtain ⟨h1, h2, h3, h4⟩ := h
  refine ⟨h1, h2, fun q hq => ?_, fun hn => ?_⟩
  · obtain ⟨a, b, c, d⟩ := h3 q hq
    exact ⟨a, b, c, d.keep hk⟩
  · obtain ⟨ad, e, hb, hc⟩ := h4 hn
    refine ⟨ad, e, hb, fun k h => ?_⟩
    obtain ⟨a, b, c⟩ := hc k h
    have hb' : (ad.add (k * 3)).block < B := by rw [block_of_add]; exact hb
    exact ⟨(hk _ hb').trans a, (hk ⟨(ad.add (k * 3)).block, (ad.add (k * 3)).off + 1, none⟩ hb').trans b, (hk ⟨(ad.add (k * 3)).block, (ad.add (k * 3)).off + 2, none⟩ hb').trans c⟩
theorem Ps.below {w w' : World} {B : Nat} {A : Option Addr} {n : Nat} {ps : List Pc} (h : Ps w B A n ps) (hb : Below B w w') : Ps w' B A n ps := h.keep fun _ hp => hb.cell hp
theorem Ps.alloc {w : World} {B : Nat} {A : Option Addr} {n : Nat} {ps : List Pc} (h : Ps w B A n ps) (hB : B ≤ w.heap.size) (o : Obj) : Ps (w.alloc o) B A n ps := h.keep fun p hp => World.cell?_alloc_lt w o p (by omega)
structure PAt (w : World) (B : Nat) (p : Addr) (q : Pc) : Prop where
  lt : p.block < B
  c0 : w.cell? p = some (.int .i64 q.id)
  c1 : w.cell? ⟨p.block, p.off + 1, none⟩ = some (.slice q.A q.n q.c)
  c2 : w.cell? ⟨p.block, p.off + 2, none⟩ = some (.int .i64 q.ct)
theorem Ps.at_ {w : World} {B : Nat} {A : Option Addr} {n : Nat} {ps : List Pc} (h : Ps w B A n ps) {k : Nat} (hk : k < n) :
    ∃ (ad p : Addr) (q : Pc), A = some ad ∧ ad.add (k * 3) = p ∧ ps[k]? = some q ∧ q.fit w B ∧ PAt w B p q := by
  obtain ⟨h1, h2, h3, h4⟩ := h
  obtain ⟨ad, e, hb, hc⟩ := h4 (by omega)
  have hl : k < ps.length := by omega
  obtain ⟨a, b, c⟩ := hc k hl
  exact ⟨ad, _, ps[k], e, rfl, List.getElem?_eq_getElem hl, h3 _ (List.getElem_mem hl), ⟨by rw [block_of_add]; exact hb, a, b, c⟩⟩
theorem PAt.alloc {w : World} {B : Nat} {p : Addr} {q : Pc} (h : PAt w B p q) (hB : B ≤ w.heap.size) (o : Obj) : PAt (w.alloc o) B p q :=
  ⟨h.lt, (World.cell?_alloc_lt w o p (by have := h.lt; omega)).trans h.c0, (World.cell?_alloc_lt w o _ (by have := h.lt; simp only; omega)).trans h.c1, (World.cell?_alloc_lt w o _ (by have := h.lt; simp only; omega)).trans h.c2⟩
theorem PAt.below {w w' : World} {B : Nat} {p : Addr} {q : Pc} (h : PAt w B p q) (hb : Below B w w') : PAt w' B p q :=
  ⟨h.lt, (hb.cell h.lt).trans h.c0, (hb.cell (p := ⟨p.block, p.off + 1, none⟩) h.lt).trans h.c1, (hb.cell (p := ⟨p.block, p.off + 2, none⟩) h.lt).trans h.c2⟩
set_option maxHeartbeats 400000 in
theorem isWord_any (n : Int) (w : World) :
    Calls Tryz.prog 136 #[.int .i64 n] w fun e w' => e = .returned (.bool (win 1 9999 n)) ∧ w = w' := by
  go_enter Tryz.func136, Tryz.ntmps136
  go_wp2_with (go_at_call 118; refine (within_any _ _ _ _).mono ?_; rintro e w' ⟨rfl, rfl⟩)
  go_ret
  exact ⟨rfl, rfl⟩
theorem wsOk_no {l : List Int} {k : Nat} (hk : k < l.length) (h : win 1 9999 l[k] = false) : wsOk l = false := by
  unfold wsOk
  rw [List.all_eq_false]
  exact ⟨l[k], List.getElem_mem _, by simp [h]⟩
theorem wsOk_yes {l : List Int} (h : ∀ j (hj : j < l.length), win 1 9999 l[j] = true) : wsOk l = true := by
  unfold wsOk
  rw [List.all_eq_true]
  intro x hx
  obtain ⟨j, hj, rfl⟩ := List.getElem_of_mem hx
  exact h j hj
def WsRel (gl : List Int) (n : Nat) (i : Value) : Prop := ∃ k : Nat, k ≤ n ∧ i = .int .i64 k ∧ ∀ j (h : j < gl.length), j < k → win 1 9999 gl[j] = true
set_option maxHeartbeats 400000 in
theorem areWords_any (A : Option Addr) (n c : Nat) (gl : List Int) (w : World) (B : Nat) (hr : Reads w B 1 A n (gl.map (Value.int .i64))) (hn : n ≤ maxLen) :
    Calls Tryz.prog 112 #[.slice A n c] w fun e w' => e = .returned (.bool (wsOk gl)) ∧ w = w' := by
  unfold maxLen at hn
  have HL := hid (show gl.length = n by have := hr.1; simpa using this)
  go_enter Tryz.func112, Tryz.ntmps112
  go_wp2
  go_loop [7] (WsRel gl n) (fun i => n - (intOf i).toNat)
  case atStart => exact ⟨0, Nat.zero_le _, rfl, by intros; omega⟩
  case round =>
    obtain ⟨k, hk, rfl, hall⟩ := hrel
    have HA := hid hall
    clear hall
    by_cases hlt : k < n
    · have hkl : k < gl.length := by rw [HL.out]; exact hlt
      obtain ⟨ad, rfl, hc⟩ := reads_int hr hlt hkl
      obtain ⟨y, hy⟩ : ∃ y, gl[k] = y := ⟨_, rfl⟩
      rw [hy] at hc
      have HY := hid hy
      clear hy
      by_cases h1 : win 1 9999 y = true
      · go_wp2_with (go_at_call 136; refine (isWord_any _ _).mono ?_; rintro e w' ⟨rfl, rfl⟩)
        go_round
        case rel =>
          refine ⟨k + 1, by omega, by go_num, fun j h hj => ?_⟩
          by_cases hjk : j = k
          · subst hjk; rw [HY.out]; exact h1
          · exact HA.out j h (by omega)
        case measure => simp [intOf]; omega
      · have h1' : win 1 9999 y = false := by simpa using h1
        go_wp2_with (go_at_call 136; refine (isWord_any _ _).mono ?_; rintro e w' ⟨rfl, rfl⟩)
        go_ret
        exact ⟨ret_bool (wsOk_no hkl (by rw [HY.out]; exact h1')).symm, rfl⟩
    · go_wp2
      go_ret
      exact ⟨ret_bool (wsOk_yes fun j h => HA.out j h (by rw [HL.out] at h; omega)).symm, rfl⟩
def pOkB (id : Int) (n : Nat) (ws : List Int) (ct : Int) : Bool := win 1 1099511627776 id && win 1 40 n && wsOk ws && win 1 9999 ct
set_option maxHeartbeats 1000000 in
set_option maxRecDepth 100000 in
theorem isPiece_any (id : Int) (A : Option Addr) (n c : Nat) (ws : List Int) (ct : Int) (w : World) (B : Nat) (hB : B ≤ w.heap.size) (hr : Reads w B 1 A n (ws.map (Value.int .i64))) (hn : n ≤ maxLen) :
    Calls Tryz.prog 89 #[.agg #[.int .i64 id, .slice A n c, .int .i64 ct]] w fun e w' => e = .returned (.bool (pOkB id n ws ct)) ∧ Below w.heap.size w w' := by
  obtain ⟨q, hq⟩ : ∃ q, pOkB id n ws ct = q := ⟨_, rfl⟩
  rw [hq]
  have HQ := hid hq
  clear hq
  have HC := hid (show ∀ w' : World, Below w.heap.size w w' → Calls Tryz.prog 112 #[.slice A n c] w' fun e w'' => e = .returned (.bool (wsOk ws)) ∧ w' = w'' from fun w' hb => areWords_any A n c ws w' B (hr.below (hb.mono hB)) hn)
  have HBX := hid (show ∀ o, Below w.heap.size w (w.alloc o) from fun o => (Below.refl _ _).alloc (Nat.le_refl _) o)
  by_cases h1 : win 1 1099511627776 id = true
  · by_cases h2 : win 1 40 n = true
    · by_cases h3 : wsOk ws = true
      · have HG := hid (show win 1 9999 ct = q by have := HQ.out; simpa [pOkB, h1, h2, h3] using this)
        clear HQ
        go_enter Tryz.func89, Tryz.ntmps89
        go_wp2_with (first
          | (go_at_call 118; refine (within_any _ _ _ _).mono ?_; rintro e w' ⟨rfl, rfl⟩)
          | (go_at_call 136; refine (isWord_any _ _).mono ?_; rintro e w' ⟨rfl, rfl⟩)
          | (go_at_call 112; refine (HC.out _ (HBX.out _)).mono ?_; rintro e w' ⟨rfl, rfl⟩))
        go_ret
        exact ⟨ret_bool HG.out, HBX.out _⟩
      · have h3' : wsOk ws = false := by simpa using h3
        have HG := hid (show q = false by have := HQ.out; rw [← this]; simp [pOkB, h3'])
        clear HQ
        go_enter Tryz.func89, Tryz.ntmps89
        go_wp2_with (first
          | (go_at_call 118; refine (within_any _ _ _ _).mono ?_; rintro e w' ⟨rfl, rfl⟩)
          | (go_at_call 112; refine (HC.out _ (HBX.out _)).mono ?_; rintro e w' ⟨rfl, rfl⟩))
        go_ret
        exact ⟨ret_bool HG.out.symm, HBX.out _⟩
    · have h2' : win 1 40 n = false := by simpa using h2
      have HG := hid (show q = false by have := HQ.out; rw [← this]; simp [pOkB, h2'])
      clear HQ
      go_enter Tryz.func89, Tryz.ntmps89
      go_wp2_with (go_at_call 118; refine (within_any _ _ _ _).mono ?_; rintro e w' ⟨rfl, rfl⟩)
      go_ret
      exact ⟨ret_bool HG.out.symm, HBX.out _⟩
  · have h1' : win 1 1099511627776 id = false := by simpa using h1
    have HG := hid (show q = false by have := HQ.out; rw [← this]; simp [pOkB, h1'])
    clear HQ
    go_enter Tryz.func89, Tryz.ntmps89
    go_wp2_with (go_at_call 118; refine (within_any _ _ _ _).mono ?_; rintro e w' ⟨rfl, rfl⟩)
    go_ret
    exact ⟨ret_bool HG.out.symm, HBX.out _⟩
end Go.Proofs.YtcoplbaopaigcaaGreat
namespace Go.Proofs.YtcoplbaopaigcaaGreat
open Go.RowKit Go.Maps
def Pc.okB (p : Pc) : Bool := pOkB p.id p.n p.ws p.ct
def errGoP : List Int → List Pc → Int
  | _, [] => 0
  | seen, q :: t => if q.okB = false then 1 else if q.id ∈ seen then 6 else errGoP (seen ++ [q.id]) t
def errP (l : List Pc) : Int := if 24 < l.length then 2 else errGoP [] l
def cleanP (l : List Pc) : Prop := errGoP [] l = 0
theorem errGoP_app (pre : List Pc) : ∀ (seen : List Int) (post : List Pc), errGoP seen pre = 0 → errGoP seen (pre ++ post) = errGoP (seen ++ pre.map (·.id)) post := by
  induction pre with
  | nil => intro seen post _; simp
  | cons q t ih =>
    intro seen post h
    rw [List.cons_append, errGoP]
    rw [errGoP] at h
    by_cases h1 : q.okB = false
    · rw [if_pos h1] at h; exact absurd h (by omega)
    · rw [if_neg h1] at h ⊢
      by_cases h2 : q.id ∈ seen
      · rw [if_pos h2] at h; exact absurd h (by omega)
      · rw [if_neg h2] at h ⊢
        rw [ih _ post h]
        simp [List.append_assoc]
section
variable {l : List Pc} {k : Nat}
theorem take_splitP (hk : k < l.length) : l = l.take k ++ l[k] :: l.drop (k + 1) := by rw [List.getElem_cons_drop, List.take_append_drop]
theorem bad_atP (hk : k < l.length) (hc : cleanP (l.take k)) (hq : l[k].okB = false) : errGoP [] l = 1 := by
  rw [take_splitP hk, errGoP_app _ _ _ hc, errGoP, if_pos hq]
theorem twice_atP (hk : k < l.length) (hc : cleanP (l.take k)) (hq : l[k].okB = true) (hs : l[k].id ∈ (l.take k).map (·.id)) : errGoP [] l = 6 := by
  rw [take_splitP hk, errGoP_app _ _ _ hc, errGoP, if_neg (by simp [hq]), if_pos (by simpa using hs)]
theorem clean_atP (hk : k < l.length) (hc : cleanP (l.take k)) (hq : l[k].okB = true) (hs : l[k].id ∉ (l.take k).map (·.id)) : cleanP (l.take (k + 1)) := by
  have e : l.take (k + 1) = l.take k ++ [l[k]] := (List.take_append_getElem hk).symm
  unfold cleanP
  rw [e, errGoP_app _ _ _ hc, errGoP, if_neg (by simp [hq]), if_neg (by simpa using hs), errGoP]
theorem clean_zeroP : cleanP (l.take 0) := by simp [cleanP, errGoP]
theorem clean_allP (hc : cleanP (l.take l.length)) : errGoP [] l = 0 := by simpa [cleanP] using hc
theorem ok_of_errGoP : ∀ (l : List Pc) (seen : List Int), errGoP seen l = 0 → (∀ q ∈ l, q.okB = true) ∧ (∀ q ∈ l, q.id ∉ seen) ∧ (l.map (·.id)).Nodup := by
  intro l
  induction l with
  | nil => intro _ _; exact ⟨by simp, by simp, List.nodup_nil⟩
  | cons a t ih =>
    intro seen h
    rw [errGoP] at h
    by_cases h1 : a.okB = false
    · rw [if_pos h1] at h; exact absurd h (by omega)
    · rw [if_neg h1] at h
      by_cases h2 : a.id ∈ seen
      · rw [if_pos h2] at h; exact absurd h (by omega)
      · rw [if_neg h2] at h
        obtain ⟨i1, i2, i3⟩ := ih _ h
        refine ⟨?_, ?_, ?_⟩
        · intro q hq
          rcases List.mem_cons.1 hq with rfl | hq
          · simpa using h1
          · exact i1 q hq
        · intro q hq
          rcases List.mem_cons.1 hq with rfl | hq
          · exact h2
          · intro hm; exact i2 q hq (by simp [hm])
        · rw [List.map_cons, List.nodup_cons]
          refine ⟨?_, i3⟩
          intro hm
          obtain ⟨q, hq, he⟩ := List.mem_map.1 hm
          exact i2 q hq (by simp [he])
end
theorem errP_ok {ps : List Pc} (h : errP ps = 0) : ps.length ≤ 24 ∧ (∀ q ∈ ps, q.okB = true) ∧ (ps.map (·.id)).Nodup := by
  unfold errP at h
  by_cases h40 : 24 < ps.length
  · rw [if_pos h40] at h; exact absurd h (by omega)
  · rw [if_neg h40] at h
    have := ok_of_errGoP ps [] h
    exact ⟨by omega, this.1, this.2.2⟩
theorem pok_parts {q : Pc} (h : q.okB = true) : 1 ≤ q.id ∧ q.id ≤ 1099511627776 ∧ 1 ≤ q.n ∧ q.n ≤ 40 ∧ wsOk q.ws = true ∧ 1 ≤ q.ct ∧ q.ct ≤ 9999 := by
  unfold Pc.okB pOkB at h
  simp only [Bool.and_eq_true, win_iff] at h
  obtain ⟨⟨⟨⟨h1, h2⟩, h3, h4⟩, h5⟩, h6, h7⟩ := h
  exact ⟨h1, h2, by omega, by omega, h5, h6, h7⟩
theorem wf_of {z : Int} (h : -9223372036854775808 ≤ z ∧ z ≤ 9223372036854775807) : (Lit.int .i64 z).wf = true := by
  simp [Lit.wf, IntKind.min, IntKind.max, IntKind.bits, IntKind.signed]
  omega

theorem intK : Keyed Tryz.prog 3 := int_keyed Tryz.underlying3
/-- Block b is a map of the call's own, of at most n entries: whether a number is among S. -/
def SetI (w : World) (b n : Nat) (S : List Int) : Prop :=
  ∃ D : DataW Unit, w.ownsMap Tryz.prog 3 (plainElem Tryz.prog 4) b n D ∧ IsMap D ∧ ∀ s, D.atKey (.int .i64 s) (.lit (.bool false)) = .lit (.bool (S.contains s))
theorem SetI.made (w : World) : SetI (w.alloc (.map #[] 0)) w.heap.size 0 [] := ⟨_, World.ownsMap_made w _ _ _, isMap_empty, fun _ => rfl⟩
theorem SetI.lt {w : World} {b n : Nat} {S : List Int} (h : SetI w b n S) : b < w.heap.size := by obtain ⟨D, h1, _⟩ := h; exact h1.lt
theorem SetI.below {w w' : World} {B b n : Nat} {S : List Int} (h : SetI w b n S) (hb : Below B w w') (hB : b < B) : SetI w' b n S := by
  obtain ⟨D, ⟨es, clock, hh, r⟩, h2, h3⟩ := h
  exact ⟨D, ⟨es, clock, (hb.block b hB).trans hh, r⟩, h2, h3⟩
theorem SetI.alloc {w : World} {b n : Nat} {S : List Int} (h : SetI w b n S) (o : Obj) : SetI (w.alloc o) b n S := by
  obtain ⟨D, h1, h2, h3⟩ := h
  exact ⟨D, h1.alloc o, h2, h3⟩
theorem SetI.lookup {w : World} {b n : Nat} {S : List Int} (h : SetI w b n S) {s : Int} (hs : (Lit.int .i64 s).wf = true) :
    (Instr.lookup 150 (.map (some b)) (.int .i64 s) false).run Tryz.prog w = .ok (.bool (S.contains s)) w := by
  obtain ⟨D, h1, h2, h3⟩ := h
  obtain ⟨v, ps, hrun, hv⟩ := h1.lookup intK Tryz.underlying150 (zeroB w) (plainElem_bool Tryz.underlying4 false) (keyOf_int_mk Tryz.underlying3 hs)
  obtain ⟨x, rfl, hx⟩ := plainElem_bool_inv Tryz.underlying4 hv
  rw [h3] at hx
  simp only [Prod.mk.injEq] at hx
  have : S.contains s = x := Lit.bool.inj (DataW.lit.inj hx.1)
  rw [hrun, this]
theorem SetI.update {w : World} {b n : Nat} {S : List Int} (h : SetI w b n S) (hn : n < maxLen) {s : Int} (hs : (Lit.int .i64 s).wf = true) :
    ∃ w', (Instr.mapUpdate 150 (.map (some b)) (.int .i64 s) (.bool true)).run Tryz.prog w = .ok () w' ∧ SetI w' b (n + 1) (S ++ [s]) ∧ w.grownBy w' (some b) := by
  obtain ⟨D, h1, h2, h3⟩ := h
  obtain ⟨w', hrun, h4, h5⟩ := h1.update intK Tryz.underlying150 hn (keyOf_int_mk Tryz.underlying3 hs) (plainElem_bool Tryz.underlying4 true)
  refine ⟨w', hrun, ⟨_, h4, h2.put _ _, fun t => ?_⟩, h5⟩
  by_cases ht : t = s
  · subst ht
    rw [atKey_put_same h2 (by show True; trivial)]
    simp
  · rw [atKey_put_other (fun e => ht (by injection e)), h3]
    simp [ht]
def PkRel (ps : List Pc) (n : Nat) (w : World) (bm : Nat) (wr : World) (i : Value) : Prop :=
  ∃ k : Nat, k ≤ n ∧ i = .int .i64 k ∧ Below w.heap.size w wr ∧ SetI wr bm k ((ps.take k).map (·.id)) ∧ cleanP (ps.take k)
set_option maxHeartbeats 4000000 in
set_option maxRecDepth 100000 in
theorem check_any (A : Option Addr) (n c : Nat) (ps : List Pc) (w : World) (B : Nat) (hB : B ≤ w.heap.size) (hq : Ps w B A n ps) :
    Calls Tryz.prog 27 #[.slice A n c] w fun e w' => e = .returned (.int .i64 (errP ps)) ∧ Below w.heap.size w w' := by
  have hn := hq.2.1
  unfold maxLen at hn
  have HL := hid hq.1
  by_cases h40 : 24 < n
  · have HE := hid (show errP ps = 2 by unfold errP; rw [HL.out, if_pos h40])
    go_enter Tryz.func27, Tryz.ntmps27
    go_wp2
    go_ret
    exact ⟨ret_int HE.out.symm, Below.refl _ _⟩
  · have HE := hid (show errP ps = errGoP [] ps by unfold errP; rw [HL.out, if_neg h40])
    have hmm := @run_makeMap Tryz.prog
    go_enter Tryz.func27, Tryz.ntmps27
    go_wp2
    go_loopw [12] (fun i wr => PkRel ps n w w.heap.size wr i) (fun i _ => n - (intOf i).toNat)
    case atStart => exact ⟨0, Nat.zero_le _, rfl, (Below.refl _ _).alloc (Nat.le_refl _) _, SetI.made w, clean_zeroP⟩
    case round =>
      obtain ⟨k, hk, rfl, hbl, hset, hcl⟩ := hrel
      have HC := hid hcl
      have HS := hid hset
      clear hcl hset
      obtain ⟨wo, rfl⟩ : ∃ wo : World, wo = wr := ⟨_, rfl⟩
      by_cases hlt : k < n
      · obtain ⟨ad, p, q, rfl, hp, hqk, hfit, hat⟩ := (hq.below (hbl.mono hB)).at_ hlt
        have e0 := hat.c0
        have e1 := hat.c1
        have e2 := hat.c2
        have hBo : B ≤ wo.heap.size := Nat.le_trans hB hbl.size
        have hkl : k < ps.length := by rw [HL.out]; exact hlt
        have HQ := hid (show ps[k] = q by rw [List.getElem?_eq_getElem hkl] at hqk; exact Option.some.inj hqk)
        have HF := hid hfit
        have HW := hid (wf_of ⟨hfit.2.1, hfit.2.2.1⟩)
        clear hqk hfit
        by_cases hok : pOkB q.id q.n q.ws q.ct = true
        · by_cases hs : ((ps.take k).map (·.id)).contains q.id = true
          · have hin : ((ps.take k).map (·.id)).contains q.id = true := hs
            have HM := hid (show q.id ∈ (ps.take k).map (·.id) by simpa using hs)
            clear hs
            go_wp2_with (go_at_call 89; refine (isPiece_any q.id q.A q.n q.c q.ws q.ct _ B (by simp; omega) (HF.out.2.2.2.alloc hBo _) HF.out.1).mono ?_; rintro e w1 ⟨rfl, hb1⟩; obtain ⟨hc, hf⟩ := bcell hb1; have hset1 := (HS.out.alloc (Obj.cells #[Value.int IntKind.i64 q.id, Value.slice q.A q.n q.c, Value.int IntKind.i64 q.ct] 107)).below hb1 (by have := HS.out.lt; simp; omega); have hlk := (hset1.lookup HW.out).trans (by rw [hin]); have HB1 := hid hb1; clear hset1 hb1)
            go_ret
            exact ⟨ret_int (by rw [HE.out]; exact (twice_atP hkl HC.out (by rw [HQ.out]; exact hok) (by rw [HQ.out]; exact HM.out)).symm), (hbl.alloc hbl.size _).trans (HB1.out.mono (by have := hbl.size; simp; omega))⟩
          · have hin : ((ps.take k).map (·.id)).contains q.id = false := by simpa using hs
            have HM := hid (show q.id ∉ (ps.take k).map (·.id) by simpa using hs)
            clear hs
            go_wp2_with (go_at_call 89; refine (isPiece_any q.id q.A q.n q.c q.ws q.ct _ B (by simp; omega) (HF.out.2.2.2.alloc hBo _) HF.out.1).mono ?_; rintro e w1 ⟨rfl, hb1⟩; obtain ⟨hc, hf⟩ := bcell hb1; have hset1 := (HS.out.alloc (Obj.cells #[Value.int IntKind.i64 q.id, Value.slice q.A q.n q.c, Value.int IntKind.i64 q.ct] 107)).below hb1 (by have := HS.out.lt; simp; omega); have hlk := (hset1.lookup HW.out).trans (by rw [hin]); have HB1 := hid hb1; obtain ⟨w2, hup, hset2, hg2⟩ := hset1.update (s := q.id) (by unfold maxLen; omega) HW.out; clear hset1 hb1; have HS2 := hid hset2; have HG2 := hid hg2; clear hset2 hg2)
            go_roundw
            case rel =>
              have e : (ps.take k).map (·.id) ++ [q.id] = (ps.take (k + 1)).map (·.id) := by
                rw [← List.take_append_getElem hkl, List.map_append, HQ.out]; rfl
              refine ⟨k + 1, by omega, by go_num, ?_, by rw [← e]; exact HS2.out, clean_atP hkl HC.out (by rw [HQ.out]; exact hok) (by rw [HQ.out]; exact HM.out)⟩
              exact ((hbl.alloc hbl.size _).trans (HB1.out.mono (by have := hbl.size; simp; omega))).grown HG2.out (by have := HB1.out.size; have := hbl.size; simp at *; omega) (fun g hg => by cases hg; exact Nat.le_refl _)
            case measure => simp [intOf]; omega
        · have hok' : pOkB q.id q.n q.ws q.ct = false := by simpa using hok
          go_wp2_with (go_at_call 89; refine (isPiece_any q.id q.A q.n q.c q.ws q.ct _ B (by simp; omega) (HF.out.2.2.2.alloc hBo _) HF.out.1).mono ?_; rintro e w1 ⟨rfl, hb1⟩; obtain ⟨hc, hf⟩ := bcell hb1)
          go_ret
          exact ⟨ret_int (by rw [HE.out]; exact (bad_atP hkl HC.out (by rw [HQ.out]; exact hok')).symm), (hbl.alloc hbl.size _).trans (hb1.mono (by have := hbl.size; simp; omega))⟩
      · go_wp2
        go_ret
        exact ⟨ret_int (by rw [HE.out]; have := HC.out; rw [show k = ps.length by rw [HL.out]; omega] at this; exact (clean_allP this).symm), hbl⟩
end Go.Proofs.YtcoplbaopaigcaaGreat
namespace Go.Proofs.YtcoplbaopaigcaaGreat
open Go.RowKit
set_option maxHeartbeats 2000000 in
set_option maxRecDepth 100000 in
theorem right_any (id : Int) (A : Option Addr) (n c : Nat) (ws : List Int) (ct : Int) (w : World) (B : Nat) (hB : B ≤ w.heap.size) (hr : Reads w B 1 A n (ws.map (Value.int .i64))) (hn : n ≤ maxLen) :
    Calls Tryz.prog 90 #[.agg #[.int .i64 id, .slice A n c, .int .i64 ct]] w fun e w' => e = .returned (.bool (pOkB id n ws ct)) ∧ Below w.heap.size w w' := by
  have hn' := hn
  unfold maxLen at hn
  obtain ⟨q, hq⟩ : ∃ q, pOkB id n ws ct = q := ⟨_, rfl⟩
  rw [hq]
  have HQ := hid hq
  clear hq
  have HL := hid (show ws.length = n by have := hr.1; simpa using this)
  have HBX := hid (show ∀ o, Below w.heap.size w (w.alloc o) from fun o => (Below.refl _ _).alloc (Nat.le_refl _) o)
  by_cases h1 : win 1 1099511627776 id = true
  · by_cases h2 : win 1 40 n = true
    · by_cases h3 : win 1 9999 ct = true
      · have HG := hid (show wsOk ws = q by have := HQ.out; simpa [pOkB, h1, h2, h3] using this)
        clear HQ
        obtain ⟨W, hW⟩ : ∃ W, w.alloc (Obj.cells #[Value.int .i64 id, Value.slice A n c, Value.int .i64 ct] 107) = W := ⟨_, rfl⟩
        have c0 : W.cell? ⟨w.heap.size, 0, none⟩ = some (.int .i64 id) := by subst hW; simp [go_sem]
        have c1 : W.cell? ⟨w.heap.size, 1, none⟩ = some (.slice A n c) := by subst hW; simp [go_sem]
        have c2 : W.cell? ⟨w.heap.size, 2, none⟩ = some (.int .i64 ct) := by subst hW; simp [go_sem]
        have hrW : Reads W B 1 A n (ws.map (Value.int .i64)) := by subst hW; exact hr.alloc hB _
        have HW := hid hW
        go_enter Tryz.func90, Tryz.ntmps90
        go_wp2_with (go_at_call 115; refine (in_any _ _ _ _).mono ?_; rintro e w' ⟨rfl, rfl⟩)
        clear hW
        go_loop [3] (WsRel ws n) (fun i => n - (intOf i).toNat)
        case atStart => exact ⟨0, Nat.zero_le _, rfl, by intros; omega⟩
        case round =>
          obtain ⟨k, hk, rfl, hall⟩ := hrel
          have HA := hid hall
          clear hall
          by_cases hlt : k < n
          · have hkl : k < ws.length := by rw [HL.out]; exact hlt
            obtain ⟨ad, rfl, hc⟩ := reads_int hrW hlt hkl
            obtain ⟨y, hy⟩ : ∃ y, ws[k] = y := ⟨_, rfl⟩
            rw [hy] at hc
            have HY := hid hy
            clear hy
            by_cases g1 : win 1 9999 y = true
            · go_wp2_with (go_at_call 115; refine (in_any _ _ _ _).mono ?_; rintro e w' ⟨rfl, rfl⟩)
              go_round
              case rel =>
                refine ⟨k + 1, by omega, by go_num, fun j h hj => ?_⟩
                by_cases hjk : j = k
                · subst hjk; rw [HY.out]; exact g1
                · exact HA.out j h (by omega)
              case measure => simp [intOf]; omega
            · have g1' : win 1 9999 y = false := by simpa using g1
              go_wp2_with (go_at_call 115; refine (in_any _ _ _ _).mono ?_; rintro e w' ⟨rfl, rfl⟩)
              go_ret
              exact ⟨ret_bool (by rw [← HG.out]; exact (wsOk_no hkl (by rw [HY.out]; exact g1')).symm), by rw [← HW.out]; exact HBX.out _⟩
          · go_wp2
            go_ret
            exact ⟨ret_bool (by rw [← HG.out]; exact (wsOk_yes fun j h => HA.out j h (by rw [HL.out] at h; omega)).symm), by rw [← HW.out]; exact HBX.out _⟩
      · have h3' : win 1 9999 ct = false := by simpa using h3
        have HG := hid (show q = false by have := HQ.out; rw [← this]; simp [pOkB, h3'])
        clear HQ
        go_enter Tryz.func90, Tryz.ntmps90
        go_wp2_with (go_at_call 115; refine (in_any _ _ _ _).mono ?_; rintro e w' ⟨rfl, rfl⟩)
        go_ret
        exact ⟨ret_bool HG.out.symm, HBX.out _⟩
    · have h2' : win 1 40 n = false := by simpa using h2
      have HG := hid (show q = false by have := HQ.out; rw [← this]; simp [pOkB, h2'])
      clear HQ
      go_enter Tryz.func90, Tryz.ntmps90
      go_wp2_with (go_at_call 115; refine (in_any _ _ _ _).mono ?_; rintro e w' ⟨rfl, rfl⟩)
      go_ret
      exact ⟨ret_bool HG.out.symm, HBX.out _⟩
  · have h1' : win 1 1099511627776 id = false := by simpa using h1
    have HG := hid (show q = false by have := HQ.out; rw [← this]; simp [pOkB, h1'])
    clear HQ
    go_enter Tryz.func90, Tryz.ntmps90
    go_wp2_with (go_at_call 115; refine (in_any _ _ _ _).mono ?_; rintro e w' ⟨rfl, rfl⟩)
    go_ret
    exact ⟨ret_bool HG.out.symm, HBX.out _⟩

/-- The index of the first piece with an ID, or -1. -/
def placeR (ps : List Pc) (id : Int) : Int := ixI id (ps.map (·.id))
set_option maxHeartbeats 1000000 in
theorem place_any (A : Option Addr) (n c : Nat) (ps : List Pc) (id : Int) (w : World) (B : Nat) (hq : Ps w B A n ps) :
    Calls Tryz.prog 71 #[.slice A n c, .int .i64 id] w fun e w' => e = .returned (.int .i64 (placeR ps id)) ∧ w = w' := by
  have hn := hq.2.1
  unfold maxLen at hn
  have HL := hid (show (ps.map (·.id)).length = n by rw [List.length_map]; exact hq.1)
  go_enter Tryz.func71, Tryz.ntmps71
  go_wp2
  go_loop [5] (IxRel id (ps.map (·.id)) n) (fun i => n - (intOf i).toNat)
  case atStart => exact ⟨0, Nat.zero_le _, rfl, by intros; omega⟩
  case round =>
    obtain ⟨k, hk, rfl, hall⟩ := hrel
    have HA := hid hall
    clear hall
    by_cases hlt : k < n
    · obtain ⟨ad, p, q, rfl, hp, hqk, hfit, hat⟩ := hq.at_ hlt
      have e0 := hat.c0
      have hkl : k < (ps.map (·.id)).length := by rw [HL.out]; exact hlt
      have HY := hid (show (ps.map (·.id))[k] = q.id by
        obtain ⟨hl, he⟩ := List.getElem?_eq_some_iff.1 hqk
        rw [List.getElem_map, he])
      clear hqk hfit hat
      by_cases h1 : q.id = id
      · have h1' : (q.id == id) = true := by simpa using h1
        have HM := hid h1
        clear h1
        go_wp2
        go_ret
        exact ⟨ret_int (ixI_at hkl (HY.out.trans HM.out) HA.out).symm, rfl⟩
      · have h1' : (q.id == id) = false := by simpa using h1
        go_wp2
        go_round
        case rel =>
          refine ⟨k + 1, by omega, by go_num, fun j h hj => ?_⟩
          by_cases hjk : j = k
          · subst hjk; rw [HY.out]; exact h1
          · exact HA.out j h (by omega)
        case measure => simp [intOf]; omega
    · go_wp2
      go_ret
      exact ⟨ret_int (ixI_no fun j h => HA.out j h (by rw [HL.out] at h; omega)).symm, rfl⟩
theorem placeR_lt {ps : List Pc} {k : Nat} (hk : k < ps.length) : placeR ps ps[k].id < k ↔ ps[k].id ∈ (ps.take k).map (·.id) := by
  have hkm : k < (ps.map (·.id)).length := by simpa using hk
  have hm : ps[k].id ∈ ps.map (·.id) := List.mem_map.2 ⟨_, List.getElem_mem _, rfl⟩
  constructor
  · intro h
    unfold placeR ixI at h
    rw [if_pos hm] at h
    have hl := List.idxOf_lt_length_iff.2 hm
    have hg : (ps.map (·.id))[(ps.map (·.id)).idxOf ps[k].id] = ps[k].id := List.getElem_idxOf hl
    rw [List.getElem_map] at hg
    refine List.mem_map.2 ⟨ps[(ps.map (·.id)).idxOf ps[k].id]'(by simpa using hl), ?_, hg⟩
    rw [List.mem_take_iff_getElem]
    exact ⟨_, by simp at hl; omega, rfl⟩
  · intro h
    obtain ⟨q, hq, he⟩ := List.mem_map.1 h
    obtain ⟨j, hj, rfl⟩ := List.mem_take_iff_getElem.1 hq
    by_cases hlt : placeR ps ps[k].id < k
    · exact hlt
    · exfalso
      have hx : ∃ i : Nat, placeR ps ps[k].id = i ∧ ∀ t (ht : t < (ps.map (·.id)).length), t < i → (ps.map (·.id))[t] ≠ ps[k].id := by
        refine ⟨(ps.map (·.id)).idxOf ps[k].id, by unfold placeR ixI; rw [if_pos hm], fun t ht hti e => ?_⟩
        have := List.not_of_lt_findIdx (p := (· == ps[k].id)) (xs := ps.map (·.id)) (i := t) (by simpa [List.idxOf] using hti)
        rw [List.getElem_map] at e
        simp [e] at this
      obtain ⟨i, hi, hall⟩ := hx
      rw [hi] at hlt
      exact hall j (by simp; omega) (by omega) (by rw [List.getElem_map]; exact he)
def PkRel2 (ps : List Pc) (n : Nat) (w wr : World) (i : Value) : Prop :=
  ∃ k : Nat, k ≤ n ∧ i = .int .i64 k ∧ Below w.heap.size w wr ∧ cleanP (ps.take k)
set_option maxHeartbeats 4000000 in
set_option maxRecDepth 100000 in
theorem refCheck_any (A : Option Addr) (n c : Nat) (ps : List Pc) (w : World) (B : Nat) (hB : B ≤ w.heap.size) (hq : Ps w B A n ps) :
    Calls Tryz.prog 28 #[.slice A n c] w fun e w' => e = .returned (.int .i64 (errP ps)) ∧ Below w.heap.size w w' := by
  have hn := hq.2.1
  unfold maxLen at hn
  have HL := hid hq.1
  by_cases h40 : 24 < n
  · have HE := hid (show errP ps = 2 by unfold errP; rw [HL.out, if_pos h40])
    go_enter Tryz.func28, Tryz.ntmps28
    go_wp2
    go_ret
    exact ⟨ret_int HE.out.symm, Below.refl _ _⟩
  · have HE := hid (show errP ps = errGoP [] ps by unfold errP; rw [HL.out, if_neg h40])
    go_enter Tryz.func28, Tryz.ntmps28
    go_wp2
    go_loopw [3] (fun i wr => PkRel2 ps n w wr i) (fun i _ => n - (intOf i).toNat)
    case atStart => exact ⟨0, Nat.zero_le _, rfl, Below.refl _ _, clean_zeroP⟩
    case round =>
      obtain ⟨k, hk, rfl, hbl, hcl⟩ := hrel
      have HC := hid hcl
      clear hcl
      obtain ⟨wo, rfl⟩ : ∃ wo : World, wo = wr := ⟨_, rfl⟩
      by_cases hlt : k < n
      · obtain ⟨ad, p, q, rfl, hp, hqk, hfit, hat⟩ := (hq.below (hbl.mono hB)).at_ hlt
        have e0 := hat.c0
        have e1 := hat.c1
        have e2 := hat.c2
        have hBo : B ≤ wo.heap.size := Nat.le_trans hB hbl.size
        have hkl : k < ps.length := by rw [HL.out]; exact hlt
        have HQ := hid (show ps[k] = q by rw [List.getElem?_eq_getElem hkl] at hqk; exact Option.some.inj hqk)
        have HF := hid hfit
        have HAT := hid hat
        clear hqk hfit hat
        by_cases hok : pOkB q.id q.n q.ws q.ct = true
        · obtain ⟨pl, hpl⟩ : ∃ pl, placeR ps q.id = pl := ⟨_, rfl⟩
          have HPL := hid hpl
          have HQS := hid (show ∀ w1, Below wo.heap.size wo w1 → Calls Tryz.prog 71 #[.slice (some ad) n c, .int .i64 q.id] w1 fun e w' => e = .returned (.int .i64 pl) ∧ w1 = w' from fun w1 h1 => by
            rw [← hpl]; exact place_any (some ad) n c ps q.id w1 B ((hq.below (hbl.mono hB)).below (h1.mono hBo)))
          clear hpl
          by_cases hs : pl < (k : Int)
          · have hs' : decide (pl < (k : Int)) = true := by simpa using hs
            go_wp2_with (first
              | (go_at_call 90; refine (right_any q.id q.A q.n q.c q.ws q.ct wo B hBo HF.out.2.2.2 HF.out.1).mono ?_; rintro e w1 ⟨rfl, hb1⟩; have f0 := (HAT.out.below (hb1.mono hBo)).c0)
              | (go_at_call 71; refine (HQS.out _ hb1).mono ?_; rintro e w' ⟨rfl, rfl⟩))
            go_ret
            exact ⟨ret_int (by rw [HE.out]; exact (twice_atP hkl HC.out (by rw [HQ.out]; exact hok) ((placeR_lt hkl).1 (by rw [HQ.out, HPL.out]; exact hs))).symm), below_go hbl hb1⟩
          · have hs' : decide (pl < (k : Int)) = false := by simpa using hs
            have HS := hid hs
            clear hs
            go_wp2_with (first
              | (go_at_call 90; refine (right_any q.id q.A q.n q.c q.ws q.ct wo B hBo HF.out.2.2.2 HF.out.1).mono ?_; rintro e w1 ⟨rfl, hb1⟩; have f0 := (HAT.out.below (hb1.mono hBo)).c0)
              | (go_at_call 71; refine (HQS.out _ hb1).mono ?_; rintro e w' ⟨rfl, rfl⟩))
            go_roundw
            case rel => exact ⟨k + 1, by omega, by go_num, below_go hbl hb1, clean_atP hkl HC.out (by rw [HQ.out]; exact hok) (fun h => by have := (placeR_lt hkl).2 h; rw [HQ.out, HPL.out] at this; have := HS.out; omega)⟩
            case measure => simp [intOf]; omega
        · have hok' : pOkB q.id q.n q.ws q.ct = false := by simpa using hok
          go_wp2_with (go_at_call 90; refine (right_any q.id q.A q.n q.c q.ws q.ct wo B hBo HF.out.2.2.2 HF.out.1).mono ?_; rintro e w1 ⟨rfl, hb1⟩)
          go_ret
          exact ⟨ret_int (by rw [HE.out]; exact (bad_atP hkl HC.out (by rw [HQ.out]; exact hok')).symm), below_go hbl hb1⟩
      · go_wp2
        go_ret
        exact ⟨ret_int (by rw [HE.out]; have := HC.out; rw [show k = ps.length by rw [HL.out]; omega] at this; exact (clean_allP this).symm), hbl⟩
set_option maxHeartbeats 1000000 in
theorem few_any (A : Option Addr) (n c : Nat) (ps : List Pc) (m : Int) (w : World) (B : Nat) (hq : Ps w B A n ps) :
    Calls Tryz.prog 15 #[.slice A n c, .int .i64 m] w (RetSome w) := by
  have hn := hq.2.1
  unfold maxLen at hn
  go_enter Tryz.func15, Tryz.ntmps15
  go_wp2
  go_loop [5] (fun i => ∃ k : Nat, k ≤ n ∧ i = .int .i64 k) (fun i => n - (intOf i).toNat)
  case atStart => exact ⟨0, Nat.zero_le _, rfl⟩
  case round =>
    obtain ⟨k, hk, rfl⟩ := hrel
    by_cases hlt : k < n
    · obtain ⟨ad, p, q, rfl, hp, hqk, hfit, hat⟩ := hq.at_ hlt
      have hqn := hfit.1
      unfold maxLen at hqn
      have e1 := hat.c1
      clear hqk hfit hat
      by_cases h1 : 50 < q.n
      · have h1' : decide (50 < q.n) = true := by simpa using h1
        go_wp2
        go_ret
        exact ⟨_, rfl, rfl⟩
      · have h1' : decide (50 < q.n) = false := by simpa using h1
        go_wp2
        go_round
        case rel => exact ⟨k + 1, by omega, by go_num⟩
        case measure => simp [intOf]; omega
    · by_cases h1 : (n : Int) ≤ m
      · have h1' : decide ((n : Int) ≤ m) = true := by simpa using h1
        go_wp2
        go_ret
        exact ⟨_, rfl, rfl⟩
      · have h1' : decide ((n : Int) ≤ m) = false := by simpa using h1
        by_cases h2 : 24 < n
        · have h2' : decide (24 < n) = true := by simpa using h2
          go_wp2
          go_ret
          exact ⟨_, rfl, rfl⟩
        · have h2' : decide (24 < n) = false := by simpa using h2
          go_wp2
          go_ret
          exact ⟨_, rfl, rfl⟩
end Go.Proofs.YtcoplbaopaigcaaGreat
