/- IsOrder, and the text of pieces in an order. -/
import Derived.Test.YtcoplbaopaigcaaGreatCqL
import Derived.Test.YtcoplbaopaigcaaGreatCqM
set_option linter.all false
namespace Go.Proofs.YtcoplbaopaigcaaGreat
open Go.RowKit Go.Maps
theorem Reads.mono {w : World} {B B' size : Nat} {A : Option Addr} {n : Nat} {xs : List Value} (h : Reads w B size A n xs) (hB : B ≤ B') : Reads w B' size A n xs :=
  ⟨h.1, fun hn => by obtain ⟨ad, e, hb, hc⟩ := h.2 hn; exact ⟨ad, e, by omega, hc⟩⟩
theorem find_perm {M M' : List Tr} (hp : M.Perm M') (hn : (M.map (·.1)).Nodup) (s : Int) : (M.find? fun g => g.1 == s) = (M'.find? fun g => g.1 == s) := by
  have hn' : (M'.map (·.1)).Nodup := (hp.map _).nodup_iff.1 hn
  have uniq : ∀ (N : List Tr), (N.map (·.1)).Nodup → ∀ g ∈ N, g.1 = s → (N.find? fun g => g.1 == s) = some g := by
    intro N
    induction N with
    | nil => intro _ g hg; simp at hg
    | cons a t ih =>
      intro hN g hg he
      rw [List.map_cons, List.nodup_cons] at hN
      rcases List.mem_cons.1 hg with rfl | hg
      · rw [List.find?_cons_of_pos (by simp [he])]
      · have hne : ¬ a.1 = s := fun e => hN.1 (List.mem_map.2 ⟨g, hg, he.trans e.symm⟩)
        rw [List.find?_cons_of_neg (by simp [hne])]
        exact ih hN.2 g hg he
  cases hf : M.find? fun g => g.1 == s with
  | none =>
    symm
    rw [List.find?_eq_none] at hf ⊢
    intro x hx
    exact hf x (hp.mem_iff.2 hx)
  | some g =>
    obtain ⟨h1, h2⟩ := find_in hf
    exact (uniq M' hn' g (hp.mem_iff.1 h1) h2).symm
theorem takeS_perm : ∀ (gl : List Int) (M M' : List Tr) (prev : Option Tr), M.Perm M' → (M.map (·.1)).Nodup → (takeS M prev gl).1 = (takeS M' prev gl).1 ∧ (takeS M prev gl).2.Perm (takeS M' prev gl).2 := by
  intro gl
  induction gl with
  | nil => intro M M' prev hp _; exact ⟨rfl, hp⟩
  | cons a t ih =>
    intro M M' prev hp hn
    rw [takeS, takeS, ← find_perm hp hn a]
    cases hf : M.find? fun g => g.1 == a with
    | none => exact ⟨rfl, hp⟩
    | some g =>
      simp only
      cases hb : bad prev g with
      | true => exact ⟨rfl, hp⟩
      | false => exact ih _ _ _ (hp.filter _) (hn.sublist ((List.filter_sublist).map _))
theorem len0 (x : Nat) : ((x : Int) == 0) = decide (x = 0) := by
  by_cases h : x = 0
  · simp [h]
  · simp [h]
def orderS (ps : List Pc) (gl : List Int) : Bool := (takeS (trs ps) none gl).1 && decide (0 < gl.length) && decide ((takeS (trs ps) none gl).2.length = 0)
def isOrd (ps : List Pc) (gl : List Int) : Bool := if errP ps = 0 then orderS ps gl else false
theorem trs_ids (ps : List Pc) : (trs ps).map (·.1) = ps.map (·.id) := by
  unfold trs; rw [List.map_map]; rfl
theorem trs_length (ps : List Pc) : (trs ps).length = ps.length := by simp [trs]
set_option maxHeartbeats 8000000 in
set_option maxRecDepth 100000 in
theorem isOrder_any (A : Option Addr) (n c : Nat) (ps : List Pc) (A2 : Option Addr) (m c2 : Nat) (gl : List Int) (w : World) (B : Nat) (hB : B ≤ w.heap.size) (hq : Ps w B A n ps) (hr : Reads w B 1 A2 m (gl.map (Value.int .i64))) (hm : m ≤ maxLen)
    (hwf : ∀ z ∈ gl, -9223372036854775808 ≤ z ∧ z ≤ 9223372036854775807) :
    Calls Tryz.prog 21 #[.slice A n c, .slice A2 m c2] w fun e w' => e = .returned (.tuple #[.bool (isOrd ps gl), .int .i64 (errP ps)]) ∧ Below w.heap.size w w' := by
  have HL := hid hq.1
  have HQ := hid hq
  have HR := hid hr
  have HM := hid hm
  have HWF := hid hwf
  have HC := hid (check_any A n c ps w B hB hq)
  obtain ⟨er, her⟩ : ∃ er, errP ps = er := ⟨_, rfl⟩
  have HE := hid her
  rw [her] at HC ⊢
  clear hq hr hm hwf her
  by_cases h0 : er = 0
  · subst h0
    obtain ⟨h24, hok, hnd⟩ := errP_ok HE.out
    have HOK := hid hok
    have HND := hid hnd
    have HO := hid (show isOrd ps gl = orderS ps gl by unfold isOrd; rw [if_pos HE.out])
    rw [HO.out]
    clear hok hnd HO
    have hn24 : n ≤ 24 := by have := HL.out; omega
    have HG := hid (fun w1 (hb1 : Below w.heap.size w w1) => legsOf_any A n c ps w1 B (Nat.le_trans hB hb1.size) (HQ.out.below (hb1.mono hB)) hn24 HOK.out)
    have HT := hid (show (trs ps).length = n by rw [trs_length, HL.out])
    go_enter Tryz.func21, Tryz.ntmps21
    go_wp2_with (first
      | (go_at_call 27; refine HC.out.mono ?_; rintro e w1 ⟨rfl, hb1⟩; have HB1 := hid hb1; clear hb1)
      | (go_at_call 68; refine (HG.out _ HB1.out).mono ?_; rintro e w2 ⟨A3, c3, gs, rfl, hp, hl3, hb2⟩; rw [HT.out]; rw [HT.out] at hl3; have HP := hid hp; have HL3 := hid hl3; have HB2 := hid hb2; clear hp hl3 hb2)
      | (go_at_call 75; refine (legsByID_any A3 n c3 gs _ _ (Nat.le_refl _) HL3.out (((HP.out.map _).nodup_iff).2 (by rw [trs_ids]; exact HND.out)) (by
            intro t ht
            obtain ⟨q, hq, rfl⟩ := List.mem_map.1 (HP.out.mem_iff.1 ht)
            have := pok_parts (HOK.out q hq)
            exact ⟨this.1, this.2.1⟩) hn24).mono ?_; rintro e w3 ⟨b, rfl, hb, hm3, hb3⟩; have HM3 := hid hm3; have HB3 := hid hb3; clear hm3 hb3))
    have hw3 : w.heap.size ≤ w3.heap.size := by have := HB1.out.size; have := HB2.out.size; have := HB3.out.size; omega
    have hwb : w.heap.size ≤ b := by have := HB1.out.size; have := HB2.out.size; omega
    have HB := hid (show Below w.heap.size w w3 from (HB1.out.trans (HB2.out.mono HB1.out.size)).trans (HB3.out.mono (by have := HB1.out.size; have := HB2.out.size; omega)))
    have HTK := hid (takeRow_any A2 m c2 gl gs b n w.heap.size w3 hwb ((HR.out.below (HB.out.mono hB)).mono hB) HM.out HWF.out HM3.out)
    have hpm := takeS_perm gl gs (trs ps) none HP.out (((HP.out.map _).nodup_iff).2 (by rw [trs_ids]; exact HND.out))
    have HP1 := hid hpm.1
    have HP2 := hid hpm.2.length_eq
    clear hpm
    by_cases hr : ((takeS gs none gl).1 && decide (0 < gl.length)) = true
    · have HX := hid (show orderS ps gl = decide ((takeS gs none gl).2.length = 0) by unfold orderS; rw [← HP1.out, hr, HP2.out]; rfl)
      go_wp2_with (go_at_call 76; refine HTK.out.mono ?_; rintro e w4 ⟨rfl, hm4, hb4⟩; rw [hr]; have hlen := hm4.len 3; have HB4 := hid hb4; clear hm4 hb4)
      refine bodyPost_ret (v := .tuple #[.bool ((((takeS gs none gl).2.length : Nat) : Int) == 0), .int .i64 0]) (by simp [results, Tryz.results21, go_sem]) rfl ⟨by rw [HX.out, len0], HB.out.trans HB4.out⟩
    · have hr' : ((takeS gs none gl).1 && decide (0 < gl.length)) = false := by simpa using hr
      have HX := hid (show orderS ps gl = false by unfold orderS; rw [← HP1.out, hr']; rfl)
      go_wp2_with (go_at_call 76; refine HTK.out.mono ?_; rintro e w4 ⟨rfl, hm4, hb4⟩; rw [hr']; have HB4 := hid hb4; clear hm4 hb4)
      refine bodyPost_ret (v := .tuple #[.bool false, .int .i64 0]) (by simp [results, Tryz.results21, go_sem]) rfl ⟨by rw [HX.out], HB.out.trans HB4.out⟩
  · have HO := hid (show isOrd ps gl = false by unfold isOrd; rw [if_neg (by rw [HE.out]; exact h0)])
    rw [HO.out]
    clear HO
    go_enter Tryz.func21, Tryz.ntmps21
    go_wp2_with (go_at_call 27; refine HC.out.mono ?_; rintro e w1 ⟨rfl, hb1⟩; have HB1 := hid hb1; clear hb1)
    refine bodyPost_ret (v := .tuple #[.bool false, .int .i64 er]) (by simp [results, Tryz.results21, go_sem]) rfl ⟨rfl, HB1.out⟩
end Go.Proofs.YtcoplbaopaigcaaGreat
namespace Go.Proofs.YtcoplbaopaigcaaGreat
open Go.RowKit Go.Maps
abbrev Sl := Option Addr × Nat × Nat
def R4 : Value → Option (DataW Sl × List MemPlace)
  | .slice A n c => some (.held (A, n, c), [])
  | _ => none
theorem R4_mk (A : Option Addr) (n c : Nat) : R4 (.slice A n c) = some (.held (A, n, c), []) := rfl
theorem R4_inv {v : Value} {s : Sl} {ps : List MemPlace} (h : R4 v = some (.held s, ps)) : v = .slice s.1 s.2.1 s.2.2 := by
  unfold R4 at h
  split at h
  · simp only [Option.some.injEq, Prod.mk.injEq, DataW.held.injEq] at h
    obtain ⟨rfl, _⟩ := h; rfl
  · cases h
theorem zero25 (w : World) : (zeroValue 25).run Tryz.prog w = .ok (.slice none 0 0) w := by kernel_rfl
/-- Block b is a map of the call's own: the words of the pieces by their IDs. -/
def MapW (w : World) (b n : Nat) (M : List Pc) : Prop :=
  ∃ D : DataW Sl, w.ownsMap Tryz.prog 3 R4 b n D ∧ IsMap D ∧ ∀ q ∈ M, ∀ zd, D.atKey (.int .i64 q.id) zd = .held (q.A, q.n, q.c)
theorem MapW.made (w : World) : MapW (w.alloc (.map #[] 0)) w.heap.size 0 [] := ⟨_, World.ownsMap_made w _ _ _, isMap_empty, fun t h => by simp at h⟩
section
variable {w w' : World} {b n : Nat} {M : List Pc}
theorem MapW.lt (h : MapW w b n M) : b < w.heap.size := by obtain ⟨D, h1, _⟩ := h; exact h1.lt
theorem MapW.alloc (h : MapW w b n M) (o : Obj) : MapW (w.alloc o) b n M := by
  obtain ⟨D, h1, h2⟩ := h
  exact ⟨D, h1.alloc o, h2⟩
theorem MapW.grown {row : Option Nat} (h : MapW w b n M) (hg : w.grownBy w' row) (hr : some b ≠ row) : MapW w' b n M := by
  obtain ⟨D, ⟨es, clock, hh, r⟩, h2⟩ := h
  exact ⟨D, ⟨es, clock, (hg.block b (by
    rcases Nat.lt_or_ge b w.heap.size with h' | h'
    · exact h'
    · rw [Array.getElem?_eq_none h'] at hh; cases hh) hr).trans hh, r⟩, h2⟩
theorem MapW.look (h : MapW w b n M) {q : Pc} (hq : q ∈ M) (hs : (Lit.int .i64 q.id).wf = true) :
    (Instr.lookup 163 (.map (some b)) (.int .i64 q.id) false).run Tryz.prog w = .ok (.slice q.A q.n q.c) w := by
  obtain ⟨D, h1, _, h5⟩ := h
  obtain ⟨v, ps, hrun, hv⟩ := h1.lookup intK Tryz.underlying163 (zero25 w) (R4_mk _ _ _) (keyOf_int_mk Tryz.underlying3 hs)
  rw [h5 q hq] at hv
  rw [hrun, R4_inv hv]
theorem MapW.put (h : MapW w b n M) (hn : n < maxLen) {q : Pc} (hf : ∀ u ∈ M, u.id ≠ q.id) (hs : (Lit.int .i64 q.id).wf = true) :
    ∃ w', (Instr.mapUpdate 163 (.map (some b)) (.int .i64 q.id) (.slice q.A q.n q.c)).run Tryz.prog w = .ok () w' ∧ MapW w' b (n + 1) (M ++ [q]) ∧ w.grownBy w' (some b) := by
  obtain ⟨D, h1, hm, h5⟩ := h
  obtain ⟨w', hrun, h6, h7⟩ := h1.update intK Tryz.underlying163 hn (keyOf_int_mk Tryz.underlying3 hs) (R4_mk q.A q.n q.c)
  refine ⟨w', hrun, ⟨_, h6, hm.put _ _, fun u hu zd => ?_⟩, h7⟩
  rcases List.mem_append.1 hu with hu | hu
  · rw [atKey_put_other (fun e => hf u hu (by injection e)), h5 u hu]
  · have : u = q := by simpa using hu
    subst this
    rw [atKey_put_same hm (by show True; trivial)]
end
def wordsOf (ps : List Pc) (id : Int) : List Int := ((ps.find? fun q => q.id == id).map (·.ws)).getD []
def textS (ps : List Pc) (gl : List Int) : List Int := gl.flatMap (wordsOf ps)
def textR (ps : List Pc) (gl : List Int) : List Int := if isOrd ps gl = true then textS ps gl else []
def textE (ps : List Pc) (gl : List Int) : Int := if errP ps = 0 then (if isOrd ps gl = true then 0 else 1) else errP ps
theorem takeS_ids : ∀ (gl : List Int) (M : List Tr) (prev : Option Tr), (M.map (·.1)).Nodup → (takeS M prev gl).1 = true → (∀ z ∈ gl, hasId M z = true) ∧ gl.length + (takeS M prev gl).2.length = M.length := by
  intro gl
  induction gl with
  | nil => intro M prev _ _; exact ⟨by simp, by simp [takeS]⟩
  | cons a t ih =>
    intro M prev hn h
    rw [takeS] at h ⊢
    cases hf : M.find? fun g => g.1 == a with
    | none => rw [hf] at h; simp at h
    | some g =>
      rw [hf] at h
      simp only at h ⊢
      cases hb : bad prev g with
      | true => rw [hb] at h; simp at h
      | false =>
        rw [hb] at h
        simp only [Bool.false_eq_true, if_false] at h ⊢
        obtain ⟨h1, h2⟩ := find_in hf
        obtain ⟨i1, i2⟩ := ih _ _ (hn.sublist ((List.filter_sublist).map _)) h
        have hl := length_drop_id M a hn
        rw [hasId_mem.2 ⟨g, h1, h2⟩] at hl
        refine ⟨?_, ?_⟩
        · intro z hz
          rcases List.mem_cons.1 hz with rfl | hz
          · exact hasId_mem.2 ⟨g, h1, h2⟩
          · obtain ⟨u, hu, e⟩ := hasId_mem.1 (i1 z hz)
            exact hasId_mem.2 ⟨u, (List.mem_filter.1 hu).1, e⟩
        · simp only [List.length_cons, if_true] at hl ⊢; omega
theorem isOrd_ids {ps : List Pc} {gl : List Int} (h : isOrd ps gl = true) : errP ps = 0 ∧ gl.length = ps.length ∧ ∀ z ∈ gl, ∃ q ∈ ps, q.id = z := by
  unfold isOrd at h
  by_cases he : errP ps = 0
  · rw [if_pos he] at h
    unfold orderS at h
    simp only [Bool.and_eq_true, decide_eq_true_eq] at h
    obtain ⟨⟨h1, _⟩, h3⟩ := h
    obtain ⟨_, _, hnd⟩ := errP_ok he
    obtain ⟨i1, i2⟩ := takeS_ids gl (trs ps) none (by rw [trs_ids]; exact hnd) h1
    rw [h3, trs_length] at i2
    refine ⟨he, by omega, fun z hz => ?_⟩
    obtain ⟨u, hu, e⟩ := hasId_mem.1 (i1 z hz)
    obtain ⟨q, hq, rfl⟩ := List.mem_map.1 hu
    exact ⟨q, hq, e⟩
  · rw [if_neg he] at h; cases h
end Go.Proofs.YtcoplbaopaigcaaGreat
namespace Go.Proofs.YtcoplbaopaigcaaGreat
open Go.RowKit Go.Maps
theorem info3' : (Tryz.prog.info? 3).map (fun i => (i.zero, i.size, i.bytes)) = some (some (.int .i64 0), 1, 8) := by kernel_rfl
theorem wordsOf_at {ps : List Pc} (hn : (ps.map (·.id)).Nodup) {q : Pc} (hq : q ∈ ps) : wordsOf ps q.id = q.ws := by
  unfold wordsOf
  induction ps with
  | nil => simp at hq
  | cons a t ih =>
    rw [List.map_cons, List.nodup_cons] at hn
    rcases List.mem_cons.1 hq with rfl | hq
    · rw [List.find?_cons_of_pos (by simp)]; rfl
    · have hne : ¬ a.id = q.id := fun e => hn.1 (List.mem_map.2 ⟨q, hq, e.symm⟩)
      rw [List.find?_cons_of_neg (by simp [hne])]
      exact ih hn.2 hq
theorem textS_succ {ps : List Pc} {gl : List Int} {k : Nat} (hk : k < gl.length) : textS ps (gl.take (k + 1)) = textS ps (gl.take k) ++ wordsOf ps gl[k] := by
  unfold textS; rw [← List.take_append_getElem hk, List.flatMap_append]; simp
theorem textS_length {ps : List Pc} (h : ∀ z, (wordsOf ps z).length ≤ 40) : ∀ gl : List Int, (textS ps gl).length ≤ 40 * gl.length := by
  intro gl
  induction gl with
  | nil => simp [textS]
  | cons a t ih => have := h a; simp only [textS, List.flatMap_cons, List.length_append, List.length_cons] at *; omega
theorem wordsOf_le {w : World} {B : Nat} {ps : List Pc} (h : ∀ q ∈ ps, q.okB = true ∧ q.fit w B) (z : Int) : (wordsOf ps z).length ≤ 40 := by
  unfold wordsOf
  cases hf : ps.find? fun q => q.id == z with
  | none => simp
  | some q =>
    obtain ⟨h1, h2⟩ := h q (List.mem_of_find?_eq_some hf)
    have h3 := (pok_parts h1).2.2.2.1
    have h4 := h2.2.2.2.1
    simp at h4 ⊢; omega
theorem own_map_ne {w : World} {base b n m size : Nat} {e : TypeId} {v : Value} {xs : List Value} {M : List Pc} (h : w.ownsRow base e size v m xs) (hm : MapW w b n M) : some b ≠ v.ownBlock := by
  obtain ⟨D, ⟨es, clock, hh, _⟩, _⟩ := hm
  rcases h.2 with ⟨rfl, _⟩ | ⟨g, cap, cur, rfl, _, hg, _⟩
  · simp [Value.ownBlock]
  · intro e
    have : b = g := by simpa [Value.ownBlock] using e
    subst this
    rw [hg] at hh; cases hh
def T1Rel (ps : List Pc) (n : Nat) (w : World) (bm : Nat) (wr : World) (i : Value) : Prop :=
  ∃ k : Nat, k ≤ n ∧ i = .int .i64 k ∧ Below w.heap.size w wr ∧ MapW wr bm k (ps.take k)
def T2Rel (ps : List Pc) (gl : List Int) (n m : Nat) (w : World) (bm : Nat) (wr : World) (v i : Value) : Prop :=
  ∃ k : Nat, k ≤ m ∧ i = .int .i64 k ∧ Below w.heap.size w wr ∧ MapW wr bm n ps ∧ wr.ownsRow w.heap.size 3 1 v (textS ps (gl.take k)).length ((textS ps (gl.take k)).map (Value.int .i64))
def RetI (xs : List Int) (er : Int) (w : World) (e : Ending) (w' : World) : Prop := ∃ v, e = .returned (.tuple #[v, .int .i64 er]) ∧ w'.ownsRow w.heap.size 3 1 v xs.length (xs.map (Value.int .i64)) ∧ Below w.heap.size w w'
set_option maxHeartbeats 8000000 in
set_option maxRecDepth 100000 in
theorem text_any (A : Option Addr) (n c : Nat) (ps : List Pc) (A2 : Option Addr) (m c2 : Nat) (gl : List Int) (w : World) (B : Nat) (hB : B ≤ w.heap.size) (hq : Ps w B A n ps) (hr : Reads w B 1 A2 m (gl.map (Value.int .i64))) (hm : m ≤ maxLen)
    (hwf : ∀ z ∈ gl, -9223372036854775808 ≤ z ∧ z ≤ 9223372036854775807) :
    Calls Tryz.prog 48 #[.slice A n c, .slice A2 m c2] w (RetI (textR ps gl) (textE ps gl) w) := by
  have HL := hid hq.1
  have HQ := hid hq
  have HR := hid hr
  have HGL := hid (show gl.length = m by have := hr.1; simpa using this)
  have HC := hid (isOrder_any A n c ps A2 m c2 gl w B hB hq hr hm hwf)
  obtain ⟨er, her⟩ : ∃ er, errP ps = er := ⟨_, rfl⟩
  obtain ⟨bo, hbo⟩ : ∃ bo, isOrd ps gl = bo := ⟨_, rfl⟩
  have HE := hid her
  have HO := hid hbo
  rw [her, hbo] at HC
  clear hq hr hm hwf her hbo
  by_cases h0 : er = 0
  · subst h0
    cases bo with
    | false =>
      have HX := hid (show textR ps gl = [] ∧ textE ps gl = 1 by unfold textR textE; rw [HO.out, HE.out]; exact ⟨rfl, rfl⟩)
      rw [HX.out.1, HX.out.2]
      go_enter Tryz.func48, Tryz.ntmps48
      go_wp2_with (go_at_call 21; refine HC.out.mono ?_; rintro e w1 ⟨rfl, hb1⟩; have HB1 := hid hb1; clear hb1)
      refine bodyPost_ret (v := .tuple #[.slice none 0 0, .int .i64 1]) (by simp [results, Tryz.results48, go_sem]) rfl ⟨_, rfl, World.ownsRow_nil _ _ _ _, HB1.out⟩
    | true =>
      have HX := hid (show textR ps gl = textS ps gl ∧ textE ps gl = 0 by unfold textR textE; rw [HO.out, HE.out]; exact ⟨rfl, rfl⟩)
      rw [HX.out.1, HX.out.2]
      obtain ⟨h24, hok, hnd⟩ := errP_ok HE.out
      have HOK := hid hok
      have HND := hid hnd
      have hids := isOrd_ids HO.out
      have HIN := hid hids.2.2
      have hm24 : m ≤ 24 := by have := hids.2.1; have := HGL.out; omega
      have HM := hid (textS_length (ps := ps) (wordsOf_le (w := w) (B := B) fun q h => ⟨HOK.out q h, HQ.out.2.2.1 q h⟩))
      have hn24 : n ≤ 24 := by have := HL.out; omega
      clear hok hnd hids
      obtain ⟨i0, hi0, hz0, hz1, hz2⟩ := info_parts info3'
      have hmm := @run_makeMap Tryz.prog
      go_enter Tryz.func48, Tryz.ntmps48
      go_wp2_with (go_at_call 21; refine HC.out.mono ?_; rintro e w1 ⟨rfl, hb1⟩; have HB1 := hid hb1; clear hb1)
      have hs1 := HB1.out.size
      go_loopw [28] (fun i wr => T1Rel ps n w w1.heap.size wr i) (fun i _ => n - (intOf i).toNat)
      case atStart => exact ⟨0, Nat.zero_le _, rfl, HB1.out.alloc hs1 _, MapW.made w1⟩
      case round =>
        obtain ⟨k, hk, rfl, hbl, hset⟩ := hrel
        have HS := hid hset
        clear hset
        obtain ⟨wo, rfl⟩ : ∃ wo : World, wo = wr := ⟨_, rfl⟩
        by_cases hlt : k < n
        · obtain ⟨ad, p, q, rfl, hp, hqk, hfit, hat⟩ := (HQ.out.below (hbl.mono hB)).at_ hlt
          have e0 := hat.c0
          have e1 := hat.c1
          have e2 := hat.c2
          have hBo : B ≤ wo.heap.size := Nat.le_trans hB hbl.size
          have hkl : k < ps.length := by rw [HL.out]; exact hlt
          have HQK := hid (show ps[k] = q by rw [List.getElem?_eq_getElem hkl] at hqk; exact Option.some.inj hqk)
          have HW := hid (wf_of (z := q.id) ⟨hfit.2.1, hfit.2.2.1⟩)
          have HF := hid (show ∀ u ∈ ps.take k, u.id ≠ q.id by
            intro u hu e
            obtain ⟨j, hj, rfl⟩ := List.getElem_of_mem hu
            have hjk : j < k := by simp at hj; omega
            have := List.pairwise_iff_getElem.1 HND.out j k (by simp; omega) (by simpa using hkl) hjk
            rw [← HQK.out] at e
            simp at this e
            exact this e)
          clear hqk hfit
          obtain ⟨w2, hup, hset2, hg2⟩ := (HS.out.alloc (Obj.cells #[Value.int IntKind.i64 q.id, Value.slice q.A q.n q.c, Value.int IntKind.i64 q.ct] 107)).put (q := q) (by unfold maxLen; omega) HF.out HW.out
          have HS2 := hid hset2
          have HG2 := hid hg2
          clear hset2 hg2
          go_wp2
          go_roundw
          case rel =>
            refine ⟨k + 1, by omega, by go_num, ?_, ?_⟩
            · exact (hbl.alloc hbl.size _).grown HG2.out (by have := hbl.size; simp; omega) (fun g hg => by cases hg; exact hs1)
            · rw [← List.take_append_getElem hkl, HQK.out]; exact HS2.out
          case measure => simp [intOf]; omega
        · have HX1 := hid (show k = n by omega)
          go_wp2
          go_loopw [11, 40] (fun v i wr => T2Rel ps gl n m w w1.heap.size wr v i) (fun _ i _ => m - (intOf i).toNat)
          case atStart => exact ⟨0, Nat.zero_le _, rfl, hbl, by have := HS.out; rwa [show ps.take k = ps by rw [HX1.out, ← HL.out]; simp, HX1.out] at this, World.ownsRow_nil _ _ _ _⟩
          case round =>
            obtain ⟨k2, hk2, rfl, hb2, hmw, hown⟩ := hrel
            have HMW := hid hmw
            have HOW := hid hown
            clear hmw hown
            obtain ⟨wv, rfl⟩ : ∃ wv : World, wv = wr := ⟨_, rfl⟩
            by_cases hlt2 : k2 < m
            · have hkl2 : k2 < gl.length := by rw [HGL.out]; exact hlt2
              obtain ⟨ad, rfl, hc⟩ := reads_int (HR.out.below (hb2.mono hB)) hlt2 hkl2
              obtain ⟨q, hqm, hqz⟩ := HIN.out gl[k2] (List.getElem_mem _)
              rw [← hqz] at hc
              have hfit := (HQ.out.below (hb2.mono hB)).2.2.1 q hqm
              have HW := hid (wf_of (z := q.id) ⟨hfit.2.1, hfit.2.2.1⟩)
              have hlk := HMW.out.look hqm HW.out
              have hpp := pok_parts (HOK.out q hqm)
              obtain ⟨hn1, hn2⟩ : 1 ≤ q.n ∧ q.n ≤ 40 := ⟨hpp.2.2.1, hpp.2.2.2.1⟩
              have hrw := hfit.2.2.2
              obtain ⟨adw, hA, hab, hcw⟩ := hrw.2 (by omega)
              have hwl : (q.ws.map (Value.int .i64)).length = q.n * 1 := hrw.1
              have HCW := hid hcw
              have HWL := hid hwl
              have HQZ := hid hqz
              have htl := HM.out (gl.take k2)
              have htk : (gl.take k2).length = k2 := by simp; omega
              have hWO := hid (wordsOf_at HND.out hqm)
              rw [hA] at hlk
              clear hfit hpp hrw hcw hwl hqz hA
              go_wp2_with (at_builtin; refine wpList_append_own _ rfl (.tmp 44) (.tmp 47) 25 rfl w.heap.size 3 i0 _ 1 8 Tryz.underlying25 hi0 hz0 hz1 hz2 rfl (by decide) u11 _ _ rfl HOW.out adw q.n q.c (q.ws.map (Value.int .i64)) rfl HWL.out HCW.out (by intro u hu; obtain ⟨z, _, rfl⟩ := List.mem_map.1 hu; rfl) (by unfold maxLen; omega) (by omega) hb2.size ?_; intro v1 w2 hown2 hg2 _hz; have HO2 := hid hown2; have HG2 := hid hg2; clear hown2 hg2 _hz)
              go_roundw
              case rel =>
                refine ⟨k2 + 1, by omega, by go_num, hb2.grown HG2.out hb2.size (fun g hg => (HOW.out.lt g hg).1), HMW.out.grown HG2.out (own_map_ne HOW.out HMW.out), ?_⟩
                have e : textS ps (gl.take (k2 + 1)) = textS ps (gl.take k2) ++ q.ws := by rw [textS_succ hkl2, ← HQZ.out, hWO.out]
                have el : q.ws.length = q.n := by have := HWL.out; simpa using this
                rw [e, List.map_append, List.length_append, el]
                exact HO2.out
              case measure => simp [intOf]; omega
            · have HX2 := hid (show k2 = m by omega)
              go_wp2
              refine bodyPost_ret (v := .tuple #[u11, .int .i64 0]) (by simp [results, Tryz.results48, go_sem]) rfl ⟨_, rfl, ?_, hb2⟩
              have e : gl.take k2 = gl := by rw [HX2.out, ← HGL.out]; simp
              have := HOW.out
              rwa [e] at this
  · have HX := hid (show textR ps gl = [] ∧ textE ps gl = er by
      have : isOrd ps gl = false := by unfold isOrd; rw [if_neg (by rw [HE.out]; exact h0)]
      unfold textR textE; rw [this, HE.out, if_neg h0]; exact ⟨rfl, rfl⟩)
    have hbf : bo = false := by rw [← HO.out]; unfold isOrd; rw [if_neg (by rw [HE.out]; exact h0)]
    subst hbf
    rw [HX.out.1, HX.out.2]
    go_enter Tryz.func48, Tryz.ntmps48
    go_wp2_with (go_at_call 21; refine HC.out.mono ?_; rintro e w1 ⟨rfl, hb1⟩; have HB1 := hid hb1; clear hb1)
    refine bodyPost_ret (v := .tuple #[.slice none 0 0, .int .i64 er]) (by simp [results, Tryz.results48, go_sem]) rfl ⟨_, rfl, World.ownsRow_nil _ _ _ _, HB1.out⟩
end Go.Proofs.YtcoplbaopaigcaaGreat
