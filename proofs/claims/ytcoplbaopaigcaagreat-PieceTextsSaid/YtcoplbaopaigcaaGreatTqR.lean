/- Rows of pieces by the specification. -/
import Derived.Test.YtcoplbaopaigcaaGreatCqQ
set_option linter.all false
namespace Go.Proofs.YtcoplbaopaigcaaGreat
open Go.RowKit
set_option maxHeartbeats 2000000 in
set_option maxRecDepth 100000 in
theorem refFollows_any (A : Option Addr) (n c : Nat) (ps : List Pc) (a b : Nat) (p q : Pc) (w : World) (B : Nat) (hq : Ps w B A n ps) (ha : a < n) (hb : b < n) (hpa : ps[a]? = some p) (hqb : ps[b]? = some q) (hok : q.okB = true) :
    Calls Tryz.prog 72 #[.slice A n c, .int .i64 a, .int .i64 b] w fun e w' => e = .returned (.bool (!decide (a = b) && decide (p.ct = q.ws.headD 0))) ∧ ∃ d, w' = w.drewN d := by
  obtain ⟨ad, pa, p', rfl, hp1, hp2, _, hat⟩ := hq.at_ ha
  obtain ⟨ad', pb, q', had, hp3, hp4, hfit, hbt⟩ := hq.at_ hb
  cases had
  obtain rfl : p' = p := by rw [hpa] at hp2; exact (Option.some.inj hp2).symm
  obtain rfl : q' = q := by rw [hqb] at hp4; exact (Option.some.inj hp4).symm
  have hpp := pok_parts hok
  obtain ⟨hn1, hn2⟩ : 1 ≤ q'.n ∧ q'.n ≤ 40 := ⟨hpp.2.2.1, hpp.2.2.2.1⟩
  have hr := hfit.2.2.2
  have hql : q'.ws.length = q'.n := by have := hr.1; simpa using this
  have hw0 : 0 < q'.ws.length := by omega
  obtain ⟨adw, hA, hcw⟩ := reads_int (k := 0) hr (by omega) hw0
  rw [add0, head_get hw0] at hcw
  obtain ⟨y, hy⟩ : ∃ y, q'.ws.headD 0 = y := ⟨_, rfl⟩
  rw [hy] at hcw
  have e2 := hat.c2
  have f1 := hbt.c1
  rw [hA] at f1
  obtain ⟨qn, hqn⟩ : ∃ m, q'.n = m := ⟨_, rfl⟩
  rw [hqn] at f1 hn1
  rw [hy]
  have hq0 : 0 < qn := by omega
  clear hy hqn hql hw0 hA hr hpp hok hfit hpa hqb hp2 hp4 hn2 hq hat hbt
  by_cases hab : a = b
  · subst hab
    go_enter Tryz.func72, Tryz.ntmps72
    go_wp2
    go_quiet (fail)
    go_wp2
    go_ret
    exact ⟨by simp, _, rfl⟩
  · have hab' : ¬ (a : Int) = b := by omega
    by_cases hct : p'.ct = y
    · go_enter Tryz.func72, Tryz.ntmps72
      go_wp2
      go_quiet (fail)
      go_wp2
      go_ret
      exact ⟨by simp [hab, hct]; try exact hab', _, rfl⟩
    · go_enter Tryz.func72, Tryz.ntmps72
      go_wp2
      go_quiet (fail)
      go_wp2
      go_ret
      exact ⟨by simp [hab, hct]; try exact hab', _, rfl⟩
end Go.Proofs.YtcoplbaopaigcaaGreat
namespace Go.Proofs.YtcoplbaopaigcaaGreat
open Go.RowKit
theorem find_uniq : ∀ {N : List Tr}, (N.map (·.1)).Nodup → ∀ {g : Tr}, g ∈ N → ∀ {s : Int}, g.1 = s → (N.find? fun g => g.1 == s) = some g := by
  intro N
  induction N with
  | nil => intro _ g hg; simp at hg
  | cons a t ih =>
    intro hN g hg s he
    rw [List.map_cons, List.nodup_cons] at hN
    rcases List.mem_cons.1 hg with rfl | hg
    · rw [List.find?_cons_of_pos (by simp [he])]
    · have hne : ¬ a.1 = s := fun e => hN.1 (List.mem_map.2 ⟨g, hg, he.trans e.symm⟩)
      rw [List.find?_cons_of_neg (by simp [hne])]
      exact ih hN.2 hg he
/-- What is left of the legs behind some IDs. -/
def lessIds (T : List Tr) (S : List Int) : List Tr := T.filter fun t => !S.contains t.1
/-- The loop of the specification's row stands at k. -/
structure RowAt (T : List Tr) (gl : List Int) (k : Nat) (prev : Option Tr) : Prop where
  zero : k = 0 → prev = none
  pos : 0 < k → ∃ p ∈ T, prev = some p ∧ gl[k - 1]? = some p.1
  take : takeS T none gl = takeS (lessIds T (gl.take k)) prev (gl.drop k)
theorem rowAt_start (T : List Tr) (gl : List Int) : RowAt T gl 0 none :=
  ⟨fun _ => rfl, by omega, by simp [lessIds, List.filter_eq_self.2]⟩
theorem mem_less {T : List Tr} {S : List Int} {g : Tr} : g ∈ lessIds T S ↔ g ∈ T ∧ g.1 ∉ S := by
  unfold lessIds; simp [List.mem_filter]
theorem row_none {T : List Tr} {gl : List Int} {k : Nat} {prev : Option Tr} (h : RowAt T gl k prev) (hk : k < gl.length) (hn : ∀ g ∈ T, g.1 = gl[k] → gl[k] ∈ gl.take k) : (takeS T none gl).1 = false := by
  have : ((lessIds T (gl.take k)).find? fun g => g.1 == gl[k]) = none := by
    rw [List.find?_eq_none]
    intro g hg e
    have hg := mem_less.1 hg
    have e : g.1 = gl[k] := by simpa using e
    exact hg.2 (e ▸ hn g hg.1 e)
  rw [h.take, takeS_none hk this]
theorem row_find {T : List Tr} (hT : (T.map (·.1)).Nodup) {gl : List Int} {k : Nat} (hk : k < gl.length) {g : Tr} (hg : g ∈ T) (he : g.1 = gl[k]) (hf : gl[k] ∉ gl.take k) : ((lessIds T (gl.take k)).find? fun g => g.1 == gl[k]) = some g :=
  find_uniq (hT.sublist ((List.filter_sublist).map _)) (mem_less.2 ⟨hg, he ▸ hf⟩) he
theorem row_bad {T : List Tr} (hT : (T.map (·.1)).Nodup) {gl : List Int} {k : Nat} {prev : Option Tr} (h : RowAt T gl k prev) (hk : k < gl.length) {g : Tr} (hg : g ∈ T) (he : g.1 = gl[k]) (hf : gl[k] ∉ gl.take k) (hb : bad prev g = true) : (takeS T none gl).1 = false := by
  rw [h.take, takeS_bad hk (row_find hT hk hg he hf) hb]
theorem row_next {T : List Tr} (hT : (T.map (·.1)).Nodup) {gl : List Int} {k : Nat} {prev : Option Tr} (h : RowAt T gl k prev) (hk : k < gl.length) {g : Tr} (hg : g ∈ T) (he : g.1 = gl[k]) (hf : gl[k] ∉ gl.take k) (hb : bad prev g = false) : RowAt T gl (k + 1) (some g) := by
  refine ⟨by omega, fun _ => ⟨g, hg, rfl, ?_⟩, ?_⟩
  · simp [List.getElem?_eq_getElem hk, he]
  · rw [h.take, takeS_next hk (row_find hT hk hg he hf) hb]
    congr 1
    unfold lessIds
    rw [List.filter_filter, ← List.take_append_getElem hk]
    generalize gl.take k = S
    apply List.filter_congr
    intro t _
    by_cases h1 : t.1 = gl[k] <;> by_cases h2 : t.1 ∈ S <;> simp [h1, h2]
theorem row_end {T : List Tr} {gl : List Int} {prev : Option Tr} (h : RowAt T gl gl.length prev) : (takeS T none gl).1 = true := by
  rw [h.take, List.drop_length]; rfl
theorem uniq_tr {T : List Tr} (hT : (T.map (·.1)).Nodup) {x y : Tr} (hx : x ∈ T) (hy : y ∈ T) (h : x.1 = y.1) : x = y :=
  Option.some.inj ((find_uniq hT hx rfl).symm.trans (find_uniq hT hy h.symm))
theorem placeR_cases (ps : List Pc) (z : Int) : (placeR ps z = -1 ∧ ∀ q ∈ ps, q.id ≠ z) ∨ ∃ (a : Nat) (q : Pc), placeR ps z = a ∧ ps[a]? = some q ∧ q.id = z := by
  unfold placeR ixI
  by_cases h : z ∈ ps.map (·.id)
  · right
    have hl := List.idxOf_lt_length_iff.2 h
    have hg : (ps.map (·.id))[(ps.map (·.id)).idxOf z] = z := List.getElem_idxOf hl
    rw [List.getElem_map] at hg
    rw [if_pos h]
    exact ⟨_, _, rfl, List.getElem?_eq_getElem (by simpa using hl), hg⟩
  · left
    rw [if_neg h]
    exact ⟨rfl, fun q hq e => h (List.mem_map.2 ⟨q, hq, e⟩)⟩
theorem tr_mem {ps : List Pc} {q : Pc} (h : q ∈ ps) : q.tr ∈ trs ps := List.mem_map.2 ⟨q, h, rfl⟩
theorem mem_trs {ps : List Pc} {t : Tr} (h : t ∈ trs ps) : ∃ q ∈ ps, q.tr = t := List.mem_map.1 h
def RetB (b : Bool) (w : World) (e : Ending) (w' : World) : Prop := e = .returned (.bool b) ∧ ∃ d, w' = w.drewN d
section
variable {a b : Bool} {w : World} {d d2 d3 : Nat}
theorem retB0 (h : a = b) : RetB b w (.returned (.bool a)) w := ⟨by rw [h], 0, rfl⟩
theorem retB1 (h : a = b) : RetB b w (.returned (.bool a)) (w.drewN d) := ⟨by rw [h], _, rfl⟩
theorem retB2 (h : a = b) : RetB b w (.returned (.bool a)) ((w.drewN d).drewN d2) := ⟨by rw [h], _, drew2 _ _ _⟩
theorem retB3 (h : a = b) : RetB b w (.returned (.bool a)) (((w.drewN d).drewN d2).drewN d3) := ⟨by rw [h], _, by rw [drew2, drew2]⟩
end
def RwRel (T : List Tr) (gl : List Int) (m : Nat) (w wr : World) (i : Value) : Prop :=
  ∃ (k d : Nat) (prev : Option Tr), k ≤ m ∧ i = .int .i64 k ∧ wr = w.drewN d ∧ RowAt T gl k prev
def RwIn (gl : List Int) (k : Nat) (z : Int) (w wr : World) (i : Value) : Prop :=
  ∃ j d : Nat, j ≤ k ∧ i = .int .i64 j ∧ wr = w.drewN d ∧ ∀ t (h : t < gl.length), t < j → gl[t] ≠ z
theorem rw_next {T : List Tr} {gl : List Int} {m k d : Nat} {g : Tr} {w : World} (h : RowAt T gl (k + 1) (some g)) (hk : k < m) : RwRel T gl m w (w.drewN d) (.int .i64 ((k : Int) + 1)) := ⟨k + 1, _, _, by omega, by go_num, rfl, h⟩
theorem notin_take {gl : List Int} {k : Nat} {z : Int} (hk : k ≤ gl.length) (h : ∀ t (h : t < gl.length), t < k → gl[t] ≠ z) : z ∉ gl.take k := by
  intro hm
  obtain ⟨j, hj, e⟩ := List.mem_take_iff_getElem.1 hm
  exact h j (by omega) (by omega) e
theorem in_take {gl : List Int} {j k : Nat} {z : Int} (hj : j < gl.length) (hjk : j < k) (e : gl[j] = z) : z ∈ gl.take k := by
  rw [List.mem_take_iff_getElem]
  exact ⟨j, by omega, e⟩
set_option maxHeartbeats 8000000 in
set_option maxRecDepth 100000 in
theorem refRow_any (A : Option Addr) (n c : Nat) (ps : List Pc) (A2 : Option Addr) (m c2 : Nat) (gl : List Int) (w : World) (B : Nat) (hq : Ps w B A n ps) (hok : ∀ q ∈ ps, q.okB = true) (hnd : (ps.map (·.id)).Nodup)
    (hr : Reads w B 1 A2 m (gl.map (Value.int .i64))) (hm : m ≤ maxLen) :
    Calls Tryz.prog 77 #[.slice A n c, .slice A2 m c2] w (RetB ((takeS (trs ps) none gl).1 && decide (0 < gl.length)) w) := by
  have HL := hid hq.1
  have HL2 := hid (show gl.length = m by have := hr.1; simpa using this)
  have HOK := hid hok
  have HT := hid (show ((trs ps).map (·.1)).Nodup by rw [trs_ids]; exact hnd)
  have hn := hq.2.1
  have HQ := hid hq
  have HR := hid hr
  unfold maxLen at hm hn
  obtain ⟨res, hres⟩ : ∃ b, ((takeS (trs ps) none gl).1 && decide (0 < gl.length)) = b := ⟨_, rfl⟩
  rw [hres]
  have HRES := hid hres
  clear hok hnd hres hq
  have HPC := hid (fun (z : Int) (w' : World) (h : ∀ p : Addr, w'.cell? p = w.cell? p) => place_any A n c ps z w' B (HQ.out.keep fun p _ => h p))
  have HFC := hid (fun (a b : Nat) (p q : Pc) (w' : World) (h : ∀ p : Addr, w'.cell? p = w.cell? p) => refFollows_any A n c ps a b p q w' B (HQ.out.keep fun p _ => h p))
  go_enter Tryz.func77, Tryz.ntmps77
  go_wp2
  go_loopw [5] (fun i wr => RwRel (trs ps) gl m w wr i) (fun i _ => m - (intOf i).toNat)
  case atStart => exact ⟨0, 0, none, Nat.zero_le _, rfl, rfl, rowAt_start _ _⟩
  case round =>
    obtain ⟨k, d, prev, hk, rfl, rfl, hrow⟩ := hrel
    have HROW := hid hrow
    clear hrow
    by_cases hlt : k < m
    · have hkl : k < gl.length := by rw [HL2.out]; exact hlt
      obtain ⟨ad, rfl, hc⟩ := reads_int HR.out hlt hkl
      obtain ⟨z, hz⟩ : ∃ z, gl[k] = z := ⟨_, rfl⟩
      rw [hz] at hc
      have HZ := hid hz
      clear hz
      rcases placeR_cases ps z with ⟨hp, hno⟩ | ⟨a, q, hp, hqa, hqz⟩
      · have HP1 := hid hp
        have HF := hid (show res = false by
          rw [← HRES.out, row_none HROW.out hkl (by
            intro g hg e
            obtain ⟨q, hq, rfl⟩ := mem_trs hg
            exact absurd (e.trans HZ.out) (hno q hq))]; rfl)
        clear hp hno
        go_wp2_with (go_at_call 71; refine (HPC.out z _ (by intro _; rfl)).mono ?_; rintro e w' ⟨rfl, rfl⟩; rw [HP1.out])
        go_ret
        first | exact retB1 HF.out.symm | exact retB2 HF.out.symm
      · have HP1 := hid hp
        have HQA := hid hqa
        have HQZ := hid hqz
        have hqm := List.mem_of_getElem? hqa
        have HQT := hid (tr_mem hqm)
        have HQOK := hid (HOK.out q hqm)
        have han : a < n := by
          have := (List.getElem?_eq_some_iff.1 hqa).1
          rw [HL.out] at this; exact this
        clear hp hqa hqz hqm
        go_wp2_with (go_at_call 71; refine (HPC.out z _ (by intro _; rfl)).mono ?_; rintro e w' ⟨rfl, rfl⟩; rw [HP1.out])
        go_loopw [7] (fun i wr => RwIn gl k z w wr i) (fun i _ => k - (intOf i).toNat)
        case atStart => exact ⟨0, d, Nat.zero_le _, rfl, rfl, by intros; omega⟩
        case round =>
          obtain ⟨j, d2, hj, rfl, rfl, hne⟩ := hrel
          have HNE := hid hne
          clear hne
          by_cases hjk : j < k
          · have hjm : j < m := by omega
            have hjl : j < gl.length := by rw [HL2.out]; exact hjm
            obtain ⟨ad', hA, hcj⟩ := reads_int HR.out hjm hjl
            cases hA
            obtain ⟨y, hy⟩ : ∃ y, gl[j] = y := ⟨_, rfl⟩
            rw [hy] at hcj
            have HY := hid hy
            clear hy
            by_cases hyz : y = z
            · have hyz' : (y == z) = true := by simpa using hyz
              have HF := hid (show res = false by
                rw [← HRES.out, row_none HROW.out hkl (fun g hg e => by rw [HZ.out]; exact in_take hjl hjk (HY.out.trans hyz))]; rfl)
              clear hyz
              go_wp2
              go_quiet (fail)
              go_wp2
              go_ret
              first | exact retB1 HF.out.symm | exact retB2 HF.out.symm
            · have hyz' : (y == z) = false := by simpa using hyz
              have HN := hid hyz
              clear hyz
              go_wp2
              go_quiet (fail)
              go_wp2
              go_roundw
              case rel =>
                refine ⟨j + 1, _, by omega, by go_num, rfl, fun t h ht => ?_⟩
                by_cases htj : t = j
                · subst htj; rw [HY.out]; exact HN.out
                · exact HNE.out t h (by omega)
              case measure => simp [intOf]; omega
          · have HJ := hid (show j = k by omega)
            have HNI := hid (show gl[k] ∉ gl.take k by rw [HZ.out]; exact notin_take (by omega) (fun t h ht => HNE.out t h (by rw [HJ.out]; exact ht)))
            have HQI := hid (show q.tr.1 = gl[k] from HQZ.out.trans HZ.out.symm)
            by_cases hk0 : k = 0
            · have HN := hid (row_next HT.out HROW.out hkl HQT.out HQI.out HNI.out (by rw [HROW.out.zero hk0]; rfl))
              have hk0' : ¬ (0 : Int) < k := by omega
              have hk1' : decide (0 < k) = false := by simp; omega
              clear hk0
              go_wp2
              go_roundw
              case rel => exact rw_next HN.out hlt
              case measure => simp [intOf]; omega
            · obtain ⟨p0, hp0, hpv, hpk⟩ := HROW.out.pos (by omega)
              obtain ⟨r, hr0⟩ : ∃ r, k - 1 = r := ⟨_, rfl⟩
              rw [hr0] at hpk
              have hrm : r < m := by omega
              have hrl : r < gl.length := by rw [HL2.out]; exact hrm
              obtain ⟨ad', hA, hcr⟩ := reads_int HR.out hrm hrl
              cases hA
              have hrz : gl[r] = p0.1 := by rw [List.getElem?_eq_getElem hrl] at hpk; exact Option.some.inj hpk
              obtain ⟨y, hy⟩ : ∃ y, gl[r] = y := ⟨_, rfl⟩
              rw [hy] at hcr hrz
              obtain ⟨p, hpm, rfl⟩ := mem_trs hp0
              rcases placeR_cases ps y with ⟨_, hno⟩ | ⟨a', p', hp', hpa, hpy⟩
              · exact absurd hrz.symm (hno p hpm)
              · have hpp : p'.tr = p.tr := uniq_tr HT.out (tr_mem (List.mem_of_getElem? hpa)) (tr_mem hpm) (hpy.trans hrz)
                have HP2 := hid hp'
                have HPA := hid hpa
                have HPV := hid (show prev = some p'.tr by rw [hpp]; exact hpv)
                have hpan : a' < n := by
                  have := (List.getElem?_eq_some_iff.1 hpa).1
                  rw [HL.out] at this; exact this
                have HNE2 := hid (show ¬ p'.id = q.id by
                  intro e
                  have e1 : gl[k] = y := HZ.out.trans (HQZ.out.symm.trans (e.symm.trans hpy))
                  exact HNI.out (in_take hrl (by omega) (hy.trans e1.symm)))
                have HNA := hid (show ¬ a' = a by
                  rintro rfl
                  have := HPA.out.symm.trans HQA.out
                  exact HNE2.out (congrArg Pc.id (Option.some.inj this)))
                have hsub : (k : Int) - 1 = (r : Int) := by omega
                have hk0' : (0 : Int) < k := by omega
                have hk1' : decide (0 < k) = true := by simp; omega
                clear hr0 hpk hy hrz hp0 hpm hpv hp' hpa hpy hpp
                cases hf : (!decide (a' = a) && decide (p'.ct = q.ws.headD 0)) with
                | true =>
                  have HN := hid (row_next HT.out HROW.out hkl HQT.out HQI.out HNI.out (by
                    rw [HPV.out]
                    have h1 : ¬ p'.id = q.id := HNE2.out
                    simp only [Bool.and_eq_true] at hf
                    simp only [bad, fol, Pc.tr]
                    simp [h1, hf.2]
                    simpa using hf.2))
                  have HFF := hid hf
                  clear hf
                  go_wp2_with (first
                    | (go_at_call 71; refine (HPC.out y _ (by intro _; rfl)).mono ?_; rintro e w' ⟨rfl, rfl⟩; rw [HP2.out])
                    | (go_at_call 72; refine (HFC.out a' a p' q _ (by intro _; rfl) hpan han HPA.out HQA.out HQOK.out).mono ?_; rintro e w' ⟨rfl, d3, rfl⟩; rw [HFF.out]))
                  go_roundw
                  case rel => exact rw_next HN.out hlt
                  case measure => simp [intOf]; omega
                | false =>
                  have HF := hid (show res = false by
                    rw [← HRES.out, row_bad HT.out HROW.out hkl HQT.out HQI.out HNI.out (by
                      rw [HPV.out]
                      have h1 : ¬ p'.id = q.id := HNE2.out
                      have h2 : ¬ a' = a := HNA.out
                      simp only [bad, fol, Pc.tr]
                      simpa [h1, h2] using hf)]; rfl)
                  have HFF := hid hf
                  clear hf
                  go_wp2_with (first
                    | (go_at_call 71; refine (HPC.out y _ (by intro _; rfl)).mono ?_; rintro e w' ⟨rfl, rfl⟩; rw [HP2.out])
                    | (go_at_call 72; refine (HFC.out a' a p' q _ (by intro _; rfl) hpan han HPA.out HQA.out HQOK.out).mono ?_; rintro e w' ⟨rfl, d3, rfl⟩; rw [HFF.out]))
                  go_ret
                  first | exact retB1 HF.out.symm | exact retB2 HF.out.symm
    · have HX := hid (show k = gl.length by rw [HL2.out]; omega)
      have HE := hid (show (takeS (trs ps) none gl).1 = true by
        have := HROW.out
        rw [HX.out] at this
        exact row_end this)
      have HF := hid (show res = decide (0 < m) by rw [← HRES.out, HE.out, HL2.out]; rfl)
      by_cases h0 : 0 < m
      · have h0' : (0 : Int) < m := by omega
        go_wp2
        go_ret
        exact retB1 (by rw [HF.out]; simp [h0])
      · have h0' : ¬ (0 : Int) < m := by omega
        go_wp2
        go_ret
        exact retB1 (by rw [HF.out]; simp [h0])
end Go.Proofs.YtcoplbaopaigcaaGreat
