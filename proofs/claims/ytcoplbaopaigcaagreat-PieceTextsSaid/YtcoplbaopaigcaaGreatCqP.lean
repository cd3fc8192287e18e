/- What a text is cut into has its own order, and with it is the text. -/
import Derived.Test.YtcoplbaopaigcaaGreatCqN
import Derived.Test.YtcoplbaopaigcaaGreatCqO
set_option linter.all false
namespace Go.Proofs.YtcoplbaopaigcaaGreat
/-- The IDs of pieces that are cut: one behind the other. -/
def idsL (i m : Nat) : List Int := (List.range m).map fun (j : Nat) => (i : Int) + 1 + (j : Int)
theorem idsL_succ (i m : Nat) : idsL i (m + 1) = ((i : Int) + 1) :: idsL (i + 1) m := by
  unfold idsL
  rw [List.range_succ_eq_map, List.map_cons, List.map_map]
  refine List.cons_eq_cons.2 ⟨by simp, ?_⟩
  apply List.map_congr_left
  intro j _
  simp only [Function.comp]
  push_cast
  omega
theorem cut_ids (tx : List Int) : ∀ (l : List Int) (i s : Nat) (ps : List Pc), ps.map dataP = cutGo tx i s l → ps.map (·.id) = idsL i l.length := by
  intro l
  induction l with
  | nil => intro i s ps h; simp [cutGo] at h; subst h; rfl
  | cons e t ih =>
    intro i s ps h
    cases ps with
    | nil => simp [cutGo] at h
    | cons p r =>
      rw [cutGo, List.map_cons, List.cons.injEq] at h
      rw [List.length_cons, idsL_succ, List.map_cons, ih _ _ _ h.2]
      congr 1
      exact congrArg (·.1) h.1
theorem idsL_gt {i m : Nat} {z : Int} (h : z ∈ idsL i m) : (i : Int) < z := by
  unfold idsL at h
  obtain ⟨j, _, rfl⟩ := List.mem_map.1 h
  omega
theorem idsL_le {i m : Nat} {z : Int} (h : z ∈ idsL i m) : z ≤ (i : Int) + m := by
  unfold idsL at h
  obtain ⟨j, hj, rfl⟩ := List.mem_map.1 h
  have := List.mem_range.1 hj
  omega
theorem idsL_nodup (i m : Nat) : (idsL i m).Nodup := by
  unfold idsL
  rw [List.nodup_iff_pairwise_ne, List.pairwise_map]
  refine (List.nodup_range (n := m)).imp ?_
  intro a b h e
  exact h (by omega)
structure CutOf (tx : List Int) (i s : Nat) (l : List Int) (ps : List Pc) : Prop where
  ok : ∀ p ∈ ps, p.okB = true
  words : ps.flatMap (·.ws) = tx.drop s
  take : ∀ prev : Option Tr, (∀ p, prev = some p → p.1 ≤ i ∧ (l ≠ [] → p.2.2 = tx.getD s 0)) → takeS (trs ps) prev (idsL i l.length) = (true, [])
theorem wsOk_get {tx : List Int} (h : wsOk tx = true) {j : Nat} (hj : j < tx.length) : win 1 9999 tx[j] = true := by
  unfold wsOk at h
  rw [List.all_eq_true] at h
  exact h _ (List.getElem_mem _)
theorem cut_of {tx : List Int} (hw : wsOk tx = true) (h0 : 0 < tx.length) : ∀ (l : List Int) (i s : Nat) (ps : List Pc), s ≤ tx.length → i + l.length ≤ 24 → endsGo tx.length s l = some (tx.length : Int) → ps.map dataP = cutGo tx i s l → (∀ p ∈ ps, p.n = p.ws.length) → CutOf tx i s l ps := by
  intro l
  induction l with
  | nil =>
    intro i s ps hs _ he h _
    simp [cutGo] at h
    subst h
    have : s = tx.length := by simp [endsGo] at he; omega
    exact ⟨by simp, by simp [this], fun _ _ => rfl⟩
  | cons e t ih =>
    intro i s ps hs hi he h hn
    obtain ⟨q1, q2, q3, q4⟩ := endsGo_step (by rw [he]; simp)
    rw [q4] at he
    obtain ⟨e, rfl⟩ : ∃ e' : Nat, e = e' := ⟨e.toNat, by omega⟩
    cases ps with
    | nil => simp [cutGo] at h
    | cons p r =>
      rw [cutGo, List.map_cons, List.cons.injEq] at h
      obtain ⟨h1, h2⟩ := h
      have hid : p.id = (i : Int) + 1 := congrArg (·.1) h1
      have hws : p.ws = (tx.drop s).take (e - s) := congrArg (·.2.1) h1
      have hct : p.ct = tx.getD (e % tx.length) 0 := congrArg (·.2.2) h1
      have hen : e ≤ tx.length := by omega
      have hse : s < e := by omega
      have hlen : p.ws.length = e - s := by rw [hws]; simp; omega
      have hpn := hn p (List.mem_cons_self ..)
      simp only [List.length_cons] at hi
      have IH := ih (i + 1) e r hen (by omega) he (by simpa using h2) (fun q hq => hn q (List.mem_cons_of_mem _ hq))
      have hr : e % tx.length < tx.length := Nat.mod_lt _ h0
      have hct2 : win 1 9999 p.ct = true := by
        rw [hct, List.getD_eq_getElem?_getD, List.getElem?_eq_getElem hr]
        exact wsOk_get hw hr
      have hwsok : wsOk p.ws = true := by
        unfold wsOk
        rw [List.all_eq_true]
        intro x hx
        rw [hws] at hx
        have := List.mem_of_mem_drop (List.mem_of_mem_take hx)
        unfold wsOk at hw
        rw [List.all_eq_true] at hw
        exact hw x this
      refine ⟨?_, ?_, ?_⟩
      · intro q hq
        rcases List.mem_cons.1 hq with rfl | hq
        · unfold Pc.okB pOkB
          rw [hwsok, hct2, show win 1 1099511627776 q.id = true from win_iff.2 ⟨by omega, by omega⟩, show win 1 40 (q.n : Int) = true from win_iff.2 ⟨by omega, by omega⟩]
          rfl
        · exact IH.ok q hq
      · rw [List.flatMap_cons, IH.words, hws]
        have e1 : tx.drop e = (tx.drop s).drop (e - s) := by rw [List.drop_drop]; congr 1; omega
        rw [e1, List.take_append_drop]
      · intro prev hp
        have hhd : p.ws.headD 0 = tx.getD s 0 := by
          rw [hws, List.drop_eq_getElem_cons (show s < tx.length by omega), show e - s = (e - s - 1) + 1 by omega, List.take_succ_cons]
          simp [List.getD, List.getElem?_eq_getElem (show s < tx.length by omega)]
        rw [List.length_cons, idsL_succ]
        have htr : trs (p :: r) = ((i : Int) + 1, tx.getD s 0, p.ct) :: trs r := by
          show p.tr :: trs r = _
          unfold Pc.tr
          rw [hid, hhd]
        have hrid := cut_ids tx t (i + 1) e r (by simpa using h2)
        have hfil : (trs (p :: r)).filter (fun t => t.1 != (i : Int) + 1) = trs r := by
          rw [htr, List.filter_cons_of_neg (by simp), List.filter_eq_self]
          intro u hu
          have hm : u.1 ∈ (trs r).map (·.1) := List.mem_map.2 ⟨u, hu, rfl⟩
          rw [trs_ids, hrid] at hm
          have := idsL_gt hm
          simp
          omega
        have hfd : ((trs (p :: r)).find? fun g => g.1 == (i : Int) + 1) = some ((i : Int) + 1, tx.getD s 0, p.ct) := by rw [htr, List.find?_cons_of_pos (by simp)]
        rw [takeS, hfd]
        have hb : bad prev ((i : Int) + 1, tx.getD s 0, p.ct) = false := by
          cases prev with
          | none => rfl
          | some pv =>
            obtain ⟨a1, a2⟩ := hp pv rfl
            have a3 := a2 (by simp)
            unfold bad fol
            simp only [a3]
            have : ¬ pv.1 = (i : Int) + 1 := by omega
            simp [this]
        simp only [hb, Bool.false_eq_true, if_false]
        rw [hfil]
        refine IH.take _ ?_
        rintro pv hpv
        cases hpv
        refine ⟨by simp, fun ht => ?_⟩
        have hlt : e < tx.length := by
          cases t with
          | nil => exact absurd rfl ht
          | cons e2 t2 =>
            obtain ⟨a, b, _, _⟩ := endsGo_step (by rw [he]; simp)
            omega
        simp only
        rw [hct, Nat.mod_eq_of_lt hlt]
theorem errGoP_zero : ∀ (ps : List Pc) (seen : List Int), (∀ p ∈ ps, p.okB = true) → (ps.map (·.id)).Nodup → (∀ p ∈ ps, p.id ∉ seen) → errGoP seen ps = 0 := by
  intro ps
  induction ps with
  | nil => intro _ _ _ _; rfl
  | cons a t ih =>
    intro seen h1 h2 h3
    rw [List.map_cons, List.nodup_cons] at h2
    rw [errGoP, if_neg (by simp [h1 a (List.mem_cons_self ..)]), if_neg (h3 a (List.mem_cons_self ..))]
    refine ih _ (fun p hp => h1 p (List.mem_cons_of_mem _ hp)) h2.2 (fun p hp hm => ?_)
    rcases List.mem_append.1 hm with hm | hm
    · exact h3 p (List.mem_cons_of_mem _ hp) hm
    · have : p.id = a.id := by simpa using hm
      exact h2.1 (List.mem_map.2 ⟨p, hp, this⟩)
theorem textS_ids : ∀ (ps qs : List Pc), (qs.map (·.id)).Nodup → (∀ p ∈ ps, p ∈ qs) → textS qs (ps.map (·.id)) = ps.flatMap (·.ws) := by
  intro ps qs hn h
  induction ps with
  | nil => rfl
  | cons a t ih =>
    have h1 := wordsOf_at hn (h a (List.mem_cons_self ..))
    have h2 := ih (fun p hp => h p (List.mem_cons_of_mem _ hp))
    simp only [textS, List.map_cons, List.flatMap_cons] at *
    rw [h1, h2]
/-- What a text is cut into has its own order, and with it is the text. -/
theorem cutting {tx l : List Int} {ps : List Pc} (hw : wsOk tx = true) (h0 : 0 < tx.length) (hl : 0 < l.length) (h24 : l.length ≤ 24) (he : endsOk tx.length l = true) (h : ps.map dataP = cutGo tx 0 0 l) (hn : ∀ p ∈ ps, p.n = p.ws.length) :
    errP ps = 0 ∧ isOrd ps (idsL 0 l.length) = true ∧ textR ps (idsL 0 l.length) = tx ∧ textE ps (idsL 0 l.length) = 0 := by
  have hend : endsGo tx.length 0 l = some (tx.length : Int) := by
    unfold endsOk at he
    cases hh : endsGo tx.length 0 l with
    | none => rw [hh] at he; cases he
    | some x => rw [hh] at he; simp at he; rw [he.2]
  have C := cut_of hw h0 l 0 0 ps (Nat.zero_le _) (by omega) hend h hn
  have hids := cut_ids tx l 0 0 ps h
  have hnd : (ps.map (·.id)).Nodup := by rw [hids]; exact idsL_nodup _ _
  have hpl : ps.length = l.length := by
    have := congrArg List.length hids
    simpa [idsL] using this
  have e1 : errP ps = 0 := by
    unfold errP
    rw [if_neg (by omega)]
    exact errGoP_zero ps [] C.ok hnd (by simp)
  have e2 : isOrd ps (idsL 0 l.length) = true := by
    unfold isOrd orderS
    rw [if_pos e1, C.take none (by intro p hp; cases hp)]
    simp [idsL]; omega
  refine ⟨e1, e2, ?_, ?_⟩
  · unfold textR
    rw [if_pos e2, ← hids, textS_ids ps ps hnd (fun _ h => h), C.words]
    rfl
  · unfold textE
    rw [if_pos e1, if_pos e2]
end Go.Proofs.YtcoplbaopaigcaaGreat
