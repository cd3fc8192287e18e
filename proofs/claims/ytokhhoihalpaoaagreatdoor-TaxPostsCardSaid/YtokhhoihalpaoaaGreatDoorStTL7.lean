/- Contracts of functions, walked. -/
import Derived.Test.YtokhhoihalpaoaaGreatDoorStTR
set_option linter.all false
namespace Go.Proofs.Tryz
open Go.ChangeShapes Go.WideShapes Go.ChangeAt Go.RowKit Go.Joins Go.Deep Go.Am
set_option maxRecDepth 100000


theorem fields117 : ∃ f0 f1 f2 f3 f4 : Field, Tryz.prog.underlying 117 = some (.struct #[f0, f1, f2, f3, f4]) ∧ (f0.type = 3 ∧ f1.type = 3 ∧ f2.type = 3 ∧ f3.type = 3 ∧ f4.type = 3) ∧ (f0.offset = 0 ∧ f1.offset = 1 ∧ f2.offset = 2 ∧ f3.offset = 3 ∧ f4.offset = 4) ∧ Tryz.prog.cellsOf 3 = 1 ∧ Tryz.prog.cellsOf 117 = 5 :=
  ⟨(fieldOf Tryz.prog 117 0).getD default, (fieldOf Tryz.prog 117 1).getD default, (fieldOf Tryz.prog 117 2).getD default, (fieldOf Tryz.prog 117 3).getD default, (fieldOf Tryz.prog 117 4).getD default, by kernel_rfl, by refine ⟨?_, ?_, ?_, ?_, ?_⟩ <;> kernel_rfl, by refine ⟨?_, ?_, ?_, ?_, ?_⟩ <;> kernel_rfl, by kernel_rfl, by kernel_rfl⟩

section
variable {H : Type} {enc : TypeId × Value → H} {w : World}
theorem pst_cells {fuel : Nat} {cs : List Value} {x : DataW H × List MemPlace} (hc : cs.length = 5) (h : DataW.trod enc Tryz.prog w 0 (fun _ => true) true fuel 117 cs = some x) : ∃ q : Pst, cs = q.cells := by
  obtain ⟨f0, f1, f2, f3, f4, hu, ⟨t0, t1, t2, t3, t4⟩, ⟨o0, o1, o2, o3, o4⟩, h3, h6⟩ := fields117
  obtain ⟨xs, n, _, _, _, _, ht⟩ := DataW.trod_struct hu h
  obtain ⟨a, b, c, d, e, rfl⟩ : ∃ a b c d e, cs = [a, b, c, d, e] := by
    match cs, hc with
    | [a, b, c, d, e], _ => exact ⟨a, b, c, d, e, rfl⟩
  have ht0 := ht 0 f0 rfl
  have ht1 := ht 1 f1 rfl
  have ht2 := ht 2 f2 rfl
  have ht3 := ht 3 f3 rfl
  have ht4 := ht 4 f4 rfl
  rw [t0, o0, h3] at ht0
  rw [t1, o1, h3] at ht1
  rw [t2, o2, h3] at ht2
  rw [t3, o3, h3] at ht3
  rw [t4, o4, h3] at ht4
  have hlen : xs.length = 5 := by assumption
  rw [List.getElem?_eq_getElem (by omega)] at ht0 ht1 ht2 ht3 ht4
  obtain ⟨z0, hz0⟩ := int_cells (show DataW.trod enc Tryz.prog w 0 (fun _ => true) true n 3 [a] = _ from ht0)
  obtain ⟨z1, hz1⟩ := int_cells (show DataW.trod enc Tryz.prog w 0 (fun _ => true) true n 3 [b] = _ from ht1)
  obtain ⟨z2, hz2⟩ := int_cells (show DataW.trod enc Tryz.prog w 0 (fun _ => true) true n 3 [c] = _ from ht2)
  obtain ⟨z3, hz3⟩ := int_cells (show DataW.trod enc Tryz.prog w 0 (fun _ => true) true n 3 [d] = _ from ht3)
  obtain ⟨z4, hz4⟩ := int_cells (show DataW.trod enc Tryz.prog w 0 (fun _ => true) true n 3 [e] = _ from ht4)
  injection hz0 with hz0 _
  injection hz1 with hz1 _
  injection hz2 with hz2 _
  injection hz3 with hz3 _
  injection hz4 with hz4 _
  exact ⟨⟨z0, z1, z2, z3, z4⟩, by rw [hz0, hz1, hz2, hz3, hz4]; rfl⟩
end
theorem add_at (b o j : Nat) : (⟨b, o, none⟩ : Addr).add j = ⟨b, o + j, none⟩ := by
  unfold Addr.add
  split
  · rename_i h; subst h; rfl
  · rfl
theorem cell_spot {w : World} {p : Addr} {v : Value} (h : w.cell? p = some v) : p.spot = none := by
  unfold World.cell? at h
  split at h
  · split at h
    · cases h
    · rename_i h0; simpa using h0
  · cases h
theorem slice_abs {w : World} {a : Addr} {len cap size d : Nat} {us : List Value} (hl : len ≤ cap) (hc : len ≤ 9223372036854775807) (hus : us.length = len * size) (hsz : 0 < size) (hplain : ∀ (j : Nat) (u : Value), us[j]? = some u → absV w.heap.size 8 u = u) (hcell : ∀ (j : Nat) (u : Value), us[j]? = some u → w.cell? (a.add j) = some u) : Cells (absH w) (absV w.heap.size (d + 1) (.slice (some a) len cap)) size len us := by
  by_cases h0 : len = 0
  · subst h0
    simp only [absV]
    split
    · exact ⟨hus, hc, _, _, rfl, by simp, by omega⟩
    · rw [if_pos trivial]; exact ⟨hus, hc, _, _, rfl, by simp, by omega⟩
  · have hpos : 0 < us.length := by rw [hus]; exact Nat.mul_pos (by omega) hsz
    have h1 := hcell 0 _ (List.getElem?_eq_getElem hpos)
    have e0 : a.add 0 = a := by unfold Addr.add; rw [if_pos rfl]
    rw [e0] at h1
    have hsp := cell_spot h1
    have hlt := cell_lt h1
    obtain ⟨b, o, sp⟩ := a
    simp only at hsp hlt
    subst hsp
    simp only [absV]
    rw [if_pos ⟨trivial, hlt, hl⟩]
    refine ⟨hus, hc, _, _, rfl, by simp, fun _ => ⟨b, o, none, rfl, by rw [absH_n]; exact hlt, fun j u hu => ?_⟩⟩
    have h2 := hcell j u hu
    rw [add_at] at h2
    rw [abs_cell h2, hplain j u hu]
theorem none_abs {w : World} {d size : Nat} : Cells (absH w) (absV w.heap.size (d + 1) (.slice none 0 0)) size 0 [] :=
  ⟨by simp, by omega, none, 0, rfl, fun _ => rfl, by simp⟩
section
variable {H : Type} {enc : TypeId × Value → H} {w : World}
theorem posts_abs0 {fuel d : Nat} {v : Value} {x : DataW H × List MemPlace} (h : DataW.trod enc Tryz.prog w 0 (fun _ => true) true fuel 81 [v] = some x) : ∃ l, Psts (absH w) (absV w.heap.size (d + 1) v) l := by
  rcases open_slice Tryz.underlying81 h with ⟨hcs, _⟩ | ⟨a, len, cap, m, n, D, Pl, hcs, _, hl, hm, hmm, _, hi⟩
  · injection hcs with hcs _
    subst hcs
    exact ⟨[], none_abs⟩
  · injection hcs with hcs _
    subst hcs
    simp only [if_true] at hmm
    obtain ⟨_, _, _, _, _, _, _, _, _, hC⟩ := fields117
    have hq : ∀ i, i < len → ∃ q : Pst, ∀ j u, q.cells[j]? = some u → w.cell? (a.add (i * 5 + j)) = some u := by
      intro i h
      obtain ⟨cs', hc, ht'⟩ := hi i (by omega)
      rw [hC] at hc
      obtain ⟨_, hcl, hat⟩ := World.cells?_some hc
      obtain ⟨q, rfl⟩ := pst_cells hcl ht'
      refine ⟨q, fun j u hu => ?_⟩
      have hj : j < 5 := (List.getElem?_eq_some_iff.1 hu).1
      rw [← Go.Deep.add_add, hat j hj]; exact hu
    obtain ⟨f, hf'⟩ := Classical.skolem.1 (fun i => show ∃ q : Pst, i < len → ∀ j u, q.cells[j]? = some u → w.cell? (a.add (i * 5 + j)) = some u by
      by_cases hi : i < len
      · obtain ⟨q, hq⟩ := hq i hi; exact ⟨q, fun _ => hq⟩
      · exact ⟨⟨0, 0, 0, 0, 0⟩, fun h => absurd h hi⟩)
    have hlen : ((List.range len).map f).length = len := by simp
    refine ⟨(List.range len).map f, ?_⟩
    unfold Psts
    rw [hlen]
    have hget : ∀ j u, (pstCells ((List.range len).map f))[j]? = some u → ∃ k i, k < len ∧ j = k * 5 + i ∧ (f k).cells[i]? = some u := by
      intro j u hu
      have hj : j < len * 5 := by
        have := (List.getElem?_eq_some_iff.1 hu).1
        rw [pstCells_length, hlen] at this; exact this
      have hk : j / 5 < len := by omega
      have hi : j % 5 < 5 := Nat.mod_lt _ (by decide)
      have hcl : (f (j / 5)).cells.length = 5 := rfl
      have h1 := pstCells_get ((List.range len).map f) (j / 5) (by rw [hlen]; exact hk) (j % 5) ((f (j / 5)).cells[j % 5]'(by rw [hcl]; exact hi)) (by simp)
      have e : j / 5 * 5 + j % 5 = j := by omega
      rw [e, hu] at h1
      refine ⟨j / 5, j % 5, hk, e.symm, ?_⟩
      rw [List.getElem?_eq_getElem (by rw [hcl]; exact hi)]
      exact h1.symm ▸ rfl
    refine slice_abs hl (by unfold maxLen at hm; omega) (by rw [pstCells_length, hlen]) (by decide) (fun j u hu => ?_) (fun j u hu => ?_)
    · obtain ⟨k, i, hk, rfl, hi⟩ := hget j u hu
      match i, hi with
      | 0, hi => cases hi; rfl
      | 1, hi => cases hi; rfl
      | 2, hi => cases hi; rfl
      | 3, hi => cases hi; rfl
      | 4, hi => cases hi; rfl
      | i + 5, hi => simp [Pst.cells] at hi
    · obtain ⟨k, i, hk, rfl, hi⟩ := hget j u hu
      exact hf' k hk i u hi
theorem posts_abs {r : Reach} {b0 : Nat} {v : Value} {d : DataW H} {p : List MemPlace} (hval : Value.okWide Tryz.prog w r b0 81 v) (h : DataW.Trod enc Tryz.prog w 0 (fun _ => true) true 81 v d p) : ∃ l, Psts (absH w) (absV w.heap.size 8 v) l := by
  obtain ⟨a, len, cap, rfl⟩ := okWide_slice Tryz.underlying81 hval
  obtain ⟨fuel, hf⟩ := h
  exact posts_abs0 (show DataW.trod enc Tryz.prog w 0 (fun _ => true) true fuel 81 [.slice a len cap] = _ by simpa [Value.cells] using hf)
end
end Go.Proofs.Tryz
namespace Go.Proofs.YtokhhoihalpaoaaGreatDoor
open Go.ChangeShapes Go.WideShapes Go.ChangeAt Go.RowKit Go.Joins Go.Deep Go.Am Go.Proofs.Tryz
set_option maxRecDepth 100000 in
theorem lifted (os : Os) (started : os.Started) (H : Type) (enc : TypeId × Value → H) :
    ReturnsInHanded {} Tryz.checked os 7 .any (fun w args => (Rows.taxPostsSpec.pre enc Tryz.prog Tryz.f7 [] false w args ∧ laidMetH Tryz.prog Rows.taxPostsRow.laid w) ∧ sizedMet enc Tryz.prog Tryz.f7 (OpenSpec.ofChange Rows.taxPostsSpec) false w args)
      (Rows.taxPostsSpec.post enc Tryz.prog Tryz.f7 false true false false) := by
  refine returnsInHanded_of_change_and (C := Tryz.checked) (X := fun w _ => laidMetH Tryz.prog Rows.taxPostsRow.laid w) (fun _ _ _ hh h => h.of_heap hh) ownOne started (by kernel_rfl) Tryz.func7
    (ChangeSpec.witness_at (enc := enc) (C := Tryz.checked) (os := os) (X := fun w _ => laidMetH Tryz.prog Rows.taxPostsRow.laid w) false (laidWorld os) #[.slice none 0 0, .int .i64 0, .int .i64 0, .int .i64 0] 8 rfl (by kernel_rfl) (by kernel_rfl) (by kernel_rfl) (by kernel_rfl) (by kernel_rfl) (laid_metH os _)) ?_
  intro W base args ds gs before hval0 hW _ _ hL _
  have HL := laid_of hL
  have hval : ∀ (j : Nat) t v, Tryz.f7.params[j]? = some t → args[j]? = some v → Value.okWide Tryz.prog W .any base t v := hval0
  have hW' := hW
  obtain ⟨p, q, hA0, hV, rfl, hfz, hnd⟩ := hW
  have hA : DataW.TrodAll enc Tryz.prog W 0 (fun _ => true) true Tryz.f7.params.toList args.toList ds p := hA0
  rw [Tryz.params7] at hA hval
  obtain ⟨v0, vs0, d0, ds0, p0, q0, hargs, rfl, rfl, h0, r0⟩ := trodAll_cons hA
  obtain ⟨v1, vs1, d1, ds1, p1, q1, rfl, rfl, rfl, h1, r1⟩ := trodAll_cons r0
  obtain ⟨v2, vs2, d2, ds2, p2, q2, rfl, rfl, rfl, h2, r2⟩ := trodAll_cons r1
  obtain ⟨v3, vs3, d3, ds3, p3, q3, rfl, rfl, rfl, h3, r3⟩ := trodAll_cons r2
  obtain ⟨rfl, rfl, rfl⟩ := trodAll_nil r3
  obtain rfl : args = #[v0, v1, v2, v3] := by cases args; simp_all
  obtain ⟨rfl, rfl⟩ := trodVars_none hV
  have k0 := h0
  have lt0 : ∀ x ∈ p0, x.block < W.heap.size := by obtain ⟨m, hm⟩ := k0; exact DataW.trod_lt m _ _ _ hm
  have k1 := h1
  have lt1 : ∀ x ∈ p1, x.block < W.heap.size := by obtain ⟨m, hm⟩ := k1; exact DataW.trod_lt m _ _ _ hm
  have k2 := h2
  have lt2 : ∀ x ∈ p2, x.block < W.heap.size := by obtain ⟨m, hm⟩ := k2; exact DataW.trod_lt m _ _ _ hm
  have k3 := h3
  have lt3 : ∀ x ∈ p3, x.block < W.heap.size := by obtain ⟨m, hm⟩ := k3; exact DataW.trod_lt m _ _ _ hm
  obtain ⟨s0, hs0⟩ := posts_abs (hval 0 81 v0 rfl rfl) h0
  obtain ⟨n1, rfl, hd1, hp1, w1⟩ := open_int Tryz.underlying3 (hval 1 3 v1 rfl rfl) h1
  obtain ⟨n2, rfl, hd2, hp2, w2⟩ := open_int Tryz.underlying3 (hval 2 3 v2 rfl rfl) h2
  obtain ⟨n3, rfl, hd3, hp3, w3⟩ := open_int Tryz.underlying3 (hval 3 3 v3 rfl rfl) h3
  clear hA0 hval0
  have hlaw := calls_of_callS (w := W) (args := [v0, .int .i64 n1, .int .i64 n2, .int .i64 n3]) (b := true) (law7 hs0) HL
  refine hlaw.mono fun e W' ⟨he, bel⟩ => ?_
  subst he
  exact ⟨_, rfl, _, _, _, [], _, [], hW', trodAll_mk1 (shut_bool Tryz.underlying4 _), (trodAll_cons_mk (Below.trod laidOut (by kernel_rfl) (of_decide_eq_true (by kernel_rfl)) k0 bel lt0) (trodAll_cons_mk (Below.trod laidOut (by kernel_rfl) (of_decide_eq_true (by kernel_rfl)) k1 bel lt1) (trodAll_cons_mk (Below.trod laidOut (by kernel_rfl) (of_decide_eq_true (by kernel_rfl)) k2 bel lt2) (trodAll_cons_mk (Below.trod laidOut (by kernel_rfl) (of_decide_eq_true (by kernel_rfl)) k3 bel lt3) trodAll_mk0)))), rfl, bel.frame _, fun h => by cases h⟩
end Go.Proofs.YtokhhoihalpaoaaGreatDoor
