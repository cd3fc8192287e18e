/- PieceTexts: for every pieces, order, text and ends, Text and Cut answer as the specification does, and the arguments are left as they were. No condition. -/
import Derived.Test.YtcoplbaopaigcaaGreatChecked
import Derived.Test.YtcoplbaopaigcaaGreatRows
import Derived.Below
import Derived.Carry
import Derived.Test.YtcoplbaopaigcaaGreatPqH
import Derived.Test.YtcoplbaopaigcaaGreatTqU
import Derived.Test.YtcoplbaopaigcaaGreatAmS
set_option linter.all false
namespace Go.Proofs.YtcoplbaopaigcaaGreat
open Go.ChangeShapes Go.WideShapes Go.ChangeAt Go.RowKit Go.Joins
theorem own : ownKnob Tryz.prog.godebug = none := by kernel_rfl
theorem laidOut : laidOutB Tryz.prog = true := by kernel_rfl
section
variable {H : Type} {enc : TypeId × Value → H} {w : World}
theorem reads_i {fuel : Nat} {v : Value} {x : DataW H × List MemPlace} (h : DataW.trod enc Tryz.prog w 0 (fun _ => true) true fuel 25 [v] = some x) :
    ∃ (A : Option Addr) (len cap : Nat) (gl : List Int), v = .slice A len cap ∧ len ≤ maxLen ∧ len ≤ cap ∧ Reads w w.heap.size 1 A len (gl.map (Value.int .i64)) ∧ ∀ z ∈ gl, -9223372036854775808 ≤ z ∧ z ≤ 9223372036854775807 := by
  rcases open_ints Tryz.underlying25 Tryz.underlying3 (by kernel_rfl) h with ⟨hcs, _⟩ | ⟨a, l, c, zs, hcs, _, hl, hm, hz, _, hcell, hwz⟩
  · injection hcs with hcs _
    exact ⟨none, 0, 0, [], hcs, Nat.zero_le _, Nat.le_refl _, Reads.none_, by simp⟩
  · injection hcs with hcs _
    simp only [if_true] at hz
    refine ⟨some a, l, c, zs.take l, hcs, by omega, hl, ⟨by simp; omega, fun hl0 => ⟨a, rfl, ?_, fun j u hu => ?_⟩⟩, ?_⟩
    · have := cell_lt (hcell 0 (by omega))
      rw [block_of_add] at this
      exact this
    · rw [List.getElem?_map] at hu
      obtain ⟨z, hz1, hz2⟩ := Option.map_eq_some_iff.1 hu
      rw [List.getElem?_take] at hz1
      split at hz1
      · have hj : j < zs.length := (List.getElem?_eq_some_iff.1 hz1).1
        rw [hcell j hj, ← hz2, List.getD_eq_getElem?_getD, hz1]
        rfl
      · cases hz1
    · intro z hz1
      exact wf64 (hwz z (List.mem_of_mem_take hz1))
theorem ps_of {fuel : Nat} {v : Value} {x : DataW H × List MemPlace} (h : DataW.trod enc Tryz.prog w 0 (fun _ => true) true fuel 22 [v] = some x) :
    ∃ (A : Option Addr) (len cap : Nat) (ps : List Pc), v = .slice A len cap ∧ Ps w w.heap.size A len ps := by
  rcases open_slice_fields Tryz.underlying22 Tryz.underlying107 (by kernel_rfl) (by kernel_rfl) h with ⟨hcs, _⟩ | ⟨a, len, cap, m, D, Pl, hcs, _, hl, hm, hmm, _, hf⟩
  · injection hcs with hcs _
    exact ⟨none, 0, 0, [], hcs, rfl, Nat.zero_le _, by simp, by intro h; omega⟩
  · injection hcs with hcs _
    simp only [if_true] at hmm
    have hq : ∀ i, i < len → ∃ q : Pc, q.fit w w.heap.size ∧ w.cell? (a.add (i * 3)) = some (.int .i64 q.id) ∧ w.cell? (a.add (i * 3 + 1)) = some (.slice q.A q.n q.c) ∧ w.cell? (a.add (i * 3 + 2)) = some (.int .i64 q.ct) := by
      intro i hi
      obtain ⟨ys, n, _, _, _, hj⟩ := hf i (by omega)
      obtain ⟨v0, y0, hc0, _, ht0⟩ := hj 0 _ rfl
      obtain ⟨v1, y1, hc1, _, ht1⟩ := hj 1 _ rfl
      obtain ⟨v2, y2, hc2, _, ht2⟩ := hj 2 _ rfl
      obtain ⟨z0, hz0, _, hwz0⟩ := DataW.trod_int Tryz.underlying3 ht0
      obtain ⟨A, gn, gc, gl, hv1, hgn, _, hgr, _⟩ := reads_i ht1
      obtain ⟨z2, hz2, _, hwz2⟩ := DataW.trod_int Tryz.underlying3 ht2
      injection hz0 with hz0 _
      injection hz2 with hz2 _
      subst hz0 hz2 hv1
      exact ⟨⟨z0, A, gn, gc, gl, z2⟩, ⟨hgn, (wf64 hwz0).1, (wf64 hwz0).2, hgr⟩, by simpa using hc0, hc1, hc2⟩
    obtain ⟨f, hf'⟩ := Classical.skolem.1 (fun i => show ∃ q : Pc, i < len → (q.fit w w.heap.size ∧ w.cell? (a.add (i * 3)) = some (.int .i64 q.id) ∧ w.cell? (a.add (i * 3 + 1)) = some (.slice q.A q.n q.c) ∧ w.cell? (a.add (i * 3 + 2)) = some (.int .i64 q.ct)) by
      by_cases hi : i < len
      · obtain ⟨q, hq⟩ := hq i hi; exact ⟨q, fun _ => hq⟩
      · exact ⟨⟨0, none, 0, 0, [], 0⟩, fun h => absurd h hi⟩)
    refine ⟨some a, len, cap, (List.range len).map f, hcs, by simp, by omega, ?_, fun hl0 => ⟨a, rfl, ?_, fun k hk => ?_⟩⟩
    · intro q hq
      obtain ⟨i, hi, rfl⟩ := List.mem_map.1 hq
      exact (hf' i (List.mem_range.1 hi)).1
    · have := cell_lt (hf' 0 hl0).2.1
      rw [block_of_add] at this
      exact this
    · have hk' : k < len := by simpa using hk
      obtain ⟨_, h0, h1, h2⟩ := hf' k hk'
      rw [add_more _ _ _ (by omega)] at h1 h2
      simp only [List.getElem_map, List.getElem_range]
      exact ⟨h0, h1, h2⟩
end
set_option maxRecDepth 100000 in
theorem lifted (hsan : ∀ w : World, Calls Tryz.prog 16 #[] w fun e w' => e = .returned (.bool true) ∧ Below w.heap.size w w') (os : Os) (started : os.Started) (H : Type) (enc : TypeId × Value → H) :
    ReturnsInHanded {} Tryz.checked os 7 .any (Rows.pieceTextsSpec.pre6 enc Tryz.prog Tryz.f7 Rows.pieceTextsRow.domain false) (Rows.pieceTextsSpec.post enc Tryz.prog Tryz.f7 false true false false) := by
  refine returnsInHanded_of_change (C := Tryz.checked) own started (by kernel_rfl) Tryz.func7
    (ChangeSpec.witness6 (enc := enc) (C := Tryz.checked) false ⟨#[], #[.slice none 0 0, .slice none 0 0, .slice none 0 0, .slice none 0 0], []⟩ 8 (by kernel_rfl) (by kernel_rfl) (by kernel_rfl) (by kernel_rfl)) ?_
  intro W base args ds gs before hval0 hW hcnd _
  have hval : ∀ (j : Nat) t v, Tryz.f7.params[j]? = some t → args[j]? = some v → Value.okWide Tryz.prog W .any base t v := hval0
  have hW' := hW
  obtain ⟨p, q, hA0, hV, rfl, hfz, hnd⟩ := hW
  have hA : DataW.TrodAll enc Tryz.prog W 0 (fun _ => true) true Tryz.f7.params.toList args.toList ds p := hA0
  rw [Tryz.params7] at hA hval
  obtain ⟨v0, vs0, d0, ds0, p0, q0, hargs, rfl, rfl, h0, r0⟩ := trodAll_cons hA
  obtain ⟨v1, vs1, d1, ds1, p1, q1, rfl, rfl, rfl, h1, r1⟩ := trodAll_cons r0
  obtain ⟨v2, vs2, d2, ds2, p2, q2, rfl, rfl, rfl, h2, r2⟩ := trodAll_cons r1
  obtain ⟨v3, vs3, d3, ds3, p3, q3, rfl, rfl, rfl, h3, r3⟩ := trodAll_cons r2
  obtain ⟨rfl, rfl, rfl⟩ := trodAll_nil r3
  obtain rfl : args = #[v0, v1, v2, v3] := by cases args; simp_all
  obtain ⟨rfl, rfl⟩ := trodVars_none hV
  have k0 := h0
  have lt0 : ∀ x ∈ p0, x.block < W.heap.size := by obtain ⟨m, hm⟩ := k0; exact DataW.trod_lt m _ _ _ hm
  have k1 := h1
  have lt1 : ∀ x ∈ p1, x.block < W.heap.size := by obtain ⟨m, hm⟩ := k1; exact DataW.trod_lt m _ _ _ hm
  have k2 := h2
  have lt2 : ∀ x ∈ p2, x.block < W.heap.size := by obtain ⟨m, hm⟩ := k2; exact DataW.trod_lt m _ _ _ hm
  have k3 := h3
  have lt3 : ∀ x ∈ p3, x.block < W.heap.size := by obtain ⟨m, hm⟩ := k3; exact DataW.trod_lt m _ _ _ hm
  obtain ⟨a0, len0, cap0, rfl⟩ := okWide_slice Tryz.underlying22 (hval 0 22 v0 rfl rfl)
  obtain ⟨a1, len1, cap1, rfl⟩ := okWide_slice Tryz.underlying25 (hval 1 25 v1 rfl rfl)
  obtain ⟨a2, len2, cap2, rfl⟩ := okWide_slice Tryz.underlying25 (hval 2 25 v2 rfl rfl)
  obtain ⟨a3, len3, cap3, rfl⟩ := okWide_slice Tryz.underlying25 (hval 3 25 v3 rfl rfl)
  obtain ⟨ps, hps⟩ : ∃ ps, Ps W W.heap.size a0 len0 ps := by
    obtain ⟨fuel, hf⟩ := h0
    obtain ⟨A, len, cap, ps, hv, hq⟩ := ps_of (v := .slice a0 len0 cap0) (by simpa [Value.cells] using hf)
    injection hv with e1 e2 e3
    subst e1 e2 e3
    exact ⟨ps, hq⟩
  have ints : ∀ (a : Option Addr) (len cap : Nat) (d : DataW H) (p : List MemPlace), (∃ fuel, DataW.trod enc Tryz.prog W 0 (fun _ => true) true fuel 25 (Value.slice a len cap).cells.toList = some (d, p)) →
      ∃ gl : List Int, Reads W W.heap.size 1 a len (gl.map (Value.int .i64)) ∧ len ≤ maxLen ∧ len ≤ cap ∧ ∀ z ∈ gl, -9223372036854775808 ≤ z ∧ z ≤ 9223372036854775807 := by
    rintro a len cap d p ⟨fuel, hf⟩
    obtain ⟨A, len', cap', gl, hv, hl, hc, hr, hw⟩ := reads_i (v := .slice a len cap) (by simpa [Value.cells] using hf)
    injection hv with e1 e2 e3
    subst e1 e2 e3
    exact ⟨gl, hr, hl, hc, hw⟩
  obtain ⟨gl, hg1, hg2, _, hg4⟩ := ints a1 len1 cap1 d1 p1 h1
  obtain ⟨tx, ht1, ht2, ht3, _⟩ := ints a2 len2 cap2 d2 p2 h2
  obtain ⟨l, hl1, hl2, _, hl4⟩ := ints a3 len3 cap3 d3 p3 h3
  clear hA0 hval0
  refine (texts_law hsan a0 len0 cap0 ps a1 len1 cap1 gl a2 len2 cap2 tx a3 len3 cap3 l W hps hg1 hg2 hg4 ht1 ht2 ht3 hl1 hl2 hl4).mono fun e W' ⟨he, bel⟩ => ?_
  subst he
  exact ⟨_, rfl, _, _, _, [], _, [], hW', trodAll_mk1 (shut_bool Tryz.underlying4 _), (trodAll_cons_mk (Below.trod laidOut (by kernel_rfl) (of_decide_eq_true (by kernel_rfl)) k0 bel lt0) (trodAll_cons_mk (Below.trod laidOut (by kernel_rfl) (of_decide_eq_true (by kernel_rfl)) k1 bel lt1) (trodAll_cons_mk (Below.trod laidOut (by kernel_rfl) (of_decide_eq_true (by kernel_rfl)) k2 bel lt2) (trodAll_cons_mk (Below.trod laidOut (by kernel_rfl) (of_decide_eq_true (by kernel_rfl)) k3 bel lt3) trodAll_mk0)))), rfl, bel.frame _, fun h => by cases h⟩
theorem over (hsan : ∀ w : World, Calls Tryz.prog 16 #[] w fun e w' => e = .returned (.bool true) ∧ Below w.heap.size w w') : Rows.pieceTextsRow.holds Tryz.pinned (OpenSpec.ofChange Rows.pieceTextsSpec) :=
  OpenClaim.holds_of_wide 7 Tryz.f7 rfl rfl rfl rfl rfl rfl rfl ⟨rfl, rfl, rfl, rfl, rfl⟩ rfl rfl rfl rfl rfl (by kernel_rfl) Tryz.func7 (by kernel_rfl)
    (of_decide_eq_true (by kernel_rfl)) (by unfold Func.isWrapper; first | (rw [if_pos (by decide +kernel)]; kernel_rfl) | (rw [if_neg (by decide +kernel)]; exact ⟨rfl, rfl⟩))
    (fun os started H enc _ => lifted hsan os started H enc)
theorem pieceTexts_of (hsan : ∀ w : World, Calls Tryz.prog 16 #[] w fun e w' => e = .returned (.bool true) ∧ Below w.heap.size w w') : Rows.PieceTextsSaid := over hsan
end Go.Proofs.YtcoplbaopaigcaaGreat
namespace Go.Proofs.YtcoplbaopaigcaaGreat
theorem pieceTexts : Rows.PieceTextsSaid := pieceTexts_of Go.Proofs.Tryz.sanity_calls
#print axioms pieceTexts
end Go.Proofs.YtcoplbaopaigcaaGreat
