/- What a slice of quires that came in reads as. -/
import Derived.Deep.Slices
import Derived.Deep.Fields
import Derived.ChangeSame
import Derived.ProofKit
import Derived.OpenShut
import Derived.ShutString
import Derived.ChangeOld
import Derived.Lib.SmallJoins
import Derived.Test.YtcoplbaopaigcaaGreatPqG
set_option linter.all false
namespace Go.Proofs.YtcoplbaopaigcaaGreat
open Go.ChangeShapes Go.WideShapes Go.ChangeAt Go.RowKit Go.Joins Go.Deep
section
variable {H : Type} {enc : TypeId × Value → H} {P : Program} {w : World} {base : Nat} {spare : Nat → Bool} {held : Bool}
theorem open_slice_fields {t e : TypeId} {fs : Array Field} {fuel : Nat} {cs : List Value} {x : DataW H × List MemPlace} (ht : P.underlying t = some (.slice e)) (he : P.underlying e = some (.struct fs))
    (hone : oneCellFields P fs = true) (hC : P.cellsOf e = fs.size) (h : DataW.trod enc P w base spare held fuel t cs = some x) :
    (cs = [.slice none 0 0] ∧ x = (.nil, [])) ∨
    ∃ (a : Addr) (len cap m : Nat) (D : Nat → DataW H) (Pl : Nat → List MemPlace), cs = [.slice (some a) len cap] ∧ base ≤ a.block ∧ len ≤ cap ∧ cap ≤ maxLen ∧ m = (if spare a.block then cap else len) ∧
      x = (.slice ((List.range len).map D) ((List.range (m - len)).map fun j => D (len + j)), MemPlace.row a (m * fs.size) ++ (List.range m).flatMap Pl) ∧
      ∀ i, i < m → ∃ (ys : List (DataW H × List MemPlace)) (n : Nat), D i = .agg (ys.map (·.1)) ∧ Pl i = ys.flatMap (·.2) ∧ ys.length = fs.size ∧
        ∀ (j : Nat) (f : Field), fs[j]? = some f → ∃ (v : Value) (y : DataW H × List MemPlace), w.cell? (a.add (i * fs.size + j)) = some v ∧ ys[j]? = some y ∧ DataW.trod enc P w base spare held n f.type [v] = some y := by
  rcases open_slice ht h with h0 | ⟨a, len, cap, m, n, D, Pl, hcs, hb, hl, hm, hmm, hx, hi⟩
  · exact .inl h0
  · refine .inr ⟨a, len, cap, m, D, Pl, hcs, hb, hl, hm, hmm, by rw [hC] at hx; exact hx, fun i him => ?_⟩
    obtain ⟨cs', hc, ht'⟩ := hi i him
    rw [hC] at hc
    obtain ⟨ys, n', hn', hy, hlen, hyl, hf⟩ := DataW.trod_struct he ht'
    obtain ⟨_, hcl, hat⟩ := World.cells?_some hc
    simp only [Prod.mk.injEq] at hy
    refine ⟨ys, n', hy.1, hy.2, hyl, fun j f hj => ?_⟩
    obtain ⟨ho, hk⟩ := hone_of hone j f hj
    have hjl : j < fs.size := (Array.getElem?_eq_some_iff.1 hj).1
    have hcell := hat j hjl
    have hv : cs'[j]? = some (cs'[j]'(by omega)) := List.getElem?_eq_getElem (by omega)
    have h1 := hf j f hj
    rw [ho, hk] at h1
    have hone' : (cs'.drop j).take 1 = [cs'[j]'(by omega)] := by
      rw [List.drop_eq_getElem_cons (by omega)]
      rfl
    rw [hone'] at h1
    have hys : ys[j]? = some (ys[j]'(by omega)) := List.getElem?_eq_getElem (by omega)
    refine ⟨_, _, ?_, hys, h1.trans hys⟩
    rw [← Go.Deep.add_add, hcell, hv]
end
theorem wf64 {z : Int} (h : (Lit.int .i64 z).wf = true) : -9223372036854775808 ≤ z ∧ z ≤ 9223372036854775807 := by
  simp [Lit.wf, IntKind.min, IntKind.max, IntKind.bits, IntKind.signed] at h
  omega
theorem add_more (a : Addr) (n j : Nat) (hj : 0 < j) : a.add (n + j) = ⟨(a.add n).block, (a.add n).off + j, none⟩ := by
  unfold Addr.add
  rw [if_neg (by omega)]
  by_cases h : n = 0
  · subst h; simp
  · simp [h, Nat.add_assoc]
theorem cell_lt {w : World} {p : Addr} {v : Value} (h : w.cell? p = some v) : p.block < w.heap.size := by
  rcases Nat.lt_or_ge p.block w.heap.size with hlt | hge
  · exact hlt
  · unfold World.cell? at h
    rw [Array.getElem?_eq_none hge] at h
    cases h
section
variable {H : Type} {enc : TypeId × Value → H} {w : World}
theorem reads_of {fuel : Nat} {v : Value} {x : DataW H × List MemPlace} (h : DataW.trod enc Tryz.prog w 0 (fun _ => true) true fuel 25 [v] = some x) :
    ∃ (A : Option Addr) (len cap : Nat) (gl : List Int), v = .slice A len cap ∧ len ≤ maxLen ∧ Reads w w.heap.size 1 A len (gl.map (Value.int .i64)) := by
  rcases open_ints Tryz.underlying25 Tryz.underlying3 (by kernel_rfl) h with ⟨hcs, _⟩ | ⟨a, l, c, zs, hcs, _, hl, hm, hz, _, hcell, hwz⟩
  · injection hcs with hcs _
    exact ⟨none, 0, 0, [], hcs, Nat.zero_le _, Reads.none_⟩
  · injection hcs with hcs _
    simp only [if_true] at hz
    refine ⟨some a, l, c, zs.take l, hcs, by omega, by simp; omega, fun hl0 => ⟨a, rfl, ?_, fun j u hu => ?_⟩⟩
    · have := cell_lt (hcell 0 (by omega))
      rw [block_of_add] at this
      exact this
    · rw [List.getElem?_map] at hu
      obtain ⟨z, hz1, hz2⟩ := Option.map_eq_some_iff.1 hu
      rw [List.getElem?_take] at hz1
      split at hz1
      · have hj : j < zs.length := (List.getElem?_eq_some_iff.1 hz1).1
        rw [hcell j hj, ← hz2, List.getD_eq_getElem?_getD, hz1]
        rfl
      · cases hz1
theorem qs_of {fuel : Nat} {v : Value} {x : DataW H × List MemPlace} (h : DataW.trod enc Tryz.prog w 0 (fun _ => true) true fuel 88 [v] = some x) :
    ∃ (A : Option Addr) (len cap : Nat) (qs : List Q), v = .slice A len cap ∧ Qs w w.heap.size A len qs := by
  rcases open_slice_fields Tryz.underlying88 Tryz.underlying168 (by kernel_rfl) (by kernel_rfl) h with ⟨hcs, _⟩ | ⟨a, len, cap, m, D, Pl, hcs, _, hl, hm, hmm, _, hf⟩
  · injection hcs with hcs _
    exact ⟨none, 0, 0, [], hcs, rfl, Nat.zero_le _, by simp, by intro h; omega⟩
  · injection hcs with hcs _
    simp only [if_true] at hmm
    have hq : ∀ i, i < len → ∃ q : Q, q.fit w w.heap.size ∧ w.cell? (a.add (i * 3)) = some (.string q.s) ∧ w.cell? (a.add (i * 3 + 1)) = some (.int .i64 q.lv) ∧ w.cell? (a.add (i * 3 + 2)) = some (.slice q.A q.n q.c) := by
      intro i hi
      obtain ⟨ys, n, _, _, _, hj⟩ := hf i (by omega)
      obtain ⟨v0, y0, hc0, _, ht0⟩ := hj 0 _ rfl
      obtain ⟨v1, y1, hc1, _, ht1⟩ := hj 1 _ rfl
      obtain ⟨v2, y2, hc2, _, ht2⟩ := hj 2 _ rfl
      obtain ⟨s, hs, _, hsz⟩ := DataW.trod_string Tryz.underlying9 ht0
      obtain ⟨z, hz, _, hwz⟩ := DataW.trod_int Tryz.underlying3 ht1
      obtain ⟨A, gn, gc, gl, hv2, hgn, hgr⟩ := reads_of ht2
      injection hs with hs _
      injection hz with hz _
      subst hs hz hv2
      refine ⟨⟨s, z, A, gn, gc, gl⟩, ⟨hsz, hgn, ?_, ?_, hgr⟩, by simpa using hc0, hc1, hc2⟩
      · exact (wf64 hwz).1
      · exact (wf64 hwz).2
    obtain ⟨f, hf'⟩ := Classical.skolem.1 (fun i => show ∃ q : Q, i < len → (q.fit w w.heap.size ∧ w.cell? (a.add (i * 3)) = some (.string q.s) ∧ w.cell? (a.add (i * 3 + 1)) = some (.int .i64 q.lv) ∧ w.cell? (a.add (i * 3 + 2)) = some (.slice q.A q.n q.c)) by
      by_cases hi : i < len
      · obtain ⟨q, hq⟩ := hq i hi; exact ⟨q, fun _ => hq⟩
      · exact ⟨⟨ByteArray.empty, 0, none, 0, 0, []⟩, fun h => absurd h hi⟩)
    refine ⟨some a, len, cap, (List.range len).map f, hcs, by simp, by omega, ?_, fun hl0 => ⟨a, rfl, ?_, fun k hk => ?_⟩⟩
    · intro q hq
      obtain ⟨i, hi, rfl⟩ := List.mem_map.1 hq
      exact (hf' i (List.mem_range.1 hi)).1
    · have := cell_lt (hf' 0 hl0).2.1
      rw [block_of_add] at this
      exact this
    · have hk' : k < len := by simpa using hk
      obtain ⟨_, h0, h1, h2⟩ := hf' k hk'
      rw [add_more _ _ _ (by omega)] at h1 h2
      simp only [List.getElem_map, List.getElem_range]
      exact ⟨h0, h1, h2⟩
end
end Go.Proofs.YtcoplbaopaigcaaGreat
