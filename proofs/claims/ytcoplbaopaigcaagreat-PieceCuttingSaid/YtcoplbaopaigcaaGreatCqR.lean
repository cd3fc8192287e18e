/- PieceCutting: for every text and lengths, what the text is cut into has its own order, and together with it the pieces are the text; the arguments are left as they were. No condition. -/
import Derived.Test.YtcoplbaopaigcaaGreatChecked
import Derived.Test.YtcoplbaopaigcaaGreatRows
import Derived.Below
import Derived.Carry
import Derived.Test.YtcoplbaopaigcaaGreatPqH
import Derived.Test.YtcoplbaopaigcaaGreatCqQ
import Derived.Test.YtcoplbaopaigcaaGreatAmS
set_option linter.all false
namespace Go.Proofs.YtcoplbaopaigcaaGreat
open Go.ChangeShapes Go.WideShapes Go.ChangeAt Go.RowKit Go.Joins
theorem own : ownKnob Tryz.prog.godebug = none := by kernel_rfl
theorem laidOut : laidOutB Tryz.prog = true := by kernel_rfl
section
variable {H : Type} {enc : TypeId × Value → H} {w : World}
theorem reads_k {T e : TypeId} {q : IntKind} (hT : Tryz.prog.underlying T = some (.slice e)) (he : Tryz.prog.underlying e = some (.int q)) (hC : Tryz.prog.cellsOf e = 1) {fuel : Nat} {v : Value} {x : DataW H × List MemPlace} (h : DataW.trod enc Tryz.prog w 0 (fun _ => true) true fuel T [v] = some x) :
    ∃ (A : Option Addr) (len cap : Nat) (gl : List Int), v = .slice A len cap ∧ len ≤ maxLen ∧ Reads w w.heap.size 1 A len (gl.map (Value.int q)) ∧ ∀ z ∈ gl, (Lit.int q z).wf = true := by
  rcases open_ints hT he hC h with ⟨hcs, _⟩ | ⟨a, l, c, zs, hcs, _, hl, hm, hz, _, hcell, hwz⟩
  · injection hcs with hcs _
    exact ⟨none, 0, 0, [], hcs, Nat.zero_le _, Reads.none_, by simp⟩
  · injection hcs with hcs _
    simp only [if_true] at hz
    refine ⟨some a, l, c, zs.take l, hcs, by omega, ⟨by simp; omega, fun hl0 => ⟨a, rfl, ?_, fun j u hu => ?_⟩⟩, ?_⟩
    · have := cell_lt (hcell 0 (by omega))
      rw [block_of_add] at this
      exact this
    · rw [List.getElem?_map] at hu
      obtain ⟨z, hz1, hz2⟩ := Option.map_eq_some_iff.1 hu
      rw [List.getElem?_take] at hz1
      split at hz1
      · have hj : j < zs.length := (List.getElem?_eq_some_iff.1 hz1).1
        rw [hcell j hj, ← hz2, List.getD_eq_getElem?_getD, hz1]
        rfl
      · cases hz1
    · intro z hz1
      exact hwz z (List.mem_of_mem_take hz1)
end
theorem wf16 {z : Int} (h : (Lit.int .u16 z).wf = true) : 0 ≤ z ∧ z ≤ 65535 := by
  simp [Lit.wf, IntKind.min, IntKind.max, IntKind.bits, IntKind.signed] at h
  omega
theorem wf8 {z : Int} (h : (Lit.int .u8 z).wf = true) : 0 ≤ z ∧ z ≤ 255 := by
  simp [Lit.wf, IntKind.min, IntKind.max, IntKind.bits, IntKind.signed] at h
  omega
set_option maxRecDepth 100000 in
theorem lifted (hsan : ∀ w : World, Calls Tryz.prog 16 #[] w fun e w' => e = .returned (.bool true) ∧ Below w.heap.size w w') (os : Os) (started : os.Started) (H : Type) (enc : TypeId × Value → H) :
    ReturnsInHanded {} Tryz.checked os 13 .any (Rows.pieceCuttingSpec.pre6 enc Tryz.prog Tryz.f13 Rows.pieceCuttingRow.domain false) (Rows.pieceCuttingSpec.post enc Tryz.prog Tryz.f13 false true false false) := by
  refine returnsInHanded_of_change (C := Tryz.checked) own started (by kernel_rfl) Tryz.func13
    (ChangeSpec.witness6 (enc := enc) (C := Tryz.checked) false ⟨#[], #[.slice none 0 0, .slice none 0 0], []⟩ 8 (by kernel_rfl) (by kernel_rfl) (by kernel_rfl) (by kernel_rfl)) ?_
  intro W base args ds gs before hval0 hW hcnd _
  have hval : ∀ (j : Nat) t v, Tryz.f13.params[j]? = some t → args[j]? = some v → Value.okWide Tryz.prog W .any base t v := hval0
  have hW' := hW
  obtain ⟨p, q, hA0, hV, rfl, hfz, hnd⟩ := hW
  have hA : DataW.TrodAll enc Tryz.prog W 0 (fun _ => true) true Tryz.f13.params.toList args.toList ds p := hA0
  rw [Tryz.params13] at hA hval
  obtain ⟨v0, vs0, d0, ds0, p0, q0, hargs, rfl, rfl, h0, r0⟩ := trodAll_cons hA
  obtain ⟨v1, vs1, d1, ds1, p1, q1, rfl, rfl, rfl, h1, r1⟩ := trodAll_cons r0
  obtain ⟨rfl, rfl, rfl⟩ := trodAll_nil r1
  obtain rfl : args = #[v0, v1] := by cases args; simp_all
  obtain ⟨rfl, rfl⟩ := trodVars_none hV
  have k0 := h0
  have lt0 : ∀ x ∈ p0, x.block < W.heap.size := by obtain ⟨m, hm⟩ := k0; exact DataW.trod_lt m _ _ _ hm
  have k1 := h1
  have lt1 : ∀ x ∈ p1, x.block < W.heap.size := by obtain ⟨m, hm⟩ := k1; exact DataW.trod_lt m _ _ _ hm
  obtain ⟨a0, len0, cap0, rfl⟩ := okWide_slice Tryz.underlying112 (hval 0 112 v0 rfl rfl)
  obtain ⟨a1, len1, cap1, rfl⟩ := okWide_slice Tryz.underlying113 (hval 1 113 v1 rfl rfl)
  obtain ⟨ts, hts, hl0, hwt⟩ : ∃ ts : List Int, Reads W W.heap.size 1 a0 len0 (ts.map (Value.int .u16)) ∧ len0 ≤ maxLen ∧ ∀ z ∈ ts, (Lit.int .u16 z).wf = true := by
    obtain ⟨fuel, hf⟩ := h0
    obtain ⟨A, len, cap, gl, hv, hl, hr, hw⟩ := reads_k Tryz.underlying112 Tryz.underlying114 (by kernel_rfl) (v := .slice a0 len0 cap0) (by simpa [Value.cells] using hf)
    injection hv with e1 e2 e3
    subst e1 e2 e3
    exact ⟨gl, hr, hl, hw⟩
  obtain ⟨ls, hls, hl1, hwl⟩ : ∃ ls : List Int, Reads W W.heap.size 1 a1 len1 (ls.map (Value.int .u8)) ∧ len1 ≤ maxLen ∧ ∀ z ∈ ls, (Lit.int .u8 z).wf = true := by
    obtain ⟨fuel, hf⟩ := h1
    obtain ⟨A, len, cap, gl, hv, hl, hr, hw⟩ := reads_k Tryz.underlying113 Tryz.underlying5 (by kernel_rfl) (v := .slice a1 len1 cap1) (by simpa [Value.cells] using hf)
    injection hv with e1 e2 e3
    subst e1 e2 e3
    exact ⟨gl, hr, hl, hw⟩
  clear hA0 hval0
  refine (cutting_any hsan a0 len0 cap0 ts a1 len1 cap1 ls W hts hls hl0 hl1 (fun t h => wf16 (hwt t h)) (fun t h => wf8 (hwl t h))).mono fun e W' ⟨he, bel⟩ => ?_
  subst he
  exact ⟨_, rfl, _, _, _, [], _, [], hW', trodAll_mk1 (shut_bool Tryz.underlying4 _), (trodAll_cons_mk (Below.trod laidOut (by kernel_rfl) (of_decide_eq_true (by kernel_rfl)) k0 bel lt0) (trodAll_cons_mk (Below.trod laidOut (by kernel_rfl) (of_decide_eq_true (by kernel_rfl)) k1 bel lt1) trodAll_mk0)), rfl, bel.frame _, fun h => by cases h⟩
theorem over (hsan : ∀ w : World, Calls Tryz.prog 16 #[] w fun e w' => e = .returned (.bool true) ∧ Below w.heap.size w w') : Rows.pieceCuttingRow.holds Tryz.pinned (OpenSpec.ofChange Rows.pieceCuttingSpec) :=
  OpenClaim.holds_of_wide 13 Tryz.f13 rfl rfl rfl rfl rfl rfl rfl ⟨rfl, rfl, rfl, rfl, rfl⟩ rfl rfl rfl rfl rfl (by kernel_rfl) Tryz.func13 (by kernel_rfl)
    (of_decide_eq_true (by kernel_rfl)) (by unfold Func.isWrapper; first | (rw [if_pos (by decide +kernel)]; kernel_rfl) | (rw [if_neg (by decide +kernel)]; exact ⟨rfl, rfl⟩))
    (fun os started H enc _ => lifted hsan os started H enc)
theorem pieceCutting_of (hsan : ∀ w : World, Calls Tryz.prog 16 #[] w fun e w' => e = .returned (.bool true) ∧ Below w.heap.size w w') : Rows.PieceCuttingSaid := over hsan
end Go.Proofs.YtcoplbaopaigcaaGreat
namespace Go.Proofs.YtcoplbaopaigcaaGreat
theorem pieceCutting : Rows.PieceCuttingSaid := pieceCutting_of Go.Proofs.Tryz.sanity_calls
#print axioms pieceCutting
end Go.Proofs.YtcoplbaopaigcaaGreat
