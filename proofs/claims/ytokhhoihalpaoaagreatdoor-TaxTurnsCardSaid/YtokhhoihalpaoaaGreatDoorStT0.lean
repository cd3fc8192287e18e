/- Contracts of functions, walked. -/
import Derived.Shelf.Spec.TrailingZeros
import Derived.Shelf.Strings.Builder1
import Derived.Shelf.Strings.Builder2
import Derived.Shelf.Strings.OnBuilder
import Derived.Test.YtokhhoihalpaoaaGreatDoorProg
import Derived.Test.YtokhhoihalpaoaaGreatDoorAwA
import Derived.Test.YtokhhoihalpaoaaGreatDoorAmD
set_option linter.all false
/-
  DERIVED: THE SHELF's CONTRACTS AT THIS DUMP, IN PLAIN WORDS (tools/lay-plain.mjs out of 'TryzShelf.lean', which tools/lay-shelf.mjs wrote): THE SAME DECLARATIONS UNDER THE SAME NAMES: 'import', 'namespace', 'open', 'def', 'theorem' AND NOTHING ELSE: no command of the shelf's: FOR A HAND-IN. Each laying: the table of numbers ('.._ren') and one theorem, a field a fact of the dump's own or the kernel's comparison; each contract: ONE APPLICATION.
-/
namespace Go.Proofs
open Go.Shelf
def Tryz.lays27_ren : Go.Shelf.Ren := ⟨fun | 27 => 193 | 28 => 216 | 29 => 217 | n => n, fun | 25 => 181 | 3 => 3 | 27 => 113 | 22 => 104 | 4 => 4 | 53 => 285 | 0 => 0 | 5 => 5 | 54 => 286 | n => n, fun | 0 => 0 | 1 => 1 | n => n⟩
theorem Tryz.lays27 : Go.Proofs.Lays7.n27 Tryz.prog Tryz.lays27_ren := {
  mixed := by kernel_rfl
  f27 := Tryz.func193.trans (congrArg some (by kernel_rfl))
  f28 := Tryz.func216.trans (congrArg some (by kernel_rfl))
  f29 := Tryz.func217.trans (congrArg some (by kernel_rfl))
  t0 := Tryz.underlying0
  a0 := Tryz.isAgg0
  z0 := Tryz.sizeOf0
  v0 := Tryz.zeroValue0
  i0 := by kernel_rfl
  t3 := Tryz.underlying3
  a3 := Tryz.isAgg3
  z3 := Tryz.sizeOf3
  v3 := Tryz.zeroValue3
  i3 := by kernel_rfl
  t4 := Tryz.underlying4
  a4 := Tryz.isAgg4
  z4 := Tryz.sizeOf4
  v4 := Tryz.zeroValue4
  i4 := by kernel_rfl
  t5 := Tryz.underlying5
  a5 := Tryz.isAgg5
  z5 := Tryz.sizeOf5
  v5 := Tryz.zeroValue5
  i5 := by kernel_rfl
  t22 := Tryz.underlying104
  a22 := Tryz.isAgg104
  z22 := Tryz.sizeOf104
  v22 := Tryz.zeroValue104
  i22 := by kernel_rfl
  t25 := Tryz.underlying181
  a25 := Tryz.isAgg181
  z25 := Tryz.sizeOf181
  v25 := Tryz.zeroValue181
  i25 := by kernel_rfl
  t27 := Tryz.underlying113
  a27 := Tryz.isAgg113
  z27 := Tryz.sizeOf113
  v27 := Tryz.zeroValue113
  i27 := by kernel_rfl
  t53 := Tryz.underlying285
  a53 := Tryz.isAgg285
  z53 := Tryz.sizeOf285
  v53 := Tryz.zeroValue285
  i53 := by kernel_rfl
  t54 := Tryz.underlying286
  a54 := Tryz.isAgg286
  z54 := Tryz.sizeOf286
  g0 := by kernel_rfl
  g1 := by kernel_rfl }
open Go.RowKit in
theorem Tryz.bits_TrailingZeros (x : Nat) (hx : x < 18446744073709551616) (w : World) (hT : x ≠ 0 → TabAt 1 Lib.deBruijn64tab w) :
    Calls Tryz.prog 193 #[.int .u64 x] w fun e w' => e = .returned (.int .i64 (Lib.ctz 64 x)) ∧ w' = w := Any7.bits_TrailingZeros Tryz.lays27 x hx w hT
def Tryz.lays156_ren : Go.Shelf.Ren := ⟨fun | 156 => 142 | 165 => 182 | 166 => 183 | 169 => 184 | 240 => 204 | 241 => 205 | 276 => 226 | 277 => 227 | n => n, fun | 31 => 22 | 9 => 9 | 3 => 3 | 4 => 4 | 0 => 0 | 20 => 20 | 72 => 242 | 76 => 246 | 70 => 240 | 37 => 112 | 75 => 245 | 127 => 260 | 164 => 276 | 5 => 5 | 80 => 248 | n => n, fun | n => n⟩
theorem Tryz.lays156 : Go.Proofs.Lays.n156 Tryz.prog Tryz.lays156_ren := {
  mixed := by kernel_rfl
  f156 := Tryz.func142.trans (congrArg some (by kernel_rfl))
  f165 := Tryz.func182.trans (congrArg some (by kernel_rfl))
  f166 := Tryz.func183.trans (congrArg some (by kernel_rfl))
  f169 := Tryz.func184.trans (congrArg some (by kernel_rfl))
  f240 := Tryz.func204.trans (congrArg some (by kernel_rfl))
  f241 := Tryz.func205.trans (congrArg some (by kernel_rfl))
  f276 := Tryz.func226.trans (congrArg some (by kernel_rfl))
  f277 := Tryz.func227.trans (congrArg some (by kernel_rfl))
  t0 := Tryz.underlying0
  a0 := Tryz.isAgg0
  z0 := Tryz.sizeOf0
  v0 := Tryz.zeroValue0
  t3 := Tryz.underlying3
  a3 := Tryz.isAgg3
  z3 := Tryz.sizeOf3
  v3 := Tryz.zeroValue3
  t4 := Tryz.underlying4
  a4 := Tryz.isAgg4
  z4 := Tryz.sizeOf4
  v4 := Tryz.zeroValue4
  t9 := Tryz.underlying9
  a9 := Tryz.isAgg9
  z9 := Tryz.sizeOf9
  v9 := Tryz.zeroValue9
  t20 := Tryz.underlying20
  a20 := Tryz.isAgg20
  z20 := Tryz.sizeOf20
  v20 := Tryz.zeroValue20
  t31 := Tryz.underlying22
  a31 := Tryz.isAgg22
  z31 := Tryz.sizeOf22
  v31 := Tryz.zeroValue22
  t37 := Tryz.underlying112
  a37 := Tryz.isAgg112
  z37 := Tryz.sizeOf112
  v37 := Tryz.zeroValue112
  t70 := Tryz.underlying240
  a70 := Tryz.isAgg240
  z70 := Tryz.sizeOf240
  v70 := Tryz.zeroValue240
  t72 := Tryz.underlying242
  a72 := Tryz.isAgg242
  z72 := Tryz.sizeOf242
  v72 := Tryz.zeroValue242
  t75 := Tryz.underlying245
  a75 := Tryz.isAgg245
  z75 := Tryz.sizeOf245
  v75 := Tryz.zeroValue245
  t76 := Tryz.underlying246
  a76 := Tryz.isAgg246
  z76 := Tryz.sizeOf246
  v76 := Tryz.zeroValue246
  t127 := Tryz.underlying260
  a127 := Tryz.isAgg260
  z127 := Tryz.sizeOf260
  v127 := Tryz.zeroValue260
  t164 := Tryz.underlying276
  a164 := Tryz.isAgg276
  z164 := Tryz.sizeOf276
  v164 := Tryz.zeroValue276 }
theorem Tryz.Builder_Extra_156 : Builder.Extra Tryz.prog Tryz.lays156_ren := {
  sizeBuilder := by kernel_rfl
  liesBuilder := by kernel_rfl
  t5 := Tryz.underlying5
  a5 := Tryz.isAgg5
  z5 := Tryz.sizeOf5
  v5 := Tryz.zeroValue5
  infoByte := by kernel_rfl
  cellsByte := by kernel_rfl
  sizeByte := by kernel_rfl
  neB5 := by decide }
open Go.RowKit in
theorem Tryz.strings_Join (bk o c : Nat) (xs : List ByteArray) (sep : ByteArray) (w : World) (hcells : ∀ (j : Nat) x, xs[j]? = some x → w.cell? ⟨bk, o + j, none⟩ = some (.string x)) (hbk : bk < w.heap.size) (hN : xs.length ≤ 140737488355328) (hcap : xs.length ≤ c) (hlen : (Lib.join (xs.map (·.data.toList)) sep.data.toList).length ≤ 140737488355328) :
    Calls Tryz.prog 142 #[.slice (some ⟨bk, o, none⟩) xs.length c, .string sep] w fun e w' => e = .returned (.string ⟨(Lib.join (xs.map (·.data.toList)) sep.data.toList).toArray⟩) ∧ Below w.heap.size w w' := Any.strings_Join Tryz.lays156 Tryz.Builder_Extra_156 bk o c xs sep w hcells hbk hN hcap hlen
end Go.Proofs
namespace Go.Proofs.Tryz
open Go Go.Am Go.RowKit
set_option maxRecDepth 100000


theorem tab_at {B : Nat} {w : World} (h : Laid B w) : TabAt 1 Lib.deBruijn64tab w := fun j hj => by
  obtain ⟨_, h2⟩ := h (1, Lib.deBruijn64tab.map fun (n : Nat) => .int .u8 n) (by rw [laidTabs]; exact List.mem_cons_self ..)
  refine h2 j _ ?_
  rw [List.getElem?_map, List.getElem?_eq_getElem hj, Option.map_some]
  simp [List.getD, List.getElem?_eq_getElem hj]

theorem tz_calls (n : Nat) (hn : n < 18446744073709551616) {w : World} (h : Laid w.heap.size w) :
    Calls Tryz.prog 193 #[.int .u64 n] w fun e w' => e = .returned (.int .i64 (Lib.ctz 64 n)) ∧ Below w.heap.size w w' :=
  (Tryz.bits_TrailingZeros n hn w fun _ => tab_at h).mono fun _ _ ⟨he, hw⟩ => ⟨he, hw ▸ Below.refl _ _⟩

theorem callOK_of {P : Program} {g : FuncId} {args : List Value} {H : AHeap} {v : Value} (hv : plainV 6 v = true)
    (h : ∀ (ρ : Ren) (B : Nat) (w0 w : World) (args' : List Value), HR P ρ H B w0 w → VL P ρ args args' → Calls P g args'.toArray w fun e w' => e = .returned v ∧ Below w.heap.size w w') : CallOK P false [] g args H [⟨.normal, ⟨.e, []⟩, v, H⟩] := by
  intro ρ B w0 w args' hHR _ hva
  refine CallsIn.mono (callsIn_wide.2 (h ρ B w0 w args' hHR hva)) ?_
  rintro e w' ⟨rfl, hb⟩
  refine ⟨_, List.mem_cons_self .., ρ, v, rfl, Le.refl _, ?_, plain_refl 6 hv⟩
  have hlt : ∀ (i : Nat) x, ρ[i]? = some (some x) → x.b < w.heap.size := by
    intro i x hx
    obtain ⟨_, _, o', ho, _⟩ := hHR.live i x hx
    exact (Array.getElem?_eq_some_iff.1 ho).1
  refine ⟨hHR.len, fun i x hx => ?_, hHR.dead, hHR.inj, hHR.base.trans (hb.mono hHR.bound), Nat.le_trans hHR.bound hb.size, hHR.laid⟩
  obtain ⟨h1, h2, o', ho, hor⟩ := hHR.live i x hx
  exact ⟨h1, h2, o', by rw [hb.block _ (hlt i x hx)]; exact ho, hor⟩

theorem strs_len : ∀ {l : List Value} {xs : List ByteArray}, strsOf l = some xs → xs.length = l.length
  | [], xs, h => by simp [strsOf] at h; subst h; rfl
  | .string s :: t, xs, h => by
    simp only [strsOf] at h
    split at h
    · rename_i l hl; cases h; simp [strs_len hl]
    · cases h
  | .bool _ :: t, xs, h => by simp [strsOf] at h
  | .int _ _ :: t, xs, h => by simp [strsOf] at h
  | .float _ _ :: t, xs, h => by simp [strsOf] at h
  | .complex _ _ _ :: t, xs, h => by simp [strsOf] at h
  | .pointer _ :: t, xs, h => by simp [strsOf] at h
  | .slice _ _ _ :: t, xs, h => by simp [strsOf] at h
  | .map _ :: t, xs, h => by simp [strsOf] at h
  | .chan _ :: t, xs, h => by simp [strsOf] at h
  | .func _ _ _ :: t, xs, h => by simp [strsOf] at h
  | .nilFunc :: t, xs, h => by simp [strsOf] at h
  | .iface _ _ :: t, xs, h => by simp [strsOf] at h
  | .nilIface :: t, xs, h => by simp [strsOf] at h
  | .agg _ :: t, xs, h => by simp [strsOf] at h
  | .tuple _ :: t, xs, h => by simp [strsOf] at h

theorem strs_vl {P : Program} {ρ : Ren} : ∀ {l l' : List Value} {xs : List ByteArray}, strsOf l = some xs → VL P ρ l l' → ∀ (j : Nat) x, xs[j]? = some x → l'[j]? = some (.string x) := by
  intro l
  induction l with
  | nil => intro l' xs h hv j x hj; simp [strsOf] at h; subst h; simp at hj
  | cons a t ih =>
    intro l' xs h hv j x hj
    cases a <;> try (simp [strsOf] at h; done)
    rename_i s
    simp only [strsOf] at h
    split at h
    · rename_i l2 hl
      cases h
      cases hv with
      | cons h1 h2 =>
        cases h1
        cases j with
        | zero => simp at hj; subst hj; rfl
        | succ j => simpa using ih hl h2 j x (by simpa using hj)
    · cases h

theorem cell_lt {w : World} {a : Addr} {v : Value} (h : w.cell? a = some v) : a.block < w.heap.size := by
  unfold World.cell? at h
  split at h
  · rename_i hc; exact (Array.getElem?_eq_some_iff.1 hc).1
  · cases h

theorem join_calls {ρ : Ren} {H : AHeap} {B : Nat} {w0 w : World} {a : Addr} {n c : Nat} {sep : ByteArray} {l : List Value} {xs : List ByteArray} {v1 : Value} (h : HR Tryz.prog ρ H B w0 w) (hv : VR Tryz.prog ρ (.slice (some a) (n + 1) c) v1)
    (hc : cellsAt H a.block a.off (n + 1) = some l) (hs : strsOf l = some xs) (hn : n + 1 ≤ 140737488355328) (hj : (Lib.join (xs.map (·.data.toList)) sep.data.toList).length ≤ 140737488355328) :
    Calls Tryz.prog 142 #[v1, .string sep] w fun e w' => e = .returned (.string ⟨(Lib.join (xs.map (·.data.toList)) sep.data.toList).toArray⟩) ∧ Below w.heap.size w w' := by
  obtain ⟨a', c', rfl, hoff, hsp, hir, hcc⟩ : ∃ a' c', v1 = .slice (some a') (n + 1) c' ∧ a'.off = a.off ∧ a'.spot = none ∧ IR ρ a.block a'.block ∧ n + 1 ≤ c' := by
    cases hv with
    | slice h1 h2 h3 h4 h5 h6 h7 => exact ⟨_, _, rfl, h3, h2, h4, Nat.le_trans h5 h6⟩
    | sliceX h1 h2 h3 h4 h5 => exact ⟨_, _, rfl, h3, h2, h4, h5⟩
  obtain ⟨l', hl, hvl, hat⟩ := cells_spec h hir hoff hsp hc
  obtain ⟨bk, o, sp⟩ := a'
  simp only at hsp hoff
  subst hsp
  have hxl : xs.length = n + 1 := by rw [strs_len hs, hvl.length, hl]
  have hcells : ∀ (j : Nat) x, xs[j]? = some x → w.cell? ⟨bk, o + j, none⟩ = some (.string x) := fun j x hx => by
    have h9 := hat j _ (strs_vl hs hvl j x hx)
    rcases Nat.eq_zero_or_pos j with rfl | hj0
    · simpa [Addr.add] using h9
    · simpa [Addr.add, show j ≠ 0 by omega] using h9
  have hbk : bk < w.heap.size := by
    have h0 := hcells 0 xs[0] (by rw [List.getElem?_eq_getElem (by omega)])
    exact cell_lt h0
  have := Tryz.strings_Join bk o c' xs sep w hcells hbk (by omega) (by omega) hj
  rw [hxl] at this
  exact this

theorem pure_ok : PureOK Tryz.prog := by
  intro g args H v h
  unfold pureT at h
  split at h
  · rename_i hg
    obtain rfl : g = 193 := Nat.eq_of_beq_eq_true hg
    split at h
    · rename_i n
      split at h
      · rename_i hb
        cases h
        have hn : n < 18446744073709551616 := by
          have := Nat.le_of_ble_eq_true (n := n + 1) hb
          omega
        refine callOK_of rfl fun ρ B w0 w args' hHR hva => ?_
        cases hva with
        | cons h1 h2 =>
          cases h1; cases h2
          exact tz_calls n hn (hHR.laid.below hHR.base hHR.bound)
      · cases h
    · cases h
  · split at h
    · rename_i hg
      obtain rfl : g = 142 := Nat.eq_of_beq_eq_true hg
      split at h
      · rename_i a n c sep
        split at h
        · rename_i l hl
          split at h
          · rename_i xs hxs
            split at h
            · rename_i hb
              cases h
              simp only [Bool.and_eq_true] at hb
              have h1 := Nat.le_of_ble_eq_true hb.1
              have h2 := Nat.le_of_ble_eq_true hb.2
              refine callOK_of rfl fun ρ B w0 w args' hHR hva => ?_
              cases hva with
              | cons h3 h4 =>
                cases h4 with
                | cons h5 h6 =>
                  cases h5; cases h6
                  exact join_calls hHR h3 hl hxs (by omega) (by omega)
            · cases h
          · cases h
        · cases h
      · cases h
    · cases h
end Go.Proofs.Tryz
