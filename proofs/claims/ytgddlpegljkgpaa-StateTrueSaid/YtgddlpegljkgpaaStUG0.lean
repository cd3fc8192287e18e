/- Contracts of functions, walked. -/
import Derived.Test.YtgddlpegljkgpaaStUF0
import Derived.Test.YtgddlpegljkgpaaStSN
import Derived.Test.YtgddlpegljkgpaaAwB
import Derived.Test.YtgddlpegljkgpaaStVA
import Derived.Test.YtgddlpegljkgpaaStSF
import Derived.Test.YtgddlpegljkgpaaStTS
import Derived.Test.YtgddlpegljkgpaaStS3
set_option linter.all false
namespace Go.Proofs.Try
open Go Go.Am Go.RowKit Go.Co
set_option maxRecDepth 100000

def GoneIs (H : AHeap) (r : Nat) (ids : List Int) : Prop := ∃ l, MapIs H r l ∧ ∀ k, lookL l k = if k ∈ ids then some (.bool true) else none
theorem GoneIs.get {H : AHeap} {r : Nat} {ids : List Int} (h : GoneIs H r ids) : ∃ l, MapIs H r l ∧ ∀ k, (lookL l k).getD (.bool false) = .bool (decide (k ∈ ids)) := by
  obtain ⟨l, h1, h2⟩ := h
  refine ⟨l, h1, fun k => ?_⟩
  rw [h2]
  by_cases hk : k ∈ ids <;> simp [hk]

end Go.Proofs.Try
namespace Go.Proofs.Try
open Go Go.Am Go.RowKit Go.Co
set_option maxRecDepth 100000

def Bytes (H : AHeap) (v : Value) (l : List Int) : Prop := Cells H v 1 l.length (l.map (Value.int .u8))
def Bools (H : AHeap) (v : Value) (l : List Bool) : Prop := Cells H v 1 l.length (l.map Value.bool)
theorem Bytes.ext {H H' : AHeap} {v : Value} {l : List Int} (h : Bytes H v l) (hx : Ext H H') : Bytes H' v l := Cells.ext h hx
theorem Bools.ext {H H' : AHeap} {v : Value} {l : List Bool} (h : Bools H v l) (hx : Ext H H') : Bools H' v l := Cells.ext h hx
theorem Bytes.slice {H : AHeap} {v : Value} {l : List Int} (h : Bytes H v l) : l.length ≤ 9223372036854775807 ∧ ∃ a c, v = .slice a l.length c := by
  obtain ⟨h1, h2, a', c', h3, h4⟩ := h
  exact ⟨h2, a', c', h3⟩
theorem Bools.slice {H : AHeap} {v : Value} {l : List Bool} (h : Bools H v l) : l.length ≤ 9223372036854775807 ∧ ∃ a c, v = .slice a l.length c := by
  obtain ⟨h1, h2, a', c', h3, h4⟩ := h
  exact ⟨h2, a', c', h3⟩
theorem Bytes.at_ {H : AHeap} {a : Option Addr} {n c : Nat} {l : List Int} (h : Bytes H (.slice a n c) l) {k : Nat} (hk : k < l.length) : ∃ b o sp, a = some ⟨b, o, sp⟩ ∧ b < H.n ∧ cellAt H b (o + k) = some (.int .u8 l[k]) := by
  obtain ⟨h1, h2, a', c', h3, h4⟩ := h
  cases h3
  obtain ⟨b, o, sp, h5, h6, h7⟩ := h4 (by omega)
  exact ⟨b, o, sp, h5, h6, h7 k _ (by simp [hk])⟩
theorem Bools.at_ {H : AHeap} {a : Option Addr} {n c : Nat} {l : List Bool} (h : Bools H (.slice a n c) l) {k : Nat} (hk : k < l.length) : ∃ b o sp, a = some ⟨b, o, sp⟩ ∧ b < H.n ∧ cellAt H b (o + k) = some (.bool l[k]) := by
  obtain ⟨h1, h2, a', c', h3, h4⟩ := h
  cases h3
  obtain ⟨b, o, sp, h5, h6, h7⟩ := h4 (by omega)
  exact ⟨b, o, sp, h5, h6, h7 k _ (by simp [hk])⟩

structure Two (b0 : Nat) (H : AHeap) (dv wv : Value) (ds ws : List Int) : Prop where
  d : Own H b0 dv 3 1 (ds.map (Value.int .i64))
  w : Own H b0 wv 3 1 (ws.map (Value.int .i64))
  sep : ∀ b n b' n', dv = .slice (some ⟨b, 0, none⟩) n n → 0 < n → wv = .slice (some ⟨b', 0, none⟩) n' n' → 0 < n' → b ≠ b'
theorem Two.nil {b0 : Nat} {H : AHeap} : Two b0 H (.slice none 0 0) (.slice none 0 0) [] [] := ⟨Own.nil, Own.nil, fun b n b' n' h => by cases h⟩
theorem Two.ext {b0 : Nat} {H H' : AHeap} {dv wv : Value} {ds ws : List Int} (h : Two b0 H dv wv ds ws) (hx : Ext H H') : Two b0 H' dv wv ds ws := ⟨h.d.ext hx, h.w.ext hx, h.sep⟩
theorem Two.upd {b0 : Nat} {H : AHeap} {dv wv : Value} {ds ws : List Int} (h : Two b0 H dv wv ds ws) {i : Nat} (hi : i < b0) (o : AObj) : Two b0 (H.upd i o) dv wv ds ws := ⟨own_upd h.d hi, own_upd h.w hi, h.sep⟩
theorem Two.appD {b0 : Nat} {H H' : AHeap} {dv wv v2 : Value} {ds ws : List Int} {x : Int} (h : Two b0 H dv wv ds ws) (hb : b0 ≤ H.n) (ho : Own H' H.n v2 3 1 (ds.map (Value.int .i64) ++ [.int .i64 x])) (hg : Grown H H' b0 dv) : Two b0 H' v2 wv (ds ++ [x]) ws ∧ ∀ i, i < b0 → H'.get i = H.get i := by
  refine ⟨⟨by rw [List.map_append]; exact ho.mono hb, own_at h.w hg.1 fun i n hv hn => ?_, fun b n b' n' hv hn hv' hn' => ?_⟩, fun i hi => hg.2 i (by omega) fun b n hv hn => ?_⟩
  · exact hg.2 i (own_block h.w hv hn).2.1 fun b n2 hv2 hn2 => (h.sep b n2 i n hv2 hn2 hv hn).symm
  · have h1 := (own_block ho hv hn).1
    have h2 := (own_block h.w hv' hn').2.1
    omega
  · have := (own_block h.d hv hn).1
    omega
theorem Two.appW {b0 : Nat} {H H' : AHeap} {dv wv v2 : Value} {ds ws : List Int} {x : Int} (h : Two b0 H dv wv ds ws) (hb : b0 ≤ H.n) (ho : Own H' H.n v2 3 1 (ws.map (Value.int .i64) ++ [.int .i64 x])) (hg : Grown H H' b0 wv) : Two b0 H' dv v2 ds (ws ++ [x]) ∧ ∀ i, i < b0 → H'.get i = H.get i := by
  refine ⟨⟨own_at h.d hg.1 fun i n hv hn => ?_, by rw [List.map_append]; exact ho.mono hb, fun b n b' n' hv hn hv' hn' => ?_⟩, fun i hi => hg.2 i (by omega) fun b n hv hn => ?_⟩
  · exact hg.2 i (own_block h.d hv hn).2.1 fun b n2 hv2 hn2 => h.sep i n b n2 hv hn hv2 hn2
  · have h1 := (own_block h.d hv hn).2.1
    have h2 := (own_block ho hv' hn').1
    omega
  · have := (own_block h.w hv hn).1
    omega

theorem conv91 {dst : Option Tmp} {x : Operand} {ty : TypeId} {src : String} {af : Array Edge} {g : Option (Nat × Bool)} {a : Int} (ev : Operand → Value) (hx : ev x = .int .u16 a) : pureOf Try.prog (execOp ev ⟨dst, .convert 91 3 x, ty, src, af, g⟩) = some (.value (.int .i64 (IntKind.i64.wrap a))) := by
  simp only [execOp, hx]
  kernel_rfl
def convW {β : Type} (v : Value) (H : AHeap) (kk : K β) (other : Unit → Option β) : Option β := match v with
  | .int .u16 a => kk (.int .i64 (IntKind.i64.wrap a)) H
  | _ => other ()
@[go_sem] theorem convW_u16 {β : Type} {a : Int} {H : AHeap} {kk : K β} {other : Unit → Option β} : convW (.int .u16 a) H kk other = kk (.int .i64 (IntKind.i64.wrap a)) H := rfl
theorem aPlain_conv91 {β : Type} {dst : Option Tmp} {x : Operand} {ty : TypeId} {src : String} {af : Array Edge} {g : Option (Nat × Bool)} {ev : Operand → Value} {H : AHeap} {kk : K β} : aPlain Try.prog ⟨dst, .convert 91 3 x, ty, src, af, g⟩ ev H kk = convW (ev x) H kk fun _ => aPlain Try.prog ⟨dst, .convert 91 3 x, ty, src, af, g⟩ ev H kk := by
  unfold convW
  split
  · rename_i a hx
    rw [plain_of rfl]
    have e1 : ((Op.convert 91 3 x).operands.toList.all fun x => plainV 6 (ev x)) = true := by
      show ([x].all fun x => plainV 6 (ev x)) = true
      simp [hx]
      rfl
    rw [if_pos e1, conv91 ev hx]
    rfl
  · rfl
@[go_sem] theorem opP_conv91 {cx : Cx} {H : AHeap} {f : AF} {k : AF → AHeap → Prop} {dst : Option Tmp} {x : Operand} {ty : TypeId} {src : String} {af : Array Edge} {g : Option (Nat × Bool)} : opP Try.prog cx ⟨dst, .convert 91 3 x, ty, src, af, g⟩ f H k = Holds (convW (f.eval x) H (fun v H' => some (putP cx.sz f dst v fun f' => k f' H')) fun _ => aPlain Try.prog ⟨dst, .convert 91 3 x, ty, src, af, g⟩ f.eval H fun v H' => some (putP cx.sz f dst v fun f' => k f' H')) :=
  opP_convert.trans (congrArg Holds aPlain_conv91)
theorem u16_in {l : Int} (h : (Lit.int .u16 l).wf = true) : 0 ≤ l ∧ l ≤ 65535 := by
  have h2 : IntKind.u16.min ≤ l ∧ l ≤ IntKind.u16.max := by simpa [Lit.wf] using h
  exact h2
end Go.Proofs.Try
namespace Go.Proofs.Try
open Go Go.Am Go.RowKit Go.Co
set_option maxRecDepth 100000

theorem conv5 {dst : Option Tmp} {x : Operand} {ty : TypeId} {src : String} {af : Array Edge} {g : Option (Nat × Bool)} {a : Int} (ev : Operand → Value) (hx : ev x = .int .u8 a) : pureOf Try.prog (execOp ev ⟨dst, .convert 5 3 x, ty, src, af, g⟩) = some (.value (.int .i64 (IntKind.i64.wrap a))) := by
  simp only [execOp, hx]
  kernel_rfl
def convV {β : Type} (v : Value) (H : AHeap) (kk : K β) (other : Unit → Option β) : Option β := match v with
  | .int .u8 a => kk (.int .i64 (IntKind.i64.wrap a)) H
  | _ => other ()
@[go_sem] theorem convV_u8 {β : Type} {a : Int} {H : AHeap} {kk : K β} {other : Unit → Option β} : convV (.int .u8 a) H kk other = kk (.int .i64 (IntKind.i64.wrap a)) H := rfl
theorem aPlain_conv5 {β : Type} {dst : Option Tmp} {x : Operand} {ty : TypeId} {src : String} {af : Array Edge} {g : Option (Nat × Bool)} {ev : Operand → Value} {H : AHeap} {kk : K β} : aPlain Try.prog ⟨dst, .convert 5 3 x, ty, src, af, g⟩ ev H kk = convV (ev x) H kk fun _ => aPlain Try.prog ⟨dst, .convert 5 3 x, ty, src, af, g⟩ ev H kk := by
  unfold convV
  split
  · rename_i a hx
    rw [plain_of rfl]
    have e1 : ((Op.convert 5 3 x).operands.toList.all fun x => plainV 6 (ev x)) = true := by
      show ([x].all fun x => plainV 6 (ev x)) = true
      simp [hx]
      rfl
    rw [if_pos e1, conv5 ev hx]
    rfl
  · rfl
@[go_sem] theorem opP_conv5 {cx : Cx} {H : AHeap} {f : AF} {k : AF → AHeap → Prop} {dst : Option Tmp} {x : Operand} {ty : TypeId} {src : String} {af : Array Edge} {g : Option (Nat × Bool)} : opP Try.prog cx ⟨dst, .convert 5 3 x, ty, src, af, g⟩ f H k = Holds (convV (f.eval x) H (fun v H' => some (putP cx.sz f dst v fun f' => k f' H')) fun _ => aPlain Try.prog ⟨dst, .convert 5 3 x, ty, src, af, g⟩ f.eval H fun v H' => some (putP cx.sz f dst v fun f' => k f' H')) :=
  opP_convert.trans (congrArg Holds aPlain_conv5)
theorem u8_in {l : Int} (h : (Lit.int .u8 l).wf = true) : 0 ≤ l ∧ l ≤ 255 := by
  have h2 : IntKind.u8.min ≤ l ∧ l ≤ IntKind.u8.max := by simpa [Lit.wf] using h
  exact h2
end Go.Proofs.Try
namespace Go.Proofs.Try
open Go Go.Am Go.RowKit
set_option maxRecDepth 100000

section
variable {H : AHeap} {ev : Operand → Value} {dst : Option Tmp} {ty t' : TypeId} {src : String} {af : Array Edge} {g : Option (Nat × Bool)} {x y : Operand}
@[go_sem] theorem aBin_boolE {β : Type} {kk : K β} {other : Unit → Option β} {t : TypeId} {a b : Bool} : aBin Try.prog .eql t (.bool a) (.bool b) H kk other = other () := by
  have h : nilEq Try.prog t (.bool a) (.bool b) = none := by
    unfold nilEq
    split <;> simp_all
  simp only [aBin, aEq, h]
end
end Go.Proofs.Try
