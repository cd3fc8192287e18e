/- Contracts of functions, walked. -/
import Derived.Lib.Hide
import Derived.Test.YtokhhoihalpaoaaGreatDoorStS0
import Derived.Test.YtokhhoihalpaoaaGreatDoorAmS
import Derived.Test.YtokhhoihalpaoaaGreatDoorAwB
set_option linter.all false
namespace Go.Proofs.Tryz
open Go Go.Am Go.RowKit
set_option maxRecDepth 100000


theorem head_s {loops : List (Nat × LInfo)} {H : AHeap} : CallS Tryz.prog loops 19 [] H fun r H' => r = .bool true ∧ H' = H := CallS.of_callsL rfl rfl fun w hL => sanity_calls w hL

def win (lo hi n : Int) : Bool := decide (lo ≤ n) && decide (n ≤ hi)
theorem win_iff {lo hi n : Int} : win lo hi n = true ↔ lo ≤ n ∧ n ≤ hi := by simp [win]
theorem within_s {loops : List (Nat × LInfo)} {H : AHeap} {n lo hi : Int} : CallS Tryz.prog loops 100 [.int .i64 n, .int .i64 lo, .int .i64 hi] H fun v H' => v = .bool (win lo hi n) ∧ H' = H := by
  refine CallS.enter' Tryz.func100 rfl Tryz.ntmps100 (by simp) fun f hd hf => ?_
  have f0 := hf 0
  have f1 := hf 1
  have f2 := hf 2
  simp at f0 f1 f2
  clear hf
  unfold win
  repeat' (first|(with_reducible first|refine zA ?_|refine zB fun K hK=>?_|refine zC fun K2 hK2=>?_|refine zD ?_|refine zE ?_|refine zF ?_|refine zG ?_|refine zH ?_|refine zI ?_|refine zM ?_|refine zN ?_|refine zO ?_|refine zP ?_|refine zQ ?_|refine zR ?_)|((with_reducible refine zU (hK _ _ ?_));clear hK K)|((with_reducible refine zV ?_ ?_ fun K1 K3 d hdst h1 h3=>?_);rfl;exact yB rfl;cases hdst;go_simp)|((with_reducible refine zW fun K1 K3 h1 h3=>?_);go_simp)|((first|refine h1 ?_|refine h3 ?_);clear h1 h3 K1 K3)|((first|refine zX (fun hb=>h1 ?_) (fun hb=>h3 ?_)|refine zX (fun hb=>h3 ?_) (fun hb=>h1 ?_))<;>(clear h1 h3 K1 K3;(try have hb2:=yC hb);(try have hb2:=yD hb);(try have hb2:=yE hb);(try have hb2:=yF hb);(try have hb2:=yG hb)))|(refine fun (K2:_→AHeap→Prop) hK2=>?_)|((with_reducible refine zY ?_ ?_);decide)|((with_reducible first|refine zZ ?_ (fun K hK=>?_)|refine yA ?_ (fun K hK=>?_));(focus go_simp;done);go_simp;refine hK _ _ ?_;clear hK K)|(go_simp;(try go_bits);refine hK2 _ _ ?_;clear hK2 K2))
  all_goals (refine ⟨?_, rfl⟩; simp [*])

structure Terms where
  free : Int
  per : Int
  most : Int
  forf : Int
def Terms.val (t : Terms) : Value := .agg #[.int .i64 t.free, .int .i64 t.per, .int .i64 t.most, .int .i64 t.forf]
def Terms.ok (t : Terms) : Bool := win 0 730 t.free && (win t.free 730 t.forf && (win 0 1048576 t.per && win 0 1048576 t.most))
end Go.Proofs.Tryz
namespace Go.Proofs.Tryz
open Go Go.Am Go.RowKit
set_option maxRecDepth 100000


theorem mul_bd {a b A B : Int} (ha : 0 ≤ a) (hA : a ≤ A) (hb : 0 ≤ b) (hB : b ≤ B) : 0 ≤ a * b ∧ a * b ≤ A * B :=
  ⟨Int.mul_nonneg ha hb, Int.mul_le_mul hA hB hb (Int.le_trans ha hA)⟩

theorem wrap_id {n : Int} (h : -9223372036854775808 ≤ n ∧ n ≤ 9223372036854775807) : IntKind.i64.wrap n = n := by rw [IntKind.wrap_i64]; omega
end Go.Proofs.Tryz
namespace Go.Proofs.Tryz
open Go Go.Am Go.RowKit
set_option maxRecDepth 100000


structure Hire where
  price : Int
  pledge : Int
  weeks : Int
  late : Int
def Hire.ok (h : Hire) : Bool := win 0 1048576 h.price && (win 0 1048576 h.pledge && win 0 40 h.weeks)
structure Chg where
  hire : Int
  fine : Int
  pledge : Int
def Chg.val (c : Chg) : Value := .agg #[.int .i64 c.hire, .int .i64 c.fine, .int .i64 c.pledge]
end Go.Proofs.Tryz
namespace Go.Proofs.Tryz
open Go Go.Am Go.RowKit
set_option maxRecDepth 100000


section
variable {H : AHeap} {ev : Operand → Value} {dst : Option Tmp} {ty t' : TypeId} {src : String} {af : Array Edge} {g : Option (Nat × Bool)} {x y : Operand} {β : Type} {kk : K β} {other : Unit → Option β}
@[go_sem] theorem aBin_aggE {t : TypeId} {a b : Array Value} : aBin Tryz.prog .eql t (.agg a) (.agg b) H kk other = other () := by
  have h : nilEq Tryz.prog t (.agg a) (.agg b) = none := by
    unfold nilEq
    split <;> simp_all
  simp only [aBin, aEq, h]
end
end Go.Proofs.Tryz
namespace Go.Proofs.Tryz
open Go Go.Am Go.RowKit
set_option maxRecDepth 100000


section
variable {H : AHeap} {β : Type} {kk : K β} {dst : Option Tmp} {ty : TypeId} {src : String} {af : Array Edge} {g : Option (Nat × Bool)}
noncomputable def quoV (o : Oper) (ev : Operand → Value) (v u : Value) (H : AHeap) (kk : K β) : Option β := match v, u with
  | .int .i64 a, .int .i64 b => if (0 ≤ a ∧ a ≤ 9223372036854775807) ∧ 1 ≤ b then kk (.int .i64 (a / b)) H else plainRest Tryz.prog o ev H kk
  | _, _ => plainRest Tryz.prog o ev H kk
@[go_sem] theorem quoV_int {o : Oper} {ev : Operand → Value} {a b : Int} (ha : 0 ≤ a) (ha2 : a ≤ 9223372036854775807) (hb : 1 ≤ b) : quoV o ev (.int .i64 a) (.int .i64 b) H kk = kk (.int .i64 (a / b)) H := by
  simp only [quoV]; rw [if_pos ⟨⟨ha, ha2⟩, hb⟩]
@[go_sem] theorem aPlain_quoV {t t' : TypeId} {x y : Operand} {ev : Operand → Value} : aPlain Tryz.prog ⟨dst, .binOp .quo t x y t', ty, src, af, g⟩ ev H kk = quoV ⟨dst, .binOp .quo t x y t', ty, src, af, g⟩ ev (ev x) (ev y) H kk := by
  unfold quoV
  split
  · rename_i a b hx hy
    split
    · rename_i h; exact aPlain_quo hx hy h.1 h.2
    · rfl
  · rfl
noncomputable def remV (o : Oper) (ev : Operand → Value) (v u : Value) (H : AHeap) (kk : K β) : Option β := match v, u with
  | .int .i64 a, .int .i64 b => if 0 ≤ a ∧ 1 ≤ b then kk (.int .i64 (a % b)) H else plainRest Tryz.prog o ev H kk
  | _, _ => plainRest Tryz.prog o ev H kk
@[go_sem] theorem remV_int {o : Oper} {ev : Operand → Value} {a b : Int} (ha : 0 ≤ a) (hb : 1 ≤ b) : remV o ev (.int .i64 a) (.int .i64 b) H kk = kk (.int .i64 (a % b)) H := by
  simp only [remV]; rw [if_pos ⟨ha, hb⟩]
@[go_sem] theorem aPlain_remV {t t' : TypeId} {x y : Operand} {ev : Operand → Value} : aPlain Tryz.prog ⟨dst, .binOp .rem t x y t', ty, src, af, g⟩ ev H kk = remV ⟨dst, .binOp .rem t x y t', ty, src, af, g⟩ ev (ev x) (ev y) H kk := by
  unfold remV
  split
  · rename_i a b hx hy
    split
    · rename_i h; exact aPlain_rem hx hy h.1 h.2
    · rfl
  · rfl
end
def convV {β : Type} (q : IntKind) (v : Value) (H : AHeap) (kk : K β) (other : Unit → Option β) : Option β := match v with
  | .int k a => if k = q then kk (.int .i64 (IntKind.i64.wrap a)) H else other ()
  | _ => other ()
@[go_sem] theorem convV_int {β : Type} {q : IntKind} {a : Int} {H : AHeap} {kk : K β} {other : Unit → Option β} : convV q (.int q a) H kk other = kk (.int .i64 (IntKind.i64.wrap a)) H := by simp [convV]
section
variable {β : Type} {dst : Option Tmp} {x : Operand} {ty : TypeId} {src : String} {af : Array Edge} {g : Option (Nat × Bool)} {s : TypeId} {q : IntKind}
theorem aPlain_convG {ev : Operand → Value} {H : AHeap} {kk : K β} (hc : ∀ (ev : Operand → Value) (a : Int), ev x = .int q a → pureOf Tryz.prog (execOp ev ⟨dst, .convert s 3 x, ty, src, af, g⟩) = some (.value (.int .i64 (IntKind.i64.wrap a)))) :
    aPlain Tryz.prog ⟨dst, .convert s 3 x, ty, src, af, g⟩ ev H kk = convV q (ev x) H kk fun _ => aPlain Tryz.prog ⟨dst, .convert s 3 x, ty, src, af, g⟩ ev H kk := by
  unfold convV
  split
  · rename_i k a hx
    split
    · rename_i hk
      subst hk
      rw [plain_of rfl]
      have e1 : ((Op.convert s 3 x).operands.toList.all fun x => plainV 6 (ev x)) = true := by
        show ([x].all fun x => plainV 6 (ev x)) = true
        simp [hx]
        rfl
      rw [if_pos e1, hc ev a hx]
      rfl
    · rfl
  · rfl
theorem conv5 (ev : Operand → Value) (a : Int) (hx : ev x = .int .u8 a) : pureOf Tryz.prog (execOp ev ⟨dst, .convert 5 3 x, ty, src, af, g⟩) = some (.value (.int .i64 (IntKind.i64.wrap a))) := by
  simp only [execOp, hx]
  kernel_rfl
theorem conv106 (ev : Operand → Value) (a : Int) (hx : ev x = .int .u16 a) : pureOf Tryz.prog (execOp ev ⟨dst, .convert 106 3 x, ty, src, af, g⟩) = some (.value (.int .i64 (IntKind.i64.wrap a))) := by
  simp only [execOp, hx]
  kernel_rfl
theorem conv113 (ev : Operand → Value) (a : Int) (hx : ev x = .int .u32 a) : pureOf Tryz.prog (execOp ev ⟨dst, .convert 113 3 x, ty, src, af, g⟩) = some (.value (.int .i64 (IntKind.i64.wrap a))) := by
  simp only [execOp, hx]
  kernel_rfl
@[go_sem] theorem opP_conv5 {cx : Cx} {H : AHeap} {f : AF} {k : AF → AHeap → Prop} : opP Tryz.prog cx ⟨dst, .convert 5 3 x, ty, src, af, g⟩ f H k = Holds (convV .u8 (f.eval x) H (fun v H' => some (putP cx.sz f dst v fun f' => k f' H')) fun _ => aPlain Tryz.prog ⟨dst, .convert 5 3 x, ty, src, af, g⟩ f.eval H fun v H' => some (putP cx.sz f dst v fun f' => k f' H')) :=
  opP_convert.trans (congrArg Holds (aPlain_convG conv5))
@[go_sem] theorem opP_conv106 {cx : Cx} {H : AHeap} {f : AF} {k : AF → AHeap → Prop} : opP Tryz.prog cx ⟨dst, .convert 106 3 x, ty, src, af, g⟩ f H k = Holds (convV .u16 (f.eval x) H (fun v H' => some (putP cx.sz f dst v fun f' => k f' H')) fun _ => aPlain Tryz.prog ⟨dst, .convert 106 3 x, ty, src, af, g⟩ f.eval H fun v H' => some (putP cx.sz f dst v fun f' => k f' H')) :=
  opP_convert.trans (congrArg Holds (aPlain_convG conv106))
@[go_sem] theorem opP_conv113 {cx : Cx} {H : AHeap} {f : AF} {k : AF → AHeap → Prop} : opP Tryz.prog cx ⟨dst, .convert 113 3 x, ty, src, af, g⟩ f H k = Holds (convV .u32 (f.eval x) H (fun v H' => some (putP cx.sz f dst v fun f' => k f' H')) fun _ => aPlain Tryz.prog ⟨dst, .convert 113 3 x, ty, src, af, g⟩ f.eval H fun v H' => some (putP cx.sz f dst v fun f' => k f' H')) :=
  opP_convert.trans (congrArg Holds (aPlain_convG conv113))
end
end Go.Proofs.Tryz
namespace Go.Proofs.Tryz
open Go Go.Am Go.RowKit
set_option maxRecDepth 100000


def Cells (H : AHeap) (v : Value) (size n : Nat) (xs : List Value) : Prop :=
  xs.length = n * size ∧ n ≤ 9223372036854775807 ∧ ∃ a c, v = .slice a n c ∧ (a = none → c = 0) ∧ (0 < n → ∃ b o sp, a = some ⟨b, o, sp⟩ ∧ b < H.n ∧ ∀ j u, xs[j]? = some u → cellAt H b (o + j) = some u)
theorem Cells.ext {H H' : AHeap} {v : Value} {size n : Nat} {xs : List Value} (h : Cells H v size n xs) (hx : Ext H H') : Cells H' v size n xs := by
  obtain ⟨h1, h2, a, c, h3, h0, h4⟩ := h
  refine ⟨h1, h2, a, c, h3, h0, fun hn => ?_⟩
  obtain ⟨b, o, sp, h5, h6, h7⟩ := h4 hn
  exact ⟨b, o, sp, h5, Nat.lt_of_lt_of_le h6 hx.n, fun j u hu => by rw [hx.cellAt h6]; exact h7 j u hu⟩
def Ints (H : AHeap) (v : Value) (xs : List Int) : Prop := Cells H v 1 xs.length (xs.map (Value.int .i64))
theorem Ints.ext {H H' : AHeap} {v : Value} {xs : List Int} (h : Ints H v xs) (hx : Ext H H') : Ints H' v xs := Cells.ext h hx
theorem Ints.at_ {H : AHeap} {a : Option Addr} {n c : Nat} {xs : List Int} (h : Ints H (.slice a n c) xs) {k : Nat} (hk : k < xs.length) : ∃ b o sp, a = some ⟨b, o, sp⟩ ∧ b < H.n ∧ cellAt H b (o + k) = some (.int .i64 xs[k]) := by
  obtain ⟨h1, h2, a', c', h3, h0, h4⟩ := h
  cases h3
  obtain ⟨b, o, sp, h5, h6, h7⟩ := h4 (by omega)
  exact ⟨b, o, sp, h5, h6, h7 k _ (by simp [hk])⟩
theorem Ints.slice {H : AHeap} {v : Value} {xs : List Int} (h : Ints H v xs) : xs.length ≤ 9223372036854775807 ∧ ∃ a c, v = .slice a xs.length c := by
  obtain ⟨h1, h2, a', c', h3, h0, h4⟩ := h
  exact ⟨h2, a', c', h3⟩

end Go.Proofs.Tryz
namespace Go.Proofs.Tryz
open Go Go.Am Go.RowKit
set_option maxRecDepth 100000


structure Pst where
  id : Int
  day : Int
  src : Int
  dst : Int
  coins : Int
  deriving DecidableEq

def Pst.cells (a : Pst) : List Value := [.int .i64 a.id, .int .i64 a.day, .int .i64 a.src, .int .i64 a.dst, .int .i64 a.coins]
def Pst.val (a : Pst) : Value := .agg #[.int .i64 a.id, .int .i64 a.day, .int .i64 a.src, .int .i64 a.dst, .int .i64 a.coins]
def pstCells (l : List Pst) : List Value := l.flatMap Pst.cells
theorem pstCells_get : ∀ (l : List Pst) (k : Nat) (h : k < l.length) (j : Nat) (u : Value), (l[k]).cells[j]? = some u → (pstCells l)[k * 5 + j]? = some u
  | a :: l, 0, _, j, u, hu => by
    simp only [pstCells, List.flatMap_cons, Nat.zero_mul, Nat.zero_add]
    have hu' : a.cells[j]? = some u := hu
    rw [List.getElem?_append_left (List.getElem?_eq_some_iff.1 hu').1]; exact hu'
  | a :: l, k + 1, h, j, u, hu => by
    have := pstCells_get l k (by simpa using h) j u (by simpa using hu)
    simp only [pstCells, List.flatMap_cons]
    rw [List.getElem?_append_right (by simp [Pst.cells]; omega)]
    have e : (k + 1) * 5 + j - a.cells.length = k * 5 + j := by simp [Pst.cells]; omega
    rw [e]; exact this

def Psts (H : AHeap) (v : Value) (l : List Pst) : Prop := Cells H v 5 l.length (pstCells l)
theorem Psts.ext {H H' : AHeap} {v : Value} {l : List Pst} (h : Psts H v l) (hx : Ext H H') : Psts H' v l := Cells.ext h hx
theorem Psts.slice {H : AHeap} {v : Value} {l : List Pst} (h : Psts H v l) : l.length ≤ 9223372036854775807 ∧ ∃ a c, v = .slice a l.length c := by
  obtain ⟨h1, h2, a', c', h3, h0, h4⟩ := h
  exact ⟨h2, a', c', h3⟩
theorem Psts.at_ {H : AHeap} {a : Option Addr} {n c : Nat} {l : List Pst} (h : Psts H (.slice a n c) l) {k : Nat} (hk : k < l.length) : ∃ b o sp, a = some ⟨b, o, sp⟩ ∧ b < H.n ∧ cellsAt H b (o + k * 5) 5 = some (l[k]).cells ∧ ∀ j u, (l[k]).cells[j]? = some u → cellAt H b (o + k * 5 + j) = some u := by
  obtain ⟨h1, h2, a', c', h3, h0, h4⟩ := h
  cases h3
  obtain ⟨b, o, sp, h5, h6, h7⟩ := h4 (by omega)
  have hc : ∀ j u, (l[k]).cells[j]? = some u → cellAt H b (o + k * 5 + j) = some u := fun j u hu => by
    rw [Nat.add_assoc]; exact h7 _ u (pstCells_get l k hk j u hu)
  exact ⟨b, o, sp, h5, h6, cellsAt_of (us := (l[k]).cells) (by simp [Pst.cells]) hc, hc⟩

def Pst.right (acc : Int) (p : Pst) : Bool := win 1 1099511627776 p.id && (win 0 730 p.day && (win 0 (acc - 1) p.src && (win 0 (acc - 1) p.dst && (win 1 1099511627776 p.coins && !decide (p.src = p.dst)))))

def Pst.at_ (p : Pst) (acc day : Int) : Int := if day < p.day then 0 else (if p.dst = acc then p.coins else 0) - (if p.src = acc then p.coins else 0)
end Go.Proofs.Tryz
namespace Go.Proofs.Tryz
open Go Go.Am Go.RowKit
set_option maxRecDepth 100000


section
variable {H : AHeap} {ev : Operand → Value} {dst : Option Tmp} {ty t' : TypeId} {src : String} {af : Array Edge} {g : Option (Nat × Bool)} {x y : Operand} {β : Type} {kk : K β} {other : Unit → Option β}
end
end Go.Proofs.Tryz
namespace Go.Proofs.Tryz
open Go Go.Am Go.RowKit
set_option maxRecDepth 100000


end Go.Proofs.Tryz
