/- Contracts of functions, walked. -/
import Derived.Lib.Hide
import Derived.Test.YtokhhoihalpaoaaGreatDoorStS0
import Derived.Test.YtokhhoihalpaoaaGreatDoorAmS
import Derived.Test.YtokhhoihalpaoaaGreatDoorAwB
set_option linter.all false
namespace Go.Proofs.Tryz
open Go Go.Am Go.RowKit
set_option maxRecDepth 100000


theorem head_s {loops : List (Nat × LInfo)} {H : AHeap} : CallS Tryz.prog loops 19 [] H fun r H' => r = .bool true ∧ H' = H := CallS.of_callsL rfl rfl fun w hL => sanity_calls w hL

def win (lo hi n : Int) : Bool := decide (lo ≤ n) && decide (n ≤ hi)
theorem win_iff {lo hi n : Int} : win lo hi n = true ↔ lo ≤ n ∧ n ≤ hi := by simp [win]
theorem within_s {loops : List (Nat × LInfo)} {H : AHeap} {n lo hi : Int} : CallS Tryz.prog loops 100 [.int .i64 n, .int .i64 lo, .int .i64 hi] H fun v H' => v = .bool (win lo hi n) ∧ H' = H := by
  refine CallS.enter' Tryz.func100 rfl Tryz.ntmps100 (by simp) fun f hd hf => ?_
  have f0 := hf 0
  have f1 := hf 1
  have f2 := hf 2
  simp at f0 f1 f2
  clear hf
  unfold win
  repeat' (first|(with_reducible first|refine zA ?_|refine zB fun K hK=>?_|refine zC fun K2 hK2=>?_|refine zD ?_|refine zE ?_|refine zF ?_|refine zG ?_|refine zH ?_|refine zI ?_|refine zM ?_|refine zN ?_|refine zO ?_|refine zP ?_|refine zQ ?_|refine zR ?_)|((with_reducible refine zU (hK _ _ ?_));clear hK K)|((with_reducible refine zV ?_ ?_ fun K1 K3 d hdst h1 h3=>?_);rfl;exact yB rfl;cases hdst;go_simp)|((with_reducible refine zW fun K1 K3 h1 h3=>?_);go_simp)|((first|refine h1 ?_|refine h3 ?_);clear h1 h3 K1 K3)|((first|refine zX (fun hb=>h1 ?_) (fun hb=>h3 ?_)|refine zX (fun hb=>h3 ?_) (fun hb=>h1 ?_))<;>(clear h1 h3 K1 K3;(try have hb2:=yC hb);(try have hb2:=yD hb);(try have hb2:=yE hb);(try have hb2:=yF hb);(try have hb2:=yG hb)))|(refine fun (K2:_→AHeap→Prop) hK2=>?_)|((with_reducible refine zY ?_ ?_);decide)|((with_reducible first|refine zZ ?_ (fun K hK=>?_)|refine yA ?_ (fun K hK=>?_));(focus go_simp;done);go_simp;refine hK _ _ ?_;clear hK K)|(go_simp;(try go_bits);refine hK2 _ _ ?_;clear hK2 K2))
  all_goals (refine ⟨?_, rfl⟩; simp [*])

structure Terms where
  free : Int
  per : Int
  most : Int
  forf : Int
def Terms.val (t : Terms) : Value := .agg #[.int .i64 t.free, .int .i64 t.per, .int .i64 t.most, .int .i64 t.forf]
def Terms.ok (t : Terms) : Bool := win 0 730 t.free && (win t.free 730 t.forf && (win 0 1048576 t.per && win 0 1048576 t.most))
end Go.Proofs.Tryz
namespace Go.Proofs.Tryz
open Go Go.Am Go.RowKit
set_option maxRecDepth 100000


theorem wrap_id {n : Int} (h : -9223372036854775808 ≤ n ∧ n ≤ 9223372036854775807) : IntKind.i64.wrap n = n := by rw [IntKind.wrap_i64]; omega
end Go.Proofs.Tryz
namespace Go.Proofs.Tryz
open Go Go.Am Go.RowKit
set_option maxRecDepth 100000


structure Hire where
  price : Int
  pledge : Int
  weeks : Int
  late : Int
def Hire.ok (h : Hire) : Bool := win 0 1048576 h.price && (win 0 1048576 h.pledge && win 0 40 h.weeks)
structure Chg where
  hire : Int
  fine : Int
  pledge : Int
def Chg.val (c : Chg) : Value := .agg #[.int .i64 c.hire, .int .i64 c.fine, .int .i64 c.pledge]
end Go.Proofs.Tryz
namespace Go.Proofs.Tryz
open Go Go.Am Go.RowKit
set_option maxRecDepth 100000


theorem pureOf_pure {α : Type} (x : α) : pureOf Tryz.prog (pure x : Sem α) = some x := rfl
theorem pEq3 (d : Nat) (a b : Int) : pureOf Tryz.prog (Op.equalIn (d + 1) 3 (.int .i64 a) (.int .i64 b)) = some (a == b) := by kernel_rfl
section
variable {H : AHeap} {ev : Operand → Value} {dst : Option Tmp} {ty t' : TypeId} {src : String} {af : Array Edge} {g : Option (Nat × Bool)} {x y : Operand} {β : Type} {kk : K β} {other : Unit → Option β}
@[go_sem] theorem aBin_aggE {t : TypeId} {a b : Array Value} : aBin Tryz.prog .eql t (.agg a) (.agg b) H kk other = other () := by
  have h : nilEq Tryz.prog t (.agg a) (.agg b) = none := by
    unfold nilEq
    split <;> simp_all
  simp only [aBin, aEq, h]
end
end Go.Proofs.Tryz
namespace Go.Proofs.Tryz
open Go Go.Am Go.RowKit
set_option maxRecDepth 100000


section
variable {H : AHeap} {β : Type} {kk : K β} {dst : Option Tmp} {ty : TypeId} {src : String} {af : Array Edge} {g : Option (Nat × Bool)}
noncomputable def quoV (o : Oper) (ev : Operand → Value) (v u : Value) (H : AHeap) (kk : K β) : Option β := match v, u with
  | .int .i64 a, .int .i64 b => if (0 ≤ a ∧ a ≤ 9223372036854775807) ∧ 1 ≤ b then kk (.int .i64 (a / b)) H else plainRest Tryz.prog o ev H kk
  | _, _ => plainRest Tryz.prog o ev H kk
@[go_sem] theorem quoV_int {o : Oper} {ev : Operand → Value} {a b : Int} (ha : 0 ≤ a) (ha2 : a ≤ 9223372036854775807) (hb : 1 ≤ b) : quoV o ev (.int .i64 a) (.int .i64 b) H kk = kk (.int .i64 (a / b)) H := by
  simp only [quoV]; rw [if_pos ⟨⟨ha, ha2⟩, hb⟩]
@[go_sem] theorem aPlain_quoV {t t' : TypeId} {x y : Operand} {ev : Operand → Value} : aPlain Tryz.prog ⟨dst, .binOp .quo t x y t', ty, src, af, g⟩ ev H kk = quoV ⟨dst, .binOp .quo t x y t', ty, src, af, g⟩ ev (ev x) (ev y) H kk := by
  unfold quoV
  split
  · rename_i a b hx hy
    split
    · rename_i h; exact aPlain_quo hx hy h.1 h.2
    · rfl
  · rfl
noncomputable def remV (o : Oper) (ev : Operand → Value) (v u : Value) (H : AHeap) (kk : K β) : Option β := match v, u with
  | .int .i64 a, .int .i64 b => if 0 ≤ a ∧ 1 ≤ b then kk (.int .i64 (a % b)) H else plainRest Tryz.prog o ev H kk
  | _, _ => plainRest Tryz.prog o ev H kk
@[go_sem] theorem remV_int {o : Oper} {ev : Operand → Value} {a b : Int} (ha : 0 ≤ a) (hb : 1 ≤ b) : remV o ev (.int .i64 a) (.int .i64 b) H kk = kk (.int .i64 (a % b)) H := by
  simp only [remV]; rw [if_pos ⟨ha, hb⟩]
@[go_sem] theorem aPlain_remV {t t' : TypeId} {x y : Operand} {ev : Operand → Value} : aPlain Tryz.prog ⟨dst, .binOp .rem t x y t', ty, src, af, g⟩ ev H kk = remV ⟨dst, .binOp .rem t x y t', ty, src, af, g⟩ ev (ev x) (ev y) H kk := by
  unfold remV
  split
  · rename_i a b hx hy
    split
    · rename_i h; exact aPlain_rem hx hy h.1 h.2
    · rfl
  · rfl
end
def convV {β : Type} (q : IntKind) (v : Value) (H : AHeap) (kk : K β) (other : Unit → Option β) : Option β := match v with
  | .int k a => if k = q then kk (.int .i64 (IntKind.i64.wrap a)) H else other ()
  | _ => other ()
@[go_sem] theorem convV_int {β : Type} {q : IntKind} {a : Int} {H : AHeap} {kk : K β} {other : Unit → Option β} : convV q (.int q a) H kk other = kk (.int .i64 (IntKind.i64.wrap a)) H := by simp [convV]
section
variable {β : Type} {dst : Option Tmp} {x : Operand} {ty : TypeId} {src : String} {af : Array Edge} {g : Option (Nat × Bool)} {s : TypeId} {q : IntKind}
theorem aPlain_convG {ev : Operand → Value} {H : AHeap} {kk : K β} (hc : ∀ (ev : Operand → Value) (a : Int), ev x = .int q a → pureOf Tryz.prog (execOp ev ⟨dst, .convert s 3 x, ty, src, af, g⟩) = some (.value (.int .i64 (IntKind.i64.wrap a)))) :
    aPlain Tryz.prog ⟨dst, .convert s 3 x, ty, src, af, g⟩ ev H kk = convV q (ev x) H kk fun _ => aPlain Tryz.prog ⟨dst, .convert s 3 x, ty, src, af, g⟩ ev H kk := by
  unfold convV
  split
  · rename_i k a hx
    split
    · rename_i hk
      subst hk
      rw [plain_of rfl]
      have e1 : ((Op.convert s 3 x).operands.toList.all fun x => plainV 6 (ev x)) = true := by
        show ([x].all fun x => plainV 6 (ev x)) = true
        simp [hx]
        rfl
      rw [if_pos e1, hc ev a hx]
      rfl
    · rfl
  · rfl
theorem conv5 (ev : Operand → Value) (a : Int) (hx : ev x = .int .u8 a) : pureOf Tryz.prog (execOp ev ⟨dst, .convert 5 3 x, ty, src, af, g⟩) = some (.value (.int .i64 (IntKind.i64.wrap a))) := by
  simp only [execOp, hx]
  kernel_rfl
theorem conv106 (ev : Operand → Value) (a : Int) (hx : ev x = .int .u16 a) : pureOf Tryz.prog (execOp ev ⟨dst, .convert 106 3 x, ty, src, af, g⟩) = some (.value (.int .i64 (IntKind.i64.wrap a))) := by
  simp only [execOp, hx]
  kernel_rfl
theorem conv113 (ev : Operand → Value) (a : Int) (hx : ev x = .int .u32 a) : pureOf Tryz.prog (execOp ev ⟨dst, .convert 113 3 x, ty, src, af, g⟩) = some (.value (.int .i64 (IntKind.i64.wrap a))) := by
  simp only [execOp, hx]
  kernel_rfl
@[go_sem] theorem opP_conv5 {cx : Cx} {H : AHeap} {f : AF} {k : AF → AHeap → Prop} : opP Tryz.prog cx ⟨dst, .convert 5 3 x, ty, src, af, g⟩ f H k = Holds (convV .u8 (f.eval x) H (fun v H' => some (putP cx.sz f dst v fun f' => k f' H')) fun _ => aPlain Tryz.prog ⟨dst, .convert 5 3 x, ty, src, af, g⟩ f.eval H fun v H' => some (putP cx.sz f dst v fun f' => k f' H')) :=
  opP_convert.trans (congrArg Holds (aPlain_convG conv5))
@[go_sem] theorem opP_conv106 {cx : Cx} {H : AHeap} {f : AF} {k : AF → AHeap → Prop} : opP Tryz.prog cx ⟨dst, .convert 106 3 x, ty, src, af, g⟩ f H k = Holds (convV .u16 (f.eval x) H (fun v H' => some (putP cx.sz f dst v fun f' => k f' H')) fun _ => aPlain Tryz.prog ⟨dst, .convert 106 3 x, ty, src, af, g⟩ f.eval H fun v H' => some (putP cx.sz f dst v fun f' => k f' H')) :=
  opP_convert.trans (congrArg Holds (aPlain_convG conv106))
@[go_sem] theorem opP_conv113 {cx : Cx} {H : AHeap} {f : AF} {k : AF → AHeap → Prop} : opP Tryz.prog cx ⟨dst, .convert 113 3 x, ty, src, af, g⟩ f H k = Holds (convV .u32 (f.eval x) H (fun v H' => some (putP cx.sz f dst v fun f' => k f' H')) fun _ => aPlain Tryz.prog ⟨dst, .convert 113 3 x, ty, src, af, g⟩ f.eval H fun v H' => some (putP cx.sz f dst v fun f' => k f' H')) :=
  opP_convert.trans (congrArg Holds (aPlain_convG conv113))
end
end Go.Proofs.Tryz
namespace Go.Proofs.Tryz
open Go Go.Am Go.RowKit
set_option maxRecDepth 100000


def Cells (H : AHeap) (v : Value) (size n : Nat) (xs : List Value) : Prop :=
  xs.length = n * size ∧ n ≤ 9223372036854775807 ∧ ∃ a c, v = .slice a n c ∧ (a = none → c = 0) ∧ (0 < n → ∃ b o sp, a = some ⟨b, o, sp⟩ ∧ b < H.n ∧ ∀ j u, xs[j]? = some u → cellAt H b (o + j) = some u)
theorem Cells.ext {H H' : AHeap} {v : Value} {size n : Nat} {xs : List Value} (h : Cells H v size n xs) (hx : Ext H H') : Cells H' v size n xs := by
  obtain ⟨h1, h2, a, c, h3, h0, h4⟩ := h
  refine ⟨h1, h2, a, c, h3, h0, fun hn => ?_⟩
  obtain ⟨b, o, sp, h5, h6, h7⟩ := h4 hn
  exact ⟨b, o, sp, h5, Nat.lt_of_lt_of_le h6 hx.n, fun j u hu => by rw [hx.cellAt h6]; exact h7 j u hu⟩
def Ints (H : AHeap) (v : Value) (xs : List Int) : Prop := Cells H v 1 xs.length (xs.map (Value.int .i64))
theorem Ints.ext {H H' : AHeap} {v : Value} {xs : List Int} (h : Ints H v xs) (hx : Ext H H') : Ints H' v xs := Cells.ext h hx
theorem Ints.at_ {H : AHeap} {a : Option Addr} {n c : Nat} {xs : List Int} (h : Ints H (.slice a n c) xs) {k : Nat} (hk : k < xs.length) : ∃ b o sp, a = some ⟨b, o, sp⟩ ∧ b < H.n ∧ cellAt H b (o + k) = some (.int .i64 xs[k]) := by
  obtain ⟨h1, h2, a', c', h3, h0, h4⟩ := h
  cases h3
  obtain ⟨b, o, sp, h5, h6, h7⟩ := h4 (by omega)
  exact ⟨b, o, sp, h5, h6, h7 k _ (by simp [hk])⟩
theorem Ints.slice {H : AHeap} {v : Value} {xs : List Int} (h : Ints H v xs) : xs.length ≤ 9223372036854775807 ∧ ∃ a c, v = .slice a xs.length c := by
  obtain ⟨h1, h2, a', c', h3, h0, h4⟩ := h
  exact ⟨h2, a', c', h3⟩

theorem sameInts_s {loops : List (Nat × LInfo)} {H : AHeap} {av bv : Value} {a b : List Int} (ha : Ints H av a) (hb : Ints H bv b) : CallS Tryz.prog loops 32 [av, bv] H fun r H' => r = .bool (decide (a = b)) ∧ H' = H := by
  obtain ⟨hla, aa, ac, rfl⟩ := ha.slice
  obtain ⟨hlb, ba, bc, rfl⟩ := hb.slice
  have HA := Lib.hid ha
  have HB := Lib.hid hb
  clear ha hb
  by_cases hl : a.length = b.length
  case' neg =>
    have hlb : ((a.length : Int) != (b.length : Int)) = true := by simp; omega
    have hne : decide (a = b) = false := decide_eq_false fun e => hl (by rw [e])
    rw [hne]
    clear hl hne
    refine CallS.enter' Tryz.func32 rfl Tryz.ntmps32 (by simp) fun f hd hf => ?_
    have f0 := hf 0
    have f1 := hf 1
    simp at f0 f1
    clear hf
    repeat' (first|(with_reducible first|refine zA ?_|refine zB fun K hK=>?_|refine zC fun K2 hK2=>?_|refine zD ?_|refine zE ?_|refine zF ?_|refine zG ?_|refine zH ?_|refine zI ?_|refine zM ?_|refine zN ?_|refine zO ?_|refine zP ?_|refine zQ ?_|refine zR ?_)|((with_reducible refine zU (hK _ _ ?_));clear hK K)|((with_reducible refine zV ?_ ?_ fun K1 K3 d hdst h1 h3=>?_);rfl;exact yB rfl;cases hdst;go_simp)|((with_reducible refine zW fun K1 K3 h1 h3=>?_);go_simp)|((first|refine h1 ?_|refine h3 ?_);clear h1 h3 K1 K3)|((first|refine zX (fun hb=>h1 ?_) (fun hb=>h3 ?_)|refine zX (fun hb=>h3 ?_) (fun hb=>h1 ?_))<;>(clear h1 h3 K1 K3;(try have hb2:=yC hb);(try have hb2:=yD hb);(try have hb2:=yE hb);(try have hb2:=yF hb);(try have hb2:=yG hb)))|(refine fun (K2:_→AHeap→Prop) hK2=>?_)|((with_reducible refine zY ?_ ?_);decide)|((with_reducible first|refine zZ ?_ (fun K hK=>?_)|refine yA ?_ (fun K hK=>?_));(focus go_simp;done);go_simp;refine hK _ _ ?_;clear hK K)|(go_simp;(try go_bits);refine hK2 _ _ ?_;clear hK2 K2))
    exact ⟨rfl, rfl⟩
  have hlb : ((a.length : Int) != (b.length : Int)) = false := by simp; omega
  have HL := Lib.hid hl
  clear hl
  refine CallS.enter' Tryz.func32 rfl Tryz.ntmps32 (by simp) fun f hd hf => ?_
  have f0 := hf 0
  have f1 := hf 1
  simp at f0 f1
  clear hf
  repeat' (first|(with_reducible first|refine zA ?_|refine zB fun K hK=>?_|refine zC fun K2 hK2=>?_|refine zD ?_|refine zE ?_|refine zF ?_|refine zG ?_|refine zH ?_|refine zI ?_|refine zM ?_|refine zN ?_|refine zO ?_|refine zP ?_|refine zQ ?_|refine zR ?_)|((with_reducible refine zU (hK _ _ ?_));clear hK K)|((with_reducible refine zV ?_ ?_ fun K1 K3 d hdst h1 h3=>?_);rfl;exact yB rfl;cases hdst;go_simp)|((with_reducible refine zW fun K1 K3 h1 h3=>?_);go_simp)|((first|refine h1 ?_|refine h3 ?_);clear h1 h3 K1 K3)|((first|refine zX (fun hb=>h1 ?_) (fun hb=>h3 ?_)|refine zX (fun hb=>h3 ?_) (fun hb=>h1 ?_))<;>(clear h1 h3 K1 K3;(try have hb2:=yC hb);(try have hb2:=yD hb);(try have hb2:=yE hb);(try have hb2:=yF hb);(try have hb2:=yG hb)))|(refine fun (K2:_→AHeap→Prop) hK2=>?_)|((with_reducible refine zY ?_ ?_);decide)|((with_reducible first|refine zZ ?_ (fun K hK=>?_)|refine yA ?_ (fun K hK=>?_));(focus go_simp;done);go_simp;refine hK _ _ ?_;clear hK K)|(go_simp;(try go_bits);refine hK2 _ _ ?_;clear hK2 K2))
  refine CodeS.loop (fun m f H' => ∃ k : Nat, k ≤ a.length ∧ m = a.length - k ∧ f.tmp 5 = .int .i64 k ∧ f.tmp 0 = .slice aa a.length ac ∧ f.tmp 1 = .slice ba b.length bc ∧ f.defers = [] ∧ Hid (decide (a.drop k = b.drop k) = decide (a = b)) ∧ H' = H) a.length ?_ ?_
  · exact ⟨0, by simp, by simp, (by first|go_simp<;>go_num|assumption), (by first|go_simp<;>go_num|assumption), (by first|go_simp<;>go_num|assumption), (by first|go_simp<;>go_num|assumption), Lib.hid (by simp), rfl⟩
  clear f0 f1 hd f
  rintro m f H' ⟨k, hk, rfl, f5, f0, f1, hd, HG, e9⟩
  have e9 := e9.symm
  subst e9
  by_cases hlt : k < a.length
  · have hlt2 : k < b.length := by rw [← HL.out]; exact hlt
    obtain ⟨b1, o1, sp1, rfl, hb1, hx1⟩ := HA.out.at_ hlt
    obtain ⟨b2, o2, sp2, rfl, hb2, hx2⟩ := HB.out.at_ hlt2
    have HD1 := Lib.hid (List.drop_eq_getElem_cons hlt)
    have HD2 := Lib.hid (List.drop_eq_getElem_cons hlt2)
    generalize a[k] = x at hx1 HD1
    generalize b[k] = y at hx2 HD2
    by_cases hxy : x = y
    case' pos =>
      subst hxy
      repeat' (first|(with_reducible first|refine zA ?_|refine zB fun K hK=>?_|refine zC fun K2 hK2=>?_|refine zD ?_|refine zE ?_|refine zF ?_|refine zG ?_|refine zH ?_|refine zI ?_|refine zM ?_|refine zN ?_|refine zO ?_|refine zP ?_|refine zQ ?_|refine zR ?_)|((with_reducible refine zU (hK _ _ ?_));clear hK K)|((with_reducible refine zV ?_ ?_ fun K1 K3 d hdst h1 h3=>?_);rfl;exact yB rfl;cases hdst;go_simp)|((with_reducible refine zW fun K1 K3 h1 h3=>?_);go_simp)|((first|refine h1 ?_|refine h3 ?_);clear h1 h3 K1 K3)|((first|refine zX (fun hb=>h1 ?_) (fun hb=>h3 ?_)|refine zX (fun hb=>h3 ?_) (fun hb=>h1 ?_))<;>(clear h1 h3 K1 K3;(try have hb2:=yC hb);(try have hb2:=yD hb);(try have hb2:=yE hb);(try have hb2:=yF hb);(try have hb2:=yG hb)))|(refine fun (K2:_→AHeap→Prop) hK2=>?_)|((with_reducible refine zY ?_ ?_);decide)|((with_reducible first|refine zZ ?_ (fun K hK=>?_)|refine yA ?_ (fun K hK=>?_));(focus go_simp;done);go_simp;refine hK _ _ ?_;clear hK K)|((with_reducible refine yH mixed rfl ?_ 20 fun K0 hK0=>?_);kernel_rfl)|(with_reducible first|exact yI|exact yJ|refine yK ?_|refine yL ?_|refine yM ?_)|((with_reducible first|refine yN ?_ ?_|refine yO ?_ ?_|refine yP ?_ ?_);rfl)|((with_reducible refine yQ ?_ ?_);rfl;refine hK0 _ _ ?_;clear hK0 K0)|((with_reducible refine yR ?_ ?_ ?_ ?_);rfl;rfl;rfl)|((with_reducible refine yS ?_ ?_ ?_ fun K2 hK2=>?_);rfl;rfl;exact yB rfl)|((with_reducible refine yT ?_ ?_ ?_ ?_ fun K1 K3 d hdst h1 h3=>?_);rfl;rfl;rfl;exact yB rfl;cases hdst;go_simp)|((with_reducible refine yU ?_ ?_ ?_ ?_ fun K1 K3 d hdst h1 h3=>?_);rfl;rfl;rfl;exact yB rfl;cases hdst;go_simp)|((with_reducible refine yV ?_ ?_ (fun K2 hK2=>?_) ?_);rfl;exact yB rfl)|((with_reducible refine yW ?_ ?_ ?_ ?_ (fun K2 hK2=>?_) ?_);rfl;exact yB rfl;rfl;(focus go_simp;done))|((with_reducible refine yX ?_ ?_ ?_ (fun K2 hK2=>?_) ?_);rfl;rfl;exact yB rfl)|((with_reducible refine yY ?_ ?_ (fun K2 hK2=>?_) ?_);rfl;rfl)|((with_reducible refine yZ ?_ ?_);(first|rfl|(dsimp only;decide +kernel)))|((with_reducible refine xA ?_ ?_);(focus go_simp;done))|(go_simp;(try go_bits);(first|(refine hK2 _ _ ?_ ?_<;>clear hK2 K2)|(refine hK2 _ _ ?_;clear hK2 K2))))
      all_goals (refine Post.round_normal ⟨a.length - (k + 1), by omega, k + 1, by omega, rfl, (by first|go_simp<;>go_num|assumption), (by first|go_simp<;>go_num|assumption), (by first|go_simp<;>go_num|assumption), (by first|go_simp<;>go_num|assumption), Lib.hid ?_, rfl⟩; rw [← HG.out, HD1.out, HD2.out]; simp)
    have hxyb : (x != y) = true := by simpa using hxy
    have HNE : Hid (decide (a = b) = false) := Lib.hid (by rw [← HG.out, HD1.out, HD2.out]; simp [hxy])
    clear hxy
    repeat' (first|(with_reducible first|refine zA ?_|refine zB fun K hK=>?_|refine zC fun K2 hK2=>?_|refine zD ?_|refine zE ?_|refine zF ?_|refine zG ?_|refine zH ?_|refine zI ?_|refine zM ?_|refine zN ?_|refine zO ?_|refine zP ?_|refine zQ ?_|refine zR ?_)|((with_reducible refine zU (hK _ _ ?_));clear hK K)|((with_reducible refine zV ?_ ?_ fun K1 K3 d hdst h1 h3=>?_);rfl;exact yB rfl;cases hdst;go_simp)|((with_reducible refine zW fun K1 K3 h1 h3=>?_);go_simp)|((first|refine h1 ?_|refine h3 ?_);clear h1 h3 K1 K3)|((first|refine zX (fun hb=>h1 ?_) (fun hb=>h3 ?_)|refine zX (fun hb=>h3 ?_) (fun hb=>h1 ?_))<;>(clear h1 h3 K1 K3;(try have hb2:=yC hb);(try have hb2:=yD hb);(try have hb2:=yE hb);(try have hb2:=yF hb);(try have hb2:=yG hb)))|(refine fun (K2:_→AHeap→Prop) hK2=>?_)|((with_reducible refine zY ?_ ?_);decide)|((with_reducible first|refine zZ ?_ (fun K hK=>?_)|refine yA ?_ (fun K hK=>?_));(focus go_simp;done);go_simp;refine hK _ _ ?_;clear hK K)|((with_reducible refine yH mixed rfl ?_ 20 fun K0 hK0=>?_);kernel_rfl)|(with_reducible first|exact yI|exact yJ|refine yK ?_|refine yL ?_|refine yM ?_)|((with_reducible first|refine yN ?_ ?_|refine yO ?_ ?_|refine yP ?_ ?_);rfl)|((with_reducible refine yQ ?_ ?_);rfl;refine hK0 _ _ ?_;clear hK0 K0)|((with_reducible refine yR ?_ ?_ ?_ ?_);rfl;rfl;rfl)|((with_reducible refine yS ?_ ?_ ?_ fun K2 hK2=>?_);rfl;rfl;exact yB rfl)|((with_reducible refine yT ?_ ?_ ?_ ?_ fun K1 K3 d hdst h1 h3=>?_);rfl;rfl;rfl;exact yB rfl;cases hdst;go_simp)|((with_reducible refine yU ?_ ?_ ?_ ?_ fun K1 K3 d hdst h1 h3=>?_);rfl;rfl;rfl;exact yB rfl;cases hdst;go_simp)|((with_reducible refine yV ?_ ?_ (fun K2 hK2=>?_) ?_);rfl;exact yB rfl)|((with_reducible refine yW ?_ ?_ ?_ ?_ (fun K2 hK2=>?_) ?_);rfl;exact yB rfl;rfl;(focus go_simp;done))|((with_reducible refine yX ?_ ?_ ?_ (fun K2 hK2=>?_) ?_);rfl;rfl;exact yB rfl)|((with_reducible refine yY ?_ ?_ (fun K2 hK2=>?_) ?_);rfl;rfl)|((with_reducible refine yZ ?_ ?_);(first|rfl|(dsimp only;decide +kernel)))|((with_reducible refine xA ?_ ?_);(focus go_simp;done))|(go_simp;(try go_bits);(first|(refine hK2 _ _ ?_ ?_<;>clear hK2 K2)|(refine hK2 _ _ ?_;clear hK2 K2))))
    all_goals (exact ⟨by rw [HNE.out], rfl⟩)
  · have hT : decide (a = b) = true := by
      rw [← HG.out, List.drop_eq_nil_of_le (by omega), List.drop_eq_nil_of_le (by have := HL.out; omega)]; simp
    rw [hT]
    clear hT
    repeat' (first|(with_reducible first|refine zA ?_|refine zB fun K hK=>?_|refine zC fun K2 hK2=>?_|refine zD ?_|refine zE ?_|refine zF ?_|refine zG ?_|refine zH ?_|refine zI ?_|refine zM ?_|refine zN ?_|refine zO ?_|refine zP ?_|refine zQ ?_|refine zR ?_)|((with_reducible refine zU (hK _ _ ?_));clear hK K)|((with_reducible refine zV ?_ ?_ fun K1 K3 d hdst h1 h3=>?_);rfl;exact yB rfl;cases hdst;go_simp)|((with_reducible refine zW fun K1 K3 h1 h3=>?_);go_simp)|((first|refine h1 ?_|refine h3 ?_);clear h1 h3 K1 K3)|((first|refine zX (fun hb=>h1 ?_) (fun hb=>h3 ?_)|refine zX (fun hb=>h3 ?_) (fun hb=>h1 ?_))<;>(clear h1 h3 K1 K3;(try have hb2:=yC hb);(try have hb2:=yD hb);(try have hb2:=yE hb);(try have hb2:=yF hb);(try have hb2:=yG hb)))|(refine fun (K2:_→AHeap→Prop) hK2=>?_)|((with_reducible refine zY ?_ ?_);decide)|((with_reducible first|refine zZ ?_ (fun K hK=>?_)|refine yA ?_ (fun K hK=>?_));(focus go_simp;done);go_simp;refine hK _ _ ?_;clear hK K)|(go_simp;(try go_bits);refine hK2 _ _ ?_;clear hK2 K2))
    exact ⟨rfl, rfl⟩

end Go.Proofs.Tryz
namespace Go.Proofs.Tryz
open Go Go.Am Go.RowKit
set_option maxRecDepth 100000


structure Pst where
  id : Int
  day : Int
  src : Int
  dst : Int
  coins : Int
  deriving DecidableEq

def Pst.cells (a : Pst) : List Value := [.int .i64 a.id, .int .i64 a.day, .int .i64 a.src, .int .i64 a.dst, .int .i64 a.coins]
def Pst.val (a : Pst) : Value := .agg #[.int .i64 a.id, .int .i64 a.day, .int .i64 a.src, .int .i64 a.dst, .int .i64 a.coins]
def pstCells (l : List Pst) : List Value := l.flatMap Pst.cells
theorem pstCells_length : ∀ l : List Pst, (pstCells l).length = l.length * 5
  | [] => rfl
  | a :: l => by
    have := pstCells_length l
    simp only [pstCells, List.flatMap_cons, List.length_append] at *
    rw [this]; simp [Pst.cells]; omega
theorem pstCells_get : ∀ (l : List Pst) (k : Nat) (h : k < l.length) (j : Nat) (u : Value), (l[k]).cells[j]? = some u → (pstCells l)[k * 5 + j]? = some u
  | a :: l, 0, _, j, u, hu => by
    simp only [pstCells, List.flatMap_cons, Nat.zero_mul, Nat.zero_add]
    have hu' : a.cells[j]? = some u := hu
    rw [List.getElem?_append_left (List.getElem?_eq_some_iff.1 hu').1]; exact hu'
  | a :: l, k + 1, h, j, u, hu => by
    have := pstCells_get l k (by simpa using h) j u (by simpa using hu)
    simp only [pstCells, List.flatMap_cons]
    rw [List.getElem?_append_right (by simp [Pst.cells]; omega)]
    have e : (k + 1) * 5 + j - a.cells.length = k * 5 + j := by simp [Pst.cells]; omega
    rw [e]; exact this

def Psts (H : AHeap) (v : Value) (l : List Pst) : Prop := Cells H v 5 l.length (pstCells l)
theorem Psts.ext {H H' : AHeap} {v : Value} {l : List Pst} (h : Psts H v l) (hx : Ext H H') : Psts H' v l := Cells.ext h hx
theorem Psts.slice {H : AHeap} {v : Value} {l : List Pst} (h : Psts H v l) : l.length ≤ 9223372036854775807 ∧ ∃ a c, v = .slice a l.length c := by
  obtain ⟨h1, h2, a', c', h3, h0, h4⟩ := h
  exact ⟨h2, a', c', h3⟩
theorem Psts.at_ {H : AHeap} {a : Option Addr} {n c : Nat} {l : List Pst} (h : Psts H (.slice a n c) l) {k : Nat} (hk : k < l.length) : ∃ b o sp, a = some ⟨b, o, sp⟩ ∧ b < H.n ∧ cellsAt H b (o + k * 5) 5 = some (l[k]).cells ∧ ∀ j u, (l[k]).cells[j]? = some u → cellAt H b (o + k * 5 + j) = some u := by
  obtain ⟨h1, h2, a', c', h3, h0, h4⟩ := h
  cases h3
  obtain ⟨b, o, sp, h5, h6, h7⟩ := h4 (by omega)
  have hc : ∀ j u, (l[k]).cells[j]? = some u → cellAt H b (o + k * 5 + j) = some u := fun j u hu => by
    rw [Nat.add_assoc]; exact h7 _ u (pstCells_get l k hk j u hu)
  exact ⟨b, o, sp, h5, h6, cellsAt_of (us := (l[k]).cells) (by simp [Pst.cells]) hc, hc⟩

def Pst.right (acc : Int) (p : Pst) : Bool := win 1 1099511627776 p.id && (win 0 730 p.day && (win 0 (acc - 1) p.src && (win 0 (acc - 1) p.dst && (win 1 1099511627776 p.coins && !decide (p.src = p.dst)))))

def Pst.at_ (p : Pst) (acc day : Int) : Int := if day < p.day then 0 else (if p.dst = acc then p.coins else 0) - (if p.src = acc then p.coins else 0)
def bal (l : List Pst) (acc day : Int) : Int := (l.map fun p => p.at_ acc day).sum
theorem bal_snoc (l : List Pst) (p : Pst) (acc day : Int) : bal (l ++ [p]) acc day = bal l acc day + p.at_ acc day := by simp [bal]
structure Coined (l : List Pst) : Prop where
  len : l.length ≤ 100
  pos : ∀ p ∈ l, 0 ≤ p.coins ∧ p.coins ≤ 1099511627776
theorem at_bd {p : Pst} (h : 0 ≤ p.coins ∧ p.coins ≤ 1099511627776) (acc day : Int) : -1099511627776 ≤ p.at_ acc day ∧ p.at_ acc day ≤ 1099511627776 := by
  unfold Pst.at_; split
  · omega
  · split <;> split <;> omega
theorem bal_bd : ∀ {l : List Pst}, (∀ p ∈ l, 0 ≤ p.coins ∧ p.coins ≤ 1099511627776) → ∀ acc day, -(l.length * 1099511627776 : Int) ≤ bal l acc day ∧ bal l acc day ≤ l.length * 1099511627776
  | [], _, acc, day => by simp [bal]
  | p :: l, h, acc, day => by
    have h1 := bal_bd (l := l) (fun q hq => h q (List.mem_cons_of_mem _ hq)) acc day
    have h2 := at_bd (h p (List.mem_cons_self ..)) acc day
    simp only [bal, List.map_cons, List.sum_cons, List.length_cons] at *
    omega
theorem bal_take {l : List Pst} (h : Coined l) (k : Nat) (acc day : Int) : -109951162777600 ≤ bal (l.take k) acc day ∧ bal (l.take k) acc day ≤ 109951162777600 := by
  have h1 := bal_bd (l := l.take k) (fun p hp => h.pos p (List.mem_of_mem_take hp)) acc day
  have h2 : (l.take k).length ≤ 100 := by rw [List.length_take]; have := h.len; omega
  omega

theorem stand_s {loops : List (Nat × LInfo)} {H : AHeap} {v : Value} {l : List Pst} {acc day : Int} (hv : Psts H v l) (hco : Coined l) : CallS Tryz.prog loops 107 [v, .int .i64 acc, .int .i64 day] H fun r H' => r = .int .i64 (bal l acc day) ∧ H' = H := by
  refine CallS.forget (R := fun r => r = .int .i64 (bal l acc day)) (by rintro v rfl; rfl) ?_
  obtain ⟨hlen, a, c, rfl⟩ := hv.slice
  have HV := Lib.hid hv
  have HC := Lib.hid hco
  clear hv hco
  refine CallS.enter' Tryz.func107 rfl Tryz.ntmps107 (by simp) fun f hd hf => ?_
  have f0 := hf 0
  have f1 := hf 1
  have f2 := hf 2
  simp at f0 f1 f2
  clear hf
  repeat' (first|(with_reducible first|refine zA ?_|refine zB fun K hK=>?_|refine zC fun K2 hK2=>?_|refine zD ?_|refine zE ?_|refine zF ?_|refine zG ?_|refine zH ?_|refine zI ?_|refine zM ?_|refine zN ?_|refine zO ?_|refine zP ?_|refine zQ ?_|refine zR ?_)|((with_reducible refine zU (hK _ _ ?_));clear hK K)|((with_reducible refine zV ?_ ?_ fun K1 K3 d hdst h1 h3=>?_);rfl;exact yB rfl;cases hdst;go_simp)|((with_reducible refine zW fun K1 K3 h1 h3=>?_);go_simp)|((first|refine h1 ?_|refine h3 ?_);clear h1 h3 K1 K3)|((first|refine zX (fun hb=>h1 ?_) (fun hb=>h3 ?_)|refine zX (fun hb=>h3 ?_) (fun hb=>h1 ?_))<;>(clear h1 h3 K1 K3;(try have hb2:=yC hb);(try have hb2:=yD hb);(try have hb2:=yE hb);(try have hb2:=yF hb);(try have hb2:=yG hb)))|(refine fun (K2:_→AHeap→Prop) hK2=>?_)|((with_reducible refine zY ?_ ?_);decide)|((with_reducible first|refine zZ ?_ (fun K hK=>?_)|refine yA ?_ (fun K hK=>?_));(focus go_simp;done);go_simp;refine hK _ _ ?_;clear hK K)|(go_simp;(try go_bits);refine hK2 _ _ ?_;clear hK2 K2))
  refine CodeS.loop (fun m f H' => ∃ k : Nat, k ≤ l.length ∧ m = l.length - k ∧ f.tmp 12 = .int .i64 k ∧ f.tmp 11 = .int .i64 l.length ∧ f.tmp 10 = .slice a l.length c ∧ f.tmp 1 = .int .i64 acc ∧ f.tmp 2 = .int .i64 day ∧ f.tmp 7 = .int .i64 (bal (l.take k) acc day) ∧ f.defers = [] ∧ Ext H H') l.length ?_ ?_
  · exact ⟨0, by simp, by simp, (by first|go_simp<;>go_num|assumption), (by first|go_simp<;>go_num|assumption), (by first|go_simp<;>go_num|assumption), (by first|go_simp<;>go_num|assumption), (by first|go_simp<;>go_num|assumption), (by first|go_simp<;>go_num|assumption), (by first|go_simp<;>go_num|assumption), Ext.refl _⟩
  clear f0 f1 f2 hd f
  rintro m f H' ⟨k, hk, rfl, f12, f11, f10, f1, f2, f7, hd, hx⟩
  have HX := Lib.hid hx
  clear hx
  by_cases hlt : k < l.length
  · obtain ⟨b, o, sp, rfl, hb, hx5, -⟩ := (HV.out.ext HX.out).at_ hlt
    have HT := Lib.hid (List.take_succ_eq_append_getElem hlt)
    have hb0 := bal_take HC.out k acc day
    have hp := HC.out.pos _ (List.getElem_mem hlt)
    have HS := Lib.hid (bal_snoc (l.take k) l[k] acc day)
    generalize l[k] = p at hx5 HT hp HS
    generalize bal (l.take k) acc day = s at f7 HS hb0
    obtain ⟨i, dy, fr, to, co⟩ := p
    simp only [Pst.cells] at hx5
    simp only at hp
    have w1 := wrap_id (n := s + co) (by omega)
    have w2 := wrap_id (n := s - co) (by omega)
    have w3 := wrap_id (n := s + co - co) (by omega)
    have w5 := wrap_id (n := s) (by omega)
    have w4 := wrap_id (n := (k : Int) + 1) (by omega)
    have HS2 : Hid (bal (l.take (k + 1)) acc day = s + (if day < dy then 0 else (if to = acc then co else 0) - (if fr = acc then co else 0))) := Lib.hid (by rw [HT.out, HS.out]; rfl)
    clear hp hb0 HS HT
    by_cases g1 : day < dy
    · rw [if_pos g1] at HS2
      repeat' (first|(with_reducible first|refine zA ?_|refine zB fun K hK=>?_|refine zC fun K2 hK2=>?_|refine zD ?_|refine zE ?_|refine zF ?_|refine zG ?_|refine zH ?_|refine zI ?_|refine zM ?_|refine zN ?_|refine zO ?_|refine zP ?_|refine zQ ?_|refine zR ?_)|((with_reducible refine zU (hK _ _ ?_));clear hK K)|((with_reducible refine zV ?_ ?_ fun K1 K3 d hdst h1 h3=>?_);rfl;exact yB rfl;cases hdst;go_simp)|((with_reducible refine zW fun K1 K3 h1 h3=>?_);go_simp)|((first|refine h1 ?_|refine h3 ?_);clear h1 h3 K1 K3)|((first|refine zX (fun hb=>h1 ?_) (fun hb=>h3 ?_)|refine zX (fun hb=>h3 ?_) (fun hb=>h1 ?_))<;>(clear h1 h3 K1 K3;(try have hb2:=yC hb);(try have hb2:=yD hb);(try have hb2:=yE hb);(try have hb2:=yF hb);(try have hb2:=yG hb)))|(refine fun (K2:_→AHeap→Prop) hK2=>?_)|((with_reducible refine zY ?_ ?_);decide)|((with_reducible first|refine zZ ?_ (fun K hK=>?_)|refine yA ?_ (fun K hK=>?_));(focus go_simp;done);go_simp;refine hK _ _ ?_;clear hK K)|(go_simp;(try go_bits);refine hK2 _ _ ?_;clear hK2 K2))
      exact Post.round_normal ⟨l.length - (k + 1), by omega, k + 1, by omega, rfl, (by first|go_simp<;>go_num|assumption), (by first|go_simp<;>go_num|assumption), (by first|go_simp<;>go_num|assumption), (by first|go_simp<;>go_num|assumption), (by first|go_simp<;>go_num|assumption), (by rw [HS2.out]; simp; go_simp), (by first|go_simp<;>go_num|assumption), HX.out.push' _⟩
    · rw [if_neg g1] at HS2
      repeat' (first|(with_reducible first|refine zA ?_|refine zB fun K hK=>?_|refine zC fun K2 hK2=>?_|refine zD ?_|refine zE ?_|refine zF ?_|refine zG ?_|refine zH ?_|refine zI ?_|refine zM ?_|refine zN ?_|refine zO ?_|refine zP ?_|refine zQ ?_|refine zR ?_)|((with_reducible refine zU (hK _ _ ?_));clear hK K)|((with_reducible refine zV ?_ ?_ fun K1 K3 d hdst h1 h3=>?_);rfl;exact yB rfl;cases hdst;go_simp)|((with_reducible refine zW fun K1 K3 h1 h3=>?_);go_simp)|((first|refine h1 ?_|refine h3 ?_);clear h1 h3 K1 K3)|((first|refine zX (fun hb=>h1 ?_) (fun hb=>h3 ?_)|refine zX (fun hb=>h3 ?_) (fun hb=>h1 ?_))<;>(clear h1 h3 K1 K3;(try have hb2:=yC hb);(try have hb2:=yD hb);(try have hb2:=yE hb);(try have hb2:=yF hb);(try have hb2:=yG hb)))|(refine fun (K2:_→AHeap→Prop) hK2=>?_)|((with_reducible refine zY ?_ ?_);decide)|((with_reducible first|refine zZ ?_ (fun K hK=>?_)|refine yA ?_ (fun K hK=>?_));(focus go_simp;done);go_simp;refine hK _ _ ?_;clear hK K)|(go_simp;(try go_bits);refine hK2 _ _ ?_;clear hK2 K2))
      all_goals (
        have HV2 := HS2.out
        refine Post.round_normal ⟨l.length - (k + 1), by omega, k + 1, by omega, rfl, (by first|go_simp<;>go_num|assumption), (by first|go_simp<;>go_num|assumption), (by first|go_simp<;>go_num|assumption), (by first|go_simp<;>go_num|assumption), (by first|go_simp<;>go_num|assumption), ?_, (by first|go_simp<;>go_num|assumption), HX.out.push' _⟩
        rw [HV2]
        (focus first | (go_simp; done) | (go_simp; simp_all; done) | (go_simp; simp_all; omega)))
  · repeat' (first|(with_reducible first|refine zA ?_|refine zB fun K hK=>?_|refine zC fun K2 hK2=>?_|refine zD ?_|refine zE ?_|refine zF ?_|refine zG ?_|refine zH ?_|refine zI ?_|refine zM ?_|refine zN ?_|refine zO ?_|refine zP ?_|refine zQ ?_|refine zR ?_)|((with_reducible refine zU (hK _ _ ?_));clear hK K)|((with_reducible refine zV ?_ ?_ fun K1 K3 d hdst h1 h3=>?_);rfl;exact yB rfl;cases hdst;go_simp)|((with_reducible refine zW fun K1 K3 h1 h3=>?_);go_simp)|((first|refine h1 ?_|refine h3 ?_);clear h1 h3 K1 K3)|((first|refine zX (fun hb=>h1 ?_) (fun hb=>h3 ?_)|refine zX (fun hb=>h3 ?_) (fun hb=>h1 ?_))<;>(clear h1 h3 K1 K3;(try have hb2:=yC hb);(try have hb2:=yD hb);(try have hb2:=yE hb);(try have hb2:=yF hb);(try have hb2:=yG hb)))|(refine fun (K2:_→AHeap→Prop) hK2=>?_)|((with_reducible refine zY ?_ ?_);decide)|((with_reducible first|refine zZ ?_ (fun K hK=>?_)|refine yA ?_ (fun K hK=>?_));(focus go_simp;done);go_simp;refine hK _ _ ?_;clear hK K)|(go_simp;(try go_bits);refine hK2 _ _ ?_;clear hK2 K2))
    refine ⟨?_, HX.out⟩
    rw [List.take_of_length_le (by omega)]
end Go.Proofs.Tryz
namespace Go.Proofs.Tryz
open Go Go.Am Go.RowKit
set_option maxRecDepth 100000


theorem bound_s {loops : List (Nat × LInfo)} {H : AHeap} {n lo hi : Int} : CallS Tryz.prog loops 156 [.int .i64 n, .int .i64 lo, .int .i64 hi] H fun v H' => v = .int .i64 (min (max n lo) hi) ∧ H' = H := by
  refine CallS.enter' Tryz.func156 rfl Tryz.ntmps156 (by simp) fun f hd hf => ?_
  have f0 := hf 0
  have f1 := hf 1
  have f2 := hf 2
  simp at f0 f1 f2
  clear hf
  repeat' (first|(with_reducible first|refine zA ?_|refine zB fun K hK=>?_|refine zC fun K2 hK2=>?_|refine zD ?_|refine zE ?_|refine zF ?_|refine zG ?_|refine zH ?_|refine zI ?_|refine zM ?_|refine zN ?_|refine zO ?_|refine zP ?_|refine zQ ?_|refine zR ?_)|((with_reducible refine zU (hK _ _ ?_));clear hK K)|((with_reducible refine zV ?_ ?_ fun K1 K3 d hdst h1 h3=>?_);rfl;exact yB rfl;cases hdst;go_simp)|((with_reducible refine zW fun K1 K3 h1 h3=>?_);go_simp)|((first|refine h1 ?_|refine h3 ?_);clear h1 h3 K1 K3)|((first|refine zX (fun hb=>h1 ?_) (fun hb=>h3 ?_)|refine zX (fun hb=>h3 ?_) (fun hb=>h1 ?_))<;>(clear h1 h3 K1 K3;(try have hb2:=yC hb);(try have hb2:=yD hb);(try have hb2:=yE hb);(try have hb2:=yF hb);(try have hb2:=yG hb)))|(refine fun (K2:_→AHeap→Prop) hK2=>?_)|((with_reducible refine zY ?_ ?_);decide)|((with_reducible first|refine zZ ?_ (fun K hK=>?_)|refine yA ?_ (fun K hK=>?_));(focus go_simp;done);go_simp;refine hK _ _ ?_;clear hK K)|(go_simp;(try go_bits);refine hK2 _ _ ?_;clear hK2 K2))
  exact ⟨rfl, rfl⟩
theorem st117 : structOk Tryz.prog 117 = true := by kernel_rfl
theorem bound_iff {n lo hi : Int} (h : lo ≤ hi) : (n == min (max n lo) hi) = win lo hi n := by
  rw [Bool.eq_iff_iff, win_iff]; simp only [beq_iff_eq]; omega

theorem part5_0 (a b c d e : Value) : pureOf Tryz.prog (part 3 #[a, b, c, d, e] 0) = some a := by kernel_rfl
theorem part5_1 (a b c d e : Value) : pureOf Tryz.prog (part 3 #[a, b, c, d, e] 1) = some b := by kernel_rfl
theorem part5_2 (a b c d e : Value) : pureOf Tryz.prog (part 3 #[a, b, c, d, e] 2) = some c := by kernel_rfl
theorem part5_3 (a b c d e : Value) : pureOf Tryz.prog (part 3 #[a, b, c, d, e] 3) = some d := by kernel_rfl
theorem part5_4 (a b c d e : Value) : pureOf Tryz.prog (part 3 #[a, b, c, d, e] 4) = some e := by kernel_rfl
theorem un117p : ∃ f0 f1 f2 f3 f4 : Field, pureOf Tryz.prog (underlying 117) = some (.struct #[f0, f1, f2, f3, f4]) ∧ ((f0.name != "_") = true ∧ (f1.name != "_") = true ∧ (f2.name != "_") = true ∧ (f3.name != "_") = true ∧ (f4.name != "_") = true) ∧ (f0.type = 3 ∧ f1.type = 3 ∧ f2.type = 3 ∧ f3.type = 3 ∧ f4.type = 3) ∧ f0.offset = 0 ∧ f1.offset = 1 ∧ f2.offset = 2 ∧ f3.offset = 3 ∧ f4.offset = 4 :=
  ⟨(fieldOf Tryz.prog 117 0).getD default, (fieldOf Tryz.prog 117 1).getD default, (fieldOf Tryz.prog 117 2).getD default, (fieldOf Tryz.prog 117 3).getD default, (fieldOf Tryz.prog 117 4).getD default, by kernel_rfl, by refine ⟨?_, ?_, ?_, ?_, ?_⟩ <;> kernel_rfl, by refine ⟨?_, ?_, ?_, ?_, ?_⟩ <;> kernel_rfl, by kernel_rfl, by kernel_rfl, by kernel_rfl, by kernel_rfl, by kernel_rfl⟩
def Pst.eqb (p q : Pst) : Bool := p.id == q.id && (p.day == q.day && (p.src == q.src && (p.dst == q.dst && p.coins == q.coins)))
theorem pEq117 (d : Nat) (p q : Pst) : pureOf Tryz.prog (Op.equalIn (d + 3) 117 p.val q.val) = some (p.eqb q) := by
  obtain ⟨a, b, c, e, g⟩ := p
  obtain ⟨a', b', c', e', g'⟩ := q
  obtain ⟨f0, f1, f2, f3, f4, hfs, ⟨n0, n1, n2, n3, n4⟩, ⟨t0, t1, t2, t3, t4⟩, o0, o1, o2, o3, o4⟩ := un117p
  unfold Pst.val Pst.eqb
  rw [Op.equalIn]
  rw [pureOf_bind, hfs]
  dsimp only [Option.bind]
  rw [pureOf_bind, show pureOf Tryz.prog program = some Tryz.prog from rfl]
  dsimp only [Option.bind]
  rw [show Tryz.prog.stoodInHeld 117 = false by kernel_rfl, if_neg (by simp)]
  simp only [List.forIn_toArray, List.forIn_cons, List.forIn_nil]
  simp only [if_pos (bne_iff_ne.1 n0), if_pos (bne_iff_ne.1 n1), if_pos (bne_iff_ne.1 n2), if_pos (bne_iff_ne.1 n3), if_pos (bne_iff_ne.1 n4), t0, t1, t2, t3, t4, o0, o1, o2, o3, o4, pureOf_bind, part5_0, pEq3, Option.bind_some]
  cases (a == a')
  · rfl
  · simp only [Bool.not_true, Bool.false_eq_true, if_false, pureOf_pure, Option.bind_some, pureOf_bind, part5_1, pEq3]
    cases (b == b')
    · rfl
    · simp only [Bool.not_true, Bool.false_eq_true, if_false, pureOf_pure, Option.bind_some, pureOf_bind, part5_2, pEq3]
      cases (c == c')
      · rfl
      · simp only [Bool.not_true, Bool.false_eq_true, if_false, pureOf_pure, Option.bind_some, pureOf_bind, part5_3, pEq3]
        cases (e == e')
        · rfl
        · simp only [Bool.not_true, Bool.false_eq_true, if_false, pureOf_pure, Option.bind_some, pureOf_bind, part5_4, pEq3]
          cases (g == g') <;> rfl
theorem eqF117 (x y : Operand) (p q : Pst) : pureOf Tryz.prog (do eqGuard .eql 117 x y p.val q.val; binOp .eql 117 p.val q.val) = some (.bool (p.eqb q)) := by
  rw [pureOf_bind, show pureOf Tryz.prog (eqGuard .eql 117 x y p.val q.val) = some () by obtain ⟨a, b, c, e, g⟩ := p; obtain ⟨a', b', c', e', g'⟩ := q; unfold Pst.val; kernel_rfl]
  dsimp only [Option.bind]
  rw [show binOp .eql 117 p.val q.val = (do pure (.bool (← Op.equal 117 p.val q.val))) from rfl]
  rw [pureOf_bind, show Op.equal 117 p.val q.val = Op.equalIn (9997 + 3) 117 p.val q.val from rfl, pEq117]
  rfl
section
variable {H : AHeap} {ev : Operand → Value} {dst : Option Tmp} {ty t' : TypeId} {src : String} {af : Array Edge} {g : Option (Nat × Bool)} {x y : Operand} {β : Type} {kk : K β} {other : Unit → Option β}
theorem eq117_eq {p q : Pst} (hx : ev x = p.val) (hy : ev y = q.val) : aPlain Tryz.prog ⟨dst, .binOp .eql 117 x y t', ty, src, af, g⟩ ev H kk = kk (.bool (p.eqb q)) H := by
  have hr : pureOf Tryz.prog (execOp ev ⟨dst, .binOp .eql 117 x y t', ty, src, af, g⟩) = some (.value (.bool (p.eqb q))) := by
    have h0 : execOp ev ⟨dst, .binOp .eql 117 x y t', ty, src, af, g⟩ = (do pure (.value (← (do eqGuard .eql 117 x y (ev x) (ev y); binOp .eql 117 (ev x) (ev y))))) := rfl
    rw [h0, hx, hy, pureOf_bind, eqF117]; rfl
  rw [plain_of rfl, hr]
  have ho : (Op.binOp .eql 117 x y t').operands.toList.all (fun x => plainV 6 (ev x)) = true := by
    show (#[x, y].toList.all fun x => plainV 6 (ev x)) = _
    simp [hx, hy]; exact ⟨rfl, rfl⟩
  rw [if_pos ho]; rfl
theorem eq117_o {cx : Cx} {f : AF} {k : AF → AHeap → Prop} {p q : Pst} (hx : f.eval x = p.val) (hy : f.eval y = q.val) (h : putP cx.sz f dst (.bool (p.eqb q)) fun f' => k f' H) : opP Tryz.prog cx ⟨dst, .binOp .eql 117 x y t', ty, src, af, g⟩ f H k := by
  rw [opP_bin, hx, hy]
  unfold Pst.val
  rw [aBin_aggE, eq117_eq (p := p) (q := q) hx hy]
  exact h
end
def Pst.near (p : Pst) (acc : Int) : Pst := ⟨min (max p.id 1) 1099511627776, min (max p.day 0) 730, min (max p.src 0) (acc - 1), min (max p.dst 0) (acc - 1), min (max p.coins 1) 1099511627776⟩
theorem near_iff {p : Pst} {acc : Int} (h : 1 ≤ acc) : (p.eqb (p.near acc) && !decide (p.src = p.dst)) = p.right acc := by
  unfold Pst.eqb Pst.near Pst.right
  rw [bound_iff (by decide), bound_iff (by decide), bound_iff (by omega), bound_iff (by omega), bound_iff (by decide)]
  simp only [Bool.and_assoc]

set_option maxHeartbeats 2000000 in
theorem isPost_s {loops : List (Nat × LInfo)} {H : AHeap} {p : Pst} {acc : Int} (ha : 1 ≤ acc ∧ acc ≤ 10) : CallS Tryz.prog loops 109 [p.val, .int .i64 acc] H fun r H' => r = .bool (p.right acc) ∧ H' = H := by
  refine CallS.forget (R := fun r => r = .bool (p.right acc)) (by rintro v rfl; rfl) ?_
  rw [← near_iff ha.1]
  have w1 := wrap_id (n := acc - 1) (by omega)
  have HW := Lib.hid ha
  have HQ := Lib.hid (show p.near acc = p.near acc from rfl)
  unfold Pst.val
  obtain ⟨i, dy, fr, to, co⟩ := p
  clear ha
  simp only
  refine CallS.enter' Tryz.func109 rfl Tryz.ntmps109 (by simp) fun f hd hf => ?_
  have f0 := hf 0
  have f1 := hf 1
  simp at f0 f1
  clear hf
  repeat' (first|((with_reducible refine eq117_o (p := ⟨i, dy, fr, to, co⟩) (q := Pst.near ⟨i, dy, fr, to, co⟩ acc) ?_ ?_ ?_); (focus first | (go_simp; done) | (go_simp; rfl)); (focus first | (go_simp; done) | (go_simp; rfl)); go_simp; refine hK2 _ _ ?_; clear hK2 K2) | ((with_reducible refine xA ?_ ?_); focus (go_simp; rw [aBuild_struct st117 ze117]; go_simp; done))|(with_reducible first|refine zA ?_|refine zB fun K hK=>?_|refine zC fun K2 hK2=>?_|refine zD ?_|refine zE ?_|refine zF ?_|refine zG ?_|refine zH ?_|refine zI ?_|refine zM ?_|refine zN ?_|refine zO ?_|refine zP ?_|refine zQ ?_|refine zR ?_)|((with_reducible refine zU (hK _ _ ?_));clear hK K)|((with_reducible refine zV ?_ ?_ fun K1 K3 d hdst h1 h3=>?_);rfl;exact yB rfl;cases hdst;go_simp)|((with_reducible refine zW fun K1 K3 h1 h3=>?_);go_simp)|((first|refine h1 ?_|refine h3 ?_);clear h1 h3 K1 K3)|((first|refine zX (fun hb=>h1 ?_) (fun hb=>h3 ?_)|refine zX (fun hb=>h3 ?_) (fun hb=>h1 ?_))<;>(clear h1 h3 K1 K3;(try have hb2:=yC hb);(try have hb2:=yD hb);(try have hb2:=yE hb);(try have hb2:=yF hb);(try have hb2:=yG hb)))|(refine fun (K2:_→AHeap→Prop) hK2=>?_)|((with_reducible refine zY ?_ ?_);decide)|((with_reducible first|refine zZ ?_ (fun K hK=>?_)|refine yA ?_ (fun K hK=>?_));(focus go_simp;done);go_simp;refine hK _ _ ?_;clear hK K)|((with_reducible refine yH mixed rfl ?_ 20 fun K0 hK0=>?_);kernel_rfl)|(with_reducible first|exact yI|exact yJ|refine yK ?_|refine yL ?_|refine yM ?_)|((with_reducible first|refine yN ?_ ?_|refine yO ?_ ?_|refine yP ?_ ?_);rfl)|((with_reducible refine yQ ?_ ?_);rfl;refine hK0 _ _ ?_;clear hK0 K0)|((with_reducible refine yR ?_ ?_ ?_ ?_);rfl;rfl;rfl)|((with_reducible refine yS ?_ ?_ ?_ fun K2 hK2=>?_);rfl;rfl;exact yB rfl)|((with_reducible refine yT ?_ ?_ ?_ ?_ fun K1 K3 d hdst h1 h3=>?_);rfl;rfl;rfl;exact yB rfl;cases hdst;go_simp)|((with_reducible refine yU ?_ ?_ ?_ ?_ fun K1 K3 d hdst h1 h3=>?_);rfl;rfl;rfl;exact yB rfl;cases hdst;go_simp)|((with_reducible refine yV ?_ ?_ (fun K2 hK2=>?_) ?_);rfl;exact yB rfl)|((with_reducible refine yW ?_ ?_ ?_ ?_ (fun K2 hK2=>?_) ?_);rfl;exact yB rfl;rfl;(focus go_simp;done))|((with_reducible refine yX ?_ ?_ ?_ (fun K2 hK2=>?_) ?_);rfl;rfl;exact yB rfl)|((with_reducible refine yY ?_ ?_ (fun K2 hK2=>?_) ?_);rfl;rfl)|((with_reducible refine yZ ?_ ?_);(first|rfl|(dsimp only;decide +kernel)))|((with_reducible refine xA ?_ ?_);(focus go_simp;done))|(go_simp;(try go_bits);(try first | ((with_reducible show CallS _ _ _ _ _ _);refine CallS.mono bound_s ?_; rintro _ _ ⟨rfl, h9⟩; rw [h9]; clear h9; go_simp) | ((rw [aBuild_struct st117 ze117]); go_simp));(first|(refine hK2 _ _ ?_ ?_<;>clear hK2 K2)|(refine hK2 _ _ ?_;clear hK2 K2))))
  all_goals first | exact ⟨by (have e9 : (fr != to) = !decide (fr = to) := by by_cases h : fr = to <;> simp [h]); simp_all, (by repeat (first | exact Ext.refl _ | refine Ext.push' ?_ _))⟩
end Go.Proofs.Tryz
namespace Go.Proofs.Tryz
open Go Go.Am Go.RowKit
set_option maxRecDepth 100000


def errGoP (acc : Int) : List Int → List Pst → Int
  | _, [] => 0
  | seen, a :: l => if a.right acc = false then 1 else if a.id ∈ seen then 6 else errGoP acc (seen ++ [a.id]) l
def errP (l : List Pst) (acc : Int) : Int := if win 1 10 acc = false then 1 else if 80 < l.length then 2 else errGoP acc [] l

def seenP (l : List Pst) : List (Int × Value) := l.map fun a => (a.id, .bool true)
theorem look_boolP : ∀ (l : List Pst) (k : Int), (lookL (seenP l) k).getD (.bool false) = .bool (decide (k ∈ l.map (·.id)))
  | [], k => rfl
  | a :: l, k => by
    have := look_boolP l k
    simp only [lookL, seenP, List.map_cons, List.find?_cons, List.mem_cons] at *
    by_cases h : k = a.id
    · simp [h]
    · have hb : (k == a.id) = false := by simpa using h
      rw [hb]; simp only [h, false_or]; exact this
theorem put_seenP : ∀ (l : List Pst) (a : Pst), a.id ∉ l.map (·.id) → putL (seenP l) a.id (.bool true) = seenP (l ++ [a])
  | [], a, _ => rfl
  | x :: l, a, h => by
    simp only [List.map_cons, List.mem_cons, not_or] at h
    have := put_seenP l a h.2
    simp only [seenP, List.map_cons, List.cons_append, putL] at *
    rw [if_neg (by simpa using h.1), this]

set_option maxHeartbeats 4000000 in
theorem checkPosts_e {loops : List (Nat × LInfo)} {H : AHeap} {v : Value} {l : List Pst} {acc : Int} (hv : Psts H v l) : CallS Tryz.prog loops 51 [v, .int .i64 acc] H fun r H' => r = .int .i64 (errP l acc) ∧ Ext H H' := by
  obtain ⟨hlen, a, c, rfl⟩ := hv.slice
  have HV := Lib.hid hv
  clear hv
  generalize he : errP l acc = er
  have HE := Lib.hid he
  clear he
  by_cases hw1 : win 1 10 acc = true
  case' neg =>
    have hw0 : win 1 10 acc = false := by simpa using hw1
    refine CallS.enter' Tryz.func51 rfl Tryz.ntmps51 (by simp) fun f hd hf => ?_
    have f0 := hf 0
    have f1 := hf 1
    simp at f0 f1
    clear hf
    have HW0 := Lib.hid hw0
    clear hw1 hw0
    repeat' (first|(with_reducible first|refine zA ?_|refine zB fun K hK=>?_|refine zC fun K2 hK2=>?_|refine zD ?_|refine zE ?_|refine zF ?_|refine zG ?_|refine zH ?_|refine zI ?_|refine zM ?_|refine zN ?_|refine zO ?_|refine zP ?_|refine zQ ?_|refine zR ?_)|((with_reducible refine zU (hK _ _ ?_));clear hK K)|((with_reducible refine zV ?_ ?_ fun K1 K3 d hdst h1 h3=>?_);rfl;exact yB rfl;cases hdst;go_simp)|((with_reducible refine zW fun K1 K3 h1 h3=>?_);go_simp)|((first|refine h1 ?_|refine h3 ?_);clear h1 h3 K1 K3)|((first|refine zX (fun hb=>h1 ?_) (fun hb=>h3 ?_)|refine zX (fun hb=>h3 ?_) (fun hb=>h1 ?_))<;>(clear h1 h3 K1 K3;(try have hb2:=yC hb);(try have hb2:=yD hb);(try have hb2:=yE hb);(try have hb2:=yF hb);(try have hb2:=yG hb)))|(refine fun (K2:_→AHeap→Prop) hK2=>?_)|((with_reducible refine zY ?_ ?_);decide)|((with_reducible first|refine zZ ?_ (fun K hK=>?_)|refine yA ?_ (fun K hK=>?_));(focus go_simp;done);go_simp;refine hK _ _ ?_;clear hK K)|(go_simp;(try go_bits);(try first | ((with_reducible show CallS _ _ _ _ _ _);refine CallS.mono within_s ?_; rw [HW0.out]; rintro _ _ ⟨rfl, rfl⟩));refine hK2 _ _ ?_;clear hK2 K2))
    refine ⟨?_, Ext.refl _⟩
    rw [← HE.out]; simp [errP, HW0.out]
  case' pos =>
    have HW1 := Lib.hid hw1
    have hac := win_iff.1 hw1
    by_cases h80 : 80 < l.length
    case' pos =>
      have h80b : (80 : Int) < (l.length : Int) := by omega
      refine CallS.enter' Tryz.func51 rfl Tryz.ntmps51 (by simp) fun f hd hf => ?_
      have f0 := hf 0
      have f1 := hf 1
      simp at f0 f1
      clear hf hw1 hac
      repeat' (first|(with_reducible first|refine zA ?_|refine zB fun K hK=>?_|refine zC fun K2 hK2=>?_|refine zD ?_|refine zE ?_|refine zF ?_|refine zG ?_|refine zH ?_|refine zI ?_|refine zM ?_|refine zN ?_|refine zO ?_|refine zP ?_|refine zQ ?_|refine zR ?_)|((with_reducible refine zU (hK _ _ ?_));clear hK K)|((with_reducible refine zV ?_ ?_ fun K1 K3 d hdst h1 h3=>?_);rfl;exact yB rfl;cases hdst;go_simp)|((with_reducible refine zW fun K1 K3 h1 h3=>?_);go_simp)|((first|refine h1 ?_|refine h3 ?_);clear h1 h3 K1 K3)|((first|refine zX (fun hb=>h1 ?_) (fun hb=>h3 ?_)|refine zX (fun hb=>h3 ?_) (fun hb=>h1 ?_))<;>(clear h1 h3 K1 K3;(try have hb2:=yC hb);(try have hb2:=yD hb);(try have hb2:=yE hb);(try have hb2:=yF hb);(try have hb2:=yG hb)))|(refine fun (K2:_→AHeap→Prop) hK2=>?_)|((with_reducible refine zY ?_ ?_);decide)|((with_reducible first|refine zZ ?_ (fun K hK=>?_)|refine yA ?_ (fun K hK=>?_));(focus go_simp;done);go_simp;refine hK _ _ ?_;clear hK K)|(go_simp;(try go_bits);(try first | ((with_reducible show CallS _ _ _ _ _ _);refine CallS.mono within_s ?_; rw [HW1.out]; rintro _ _ ⟨rfl, h9⟩; rw [h9]; clear h9; go_simp));refine hK2 _ _ ?_;clear hK2 K2))
      refine ⟨?_, Ext.refl _⟩
      rw [← HE.out]; simp [errP, HW1.out, h80]
    have h80b : ¬ (80 : Int) < (l.length : Int) := by omega
    have HIP := Lib.hid (fun (loops : List (Nat × LInfo)) (H2 : AHeap) (p : Pst) => isPost_s (loops := loops) (H := H2) (p := p) hac)
    refine CallS.enter' Tryz.func51 rfl Tryz.ntmps51 (by simp) fun f hd hf => ?_
    have f0 := hf 0
    have f1 := hf 1
    simp at f0 f1
    clear hf hw1 hac
    repeat' (first|(with_reducible first|refine zA ?_|refine zB fun K hK=>?_|refine zC fun K2 hK2=>?_|refine zD ?_|refine zE ?_|refine zF ?_|refine zG ?_|refine zH ?_|refine zI ?_|refine zM ?_|refine zN ?_|refine zO ?_|refine zP ?_|refine zQ ?_|refine zR ?_)|((with_reducible refine zU (hK _ _ ?_));clear hK K)|((with_reducible refine zV ?_ ?_ fun K1 K3 d hdst h1 h3=>?_);rfl;exact yB rfl;cases hdst;go_simp)|((with_reducible refine zW fun K1 K3 h1 h3=>?_);go_simp)|((first|refine h1 ?_|refine h3 ?_);clear h1 h3 K1 K3)|((first|refine zX (fun hb=>h1 ?_) (fun hb=>h3 ?_)|refine zX (fun hb=>h3 ?_) (fun hb=>h1 ?_))<;>(clear h1 h3 K1 K3;(try have hb2:=yC hb);(try have hb2:=yD hb);(try have hb2:=yE hb);(try have hb2:=yF hb);(try have hb2:=yG hb)))|(refine fun (K2:_→AHeap→Prop) hK2=>?_)|((with_reducible refine zY ?_ ?_);decide)|((with_reducible first|refine zZ ?_ (fun K hK=>?_)|refine yA ?_ (fun K hK=>?_));(focus go_simp;done);go_simp;refine hK _ _ ?_;clear hK K)|(go_simp;(try go_bits);(try first | ((with_reducible show CallS _ _ _ _ _ _);refine CallS.mono within_s ?_; rw [HW1.out]; rintro _ _ ⟨rfl, h9⟩; rw [h9]; clear h9; go_simp));refine hK2 _ _ ?_;clear hK2 K2))
    have HE2 : Hid (errGoP acc [] l = er) := Lib.hid (by rw [← HE.out]; simp [errP, HW1.out, h80])
    clear HE h80 h80b
    refine CodeS.loop (fun m f H' => ∃ (k : Nat), k ≤ l.length ∧ m = l.length - k ∧ f.tmp 17 = .int .i64 k ∧ f.tmp 16 = .int .i64 l.length ∧ f.tmp 15 = .slice a l.length c ∧ f.tmp 1 = .int .i64 acc ∧ f.tmp 5 = .map (some H.n) ∧ f.defers = [] ∧ Hid (errGoP acc ((l.take k).map (·.id)) (l.drop k) = er) ∧ H.n < H'.n ∧ Ext H H' ∧ MapIs H' H.n (seenP (l.take k))) l.length ?_ ?_
    · refine ⟨0, by simp, by simp, (by first|go_simp<;>go_num|assumption), (by first|go_simp<;>go_num|assumption), (by first|go_simp<;>go_num|assumption), (by first|go_simp<;>go_num|assumption), (by first|go_simp<;>go_num|assumption), (by first|go_simp<;>go_num|assumption), Lib.hid (by simpa using HE2.out), ?_, ?_, ?_⟩
      · rw [AHeap.n_push]; omega
      · exact (Ext.refl _).push' _
      · exact MapIs.new
    clear f0 f1 hd HE2 f
    rintro m f H' ⟨k, hk, rfl, f17, f16, f15, f1, f5, hd, HG, hn, hx, hm⟩
    have HX := Lib.hid hx
    have HM := Lib.hid hm
    clear hx hm
    by_cases hlt : k < l.length
    · obtain ⟨b, o, sp, rfl, hb, hx5, -⟩ := (HV.out.ext HX.out).at_ hlt
      have HD := Lib.hid (List.drop_eq_getElem_cons hlt)
      have HT := Lib.hid (List.take_succ_eq_append_getElem hlt)
      generalize l[k] = p at hx5 HD HT
      have HIQ := Lib.hid (fun (loops : List (Nat × LInfo)) (H2 : AHeap) => HIP.out loops H2 p)
      generalize hr : p.right acc = rt at HIQ
      have HR := Lib.hid hr
      clear hr
      obtain ⟨i, dy, fr, to, co⟩ := p
      simp only [Pst.cells] at hx5
      unfold Pst.val at HIQ
      simp only at HIQ
      have HLB := Lib.hid (look_boolP (l.take k) i)
      repeat' (first|(with_reducible first|refine zA ?_|refine zB fun K hK=>?_|refine zC fun K2 hK2=>?_|refine zD ?_|refine zE ?_|refine zF ?_|refine zG ?_|refine zH ?_|refine zI ?_|refine zM ?_|refine zN ?_|refine zO ?_|refine zP ?_|refine zQ ?_|refine zR ?_)|((with_reducible refine zU (hK _ _ ?_));clear hK K)|((with_reducible refine zV ?_ ?_ fun K1 K3 d hdst h1 h3=>?_);rfl;exact yB rfl;cases hdst;go_simp)|((with_reducible refine zW fun K1 K3 h1 h3=>?_);go_simp)|((first|refine h1 ?_|refine h3 ?_);clear h1 h3 K1 K3)|((first|refine zX (fun hb=>h1 ?_) (fun hb=>h3 ?_)|refine zX (fun hb=>h3 ?_) (fun hb=>h1 ?_))<;>(clear h1 h3 K1 K3;(try have hb2:=yC hb);(try have hb2:=yD hb);(try have hb2:=yE hb);(try have hb2:=yF hb);(try have hb2:=yG hb)))|(refine fun (K2:_→AHeap→Prop) hK2=>?_)|((with_reducible refine zY ?_ ?_);decide)|((with_reducible first|refine zZ ?_ (fun K hK=>?_)|refine yA ?_ (fun K hK=>?_));(focus go_simp;done);go_simp;refine hK _ _ ?_;clear hK K)|(go_simp;(try go_bits);(try first | ((with_reducible show CallS _ _ _ _ _ _);refine CallS.mono (HIQ.out _ _) ?_; rintro _ _ ⟨rfl, rfl⟩) | ((refine look_k ma171 un3 ze4 (HM.out.ext hn ((Ext.refl _).push' _)) ?_); rw [HLB.out]; go_simp) | ((refine update_k ma171 un3 (HM.out.ext hn (((Ext.refl _).push' _))) fun H2 hn2 hm2 hg2 => ?_); go_simp));refine hK2 _ _ ?_;clear hK2 K2))
      · refine ⟨?_, HX.out.push' _⟩
        have hw : rt = false := by simpa using hb
        rw [← HG.out, HD.out, errGoP, HR.out, if_pos hw]
      · refine ⟨?_, HX.out.push' _⟩
        have hw : ¬ rt = false := by simp_all
        have hin : i ∈ (l.take k).map (·.id) := of_decide_eq_true (by rw [List.map_take]; exact hb)
        rw [← HG.out, HD.out, errGoP, HR.out, if_neg hw, if_pos hin]
      · have hw : ¬ rt = false := by simp_all
        have hin : i ∉ (l.take k).map (·.id) := of_decide_eq_false (by rw [List.map_take]; exact hb)
        have hp := put_seenP (l.take k) ⟨i, dy, fr, to, co⟩ hin
        refine Post.round_normal ⟨l.length - (k + 1), by omega, k + 1, by omega, rfl, (by first|go_simp<;>go_num|assumption), (by first|go_simp<;>go_num|assumption), (by first|go_simp<;>go_num|assumption), (by first|go_simp<;>go_num|assumption), (by first|go_simp<;>go_num|assumption), (by first|go_simp<;>go_num|assumption), Lib.hid ?_, ?_, ?_, ?_⟩
        · rw [← HG.out, HD.out, HT.out, errGoP, HR.out, if_neg hw, if_neg hin]; simp
        · rw [hn2, AHeap.n_push]; omega
        · have hle := HX.out.n
          refine ⟨by rw [hn2, AHeap.n_push]; omega, fun j hj => ?_⟩
          rw [hg2 _ (by omega), AHeap.get_push_old (by omega), HX.out.get j hj]
        · rw [hp] at hm2
          rw [HT.out]; exact hm2
    · repeat' (first|(with_reducible first|refine zA ?_|refine zB fun K hK=>?_|refine zC fun K2 hK2=>?_|refine zD ?_|refine zE ?_|refine zF ?_|refine zG ?_|refine zH ?_|refine zI ?_|refine zM ?_|refine zN ?_|refine zO ?_|refine zP ?_|refine zQ ?_|refine zR ?_)|((with_reducible refine zU (hK _ _ ?_));clear hK K)|((with_reducible refine zV ?_ ?_ fun K1 K3 d hdst h1 h3=>?_);rfl;exact yB rfl;cases hdst;go_simp)|((with_reducible refine zW fun K1 K3 h1 h3=>?_);go_simp)|((first|refine h1 ?_|refine h3 ?_);clear h1 h3 K1 K3)|((first|refine zX (fun hb=>h1 ?_) (fun hb=>h3 ?_)|refine zX (fun hb=>h3 ?_) (fun hb=>h1 ?_))<;>(clear h1 h3 K1 K3;(try have hb2:=yC hb);(try have hb2:=yD hb);(try have hb2:=yE hb);(try have hb2:=yF hb);(try have hb2:=yG hb)))|(refine fun (K2:_→AHeap→Prop) hK2=>?_)|((with_reducible refine zY ?_ ?_);decide)|((with_reducible first|refine zZ ?_ (fun K hK=>?_)|refine yA ?_ (fun K hK=>?_));(focus go_simp;done);go_simp;refine hK _ _ ?_;clear hK K)|(go_simp;(try go_bits);refine hK2 _ _ ?_;clear hK2 K2))
      refine ⟨?_, HX.out⟩
      rw [← HG.out, List.drop_eq_nil_of_le (by omega)]; rfl

theorem checkPosts_s {loops : List (Nat × LInfo)} {H : AHeap} {v : Value} {l : List Pst} {acc : Int} (hv : Psts H v l) : CallS Tryz.prog loops 51 [v, .int .i64 acc] H fun r H' => r = .int .i64 (errP l acc) ∧ H' = H :=
  (checkPosts_e hv).forget (R := fun v => v = .int .i64 (errP l acc)) (by rintro v rfl; rfl)
end Go.Proofs.Tryz
