/- Contracts of functions, walked. -/
import Derived.Test.YtbpdmnkbehapcaaChecked
import Derived.Test.YtbpdmnkbehapcaaRows
import Derived.Below
import Derived.Carry
import Derived.Deep.Slices
import Derived.Deep.Fields
import Derived.ChangeSame
import Derived.ProofKit
import Derived.OpenShut
import Derived.ShutString
import Derived.ChangeOld
import Derived.Lib.SmallJoins
import Derived.Test.YtbpdmnkbehapcaaStRB
import Derived.Test.YtbpdmnkbehapcaaAmS
import Derived.Test.YtbpdmnkbehapcaaAwB
import Derived.Test.YtbpdmnkbehapcaaStRC
set_option linter.all false
namespace Go.Proofs.Try
open Go Go.Am Go.RowKit
set_option maxRecDepth 100000


section
variable {H : AHeap} {β : Type} {kk : K β} {other : Unit → Option β} {dst : Option Tmp} {ty : TypeId} {src : String} {af : Array Edge} {g : Option (Nat × Bool)}
@[go_sem] theorem aBin_bool {a b : Bool} : aBin Try.prog .eql 4 (.bool a) (.bool b) H kk other = other () := by
  have h : nilEq Try.prog 4 (.bool a) (.bool b) = none := by kernel_rfl
  simp only [aBin, aEq, h]
noncomputable def eqBV (o : Oper) (ev : Operand → Value) (v u : Value) (H : AHeap) (kk : K β) : Option β := match v, u with
  | .bool a, .bool b => kk (.bool (a == b)) H
  | _, _ => plainRest Try.prog o ev H kk
@[go_sem] theorem eqBV_bool {o : Oper} {ev : Operand → Value} {a b : Bool} : eqBV o ev (.bool a) (.bool b) H kk = kk (.bool (a == b)) H := rfl
@[go_sem] theorem aPlain_eqB {t' : TypeId} {x y : Operand} {ev : Operand → Value} : aPlain Try.prog ⟨dst, .binOp .eql 4 x y t', ty, src, af, g⟩ ev H kk = eqBV ⟨dst, .binOp .eql 4 x y t', ty, src, af, g⟩ ev (ev x) (ev y) H kk := by
  unfold eqBV
  split
  · rename_i a b hx hy
    rw [plain_of rfl]
    have e1 : ((Op.binOp .eql 4 x y t').operands.toList.all fun x => plainV 6 (ev x)) = true := by
      show ([x, y].all fun x => plainV 6 (ev x)) = true
      simp [hx, hy]
      exact ⟨rfl, rfl⟩
    rw [if_pos e1]
    have e2 : pureOf Try.prog (execOp ev ⟨dst, .binOp .eql 4 x y t', ty, src, af, g⟩) = some (.value (.bool (a == b))) := by
      simp only [execOp, hx, hy]
      kernel_rfl
    rw [e2]
    rfl
  · rfl
end
theorem head_s {loops : List (Nat × LInfo)} {H : AHeap} : CallS Try.prog loops 11 [] H fun r H' => r = .bool true ∧ H' = H := CallS.of_calls rfl rfl sanity_calls

def Tour.few (t : Tour) : Bool := decide (t.closed.length ≤ 70) && (decide (t.flaws.length ≤ 8) || (decide (40 < t.flaws.length) && decide (t.flaws.length ≤ 50)))

theorem few_s {loops : List (Nat × LInfo)} {H : AHeap} {v : Value} {t : Tour} (hv : TourV H v t) : CallS Try.prog loops 12 [v] H fun r H' => r = .bool t.few ∧ H' = H := by
  refine CallS.forget (R := fun r => r = .bool t.few) (by rintro v rfl; rfl) ?_
  obtain ⟨cv, fv, rfl, hc, hf⟩ := hv
  obtain ⟨hcl, ca, cc, rfl⟩ := hc.slice
  obtain ⟨hfl, fa, fc, rfl⟩ := hf.slice
  unfold Tour.few
  clear hc hf
  refine CallS.enter' Try.func12 rfl Try.ntmps12 (by simp) fun f hd hf => ?_
  have f0 := hf 0
  simp at f0
  clear hf
  repeat' (first|(with_reducible first|refine zA ?_|refine zB fun K hK=>?_|refine zC fun K2 hK2=>?_|refine zD ?_|refine zE ?_|refine zF ?_|refine zG ?_|refine zH ?_|refine zI ?_|refine zM ?_|refine zN ?_|refine zO ?_|refine zP ?_|refine zQ ?_|refine zR ?_)|((with_reducible refine zU (hK _ _ ?_));clear hK K)|((with_reducible refine zV ?_ ?_ fun K1 K3 d hdst h1 h3=>?_);rfl;exact yB rfl;cases hdst;go_simp)|((with_reducible refine zW fun K1 K3 h1 h3=>?_);go_simp)|((first|refine h1 ?_|refine h3 ?_);clear h1 h3 K1 K3)|((first|refine zX (fun hb=>h1 ?_) (fun hb=>h3 ?_)|refine zX (fun hb=>h3 ?_) (fun hb=>h1 ?_))<;>(clear h1 h3 K1 K3;(try have hb2:=yC hb);(try have hb2:=yD hb);(try have hb2:=yE hb);(try have hb2:=yF hb);(try have hb2:=yG hb)))|(refine fun (K2:_→AHeap→Prop) hK2=>?_)|((with_reducible refine zY ?_ ?_);decide)|((with_reducible first|refine zZ ?_ (fun K hK=>?_)|refine yA ?_ (fun K hK=>?_));(focus go_simp;done);go_simp;refine hK _ _ ?_;clear hK K)|(go_simp;(try go_bits);refine hK2 _ _ ?_;clear hK2 K2))
  all_goals (refine ⟨?_, (Ext.refl _).push' _⟩; (try (rw [Value.bool.injEq, Bool.eq_iff_iff])); simp_all; try omega)

theorem conv5 {dst : Option Tmp} {x : Operand} {ty : TypeId} {src : String} {af : Array Edge} {g : Option (Nat × Bool)} {a : Int} (ev : Operand → Value) (hx : ev x = .int .u8 a) : pureOf Try.prog (execOp ev ⟨dst, .convert 5 3 x, ty, src, af, g⟩) = some (.value (.int .i64 (IntKind.i64.wrap a))) := by
  simp only [execOp, hx]
  kernel_rfl
def convV {β : Type} (v : Value) (H : AHeap) (kk : K β) (other : Unit → Option β) : Option β := match v with
  | .int .u8 a => kk (.int .i64 (IntKind.i64.wrap a)) H
  | _ => other ()
@[go_sem] theorem convV_u8 {β : Type} {a : Int} {H : AHeap} {kk : K β} {other : Unit → Option β} : convV (.int .u8 a) H kk other = kk (.int .i64 (IntKind.i64.wrap a)) H := rfl
theorem aPlain_conv5 {β : Type} {dst : Option Tmp} {x : Operand} {ty : TypeId} {src : String} {af : Array Edge} {g : Option (Nat × Bool)} {ev : Operand → Value} {H : AHeap} {kk : K β} : aPlain Try.prog ⟨dst, .convert 5 3 x, ty, src, af, g⟩ ev H kk = convV (ev x) H kk fun _ => aPlain Try.prog ⟨dst, .convert 5 3 x, ty, src, af, g⟩ ev H kk := by
  unfold convV
  split
  · rename_i a hx
    rw [plain_of rfl]
    have e1 : ((Op.convert 5 3 x).operands.toList.all fun x => plainV 6 (ev x)) = true := by
      show ([x].all fun x => plainV 6 (ev x)) = true
      simp [hx]
      rfl
    rw [if_pos e1, conv5 ev hx]
    rfl
  · rfl
@[go_sem] theorem opP_conv5 {cx : Cx} {H : AHeap} {f : AF} {k : AF → AHeap → Prop} {dst : Option Tmp} {x : Operand} {ty : TypeId} {src : String} {af : Array Edge} {g : Option (Nat × Bool)} : opP Try.prog cx ⟨dst, .convert 5 3 x, ty, src, af, g⟩ f H k = Holds (convV (f.eval x) H (fun v H' => some (putP cx.sz f dst v fun f' => k f' H')) fun _ => aPlain Try.prog ⟨dst, .convert 5 3 x, ty, src, af, g⟩ f.eval H fun v H' => some (putP cx.sz f dst v fun f' => k f' H')) :=
  opP_convert.trans (congrArg Holds aPlain_conv5)
def CutOk (H : AHeap) (v : Value) : Prop := ∀ b o sp n c, v = .slice (some ⟨b, o, sp⟩) n c → 0 < n → sp = none ∧ n ≤ c ∧ elemIsR H b 3 = true
end Go.Proofs.Try
namespace Go.Proofs.Try
open Go Go.Am Go.RowKit
set_option maxRecDepth 100000


theorem three_k {P : Program} {H : AHeap} {kp : Value → AHeap → Option Prop} {t e : TypeId} {size : Nat} {z v u x : Value} (he : elemT P t = some e) (hsz : szT P e = some size) (hz : zeroT P e = some z) (hzs : (cellsOfV z).length = size) (h0 : 0 < size) (hbig : size ≤ 16384) (hlen : (cellsOfV v).length = size) (hone : (cellsOfV v).all oneV = true) (hlen2 : (cellsOfV u).length = size) (hone2 : (cellsOfV u).all oneV = true) (hlen3 : (cellsOfV x).length = size) (hone3 : (cellsOfV x).all oneV = true)
    (h : Holds (kp (.slice (some ⟨H.n, 0, none⟩) 3 3) (H.push (.row (cellsOfV v ++ (cellsOfV u ++ cellsOfV x)) e)))) : Holds (aBuildSlice P t 3 [(0, v), (1, u), (2, x)] H kp) := by
  have hr : repl (cellsOfV z) 3 = cellsOfV z ++ (cellsOfV z ++ cellsOfV z) := by
    show cellsOfV z ++ (cellsOfV z ++ (cellsOfV z ++ [])) = _
    simp
  have hset : setL (cellsOfV z ++ (cellsOfV z ++ cellsOfV z)) (0 * size) (cellsOfV v) = some (cellsOfV v ++ (cellsOfV z ++ cellsOfV z)) := by
    rw [setL_eq _ _ _ (by simp; omega)]
    simp [hlen, ← hzs]
  have hset2 : setL (cellsOfV v ++ (cellsOfV z ++ cellsOfV z)) (1 * size) (cellsOfV u) = some (cellsOfV v ++ (cellsOfV u ++ cellsOfV z)) := by
    rw [setL_eq _ _ _ (by simp; omega)]
    have h1 : (cellsOfV v ++ (cellsOfV z ++ cellsOfV z)).take (1 * size) = cellsOfV v := by rw [Nat.one_mul, ← hlen, List.take_left']; rfl
    have h2 : (cellsOfV v ++ (cellsOfV z ++ cellsOfV z)).drop (1 * size + (cellsOfV u).length) = cellsOfV z := by
      rw [show 1 * size + (cellsOfV u).length = (cellsOfV v).length + (cellsOfV z).length by omega, ← List.drop_drop, List.drop_left', List.drop_left'] <;> rfl
    rw [h1, h2]; simp
  have hset3 : setL (cellsOfV v ++ (cellsOfV u ++ cellsOfV z)) (2 * size) (cellsOfV x) = some (cellsOfV v ++ (cellsOfV u ++ cellsOfV x)) := by
    rw [setL_eq _ _ _ (by simp; omega), ← List.append_assoc]
    have h1 : ((cellsOfV v ++ cellsOfV u) ++ cellsOfV z).take (2 * size) = cellsOfV v ++ cellsOfV u := by
      rw [show 2 * size = (cellsOfV v ++ cellsOfV u).length by simp; omega, List.take_left']; rfl
    have h2 : ((cellsOfV v ++ cellsOfV u) ++ cellsOfV z).drop (2 * size + (cellsOfV x).length) = [] := List.drop_eq_nil_of_le (by simp; omega)
    rw [h1, h2]; simp
  simp only [aBuildSlice, he, hsz, hz]
  rw [if_neg (by omega), hr]
  have hp : partsCells P size (cellsOfV z ++ (cellsOfV z ++ cellsOfV z)) [(0, v), (1, u), (2, x)] = some (cellsOfV v ++ (cellsOfV u ++ cellsOfV x)) := by
    rw [partsCells, if_neg (by simp [hlen, hone])]
    simp only [hset]
    rw [partsCells, if_neg (by simp [hlen2, hone2])]
    simp only [hset2]
    rw [partsCells, if_neg (by simp [hlen3, hone3])]
    simp only [hset3]
    rfl
  simp only [hp, forceL_eq, AHeap.new_eq]
  rw [if_pos (by rw [List.all_append, List.all_append, hone, hone2, hone3]; rfl)]
  exact h

theorem sameInts_s {loops : List (Nat × LInfo)} {H : AHeap} {av bv : Value} {a b : List Int} (ha : Ints H av a) (hb : Ints H bv b) : CallS Try.prog loops 31 [av, bv] H fun r H' => r = .bool (decide (a = b)) ∧ H' = H := by
  obtain ⟨hla, aa, ac, rfl⟩ := ha.slice
  obtain ⟨hlb, ba, bc, rfl⟩ := hb.slice
  have HA := Lib.hid ha
  have HB := Lib.hid hb
  clear ha hb
  by_cases hl : a.length = b.length
  case' neg =>
    have hlb : ((a.length : Int) != (b.length : Int)) = true := by simp; omega
    have hne : decide (a = b) = false := decide_eq_false fun e => hl (by rw [e])
    rw [hne]
    clear hl hne
    refine CallS.enter' Try.func31 rfl Try.ntmps31 (by simp) fun f hd hf => ?_
    have f0 := hf 0
    have f1 := hf 1
    simp at f0 f1
    clear hf
    repeat' (first|(with_reducible first|refine zA ?_|refine zB fun K hK=>?_|refine zC fun K2 hK2=>?_|refine zD ?_|refine zE ?_|refine zF ?_|refine zG ?_|refine zH ?_|refine zI ?_|refine zM ?_|refine zN ?_|refine zO ?_|refine zP ?_|refine zQ ?_|refine zR ?_)|((with_reducible refine zU (hK _ _ ?_));clear hK K)|((with_reducible refine zV ?_ ?_ fun K1 K3 d hdst h1 h3=>?_);rfl;exact yB rfl;cases hdst;go_simp)|((with_reducible refine zW fun K1 K3 h1 h3=>?_);go_simp)|((first|refine h1 ?_|refine h3 ?_);clear h1 h3 K1 K3)|((first|refine zX (fun hb=>h1 ?_) (fun hb=>h3 ?_)|refine zX (fun hb=>h3 ?_) (fun hb=>h1 ?_))<;>(clear h1 h3 K1 K3;(try have hb2:=yC hb);(try have hb2:=yD hb);(try have hb2:=yE hb);(try have hb2:=yF hb);(try have hb2:=yG hb)))|(refine fun (K2:_→AHeap→Prop) hK2=>?_)|((with_reducible refine zY ?_ ?_);decide)|((with_reducible first|refine zZ ?_ (fun K hK=>?_)|refine yA ?_ (fun K hK=>?_));(focus go_simp;done);go_simp;refine hK _ _ ?_;clear hK K)|(go_simp;(try go_bits);refine hK2 _ _ ?_;clear hK2 K2))
    exact ⟨rfl, rfl⟩
  have hlb : ((a.length : Int) != (b.length : Int)) = false := by simp; omega
  have HL := Lib.hid hl
  clear hl
  refine CallS.enter' Try.func31 rfl Try.ntmps31 (by simp) fun f hd hf => ?_
  have f0 := hf 0
  have f1 := hf 1
  simp at f0 f1
  clear hf
  repeat' (first|(with_reducible first|refine zA ?_|refine zB fun K hK=>?_|refine zC fun K2 hK2=>?_|refine zD ?_|refine zE ?_|refine zF ?_|refine zG ?_|refine zH ?_|refine zI ?_|refine zM ?_|refine zN ?_|refine zO ?_|refine zP ?_|refine zQ ?_|refine zR ?_)|((with_reducible refine zU (hK _ _ ?_));clear hK K)|((with_reducible refine zV ?_ ?_ fun K1 K3 d hdst h1 h3=>?_);rfl;exact yB rfl;cases hdst;go_simp)|((with_reducible refine zW fun K1 K3 h1 h3=>?_);go_simp)|((first|refine h1 ?_|refine h3 ?_);clear h1 h3 K1 K3)|((first|refine zX (fun hb=>h1 ?_) (fun hb=>h3 ?_)|refine zX (fun hb=>h3 ?_) (fun hb=>h1 ?_))<;>(clear h1 h3 K1 K3;(try have hb2:=yC hb);(try have hb2:=yD hb);(try have hb2:=yE hb);(try have hb2:=yF hb);(try have hb2:=yG hb)))|(refine fun (K2:_→AHeap→Prop) hK2=>?_)|((with_reducible refine zY ?_ ?_);decide)|((with_reducible first|refine zZ ?_ (fun K hK=>?_)|refine yA ?_ (fun K hK=>?_));(focus go_simp;done);go_simp;refine hK _ _ ?_;clear hK K)|(go_simp;(try go_bits);refine hK2 _ _ ?_;clear hK2 K2))
  refine CodeS.loop (fun m f H' => ∃ k : Nat, k ≤ a.length ∧ m = a.length - k ∧ f.tmp 5 = .int .i64 k ∧ f.tmp 0 = .slice aa a.length ac ∧ f.tmp 1 = .slice ba b.length bc ∧ f.defers = [] ∧ Hid (decide (a.drop k = b.drop k) = decide (a = b)) ∧ H' = H) a.length ?_ ?_
  · exact ⟨0, by simp, by simp, (by first|go_simp<;>go_num|assumption), (by first|go_simp<;>go_num|assumption), (by first|go_simp<;>go_num|assumption), (by first|go_simp<;>go_num|assumption), Lib.hid (by simp), rfl⟩
  clear f0 f1 hd f
  rintro m f H' ⟨k, hk, rfl, f5, f0, f1, hd, HG, e9⟩
  have e9 := e9.symm
  subst e9
  by_cases hlt : k < a.length
  · have hlt2 : k < b.length := by rw [← HL.out]; exact hlt
    obtain ⟨b1, o1, sp1, rfl, hb1, hx1⟩ := HA.out.at_ hlt
    obtain ⟨b2, o2, sp2, rfl, hb2, hx2⟩ := HB.out.at_ hlt2
    have HD1 := Lib.hid (List.drop_eq_getElem_cons hlt)
    have HD2 := Lib.hid (List.drop_eq_getElem_cons hlt2)
    generalize a[k] = x at hx1 HD1
    generalize b[k] = y at hx2 HD2
    by_cases hxy : x = y
    case' pos =>
      subst hxy
      repeat' (first|(with_reducible first|refine zA ?_|refine zB fun K hK=>?_|refine zC fun K2 hK2=>?_|refine zD ?_|refine zE ?_|refine zF ?_|refine zG ?_|refine zH ?_|refine zI ?_|refine zM ?_|refine zN ?_|refine zO ?_|refine zP ?_|refine zQ ?_|refine zR ?_)|((with_reducible refine zU (hK _ _ ?_));clear hK K)|((with_reducible refine zV ?_ ?_ fun K1 K3 d hdst h1 h3=>?_);rfl;exact yB rfl;cases hdst;go_simp)|((with_reducible refine zW fun K1 K3 h1 h3=>?_);go_simp)|((first|refine h1 ?_|refine h3 ?_);clear h1 h3 K1 K3)|((first|refine zX (fun hb=>h1 ?_) (fun hb=>h3 ?_)|refine zX (fun hb=>h3 ?_) (fun hb=>h1 ?_))<;>(clear h1 h3 K1 K3;(try have hb2:=yC hb);(try have hb2:=yD hb);(try have hb2:=yE hb);(try have hb2:=yF hb);(try have hb2:=yG hb)))|(refine fun (K2:_→AHeap→Prop) hK2=>?_)|((with_reducible refine zY ?_ ?_);decide)|((with_reducible first|refine zZ ?_ (fun K hK=>?_)|refine yA ?_ (fun K hK=>?_));(focus go_simp;done);go_simp;refine hK _ _ ?_;clear hK K)|((with_reducible refine yH mixed rfl ?_ 20 fun K0 hK0=>?_);kernel_rfl)|(with_reducible first|exact yI|exact yJ|refine yK ?_|refine yL ?_|refine yM ?_)|((with_reducible first|refine yN ?_ ?_|refine yO ?_ ?_|refine yP ?_ ?_);rfl)|((with_reducible refine yQ ?_ ?_);rfl;refine hK0 _ _ ?_;clear hK0 K0)|((with_reducible refine yR ?_ ?_ ?_ ?_);rfl;rfl;rfl)|((with_reducible refine yS ?_ ?_ ?_ fun K2 hK2=>?_);rfl;rfl;exact yB rfl)|((with_reducible refine yT ?_ ?_ ?_ ?_ fun K1 K3 d hdst h1 h3=>?_);rfl;rfl;rfl;exact yB rfl;cases hdst;go_simp)|((with_reducible refine yU ?_ ?_ ?_ ?_ fun K1 K3 d hdst h1 h3=>?_);rfl;rfl;rfl;exact yB rfl;cases hdst;go_simp)|((with_reducible refine yV ?_ ?_ (fun K2 hK2=>?_) ?_);rfl;exact yB rfl)|((with_reducible refine yW ?_ ?_ ?_ ?_ (fun K2 hK2=>?_) ?_);rfl;exact yB rfl;rfl;(focus go_simp;done))|((with_reducible refine yX ?_ ?_ ?_ (fun K2 hK2=>?_) ?_);rfl;rfl;exact yB rfl)|((with_reducible refine yY ?_ ?_ (fun K2 hK2=>?_) ?_);rfl;rfl)|((with_reducible refine yZ ?_ ?_);(first|rfl|(dsimp only;decide +kernel)))|((with_reducible refine xA ?_ ?_);(focus go_simp;done))|(go_simp;(try go_bits);(first|(refine hK2 _ _ ?_ ?_<;>clear hK2 K2)|(refine hK2 _ _ ?_;clear hK2 K2))))
      all_goals (refine Post.round_normal ⟨a.length - (k + 1), by omega, k + 1, by omega, rfl, (by first|go_simp<;>go_num|assumption), (by first|go_simp<;>go_num|assumption), (by first|go_simp<;>go_num|assumption), (by first|go_simp<;>go_num|assumption), Lib.hid ?_, rfl⟩; rw [← HG.out, HD1.out, HD2.out]; simp)
    have hxyb : (x != y) = true := by simpa using hxy
    have HNE : Hid (decide (a = b) = false) := Lib.hid (by rw [← HG.out, HD1.out, HD2.out]; simp [hxy])
    clear hxy
    repeat' (first|(with_reducible first|refine zA ?_|refine zB fun K hK=>?_|refine zC fun K2 hK2=>?_|refine zD ?_|refine zE ?_|refine zF ?_|refine zG ?_|refine zH ?_|refine zI ?_|refine zM ?_|refine zN ?_|refine zO ?_|refine zP ?_|refine zQ ?_|refine zR ?_)|((with_reducible refine zU (hK _ _ ?_));clear hK K)|((with_reducible refine zV ?_ ?_ fun K1 K3 d hdst h1 h3=>?_);rfl;exact yB rfl;cases hdst;go_simp)|((with_reducible refine zW fun K1 K3 h1 h3=>?_);go_simp)|((first|refine h1 ?_|refine h3 ?_);clear h1 h3 K1 K3)|((first|refine zX (fun hb=>h1 ?_) (fun hb=>h3 ?_)|refine zX (fun hb=>h3 ?_) (fun hb=>h1 ?_))<;>(clear h1 h3 K1 K3;(try have hb2:=yC hb);(try have hb2:=yD hb);(try have hb2:=yE hb);(try have hb2:=yF hb);(try have hb2:=yG hb)))|(refine fun (K2:_→AHeap→Prop) hK2=>?_)|((with_reducible refine zY ?_ ?_);decide)|((with_reducible first|refine zZ ?_ (fun K hK=>?_)|refine yA ?_ (fun K hK=>?_));(focus go_simp;done);go_simp;refine hK _ _ ?_;clear hK K)|((with_reducible refine yH mixed rfl ?_ 20 fun K0 hK0=>?_);kernel_rfl)|(with_reducible first|exact yI|exact yJ|refine yK ?_|refine yL ?_|refine yM ?_)|((with_reducible first|refine yN ?_ ?_|refine yO ?_ ?_|refine yP ?_ ?_);rfl)|((with_reducible refine yQ ?_ ?_);rfl;refine hK0 _ _ ?_;clear hK0 K0)|((with_reducible refine yR ?_ ?_ ?_ ?_);rfl;rfl;rfl)|((with_reducible refine yS ?_ ?_ ?_ fun K2 hK2=>?_);rfl;rfl;exact yB rfl)|((with_reducible refine yT ?_ ?_ ?_ ?_ fun K1 K3 d hdst h1 h3=>?_);rfl;rfl;rfl;exact yB rfl;cases hdst;go_simp)|((with_reducible refine yU ?_ ?_ ?_ ?_ fun K1 K3 d hdst h1 h3=>?_);rfl;rfl;rfl;exact yB rfl;cases hdst;go_simp)|((with_reducible refine yV ?_ ?_ (fun K2 hK2=>?_) ?_);rfl;exact yB rfl)|((with_reducible refine yW ?_ ?_ ?_ ?_ (fun K2 hK2=>?_) ?_);rfl;exact yB rfl;rfl;(focus go_simp;done))|((with_reducible refine yX ?_ ?_ ?_ (fun K2 hK2=>?_) ?_);rfl;rfl;exact yB rfl)|((with_reducible refine yY ?_ ?_ (fun K2 hK2=>?_) ?_);rfl;rfl)|((with_reducible refine yZ ?_ ?_);(first|rfl|(dsimp only;decide +kernel)))|((with_reducible refine xA ?_ ?_);(focus go_simp;done))|(go_simp;(try go_bits);(first|(refine hK2 _ _ ?_ ?_<;>clear hK2 K2)|(refine hK2 _ _ ?_;clear hK2 K2))))
    all_goals (exact ⟨by rw [HNE.out], rfl⟩)
  · have hT : decide (a = b) = true := by
      rw [← HG.out, List.drop_eq_nil_of_le (by omega), List.drop_eq_nil_of_le (by have := HL.out; omega)]; simp
    rw [hT]
    clear hT
    repeat' (first|(with_reducible first|refine zA ?_|refine zB fun K hK=>?_|refine zC fun K2 hK2=>?_|refine zD ?_|refine zE ?_|refine zF ?_|refine zG ?_|refine zH ?_|refine zI ?_|refine zM ?_|refine zN ?_|refine zO ?_|refine zP ?_|refine zQ ?_|refine zR ?_)|((with_reducible refine zU (hK _ _ ?_));clear hK K)|((with_reducible refine zV ?_ ?_ fun K1 K3 d hdst h1 h3=>?_);rfl;exact yB rfl;cases hdst;go_simp)|((with_reducible refine zW fun K1 K3 h1 h3=>?_);go_simp)|((first|refine h1 ?_|refine h3 ?_);clear h1 h3 K1 K3)|((first|refine zX (fun hb=>h1 ?_) (fun hb=>h3 ?_)|refine zX (fun hb=>h3 ?_) (fun hb=>h1 ?_))<;>(clear h1 h3 K1 K3;(try have hb2:=yC hb);(try have hb2:=yD hb);(try have hb2:=yE hb);(try have hb2:=yF hb);(try have hb2:=yG hb)))|(refine fun (K2:_→AHeap→Prop) hK2=>?_)|((with_reducible refine zY ?_ ?_);decide)|((with_reducible first|refine zZ ?_ (fun K hK=>?_)|refine yA ?_ (fun K hK=>?_));(focus go_simp;done);go_simp;refine hK _ _ ?_;clear hK K)|(go_simp;(try go_bits);refine hK2 _ _ ?_;clear hK2 K2))
    exact ⟨rfl, rfl⟩

theorem st69 : structOk Try.prog 69 = true := by kernel_rfl
theorem onOf_ge {C : Nat → Int} {n k : Nat} : -1 ≤ (onOf C n).getD k 0 := by
  rw [List.getD_eq_getElem?_getD]
  rcases Nat.lt_or_ge k (onOf C n).length with h | h
  · rw [List.getElem?_eq_getElem h]
    simp only [onOf, List.getElem_map, List.getElem_range, Option.getD_some]
    rcases dayI_spec C (k : Int) with ⟨h1, -⟩ | ⟨d, -, h1, -⟩ <;> omega
  · rw [List.getElem?_eq_none h]; decide
theorem hasIt_mono {t : Tour} {on : List Int} {d e id : Int} (h : d ≤ e) (h2 : hasIt t on e id = true) : hasIt t on d id = true := by
  simp only [hasIt, Bool.or_eq_true, decide_eq_true_eq] at h2 ⊢
  rcases h2 with h2 | h2
  · exact .inl h2
  · exact .inr (Int.le_trans h h2)
theorem spread_all {t : Tour} {C : Nat → Int} {n : Nat} {ids : List Int} : ids.filter (hasIt t (onOf C n) 0) = ids := by
  rw [List.filter_eq_self]
  intro x _
  have := onOf_ge (C := C) (n := n) (k := atOf t.flaws x)
  simp only [hasIt, Bool.or_eq_true, decide_eq_true_eq]
  omega
def threeOf (d e : Int) (ids : List Int) : List Taker := [⟨1, d, ids⟩, ⟨2, e, ids⟩, ⟨3, 0, ids⟩]
theorem three_takers {H : AHeap} {d e : Int} {ids : List Int} {lv : Value} (hl : Ints H lv ids) : TakersV (H.push (.row [.int .i64 1, .int .i64 d, lv, .int .i64 2, .int .i64 e, lv, .int .i64 3, .int .i64 0, lv] 69)) (.slice (some ⟨H.n, 0, none⟩) 3 3) (threeOf d e ids) := by
  have hg : (H.push (.row [.int .i64 1, .int .i64 d, lv, .int .i64 2, .int .i64 e, lv, .int .i64 3, .int .i64 0, lv] 69)).get H.n = .row [.int .i64 1, .int .i64 d, lv, .int .i64 2, .int .i64 e, lv, .int .i64 3, .int .i64 0, lv] 69 := AHeap.get_push_new
  refine ⟨_, 3, rfl, fun k hk => ?_⟩
  have hk3 : k < 3 := hk
  refine ⟨H.n, 0, none, lv, rfl, by rw [AHeap.n_push]; omega, ?_, ?_⟩
  · match k, hk3 with
    | 0, _ => simp [cellsAt, hg, threeOf]
    | 1, _ => simp [cellsAt, hg, threeOf]
    | 2, _ => simp [cellsAt, hg, threeOf]
  · match k, hk3 with
    | 0, _ => exact hl.ext (Ext.push _)
    | 1, _ => exact hl.ext (Ext.push _)
    | 2, _ => exact hl.ext (Ext.push _)
end Go.Proofs.Try
namespace Go.Proofs.Try
open Go Go.Am Go.RowKit
set_option maxRecDepth 100000


theorem rem_k {P : Program} {H : AHeap} {kp : Value → AHeap → Option Prop} {ev : Operand → Value} {dst : Option Tmp} {ty t t' : TypeId} {src : String} {af : Array Edge} {g : Option (Nat × Bool)} {x y : Operand} {a b : Int} (hx : ev x = .int .i64 a) (hy : ev y = .int .i64 b) (ha : 0 ≤ a) (hb : 1 ≤ b) (h : Holds (kp (.int .i64 (a % b)) H)) : Holds (aPlain P ⟨dst, .binOp .rem t x y t', ty, src, af, g⟩ ev H kp) := by
  rw [aPlain_rem hx hy ha hb]; exact h

set_option maxHeartbeats 8000000 in
theorem law7 {H : AHeap} {v lv : Value} {t : Tour} {ids : List Int} {a b : Int} (hv : TourV H v t) (hl : Ints H lv ids) (ha : 0 ≤ a ∧ a ≤ 255) (hb : 0 ≤ b ∧ b ≤ 255) :
    CallS Try.prog [] 7 [v, lv, .int .u8 a, .int .u8 b] H fun r _ => r = .bool true := by
  have HV := Lib.hid hv
  have HL := Lib.hid hl
  obtain ⟨cv, fv, rfl, hc, hf⟩ := hv
  obtain ⟨hcl', ca, cc, rfl⟩ := hc.slice
  obtain ⟨hfl, fa, fc, rfl⟩ := hf.slice
  obtain ⟨hll, la, lc, rfl⟩ := hl.slice
  clear hc hf hl
  have HFEW := Lib.hid (fun (loops : List (Nat × LInfo)) (H2 : AHeap) (hx : Ext H H2) => few_s (loops := loops) (HV.out.ext hx))
  by_cases h1 : t.few = true
  case' neg =>
    have h1b : t.few = false := by simpa using h1
    rw [h1b] at HFEW
    refine CallS.enter' Try.func7 rfl Try.ntmps7 (by simp) fun f hd hf => ?_
    have f0 := hf 0
    have f1 := hf 1
    have f2 := hf 2
    have f3 := hf 3
    simp at f0 f1 f2 f3
    clear hf h1 h1b
    repeat' (first|(with_reducible first|refine zA ?_|refine zB fun K hK=>?_|refine zC fun K2 hK2=>?_|refine zD ?_|refine zE ?_|refine zF ?_|refine zG ?_|refine zH ?_|refine zI ?_|refine zM ?_|refine zN ?_|refine zO ?_|refine zP ?_|refine zQ ?_|refine zR ?_)|((with_reducible refine zU (hK _ _ ?_));clear hK K)|((with_reducible refine zV ?_ ?_ fun K1 K3 d hdst h1 h3=>?_);rfl;exact yB rfl;cases hdst;go_simp)|((with_reducible refine zW fun K1 K3 h1 h3=>?_);go_simp)|((first|refine h1 ?_|refine h3 ?_);clear h1 h3 K1 K3)|((first|refine zX (fun hb=>h1 ?_) (fun hb=>h3 ?_)|refine zX (fun hb=>h3 ?_) (fun hb=>h1 ?_))<;>(clear h1 h3 K1 K3;(try have hb2:=yC hb);(try have hb2:=yD hb);(try have hb2:=yE hb);(try have hb2:=yF hb);(try have hb2:=yG hb)))|(refine fun (K2:_→AHeap→Prop) hK2=>?_)|((with_reducible refine zY ?_ ?_);decide)|((with_reducible first|refine zZ ?_ (fun K hK=>?_)|refine yA ?_ (fun K hK=>?_));(focus go_simp;done);go_simp;refine hK _ _ ?_;clear hK K)|(go_simp;(try go_bits);(try first |((with_reducible show CallS _ _ _ _ _ _);first|(refine CallS.mono head_s ?_; rintro _ _ ⟨rfl, h9⟩; rw [h9]; clear h9; go_simp)|(refine CallS.mono (HFEW.out _ _ ((Ext.refl _).push' _)) ?_; rintro _ _ ⟨rfl, h9⟩; rw [h9]; clear h9; go_simp)));refine hK2 _ _ ?_;clear hK2 K2))
    rfl
  rw [h1] at HFEW
  by_cases h2 : 60 < ids.length
  case' pos =>
    have h2b : (60 : Int) < (ids.length : Int) := by omega
    refine CallS.enter' Try.func7 rfl Try.ntmps7 (by simp) fun f hd hf => ?_
    have f0 := hf 0
    have f1 := hf 1
    have f2 := hf 2
    have f3 := hf 3
    simp at f0 f1 f2 f3
    clear hf h1
    repeat' (first|(with_reducible first|refine zA ?_|refine zB fun K hK=>?_|refine zC fun K2 hK2=>?_|refine zD ?_|refine zE ?_|refine zF ?_|refine zG ?_|refine zH ?_|refine zI ?_|refine zM ?_|refine zN ?_|refine zO ?_|refine zP ?_|refine zQ ?_|refine zR ?_)|((with_reducible refine zU (hK _ _ ?_));clear hK K)|((with_reducible refine zV ?_ ?_ fun K1 K3 d hdst h1 h3=>?_);rfl;exact yB rfl;cases hdst;go_simp)|((with_reducible refine zW fun K1 K3 h1 h3=>?_);go_simp)|((first|refine h1 ?_|refine h3 ?_);clear h1 h3 K1 K3)|((first|refine zX (fun hb=>h1 ?_) (fun hb=>h3 ?_)|refine zX (fun hb=>h3 ?_) (fun hb=>h1 ?_))<;>(clear h1 h3 K1 K3;(try have hb2:=yC hb);(try have hb2:=yD hb);(try have hb2:=yE hb);(try have hb2:=yF hb);(try have hb2:=yG hb)))|(refine fun (K2:_→AHeap→Prop) hK2=>?_)|((with_reducible refine zY ?_ ?_);decide)|((with_reducible first|refine zZ ?_ (fun K hK=>?_)|refine yA ?_ (fun K hK=>?_));(focus go_simp;done);go_simp;refine hK _ _ ?_;clear hK K)|(go_simp;(try go_bits);(try first |((with_reducible show CallS _ _ _ _ _ _);first|(refine CallS.mono head_s ?_; rintro _ _ ⟨rfl, h9⟩; rw [h9]; clear h9; go_simp)|(refine CallS.mono (HFEW.out _ _ ((Ext.refl _).push' _)) ?_; rintro _ _ ⟨rfl, h9⟩; rw [h9]; clear h9; go_simp)));refine hK2 _ _ ?_;clear hK2 K2))
    rfl
  have h2b : ¬ (60 : Int) < (ids.length : Int) := by omega
  have HBE := Lib.hid (fun (loops : List (Nat × LInfo)) (H2 : AHeap) (hx : Ext H H2) => best_e (loops := loops) (HV.out.ext hx))
  unfold BestR at HBE
  by_cases he : err t = 0
  case' neg =>
    simp only [if_neg he] at HBE
    generalize err t = er at HBE he
    have heb : (er != 0) = true := by simpa using he
    refine CallS.enter' Try.func7 rfl Try.ntmps7 (by simp) fun f hd hf => ?_
    have f0 := hf 0
    have f1 := hf 1
    have f2 := hf 2
    have f3 := hf 3
    simp at f0 f1 f2 f3
    clear hf he h1
    repeat' (first|(with_reducible first|refine zA ?_|refine zB fun K hK=>?_|refine zC fun K2 hK2=>?_|refine zD ?_|refine zE ?_|refine zF ?_|refine zG ?_|refine zH ?_|refine zI ?_|refine zM ?_|refine zN ?_|refine zO ?_|refine zP ?_|refine zQ ?_|refine zR ?_)|((with_reducible refine zU (hK _ _ ?_));clear hK K)|((with_reducible refine zV ?_ ?_ fun K1 K3 d hdst h1 h3=>?_);rfl;exact yB rfl;cases hdst;go_simp)|((with_reducible refine zW fun K1 K3 h1 h3=>?_);go_simp)|((first|refine h1 ?_|refine h3 ?_);clear h1 h3 K1 K3)|((first|refine zX (fun hb=>h1 ?_) (fun hb=>h3 ?_)|refine zX (fun hb=>h3 ?_) (fun hb=>h1 ?_))<;>(clear h1 h3 K1 K3;(try have hb2:=yC hb);(try have hb2:=yD hb);(try have hb2:=yE hb);(try have hb2:=yF hb);(try have hb2:=yG hb)))|(refine fun (K2:_→AHeap→Prop) hK2=>?_)|((with_reducible refine zY ?_ ?_);decide)|((with_reducible first|refine zZ ?_ (fun K hK=>?_)|refine yA ?_ (fun K hK=>?_));(focus go_simp;done);go_simp;refine hK _ _ ?_;clear hK K)|(go_simp;(try go_bits);(try first |((with_reducible show CallS _ _ _ _ _ _);first|(refine CallS.mono head_s ?_; rintro _ _ ⟨rfl, h9⟩; rw [h9]; clear h9; go_simp)|(refine CallS.mono (HFEW.out _ _ ((Ext.refl _).push' _)) ?_; rintro _ _ ⟨rfl, h9⟩; rw [h9]; clear h9; go_simp)|(refine CallS.mono (HBE.out _ _ ((Ext.refl _).push' _)) ?_; rintro _ H2 ⟨rfl, hx⟩; clear hx; go_simp)));refine hK2 _ _ ?_;clear hK2 K2))
    rfl
  simp only [if_pos he] at HBE
  have hg := good_of he
  have hdays := hg.days
  rw [win_iff] at hdays
  have HDAYS := Lib.hid hdays
  have HG := Lib.hid hg
  have HE := Lib.hid he
  obtain ⟨A, hA⟩ : ∃ A, A = a % t.days := ⟨_, rfl⟩
  obtain ⟨B, hB⟩ : ∃ B, B = b % t.days := ⟨_, rfl⟩
  have HA := Lib.hid hA
  have HB := Lib.hid hB
  have HLL : Hid (ids.length ≤ 60) := Lib.hid (by omega)
  obtain ⟨ha1, ha2⟩ := ha
  obtain ⟨hb1, hb2⟩ := hb
  refine CallS.enter' Try.func7 rfl Try.ntmps7 (by simp) fun f hd hf => ?_
  have f0 := hf 0
  have f1 := hf 1
  have f2 := hf 2
  have f3 := hf 3
  simp at f0 f1 f2 f3
  clear hf he h1 hg hdays hA hB
  repeat' (first|((with_reducible refine stop_if (n := 10) ?_))|(with_reducible first|refine zA ?_|refine zB fun K hK=>?_|refine zC fun K2 hK2=>?_|refine zD ?_|refine zE ?_|refine zF ?_|refine zG ?_|refine zH ?_|refine zI ?_|refine zM ?_|refine zN ?_|refine zO ?_|refine zP ?_|refine zQ ?_|refine zR ?_)|((with_reducible refine zU (hK _ _ ?_));clear hK K)|((with_reducible refine zV ?_ ?_ fun K1 K3 d hdst h1 h3=>?_);rfl;exact yB rfl;cases hdst;go_simp)|((with_reducible refine zW fun K1 K3 h1 h3=>?_);go_simp)|((first|refine h1 ?_|refine h3 ?_);clear h1 h3 K1 K3)|((first|refine zX (fun hb=>h1 ?_) (fun hb=>h3 ?_)|refine zX (fun hb=>h3 ?_) (fun hb=>h1 ?_))<;>(clear h1 h3 K1 K3;(try have hb2:=yC hb);(try have hb2:=yD hb);(try have hb2:=yE hb);(try have hb2:=yF hb);(try have hb2:=yG hb)))|(refine fun (K2:_→AHeap→Prop) hK2=>?_)|((with_reducible refine zY ?_ ?_);decide)|((with_reducible first|refine zZ ?_ (fun K hK=>?_)|refine yA ?_ (fun K hK=>?_));(focus go_simp;done);go_simp;refine hK _ _ ?_;clear hK K)|(go_simp;(try go_bits);(try first |((with_reducible show CallS _ _ _ _ _ _);first|(refine CallS.mono head_s ?_; rintro _ _ ⟨rfl, h9⟩; rw [h9]; clear h9; go_simp)|(refine CallS.mono (HFEW.out _ _ ((Ext.refl _).push' _)) ?_; rintro _ _ ⟨rfl, h9⟩; rw [h9]; clear h9; go_simp)|(refine CallS.mono (HBE.out _ _ ((Ext.refl _).push' _)) ?_; rintro _ H2 ⟨⟨ov, sv, C, sl, rfl, ho, hs, hbi⟩, hx2⟩; (have HO := Lib.hid ho); (have HX2 := Lib.hid hx2); (have HBI := Lib.hid hbi); (have hn2 : H.n < H2.n := by have := hx2.n; simp only [AHeap.n_push] at this; omega); (have hq2 : cellsAt H2 H.n 0 3 = some [.int .i64 t.days, .slice ca t.closed.length cc, .slice fa t.flaws.length fc] := (hx2.cellsAt (by simp only [AHeap.n_push]; omega)).trans (by go_simp)); (have hq0 : cellAt H2 H.n 0 = some (.int .i64 t.days) := (hx2.cellAt (by simp only [AHeap.n_push]; omega)).trans (by go_simp)); (obtain ⟨-, oa, oc, rfl⟩ := ho.slice); (obtain ⟨-, -, sa, sc, rfl, -⟩ := hs); clear ho hx2 hbi; go_simp)|(refine CallS.mono (spread_e (w := t.worthOf C) (HV.out.ext ((((Ext.push _).trans HX2.out).push' _).push' _)) (HO.out.ext (((Ext.refl _).push' _).push' _)) rfl (three_takers (HL.out.ext (((Ext.push _).trans HX2.out).push' _))) HG.out HE.out (by simp [onOf]) (by simp [threeOf]) (fun c hc => by have := HLL.out; simp only [threeOf, List.mem_cons, List.not_mem_nil, or_false] at hc; rcases hc with rfl | rfl | rfl <;> simp <;> omega)) ?_; rintro _ H5 ⟨⟨rv, e, rfl, ⟨ra, rn, rc, rfl⟩, her⟩, hx5⟩; (have HER := Lib.hid her); (have HX5 := Lib.hid hx5); clear her hx5; go_simp))|((refine rem_k (a := a) (b := t.days) ?_ ?_ ha1 HDAYS.out.1 ?_); (focus (go_simp; done)); (focus (go_simp; done)); rw [← HA.out]; go_simp)|((refine rem_k (a := b) (b := t.days) ?_ ?_ hb1 HDAYS.out.1 ?_); (focus (go_simp; done)); (focus (go_simp; done)); rw [← HB.out]; go_simp)|((rw [aBuild_struct st69 ze69]); go_simp)|((refine three_k el70 sz69 ze69 rfl (by decide) (by decide) rfl rfl rfl rfl rfl rfl ?_); go_simp));refine hK2 _ _ ?_;clear hK2 K2))
  refine ⟨genC (fun f H' => f.tmp 1 = .slice la ids.length lc ∧ f.tmp 9 = .bool true ∧ f.tmp 14 = .slice ra rn rc ∧ f.tmp 15 = .int .i64 e ∧ f.defers = [] ∧ H' = H5) ⟨(by first|go_simp<;>go_num|assumption), (by first|go_simp<;>go_num|assumption), (by first|go_simp<;>go_num|assumption), (by first|go_simp<;>go_num|assumption), (by first|go_simp<;>go_num|assumption), rfl⟩ ?_⟩
  have HLH : Hid (Ints H5 (.slice la ids.length lc) ids) := Lib.hid (HL.out.ext (((((Ext.push _).trans HX2.out).push' _).push' _).trans HX5.out))
  clear f0 f1 f2 f3 hd f hn2 hq2 hq0
  rintro f H' ⟨f1, f9, f14, f15, hd, e9⟩
  have e9 := e9.symm
  subst e9
  by_cases he : e = 0
  case' neg =>
    have heb : (e != 0) = true := by simpa using he
    repeat' (first|(with_reducible first|refine zA ?_|refine zB fun K hK=>?_|refine zC fun K2 hK2=>?_|refine zD ?_|refine zE ?_|refine zF ?_|refine zG ?_|refine zH ?_|refine zI ?_|refine zM ?_|refine zN ?_|refine zO ?_|refine zP ?_|refine zQ ?_|refine zR ?_)|((with_reducible refine zU (hK _ _ ?_));clear hK K)|((with_reducible refine zV ?_ ?_ fun K1 K3 d hdst h1 h3=>?_);rfl;exact yB rfl;cases hdst;go_simp)|((with_reducible refine zW fun K1 K3 h1 h3=>?_);go_simp)|((first|refine h1 ?_|refine h3 ?_);clear h1 h3 K1 K3)|((first|refine zX (fun hb=>h1 ?_) (fun hb=>h3 ?_)|refine zX (fun hb=>h3 ?_) (fun hb=>h1 ?_))<;>(clear h1 h3 K1 K3;(try have hb2:=yC hb);(try have hb2:=yD hb);(try have hb2:=yE hb);(try have hb2:=yF hb);(try have hb2:=yG hb)))|(refine fun (K2:_→AHeap→Prop) hK2=>?_)|((with_reducible refine zY ?_ ?_);decide)|((with_reducible first|refine zZ ?_ (fun K hK=>?_)|refine yA ?_ (fun K hK=>?_));(focus go_simp;done);go_simp;refine hK _ _ ?_;clear hK K)|(go_simp;(try go_bits);refine hK2 _ _ ?_;clear hK2 K2))
    rfl
  have heb : (e != 0) = false := by simpa using he
  obtain ⟨-, vs, hvs, hvl, hvr⟩ := HER.out he
  have hvl3 : vs.length = 3 := hvl
  obtain ⟨u0, hu0, ho0⟩ := hvr 0 (by simp [threeOf])
  obtain ⟨u1, hu1, ho1⟩ := hvr 1 (by simp [threeOf])
  obtain ⟨u2, hu2, ho2⟩ := hvr 2 (by simp [threeOf])
  have HI0 := Lib.hid (ints_own ho0 (by simp only [threeOf, spreadOf, List.map_cons, List.getElem_cons_zero]; have := List.length_filter_le (hasIt t (onOf C t.flaws.length) (min A B)) ids; omega))
  have HI1 := Lib.hid (ints_own ho1 (by simp only [threeOf, spreadOf, List.map_cons, List.getElem_cons_succ, List.getElem_cons_zero]; have := List.length_filter_le (hasIt t (onOf C t.flaws.length) (max A B)) ids; omega))
  have HI2 := Lib.hid (ints_own ho2 (by simp only [threeOf, spreadOf, List.map_cons, List.getElem_cons_succ, List.getElem_cons_zero]; have := List.length_filter_le (hasIt t (onOf C t.flaws.length) 0) ids; omega))
  simp only [threeOf, spreadOf, List.map_cons, List.getElem_cons_succ, List.getElem_cons_zero, spread_all] at HI0 HI1 HI2
  have HSUB : Hid (∀ z, z ∈ ids.filter (hasIt t (onOf C t.flaws.length) (max A B)) → z ∈ ids.filter (hasIt t (onOf C t.flaws.length) (min A B))) := Lib.hid (fun z hz => by
    rw [List.mem_filter] at hz ⊢
    exact ⟨hz.1, hasIt_mono (by omega) hz.2⟩)
  generalize ids.filter (hasIt t (onOf C t.flaws.length) (max A B)) = S1 at HI1 HSUB
  generalize ids.filter (hasIt t (onOf C t.flaws.length) (min A B)) = S0 at HI0 HSUB
  obtain ⟨rb, hra, grb⟩ : ∃ rb, Value.slice ra rn rc = .slice (some ⟨rb, 0, none⟩) 3 3 ∧ H5.get rb = .row vs 22 := by
    rcases hvs with ⟨-, h9⟩ | ⟨b, n, h1, h2, h3, h4, h5, h6⟩
    · rw [h9] at hvl3; cases hvl3
    · have : n = 3 := by omega
      subst this
      exact ⟨b, h1, h4⟩
  cases hra
  have hc0 : cellAt H5 rb 0 = some u0 := by simp [cellAt, grb, hu0]
  have hc1 : cellAt H5 rb 1 = some u1 := by simp [cellAt, grb, hu1]
  have hc2 : cellAt H5 rb 2 = some u2 := by simp [cellAt, grb, hu2]
  obtain ⟨hl0, a0, c0, rfl⟩ := HI0.out.slice
  obtain ⟨hl1, a1, c1, rfl⟩ := HI1.out.slice
  obtain ⟨hl2, a2, c2, rfl⟩ := HI2.out.slice
  clear hvs hvl hvr hvl3 hu0 hu1 hu2 ho0 ho1 ho2 grb he vs HER
  repeat' (first|(with_reducible first|refine zA ?_|refine zB fun K hK=>?_|refine zC fun K2 hK2=>?_|refine zD ?_|refine zE ?_|refine zF ?_|refine zG ?_|refine zH ?_|refine zI ?_|refine zM ?_|refine zN ?_|refine zO ?_|refine zP ?_|refine zQ ?_|refine zR ?_)|((with_reducible refine zU (hK _ _ ?_));clear hK K)|((with_reducible refine zV ?_ ?_ fun K1 K3 d hdst h1 h3=>?_);rfl;exact yB rfl;cases hdst;go_simp)|((with_reducible refine zW fun K1 K3 h1 h3=>?_);go_simp)|((first|refine h1 ?_|refine h3 ?_);clear h1 h3 K1 K3)|((first|refine zX (fun hb=>h1 ?_) (fun hb=>h3 ?_)|refine zX (fun hb=>h3 ?_) (fun hb=>h1 ?_))<;>(clear h1 h3 K1 K3;(try have hb2:=yC hb);(try have hb2:=yD hb);(try have hb2:=yE hb);(try have hb2:=yF hb);(try have hb2:=yG hb)))|(refine fun (K2:_→AHeap→Prop) hK2=>?_)|((with_reducible refine zY ?_ ?_);decide)|((with_reducible first|refine zZ ?_ (fun K hK=>?_)|refine yA ?_ (fun K hK=>?_));(focus go_simp;done);go_simp;refine hK _ _ ?_;clear hK K)|(go_simp;(try go_bits);refine hK2 _ _ ?_;clear hK2 K2))
  refine CodeS.loop (fun m f H' => ∃ (k : Nat), k ≤ S1.length ∧ m = S1.length - k ∧ f.tmp 16 = .int .i64 k ∧ f.tmp 1 = .slice la ids.length lc ∧ f.tmp 9 = .bool true ∧ f.tmp 14 = .slice (some ⟨rb, 0, none⟩) 3 3 ∧ f.defers = [] ∧ H' = H5) S1.length ?_ ?_
  · exact ⟨0, by omega, by omega, (by first|go_simp<;>go_num|assumption), (by first|go_simp<;>go_num|assumption), (by first|go_simp<;>go_num|assumption), (by first|go_simp<;>go_num|assumption), (by first|go_simp<;>go_num|assumption), rfl⟩
  clear f1 f9 f14 f15 hd f
  rintro m f H' ⟨k, hk, rfl, f16, f1, f9, f14, hd, e9⟩
  have e9 := e9.symm
  subst e9
  by_cases hlt : k < S1.length
  · have hki : (k : Int) < (S1.length : Int) := by omega
    obtain ⟨b1, o1, sp1, rfl, hbb, hxk⟩ := HI1.out.at_ hlt
    have hin := HSUB.out _ (List.getElem_mem hlt)
    generalize S1[k] = z at hxk hin
    have HHS := Lib.hid (fun (loops : List (Nat × LInfo)) => has_s (loops := loops) (x := z) HI0.out)
    rw [decide_eq_true hin] at HHS
    clear hin
    repeat' (first|(with_reducible first|refine zA ?_|refine zB fun K hK=>?_|refine zC fun K2 hK2=>?_|refine zD ?_|refine zE ?_|refine zF ?_|refine zG ?_|refine zH ?_|refine zI ?_|refine zM ?_|refine zN ?_|refine zO ?_|refine zP ?_|refine zQ ?_|refine zR ?_)|((with_reducible refine zU (hK _ _ ?_));clear hK K)|((with_reducible refine zV ?_ ?_ fun K1 K3 d hdst h1 h3=>?_);rfl;exact yB rfl;cases hdst;go_simp)|((with_reducible refine zW fun K1 K3 h1 h3=>?_);go_simp)|((first|refine h1 ?_|refine h3 ?_);clear h1 h3 K1 K3)|((first|refine zX (fun hb=>h1 ?_) (fun hb=>h3 ?_)|refine zX (fun hb=>h3 ?_) (fun hb=>h1 ?_))<;>(clear h1 h3 K1 K3;(try have hb2:=yC hb);(try have hb2:=yD hb);(try have hb2:=yE hb);(try have hb2:=yF hb);(try have hb2:=yG hb)))|(refine fun (K2:_→AHeap→Prop) hK2=>?_)|((with_reducible refine zY ?_ ?_);decide)|((with_reducible first|refine zZ ?_ (fun K hK=>?_)|refine yA ?_ (fun K hK=>?_));(focus go_simp;done);go_simp;refine hK _ _ ?_;clear hK K)|((with_reducible refine yH mixed rfl ?_ 20 fun K0 hK0=>?_);kernel_rfl)|(with_reducible first|exact yI|exact yJ|refine yK ?_|refine yL ?_|refine yM ?_)|((with_reducible first|refine yN ?_ ?_|refine yO ?_ ?_|refine yP ?_ ?_);rfl)|((with_reducible refine yQ ?_ ?_);rfl;refine hK0 _ _ ?_;clear hK0 K0)|((with_reducible refine yR ?_ ?_ ?_ ?_);rfl;rfl;rfl)|((with_reducible refine yS ?_ ?_ ?_ fun K2 hK2=>?_);rfl;rfl;exact yB rfl)|((with_reducible refine yT ?_ ?_ ?_ ?_ fun K1 K3 d hdst h1 h3=>?_);rfl;rfl;rfl;exact yB rfl;cases hdst;go_simp)|((with_reducible refine yU ?_ ?_ ?_ ?_ fun K1 K3 d hdst h1 h3=>?_);rfl;rfl;rfl;exact yB rfl;cases hdst;go_simp)|((with_reducible refine yV ?_ ?_ (fun K2 hK2=>?_) ?_);rfl;exact yB rfl)|((with_reducible refine yW ?_ ?_ ?_ ?_ (fun K2 hK2=>?_) ?_);rfl;exact yB rfl;rfl;(focus go_simp;done))|((with_reducible refine yX ?_ ?_ ?_ (fun K2 hK2=>?_) ?_);rfl;rfl;exact yB rfl)|((with_reducible refine yY ?_ ?_ (fun K2 hK2=>?_) ?_);rfl;rfl)|((with_reducible refine yZ ?_ ?_);(first|rfl|(dsimp only;decide +kernel)))|((with_reducible refine xA ?_ ?_);(focus go_simp;done))|(go_simp;(try go_bits);(try first | ((with_reducible show CallS _ _ _ _ _ _);refine CallS.mono (HHS.out _) ?_; rintro _ _ ⟨rfl, rfl⟩));(first|(refine hK2 _ _ ?_ ?_<;>clear hK2 K2)|(refine hK2 _ _ ?_;clear hK2 K2))))
    all_goals (refine Post.round_normal ⟨S1.length - (k + 1), by omega, k + 1, by omega, rfl, (by first|go_simp<;>go_num|assumption), (by first|go_simp<;>go_num|assumption), (by first|go_simp<;>go_num|assumption), (by first|go_simp<;>go_num|assumption), (by first|go_simp<;>go_num|assumption), rfl⟩)
  · have hki : ¬ (k : Int) < (S1.length : Int) := by omega
    have HSA := Lib.hid (fun (loops : List (Nat × LInfo)) => sameInts_s (loops := loops) HI2.out HLH.out)
    rw [decide_eq_true rfl] at HSA
    repeat' (first|(with_reducible first|refine zA ?_|refine zB fun K hK=>?_|refine zC fun K2 hK2=>?_|refine zD ?_|refine zE ?_|refine zF ?_|refine zG ?_|refine zH ?_|refine zI ?_|refine zM ?_|refine zN ?_|refine zO ?_|refine zP ?_|refine zQ ?_|refine zR ?_)|((with_reducible refine zU (hK _ _ ?_));clear hK K)|((with_reducible refine zV ?_ ?_ fun K1 K3 d hdst h1 h3=>?_);rfl;exact yB rfl;cases hdst;go_simp)|((with_reducible refine zW fun K1 K3 h1 h3=>?_);go_simp)|((first|refine h1 ?_|refine h3 ?_);clear h1 h3 K1 K3)|((first|refine zX (fun hb=>h1 ?_) (fun hb=>h3 ?_)|refine zX (fun hb=>h3 ?_) (fun hb=>h1 ?_))<;>(clear h1 h3 K1 K3;(try have hb2:=yC hb);(try have hb2:=yD hb);(try have hb2:=yE hb);(try have hb2:=yF hb);(try have hb2:=yG hb)))|(refine fun (K2:_→AHeap→Prop) hK2=>?_)|((with_reducible refine zY ?_ ?_);decide)|((with_reducible first|refine zZ ?_ (fun K hK=>?_)|refine yA ?_ (fun K hK=>?_));(focus go_simp;done);go_simp;refine hK _ _ ?_;clear hK K)|(go_simp;(try go_bits);(try first | ((with_reducible show CallS _ _ _ _ _ _);refine CallS.mono (HSA.out _) ?_; rintro _ _ ⟨rfl, rfl⟩));refine hK2 _ _ ?_;clear hK2 K2))
    rfl
end Go.Proofs.Try
namespace Go.Proofs.Try
open Go.ChangeShapes Go.WideShapes Go.ChangeAt Go.RowKit Go.Joins Go.Deep Go.Am
set_option maxRecDepth 100000


theorem fields30 : ∃ f0 f1 : Field, Try.prog.underlying 30 = some (.struct #[f0, f1]) ∧ (f0.type = 3 ∧ f1.type = 3) ∧ (f0.offset = 0 ∧ f1.offset = 1) ∧ Try.prog.cellsOf 3 = 1 ∧ Try.prog.cellsOf 30 = 2 :=
  ⟨(fieldOf Try.prog 30 0).getD default, (fieldOf Try.prog 30 1).getD default, by kernel_rfl, by refine ⟨?_, ?_⟩ <;> kernel_rfl, by refine ⟨?_, ?_⟩ <;> kernel_rfl, by kernel_rfl, by kernel_rfl⟩
theorem fields32 : ∃ f0 f1 f2 : Field, Try.prog.underlying 32 = some (.struct #[f0, f1, f2]) ∧ (f0.type = 3 ∧ f1.type = 30 ∧ f2.type = 3) ∧ (f0.offset = 0 ∧ f1.offset = 1 ∧ f2.offset = 3) ∧ Try.prog.cellsOf 3 = 1 ∧ Try.prog.cellsOf 30 = 2 ∧ Try.prog.cellsOf 32 = 4 :=
  ⟨(fieldOf Try.prog 32 0).getD default, (fieldOf Try.prog 32 1).getD default, (fieldOf Try.prog 32 2).getD default, by kernel_rfl, by refine ⟨?_, ?_, ?_⟩ <;> kernel_rfl, by refine ⟨?_, ?_, ?_⟩ <;> kernel_rfl, by kernel_rfl, by kernel_rfl, by kernel_rfl⟩

section
variable {H : Type} {enc : TypeId × Value → H} {w : World}
theorem span_cells {fuel : Nat} {a b : Value} {x : DataW H × List MemPlace} (h : DataW.trod enc Try.prog w 0 (fun _ => true) true fuel 30 [a, b] = some x) : ∃ lo hi : Int, a = .int .i64 lo ∧ b = .int .i64 hi := by
  obtain ⟨f0, f1, hu, ⟨t0, t1⟩, ⟨o0, o1⟩, h3, h6⟩ := fields30
  obtain ⟨xs, n, _, _, _, _, ht⟩ := DataW.trod_struct hu h
  have ht0 := ht 0 f0 rfl
  have ht1 := ht 1 f1 rfl
  rw [t0, o0, h3] at ht0
  rw [t1, o1, h3] at ht1
  have hlen : xs.length = 2 := by assumption
  rw [List.getElem?_eq_getElem (by omega)] at ht0 ht1
  obtain ⟨z0, hz0, _, _⟩ := DataW.trod_int Try.underlying3 (show DataW.trod enc Try.prog w 0 (fun _ => true) true n 3 [a] = _ from ht0)
  obtain ⟨z1, hz1, _, _⟩ := DataW.trod_int Try.underlying3 (show DataW.trod enc Try.prog w 0 (fun _ => true) true n 3 [b] = _ from ht1)
  injection hz0 with hz0 _
  injection hz1 with hz1 _
  exact ⟨z0, z1, hz0, hz1⟩
theorem flaw_cells {fuel : Nat} {cs : List Value} {x : DataW H × List MemPlace} (hc : cs.length = 4) (h : DataW.trod enc Try.prog w 0 (fun _ => true) true fuel 32 cs = some x) : ∃ q : Flaw, cs = q.cells := by
  obtain ⟨f0, f1, f2, hu, ⟨t0, t1, t2⟩, ⟨o0, o1, o2⟩, h3, h4, h6⟩ := fields32
  obtain ⟨xs, n, _, _, _, _, ht⟩ := DataW.trod_struct hu h
  obtain ⟨a, b, c, d, rfl⟩ : ∃ a b c d, cs = [a, b, c, d] := by
    match cs, hc with
    | [a, b, c, d], _ => exact ⟨a, b, c, d, rfl⟩
  have ht0 := ht 0 f0 rfl
  have ht1 := ht 1 f1 rfl
  have ht2 := ht 2 f2 rfl
  rw [t0, o0, h3] at ht0
  rw [t1, o1, h4] at ht1
  rw [t2, o2, h3] at ht2
  have hlen : xs.length = 3 := by assumption
  rw [List.getElem?_eq_getElem (by omega)] at ht0 ht1 ht2
  obtain ⟨z0, hz0, _, _⟩ := DataW.trod_int Try.underlying3 (show DataW.trod enc Try.prog w 0 (fun _ => true) true n 3 [a] = _ from ht0)
  obtain ⟨lo, hi, rfl, rfl⟩ := span_cells (show DataW.trod enc Try.prog w 0 (fun _ => true) true n 30 [b, c] = _ from ht1)
  obtain ⟨z2, hz2, _, _⟩ := DataW.trod_int Try.underlying3 (show DataW.trod enc Try.prog w 0 (fun _ => true) true n 3 [d] = _ from ht2)
  injection hz0 with hz0 _
  injection hz2 with hz2 _
  exact ⟨⟨z0, lo, hi, z2⟩, by rw [hz0, hz2]; rfl⟩
end
theorem add_at (b o j : Nat) : (⟨b, o, none⟩ : Addr).add j = ⟨b, o + j, none⟩ := by
  unfold Addr.add
  split
  · rename_i h; subst h; rfl
  · rfl
theorem cell_lt {w : World} {p : Addr} {v : Value} (h : w.cell? p = some v) : p.block < w.heap.size := by
  rcases Nat.lt_or_ge p.block w.heap.size with hlt | hge
  · exact hlt
  · unfold World.cell? at h
    rw [Array.getElem?_eq_none hge] at h
    cases h
theorem cell_spot {w : World} {p : Addr} {v : Value} (h : w.cell? p = some v) : p.spot = none := by
  unfold World.cell? at h
  split at h
  · split at h
    · cases h
    · rename_i h0; simpa using h0
  · cases h


theorem slice_abs {w : World} {a : Addr} {len cap size d : Nat} {us : List Value} (hl : len ≤ cap) (hc : len ≤ 9223372036854775807) (hus : us.length = len * size) (hsz : 0 < size) (hplain : ∀ (j : Nat) (u : Value), us[j]? = some u → absV w.heap.size 8 u = u) (hcell : ∀ (j : Nat) (u : Value), us[j]? = some u → w.cell? (a.add j) = some u) : Cells (absH w) (absV w.heap.size (d + 1) (.slice (some a) len cap)) size len us ∧ CutOk (absH w) (absV w.heap.size (d + 1) (.slice (some a) len cap)) := by
  by_cases h0 : len = 0
  · subst h0
    simp only [absV]
    split
    · exact ⟨⟨hus, hc, _, _, rfl, by simp, by omega⟩, fun b o sp n c e h => by cases e; omega⟩
    · rw [if_pos trivial]; exact ⟨⟨hus, hc, _, _, rfl, by simp, by omega⟩, fun b o sp n c e h => by cases e; omega⟩
  · have hpos : 0 < us.length := by rw [hus]; exact Nat.mul_pos (by omega) hsz
    have h1 := hcell 0 _ (List.getElem?_eq_getElem hpos)
    have e0 : a.add 0 = a := by unfold Addr.add; rw [if_pos rfl]
    rw [e0] at h1
    have hsp := cell_spot h1
    have hlt := cell_lt h1
    obtain ⟨b, o, sp⟩ := a
    simp only at hsp hlt
    subst hsp
    simp only [absV]
    rw [if_pos ⟨trivial, hlt, hl⟩]
    refine ⟨⟨hus, hc, _, _, rfl, by simp, fun _ => ⟨b, o, none, rfl, by rw [absH_n]; exact hlt, fun j u hu => ?_⟩⟩, fun b' o' sp' n' c' e h => ?_⟩
    · have h2 := hcell j u hu
      rw [add_at] at h2
      rw [abs_cell h2, hplain j u hu]
    · cases e
      refine ⟨rfl, hl, ?_⟩
      unfold World.cell? at h1
      split at h1
      · rename_i c e fz hc
        have hg : (absH w).get b = .ext (c.toList.map (absV w.heap.size 8)) 0 := by
          rw [absH_get w hlt, absO]; simp only at hc; rw [hc]
        simp [elemIsR, hg]
      · cases h1

section
variable {H : Type} {enc : TypeId × Value → H} {w : World}
theorem none_abs {w : World} {d size : Nat} : Cells (absH w) (absV w.heap.size (d + 1) (.slice none 0 0)) size 0 [] ∧ CutOk (absH w) (absV w.heap.size (d + 1) (.slice none 0 0)) :=
  ⟨⟨by simp, by omega, none, 0, rfl, fun _ => rfl, by simp⟩, fun b o sp n c e h => by cases e⟩
theorem ints_abs {fuel d : Nat} {v : Value} {x : DataW H × List MemPlace} (h : DataW.trod enc Try.prog w 0 (fun _ => true) true fuel 22 [v] = some x) : ∃ xs, Ints (absH w) (absV w.heap.size (d + 1) v) xs ∧ CutOk (absH w) (absV w.heap.size (d + 1) v) := by
  rcases open_ints Try.underlying22 Try.underlying3 (by kernel_rfl) h with ⟨hcs, _⟩ | ⟨a, l, c, zs, hcs, _, hl, hm, hz, _, hcell, _⟩
  · injection hcs with hcs _
    subst hcs
    exact ⟨[], none_abs⟩
  · injection hcs with hcs _
    subst hcs
    simp only [if_true] at hz
    have hlen : (zs.take l).length = l := by rw [List.length_take]; omega
    refine ⟨zs.take l, ?_⟩
    unfold Ints
    rw [hlen]
    refine slice_abs hl (by unfold maxLen at hm; omega) (by rw [List.length_map, hlen]; omega) (by decide) (fun j u hu => ?_) (fun j u hu => ?_)
    · rw [List.getElem?_map] at hu
      obtain ⟨z, _, rfl⟩ := Option.map_eq_some_iff.1 hu
      rfl
    · rw [List.getElem?_map] at hu
      obtain ⟨z, hz1, rfl⟩ := Option.map_eq_some_iff.1 hu
      rw [List.getElem?_take] at hz1
      split at hz1
      · have hj : j < zs.length := (List.getElem?_eq_some_iff.1 hz1).1
        rw [hcell j hj, List.getD_eq_getElem?_getD, hz1]
        rfl
      · cases hz1

theorem flaws_abs {fuel d : Nat} {v : Value} {x : DataW H × List MemPlace} (h : DataW.trod enc Try.prog w 0 (fun _ => true) true fuel 23 [v] = some x) : ∃ l, Flaws (absH w) (absV w.heap.size (d + 1) v) l := by
  rcases open_slice Try.underlying23 h with ⟨hcs, _⟩ | ⟨a, len, cap, m, n, D, Pl, hcs, _, hl, hm, hmm, _, hi⟩
  · injection hcs with hcs _
    subst hcs
    exact ⟨[], none_abs.1⟩
  · injection hcs with hcs _
    subst hcs
    simp only [if_true] at hmm
    obtain ⟨_, _, _, _, _, _, _, _, hC⟩ := fields32
    have hq : ∀ i, i < len → ∃ q : Flaw, ∀ j u, q.cells[j]? = some u → w.cell? (a.add (i * 4 + j)) = some u := by
      intro i h
      obtain ⟨cs', hc, ht'⟩ := hi i (by omega)
      rw [hC] at hc
      obtain ⟨_, hcl, hat⟩ := World.cells?_some hc
      obtain ⟨q, rfl⟩ := flaw_cells hcl ht'
      refine ⟨q, fun j u hu => ?_⟩
      have hj : j < 4 := (List.getElem?_eq_some_iff.1 hu).1
      rw [← Go.Deep.add_add, hat j hj]; exact hu
    obtain ⟨f, hf'⟩ := Classical.skolem.1 (fun i => show ∃ q : Flaw, i < len → ∀ j u, q.cells[j]? = some u → w.cell? (a.add (i * 4 + j)) = some u by
      by_cases hi : i < len
      · obtain ⟨q, hq⟩ := hq i hi; exact ⟨q, fun _ => hq⟩
      · exact ⟨⟨0, 0, 0, 0⟩, fun h => absurd h hi⟩)
    have hlen : ((List.range len).map f).length = len := by simp
    refine ⟨(List.range len).map f, ?_⟩
    unfold Flaws
    rw [hlen]
    have hget : ∀ j u, (flawCells ((List.range len).map f))[j]? = some u → ∃ k i, k < len ∧ j = k * 4 + i ∧ (f k).cells[i]? = some u := by
      intro j u hu
      have hj : j < len * 4 := by
        have := (List.getElem?_eq_some_iff.1 hu).1
        rw [flawCells_length, hlen] at this; exact this
      have hk : j / 4 < len := by omega
      have hi : j % 4 < 4 := Nat.mod_lt _ (by decide)
      have hcl : (f (j / 4)).cells.length = 4 := rfl
      have h1 := flawCells_get ((List.range len).map f) (j / 4) (by rw [hlen]; exact hk) (j % 4) ((f (j / 4)).cells[j % 4]'(by rw [hcl]; exact hi)) (by simp)
      have e : j / 4 * 4 + j % 4 = j := by omega
      rw [e, hu] at h1
      refine ⟨j / 4, j % 4, hk, e.symm, ?_⟩
      rw [List.getElem?_eq_getElem (by rw [hcl]; exact hi)]
      exact h1.symm ▸ rfl
    refine (slice_abs hl (by unfold maxLen at hm; omega) (by rw [flawCells_length, hlen]) (by decide) (fun j u hu => ?_) (fun j u hu => ?_)).1
    · obtain ⟨k, i, hk, rfl, hi⟩ := hget j u hu
      match i, hi with
      | 0, hi => cases hi; rfl
      | 1, hi => cases hi; rfl
      | 2, hi => cases hi; rfl
      | 3, hi => cases hi; rfl
      | i + 4, hi => simp [Flaw.cells] at hi
    · obtain ⟨k, i, hk, rfl, hi⟩ := hget j u hu
      exact hf' k hk i u hi
end

theorem ownOne : ownKnob Try.prog.godebug = none := by kernel_rfl
theorem laidOut : laidOutB Try.prog = true := by kernel_rfl

theorem fields25 : ∃ f0 f1 f2 : Field, Try.prog.underlying 25 = some (.struct #[f0, f1, f2]) ∧ (f0.type = 3 ∧ f1.type = 22 ∧ f2.type = 23) ∧ (f0.offset = 0 ∧ f1.offset = 1 ∧ f2.offset = 2) ∧ Try.prog.cellsOf 3 = 1 ∧ Try.prog.cellsOf 22 = 1 ∧ Try.prog.cellsOf 23 = 1 ∧ Try.prog.cellsOf 25 = 3 :=
  ⟨(fieldOf Try.prog 25 0).getD default, (fieldOf Try.prog 25 1).getD default, (fieldOf Try.prog 25 2).getD default, by kernel_rfl, by refine ⟨?_, ?_, ?_⟩ <;> kernel_rfl, by refine ⟨?_, ?_, ?_⟩ <;> kernel_rfl, by kernel_rfl, by kernel_rfl, by kernel_rfl, by kernel_rfl⟩
section
variable {H : Type} {enc : TypeId × Value → H} {w : World}
theorem tour_abs {r : Reach} {b0 : Nat} {v : Value} {d : DataW H} {p : List MemPlace} (hval : Value.okWide Try.prog w r b0 25 v) (h : DataW.Trod enc Try.prog w 0 (fun _ => true) true 25 v d p) : ∃ t, TourV (absH w) (absV w.heap.size 8 v) t := by
  obtain ⟨f0, f1, f2, hu, ⟨t0, t1, t2⟩, ⟨o0, o1, o2⟩, h3, h4, h5, h6⟩ := fields25
  obtain ⟨cs, rfl, hcs⟩ := okWide_struct hu hval
  obtain ⟨fuel, hf⟩ := h
  obtain ⟨xs, n, _, _, _, _, ht⟩ := DataW.trod_struct hu hf
  rw [h6] at hcs
  obtain ⟨a, b, c, rfl⟩ : ∃ a b c, cs = #[a, b, c] := by
    obtain ⟨l⟩ := cs
    match l, hcs with
    | [a, b, c], _ => exact ⟨a, b, c, rfl⟩
  have ht0 := ht 0 f0 rfl
  have ht1 := ht 1 f1 rfl
  have ht2 := ht 2 f2 rfl
  rw [t0, o0, h3] at ht0
  rw [t1, o1, h4] at ht1
  rw [t2, o2, h5] at ht2
  have hlen : xs.length = 3 := by assumption
  rw [List.getElem?_eq_getElem (by omega)] at ht0 ht1 ht2
  obtain ⟨z, hz, _, _⟩ := DataW.trod_int Try.underlying3 (show DataW.trod enc Try.prog w 0 (fun _ => true) true n 3 [a] = _ by simpa [Value.cells] using ht0)
  obtain ⟨ws, hw, _⟩ := ints_abs (d := 6) (v := b) (by simpa [Value.cells] using ht1)
  obtain ⟨l, hl⟩ := flaws_abs (d := 6) (v := c) (by simpa [Value.cells] using ht2)
  injection hz with hz _
  subst hz
  exact ⟨⟨z, ws, l⟩, _, _, by simp [absV], hw, hl⟩
theorem u8_in {l : Int} (h : (Lit.int .u8 l).wf = true) : 0 ≤ l ∧ l ≤ 255 := by
  have h2 : IntKind.u8.min ≤ l ∧ l ≤ IntKind.u8.max := by simpa [Lit.wf] using h
  exact h2
theorem list_abs {r : Reach} {b0 : Nat} {v : Value} {d : DataW H} {p : List MemPlace} (hval : Value.okWide Try.prog w r b0 22 v) (h : DataW.Trod enc Try.prog w 0 (fun _ => true) true 22 v d p) : ∃ xs, Ints (absH w) (absV w.heap.size 8 v) xs ∧ CutOk (absH w) (absV w.heap.size 8 v) := by
  obtain ⟨a, len, cap, rfl⟩ := okWide_slice Try.underlying22 hval
  obtain ⟨fuel, hf⟩ := h
  exact ints_abs (d := 7) hf
end
end Go.Proofs.Try
