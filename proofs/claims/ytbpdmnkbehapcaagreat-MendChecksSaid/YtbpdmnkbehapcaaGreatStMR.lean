/- Contracts of functions, walked. -/
import Derived.Test.YtbpdmnkbehapcaaGreatChecked
import Derived.Test.YtbpdmnkbehapcaaGreatRows
import Derived.Below
import Derived.Carry
import Derived.Deep.Slices
import Derived.Deep.Fields
import Derived.ChangeSame
import Derived.ProofKit
import Derived.OpenShut
import Derived.ShutString
import Derived.ChangeOld
import Derived.Lib.SmallJoins
import Derived.Test.YtbpdmnkbehapcaaGreatStMC
import Derived.Test.YtbpdmnkbehapcaaGreatStN9
import Derived.Test.YtbpdmnkbehapcaaGreatAwB
set_option linter.all false
namespace Go.Proofs.Tryz
open Go Go.Am Go.RowKit
set_option maxRecDepth 100000


theorem CutOk.ext {H H' : AHeap} {v : Value} {l : List Int} (h : CutOk H v) (hl : Ints H v l) (hx : Ext H H') : CutOk H' v := by
  intro b o sp n c hv hn
  obtain ⟨h1, h2, h3⟩ := h b o sp n c hv hn
  refine ⟨h1, h2, ?_⟩
  obtain ⟨-, -, a', c', h4, -, h5⟩ := hl
  rw [hv] at h4
  cases h4
  obtain ⟨b', o', sp', he, hb, -⟩ := h5 hn
  cases he
  rw [elemIsR_get (hx.get b hb)]
  exact h3

theorem genC {P : Program} {cx : Cx} {c : Code} {f : AF} {H : AHeap} {Q : Post} (I : AF → AHeap → Prop) (hp : I f H) (h : ∀ f H, I f H → CodeS P cx c f H Q) : CodeS P cx c f H Q := h f H hp

section
variable {H : AHeap} {β : Type} {kk : K β} {other : Unit → Option β} {dst : Option Tmp} {ty : TypeId} {src : String} {af : Array Edge} {g : Option (Nat × Bool)}
noncomputable def neBV (o : Oper) (ev : Operand → Value) (v u : Value) (H : AHeap) (kk : K β) : Option β := match v, u with
  | .bool a, .bool b => kk (.bool (a != b)) H
  | _, _ => plainRest Tryz.prog o ev H kk
@[go_sem] theorem neBV_bool {o : Oper} {ev : Operand → Value} {a b : Bool} : neBV o ev (.bool a) (.bool b) H kk = kk (.bool (a != b)) H := rfl
@[go_sem] theorem aBin_neBool {a b : Bool} : aBin Tryz.prog .neq 4 (.bool a) (.bool b) H kk other = other () := by
  have h : nilEq Tryz.prog 4 (.bool a) (.bool b) = none := by kernel_rfl
  simp only [aBin, aEq, h]
@[go_sem] theorem aPlain_neB {t' : TypeId} {x y : Operand} {ev : Operand → Value} : aPlain Tryz.prog ⟨dst, .binOp .neq 4 x y t', ty, src, af, g⟩ ev H kk = neBV ⟨dst, .binOp .neq 4 x y t', ty, src, af, g⟩ ev (ev x) (ev y) H kk := by
  unfold neBV
  split
  · rename_i a b hx hy
    rw [plain_of rfl]
    have e1 : ((Op.binOp .neq 4 x y t').operands.toList.all fun x => plainV 6 (ev x)) = true := by
      show ([x, y].all fun x => plainV 6 (ev x)) = true
      simp [hx, hy]
      exact ⟨rfl, rfl⟩
    rw [if_pos e1]
    have e2 : pureOf Tryz.prog (execOp ev ⟨dst, .binOp .neq 4 x y t', ty, src, af, g⟩) = some (.value (.bool (a != b))) := by
      simp only [execOp, hx, hy]
      kernel_rfl
    rw [e2]
    rfl
  · rfl
@[go_sem] theorem neBV_evR {t' : TypeId} {x y : Operand} {f : AF} : neBV ⟨dst, .binOp .neq 4 x y t', ty, src, af, g⟩ (evR (opReads ⟨dst, .binOp .neq 4 x y t', ty, src, af, g⟩) f) (evR (opReads ⟨dst, .binOp .neq 4 x y t', ty, src, af, g⟩) f x) (evR (opReads ⟨dst, .binOp .neq 4 x y t', ty, src, af, g⟩) f y) H kk = neBV ⟨dst, .binOp .neq 4 x y t', ty, src, af, g⟩ (evR (opReads ⟨dst, .binOp .neq 4 x y t', ty, src, af, g⟩) f) (f.eval x) (f.eval y) H kk := by
  rw [evR_self (o := ⟨dst, .binOp .neq 4 x y t', ty, src, af, g⟩) (f := f) (x := x) (by simp [Op.operands]), evR_self (o := ⟨dst, .binOp .neq 4 x y t', ty, src, af, g⟩) (f := f) (x := y) (by simp [Op.operands])]
@[go_sem] theorem eqBV_evR {t' : TypeId} {x y : Operand} {f : AF} : eqBV ⟨dst, .binOp .eql 4 x y t', ty, src, af, g⟩ (evR (opReads ⟨dst, .binOp .eql 4 x y t', ty, src, af, g⟩) f) (evR (opReads ⟨dst, .binOp .eql 4 x y t', ty, src, af, g⟩) f x) (evR (opReads ⟨dst, .binOp .eql 4 x y t', ty, src, af, g⟩) f y) H kk = eqBV ⟨dst, .binOp .eql 4 x y t', ty, src, af, g⟩ (evR (opReads ⟨dst, .binOp .eql 4 x y t', ty, src, af, g⟩) f) (f.eval x) (f.eval y) H kk := by
  rw [evR_self (o := ⟨dst, .binOp .eql 4 x y t', ty, src, af, g⟩) (f := f) (x := x) (by simp [Op.operands]), evR_self (o := ⟨dst, .binOp .eql 4 x y t', ty, src, af, g⟩) (f := f) (x := y) (by simp [Op.operands])]
end

theorem pureOf_pure {α : Type} (x : α) : pureOf Tryz.prog (pure x : Sem α) = some x := rfl
theorem pEq3 (d : Nat) (a b : Int) : pureOf Tryz.prog (Op.equalIn (d + 1) 3 (.int .i64 a) (.int .i64 b)) = some (a == b) := by kernel_rfl
theorem part3_0 (a b : Value) : pureOf Tryz.prog (part 3 #[a, b] 0) = some a := by kernel_rfl
theorem part3_1 (a b : Value) : pureOf Tryz.prog (part 3 #[a, b] 1) = some b := by kernel_rfl
theorem un27p : ∃ f0 f1 : Field, pureOf Tryz.prog (underlying 27) = some (.struct #[f0, f1]) ∧ (f0.name != "_") = true ∧ (f1.name != "_") = true ∧ f0.type = 3 ∧ f1.type = 3 ∧ f0.offset = 0 ∧ f1.offset = 1 :=
  ⟨(fieldOf Tryz.prog 27 0).getD default, (fieldOf Tryz.prog 27 1).getD default, by kernel_rfl, by kernel_rfl, by kernel_rfl, by kernel_rfl, by kernel_rfl, by kernel_rfl, by kernel_rfl⟩
theorem pEq27 (d : Nat) (a b a' b' : Int) : pureOf Tryz.prog (Op.equalIn (d + 3) 27 (.agg #[.int .i64 a, .int .i64 b]) (.agg #[.int .i64 a', .int .i64 b'])) = some (a == a' && b == b') := by
  obtain ⟨f0, f1, hfs, h1, h2, h3, h4, h5, h6⟩ := un27p
  rw [Op.equalIn]
  rw [pureOf_bind, hfs]
  dsimp only [Option.bind]
  rw [pureOf_bind, show pureOf Tryz.prog program = some Tryz.prog from rfl]
  dsimp only [Option.bind]
  rw [show Tryz.prog.stoodInHeld 27 = false by kernel_rfl, if_neg (by simp)]
  simp only [List.forIn_toArray, List.forIn_cons, List.forIn_nil]
  rw [if_pos (bne_iff_ne.1 h1)]
  simp only [if_pos (bne_iff_ne.1 h2), h3, h4, h5, h6, pureOf_bind, part3_0, pEq3, Option.bind_some]
  cases (a == a')
  · rfl
  · simp only [Bool.not_true, Bool.false_eq_true, if_false, pureOf_pure, Option.bind_some, pureOf_bind, part3_1, pEq3]
    cases (b == b') <;> rfl
theorem eqF27 (x y : Operand) (a b a' b' : Int) : pureOf Tryz.prog (do eqGuard .eql 27 x y (.agg #[.int .i64 a, .int .i64 b]) (.agg #[.int .i64 a', .int .i64 b']); binOp .eql 27 (.agg #[.int .i64 a, .int .i64 b]) (.agg #[.int .i64 a', .int .i64 b'])) = some (.bool (a == a' && b == b')) := by
  rw [pureOf_bind, show pureOf Tryz.prog (eqGuard .eql 27 x y (.agg #[.int .i64 a, .int .i64 b]) (.agg #[.int .i64 a', .int .i64 b'])) = some () by kernel_rfl]
  dsimp only [Option.bind]
  rw [show binOp .eql 27 (.agg #[.int .i64 a, .int .i64 b]) (.agg #[.int .i64 a', .int .i64 b']) = (do pure (.bool (← Op.equal 27 (.agg #[.int .i64 a, .int .i64 b]) (.agg #[.int .i64 a', .int .i64 b'])))) from rfl]
  rw [pureOf_bind, show Op.equal 27 (.agg #[.int .i64 a, .int .i64 b]) (.agg #[.int .i64 a', .int .i64 b']) = Op.equalIn (9997 + 3) 27 (.agg #[.int .i64 a, .int .i64 b]) (.agg #[.int .i64 a', .int .i64 b']) from rfl, pEq27]
  rfl
def twoI : Value → Option (Int × Int)
  | .agg a => match a.toList with
    | [.int .i64 x, .int .i64 y] => some (x, y)
    | _ => none
  | _ => none
theorem twoI_some {v : Value} {x y : Int} (h : twoI v = some (x, y)) : v = .agg #[.int .i64 x, .int .i64 y] := by
  unfold twoI at h
  split at h
  · rename_i a
    split at h
    · rename_i x' y' hl
      cases h
      have : a = #[.int .i64 x, .int .i64 y] := by rw [← Array.toArray_toList (xs := a), hl]
      rw [this]
    · cases h
  · cases h
section
variable {H : AHeap} {β : Type} {kk : K β} {other : Unit → Option β} {dst : Option Tmp} {ty : TypeId} {src : String} {af : Array Edge} {g : Option (Nat × Bool)}
def eqSV (v u : Value) (H : AHeap) (kk : K β) (other : Unit → Option β) : Option β := match twoI v, twoI u with
  | some (a, b), some (c, d) => kk (.bool (a == c && b == d)) H
  | _, _ => other ()
@[go_sem] theorem eqSV_two {a b c d : Int} : eqSV (.agg #[.int .i64 a, .int .i64 b]) (.agg #[.int .i64 c, .int .i64 d]) H kk other = kk (.bool (a == c && b == d)) H := rfl
theorem eq27_eq {t' : TypeId} {x y : Operand} {ev : Operand → Value} {a b a' b' : Int} (hx : ev x = .agg #[.int .i64 a, .int .i64 b]) (hy : ev y = .agg #[.int .i64 a', .int .i64 b']) : aPlain Tryz.prog ⟨dst, .binOp .eql 27 x y t', ty, src, af, g⟩ ev H kk = kk (.bool (a == a' && b == b')) H := by
  have hr : pureOf Tryz.prog (execOp ev ⟨dst, .binOp .eql 27 x y t', ty, src, af, g⟩) = some (.value (.bool (a == a' && b == b'))) := by
    have h0 : execOp ev ⟨dst, .binOp .eql 27 x y t', ty, src, af, g⟩ = (do pure (.value (← (do eqGuard .eql 27 x y (ev x) (ev y); binOp .eql 27 (ev x) (ev y))))) := rfl
    rw [h0, hx, hy, pureOf_bind, eqF27]; rfl
  rw [plain_of rfl, hr]
  have ho : (Op.binOp .eql 27 x y t').operands.toList.all (fun x => plainV 6 (ev x)) = true := by
    show (#[x, y].toList.all fun x => plainV 6 (ev x)) = _
    simp [hx, hy]; exact ⟨rfl, rfl⟩
  rw [if_pos ho]; rfl
theorem aBin_aggE {t : TypeId} {a b : Array Value} : aBin Tryz.prog .eql t (.agg a) (.agg b) H kk other = other () := by
  have h : nilEq Tryz.prog t (.agg a) (.agg b) = none := by
    unfold nilEq
    split <;> simp_all
  simp only [aBin, aEq, h]
@[go_sem high] theorem vA_eq27 {t' : TypeId} {x y : Operand} {f : AF} : valA Tryz.prog ⟨dst, .binOp .eql 27 x y t', ty, src, af, g⟩ (Am.decode (.binOp .eql 27 x y t')) (evR (opReads ⟨dst, .binOp .eql 27 x y t', ty, src, af, g⟩) f) H kk = eqSV (f.eval x) (f.eval y) H kk fun _ => aBin Tryz.prog .eql 27 (f.eval x) (f.eval y) H kk fun _ => aPlain Tryz.prog ⟨dst, .binOp .eql 27 x y t', ty, src, af, g⟩ (evR (opReads ⟨dst, .binOp .eql 27 x y t', ty, src, af, g⟩) f) H kk := by
  rw [vA_bin]
  unfold eqSV
  split
  · rename_i a b c d hx hy
    have hx := twoI_some hx
    have hy := twoI_some hy
    rw [hx, hy, aBin_aggE]
    refine eq27_eq (Eq.trans ?_ hx) (Eq.trans ?_ hy)
    · exact evR_self (o := ⟨dst, .binOp .eql 27 x y t', ty, src, af, g⟩) (f := f) (x := x) (by simp [Op.operands])
    · exact evR_self (o := ⟨dst, .binOp .eql 27 x y t', ty, src, af, g⟩) (f := f) (x := y) (by simp [Op.operands])
  · rfl
end

set_option maxHeartbeats 8000000 in
theorem law3 {H : AHeap} {v ov lv : Value} {t : Tour} {on ids : List Int} {lo hi : Int} (hv : TourV H v t) (ho : Ints H ov on) (hcut : CutOk H ov) (hl : Ints H lv ids) :
    CallS Tryz.prog [] 3 [v, ov, lv, .agg #[.int .i64 lo, .int .i64 hi]] H fun r _ => r = .bool true := by
  have HV := Lib.hid hv
  have HL := Lib.hid hl
  have HO := Lib.hid ho
  have HCUT := Lib.hid hcut
  obtain ⟨cv, fv, rfl, hc, hf⟩ := hv
  obtain ⟨hcl', ca, cc, rfl⟩ := hc.slice
  obtain ⟨hfl, fa, fc, rfl⟩ := hf.slice
  obtain ⟨hll, la, lc, rfl⟩ := hl.slice
  obtain ⟨hol, oa, oc, rfl⟩ := ho.slice
  clear hc hf hl ho hcut
  have HFEW := Lib.hid (fun (loops : List (Nat × LInfo)) (H2 : AHeap) (hx : Ext H H2) => few_s (loops := loops) (HV.out.ext hx))
  by_cases h1 : t.few = true
  case' neg =>
    have h1b : t.few = false := by simpa using h1
    rw [h1b] at HFEW
    refine CallS.enter' Tryz.func3 rfl Tryz.ntmps3 (by simp) fun f hd hf => ?_
    have f0 := hf 0
    have f1 := hf 1
    have f2 := hf 2
    have f3 := hf 3
    simp at f0 f1 f2 f3
    clear hf h1 h1b
    repeat' (first|(with_reducible first|refine zA ?_|refine zB fun K hK=>?_|refine zC fun K2 hK2=>?_|refine zD ?_|refine zE ?_|refine zF ?_|refine zG ?_|refine zH ?_|refine zI ?_|refine zM ?_|refine zN ?_|refine zO ?_|refine zP ?_|refine zQ ?_|refine zR ?_)|((with_reducible refine zU (hK _ _ ?_));clear hK K)|((with_reducible refine zV ?_ ?_ fun K1 K3 d hdst h1 h3=>?_);rfl;exact yB rfl;cases hdst;go_simp)|((with_reducible refine zW fun K1 K3 h1 h3=>?_);go_simp)|((first|refine h1 ?_|refine h3 ?_);clear h1 h3 K1 K3)|((first|refine zX (fun hb=>h1 ?_) (fun hb=>h3 ?_)|refine zX (fun hb=>h3 ?_) (fun hb=>h1 ?_))<;>(clear h1 h3 K1 K3;(try have hb2:=yC hb);(try have hb2:=yD hb);(try have hb2:=yE hb);(try have hb2:=yF hb);(try have hb2:=yG hb)))|(refine fun (K2:_→AHeap→Prop) hK2=>?_)|((with_reducible refine zY ?_ ?_);decide)|((with_reducible first|refine zZ ?_ (fun K hK=>?_)|refine yA ?_ (fun K hK=>?_));(focus go_simp;done);go_simp;refine hK _ _ ?_;clear hK K)|(go_simp;(try go_bits);(try first |((with_reducible show CallS _ _ _ _ _ _);first|(refine CallS.mono head_s ?_; rintro _ _ ⟨rfl, h9⟩; rw [h9]; clear h9; go_simp)|(refine CallS.mono (HFEW.out _ _ (((Ext.refl _).push' _).push' _)) ?_; rintro _ _ ⟨rfl, h9⟩; rw [h9]; clear h9; go_simp)));refine hK2 _ _ ?_;clear hK2 K2))
    rfl
  rw [h1] at HFEW
  by_cases h3 : 60 < on.length
  case' pos =>
    have h3b : (60 : Int) < (on.length : Int) := by omega
    refine CallS.enter' Tryz.func3 rfl Tryz.ntmps3 (by simp) fun f hd hf => ?_
    have f0 := hf 0
    have f1 := hf 1
    have f2 := hf 2
    have f3 := hf 3
    simp at f0 f1 f2 f3
    clear hf h1
    repeat' (first|(with_reducible first|refine zA ?_|refine zB fun K hK=>?_|refine zC fun K2 hK2=>?_|refine zD ?_|refine zE ?_|refine zF ?_|refine zG ?_|refine zH ?_|refine zI ?_|refine zM ?_|refine zN ?_|refine zO ?_|refine zP ?_|refine zQ ?_|refine zR ?_)|((with_reducible refine zU (hK _ _ ?_));clear hK K)|((with_reducible refine zV ?_ ?_ fun K1 K3 d hdst h1 h3=>?_);rfl;exact yB rfl;cases hdst;go_simp)|((with_reducible refine zW fun K1 K3 h1 h3=>?_);go_simp)|((first|refine h1 ?_|refine h3 ?_);clear h1 h3 K1 K3)|((first|refine zX (fun hb=>h1 ?_) (fun hb=>h3 ?_)|refine zX (fun hb=>h3 ?_) (fun hb=>h1 ?_))<;>(clear h1 h3 K1 K3;(try have hb2:=yC hb);(try have hb2:=yD hb);(try have hb2:=yE hb);(try have hb2:=yF hb);(try have hb2:=yG hb)))|(refine fun (K2:_→AHeap→Prop) hK2=>?_)|((with_reducible refine zY ?_ ?_);decide)|((with_reducible first|refine zZ ?_ (fun K hK=>?_)|refine yA ?_ (fun K hK=>?_));(focus go_simp;done);go_simp;refine hK _ _ ?_;clear hK K)|(go_simp;(try go_bits);(try first |((with_reducible show CallS _ _ _ _ _ _);first|(refine CallS.mono head_s ?_; rintro _ _ ⟨rfl, h9⟩; rw [h9]; clear h9; go_simp)|(refine CallS.mono (HFEW.out _ _ (((Ext.refl _).push' _).push' _)) ?_; rintro _ _ ⟨rfl, h9⟩; rw [h9]; clear h9; go_simp)));refine hK2 _ _ ?_;clear hK2 K2))
    rfl
  have h3b : ¬ (60 : Int) < (on.length : Int) := by omega
  by_cases h2 : 60 < ids.length
  case' pos =>
    have h2b : (60 : Int) < (ids.length : Int) := by omega
    refine CallS.enter' Tryz.func3 rfl Tryz.ntmps3 (by simp) fun f hd hf => ?_
    have f0 := hf 0
    have f1 := hf 1
    have f2 := hf 2
    have f3 := hf 3
    simp at f0 f1 f2 f3
    clear hf h1
    repeat' (first|(with_reducible first|refine zA ?_|refine zB fun K hK=>?_|refine zC fun K2 hK2=>?_|refine zD ?_|refine zE ?_|refine zF ?_|refine zG ?_|refine zH ?_|refine zI ?_|refine zM ?_|refine zN ?_|refine zO ?_|refine zP ?_|refine zQ ?_|refine zR ?_)|((with_reducible refine zU (hK _ _ ?_));clear hK K)|((with_reducible refine zV ?_ ?_ fun K1 K3 d hdst h1 h3=>?_);rfl;exact yB rfl;cases hdst;go_simp)|((with_reducible refine zW fun K1 K3 h1 h3=>?_);go_simp)|((first|refine h1 ?_|refine h3 ?_);clear h1 h3 K1 K3)|((first|refine zX (fun hb=>h1 ?_) (fun hb=>h3 ?_)|refine zX (fun hb=>h3 ?_) (fun hb=>h1 ?_))<;>(clear h1 h3 K1 K3;(try have hb2:=yC hb);(try have hb2:=yD hb);(try have hb2:=yE hb);(try have hb2:=yF hb);(try have hb2:=yG hb)))|(refine fun (K2:_→AHeap→Prop) hK2=>?_)|((with_reducible refine zY ?_ ?_);decide)|((with_reducible first|refine zZ ?_ (fun K hK=>?_)|refine yA ?_ (fun K hK=>?_));(focus go_simp;done);go_simp;refine hK _ _ ?_;clear hK K)|(go_simp;(try go_bits);(try first |((with_reducible show CallS _ _ _ _ _ _);first|(refine CallS.mono head_s ?_; rintro _ _ ⟨rfl, h9⟩; rw [h9]; clear h9; go_simp)|(refine CallS.mono (HFEW.out _ _ (((Ext.refl _).push' _).push' _)) ?_; rintro _ _ ⟨rfl, h9⟩; rw [h9]; clear h9; go_simp)));refine hK2 _ _ ?_;clear hK2 K2))
    rfl
  have h2b : ¬ (60 : Int) < (ids.length : Int) := by omega
  have HOP := Lib.hid (fun (loops : List (Nat × LInfo)) (H2 : AHeap) (hx : Ext H H2) => open_s (loops := loops) (HV.out.ext hx))
  have HRO := Lib.hid (fun (loops : List (Nat × LInfo)) (H2 : AHeap) (hx : Ext H H2) => ropen_s (loops := loops) (HV.out.ext hx))
  have HFI := Lib.hid (fun (loops : List (Nat × LInfo)) (H2 : AHeap) (hx : Ext H H2) => fits_s (loops := loops) (HV.out.ext hx) (HO.out.ext hx))
  have HRF := Lib.hid (fun (loops : List (Nat × LInfo)) (H2 : AHeap) (hx : Ext H H2) => rfits_s (loops := loops) (HV.out.ext hx) (HO.out.ext hx) (HCUT.out.ext HO.out hx))
  have HCA := Lib.hid (fun (loops : List (Nat × LInfo)) (H2 : AHeap) (hx : Ext H H2) => can_s (loops := loops) (HV.out.ext hx) (HL.out.ext hx))
  have HRC := Lib.hid (fun (loops : List (Nat × LInfo)) (H2 : AHeap) (hx : Ext H H2) => rcan_s (loops := loops) (HV.out.ext hx) (HL.out.ext hx))
  have HJA := Lib.hid (fun (loops : List (Nat × LInfo)) (H2 : AHeap) (hx : Ext H H2) => jam_s (loops := loops) (HV.out.ext hx) (HL.out.ext hx))
  have HRJ := Lib.hid (fun (loops : List (Nat × LInfo)) (H2 : AHeap) (hx : Ext H H2) => rJam_s (loops := loops) (HV.out.ext hx) (HL.out.ext hx))
  have HCE := Lib.hid (fun (loops : List (Nat × LInfo)) (H2 : AHeap) (hx : Ext H H2) => check_s (loops := loops) (HV.out.ext hx))
  have HRE := Lib.hid (fun (loops : List (Nat × LInfo)) (H2 : AHeap) (hx : Ext H H2) => rcheck_s (loops := loops) (HV.out.ext hx))
  have HCJ := Lib.hid (fun (loops : List (Nat × LInfo)) (H2 : AHeap) (hx : Ext H H2) => checkJam_s (loops := loops) (lo := lo) (hi := hi) (HV.out.ext hx) (HL.out.ext hx))
  have HRK := Lib.hid (fun (loops : List (Nat × LInfo)) (H2 : AHeap) (hx : Ext H H2) => rcheckJam_s (loops := loops) (lo := lo) (hi := hi) (HV.out.ext hx) (HL.out.ext hx))
  clear HV HCUT HO HL h1 h2 h3
  generalize t.checkJam ids lo hi = cj at HCJ HRK
  generalize t.openDays = od at HOP HRO
  generalize err t = er at HOP HRO HCE HRE
  generalize (t.fits on).2.2 = fe at HFI HRF
  generalize (t.fits on).2.1 = fb at HFI HRF
  generalize (t.fits on).1 = fx at HFI HRF
  generalize t.can ids = cb at HCA HRC
  generalize (if errList t ids = 0 then t.jam ids else none) = o at HJA HRJ
  generalize errList t ids = el at HCA HRC HJA HRJ
  obtain ⟨jl, jh, jb, hj⟩ : ∃ (jl jh : Int) (jb : Bool), jamR el o = .tuple #[.agg #[.int .i64 jl, .int .i64 jh], .bool jb, .int .i64 el] := by
    cases o with
    | none => exact ⟨0, 0, false, rfl⟩
    | some x => exact ⟨_, _, true, rfl⟩
  rw [hj] at HJA HRJ
  clear hj o
  refine CallS.enter' Tryz.func3 rfl Tryz.ntmps3 (by simp) fun f hd hf => ?_
  have f0 := hf 0
  have f1 := hf 1
  have f2 := hf 2
  have f3 := hf 3
  simp at f0 f1 f2 f3
  clear hf
  repeat' (first|((with_reducible refine stop_if (n := 13) ?_))|(with_reducible first|refine zA ?_|refine zB fun K hK=>?_|refine zC fun K2 hK2=>?_|refine zD ?_|refine zE ?_|refine zF ?_|refine zG ?_|refine zH ?_|refine zI ?_|refine zM ?_|refine zN ?_|refine zO ?_|refine zP ?_|refine zQ ?_|refine zR ?_)|((with_reducible refine zU (hK _ _ ?_));clear hK K)|((with_reducible refine zV ?_ ?_ fun K1 K3 d hdst h1 h3=>?_);rfl;exact yB rfl;cases hdst;go_simp)|((with_reducible refine zW fun K1 K3 h1 h3=>?_);go_simp)|((first|refine h1 ?_|refine h3 ?_);clear h1 h3 K1 K3)|((first|refine zX (fun hb=>h1 ?_) (fun hb=>h3 ?_)|refine zX (fun hb=>h3 ?_) (fun hb=>h1 ?_))<;>(clear h1 h3 K1 K3;(try have hb2:=yC hb);(try have hb2:=yD hb);(try have hb2:=yE hb);(try have hb2:=yF hb);(try have hb2:=yG hb)))|(refine fun (K2:_→AHeap→Prop) hK2=>?_)|((with_reducible refine zY ?_ ?_);decide)|((with_reducible first|refine zZ ?_ (fun K hK=>?_)|refine yA ?_ (fun K hK=>?_));(focus go_simp;done);go_simp;refine hK _ _ ?_;clear hK K)|(go_simp;(try go_bits);(try first |((with_reducible show CallS _ _ _ _ _ _);first|(refine CallS.mono head_s ?_; rintro _ _ ⟨rfl, h9⟩; rw [h9]; clear h9; go_simp)|(refine CallS.mono (HFEW.out _ _ (((Ext.refl _).push' _).push' _)) ?_; rintro _ _ ⟨rfl, h9⟩; rw [h9]; clear h9; go_simp)|(refine CallS.mono (HOP.out _ _ (((Ext.refl _).push' _).push' _)) ?_; rintro _ H3 ⟨⟨ov3, rfl, ho3⟩, hx3⟩; (have HX3 : Hid (Ext H H3) := Lib.hid ((((Ext.refl _).push' _).push' _).trans hx3)); (have hn3 : H.n + 1 < H3.n := by have := hx3.n; simp only [AHeap.n_push] at this; omega); (have hn3b : H.n < H3.n := by omega); (have hq3 : cellsAt H3 H.n 0 3 = some [.int .i64 t.days, .slice ca t.closed.length cc, .slice fa t.flaws.length fc] := (hx3.cellsAt (by simp only [AHeap.n_push]; omega)).trans (by go_simp)); (have hp3 : cellsAt H3 (H.n + 1) 0 2 = some [.int .i64 lo, .int .i64 hi] := (hx3.cellsAt (by simp only [AHeap.n_push]; omega)).trans (by go_simp)); (have HO3 := Lib.hid ho3); clear ho3 hx3)|(refine CallS.mono (HRO.out _ _ HX3.out) ?_; rintro _ H4 ⟨⟨ov4, rfl, ho4⟩, hx4⟩; (have HX4 : Hid (Ext H H4) := Lib.hid (HX3.out.trans hx4)); (have hn4 : H.n + 1 < H4.n := by have := hx4.n; omega); (have hn4b : H.n < H4.n := by omega); (have hq4 : cellsAt H4 H.n 0 3 = some [.int .i64 t.days, .slice ca t.closed.length cc, .slice fa t.flaws.length fc] := (hx4.cellsAt hn3b).trans hq3); (have hp4 : cellsAt H4 (H.n + 1) 0 2 = some [.int .i64 lo, .int .i64 hi] := (hx4.cellsAt hn3).trans hp3); (have HO4 := Lib.hid ho4); (have HO5 := Lib.hid (HO3.out.ext hx4)); (obtain ⟨hl3, va3, vc3, rfl⟩ := HO3.out.slice); (obtain ⟨hl4, va4, vc4, rfl⟩ := HO4.out.slice); clear ho4 hx4 HX3 HO3 hq3 hp3 hn3 hn3b)|(refine CallS.mono (HFI.out _ _ (HX4.out.push' _)) ?_; rintro _ _ ⟨rfl, h9⟩; rw [h9]; clear h9; go_simp)|(refine CallS.mono (HRF.out _ _ (HX4.out.push' _)) ?_; rintro _ _ ⟨rfl, h9⟩; rw [h9]; clear h9; go_simp)|(refine CallS.mono (HCA.out _ _ (HX4.out.push' _)) ?_; rintro _ _ ⟨rfl, h9⟩; rw [h9]; clear h9; go_simp)|(refine CallS.mono (HRC.out _ _ (HX4.out.push' _)) ?_; rintro _ _ ⟨rfl, h9⟩; rw [h9]; clear h9; go_simp)|(refine CallS.mono (HJA.out _ _ (HX4.out.push' _)) ?_; rintro _ _ ⟨rfl, h9⟩; rw [h9]; clear h9; go_simp)|(refine CallS.mono (HRJ.out _ _ ((HX4.out.push' _).push' _)) ?_; rintro _ _ ⟨rfl, h9⟩; rw [h9]; clear h9; go_simp)|(refine CallS.mono (sameInts_s (HO5.out.ext ((((Ext.refl _).push' _).push' _).push' _)) (HO4.out.ext ((((Ext.refl _).push' _).push' _).push' _))) ?_; rintro _ _ ⟨rfl, h9⟩; rw [h9, decide_eq_true rfl]; clear h9; go_simp)));refine hK2 _ _ ?_;clear hK2 K2))
  obtain ⟨G, hG⟩ : ∃ G, G = ((H4.push (.row [.slice va4 od.length vc4, .int .i64 er] 34)).push (.row [.int .i64 jl, .int .i64 jh] 27)).push (.row [.int .i64 jl, .int .i64 jh] 27) := ⟨_, rfl⟩
  have HXG : Hid (Ext H G) := Lib.hid (by rw [hG]; exact ((HX4.out.push' _).push' _).push' _)
  have hx4G : Ext H4 G := by rw [hG]; exact (((Ext.refl _).push' _).push' _).push' _
  have hqG : cellsAt G H.n 0 3 = some [.int .i64 t.days, .slice ca t.closed.length cc, .slice fa t.flaws.length fc] := (hx4G.cellsAt hn4b).trans hq4
  have hpG : cellsAt G (H.n + 1) 0 2 = some [.int .i64 lo, .int .i64 hi] := (hx4G.cellsAt hn4).trans hp4
  have hrG : cellAt G H4.n 1 = some (.int .i64 er) := by rw [hG]; go_simp
  have hjG : cellsAt G (H4.n + 1) 0 2 = some [.int .i64 jl, .int .i64 jh] := by rw [hG]; go_simp
  have hkG : cellsAt G (H4.n + 2) 0 2 = some [.int .i64 jl, .int .i64 jh] := by rw [hG]; go_simp
  rw [← hG]
  clear hx4G hG HOP HRO HFI HRF HCA HRC HJA HRJ HO4 HO5 HX4 hq4 hp4 hn4 hn4b HFEW
  refine ⟨genC (fun f H' => f.tmp 2 = .slice la ids.length lc ∧ f.tmp 4 = .pointer (some ⟨H.n, 0, none⟩) ∧ f.tmp 7 = .pointer (some ⟨H.n + 1, 0, none⟩) ∧ f.tmp 9 = .bool true ∧ f.tmp 11 = .int .i64 er ∧ f.tmp 12 = .pointer (some ⟨H4.n, 0, none⟩) ∧ f.tmp 13 = .int .i64 fx ∧ f.tmp 14 = .bool fb ∧ f.tmp 15 = .int .i64 fe ∧ f.tmp 16 = .int .i64 fx ∧ f.tmp 17 = .bool fb ∧ f.tmp 18 = .int .i64 fe ∧ f.tmp 19 = .bool cb ∧ f.tmp 20 = .int .i64 el ∧ f.tmp 21 = .bool cb ∧ f.tmp 22 = .int .i64 el ∧ f.tmp 23 = .pointer (some ⟨H4.n + 1, 0, none⟩) ∧ f.tmp 24 = .bool jb ∧ f.tmp 25 = .int .i64 el ∧ f.tmp 26 = .pointer (some ⟨H4.n + 2, 0, none⟩) ∧ f.tmp 27 = .bool jb ∧ f.tmp 28 = .int .i64 el ∧ f.tmp 29 = .bool true ∧ f.defers = [] ∧ H' = G) ⟨(by first|go_simp<;>go_num|assumption), (by first|go_simp<;>go_num|assumption), (by first|go_simp<;>go_num|assumption), (by first|go_simp<;>go_num|assumption), (by first|go_simp<;>go_num|assumption), (by first|go_simp<;>go_num|assumption), (by first|go_simp<;>go_num|assumption), (by first|go_simp<;>go_num|assumption), (by first|go_simp<;>go_num|assumption), (by first|go_simp<;>go_num|assumption), (by first|go_simp<;>go_num|assumption), (by first|go_simp<;>go_num|assumption), (by first|go_simp<;>go_num|assumption), (by first|go_simp<;>go_num|assumption), (by first|go_simp<;>go_num|assumption), (by first|go_simp<;>go_num|assumption), (by first|go_simp<;>go_num|assumption), (by first|go_simp<;>go_num|assumption), (by first|go_simp<;>go_num|assumption), (by first|go_simp<;>go_num|assumption), (by first|go_simp<;>go_num|assumption), (by first|go_simp<;>go_num|assumption), (by first|go_simp<;>go_num|assumption), (by first|go_simp<;>go_num|assumption), rfl⟩ ?_⟩
  clear f0 f1 f2 f3 hd f
  rintro f H' ⟨f2, f4, f7, f9, f11, f12, f13, f14, f15, f16, f17, f18, f19, f20, f21, f22, f23, f24, f25, f26, f27, f28, f29, hd, e9⟩
  have e9 := e9.symm
  subst e9
  repeat' (first|(with_reducible first|refine zA ?_|refine zB fun K hK=>?_|refine zC fun K2 hK2=>?_|refine zD ?_|refine zE ?_|refine zF ?_|refine zG ?_|refine zH ?_|refine zI ?_|refine zM ?_|refine zN ?_|refine zO ?_|refine zP ?_|refine zQ ?_|refine zR ?_)|((with_reducible refine zU (hK _ _ ?_));clear hK K)|((with_reducible refine zV ?_ ?_ fun K1 K3 d hdst h1 h3=>?_);rfl;exact yB rfl;cases hdst;go_simp)|((with_reducible refine zW fun K1 K3 h1 h3=>?_);go_simp)|((first|refine h1 ?_|refine h3 ?_);clear h1 h3 K1 K3)|((first|refine zX (fun hb=>h1 ?_) (fun hb=>h3 ?_)|refine zX (fun hb=>h3 ?_) (fun hb=>h1 ?_))<;>(clear h1 h3 K1 K3;(try have hb2:=yC hb);(try have hb2:=yD hb);(try have hb2:=yE hb);(try have hb2:=yF hb);(try have hb2:=yG hb)))|(refine fun (K2:_→AHeap→Prop) hK2=>?_)|((with_reducible refine zY ?_ ?_);decide)|((with_reducible first|refine zZ ?_ (fun K hK=>?_)|refine yA ?_ (fun K hK=>?_));(focus go_simp;done);go_simp;refine hK _ _ ?_;clear hK K)|((with_reducible refine yH mixed rfl ?_ 20 fun K0 hK0=>?_);kernel_rfl)|(with_reducible first|exact yI|exact yJ|refine yK ?_|refine yL ?_|refine yM ?_)|((with_reducible first|refine yN ?_ ?_|refine yO ?_ ?_|refine yP ?_ ?_);rfl)|((with_reducible refine yQ ?_ ?_);rfl;refine hK0 _ _ ?_;clear hK0 K0)|((with_reducible refine yR ?_ ?_ ?_ ?_);rfl;rfl;rfl)|((with_reducible refine yS ?_ ?_ ?_ fun K2 hK2=>?_);rfl;rfl;exact yB rfl)|((with_reducible refine yT ?_ ?_ ?_ ?_ fun K1 K3 d hdst h1 h3=>?_);rfl;rfl;rfl;exact yB rfl;cases hdst;go_simp)|((with_reducible refine yU ?_ ?_ ?_ ?_ fun K1 K3 d hdst h1 h3=>?_);rfl;rfl;rfl;exact yB rfl;cases hdst;go_simp)|((with_reducible refine yV ?_ ?_ (fun K2 hK2=>?_) ?_);rfl;exact yB rfl)|((with_reducible refine yW ?_ ?_ ?_ ?_ (fun K2 hK2=>?_) ?_);rfl;exact yB rfl;rfl;(focus go_simp;done))|((with_reducible refine yX ?_ ?_ ?_ (fun K2 hK2=>?_) ?_);rfl;rfl;exact yB rfl)|((with_reducible refine yY ?_ ?_ (fun K2 hK2=>?_) ?_);rfl;rfl)|((with_reducible refine yZ ?_ ?_);(first|rfl|(dsimp only;decide +kernel)))|((with_reducible refine xA ?_ ?_);(focus go_simp;done))|(go_simp;(try go_bits);(try first |((with_reducible show CallS _ _ _ _ _ _);first|(refine CallS.mono (HCE.out _ _ HXG.out) ?_; rintro _ _ ⟨rfl, rfl⟩)|(refine CallS.mono (HRE.out _ _ HXG.out) ?_; rintro _ _ ⟨rfl, rfl⟩)|(refine CallS.mono (HCJ.out _ _ HXG.out) ?_; rintro _ _ ⟨rfl, rfl⟩)|(refine CallS.mono (HRK.out _ _ HXG.out) ?_; rintro _ _ ⟨rfl, rfl⟩)));(first|(refine hK2 _ _ ?_ ?_<;>clear hK2 K2)|(refine hK2 _ _ ?_;clear hK2 K2))))
  rfl
end Go.Proofs.Tryz
namespace Go.Proofs.Tryz
open Go.ChangeShapes Go.WideShapes Go.ChangeAt Go.RowKit Go.Joins Go.Deep Go.Am
set_option maxRecDepth 100000


theorem fields27 : ∃ f0 f1 : Field, Tryz.prog.underlying 27 = some (.struct #[f0, f1]) ∧ (f0.type = 3 ∧ f1.type = 3) ∧ (f0.offset = 0 ∧ f1.offset = 1) ∧ Tryz.prog.cellsOf 3 = 1 ∧ Tryz.prog.cellsOf 27 = 2 :=
  ⟨(fieldOf Tryz.prog 27 0).getD default, (fieldOf Tryz.prog 27 1).getD default, by kernel_rfl, by refine ⟨?_, ?_⟩ <;> kernel_rfl, by refine ⟨?_, ?_⟩ <;> kernel_rfl, by kernel_rfl, by kernel_rfl⟩
theorem fields69 : ∃ f0 f1 f2 : Field, Tryz.prog.underlying 69 = some (.struct #[f0, f1, f2]) ∧ (f0.type = 3 ∧ f1.type = 27 ∧ f2.type = 3) ∧ (f0.offset = 0 ∧ f1.offset = 1 ∧ f2.offset = 3) ∧ Tryz.prog.cellsOf 3 = 1 ∧ Tryz.prog.cellsOf 27 = 2 ∧ Tryz.prog.cellsOf 69 = 4 :=
  ⟨(fieldOf Tryz.prog 69 0).getD default, (fieldOf Tryz.prog 69 1).getD default, (fieldOf Tryz.prog 69 2).getD default, by kernel_rfl, by refine ⟨?_, ?_, ?_⟩ <;> kernel_rfl, by refine ⟨?_, ?_, ?_⟩ <;> kernel_rfl, by kernel_rfl, by kernel_rfl, by kernel_rfl⟩

section
variable {H : Type} {enc : TypeId × Value → H} {w : World}
theorem span_cells {fuel : Nat} {a b : Value} {x : DataW H × List MemPlace} (h : DataW.trod enc Tryz.prog w 0 (fun _ => true) true fuel 27 [a, b] = some x) : ∃ lo hi : Int, a = .int .i64 lo ∧ b = .int .i64 hi := by
  obtain ⟨f0, f1, hu, ⟨t0, t1⟩, ⟨o0, o1⟩, h3, h6⟩ := fields27
  obtain ⟨xs, n, _, _, _, _, ht⟩ := DataW.trod_struct hu h
  have ht0 := ht 0 f0 rfl
  have ht1 := ht 1 f1 rfl
  rw [t0, o0, h3] at ht0
  rw [t1, o1, h3] at ht1
  have hlen : xs.length = 2 := by assumption
  rw [List.getElem?_eq_getElem (by omega)] at ht0 ht1
  obtain ⟨z0, hz0, _, _⟩ := DataW.trod_int Tryz.underlying3 (show DataW.trod enc Tryz.prog w 0 (fun _ => true) true n 3 [a] = _ from ht0)
  obtain ⟨z1, hz1, _, _⟩ := DataW.trod_int Tryz.underlying3 (show DataW.trod enc Tryz.prog w 0 (fun _ => true) true n 3 [b] = _ from ht1)
  injection hz0 with hz0 _
  injection hz1 with hz1 _
  exact ⟨z0, z1, hz0, hz1⟩
theorem flaw_cells {fuel : Nat} {cs : List Value} {x : DataW H × List MemPlace} (hc : cs.length = 4) (h : DataW.trod enc Tryz.prog w 0 (fun _ => true) true fuel 69 cs = some x) : ∃ q : Flaw, cs = q.cells := by
  obtain ⟨f0, f1, f2, hu, ⟨t0, t1, t2⟩, ⟨o0, o1, o2⟩, h3, h4, h6⟩ := fields69
  obtain ⟨xs, n, _, _, _, _, ht⟩ := DataW.trod_struct hu h
  obtain ⟨a, b, c, d, rfl⟩ : ∃ a b c d, cs = [a, b, c, d] := by
    match cs, hc with
    | [a, b, c, d], _ => exact ⟨a, b, c, d, rfl⟩
  have ht0 := ht 0 f0 rfl
  have ht1 := ht 1 f1 rfl
  have ht2 := ht 2 f2 rfl
  rw [t0, o0, h3] at ht0
  rw [t1, o1, h4] at ht1
  rw [t2, o2, h3] at ht2
  have hlen : xs.length = 3 := by assumption
  rw [List.getElem?_eq_getElem (by omega)] at ht0 ht1 ht2
  obtain ⟨z0, hz0, _, _⟩ := DataW.trod_int Tryz.underlying3 (show DataW.trod enc Tryz.prog w 0 (fun _ => true) true n 3 [a] = _ from ht0)
  obtain ⟨lo, hi, rfl, rfl⟩ := span_cells (show DataW.trod enc Tryz.prog w 0 (fun _ => true) true n 27 [b, c] = _ from ht1)
  obtain ⟨z2, hz2, _, _⟩ := DataW.trod_int Tryz.underlying3 (show DataW.trod enc Tryz.prog w 0 (fun _ => true) true n 3 [d] = _ from ht2)
  injection hz0 with hz0 _
  injection hz2 with hz2 _
  exact ⟨⟨z0, lo, hi, z2⟩, by rw [hz0, hz2]; rfl⟩
end
theorem add_at (b o j : Nat) : (⟨b, o, none⟩ : Addr).add j = ⟨b, o + j, none⟩ := by
  unfold Addr.add
  split
  · rename_i h; subst h; rfl
  · rfl
theorem cell_lt {w : World} {p : Addr} {v : Value} (h : w.cell? p = some v) : p.block < w.heap.size := by
  rcases Nat.lt_or_ge p.block w.heap.size with hlt | hge
  · exact hlt
  · unfold World.cell? at h
    rw [Array.getElem?_eq_none hge] at h
    cases h
theorem cell_spot {w : World} {p : Addr} {v : Value} (h : w.cell? p = some v) : p.spot = none := by
  unfold World.cell? at h
  split at h
  · split at h
    · cases h
    · rename_i h0; simpa using h0
  · cases h


theorem slice_abs {w : World} {a : Addr} {len cap size d : Nat} {us : List Value} (hl : len ≤ cap) (hc : len ≤ 9223372036854775807) (hus : us.length = len * size) (hsz : 0 < size) (hplain : ∀ (j : Nat) (u : Value), us[j]? = some u → absV w.heap.size 8 u = u) (hcell : ∀ (j : Nat) (u : Value), us[j]? = some u → w.cell? (a.add j) = some u) : Cells (absH w) (absV w.heap.size (d + 1) (.slice (some a) len cap)) size len us ∧ CutOk (absH w) (absV w.heap.size (d + 1) (.slice (some a) len cap)) := by
  by_cases h0 : len = 0
  · subst h0
    simp only [absV]
    split
    · exact ⟨⟨hus, hc, _, _, rfl, by simp, by omega⟩, fun b o sp n c e h => by cases e; omega⟩
    · rw [if_pos trivial]; exact ⟨⟨hus, hc, _, _, rfl, by simp, by omega⟩, fun b o sp n c e h => by cases e; omega⟩
  · have hpos : 0 < us.length := by rw [hus]; exact Nat.mul_pos (by omega) hsz
    have h1 := hcell 0 _ (List.getElem?_eq_getElem hpos)
    have e0 : a.add 0 = a := by unfold Addr.add; rw [if_pos rfl]
    rw [e0] at h1
    have hsp := cell_spot h1
    have hlt := cell_lt h1
    obtain ⟨b, o, sp⟩ := a
    simp only at hsp hlt
    subst hsp
    simp only [absV]
    rw [if_pos ⟨trivial, hlt, hl⟩]
    refine ⟨⟨hus, hc, _, _, rfl, by simp, fun _ => ⟨b, o, none, rfl, by rw [absH_n]; exact hlt, fun j u hu => ?_⟩⟩, fun b' o' sp' n' c' e h => ?_⟩
    · have h2 := hcell j u hu
      rw [add_at] at h2
      rw [abs_cell h2, hplain j u hu]
    · cases e
      refine ⟨rfl, hl, ?_⟩
      unfold World.cell? at h1
      split at h1
      · rename_i c e fz hc
        have hg : (absH w).get b = .ext (c.toList.map (absV w.heap.size 8)) 0 := by
          rw [absH_get w hlt, absO]; simp only at hc; rw [hc]
        simp [elemIsR, hg]
      · cases h1

section
variable {H : Type} {enc : TypeId × Value → H} {w : World}
theorem none_abs {w : World} {d size : Nat} : Cells (absH w) (absV w.heap.size (d + 1) (.slice none 0 0)) size 0 [] ∧ CutOk (absH w) (absV w.heap.size (d + 1) (.slice none 0 0)) :=
  ⟨⟨by simp, by omega, none, 0, rfl, fun _ => rfl, by simp⟩, fun b o sp n c e h => by cases e⟩
theorem ints_abs {fuel d : Nat} {v : Value} {x : DataW H × List MemPlace} (h : DataW.trod enc Tryz.prog w 0 (fun _ => true) true fuel 22 [v] = some x) : ∃ xs, Ints (absH w) (absV w.heap.size (d + 1) v) xs ∧ CutOk (absH w) (absV w.heap.size (d + 1) v) := by
  rcases open_ints Tryz.underlying22 Tryz.underlying3 (by kernel_rfl) h with ⟨hcs, _⟩ | ⟨a, l, c, zs, hcs, _, hl, hm, hz, _, hcell, _⟩
  · injection hcs with hcs _
    subst hcs
    exact ⟨[], none_abs⟩
  · injection hcs with hcs _
    subst hcs
    simp only [if_true] at hz
    have hlen : (zs.take l).length = l := by rw [List.length_take]; omega
    refine ⟨zs.take l, ?_⟩
    unfold Ints
    rw [hlen]
    refine slice_abs hl (by unfold maxLen at hm; omega) (by rw [List.length_map, hlen]; omega) (by decide) (fun j u hu => ?_) (fun j u hu => ?_)
    · rw [List.getElem?_map] at hu
      obtain ⟨z, _, rfl⟩ := Option.map_eq_some_iff.1 hu
      rfl
    · rw [List.getElem?_map] at hu
      obtain ⟨z, hz1, rfl⟩ := Option.map_eq_some_iff.1 hu
      rw [List.getElem?_take] at hz1
      split at hz1
      · have hj : j < zs.length := (List.getElem?_eq_some_iff.1 hz1).1
        rw [hcell j hj, List.getD_eq_getElem?_getD, hz1]
        rfl
      · cases hz1

theorem flaws_abs {fuel d : Nat} {v : Value} {x : DataW H × List MemPlace} (h : DataW.trod enc Tryz.prog w 0 (fun _ => true) true fuel 23 [v] = some x) : ∃ l, Flaws (absH w) (absV w.heap.size (d + 1) v) l := by
  rcases open_slice Tryz.underlying23 h with ⟨hcs, _⟩ | ⟨a, len, cap, m, n, D, Pl, hcs, _, hl, hm, hmm, _, hi⟩
  · injection hcs with hcs _
    subst hcs
    exact ⟨[], none_abs.1⟩
  · injection hcs with hcs _
    subst hcs
    simp only [if_true] at hmm
    obtain ⟨_, _, _, _, _, _, _, _, hC⟩ := fields69
    have hq : ∀ i, i < len → ∃ q : Flaw, ∀ j u, q.cells[j]? = some u → w.cell? (a.add (i * 4 + j)) = some u := by
      intro i h
      obtain ⟨cs', hc, ht'⟩ := hi i (by omega)
      rw [hC] at hc
      obtain ⟨_, hcl, hat⟩ := World.cells?_some hc
      obtain ⟨q, rfl⟩ := flaw_cells hcl ht'
      refine ⟨q, fun j u hu => ?_⟩
      have hj : j < 4 := (List.getElem?_eq_some_iff.1 hu).1
      rw [← Go.Deep.add_add, hat j hj]; exact hu
    obtain ⟨f, hf'⟩ := Classical.skolem.1 (fun i => show ∃ q : Flaw, i < len → ∀ j u, q.cells[j]? = some u → w.cell? (a.add (i * 4 + j)) = some u by
      by_cases hi : i < len
      · obtain ⟨q, hq⟩ := hq i hi; exact ⟨q, fun _ => hq⟩
      · exact ⟨⟨0, 0, 0, 0⟩, fun h => absurd h hi⟩)
    have hlen : ((List.range len).map f).length = len := by simp
    refine ⟨(List.range len).map f, ?_⟩
    unfold Flaws
    rw [hlen]
    have hget : ∀ j u, (flawCells ((List.range len).map f))[j]? = some u → ∃ k i, k < len ∧ j = k * 4 + i ∧ (f k).cells[i]? = some u := by
      intro j u hu
      have hj : j < len * 4 := by
        have := (List.getElem?_eq_some_iff.1 hu).1
        rw [flawCells_length, hlen] at this; exact this
      have hk : j / 4 < len := by omega
      have hi : j % 4 < 4 := Nat.mod_lt _ (by decide)
      have hcl : (f (j / 4)).cells.length = 4 := rfl
      have h1 := flawCells_get ((List.range len).map f) (j / 4) (by rw [hlen]; exact hk) (j % 4) ((f (j / 4)).cells[j % 4]'(by rw [hcl]; exact hi)) (by simp)
      have e : j / 4 * 4 + j % 4 = j := by omega
      rw [e, hu] at h1
      refine ⟨j / 4, j % 4, hk, e.symm, ?_⟩
      rw [List.getElem?_eq_getElem (by rw [hcl]; exact hi)]
      exact h1.symm ▸ rfl
    refine (slice_abs hl (by unfold maxLen at hm; omega) (by rw [flawCells_length, hlen]) (by decide) (fun j u hu => ?_) (fun j u hu => ?_)).1
    · obtain ⟨k, i, hk, rfl, hi⟩ := hget j u hu
      match i, hi with
      | 0, hi => cases hi; rfl
      | 1, hi => cases hi; rfl
      | 2, hi => cases hi; rfl
      | 3, hi => cases hi; rfl
      | i + 4, hi => simp [Flaw.cells] at hi
    · obtain ⟨k, i, hk, rfl, hi⟩ := hget j u hu
      exact hf' k hk i u hi
end

theorem ownOne : ownKnob Tryz.prog.godebug = none := by kernel_rfl
theorem laidOut : laidOutB Tryz.prog = true := by kernel_rfl

theorem fields25 : ∃ f0 f1 f2 : Field, Tryz.prog.underlying 25 = some (.struct #[f0, f1, f2]) ∧ (f0.type = 3 ∧ f1.type = 22 ∧ f2.type = 23) ∧ (f0.offset = 0 ∧ f1.offset = 1 ∧ f2.offset = 2) ∧ Tryz.prog.cellsOf 3 = 1 ∧ Tryz.prog.cellsOf 22 = 1 ∧ Tryz.prog.cellsOf 23 = 1 ∧ Tryz.prog.cellsOf 25 = 3 :=
  ⟨(fieldOf Tryz.prog 25 0).getD default, (fieldOf Tryz.prog 25 1).getD default, (fieldOf Tryz.prog 25 2).getD default, by kernel_rfl, by refine ⟨?_, ?_, ?_⟩ <;> kernel_rfl, by refine ⟨?_, ?_, ?_⟩ <;> kernel_rfl, by kernel_rfl, by kernel_rfl, by kernel_rfl, by kernel_rfl⟩
section
variable {H : Type} {enc : TypeId × Value → H} {w : World}
theorem tour_abs {r : Reach} {b0 : Nat} {v : Value} {d : DataW H} {p : List MemPlace} (hval : Value.okWide Tryz.prog w r b0 25 v) (h : DataW.Trod enc Tryz.prog w 0 (fun _ => true) true 25 v d p) : ∃ t, TourV (absH w) (absV w.heap.size 8 v) t := by
  obtain ⟨f0, f1, f2, hu, ⟨t0, t1, t2⟩, ⟨o0, o1, o2⟩, h3, h4, h5, h6⟩ := fields25
  obtain ⟨cs, rfl, hcs⟩ := okWide_struct hu hval
  obtain ⟨fuel, hf⟩ := h
  obtain ⟨xs, n, _, _, _, _, ht⟩ := DataW.trod_struct hu hf
  rw [h6] at hcs
  obtain ⟨a, b, c, rfl⟩ : ∃ a b c, cs = #[a, b, c] := by
    obtain ⟨l⟩ := cs
    match l, hcs with
    | [a, b, c], _ => exact ⟨a, b, c, rfl⟩
  have ht0 := ht 0 f0 rfl
  have ht1 := ht 1 f1 rfl
  have ht2 := ht 2 f2 rfl
  rw [t0, o0, h3] at ht0
  rw [t1, o1, h4] at ht1
  rw [t2, o2, h5] at ht2
  have hlen : xs.length = 3 := by assumption
  rw [List.getElem?_eq_getElem (by omega)] at ht0 ht1 ht2
  obtain ⟨z, hz, _, _⟩ := DataW.trod_int Tryz.underlying3 (show DataW.trod enc Tryz.prog w 0 (fun _ => true) true n 3 [a] = _ by simpa [Value.cells] using ht0)
  obtain ⟨ws, hw, _⟩ := ints_abs (d := 6) (v := b) (by simpa [Value.cells] using ht1)
  obtain ⟨l, hl⟩ := flaws_abs (d := 6) (v := c) (by simpa [Value.cells] using ht2)
  injection hz with hz _
  subst hz
  exact ⟨⟨z, ws, l⟩, _, _, by simp [absV], hw, hl⟩
theorem span_abs {r : Reach} {b0 : Nat} {v : Value} {d : DataW H} {p : List MemPlace} (hval : Value.okWide Tryz.prog w r b0 27 v) (h : DataW.Trod enc Tryz.prog w 0 (fun _ => true) true 27 v d p) : ∃ lo hi : Int, v = .agg #[.int .i64 lo, .int .i64 hi] := by
  obtain ⟨f0, f1, hu, _, _, _, h6⟩ := fields27
  obtain ⟨cs, rfl, hcs⟩ := okWide_struct hu hval
  obtain ⟨fuel, hf⟩ := h
  rw [h6] at hcs
  obtain ⟨a, b, rfl⟩ : ∃ a b, cs = #[a, b] := by
    obtain ⟨l⟩ := cs
    match l, hcs with
    | [a, b], _ => exact ⟨a, b, rfl⟩
  obtain ⟨lo, hi, rfl, rfl⟩ := span_cells (show DataW.trod enc Tryz.prog w 0 (fun _ => true) true fuel 27 [a, b] = _ by simpa [Value.cells] using hf)
  exact ⟨lo, hi, rfl⟩
theorem list_abs {r : Reach} {b0 : Nat} {v : Value} {d : DataW H} {p : List MemPlace} (hval : Value.okWide Tryz.prog w r b0 22 v) (h : DataW.Trod enc Tryz.prog w 0 (fun _ => true) true 22 v d p) : ∃ xs, Ints (absH w) (absV w.heap.size 8 v) xs ∧ CutOk (absH w) (absV w.heap.size 8 v) := by
  obtain ⟨a, len, cap, rfl⟩ := okWide_slice Tryz.underlying22 hval
  obtain ⟨fuel, hf⟩ := h
  exact ints_abs (d := 7) hf
end
end Go.Proofs.Tryz
