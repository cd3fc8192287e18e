/- Contracts of functions, walked. -/
import Derived.Lib.Hide
import Derived.Test.YtgddlpegljkgpaaStP1
set_option linter.all false
namespace Go.Proofs.Try
open Go Go.Am Go.RowKit
set_option maxRecDepth 100000

/-! Comparing what a line has; building it. -/

theorem pureOf_pure {α : Type} (x : α) : pureOf Try.prog (pure x : Sem α) = some x := rfl
theorem pEq3 (d : Nat) (a b : Int) : pureOf Try.prog (Op.equalIn (d + 1) 3 (.int .i64 a) (.int .i64 b)) = some (a == b) := by kernel_rfl
theorem pEq4 (d : Nat) (a b : Bool) : pureOf Try.prog (Op.equalIn (d + 1) 4 (.bool a) (.bool b)) = some (a == b) := by kernel_rfl
theorem part3_0 (a b : Value) : pureOf Try.prog (part 3 #[a, b] 0) = some a := by kernel_rfl
theorem part3_1 (a b : Value) : pureOf Try.prog (part 3 #[a, b] 1) = some b := by kernel_rfl
theorem part147_0 (a b c : Value) : pureOf Try.prog (part 145 #[a, b, c] 0) = some (.agg #[a, b]) := by kernel_rfl
theorem part147_1 (a b c : Value) : pureOf Try.prog (part 4 #[a, b, c] 2) = some c := by kernel_rfl
theorem pEq145 (d : Nat) (a b a' b' : Int) : pureOf Try.prog (Op.equalIn (d + 2) 145 (.agg #[.int .i64 a, .int .i64 b]) (.agg #[.int .i64 a', .int .i64 b'])) = some (a == a' && b == b') := by
  rw [Op.equalIn]
  rw [pureOf_bind, show pureOf Try.prog (underlying 145) = some (.array 2 3) by kernel_rfl]
  dsimp only [Option.bind]
  rw [pureOf_bind, show pureOf Try.prog (sizeOf 3) = some 1 by kernel_rfl]
  dsimp only [Option.bind]
  simp only [Std.Legacy.Range.forIn_eq_forIn_range', Std.Legacy.Range.size, List.range'_succ, List.range'_zero, List.forIn_cons, List.forIn_nil]
  simp only [pureOf_bind, Nat.zero_mul, Nat.zero_add, Nat.one_mul, part3_0, pEq3, Option.bind_some]
  cases (a == a')
  · rfl
  · simp only [Bool.not_true, Bool.false_eq_true, if_false, pureOf_pure, Option.bind_some, pureOf_bind, part3_1, pEq3]
    cases (b == b') <;> rfl

theorem un147 : ∃ f0 f1 : Field, pureOf Try.prog (underlying 147) = some (.struct #[f0, f1]) ∧ (f0.name != "_") = true ∧ (f1.name != "_") = true ∧ f0.type = 145 ∧ f1.type = 4 ∧ f0.offset = 0 ∧ f1.offset = 2 :=
  ⟨(fieldOf Try.prog 147 0).getD default, (fieldOf Try.prog 147 1).getD default, by kernel_rfl, by kernel_rfl, by kernel_rfl, by kernel_rfl, by kernel_rfl, by kernel_rfl, by kernel_rfl⟩
theorem pEq147 (d : Nat) (a b a' b' : Int) (l l' : Bool) : pureOf Try.prog (Op.equalIn (d + 3) 147 (.agg #[.int .i64 a, .int .i64 b, .bool l]) (.agg #[.int .i64 a', .int .i64 b', .bool l'])) = some (a == a' && b == b' && l == l') := by
  obtain ⟨f0, f1, hfs, h1, h2, h3, h4, h5, h6⟩ := un147
  rw [Op.equalIn]
  rw [pureOf_bind, hfs]
  dsimp only [Option.bind]
  rw [pureOf_bind, show pureOf Try.prog program = some Try.prog from rfl]
  dsimp only [Option.bind]
  rw [show Try.prog.stoodInHeld 147 = false by kernel_rfl, if_neg (by simp)]
  simp only [List.forIn_toArray, List.forIn_cons, List.forIn_nil]
  rw [if_pos (bne_iff_ne.1 h1)]
  simp only [if_pos (bne_iff_ne.1 h2), h3, h4, h5, h6, pureOf_bind, part147_0, pEq145, Option.bind_some]
  cases (a == a' && b == b')
  · rfl
  · simp only [Bool.not_true, Bool.false_eq_true, if_false, pureOf_pure, Option.bind_some, pureOf_bind, part147_1, pEq4]
    cases (l == l') <;> rfl

theorem eqF147 (x y : Operand) (c d : Has) : pureOf Try.prog (do eqGuard .eql 147 x y c.val d.val; binOp .eql 147 c.val d.val) = some (.bool (decide (c = d))) := by
  obtain ⟨a, b, l⟩ := c
  obtain ⟨a', b', l'⟩ := d
  rw [pureOf_bind, show pureOf Try.prog (eqGuard .eql 147 x y (Has.val ⟨a, b, l⟩) (Has.val ⟨a', b', l'⟩)) = some () by kernel_rfl]
  dsimp only [Option.bind]
  rw [show binOp .eql 147 (Has.val ⟨a, b, l⟩) (Has.val ⟨a', b', l'⟩) = (do pure (.bool (← Op.equal 147 (Has.val ⟨a, b, l⟩) (Has.val ⟨a', b', l'⟩)))) from rfl]
  rw [pureOf_bind, show Op.equal 147 (Has.val ⟨a, b, l⟩) (Has.val ⟨a', b', l'⟩) = Op.equalIn (9997 + 3) 147 (Has.val ⟨a, b, l⟩) (Has.val ⟨a', b', l'⟩) from rfl, Has.val, Has.val, pEq147]
  simp only [Option.bind_some, pureOf_pure, Option.some.injEq, Value.bool.injEq, Has.mk.injEq]
  rw [Bool.eq_iff_iff]
  simp [and_assoc]
theorem eqF145 (x y : Operand) (a b a' b' : Int) : pureOf Try.prog (do eqGuard .eql 145 x y (.agg #[.int .i64 a, .int .i64 b]) (.agg #[.int .i64 a', .int .i64 b']); binOp .eql 145 (.agg #[.int .i64 a, .int .i64 b]) (.agg #[.int .i64 a', .int .i64 b'])) = some (.bool (a == a' && b == b')) := by
  rw [pureOf_bind, show pureOf Try.prog (eqGuard .eql 145 x y (.agg #[.int .i64 a, .int .i64 b]) (.agg #[.int .i64 a', .int .i64 b'])) = some () by kernel_rfl]
  dsimp only [Option.bind]
  rw [show binOp .eql 145 (.agg #[.int .i64 a, .int .i64 b]) (.agg #[.int .i64 a', .int .i64 b']) = (do pure (.bool (← Op.equal 145 (.agg #[.int .i64 a, .int .i64 b]) (.agg #[.int .i64 a', .int .i64 b'])))) from rfl]
  rw [pureOf_bind, show Op.equal 145 (.agg #[.int .i64 a, .int .i64 b]) (.agg #[.int .i64 a', .int .i64 b']) = Op.equalIn (9998 + 2) 145 (.agg #[.int .i64 a, .int .i64 b]) (.agg #[.int .i64 a', .int .i64 b']) from rfl, pEq145]
  rfl

section
variable {H : AHeap} {kp : Value → AHeap → Option Prop} {ev : Operand → Value} {dst : Option Tmp} {ty t' : TypeId} {src : String} {af : Array Edge} {g : Option (Nat × Bool)} {x y : Operand} {β : Type} {kk : K β} {other : Unit → Option β}
theorem eq147_k {c d : Has} (hx : ev x = c.val) (hy : ev y = d.val) (h : Holds (kp (.bool (decide (c = d))) H)) : Holds (aPlain Try.prog ⟨dst, .binOp .eql 147 x y t', ty, src, af, g⟩ ev H kp) := by
  have hr : pureOf Try.prog (execOp ev ⟨dst, .binOp .eql 147 x y t', ty, src, af, g⟩) = some (.value (.bool (decide (c = d)))) := by
    have h0 : execOp ev ⟨dst, .binOp .eql 147 x y t', ty, src, af, g⟩ = (do pure (.value (← (do eqGuard .eql 147 x y (ev x) (ev y); binOp .eql 147 (ev x) (ev y))))) := rfl
    rw [h0, hx, hy, pureOf_bind, eqF147]; rfl
  rw [plain_of rfl, hr]
  have ho : (Op.binOp .eql 147 x y t').operands.toList.all (fun x => plainV 6 (ev x)) = true := by
    show (#[x, y].toList.all fun x => plainV 6 (ev x)) = _
    simp [hx, hy]; exact ⟨rfl, rfl⟩
  rw [if_pos ho]; exact h
theorem eq145_k {a b a' b' : Int} (hx : ev x = .agg #[.int .i64 a, .int .i64 b]) (hy : ev y = .agg #[.int .i64 a', .int .i64 b']) (h : Holds (kp (.bool (a == a' && b == b')) H)) : Holds (aPlain Try.prog ⟨dst, .binOp .eql 145 x y t', ty, src, af, g⟩ ev H kp) := by
  have hr : pureOf Try.prog (execOp ev ⟨dst, .binOp .eql 145 x y t', ty, src, af, g⟩) = some (.value (.bool (a == a' && b == b'))) := by
    have h0 : execOp ev ⟨dst, .binOp .eql 145 x y t', ty, src, af, g⟩ = (do pure (.value (← (do eqGuard .eql 145 x y (ev x) (ev y); binOp .eql 145 (ev x) (ev y))))) := rfl
    rw [h0, hx, hy, pureOf_bind, eqF145]; rfl
  rw [plain_of rfl, hr]
  have ho : (Op.binOp .eql 145 x y t').operands.toList.all (fun x => plainV 6 (ev x)) = true := by
    show (#[x, y].toList.all fun x => plainV 6 (ev x)) = _
    simp [hx, hy]; exact ⟨rfl, rfl⟩
  rw [if_pos ho]; exact h

/-- An index into an array. -/
theorem ix145_k {a b i : Int} (hx : ev x = .agg #[.int .i64 a, .int .i64 b]) (hy : ev y = .int .i64 i) (hi : i = 0 ∨ i = 1) (h : Holds (kp (.int .i64 (if i = 0 then a else b)) H)) : Holds (aPlain Try.prog ⟨dst, .index 145 x y, ty, src, af, g⟩ ev H kp) := by
  have hr : pureOf Try.prog (execOp ev ⟨dst, .index 145 x y, ty, src, af, g⟩) = some (.value (.int .i64 (if i = 0 then a else b))) := by
    have h0 : execOp ev ⟨dst, .index 145 x y, ty, src, af, g⟩ = (do pure (.value (← Instr.index 145 (ev x) (ev y)))) := rfl
    rw [h0, hx, hy, pureOf_bind]
    rcases hi with rfl | rfl
    · rw [show pureOf Try.prog (Instr.index 145 (.agg #[.int .i64 a, .int .i64 b]) (.int .i64 0)) = some (.int .i64 a) by kernel_rfl]; rfl
    · rw [show pureOf Try.prog (Instr.index 145 (.agg #[.int .i64 a, .int .i64 b]) (.int .i64 1)) = some (.int .i64 b) by kernel_rfl]; rfl
  rw [plain_of rfl, hr]
  have ho : (Op.index 145 x y).operands.toList.all (fun x => plainV 6 (ev x)) = true := by
    show (#[x, y].toList.all fun x => plainV 6 (ev x)) = _
    simp [hx, hy]; exact ⟨rfl, rfl⟩
  rw [if_pos ho]; exact h

theorem neqF4 (x y : Operand) (a b : Bool) : pureOf Try.prog (do eqGuard .neq 4 x y (.bool a) (.bool b); binOp .neq 4 (.bool a) (.bool b)) = some (.bool (a != b)) := by
  rw [pureOf_bind, show pureOf Try.prog (eqGuard .neq 4 x y (.bool a) (.bool b)) = some () by kernel_rfl]
  dsimp only [Option.bind]
  rw [show binOp .neq 4 (.bool a) (.bool b) = (do pure (.bool (!(← Op.equal 4 (.bool a) (.bool b))))) from rfl]
  rw [pureOf_bind, show Op.equal 4 (.bool a) (.bool b) = Op.equalIn (9999 + 1) 4 (.bool a) (.bool b) from rfl, pEq4]
  rfl
theorem neqB_k {a b : Bool} (hx : ev x = .bool a) (hy : ev y = .bool b) (h : Holds (kp (.bool (a != b)) H)) : Holds (aPlain Try.prog ⟨dst, .binOp .neq 4 x y t', ty, src, af, g⟩ ev H kp) := by
  have hr : pureOf Try.prog (execOp ev ⟨dst, .binOp .neq 4 x y t', ty, src, af, g⟩) = some (.value (.bool (a != b))) := by
    have h0 : execOp ev ⟨dst, .binOp .neq 4 x y t', ty, src, af, g⟩ = (do pure (.value (← (do eqGuard .neq 4 x y (ev x) (ev y); binOp .neq 4 (ev x) (ev y))))) := rfl
    rw [h0, hx, hy, pureOf_bind, neqF4]; rfl
  rw [plain_of rfl, hr]
  have ho : (Op.binOp .neq 4 x y t').operands.toList.all (fun x => plainV 6 (ev x)) = true := by
    show (#[x, y].toList.all fun x => plainV 6 (ev x)) = _
    simp [hx, hy]; exact ⟨rfl, rfl⟩
  rw [if_pos ho]; exact h
@[go_sem] theorem aBin_boolN {t : TypeId} {a b : Bool} : aBin Try.prog .neq t (.bool a) (.bool b) H kk other = other () := by
  have h : nilEq Try.prog t (.bool a) (.bool b) = none := by
    unfold nilEq
    split <;> simp_all
  simp only [aBin, aEq, h]
@[go_sem] theorem aBin_agg {t : TypeId} {a b : Array Value} : aBin Try.prog .eql t (.agg a) (.agg b) H kk other = other () := by
  have h : nilEq Try.prog t (.agg a) (.agg b) = none := by
    unfold nilEq
    split <;> simp_all
  simp only [aBin, aEq, h]

theorem st147 : structOk Try.prog 147 = true := by kernel_rfl
theorem st149 : structOk Try.prog 149 = true := by kernel_rfl
theorem st87 : structOk Try.prog 87 = true := by kernel_rfl
@[go_sem] theorem bu147 {parts : List (Nat × Value)} : aBuild Try.prog 147 parts H kk = match fillB Try.prog 147 [.int .i64 0, .int .i64 0, .bool false] parts with
    | some l => if l.all oneV = true then kk (.agg l.toArray) H else none
    | none => none := aBuild_struct st147 ze147
@[go_sem] theorem bu149 {parts : List (Nat × Value)} : aBuild Try.prog 149 parts H kk = match fillB Try.prog 149 [.int .i64 0, .int .i64 0, .int .i64 0, .int .i64 0, .bool false] parts with
    | some l => if l.all oneV = true then kk (.agg l.toArray) H else none
    | none => none := aBuild_struct st149 ze149
@[go_sem] theorem bu87 {parts : List (Nat × Value)} : aBuild Try.prog 87 parts H kk = match fillB Try.prog 87 [.int .i64 0, .int .i64 0] parts with
    | some l => if l.all oneV = true then kk (.agg l.toArray) H else none
    | none => none := aBuild_struct st87 ze87
@[go_sem] theorem bu145 {parts : List (Nat × Value)} : aBuild Try.prog 145 parts H kk = match partsCells Try.prog 1 [.int .i64 0, .int .i64 0] parts with
    | some l => if l.all oneV = true then kk (.agg l.toArray) H else none
    | none => none := aBuild_array ar145 sz3 ze145
end
end Go.Proofs.Try
