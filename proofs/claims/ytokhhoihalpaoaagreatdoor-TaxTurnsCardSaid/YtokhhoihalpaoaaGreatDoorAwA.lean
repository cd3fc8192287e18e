/- Steps of a walk: operations, loops over functions, calls, appends, maps. -/
import Derived.WalkKit
import Derived.Test.YtokhhoihalpaoaaGreatDoorAmD
set_option linter.all false
namespace Go.Am
open Go.RowKit

section
variable {P : Program} {H : AHeap} {cx : Cx} {f : AF} {Q : Post} {ops : Array Oper} {k : AF → AHeap → Prop} {o : Oper} {rest : List Oper} {y : Code} {id id' : Nat} {I : Nat → AF → AHeap → Prop} {m : Nat}


theorem Post.then_normal (h : CodeS P cx y f H Q) : thenP P cx y Q .normal f H := h
theorem Post.then_ret (h : Q .ret f H) : thenP P cx y Q .ret f H := h
theorem Post.then_exit (h : Q (.exit id) f H) : thenP P cx y Q (.exit id) f H := h
theorem Post.block_normal (h : Q .normal f H) : blockP id Q .normal f H := h
theorem Post.block_ret (h : Q .ret f H) : blockP id Q .ret f H := h
theorem Post.block_here (h : Q .normal f H) : blockP id Q (.exit id) f H := by simp only [blockP, if_true]; exact h
theorem Post.block_off (hne : id' ≠ id) (h : Q (.exit id') f H) : blockP id Q (.exit id') f H := by simp only [blockP, if_neg hne]; exact h
theorem Post.round_normal (h : ∃ m', m' < m ∧ I m' f H) : roundP I m Q .normal f H := h
theorem Post.round_ret (h : Q .ret f H) : roundP I m Q .ret f H := h
theorem Post.round_exit (h : Q (.exit id) f H) : roundP I m Q (.exit id) f H := h
theorem CodeS.region_k {l : List Oper} (h : ∀ K : AF → AHeap → Prop, (∀ f H, Q .normal f H → K f H) → opsP P cx l.toArray l f H K) : CodeS P cx (.region id l.toArray false) f H Q :=
  CodeS.region_lit (h (fun f H => Q .normal f H) fun _ _ h => h)

theorem opsP_nil (h : k f H) : opsP P cx ops [] f H k := h

theorem opsP_step (hw : wantedA ops f o = some true) (h : ∀ K : AF → AHeap → Prop, (∀ f H, opsP P cx ops rest f H k → K f H) → opP P cx o f H K) : opsP P cx ops (o :: rest) f H k := by
  unfold opsP
  rw [hw]
  exact h _ fun _ _ h => h

theorem opsP_skip {d : Tmp} (hw : wantedA ops f o = some false) (hd : o.dst = some d) (hlt : d < cx.sz) (h : opsP P cx ops rest (f.upd d undef) H k) : opsP P cx ops (o :: rest) f H k := by
  unfold opsP
  rw [hw]
  simp only [hd, putP]
  exact ⟨hlt, h⟩

theorem opsP_guard {d d' : Tmp} {j : Nat} {want b : Bool} {g : Oper} (hg : o.guard = some (j, want)) (hj : ops.toList[j]? = some g) (hgd : g.dst = some d) (hb : f.tmp d = .bool b) (hd : o.dst = some d') (hlt : d' < cx.sz)
    (h1 : b = want → ∀ K : AF → AHeap → Prop, (∀ f H, opsP P cx ops rest f H k → K f H) → opP P cx o f H K) (h2 : b = !want → opsP P cx ops rest (f.upd d' undef) H k) : opsP P cx ops (o :: rest) f H k := by
  have hw : wantedA ops f o = some (b == want) := by simp only [wantedA, hg, hj, hgd, hb]
  by_cases hbw : b = want
  · exact opsP_step (by rw [hw, hbw]; simp) (h1 hbw)
  · refine opsP_skip (by rw [hw]; simp [hbw]) hd hlt (h2 ?_)
    cases b <;> cases want <;> simp_all


@[go_sem] theorem AF.eval_tmp {t : Tmp} : f.eval (.tmp t) = f.tmp t := rfl
@[go_sem] theorem AF.eval_int {q : IntKind} {n : Int} : f.eval (.const (.int q n)) = .int q n := rfl
@[go_sem] theorem AF.eval_bool {b : Bool} : f.eval (.const (.bool b)) = .bool b := rfl
@[go_sem] theorem AF.eval_string {s : ByteArray} : f.eval (.const (.string s)) = .string s := rfl
@[go_sem] theorem AF.eval_func {g : FuncId} : f.eval (.func g) = .func (.func g) #[] #[] := rfl
@[go_sem] theorem AF.eval_snil : f.eval (.const (.slice none 0 0)) = .slice none 0 0 := rfl
@[go_sem] theorem AF.eval_pnil : f.eval (.const (.pointer none)) = .pointer none := rfl
@[go_sem] theorem AF.eval_mnil : f.eval (.const (.map none)) = .map none := rfl
@[go_sem] theorem AF.eval_inil : f.eval (.const .nilIface) = .nilIface := rfl
@[go_sem] theorem AF.eval_fnil : f.eval (.const .nilFunc) = .nilFunc := rfl
attribute [go_sem] AF.tmp_upd AF.defers_upd


section
variable {dst : Option Tmp} {ty : TypeId} {src : String} {af : Array Edge} {g : Option (Nat × Bool)}
@[go_sem] theorem putP_some {sz : Nat} {d : Tmp} {v : Value} {k : AF → Prop} : putP sz f (some d) v k = (d < sz ∧ k (f.upd d v)) := rfl
@[go_sem] theorem putP_none {sz : Nat} {v : Value} {k : AF → Prop} : putP sz f none v k = k f := rfl
attribute [go_sem] holds_some holds_none

@[go_sem] theorem opP_move {x : Operand} : opP P cx ⟨dst, .move x, ty, src, af, g⟩ f H k = putP cx.sz f dst (f.eval x) fun f' => k f' H := rfl
@[go_sem] theorem opP_assign {x : Operand} : opP P cx ⟨dst, .assign x, ty, src, af, g⟩ f H k = putP cx.sz f dst (f.eval x) fun f' => k f' H := rfl
@[go_sem] theorem opP_bin {op : BinOp} {t t' : TypeId} {x y : Operand} : opP P cx ⟨dst, .binOp op t x y t', ty, src, af, g⟩ f H k =
    Holds (aBin P op t (f.eval x) (f.eval y) H (fun v H' => some (putP cx.sz f dst v fun f' => k f' H')) fun _ => aPlain P ⟨dst, .binOp op t x y t', ty, src, af, g⟩ f.eval H (fun v H' => some (putP cx.sz f dst v fun f' => k f' H'))) := rfl
@[go_sem] theorem opP_extract {x : Operand} {i : Nat} : opP P cx ⟨dst, .extract x i, ty, src, af, g⟩ f H k = Holds (aExtract (f.eval x) i H fun v H' => some (putP cx.sz f dst v fun f' => k f' H')) := rfl
@[go_sem] theorem opP_store {t : TypeId} {x y : Operand} : opP P cx ⟨dst, .store t x y, ty, src, af, g⟩ f H k = Holds (aStore P t (f.eval x) (f.eval y) H fun v H' => some (putP cx.sz f dst v fun f' => k f' H')) := rfl
@[go_sem] theorem opP_indexAddr {t : TypeId} {x y : Operand} : opP P cx ⟨dst, .indexAddr t x y, ty, src, af, g⟩ f H k = Holds (aIndexAddr P t (f.eval x) (f.eval y) H fun v H' => some (putP cx.sz f dst v fun f' => k f' H')) := rfl
@[go_sem] theorem opP_load {t : TypeId} {x : Operand} : opP P cx ⟨dst, .load t x, ty, src, af, g⟩ f H k = Holds (aLoad P t (f.eval x) H fun v H' => some (putP cx.sz f dst v fun f' => k f' H')) := rfl
@[go_sem] theorem opP_fieldAddr {t : TypeId} {x : Operand} {i : Nat} : opP P cx ⟨dst, .fieldAddr t x i, ty, src, af, g⟩ f H k = Holds (aFieldAddr P t (f.eval x) i H fun v H' => some (putP cx.sz f dst v fun f' => k f' H')) := rfl
@[go_sem] theorem opP_alloc {t : TypeId} : opP P cx ⟨dst, .alloc t, ty, src, af, g⟩ f H k = Holds (aAlloc P t H fun v H' => some (putP cx.sz f dst v fun f' => k f' H')) := rfl
@[go_sem] theorem opP_box {t : TypeId} {x : Operand} : opP P cx ⟨dst, .box t x, ty, src, af, g⟩ f H k = Holds (aBox t (f.eval x) H fun v H' => some (putP cx.sz f dst v fun f' => k f' H')) := rfl
@[go_sem] theorem opP_call {x : Operand} {args : Array Operand} {ts : Array TypeId} : opP P cx ⟨dst, .call ⟨.value x, args, ts⟩, ty, src, af, g⟩ f H k = calleeP P cx.loops (f.eval x) (args.toList.map f.eval) H fun v H' => putP cx.sz f dst v fun f' => k f' H' := rfl
@[go_sem] theorem opP_pick {c a b : Operand} : opP P cx ⟨dst, .pick c a b, ty, src, af, g⟩ f H k = Holds (aPick (f.eval c) (f.eval a) (f.eval b) H fun v H' => some (putP cx.sz f dst v fun f' => k f' H')) := rfl
@[go_sem] theorem opP_build {t : TypeId} {parts : Array (Nat × Operand)} : opP P cx ⟨dst, .build t parts, ty, src, af, g⟩ f H k = Holds (aBuild P t (parts.toList.map fun x => (x.1, f.eval x.2)) H fun v H' => some (putP cx.sz f dst v fun f' => k f' H')) := rfl
@[go_sem] theorem opP_buildSlice {t : TypeId} {len : Nat} {parts : Array (Nat × Operand)} : opP P cx ⟨dst, .buildSlice t len parts, ty, src, af, g⟩ f H k = Holds (aBuildSlice P t len (parts.toList.map fun x => (x.1, f.eval x.2)) H fun v H' => some (putP cx.sz f dst v fun f' => k f' H')) := rfl
@[go_sem] theorem opP_makeMap {t : TypeId} : opP P cx ⟨dst, .makeMap t none, ty, src, af, g⟩ f H k = Holds (H.new (.map [] 0) fun b H' => some (putP cx.sz f dst (.map (some b)) fun f' => k f' H')) := rfl
@[go_sem] theorem opP_makeSlice {t : TypeId} {x y : Operand} : opP P cx ⟨dst, .makeSlice t x y, ty, src, af, g⟩ f H k = Holds (aMakeSlice P t (f.eval x) (f.eval y) H fun v H' => some (putP cx.sz f dst v fun f' => k f' H')) := rfl
@[go_sem] theorem opP_slice {t : TypeId} {x : Operand} {lo hi : Option Operand} : opP P cx ⟨dst, .slice t x lo hi none, ty, src, af, g⟩ f H k =
    Holds (if isSliceV (f.eval x) then aSlice P t (f.eval x) (lo.map f.eval) (hi.map f.eval) H (fun v H' => some (putP cx.sz f dst v fun f' => k f' H')) else if isPtrV (f.eval x) then aSliceArr P t (f.eval x) (lo.map f.eval) (hi.map f.eval) H (fun v H' => some (putP cx.sz f dst v fun f' => k f' H')) else aPlain P ⟨dst, .slice t x lo hi none, ty, src, af, g⟩ f.eval H (fun v H' => some (putP cx.sz f dst v fun f' => k f' H'))) := rfl
@[go_sem] theorem opP_lookup {t : TypeId} {x i : Operand} {ok : Bool} : opP P cx ⟨dst, .lookup t x i ok, ty, src, af, g⟩ f H k = Holds (aLookup P t (f.eval x) (f.eval i) ok H fun v H' => some (putP cx.sz f dst v fun f' => k f' H')) := rfl
@[go_sem] theorem opP_mapUpdate {t : TypeId} {m i x : Operand} : opP P cx ⟨dst, .mapUpdate t m i x, ty, src, af, g⟩ f H k = Holds (aMapUpdate P t (f.eval m) (f.eval i) (f.eval x) H fun v H' => some (putP cx.sz f dst v fun f' => k f' H')) := rfl
@[go_sem] theorem opP_range {t : TypeId} {x : Operand} : opP P cx ⟨dst, .range t x, ty, src, af, g⟩ f H k = Holds (aRange P t (f.eval x) H fun v H' => some (putP cx.sz f dst v fun f' => k f' H')) := rfl
@[go_sem] theorem opP_next {x : Operand} : opP P cx ⟨dst, .next x true, ty, src, af, g⟩ f H k = Holds (aNextS (f.eval x) H fun v H' => some (putP cx.sz f dst v fun f' => k f' H')) := rfl
@[go_sem] theorem opP_nextM {x : Operand} : opP P cx ⟨dst, .next x false, ty, src, af, g⟩ f H k = nextP (f.eval x) H fun v H' => putP cx.sz f dst v fun f' => k f' H' := rfl
@[go_sem] theorem opP_entry {x : Operand} : opP P cx ⟨dst, .entry x, ty, src, af, g⟩ f H k = Holds (aEntry (f.eval x) H fun v H' => some (putP cx.sz f dst v fun f' => k f' H')) := rfl
@[go_sem] theorem opP_makeFunc {g0 : FuncId} {first captured : Array Operand} : opP P cx ⟨dst, .makeFunc (.func g0) first captured, ty, src, af, g⟩ f H k = putP cx.sz f dst (.func (.func g0) (first.toList.map f.eval).toArray (captured.toList.map f.eval).toArray) fun f' => k f' H := rfl
@[go_sem] theorem opP_nilCheck {x : Operand} : opP P cx ⟨dst, .nilCheck x, ty, src, af, g⟩ f H k = Holds (aNilCheck (f.eval x) H (fun v H' => some (putP cx.sz f dst v fun f' => k f' H')) fun _ => aPlain P ⟨dst, .nilCheck x, ty, src, af, g⟩ f.eval H (fun v H' => some (putP cx.sz f dst v fun f' => k f' H'))) := rfl
@[go_sem] theorem opP_len {x : Array Operand} {ts : Array TypeId} : opP P cx ⟨dst, .call ⟨.builtin .len, x, ts⟩, ty, src, af, g⟩ f H k =
    Holds (aBuiltin P .len ts (x.toList.map f.eval) H (fun v H' => some (putP cx.sz f dst v fun f' => k f' H')) fun _ => aPlain P ⟨dst, .call ⟨.builtin .len, x, ts⟩, ty, src, af, g⟩ f.eval H (fun v H' => some (putP cx.sz f dst v fun f' => k f' H'))) := rfl
@[go_sem] theorem opP_append {x : Array Operand} {ts : Array TypeId} : opP P cx ⟨dst, .call ⟨.builtin .append, x, ts⟩, ty, src, af, g⟩ f H k =
    Holds (aBuiltin P .append ts (x.toList.map f.eval) H (fun v H' => some (putP cx.sz f dst v fun f' => k f' H')) fun _ => aPlain P ⟨dst, .call ⟨.builtin .append, x, ts⟩, ty, src, af, g⟩ f.eval H (fun v H' => some (putP cx.sz f dst v fun f' => k f' H'))) := rfl
@[go_sem] theorem opP_delete {x : Array Operand} {ts : Array TypeId} : opP P cx ⟨dst, .call ⟨.builtin .delete, x, ts⟩, ty, src, af, g⟩ f H k =
    Holds (aBuiltin P .delete ts (x.toList.map f.eval) H (fun v H' => some (putP cx.sz f dst v fun f' => k f' H')) fun _ => aPlain P ⟨dst, .call ⟨.builtin .delete, x, ts⟩, ty, src, af, g⟩ f.eval H (fun v H' => some (putP cx.sz f dst v fun f' => k f' H'))) := rfl
@[go_sem] theorem opP_max {x : Array Operand} {ts : Array TypeId} : opP P cx ⟨dst, .call ⟨.builtin .max, x, ts⟩, ty, src, af, g⟩ f H k = Holds (aPlain P ⟨dst, .call ⟨.builtin .max, x, ts⟩, ty, src, af, g⟩ f.eval H (fun v H' => some (putP cx.sz f dst v fun f' => k f' H'))) := rfl
@[go_sem] theorem opP_min {x : Array Operand} {ts : Array TypeId} : opP P cx ⟨dst, .call ⟨.builtin .min, x, ts⟩, ty, src, af, g⟩ f H k = Holds (aPlain P ⟨dst, .call ⟨.builtin .min, x, ts⟩, ty, src, af, g⟩ f.eval H (fun v H' => some (putP cx.sz f dst v fun f' => k f' H'))) := rfl
end


section
variable {β : Type} {kk : K β} {other : Unit → Option β}
@[go_sem] theorem aBin_int {op : BinOp} {t : TypeId} {a b : Int} : aBin P op t (.int .i64 a) (.int .i64 b) H kk other = intBin op .i64 a b H kk other := rfl
@[go_sem] theorem aBin_i32 {op : BinOp} {t : TypeId} {a b : Int} : aBin P op t (.int .i32 a) (.int .i32 b) H kk other = intBin op .i32 a b H kk other := rfl
@[go_sem] theorem aBin_u8 {op : BinOp} {t : TypeId} {a b : Int} : aBin P op t (.int .u8 a) (.int .u8 b) H kk other = intBin op .u8 a b H kk other := rfl
@[go_sem] theorem intBin_add {q : IntKind} {a b : Int} : intBin .add q a b H kk other = kk (.int q (q.wrap (a + b))) H := rfl
@[go_sem] theorem intBin_sub {q : IntKind} {a b : Int} : intBin .sub q a b H kk other = kk (.int q (q.wrap (a - b))) H := rfl
@[go_sem] theorem intBin_eql {q : IntKind} {a b : Int} : intBin .eql q a b H kk other = kk (.bool (a == b)) H := rfl
@[go_sem] theorem intBin_neq {q : IntKind} {a b : Int} : intBin .neq q a b H kk other = kk (.bool (a != b)) H := rfl
@[go_sem] theorem intBin_lss {q : IntKind} {a b : Int} : intBin .lss q a b H kk other = kk (.bool (decide (a < b))) H := rfl
@[go_sem] theorem intBin_leq {q : IntKind} {a b : Int} : intBin .leq q a b H kk other = kk (.bool (decide (a ≤ b))) H := rfl
@[go_sem] theorem intBin_gtr {q : IntKind} {a b : Int} : intBin .gtr q a b H kk other = kk (.bool (decide (b < a))) H := rfl
@[go_sem] theorem intBin_geq {q : IntKind} {a b : Int} : intBin .geq q a b H kk other = kk (.bool (decide (b ≤ a))) H := rfl
@[go_sem] theorem aPick_t {a b : Value} : aPick (.bool true) a b H kk = kk a H := rfl
@[go_sem] theorem aPick_f {a b : Value} : aPick (.bool false) a b H kk = kk b H := rfl
@[go_sem] theorem aNilCheck_some {a : Addr} : aNilCheck (.pointer (some a)) H kk other = kk (.pointer (some a)) H := rfl
@[go_sem] theorem isSliceV_ptr {a : Option Addr} : isSliceV (.pointer a) = false := rfl
@[go_sem] theorem isPtrV_ptr {a : Option Addr} : isPtrV (.pointer a) = true := rfl
@[go_sem] theorem isSliceV_slice {a : Option Addr} {n c : Nat} : isSliceV (.slice a n c) = true := rfl
attribute [go_sem] AHeap.new_eq AHeap.set_eq AHeap.get_push AHeap.get_upd
@[go_sem] theorem AHeap.n_push_k {H : AHeap} {o : AObj} : (H.push o).n = H.n + 1 := by cases H; exact AHeap.n_push _ _
@[go_sem] theorem AHeap.n_upd_k {H : AHeap} {o : AObj} {i : Nat} : (H.upd i o).n = H.n := by cases H; exact AHeap.n_upd _ _ _

@[go_sem] theorem aBuiltin_len {t : TypeId} {x : Value} : aBuiltin P .len #[t] [x] H kk other = aLen P t x H kk other := rfl
@[go_sem] theorem aBuiltin_append {ts : Array TypeId} {s x : Value} : aBuiltin P .append ts [s, x] H kk other = aAppend P ts s x H kk := rfl
@[go_sem] theorem aBuiltin_delete {t : TypeId} {m i : Value} : aBuiltin P .delete #[t] [m, i] H kk other = aDelete P t m i H kk := rfl
@[go_sem] theorem aLen_slice {t : TypeId} {a : Option Addr} {n c : Nat} (he : (elemT P t).isSome = true) : aLen P t (.slice a n c) H kk other = kk (.int .i64 n) H := by
  cases h : elemT P t with
  | none => rw [h] at he; cases he
  | some e => simp only [aLen, elem_underlying h]; rfl

@[go_sem] theorem aIndexAddr_at {t : TypeId} {q : IntKind} {i : Int} {b o n c : Nat} (h0 : 0 ≤ i) (h1 : i < n) :
    aIndexAddr P t (.slice (some ⟨b, o, none⟩) n c) (.int q i) H kk = match elemT P t with
      | some e => match szT P e with
        | some size => kk (.pointer (some ⟨b, o + i.toNat * size, none⟩)) H
        | none => none
      | none => none := by
  obtain ⟨j, rfl⟩ := Int.eq_ofNat_of_zero_le h0
  have hj : j < n := by omega
  show aIndexAddr P t (.slice (some ⟨b, o, none⟩) n c) (.int q (Int.ofNat j)) H kk = _
  simp only [aIndexAddr]
  cases he : elemT P t with
  | none => rfl
  | some e =>
    cases hs : szT P e with
    | none => simp [hs]
    | some size => simp [hs, if_pos hj]

@[go_sem] theorem aLoad_at {t : TypeId} {b o : Nat} : aLoad P t (.pointer (some ⟨b, o, none⟩)) H kk = match isAggT P t with
    | some false => match cellAt H b o with
      | some v => kk v H
      | none => none
    | some true => match szT P t with
      | some n => match cellsAt H b o n with
        | some l => kk (.agg l.toArray) H
        | none => none
      | none => none
    | none => none := by
  simp only [aLoad, Option.isSome_none, Bool.false_eq_true, if_false]
  cases isAggT P t with
  | none => rfl
  | some b => cases b <;> rfl

theorem aFieldAddr_at {s : TypeId} {i b o : Nat} : aFieldAddr P s (.pointer (some ⟨b, o, none⟩)) i H kk = match fieldOf P s i with
    | some fd => match szT P fd.type with
      | some n => if n = 0 then none else kk (.pointer (some ⟨b, o + fd.offset, none⟩)) H
      | none => none
    | none => none := by
  simp only [aFieldAddr, Option.isSome_none, Bool.false_eq_true, false_or]
  rfl

@[go_sem] theorem aExtract_at {vs : Array Value} {i : Nat} : aExtract (.tuple vs) i H kk = match vs.toList[i]? with
    | some v => kk v H
    | none => none := rfl

@[go_sem] theorem aBox_at {t : TypeId} {x : Value} : aBox t x H kk = if (cellsOfV x).all oneV = true then kk (.pointer (some ⟨H.n, 0, none⟩)) (H.push (.row (cellsOfV x) t)) else none := by
  simp only [aBox, newP, forceL_eq, AHeap.new_eq]

@[go_sem] theorem aAlloc_at {t : TypeId} : aAlloc P t H kk = match zeroT P t with
    | some z => if (cellsOfV z).all oneV = true then kk (.pointer (some ⟨H.n, 0, none⟩)) (H.push (.row (cellsOfV z) t)) else none
    | none => none := by
  simp only [aAlloc, newP, forceL_eq, AHeap.new_eq]
  rfl

@[go_sem] theorem cellsOfV_agg {cs : Array Value} : cellsOfV (.agg cs) = cs.toList := rfl
@[go_sem] theorem cellsOfV_int {q : IntKind} {n : Int} : cellsOfV (.int q n) = [.int q n] := rfl
@[go_sem] theorem cellsOfV_bool {b : Bool} : cellsOfV (.bool b) = [.bool b] := rfl
@[go_sem] theorem cellsOfV_string {s : ByteArray} : cellsOfV (.string s) = [.string s] := rfl
@[go_sem] theorem cellsOfV_slice {a : Option Addr} {n c : Nat} : cellsOfV (.slice a n c) = [.slice a n c] := rfl
@[go_sem] theorem cellsOfV_pointer {a : Option Addr} : cellsOfV (.pointer a) = [.pointer a] := rfl
@[go_sem] theorem cellsOfV_func {fn : Fn} {a b : Array Value} : cellsOfV (.func fn a b) = [.func fn a b] := rfl
@[go_sem] theorem cellsOfV_map {a : Option Nat} : cellsOfV (.map a) = [.map a] := rfl
@[go_sem] theorem oneV_int {q : IntKind} {n : Int} : oneV (.int q n) = true := rfl
@[go_sem] theorem oneV_bool {b : Bool} : oneV (.bool b) = true := rfl
@[go_sem] theorem oneV_string {s : ByteArray} : oneV (.string s) = true := rfl
@[go_sem] theorem oneV_slice {a : Option Addr} {n c : Nat} : oneV (.slice a n c) = true := rfl
@[go_sem] theorem oneV_pointer {a : Option Addr} : oneV (.pointer a) = true := rfl
@[go_sem] theorem oneV_func {fn : Fn} {a b : Array Value} : oneV (.func fn a b) = true := rfl
@[go_sem] theorem oneV_map {a : Option Nat} : oneV (.map a) = true := rfl

theorem cellAt_push {o : AObj} {b i : Nat} : cellAt (H.push o) b i = if b = H.n then (match o with | .row c _ => c[i]? | .ext c _ => c[i]? | _ => none) else cellAt H b i := by
  simp only [cellAt, AHeap.get_push]
  by_cases h : b = H.n
  · simp only [if_pos h]; rfl
  · simp only [if_neg h]
@[go_sem] theorem cellAt_new {c : List Value} {t : TypeId} {i : Nat} : cellAt (H.push (.row c t)) H.n i = c[i]? := by rw [cellAt_push, if_pos rfl]
@[go_sem] theorem cellAt_old {o : AObj} {b i : Nat} (h : b < H.n) : cellAt (H.push o) b i = cellAt H b i := by rw [cellAt_push, if_neg (by omega)]
theorem cellsAt_push {o : AObj} {b i n : Nat} : cellsAt (H.push o) b i n = if b = H.n then (match o with | .row c _ => if i + n ≤ c.length then some ((c.drop i).take n) else none | .ext c _ => if i + n ≤ c.length then some ((c.drop i).take n) else none | _ => none) else cellsAt H b i n := by
  simp only [cellsAt, AHeap.get_push]
  by_cases h : b = H.n
  · simp only [if_pos h]; rfl
  · simp only [if_neg h]
@[go_sem] theorem cellsAt_new {c : List Value} {t : TypeId} {i n : Nat} : cellsAt (H.push (.row c t)) H.n i n = if i + n ≤ c.length then some ((c.drop i).take n) else none := by rw [cellsAt_push, if_pos rfl]
@[go_sem] theorem cellsAt_old {o : AObj} {b i n : Nat} (h : b < H.n) : cellsAt (H.push o) b i n = cellsAt H b i n := by rw [cellsAt_push, if_neg (by omega)]
end


def condV (v : Value) (K1 K2 : Prop) : Prop := match v with
  | .bool b => (b = true → K1) ∧ (b = false → K2)
  | _ => False
def Either (b : Bool) (K1 K2 : Prop) : Prop := (b = true → K1) ∧ (b = false → K2)
theorem Either.mk {b : Bool} {K1 K2 : Prop} (h1 : b = true → K1) (h2 : b = false → K2) : Either b K1 K2 := ⟨h1, h2⟩
@[go_sem] theorem either_true {K1 K2 : Prop} : Either true K1 K2 = K1 := by simp [Either]
@[go_sem] theorem either_false {K1 K2 : Prop} : Either false K1 K2 = K2 := by simp [Either]
@[go_sem] theorem condV_bool {b : Bool} {K1 K2 : Prop} : condV (.bool b) K1 K2 = Either b K1 K2 := rfl
theorem of_decide {p : Prop} [Decidable p] (h : decide p = true) : p := of_decide_eq_true h
theorem of_not_decide_lt {a b : Int} (h : decide (a < b) = false) : b ≤ a := by simpa using h
theorem of_not_decide_le {a b : Int} (h : decide (a ≤ b) = false) : b < a := by simpa using h
theorem of_not_decide_ltN {a b : Nat} (h : decide (a < b) = false) : b ≤ a := by simpa using h
theorem of_not_decide_leN {a b : Nat} (h : decide (a ≤ b) = false) : b < a := by simpa using h

theorem CodeS.cond_k {c : Operand} {x y : Code} (h : ∀ K1 K2 : Prop, (CodeS P cx x f H Q → K1) → (CodeS P cx y f H Q → K2) → condV (f.eval c) K1 K2) : CodeS P cx (.cond c x y) f H Q := by
  have h0 := h _ _ (fun h => h) (fun h => h)
  unfold condV at h0
  split at h0
  · rename_i b hb; exact CodeS.cond hb h0.1 h0.2
  · exact h0.elim

def guardV (v : Value) (want : Bool) (K1 K2 : Prop) : Prop := match v with
  | .bool b => (b = want → K1) ∧ (b = !want → K2)
  | .tuple _ => K2
  | _ => False
@[go_sem] theorem guardV_t {b : Bool} {K1 K2 : Prop} : guardV (.bool b) true K1 K2 = Either b K1 K2 := rfl
@[go_sem] theorem guardV_f {b : Bool} {K1 K2 : Prop} : guardV (.bool b) false K1 K2 = Either b K2 K1 := by simp only [guardV, Either, Bool.not_false]; exact propext ⟨fun h => ⟨h.2, h.1⟩, fun h => ⟨h.2, h.1⟩⟩
@[go_sem] theorem guardV_un {l : Array Value} {want : Bool} {K1 K2 : Prop} : guardV (.tuple l) want K1 K2 = K2 := rfl

theorem opsP_gk {d d' : Tmp} {j : Nat} {want : Bool} {g : Oper} (hg : o.guard = some (j, want)) (hj : ops.toList[j]? = some g) (hgd : g.dst = some d) (hd : o.dst = some d') (hlt : d' < cx.sz)
    (h : ∀ K1 K2 : Prop, ((∀ K : AF → AHeap → Prop, (∀ f H, opsP P cx ops rest f H k → K f H) → opP P cx o f H K) → K1) → (opsP P cx ops rest (f.upd d' undef) H k → K2) → guardV (f.tmp d) want K1 K2) : opsP P cx ops (o :: rest) f H k := by
  have h0 := h _ _ (fun h => h) (fun h => h)
  unfold guardV at h0
  split at h0
  · rename_i b hb
    exact opsP_guard hg hj hgd hb hd hlt h0.1 h0.2
  · rename_i l hb
    exact opsP_skip (by simp only [wantedA, hg, hj, hgd, hb]) hd hlt h0
  · exact h0.elim

theorem opsP_go {dst : Option Tmp} {op : Op} {ty : TypeId} {src : String} {af : Array Edge} (h : ∀ K : AF → AHeap → Prop, (∀ f H, opsP P cx ops rest f H k → K f H) → opP P cx ⟨dst, op, ty, src, af, none⟩ f H K) :
    opsP P cx ops (⟨dst, op, ty, src, af, none⟩ :: rest) f H k := opsP_step rfl h

def dstOf (ops : Array Oper) (j : Nat) : Tmp := match ops.toList[j]? with
  | some g => match g.dst with
    | some d => d
    | none => 0
  | none => 0
def hasDst (ops : Array Oper) (j : Nat) : Bool := match ops.toList[j]? with
  | some g => g.dst.isSome
  | none => false

attribute [go_sem] dstOf

theorem opsP_gd {d' : Tmp} {op : Op} {ty : TypeId} {src : String} {af : Array Edge} {j : Nat} {want : Bool} (hj : hasDst ops j = true) (hlt : d' < cx.sz)
    (h : ∀ (K1 K2 : Prop) (d : Tmp), dstOf ops j = d → ((∀ K : AF → AHeap → Prop, (∀ f H, opsP P cx ops rest f H k → K f H) → opP P cx ⟨some d', op, ty, src, af, some (j, want)⟩ f H K) → K1) → (opsP P cx ops rest (f.upd d' undef) H k → K2) → guardV (f.tmp d) want K1 K2) :
    opsP P cx ops (⟨some d', op, ty, src, af, some (j, want)⟩ :: rest) f H k := by
  unfold hasDst at hj
  cases hg : ops.toList[j]? with
  | none => rw [hg] at hj; cases hj
  | some g =>
    cases hgd : g.dst with
    | none => rw [hg] at hj; simp [hgd] at hj
    | some d => exact opsP_gk rfl hg hgd rfl hlt fun K1 K2 => h K1 K2 d (by simp only [dstOf, hg, hgd])


def okFn (P : Program) (g : FuncId) : Bool := match P.funcs[g]? with
  | some fn => !(fn.name == "runtime.NumGoroutine") && !fn.body.isNone
  | none => false

@[go_sem] theorem calleeP_fn {loops : List (Nat × LInfo)} {g : FuncId} {first captured : Array Value} {args : List Value} {R : Value → AHeap → Prop} (h : okFn P g = true) :
    calleeP P loops (.func (.func g) first captured) args H R = CallS P loops g (first.toList ++ args ++ captured.toList) H R := by
  unfold okFn at h
  cases hf : P.funcs[g]? with
  | none => rw [hf] at h; cases h
  | some fn =>
    rw [hf] at h
    simp only [Bool.and_eq_true, Bool.not_eq_true'] at h
    simp [calleeP, aCallee, hf, h.1, h.2]

@[go_sem] theorem calleeP_yield {loops : List (Nat × LInfo)} {l : Nat} {first captured : Array Value} {args : List Value} {R : Value → AHeap → Prop} :
    calleeP P loops (.func (.yield l) first captured) args H R = RoundS P loops l (first.toList ++ args) H R := rfl

theorem CallS.enter' {loops : List (Nat × LInfo)} {g : FuncId} {fn : Func} {c : Code} {args : List Value} {R : Value → AHeap → Prop} {n : Nat} (hfn : P.funcs[g]? = some fn) (hb : fn.body = some c) (hn : fn.ntmps = n) (hle : args.length ≤ n)
    (h : ∀ f : AF, f.defers = [] → (∀ j, f.tmp j = args.getD j undef) → CodeS P ⟨g, n, none, loops⟩ c f H (bodyS P loops fn R)) : CallS P loops g args H R :=
  CallS.enter hfn hb hn fun f h1 h2 => by rw [show args.length + (n - args.length) = n by omega]; exact h f h1 h2


@[go_sem] theorem leaveP_nil {loops : List (Nat × LInfo)} {fn : Func} {R : Value → AHeap → Prop} : leaveP P loops fn f R [] H = ∃ l, resA P f H fn.results.toList = some l ∧ R (oneOf l) H := rfl
def resP (P : Program) (f : AF) (H : AHeap) (K : Value → AHeap → Prop) (rs : List ResultVar) : Prop := Holds (match resA P f H rs with
  | some l => some (K (oneOf l) H)
  | none => none)
attribute [go_sem] resP
theorem Post.body_k {loops : List (Nat × LInfo)} {fn : Func} {R : Value → AHeap → Prop} (hd : f.defers = []) (h : ∀ K : Value → AHeap → Prop, (∀ v H, R v H → K v H) → resP P f H K fn.results.toList) : bodyS P loops fn R .ret f H := by
  show leaveP P loops fn f R f.defers H
  rw [hd]
  have h0 := h _ fun _ _ h => h
  unfold resP at h0
  split at h0
  · rename_i l hl; exact ⟨l, hl, h0⟩
  · exact h0.elim
@[go_sem] theorem resA_nil : resA P f H [] = some [] := rfl
@[go_sem] theorem resA_tmp {t : Tmp} {rs : List ResultVar} : resA P f H (.tmp t :: rs) = match resA P f H rs with | some l => some (f.tmp t :: l) | none => none := rfl
@[go_sem] theorem resA_cell {a : Tmp} {t : TypeId} {rs : List ResultVar} : resA P f H (.cell a t :: rs) = match resA P f H rs with | some l => aLoad P t (f.tmp a) H (fun v _ => some (v :: l)) | none => none := rfl
@[go_sem] theorem oneOf_one {v : Value} : oneOf [v] = v := rfl
@[go_sem] theorem oneOf_two {v u : Value} {l : List Value} : oneOf (v :: u :: l) = .tuple (v :: u :: l).toArray := rfl
end
def zA := @CodeS.seq
def zB := @CodeS.region_k
def zC := @opsP_go
def zD := @Post.then_normal
def zE := @Post.then_ret
def zF := @Post.then_exit
def zG := @Post.block_normal
def zH := @Post.block_ret
def zI := @Post.block_here
def zM := @Post.round_ret
def zN := @Post.round_exit
def zO := @CodeS.block
def zP := @CodeS.skip
def zQ := @CodeS.ret
def zR := @CodeS.exit
def zU := @opsP_nil
def zV := @opsP_gd
def zW := @CodeS.cond_k
def zX := @Either.mk
def zY := @Post.block_off
def zZ := @Post.body_k
def yB := @Nat.le_of_ble_eq_true
def yC := @of_decide
def yD := @of_not_decide_lt
def yE := @of_not_decide_le
def yF := @of_not_decide_ltN
def yG := @of_not_decide_leN
end Go.Am
namespace Go.Am
open Go.RowKit

section
variable {P : Program} {ρ ρ' : Ren} {H : AHeap} {B : Nat} {w0 w : World} {cx : Cx} {f : AF} {Q : Post}


def jumpOf : Option (Option Nat) → Exit
  | none => .normal
  | some none => .ret
  | some (some id) => .exit id

def rangeEndP (l : Nat) (f : AF) (Q : Post) (H : AHeap) : Prop :=
  ∃ st pend, H.get l = .loop st pend ∧ st ≠ .busy ∧ Q (jumpOf pend) f (H.upd l (.loop .exhausted pend))

theorem rangeEndP_ok {f : AF} {a : Act} {l : Nat} {y : Ent} {sz : Nat} {F : Fence} {Q : Exit → Act → World → Prop} {Q0 : Post} (hy : ρ[l]? = some (some y))
    (h : HR P ρ H B w0 w) (hf : AFR P ρ sz f a) (ha : rangeEndP l f Q0 H)
    (hQ : ∀ e a w, SPost P ρ B w0 sz Q0 e a w → Q e a w) :
    ∃ jump w₄, (Instr.endLoop y.b).run P w = .ok jump w₄ ∧
      (match jump with
       | none => Q .normal a w₄
       | some c => c.wpIn F 0 P Q a w₄) := by
  obtain ⟨st, pend, hg, hbusy, hk⟩ := ha
  obtain ⟨r0, hw, hlp, hst, hpend, hkeep⟩ := loop_at h hy hg
  obtain ⟨rst, rpend, rfn, rtmps, rps, ras, rbody, rdef⟩ := r0
  simp only at hst hpend
  subst hst hpend
  have hput := h.put (H' := H.upd l (.loop .exhausted pend)) (o := .loop .exhausted pend) (o' := .loop ⟨.exhausted, pend.map pendCode, rfn, rtmps, rps, ras, rbody, rdef⟩) hy rfl hw rfl (fun q => AHeap.get_upd H l q _) (.loop hkeep hlp rfl rfl) (by rw [hg]; rfl)
  refine ⟨pend.map pendCode, { w with heap := w.heap.setIfInBounds y.b (.loop ⟨.exhausted, pend.map pendCode, rfn, rtmps, rps, ras, rbody, rdef⟩) }, ?_, ?_⟩
  · have hset := run_setLoop (P := P) (.loop ⟨.exhausted, pend.map pendCode, rfn, rtmps, rps, ras, rbody, rdef⟩) hw
    simp [Instr.endLoop, run_getLoop' hw, hbusy, hset]
  · have post : Q (jumpOf pend) a { w with heap := w.heap.setIfInBounds y.b (.loop ⟨.exhausted, pend.map pendCode, rfn, rtmps, rps, ras, rbody, rdef⟩) } :=
      hQ _ _ _ ⟨f, _, hk, ρ, Le.refl _, hput, hf⟩
    cases pend with
    | none => exact post
    | some j =>
      cases j with
      | none => exact wpIn_ret post
      | some id => exact wpIn_exit post

theorem rangeStartP_ok {q : FuncId} {fn0 : FuncId} {first captured : List Value} {first' captured' : Array Value} {ps : Array Tmp} {assign body : Code} {f f2 : AF} {a : Act} {dfs : Nat} {mark' : List Deferred} {F : Fence}
    {Q : Exit → Act → World → Prop} {Q0 : Post} {z : Ent} (h : HR P ρ H B w0 w) (hl : LI P ρ cx.loops) (hF : FR ρ cx F) (hf : AFR P ρ cx.sz f a) (hf2 : AFR P ρ cx.sz f2 { a with defers := mark' ++ a.defers }) (hz : ρ[dfs]? = some (some z)) (hzk : z.keep = true)
    (hv1 : VL P ρ first first'.toList) (hv2 : VL P ρ captured captured'.toList)
    (ha : CallS P ((H.n, ⟨cx.fn, cx.sz, f.env, ps, assign, body, dfs⟩) :: cx.loops) q (first ++ [.func (.yield H.n) #[] #[]] ++ captured) (H.push (.loop .ready none)) fun _ H' => rangeEndP H.n f2 Q0 H')
    (hQ : ∀ e a w, SPost P ρ B w0 cx.sz Q0 e a w → Q e a w) :
    CallsIn F 0 P q (first' ++ #[.func (.yield w.heap.size) #[] #[]] ++ captured') (w.alloc (.loop { state := .ready, pending := none, fn := fn0, tmps := a.tmps, params := ps, assign, body, defers := z.b }))
      (rangePost F 0 P w.heap.size Q { a with defers := mark' ++ a.defers }) := by
  have hle := Le.append ρ [some (⟨w.heap.size, 0, 0, true, some ⟨a.tmps, ps, assign, body, z.b⟩⟩ : Ent)]
  have hnew := h.new (H' := H.push (.loop .ready none)) (x := ⟨w.heap.size, 0, 0, true, some ⟨a.tmps, ps, assign, body, z.b⟩⟩) (o := .loop .ready none) (o' := .loop { state := .ready, pending := none, fn := fn0, tmps := a.tmps, params := ps, assign, body, defers := z.b }) rfl rfl (fun j => AHeap.get_push H j _)
    (.loop rfl rfl rfl rfl)
  have hx : (ρ ++ [some (⟨w.heap.size, 0, 0, true, some ⟨a.tmps, ps, assign, body, z.b⟩⟩ : Ent)])[H.n]? = some (some ⟨w.heap.size, 0, 0, true, some ⟨a.tmps, ps, assign, body, z.b⟩⟩) := by rw [← h.len]; simp
  generalize hρ2 : (ρ ++ [some (⟨w.heap.size, 0, 0, true, some ⟨a.tmps, ps, assign, body, z.b⟩⟩ : Ent)]) = ρ2 at hle hnew hx
  have hl2 : LI P ρ2 ((H.n, ⟨cx.fn, cx.sz, f.env, ps, assign, body, dfs⟩) :: cx.loops) := by
    intro l x hfl
    simp only [findLoop] at hfl
    split at hfl
    · rename_i heq
      cases hfl; subst heq
      refine ⟨_, _, hx, rfl, rfl, rfl, rfl, rfl, hf.size, fun t => (hf.tmps t).mono hle, z, hle.keeps hz hzk, hzk, rfl⟩
    · exact hl.mono hle l x hfl
  have hargs : VL P ρ2 (first ++ [.func (.yield H.n) #[] #[]] ++ captured) (first'.toList ++ [.func (.yield w.heap.size) #[] #[]] ++ captured'.toList) :=
    ((VL.mono hv1 hle).append (.cons (.yield (ir_of hx rfl)) .nil)).append (VL.mono hv2 hle)
  have hcall := ha ρ2 B w0 _ _ hnew hl2 hargs
  have harr : (first'.toList ++ [Value.func (.yield w.heap.size) #[] #[]] ++ captured'.toList).toArray = first' ++ #[.func (.yield w.heap.size) #[] #[]] ++ captured' := by
    apply Array.ext'; simp
  rw [harr] at hcall
  refine hF.calls (CallsIn.mono hcall ?_)
  rintro e w' ⟨v, H', hr, ρ', v', rfl, hle2, hHR, _⟩
  have hfin := rangeEndP_ok (F := F) (Q := Q) (hle2.keeps hx rfl) hHR (hf2.mono (hle.trans hle2)) hr (fun e a w hp => hQ e a w (hp.le (hle.trans hle2)))
  exact hfin

theorem CodeS.range {g : Operand} {ps : Array Tmp} {assign body : Code} {q : FuncId} {first captured : Array Value} (hround : cx.round = none) (hg : f.eval g = .func (.func q) first captured) (hok : okFn P q = true)
    (h : CallS P ((H.n + 1, ⟨cx.fn, cx.sz, f.env, ps, assign, body, H.n⟩) :: cx.loops) q (first.toList ++ [.func (.yield (H.n + 1)) #[] #[]] ++ captured.toList) ((H.push (.defs false)).push (.loop .ready none))
      fun _ H' => rangeEndP (H.n + 1) ⟨f.env, { target := .collected H.n, args := #[] } :: f.defers⟩ Q H') : CodeS P cx (.rangeFunc g ps assign body) f H Q := by
  intro ρ B w0 w a F h1 hl hF hf
  refine wpIn_rangeFunc fun fn0 _ => ?_
  unfold okFn at hok
  cases hfn : P.funcs[q]? with
  | none => rw [hfn] at hok; cases hok
  | some fn =>
    rw [hfn] at hok
    simp only [Bool.and_eq_true, Bool.not_eq_true'] at hok
    have hvx := hf.eval g
    rw [hg] at hvx
    generalize hax : a.eval g = xv at hvx
    cases hvx with
    | func _ hs hv hs2 hv2 =>
      rename_i first' captured'
      have hres : ∀ (l : Nat) (w1 : World), (resolve a.eval (rangeCall g l) 0).run P w1 = .ok { target := .fn (.func q) captured', args := first' ++ #[.func (.yield l) #[] #[]] } w1 := by
        intro l w1
        simp [resolve, rangeCall, hax, Deferred.ofValue, show ∀ v, a.eval (.const v) = v from fun _ => rfl]
      have hn' : ¬ fn.name = "runtime.NumGoroutine" := by simpa using hok.1
      have hb' : ¬ fn.body = none := by intro h0; simp [h0] at hok
      have hinv : ∀ (l : Nat) (w1 : World), (invoke (.fn (.func q) captured') (first' ++ #[.func (.yield l) #[] #[]])).run P w1 = .ok (.enter q (first' ++ #[.func (.yield l) #[] #[]] ++ captured')) w1 := by
        intro l w1
        simp [invoke, callFunc, hfn, hn', hb']
      have hFe : F = Fence.wide := by unfold FR at hF; rw [hround] at hF; exact hF
      have hle := Le.append ρ [some (⟨w.heap.size, 0, 0, true, none⟩ : Ent)]
      have hnew := h1.new (H' := H.push (.defs false)) (x := ⟨w.heap.size, 0, 0, true, none⟩) (o := .defs false) (o' := .deferred (some [])) rfl rfl (fun j => AHeap.get_push H j _) (.defs rfl)
      have hx : (ρ ++ [some (⟨w.heap.size, 0, 0, true, none⟩ : Ent)])[H.n]? = some (some ⟨w.heap.size, 0, 0, true, none⟩) := by rw [← h1.len]; simp
      have hmark : L2 (DR P (ρ ++ [some (⟨w.heap.size, 0, 0, true, none⟩ : Ent)])) [{ target := .collected H.n, args := #[] }] [{ target := .collected w.heap.size, args := #[] }] :=
        .cons (.mark (ir_of hx rfl)) .nil
      have hf2 : AFR P (ρ ++ [some (⟨w.heap.size, 0, 0, true, none⟩ : Ent)]) cx.sz ⟨f.env, { target := .collected H.n, args := #[] } :: f.defers⟩ { a with defers := [{ target := .collected w.heap.size, args := #[] }] ++ a.defers } :=
        ⟨hf.size, fun t => (hf.tmps t).mono hle, hmark.append (L2.mono (fun _ _ h => h.mono hle) hf.defers)⟩
      have hcall := rangeStartP_ok (fn0 := fn0) (q := q) (ps := ps) (assign := assign) (body := body) (Q0 := Q) hnew (hl.mono hle) (hF.mono hle) (hf.mono hle) hf2 hx rfl (VL.mono (vl_arr hs hv) hle) (VL.mono (vl_arr hs2 hv2) hle) h
        (Q := SPost P ρ B w0 cx.sz Q) (fun e a w hp => hp.le hle)
      refine ⟨_, [{ target := .collected w.heap.size, args := #[] }], _, _, _, q, _, _, ?_, hres _ _, fun _ _ => hF.fn _, hinv _ _, hF.depth, hcall⟩
      rw [hFe]
      simp [Instr.enterLoop, Fence.wide]

def endRoundP (l : Nat) (R : Value → AHeap → Prop) : Post := fun e _ H => (∃ st pend, H.get l = .loop st pend) ∧ match e with
  | .normal => R (.bool true) (H.upd l (.loop .ready none))
  | .ret => R (.bool false) (H.upd l (.loop .done (some none)))
  | .exit id => R (.bool false) (H.upd l (.loop .done (some (some id))))
  | _ => False

theorem endRoundP_ok {l : Nat} {y : Ent} {R : Value → AHeap → Prop} {e : Exit} (hy : ρ[l]? = some (some y)) (h : HR P ρ H B w0 w) (ha : endRoundP l R e f H) :
    ∃ jump v w4, (Instr.endRound y.b jump).run P w = .ok v w4 ∧ SCall P ρ B w0 R (.returned v) w4 ∧ ((e = .normal ∧ jump = none) ∨ (e = .ret ∧ jump = some .ret) ∨ ∃ id, e = .exit id ∧ jump = some (.exit id)) := by
  obtain ⟨⟨st, pend, hg⟩, ha⟩ := ha
  obtain ⟨r0, hw, hlp, hst, hpend, hkeep⟩ := loop_at h hy hg
  have go : ∀ (st2 : LoopState) (pend2 : Option (Option Nat)) (jump : Option Code) (b : Bool), jump = pend2.map pendCode → st2 = (if jump.isNone then .ready else .done) → b = jump.isNone →
      R (.bool b) (H.upd l (.loop st2 pend2)) →
      ∃ v w4, (Instr.endRound y.b jump).run P w = .ok v w4 ∧ SCall P ρ B w0 R (.returned v) w4 := by
    intro st2 pend2 jump b hj hs hb hset
    have hput := h.put (H' := H.upd l (.loop st2 pend2)) (o := .loop st2 pend2) (o' := .loop { r0 with state := if jump.isNone then .ready else .done, pending := jump }) hy rfl hw rfl (fun q => AHeap.get_upd H l q _) (.loop hkeep hlp hs.symm hj) (by rw [hg]; rfl)
    exact ⟨_, _, run_endRound hw, _, _, hset, ρ, _, rfl, Le.refl _, hput, by rw [hb]; exact .bool _⟩
  cases e with
  | normal =>
    obtain ⟨v, w4, h1, h2⟩ := go .ready none none true rfl rfl rfl ha
    exact ⟨none, v, w4, h1, h2, .inl ⟨rfl, rfl⟩⟩
  | ret =>
    obtain ⟨v, w4, h1, h2⟩ := go .done (some none) (some .ret) false rfl rfl rfl ha
    exact ⟨some .ret, v, w4, h1, h2, .inr (.inl ⟨rfl, rfl⟩)⟩
  | exit id =>
    obtain ⟨v, w4, h1, h2⟩ := go .done (some (some id)) (some (.exit id)) false rfl rfl rfl ha
    exact ⟨some (.exit id), v, w4, h1, h2, .inr (.inr ⟨id, rfl, rfl⟩)⟩
  | _ => exact ha.elim

def assignP (P : Program) (cx : Cx) (l : Nat) (body : Code) (R : Value → AHeap → Prop) : Post := fun e f H => match e with
  | .normal => H.get l = .loop .ready none ∧ CodeS P cx body f (H.upd l (.loop .busy none)) (endRoundP l R)
  | _ => False

noncomputable def paramsAt (ps : List Tmp) (args : List Value) (env : AF) (t : Tmp) : Value := (ps.zip args).foldl (fun v pa => if t = pa.1 then pa.2 else v) (env.tmp t)

theorem RoundS.enter {loops : List (Nat × LInfo)} {l : Nat} {args : List Value} {R : Value → AHeap → Prop} {x : LInfo} (hfl : findLoop l loops = some x) (hps : x.params.size = args.length) (hlt : ∀ p, p ∈ x.params.toList → p < x.sz) (hg : H.get l = .loop .ready none)
    (h : ∀ f : AF, f.defers = [] → (∀ t, f.tmp t = paramsAt x.params.toList args ⟨x.env, []⟩ t) → CodeS P ⟨x.fn, x.sz, some l, loops⟩ x.assign f H (assignP P ⟨x.fn, x.sz, some l, loops⟩ l x.body R)) : RoundS P loops l args H R := by
  refine ⟨⟨x, _, _, hfl, hps, hg⟩, ?_⟩
  intro ρ B w0 w args' y lp fn h1 hl hv hy hlp
  obtain ⟨y2, lp2, hy2, hyk, hlp2, hpar, hass, hbody, hsz, henv, hdefs⟩ := hl l x hfl
  rw [hy] at hy2; cases hy2
  rw [hlp] at hlp2; cases hlp2
  have hbase : AFR P ρ x.sz ⟨x.env, []⟩ { tmps := lp.tmps, defers := [] } := ⟨hsz, henv, .nil⟩
  have hex : ∀ (pl : List (Tmp × Value)) (t : Tr Value), (∀ p, p ∈ pl → p.1 < x.sz) → ∃ t', (∀ {β : Type} (k : Tr Value → Option β), paramsK pl x.sz t k = k t') ∧ ∀ j, (⟨t', []⟩ : AF).tmp j = pl.foldl (fun v pa => if j = pa.1 then pa.2 else v) ((⟨t, []⟩ : AF).tmp j) := by
    intro pl
    induction pl with
    | nil => intro t _; exact ⟨t, fun _ => rfl, fun _ => rfl⟩
    | cons p pl ih =>
      intro t hp
      obtain ⟨t', h2, h3⟩ := ih (t.upd p.1 p.2) fun q hq => hp q (List.mem_cons_of_mem _ hq)
      refine ⟨t', fun k => ?_, fun j => ?_⟩
      · simp only [paramsK, if_pos (hp p (List.mem_cons_self ..)), forceV_spec, Tr.setK_upd]
        exact h2 k
      · rw [h3]
        simp only [List.foldl_cons]
        congr 1
        exact AF.tmp_upd ⟨t, []⟩ p.1 j p.2
  obtain ⟨env0, he1, he2⟩ := hex (x.params.toList.zip args) x.env (fun p hp => hlt _ (List.of_mem_zip hp).1)
  obtain ⟨env, hk, hf⟩ := paramsK_ok (pairs_zip (ps := x.params.toList) hv) hbase (k := fun t => some t) (he1 _)
  cases hk
  have hfold : (x.params.toList.zip args').foldl (fun tmps (t, a) => tmps.setIfInBounds t a) lp.tmps = (lp.params.zip args'.toArray).foldl (fun tmps (t, a) => tmps.setIfInBounds t a) lp.tmps := by
    rw [hpar, ← Array.foldl_toList]; simp
  rw [hfold] at hf
  refine roundIn_of_wpIn trivial ?_
  have hF : FR ρ ⟨x.fn, x.sz, some l, loops⟩ (Fence.wide.inRound y.b) := ⟨x, y, hfl, hy, hyk, rfl⟩
  rw [hass]
  refine wpIn_mono (h ⟨env0, []⟩ rfl he2 ρ B w0 w _ _ h1 hl hF hf) ?_
  rintro e a' w' ⟨f', H', hp, ρ', hle, hHR, hf'⟩
  cases e with
  | normal =>
    obtain ⟨hg1, hb⟩ := hp
    have hy' := hle.keeps hy hyk
    obtain ⟨r0, hw, hlp3, hst, hpend, hkeep⟩ := loop_at hHR hy' hg1
    have hput := hHR.put (H' := H'.upd l (.loop .busy none)) (o := .loop .busy none) (o' := .loop { r0 with state := .busy }) hy' rfl hw rfl (fun q => AHeap.get_upd H' l q _) (.loop hkeep hlp3 rfl hpend) (by rw [hg1]; rfl)
    refine ⟨_, run_beginRound hw hst, ?_⟩
    rw [hbody]
    refine wpIn_mono (hb ρ' B w0 _ a' _ hput (hl.mono hle) (FR.mono hF hle) hf') ?_
    rintro e2 a2 w2 ⟨f2, H2, hp2, ρ2, hle2, hHR2, hf2⟩
    obtain ⟨jump, v, w4, h5, h6, h7⟩ := endRoundP_ok (hle2.keeps hy' hyk) hHR2 hp2
    have h6' := h6.le (hle.trans hle2)
    rcases h7 with ⟨rfl, rfl⟩ | ⟨rfl, rfl⟩ | ⟨id, rfl, rfl⟩
    · exact ⟨v, w4, h5, h6'⟩
    · exact ⟨v, w4, h5, h6'⟩
    · exact ⟨v, w4, h5, h6'⟩
  | _ => exact hp.elim
end
end Go.Am
namespace Go.Am
open Go.RowKit


def poisonV : Value := .chan (some 0)

def absV (sz : Nat) : Nat → Value → Value
  | 0, _ => poisonV
  | d + 1, v => match v with
    | .bool _ | .int .. | .float .. | .complex .. | .string _ | .nilFunc | .nilIface | .pointer none | .map none => v
    | .slice none n c => if n = 0 ∧ c = 0 then .slice none 0 0 else poisonV
    | .pointer (some a) => if a.spot = none ∧ a.block < sz then v else poisonV
    | .slice (some a) n c => if a.spot = none ∧ a.block < sz ∧ n ≤ c then v else if n = 0 then .slice (some ⟨a.block, a.off, some 1⟩) 0 0 else poisonV
    | .iface t v => .iface t (absV sz d v)
    | .agg cs => .agg (cs.map (absV sz d))
    | .tuple cs => .tuple (cs.map (absV sz d))
    | _ => poisonV

noncomputable def absO (w : World) (b : Nat) : AObj := match w.heap[b]? with
  | some (.cells cur _ _) => .ext (cur.toList.map (absV w.heap.size 8)) 0
  | _ => .dead

theorem heap_exists (g : Nat → AObj) : ∀ n : Nat, ∃ H : AHeap, H.n = n ∧ ∀ i, i < n → H.get i = g i := by
  intro n
  induction n with
  | zero => exact ⟨⟨0, .e⟩, rfl, fun i h => by omega⟩
  | succ n ih =>
    obtain ⟨H, h1, h2⟩ := ih
    refine ⟨H.push (g n), by rw [AHeap.n_push, h1], fun i hi => ?_⟩
    rw [AHeap.get_push, h1]
    by_cases hin : i = n
    · rw [if_pos hin, hin]
    · rw [if_neg hin]; exact h2 i (by omega)

noncomputable def absH (w : World) : AHeap := Classical.choose (heap_exists (absO w) w.heap.size)
theorem absH_n (w : World) : (absH w).n = w.heap.size := (Classical.choose_spec (heap_exists (absO w) w.heap.size)).1
theorem absH_get (w : World) {i : Nat} (h : i < w.heap.size) : (absH w).get i = absO w i := (Classical.choose_spec (heap_exists (absO w) w.heap.size)).2 i h

noncomputable def absR (w : World) : Ren := (List.range w.heap.size).map fun b => match w.heap[b]? with
  | some (Obj.cells _ _ _) => some ⟨b, 0, 0, true, none⟩
  | _ => none

theorem absR_len (w : World) : (absR w).length = w.heap.size := by simp [absR]
theorem absR_at (w : World) {b : Nat} (h : b < w.heap.size) : ∃ x, (absR w)[b]? = some x ∧ ∀ y, x = some y → y.b = b ∧ y.keep = true ∧ ∃ cur e fz, w.heap[b]? = some (.cells cur e fz) := by
  have hx : (absR w)[b]? = some (match w.heap[b]? with
      | some (Obj.cells _ _ _) => some (⟨b, 0, 0, true, none⟩ : Ent)
      | _ => none) := by simp only [absR, List.getElem?_map, List.getElem?_range h, Option.map_some]
  refine ⟨_, hx, fun y hy => ?_⟩
  split at hy
  · rename_i cur e fz hc
    cases hy; exact ⟨rfl, rfl, cur, e, fz, hc⟩
  · cases hy

section
variable {P : Program} {w : World}

theorem abs_ir {b : Nat} (h : b < w.heap.size) : IR (absR w) b b := by
  obtain ⟨x, hx, hy⟩ := absR_at w h
  exact ⟨x, hx, fun y e => (hy y e).1⟩

theorem abs_fit {a : Addr} {c : Nat} (h : a.block < w.heap.size) : Fit P (absR w) a a c := by
  intro y hy hk
  obtain ⟨x, hx, hyy⟩ := absR_at w h
  rw [hx] at hy; cases hy
  have := (hyy y rfl).2.1
  rw [this] at hk; cases hk

theorem abs_vr : ∀ (d : Nat) (v : Value), VR P (absR w) (absV w.heap.size d v) v
  | 0, _ => .poison
  | d + 1, v => by
    have harr : ∀ (cs : Array Value), VL P (absR w) (cs.map (absV w.heap.size d)).toList cs.toList := by
      intro cs
      rw [Array.toList_map]
      have : ∀ l : List Value, VL P (absR w) (l.map (absV w.heap.size d)) l := by
        intro l
        induction l with
        | nil => exact .nil
        | cons x xs ih => exact .cons (abs_vr d x) ih
      exact this _
    cases v with
    | bool b => exact .bool b
    | int k n => exact .int k n
    | float k n => exact .float k n
    | complex k n m => exact .complex k n m
    | string s => exact .string s
    | nilFunc => exact .nilFunc
    | nilIface => exact .nilIface
    | pointer a =>
      cases a with
      | none => exact .pnil
      | some a =>
        simp only [absV]
        split
        · rename_i h; exact .ptr h.1 h.1 rfl (abs_ir h.2)
        · exact .poison
    | map r =>
      cases r with
      | none => exact .mnil
      | some r => exact .poison
    | slice a n c =>
      cases a with
      | none =>
        simp only [absV]
        split
        · rename_i h; obtain ⟨rfl, rfl⟩ := h; exact .snil
        · exact .poison
      | some a =>
        simp only [absV]
        split
        · rename_i h; exact .slice h.1 h.1 rfl (abs_ir h.2.1) h.2.2 (Nat.le_refl _) (abs_fit h.2.1)
        · split
          · rename_i h; subst h; exact .sliceE rfl
          · exact .poison
    | iface t v => exact .iface t (abs_vr d v)
    | agg cs => exact VR.agg_of (harr cs)
    | tuple cs => exact VR.tuple_of (harr cs)
    | _ => exact .poison

theorem abs_vl (d : Nat) : ∀ l : List Value, VL P (absR w) (l.map (absV w.heap.size d)) l
  | [] => .nil
  | x :: xs => .cons (abs_vr d x) (abs_vl d xs)

theorem abs_hr (hL : Laid w.heap.size w := by exact fun _ h => by cases h) : HR P (absR w) (absH w) w.heap.size w w := by
  have hlt : ∀ {i : Nat} {e}, (absR w)[i]? = some e → i < w.heap.size := fun h => by rw [← absR_len w]; exact (List.getElem?_eq_some_iff.1 h).1
  refine ⟨by rw [absR_len, absH_n], fun i x hx => ?_, fun i hx => ?_, fun i j x y hx hy hne => ?_, Below.refl _ _, Nat.le_refl _, hL⟩
  · have hi := hlt hx
    obtain ⟨x', hx', hy⟩ := absR_at w hi
    rw [hx] at hx'; cases hx'
    obtain ⟨h1, h2, cur, e, fz, hc⟩ := hy x rfl
    have hg : (absH w).get i = .ext (cur.toList.map (absV w.heap.size 8)) 0 := by rw [absH_get w hi, absO, hc]
    rw [hg]
    refine ⟨fun _ => by rw [h1]; exact hi, (fun h0 => by cases h0), _, by rw [h1]; exact hc, .ext h2 ?_⟩
    rw [List.length_map, List.take_length]
    exact abs_vl 8 _
  · have hi := hlt hx
    rw [absH_get w hi, absO]
    have hx' : (absR w)[i]? = some (match w.heap[i]? with
      | some (Obj.cells _ _ _) => some (⟨i, 0, 0, true, none⟩ : Ent)
      | _ => none) := by simp only [absR, List.getElem?_map, List.getElem?_range hi, Option.map_some]
    rw [hx] at hx'
    split at hx'
    · cases hx'
    · rename_i h0
      rfl
  · have hi := hlt hx
    obtain ⟨x', hx', hy'⟩ := absR_at w hi
    rw [hx] at hx'; cases hx'
    obtain ⟨h1, h2, cur, e, fz, hc⟩ := hy' x rfl
    have hg : (absH w).get i = .ext (cur.toList.map (absV w.heap.size 8)) 0 := by rw [absH_get w hi, absO, hc]
    rw [hg] at hne; cases hne

theorem calls_of_callS {g : FuncId} {args : List Value} {b : Bool} (h : CallS P [] g (args.map (absV w.heap.size 8)) (absH w) fun v _ => v = .bool b) (hL : Laid w.heap.size w := by exact fun _ h => by cases h) :
    Calls P g args.toArray w fun e w' => e = .returned (.bool b) ∧ Below w.heap.size w w' := by
  have hc := h (absR w) w.heap.size w w args (abs_hr hL) (fun l x hx => by simp [findLoop] at hx) (abs_vl 8 args)
  refine callsIn_wide.1 (CallsIn.mono hc ?_)
  rintro e w' ⟨v, H', rfl, ρ', v', rfl, hle, hHR, hv⟩
  cases hv
  exact ⟨rfl, hHR.base⟩

theorem abs_cell {b o : Nat} {v : Value} (h : w.cell? ⟨b, o, none⟩ = some v) : cellAt (absH w) b o = some (absV w.heap.size 8 v) := by
  unfold World.cell? at h
  split at h
  · rename_i c e fz hc
    simp only [Option.isSome_none, Bool.false_eq_true, if_false] at h
    have hb : b < w.heap.size := (Array.getElem?_eq_some_iff.1 hc).1
    have hg : (absH w).get b = .ext (c.toList.map (absV w.heap.size 8)) 0 := by
      rw [absH_get w hb, absO]; simp only at hc; rw [hc]
    simp only [cellAt, hg, List.getElem?_map]
    have : c.toList[o]? = some v := by simpa using h
    rw [this]; rfl
  · cases h

theorem CallS.of_callsL {g : FuncId} {args : List Value} {loops : List (Nat × LInfo)} {H : AHeap} {v : Value} (hp : args.all (plainV 6) = true) (hv : plainV 6 v = true)
    (h : ∀ w : World, Laid w.heap.size w → Calls P g args.toArray w fun e w' => e = .returned v ∧ Below w.heap.size w w') : CallS P loops g args H fun r H' => r = v ∧ H' = H := by
  intro ρ B w0 w args' hHR _ hva
  have hargs : args' = args := by
    have : ∀ {l l' : List Value}, l.all (plainV 6) = true → VL P ρ l l' → l' = l := by
      intro l
      induction l with
      | nil => intro l' _ h; cases h; rfl
      | cons x xs ih =>
        intro l' hl h
        cases h with
        | cons h1 h2 =>
          simp only [List.all_cons, Bool.and_eq_true] at hl
          rw [plain_eq 6 h1 hl.1, ih hl.2 h2]
    exact this hp hva
  subst hargs
  refine CallsIn.mono (callsIn_wide.2 (h w (hHR.laid.below hHR.base hHR.bound))) ?_
  rintro e w' ⟨rfl, hb⟩
  refine ⟨v, H, ⟨rfl, rfl⟩, ρ, v, rfl, Le.refl _, ?_, plain_refl 6 hv⟩
  have hlt : ∀ (i : Nat) x, ρ[i]? = some (some x) → x.b < w.heap.size := by
    intro i x hx
    obtain ⟨_, _, o', ho, _⟩ := hHR.live i x hx
    exact (Array.getElem?_eq_some_iff.1 ho).1
  refine ⟨hHR.len, fun i x hx => ?_, hHR.dead, hHR.inj, hHR.base.trans (hb.mono hHR.bound), Nat.le_trans hHR.bound hb.size, hHR.laid⟩
  obtain ⟨h1, h2, o', ho, hor⟩ := hHR.live i x hx
  exact ⟨h1, h2, o', by rw [hb.block _ (hlt i x hx)]; exact ho, hor⟩

structure Ext (H H' : AHeap) : Prop where
  n : H.n ≤ H'.n
  get : ∀ i, i < H.n → H'.get i = H.get i

theorem Ext.refl (H : AHeap) : Ext H H := ⟨Nat.le_refl _, fun _ _ => rfl⟩
theorem Ext.trans {H H' H'' : AHeap} (h : Ext H H') (h' : Ext H' H'') : Ext H H'' := ⟨Nat.le_trans h.n h'.n, fun i hi => (h'.get i (Nat.lt_of_lt_of_le hi h.n)).trans (h.get i hi)⟩
theorem Ext.push {H : AHeap} (o : AObj) : Ext H (H.push o) := ⟨by rw [AHeap.n_push]; omega, fun i hi => by rw [AHeap.get_push, if_neg (by omega)]⟩
theorem Ext.push' {H H' : AHeap} (h : Ext H H') (o : AObj) : Ext H (H'.push o) := h.trans (Ext.push o)
theorem Ext.upd {H H' : AHeap} (h : Ext H H') {i : Nat} (hi : H.n ≤ i) (o : AObj) : Ext H (H'.upd i o) := ⟨by rw [AHeap.n_upd]; exact h.n, fun j hj => by rw [AHeap.get_upd, if_neg (by omega)]; exact h.get j hj⟩
theorem Ext.cellAt {H H' : AHeap} (h : Ext H H') {b o : Nat} (hb : b < H.n) : Am.cellAt H' b o = Am.cellAt H b o := by simp only [Am.cellAt, h.get b hb]
theorem Ext.cellsAt {H H' : AHeap} (h : Ext H H') {b o n : Nat} (hb : b < H.n) : Am.cellsAt H' b o n = Am.cellsAt H b o n := by simp only [Am.cellsAt, h.get b hb]

theorem L2.join {α β γ : Type} {R : α → β → Prop} {S T : α → γ → Prop} (h : ∀ a b c, R a b → S a c → T a c) : ∀ {l : List α} {l' : List β} {l'' : List γ}, L2 R l l' → L2 S l l'' → L2 T l l''
  | _, _, _, .nil, .nil => .nil
  | _, _, _, .cons a b, .cons c d => .cons (h _ _ _ a c) (L2.join h b d)

end
end Go.Am
namespace Go.Am
open Go.RowKit

section
variable {P : Program} {H : AHeap} {β : Type} {kk : K β} {other : Unit → Option β}


theorem setL_put : ∀ (l xs : List Value), xs.length ≤ l.length → setL.put l xs = some (xs ++ l.drop xs.length)
  | l, [], _ => by cases l <;> simp [setL.put]
  | [], x :: xs, h => by simp at h
  | y :: l, x :: xs, h => by simp [setL.put, setL_put l xs (by simpa using h)]

theorem setL_eq : ∀ (l : List Value) (i : Nat) (xs : List Value), i + xs.length ≤ l.length → setL l i xs = some (l.take i ++ xs ++ l.drop (i + xs.length))
  | l, 0, xs, h => by
    have : setL l 0 xs = setL.put l xs := by cases l <;> rfl
    rw [this, setL_put l xs (by omega)]; simp
  | [], i + 1, xs, h => by simp at h
  | y :: l, i + 1, xs, h => by
    have : setL (y :: l) (i + 1) xs = (setL l i xs).map (y :: ·) := rfl
    rw [this, setL_eq l i xs (by simp at h; omega)]
    simp [show i + 1 + xs.length = (i + xs.length) + 1 by omega]

theorem setL_one {l : List Value} {i : Nat} {x : Value} (h : i < l.length) : setL l i [x] = some (l.set i x) := by
  rw [setL_eq l i [x] (by simp; omega), List.set_eq_take_append_cons_drop, if_pos h]
  simp

@[go_sem] theorem storeAt_eq {b off : Nat} {xs : List Value} {k : AHeap → Option β} : storeAt H b off xs k = match H.get b with
    | .row c e => if xs.all oneV = true then match setL c off xs with
      | some c' => k (H.upd b (.row c' e))
      | none => none else none
    | _ => none := by
  unfold storeAt
  cases H.get b with
  | row c e =>
    simp only [forceL_eq, AHeap.set_eq, setLK_eq]
    rfl
  | _ => rfl

@[go_sem] theorem aStore_at {t : TypeId} {b o : Nat} {y : Value} : aStore P t (.pointer (some ⟨b, o, none⟩)) y H kk = if szT P t = some (cellsOfV y).length then storeAt H b o (cellsOfV y) fun H' => kk undef H' else none := by
  simp [aStore]

@[go_sem] theorem setL_zero_cons {y x : Value} {l : List Value} : setL (y :: l) 0 [x] = some (x :: l) := by cases l <;> rfl
@[go_sem] theorem setL_succ_cons {y : Value} {l xs : List Value} {i : Nat} : setL (y :: l) (i + 1) xs = (setL l i xs).map (y :: ·) := rfl
@[go_sem] theorem oneV_list_int {q : IntKind} {l : List Int} : (l.map (Value.int q)).all oneV = true := by simp [List.all_eq_true, oneV]


theorem AHeap.get_push_old {o : AObj} {b : Nat} (h : b < H.n) : (H.push o).get b = H.get b := by rw [AHeap.get_push, if_neg (by omega)]
theorem AHeap.get_push_new {o : AObj} : (H.push o).get H.n = o := by rw [AHeap.get_push, if_pos rfl]
theorem AHeap.get_upd_same {o : AObj} {b : Nat} : (H.upd b o).get b = o := by rw [AHeap.get_upd, if_pos rfl]
theorem AHeap.get_upd_ne {o : AObj} {b i : Nat} (h : b ≠ i) : (H.upd i o).get b = H.get b := by rw [AHeap.get_upd, if_neg h]


def Own (H : AHeap) (base : Nat) (v : Value) (e : TypeId) (size : Nat) (cells : List Value) : Prop :=
  (v = .slice none 0 0 ∧ cells = []) ∨ ∃ b n, v = .slice (some ⟨b, 0, none⟩) n n ∧ base ≤ b ∧ b < H.n ∧ H.get b = .row cells e ∧ cells.length = n * size ∧ 0 < n

theorem Own.nil {base : Nat} {e : TypeId} {size : Nat} : Own H base (.slice none 0 0) e size [] := .inl ⟨rfl, rfl⟩
theorem Own.ext {H' : AHeap} {base : Nat} {v : Value} {e : TypeId} {size : Nat} {cells : List Value} (h : Own H base v e size cells) (hx : Ext H H') : Own H' base v e size cells := by
  rcases h with h | ⟨b, n, h1, h2, h3, h4, h5⟩
  · exact .inl h
  · exact .inr ⟨b, n, h1, h2, Nat.lt_of_lt_of_le h3 hx.n, by rw [hx.get b h3]; exact h4, h5⟩

theorem Own.mono {base base' : Nat} {v : Value} {e : TypeId} {size : Nat} {cells : List Value} (h : Own H base v e size cells) (hb : base' ≤ base) : Own H base' v e size cells := by
  rcases h with h | ⟨b, n, h1, h2, h3⟩
  · exact .inl h
  · exact .inr ⟨b, n, h1, Nat.le_trans hb h2, h3⟩

def Grown (H H' : AHeap) (base : Nat) (v : Value) : Prop :=
  H.n ≤ H'.n ∧ ∀ i, i < H.n → (∀ b n, v = .slice (some ⟨b, 0, none⟩) n n → 0 < n → i ≠ b) → H'.get i = H.get i

theorem Grown.ext {H H' : AHeap} {base : Nat} {v : Value} {e : TypeId} {size : Nat} {cells : List Value} (h : Grown H H' base v) (ho : Own H base v e size cells) {H0 : AHeap} (hb : H0.n ≤ base) (hx : Ext H0 H) : Ext H0 H' := by
  refine ⟨Nat.le_trans hx.n h.1, fun i hi => ?_⟩
  rw [h.2 i (Nat.lt_of_lt_of_le hi hx.n) ?_]
  · exact hx.get i hi
  · intro b n hv hn hib
    rcases ho with ⟨h1, _⟩ | ⟨b', n', h1, h2, _⟩
    · rw [h1] at hv; cases hv
    · rw [h1] at hv; cases hv; omega

theorem aAppend_own {t t' e : TypeId} {i : TypeInfo} {z : Value} {base : Nat} {s x : Value} {old new : List Value} {m : Nat} (ht : t' = t) (he : elemT P t = some e) (hi : P.info? e = some i) (hz : zeroT P e = some z) (hzs : (cellsOfV z).length = i.size) (hs0 : 0 < i.size)
    (hs : Own H base s e i.size old) (hx : srcCells H i.size x = some (m, new)) (hm : 0 < m) (hnew : new.length = m * i.size) (hone : (old ++ new).all oneV = true) (hbig : (old.length + new.length) * max i.bytes 1 ≤ 1073741824) (hbase : base ≤ H.n) :
    ∃ v H', aAppend P #[t, t'] s x H kk = kk v H' ∧ Own H' H.n v e i.size (old ++ new) ∧ Grown H H' base s := by
  subst ht
  have hok : ∀ n, old.length = n * i.size → appendOk P e i n m = true := by
    intro n hn
    simp only [appendOk, hz, Bool.and_eq_true, Bool.not_eq_true']
    refine ⟨⟨?_, ?_⟩, ?_⟩
    · apply Nat.ble_eq_true_of_le
      refine Nat.le_trans (Nat.mul_le_mul_right _ ?_) hbig
      rw [hn, hnew, ← Nat.add_mul]
      exact Nat.le_mul_of_pos_right _ hs0
    · rw [Bool.eq_false_iff]; intro h0; have := Nat.eq_of_beq_eq_true h0; omega
    · rw [hzs]; exact Nat.beq_refl _
  rcases hs with ⟨rfl, rfl⟩ | ⟨b, n, rfl, hb1, hb2, hg, hlen, hn0⟩
  · refine ⟨.slice (some ⟨H.n, 0, none⟩) m m, H.push (.row new e), ?_, .inr ⟨H.n, m, rfl, Nat.le_refl _, by rw [AHeap.n_push]; omega, ?_, by simpa using hnew, hm⟩, ?_, fun j hj _ => AHeap.get_push_old hj⟩
    · simp only [aAppend]
      rw [if_neg (by simp)]
      simp only [he, hi, hx]
      rw [if_neg (by omega), hok 0 (by simp)]
      simp only [appendOn, and_self, if_true, forceL_eq]
      rw [if_pos (by simpa using hone), AHeap.new_eq]
    · rw [AHeap.get_push_new]; simp
    · rw [AHeap.n_push]; omega
  · refine ⟨.slice (some ⟨H.n, 0, none⟩) (n + m) (n + m), (H.upd b .dead).push (.row (old ++ new) e), ?_, .inr ⟨H.n, n + m, rfl, Nat.le_refl _, by rw [AHeap.n_push, AHeap.n_upd]; omega, ?_, by rw [List.length_append, hlen, hnew, Nat.add_mul], by omega⟩, ?_, fun j hj hne => ?_⟩
    · simp only [aAppend]
      rw [if_neg (by simp)]
      simp only [he, hi, hx]
      rw [if_neg (by omega), hok n hlen]
      simp only [appendOn, elemIs, hg, beq_self_eq_true, Bool.true_eq_false, ne_eq, not_true, or_self, if_false]
      rw [if_neg (by omega)]
      simp only [cellsAt, hg]
      rw [if_pos (by omega)]
      simp only [growOn, forceL_eq]
      have : (List.drop 0 old).take (n * i.size) = old := by rw [List.drop_zero, ← hlen, List.take_length]
      rw [this, if_pos hone, AHeap.set_eq, AHeap.new_eq]
      rfl
    · rw [show H.n = (H.upd b .dead).n from rfl, AHeap.get_push_new]
    · rw [AHeap.n_push, AHeap.n_upd]; omega
    · rw [AHeap.get_push_old (by rw [AHeap.n_upd]; exact hj), AHeap.get_upd_ne (hne b n rfl hn0)]


def MapIs (H : AHeap) (r : Nat) (l : List (Int × Value)) : Prop := ∃ es clock, H.get r = .map es clock ∧ es.map (fun e => (e.key, e.val)) = l.map fun p => (Value.int .i64 p.1, p.2)

theorem MapIs.new : MapIs (H.push (.map [] 0)) H.n [] := ⟨[], 0, AHeap.get_push_new, rfl⟩
theorem MapIs.ext {H' : AHeap} {r : Nat} {l : List (Int × Value)} (h : MapIs H r l) (hr : r < H.n) (hx : Ext H H') : MapIs H' r l := by
  obtain ⟨es, c, h1, h2⟩ := h
  exact ⟨es, c, by rw [hx.get r hr]; exact h1, h2⟩


def bytesT (P : Program) (t : TypeId) : Option Nat := (P.info? t).map (·.bytes)

theorem info_of {e : TypeId} {size bytes : Nat} (hs : szT P e = some size) (hb : bytesT P e = some bytes) : ∃ i, P.info? e = some i ∧ i.size = size ∧ i.bytes = bytes := by
  unfold szT at hs; unfold bytesT at hb
  cases h : P.info? e with
  | none => rw [h] at hs; cases hs
  | some i => rw [h] at hs hb; simp at hs hb; exact ⟨i, rfl, hs, hb⟩

theorem append_k {kp : Value → AHeap → Option Prop} {t e : TypeId} {size bytes : Nat} {z : Value} {base : Nat} {s x : Value} {old new : List Value} {m : Nat} (he : elemT P t = some e) (hsz : szT P e = some size) (hby : bytesT P e = some bytes) (hz : zeroT P e = some z) (hzs : (cellsOfV z).length = size) (hs0 : 0 < size)
    (hs : Own H base s e size old) (hx : srcCells H size x = some (m, new)) (hm : 0 < m) (hnew : new.length = m * size) (hone : (old ++ new).all oneV = true) (hbig : (old.length + new.length) * max bytes 1 ≤ 1073741824) (hbase : base ≤ H.n)
    (h : ∀ v H', Own H' base v e size (old ++ new) → Grown H H' base s → Holds (kp v H')) : Holds (aAppend P #[t, t] s x H kp) := by
  obtain ⟨i, hi, rfl, rfl⟩ := info_of hsz hby
  obtain ⟨v, H', h1, h2, h3⟩ := aAppend_own (kk := kp) rfl he hi hz hzs hs0 hs hx hm hnew hone hbig hbase
  rw [h1]; exact h v H' (h2.mono hbase) h3

theorem append_k2 {kp : Value → AHeap → Option Prop} {t e : TypeId} {size bytes : Nat} {z : Value} {base : Nat} {s x : Value} {old new : List Value} {m : Nat} (he : elemT P t = some e) (hsz : szT P e = some size) (hby : bytesT P e = some bytes) (hz : zeroT P e = some z) (hzs : (cellsOfV z).length = size) (hs0 : 0 < size)
    (hs : Own H base s e size old) (hx : srcCells H size x = some (m, new)) (hm : 0 < m) (hnew : new.length = m * size) (hone : (old ++ new).all oneV = true) (hbig : (old.length + new.length) * max bytes 1 ≤ 1073741824) (hbase : base ≤ H.n)
    (h : ∀ v H', Own H' H.n v e size (old ++ new) → Grown H H' base s → Holds (kp v H')) : Holds (aAppend P #[t, t] s x H kp) := by
  obtain ⟨i, hi, rfl, rfl⟩ := info_of hsz hby
  obtain ⟨v, H', h1, h2, h3⟩ := aAppend_own (kk := kp) rfl he hi hz hzs hs0 hs hx hm hnew hone hbig hbase
  rw [h1]; exact h v H' h2 h3

@[go_sem] theorem aFieldAddr_k {s : TypeId} {i b o : Nat} : aFieldAddr P s (.pointer (some ⟨b, o, none⟩)) i H kk = match (fieldOf P s i).map (fun f => (f.type, f.offset)) with
    | some (ty, off) => match szT P ty with
      | some n => if n = 0 then none else kk (.pointer (some ⟨b, o + off, none⟩)) H
      | none => none
    | none => none := by
  rw [aFieldAddr_at]
  cases fieldOf P s i with
  | none => rfl
  | some f => rfl
end
end Go.Am
