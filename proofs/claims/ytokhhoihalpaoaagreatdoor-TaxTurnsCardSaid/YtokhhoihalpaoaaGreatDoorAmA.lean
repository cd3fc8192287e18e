/- The closed evaluator, and its relation of values and heaps. -/
import Derived.RangeFuncLeaves
import Derived.OrdersIn
import Derived.LoopNIn
import Derived.RecoverIn
import Derived.Below
import Derived.Laws.AppendOwn
import Derived.Lib.TrailingZeros
import Derived.Lib.Join
set_option linter.all false
namespace Go.Am
noncomputable section


inductive Tr (α : Type) where
  | e
  | n (v : Option α) (l r : Tr α)

def Tr.get {α : Type} (t : Tr α) : Nat → Option α :=
  @Tr.rec α (fun _ => Nat → Option α) (fun _ => none) (fun v _ _ gl gr i =>
    @Bool.rec (fun _ => Option α) (@Bool.rec (fun _ => Option α) (gr (Nat.pred (Nat.div i 2))) (gl (Nat.div i 2)) (Nat.beq (Nat.mod i 2) 1)) v (Nat.beq i 0)) t

def Tr.setK {α β : Type} (d : Nat) : Tr α → Nat → α → (Tr α → Option β) → Option β :=
  @Nat.rec (fun _ => Tr α → Nat → α → (Tr α → Option β) → Option β) (fun _ _ _ _ => none) (fun _ ih t i v k =>
    @Tr.rec α (fun _ => Option β)
      (@Bool.rec (fun _ => Option β) (@Bool.rec (fun _ => Option β) (ih .e (Nat.pred (Nat.div i 2)) v fun r' => k (.n none .e r')) (ih .e (Nat.div i 2) v fun l' => k (.n none l' .e)) (Nat.beq (Nat.mod i 2) 1)) (k (.n (some v) .e .e)) (Nat.beq i 0))
      (fun u l r _ _ => @Bool.rec (fun _ => Option β) (@Bool.rec (fun _ => Option β) (ih r (Nat.pred (Nat.div i 2)) v fun r' => k (.n u l r')) (ih l (Nat.div i 2) v fun l' => k (.n u l' r)) (Nat.beq (Nat.mod i 2) 1)) (k (.n (some v) l r)) (Nat.beq i 0)) t) d

def forceN {β : Type} (m : Nat) (k : Nat → Option β) : Option β := match m with | 0 => k 0 | m' + 1 => k (m' + 1)

def forceV {β : Type} (v : Value) (k : Value → Option β) : Option β :=
  match v with
  | .int q n => match n with
    | .ofNat m => forceN m fun m => k (.int q (.ofNat m))
    | .negSucc m => forceN m fun m => k (.int q (.negSucc m))
  | .bool b => match b with | true => k (.bool true) | false => k (.bool false)
  | .pointer a => match a with
    | none => k (.pointer none)
    | some a => forceN a.block fun b => forceN a.off fun o => k (.pointer (some ⟨b, o, a.spot⟩))
  | .slice a n c => match a with
    | none => forceN n fun n => forceN c fun c => k (.slice none n c)
    | some a => forceN a.block fun b => forceN a.off fun o => forceN n fun n => forceN c fun c => k (.slice (some ⟨b, o, a.spot⟩) n c)
  | v => k v


inductive AObj where
  | row (c : List Value) (e : TypeId)
  | map (es : List MapEntry) (clock : Nat)
  | iter (m : Option Nat) (since : Nat) (seen : List Nat) (last : Nat)
  | siter (s : ByteArray) (pos : Nat)
  | loop (st : LoopState) (pend : Option (Option Nat))
  | defs (shut : Bool)
  | ext (c : List Value) (e : TypeId)
  | dead

def isExt : AObj → Bool
  | .ext .. => true
  | _ => false

structure AHeap where
  n : Nat
  t : Tr AObj

def AHeap.get (H : AHeap) (i : Nat) : AObj := match H.t.get i with | some o => o | none => .dead

def AHeap.set {β : Type} (H : AHeap) (i : Nat) (o : AObj) (k : AHeap → Option β) : Option β := H.t.setK (i + 1) i o fun t => k ⟨H.n, t⟩

def AHeap.new {β : Type} (H : AHeap) (o : AObj) (k : Nat → AHeap → Option β) : Option β :=
  H.t.setK (H.n + 1) H.n o fun t => forceN (H.n + 1) fun n => k H.n ⟨n, t⟩


def plainV : Nat → Value → Bool
  | 0, _ => false
  | d + 1, v => match v with
    | .bool _ | .int .. | .float .. | .complex .. | .string _ | .nilFunc | .nilIface | .pointer none | .slice none 0 0 | .map none => true
    | .iface _ v => plainV d v
    | .agg cs | .tuple cs => cs.toList.all (plainV d)
    | .func fn f c => match fn with
      | .func _ => f.toList.all (plainV d) && c.toList.all (plainV d)
      | _ => false
    | _ => false


structure AF where
  env : Tr Value
  defers : List Deferred

def AF.tmp (f : AF) (t : Nat) : Value := match f.env.get t with | some v => v | none => undef

def AF.eval (f : AF) : Operand → Value
  | .tmp t => f.tmp t
  | .const v => match plainV 6 v with | true => v | false => .chan (some 0)
  | .global _ => .chan (some 0)
  | .func g => .func (.func g) #[] #[]

structure LInfo where
  fn : FuncId
  sz : Nat
  env : Tr Value
  params : Array Tmp
  assign : Code
  body : Code
  defers : Nat

structure Cx where
  fn : FuncId
  sz : Nat
  round : Option Nat
  loops : List (Nat × LInfo)

structure Out where
  e : Exit
  f : AF
  v : Value
  H : AHeap

inductive Task where
  | code (cx : Cx) (c : Code) (f : AF) (H : AHeap)
  | call (dm : Bool) (loops : List (Nat × LInfo)) (f : FuncId) (args : List Value) (H : AHeap)
  | round (loops : List (Nat × LInfo)) (l : Nat) (args : List Value) (H : AHeap)

abbrev Rec := Task → Option (List Out)

def bindO {α β : Type} : List α → (α → Option (List β)) → Option (List β)
  | [], _ => some []
  | x :: xs, k => match k x with
    | none => none
    | some l => match xs with
      | [] => some l
      | _ => match bindO xs k with
        | none => none
        | some l' => some (l ++ l')

def pureOf {α : Type} (P : Program) : Sem α → Option α
  | .pure a => some a
  | .program k => pureOf P (k P)
  | _ => none


inductive R (β : Type) where
  | val (v : Value) (H : AHeap)
  | skip (H : AHeap)

def cellAt (H : AHeap) (b off : Nat) : Option Value :=
  match H.get b with
  | .row c _ => c[off]?
  | .ext c _ => c[off]?
  | _ => none

def cellsAt (H : AHeap) (b off n : Nat) : Option (List Value) :=
  match H.get b with
  | .row c _ => if off + n ≤ c.length then some ((c.drop off).take n) else none
  | .ext c _ => if off + n ≤ c.length then some ((c.drop off).take n) else none
  | _ => none

def cellsOfV : Value → List Value
  | .agg cs => cs.toList
  | v => [v]

def oneV : Value → Bool
  | .agg _ | .tuple _ | .chan _ => false
  | _ => true

def setL : List Value → Nat → List Value → Option (List Value)
  | l, 0, xs => put l xs
  | y :: l, i + 1, xs => (setL l i xs).map (y :: ·)
  | [], _ + 1, [] => some []
  | [], _ + 1, _ => none
where
  put : List Value → List Value → Option (List Value)
    | l, [] => some l
    | _ :: l, x :: xs => (put l xs).map (x :: ·)
    | [], _ :: _ => none

def forceL {β : Type} : List Value → (List Value → Option β) → Option β
  | [], k => k []
  | x :: xs, k => match oneV x with
    | true => forceV x fun x => forceL xs fun xs => k (x :: xs)
    | false => none

def putK {β : Type} : List Value → List Value → (List Value → Option β) → Option β
  | l, [], k => k l
  | _ :: l, x :: xs, k => putK l xs fun l' => k (x :: l')
  | [], _ :: _, _ => none

def setLK {β : Type} (l : List Value) (i : Nat) (xs : List Value) (k : List Value → Option β) : Option β :=
  @List.rec Value (fun _ => Nat → (List Value → Option β) → Option β)
    (fun i k => @Nat.rec (fun _ => Option β) (putK [] xs k) (fun _ _ => match xs with | [] => k [] | _ :: _ => none) i)
    (fun y l ih i k => @Nat.rec (fun _ => Option β) (putK (y :: l) xs k) (fun i' _ => ih i' fun l' => k (y :: l')) i) l i k

def storeAt {β : Type} (H : AHeap) (b off : Nat) (xs : List Value) (k : AHeap → Option β) : Option β :=
  match H.get b with
  | .row c e => forceL xs fun xs => setLK c off xs fun c' => H.set b (.row c' e) k
  | _ => none

def isAggT (P : Program) (t : TypeId) : Option Bool :=
  match P.underlying t with
  | some (.struct _) | some (.array _ _) => some true
  | some _ => some false
  | none => none

def szT (P : Program) (t : TypeId) : Option Nat := (P.info? t).map (·.size)

def elemT (P : Program) (t : TypeId) : Option TypeId :=
  match P.underlying t with
  | some (.slice e) => some e
  | _ => none

def zeroT (P : Program) (t : TypeId) : Option Value := match P.info? t with
  | some i => match i.zero with
    | some z => match plainV 6 z with | true => some z | false => none
    | none => none
  | none => none

def srcCells (H : AHeap) (size : Nat) : Value → Option (Nat × List Value)
  | .slice none 0 _ => some (0, [])
  | .slice (some a) m _ => if m = 0 then some (0, []) else (cellsAt H a.block a.off (m * size)).map fun l => (m, l)
  | _ => none

def elemIs (H : AHeap) (b : Nat) (e : TypeId) : Bool :=
  match H.get b with
  | .row _ e' => e' == e
  | _ => false

def elemIsR (H : AHeap) (b : Nat) (e : TypeId) : Bool :=
  match H.get b with
  | .row _ e' => e' == e
  | .ext _ _ => true
  | _ => false

abbrev K (β : Type) := Value → AHeap → Option β

def growOn {β : Type} (elem : TypeId) (a : Addr) (n m : Nat) (old new : List Value) (H : AHeap) (k : K β) : Option β :=
  forceL (old ++ new) fun l => H.set a.block .dead fun H => H.new (.row l elem) fun b H' => k (.slice (some ⟨b, 0, none⟩) (n + m) (n + m)) H'

def appendOn {β : Type} (elem : TypeId) (size : Nat) (base : Option Addr) (n c m : Nat) (new : List Value) (H : AHeap) (k : K β) : Option β :=
  match base with
  | none => if n = 0 ∧ c = 0 then forceL new fun new => H.new (.row new elem) fun b H' => k (.slice (some ⟨b, 0, none⟩) m m) H' else none
  | some a => match a.spot with
    | some _ => none
    | none => if elemIs H a.block elem = false ∨ a.off ≠ 0 then none else
      if n + m ≤ c then storeAt H a.block (n * size) new fun H' => k (.slice (some a) (n + m) c) H'
      else match cellsAt H a.block 0 (n * size) with
        | none => none
        | some old => growOn elem a n m old new H k

def appendOk (P : Program) (elem : TypeId) (i : TypeInfo) (n m : Nat) : Bool :=
  Nat.ble ((n + m) * max i.bytes 1) 1073741824 && !Nat.beq i.size 0 && (match zeroT P elem with | some z => Nat.beq (cellsOfV z).length i.size | none => false)

def aAppend {β : Type} (P : Program) (ts : Array TypeId) (s x : Value) (H : AHeap) (k : K β) : Option β :=
  match ts.toList with
  | [t, t'] => if t' ≠ t then none else match elemT P t with
    | some elem => match P.info? elem with
      | none => none
      | some i =>
        match srcCells H i.size x with
        | none => none
        | some (m, new) =>
          match s with
          | .slice base n c =>
            if m = 0 then k (.slice base n c) H else
            match appendOk P elem i n m with
            | true => appendOn elem i.size base n c m new H k
            | false => none
          | _ => none
    | none => none
  | _ => none

def aNext (it : Value) (H : AHeap) (k : K (List Out)) : Option (List Out) :=
  match it with
  | .pointer (some ⟨r, 0, _⟩) => match H.get r with
    | .iter none _ _ _ => k (.tuple #[.bool false]) H
    | .iter (some m) since seen last => match H.get m with
      | .map es clock =>
        if es.all (fun e => decide (e.born < since)) && decide (since ≤ last) then
          match es.filter fun e => !seen.contains e.born with
          | [] => k (.tuple #[.bool false]) H
          | left => bindO left fun e => H.set r (.iter (some m) since (seen ++ [e.born]) clock) fun H' => k (.tuple #[.bool true, e.key, e.val]) H'
        else none
      | _ => none
    | _ => none
  | _ => none

def keyEq : Value → Value → Option Bool
  | .int k a, .int k' b => if k = k' then some (a == b) else none
  | .string a, .string b => some (a == b)
  | .bool a, .bool b => some (a == b)
  | .agg a, .agg b => match a.toList, b.toList with
    | [.int p0 a0, .int p1 a1, .int p2 a2], [.int q0 b0, .int q1 b1, .int q2 b2] => if p0 = q0 ∧ p1 = q1 ∧ p2 = q2 then some (a0 == b0 && (a1 == b1 && a2 == b2)) else none
    | _, _ => none
  | _, _ => none

def findE (key : Value) : List MapEntry → Nat → Option (Option (Nat × Value))
  | [], _ => some none
  | e :: es, i => match keyEq key e.key with
    | some true => some (some (i, e.val))
    | some false => findE key es (i + 1)
    | none => none

def setE : List MapEntry → Nat → (MapEntry → MapEntry) → List MapEntry
  | [], _, _ => []
  | e :: es, 0, g => g e :: es
  | e :: es, i + 1, g => e :: setE es i g

def intField (P : Program) (f : Field) (off : Nat) (q : IntKind) : Bool :=
  f.name != "_" && Nat.beq f.offset off && match P.underlying f.type with
  | some (.int q') => q == q'
  | _ => false

def keyT (P : Program) (t : TypeId) (key : Value) : Bool :=
  match P.underlying t, key with
  | some (.struct fs), .agg cs => match fs.toList, cs.toList with
    | [f0, f1, f2], [.int q0 _, .int q1 _, .int q2 _] => intField P f0 0 q0 && intField P f1 1 q1 && intField P f2 2 q2 && !P.stoodInHeld t
    | _, _ => false
  | some (.int q), .int q' _ => q == q'
  | some .string, .string _ => true
  | some .bool, .bool _ => true
  | _, _ => false

def partsCells (P : Program) (size : Nat) (zero : List Value) : List (Nat × Value) → Option (List Value)
  | [] => some zero
  | (i, v) :: rest => if (cellsOfV v).length ≠ size ∨ (cellsOfV v).all oneV = false then none else match setL zero (i * size) (cellsOfV v) with
    | none => none
    | some z => partsCells P size z rest

def repl (zero : List Value) : Nat → List Value
  | 0 => []
  | n + 1 => zero ++ repl zero n

def fieldsFill (P : Program) (fields : Array Field) (zero : List Value) : List (Nat × Value) → Option (List Value)
  | [] => some zero
  | (i, v) :: rest => match fields[i]? with
    | none => none
    | some f => if some (cellsOfV v).length ≠ szT P f.type ∨ (cellsOfV v).all oneV = false then none else match setL zero f.offset (cellsOfV v) with
      | none => none
      | some z => fieldsFill P fields z rest

def hiOf (n c : Nat) : Option Value → Option Nat
  | none => some n
  | some (.int _ (.ofNat h)) => if h ≤ c then some h else none
  | _ => none

def loOf : Option Value → Option Nat
  | none => some 0
  | some (.int _ (.ofNat l)) => some l
  | _ => none

def sliceOn {β : Type} (elem : TypeId) (size : Nat) (a : Option Addr) (c h l : Nat) (H : AHeap) (k : K β) : Option β :=
  match a with
  | none => k (.slice none (h - l) (c - l)) H
  | some a => if !elemIsR H a.block elem then none else match a.spot with
    | some _ => none
    | none => if l < c then k (.slice (some ⟨a.block, a.off + l * size, none⟩) (h - l) (c - l)) H else if l = 0 then k (.slice (some a) h c) H else k (.slice (some ⟨a.block, a.off, some 1⟩) (h - l) 0) H

def aSlice {β : Type} (P : Program) (t : TypeId) (x : Value) (lo hi : Option Value) (H : AHeap) (k : K β) : Option β :=
  match elemT P t, x with
  | some elem, .slice a n c => match hiOf n c hi, loOf lo, szT P elem with
    | some h, some l, some size => if l ≤ h then sliceOn elem size a c h l H k else none
    | _, _, _ => none
  | _, _ => none

def arrayT (P : Program) (t : TypeId) : Option (Nat × TypeId) :=
  match P.underlying t with
  | some (.array n e) => some (n, e)
  | _ => none

def aSliceArr {β : Type} (P : Program) (t : TypeId) (x : Value) (lo hi : Option Value) (H : AHeap) (k : K β) : Option β :=
  match arrayT P t, x with
  | some (n, elem), .pointer (some a) => match hiOf n n hi, loOf lo, szT P elem with
    | some h, some l, some size => if a.spot.isSome then none else if l ≤ h then
        (if l < n then k (.slice (some ⟨a.block, a.off + l * size, some 0⟩) (h - l) (n - l)) H else k (.slice (some ⟨a.block, a.off, some 1⟩) 0 0) H) else none
    | _, _, _ => none
  | _, _ => none

def nilEq (P : Program) (t : TypeId) (x y : Value) : Option Bool :=
  match P.underlying t, x, y with
  | some (.slice _), .slice (some _) _ _, .slice none _ _ | some (.slice _), .slice none _ _, .slice (some _) _ _ => some false
  | some (.pointer _), .pointer (some _), .pointer none | some (.pointer _), .pointer none, .pointer (some _) => some false
  | some (.map _ _), .map (some _), .map none | some (.map _ _), .map none, .map (some _) => some false
  | some (.func _ _ _), .func _ _ _, .nilFunc | some (.func _ _ _), .nilFunc, .func _ _ _ => some false
  | some (.interface _), .iface _ _, .nilIface | some (.interface _), .nilIface, .iface _ _ => some false
  | _, _, _ => none

def aExtract {β : Type} (x : Value) (i : Nat) (H : AHeap) (k : K β) : Option β :=
  match x with
  | .tuple vs => match vs.toList[i]? with
    | some v => k v H
    | none => none
  | _ => none

def aPick {β : Type} (c a b : Value) (H : AHeap) (k : K β) : Option β :=
  match c with
  | .bool true => k a H
  | .bool false => k b H
  | _ => none

def aLoad {β : Type} (P : Program) (t : TypeId) (x : Value) (H : AHeap) (k : K β) : Option β :=
  match x with
  | .pointer (some a) => if a.spot.isSome then none else match isAggT P t with
    | some false => match cellAt H a.block a.off with
      | some v => k v H
      | none => none
    | some true => match szT P t with
      | some n => match cellsAt H a.block a.off n with
        | some l => k (.agg l.toArray) H
        | none => none
      | none => none
    | none => none
  | _ => none

def aStore {β : Type} (P : Program) (t : TypeId) (x y : Value) (H : AHeap) (k : K β) : Option β :=
  match x with
  | .pointer (some a) => if a.spot.isSome then none else
    if szT P t = some (cellsOfV y).length then storeAt H a.block a.off (cellsOfV y) fun H' => k undef H' else none
  | _ => none

def newP {β : Type} (H : AHeap) (o : AObj) (k : K β) : Option β := H.new o fun b H' => k (.pointer (some ⟨b, 0, none⟩)) H'

def aAlloc {β : Type} (P : Program) (t : TypeId) (H : AHeap) (k : K β) : Option β :=
  match zeroT P t with
  | some z => forceL (cellsOfV z) fun l => newP H (.row l t) k
  | none => none

def aBox {β : Type} (t : TypeId) (x : Value) (H : AHeap) (k : K β) : Option β :=
  forceL (cellsOfV x) fun l => newP H (.row l t) k

def fieldOf (P : Program) (s : TypeId) (i : Nat) : Option Field :=
  match P.underlying s with
  | some (.struct fields) => fields[i]?
  | _ => none

def aFieldAddr {β : Type} (P : Program) (s : TypeId) (x : Value) (i : Nat) (H : AHeap) (k : K β) : Option β :=
  match x with
  | .pointer (some a) => match fieldOf P s i with
    | some f => match szT P f.type with
      | some n => if a.spot.isSome ∨ n = 0 then none else k (.pointer (some ⟨a.block, a.off + f.offset, none⟩)) H
      | none => none
    | none => none
  | _ => none

def aIndexAddr {β : Type} (P : Program) (t : TypeId) (x i : Value) (H : AHeap) (k : K β) : Option β :=
  match i with
  | .int _ (.ofNat i) => match x with
    | .slice (some a) n _ => match elemT P t with
      | some elem => match szT P elem with
        | some size => if i < n then k (.pointer (some ⟨a.block, a.off + i * size, none⟩)) H else none
        | none => none
      | none => none
    | .pointer (some a) => match arrayT P t with
      | some (len, elem) => match szT P elem with
        | some size => if i < len then (if a.spot.isSome then none else k (.pointer (some ⟨a.block, a.off + i * size, none⟩)) H) else none
        | none => none
      | none => none
    | _ => none
  | _ => none

def aBuild {β : Type} (P : Program) (t : TypeId) (parts : List (Nat × Value)) (H : AHeap) (k : K β) : Option β :=
  match zeroT P t with
  | some z => match P.underlying t with
    | some (.struct fields) => match fields.toList.all (fun f => (szT P f.type).isSome && decide (f.offset ≤ (cellsOfV z).length)) with
      | true => match fieldsFill P fields (cellsOfV z) parts with
        | some l => forceL l fun l => k (.agg l.toArray) H
        | none => none
      | false => none
    | some (.array _ e) => match szT P e with
      | some size => match Nat.beq size 0 with
        | true => none
        | false => match partsCells P size (cellsOfV z) parts with
          | some l => forceL l fun l => k (.agg l.toArray) H
          | none => none
      | none => none
    | _ => none
  | none => none

def aBuildSlice {β : Type} (P : Program) (t : TypeId) (len : Nat) (parts : List (Nat × Value)) (H : AHeap) (k : K β) : Option β :=
  match elemT P t with
  | some e => match szT P e, zeroT P e with
    | some size, some z => if len * size > 65536 ∨ (cellsOfV z).length ≠ size ∨ size = 0 then none else
      match partsCells P size (repl (cellsOfV z) len) parts with
      | some l => forceL l fun l => H.new (.row l e) fun b H' => k (.slice (some ⟨b, 0, none⟩) len len) H'
      | none => none
    | _, _ => none
  | none => none

def aMakeSlice {β : Type} (P : Program) (t : TypeId) (x y : Value) (H : AHeap) (k : K β) : Option β :=
  match elemT P t, x, y with
  | some e, .int _ (.ofNat n), .int _ (.ofNat c) => match P.info? e, zeroT P e with
    | some i, some z => if n ≤ c ∧ c * max i.bytes 1 ≤ 1073741824 ∧ c * i.size ≤ 65536 ∧ (cellsOfV z).length = i.size then
        H.new (.row (repl (cellsOfV z) c) e) fun b H' => k (.slice (some ⟨b, 0, none⟩) n c) H' else none
    | _, _ => none
  | _, _, _ => none

def mapT (P : Program) (t : TypeId) : Option (TypeId × TypeId) :=
  match P.underlying t with
  | some (.map a b) => some (a, b)
  | _ => none

def mapOf (H : AHeap) : Value → Option (List MapEntry)
  | .map none => some []
  | .map (some r) => match H.get r with
    | .map es _ => some es
    | _ => none
  | _ => none

def aLookup {β : Type} (P : Program) (t : TypeId) (x i : Value) (ok : Bool) (H : AHeap) (k : K β) : Option β :=
  match mapT P t with
  | some (kt, e) => if !keyT P kt i then none else
    match mapOf H x with
    | none => none
    | some es => match findE i es 0 with
      | none => none
      | some (some (_, v)) => k (if ok then .tuple #[v, .bool true] else v) H
      | some none => match zeroT P e with
        | some z => k (if ok then .tuple #[z, .bool false] else z) H
        | none => none
  | _ => none

def aMapUpdate {β : Type} (P : Program) (t : TypeId) (m i x : Value) (H : AHeap) (k : K β) : Option β :=
  match mapT P t, m with
  | some (kt, _), .map (some r) => if !keyT P kt i then none else match H.get r with
    | .map es clock => match findE i es 0 with
      | none => none
      | some (some (j, _)) => forceV x fun v => H.set r (.map (setE es j fun e => { e with key := i, val := v }) clock) fun H' => k undef H'
      | some none => forceV i fun i => forceV x fun v => H.set r (.map (es ++ [{ key := i, val := v, born := clock }]) (clock + 1)) fun H' => k undef H'
    | _ => none
  | _, _ => none

def aRange {β : Type} (P : Program) (t : TypeId) (x : Value) (H : AHeap) (k : K β) : Option β :=
  match P.underlying t, x with
  | some .string, .string s => newP H (.siter s 0) k
  | some (.map _ _), .map none => newP H (.iter none 0 [] 0) k
  | some (.map _ _), .map (some m) => match H.get m with
    | .map _ clock => newP H (.iter (some m) clock [] clock) k
    | _ => none
  | _, _ => none

def aNextS {β : Type} (it : Value) (H : AHeap) (k : K β) : Option β :=
  match it with
  | .pointer (some ⟨r, 0, _⟩) => match H.get r with
    | .siter s pos => if pos < s.size then
        forceN (pos + (Utf8.decode s pos).2) fun p => H.set r (.siter s p) fun H' => k (.tuple #[.bool true, goInt pos, .int .i32 (Utf8.decode s pos).1]) H'
      else k (.tuple #[.bool false]) H
    | _ => none
  | _ => none

def aEntry {β : Type} (it : Value) (H : AHeap) (k : K β) : Option β :=
  match it with
  | .pointer (some ⟨r, 0, _⟩) => match H.get r with
    | .iter (some m) _ seen last => match seen.getLast?, H.get m with
      | some stamp, .map es clock => if clock ≠ last then none else match es.find? (·.born == stamp) with
        | some e => k (.tuple #[e.key, e.val]) H
        | none => none
      | _, _ => none
    | _ => none
  | _ => none

def aEq {β : Type} (P : Program) (t : TypeId) (x y : Value) (neg : Bool) (H : AHeap) (k : K β) (other : Unit → Option β) : Option β :=
  match nilEq P t x y with
  | some b => k (.bool (b != neg)) H
  | none => other ()

def kindEq : IntKind → IntKind → Bool
  | .i64, .i64 | .i32, .i32 | .u8, .u8 | .u64, .u64 | .u32, .u32 | .u16, .u16 | .i16, .i16 | .i8, .i8 => true
  | _, _ => false

def intBin {β : Type} (op : BinOp) (q : IntKind) (a b : Int) (H : AHeap) (k : K β) (other : Unit → Option β) : Option β :=
  match op with
  | .add => k (.int q (q.wrap (Int.add a b))) H
  | .sub => k (.int q (q.wrap (Int.sub a b))) H
  | .eql => k (.bool (a == b)) H
  | .neq => k (.bool (a != b)) H
  | .lss => k (.bool (decide (a < b))) H
  | .leq => k (.bool (decide (a ≤ b))) H
  | .gtr => k (.bool (decide (a > b))) H
  | .geq => k (.bool (decide (a ≥ b))) H
  | _ => other ()

def aBin {β : Type} (P : Program) (op : BinOp) (t : TypeId) (x y : Value) (H : AHeap) (k : K β) (other : Unit → Option β) : Option β :=
  match x, y with
  | .int q a, .int q' b => match kindEq q q' with
    | true => intBin op q a b H k other
    | false => other ()
  | x, y => match op with
    | .eql => aEq P t x y false H k other
    | .neq => aEq P t x y true H k other
    | _ => other ()

def aNilCheck {β : Type} (x : Value) (H : AHeap) (k : K β) (other : Unit → Option β) : Option β :=
  match x with
  | .pointer (some a) => k (.pointer (some a)) H
  | _ => other ()

def aLen {β : Type} (P : Program) (t : TypeId) (x : Value) (H : AHeap) (k : K β) (other : Unit → Option β) : Option β :=
  match P.underlying t, x with
  | some (.slice _), .slice _ n _ => k (goInt n) H
  | some (.map _ _), .map (some r) => match H.get r with
    | .map es _ => k (goInt es.length) H
    | _ => none
  | _, _ => other ()

def aDelete {β : Type} (P : Program) (t : TypeId) (m i : Value) (H : AHeap) (k : K β) : Option β :=
  match mapT P t, m with
  | some (kt, _), .map (some r) => if !keyT P kt i then none else match H.get r with
    | .map es clock => match findE i es 0 with
      | none => none
      | some (some (j, _)) => H.set r (.map (es.eraseIdx j) clock) fun H' => k (.tuple #[]) H'
      | some none => k (.tuple #[]) H
    | _ => none
  | _, _ => none

def aClear {β : Type} (P : Program) (t : TypeId) (x : Value) (H : AHeap) (k : K β) : Option β :=
  match elemT P t, x with
  | some e, .slice base n _ => if n = 0 then k (.tuple #[]) H else match szT P e, zeroT P e with
    | some size, some z => match base with
      | none => none
      | some a => if a.spot.isSome ∨ (cellsOfV z).length ≠ size then none else storeAt H a.block a.off (repl (cellsOfV z) n) fun H' => k (.tuple #[]) H'
    | _, _ => none
  | _, _ => none

def aCopy {β : Type} (P : Program) (t : TypeId) (d x : Value) (H : AHeap) (k : K β) : Option β :=
  match elemT P t, d, x with
  | some e, .slice base n _, .slice src m _ => match szT P e with
    | some size => if Nat.min m n = 0 then k (goInt (Nat.min m n)) H else match base, src with
      | some b, some a => match cellsAt H a.block a.off (Nat.min m n * size) with
        | some l => storeAt H b.block b.off l fun H' => k (goInt (Nat.min m n)) H'
        | none => none
      | _, _ => none
    | none => none
  | _, _, _ => none

def aBuiltin {β : Type} (P : Program) (b : Builtin) (ts : Array TypeId) (args : List Value) (H : AHeap) (k : K β) (other : Unit → Option β) : Option β :=
  match b with
  | .append => match args with
    | [s, x] => aAppend P ts s x H k
    | _ => none
  | .len => match ts[0]?, args with
    | some t, [x] => aLen P t x H k other
    | _, _ => none
  | .delete => match ts[0]?, args with
    | some t, [m, i] => aDelete P t m i H k
    | _, _ => none
  | .clear => match ts[0]?, args with
    | some t, [x] => aClear P t x H k
    | _, _ => none
  | .copy => match ts[0]?, args with
    | some t, [d, x] => aCopy P t d x H k
    | _, _ => none
  | _ => other ()

def isSliceV : Value → Bool
  | .slice .. => true
  | _ => false

def isPtrV : Value → Bool
  | .pointer .. => true
  | _ => false

def aOper {β : Type} (P : Program) (o : Op) (ev : Operand → Value) (H : AHeap) (k : K β) (other : Unit → Option β) : Option β :=
  match o with
  | .pick c a b => aPick (ev c) (ev a) (ev b) H k
  | .build t parts => aBuild P t (parts.toList.map fun x => (x.1, ev x.2)) H k
  | .buildSlice t len parts => aBuildSlice P t len (parts.toList.map fun x => (x.1, ev x.2)) H k
  | .makeMap _ r => match r with
    | none => H.new (.map [] 0) fun b H' => k (.map (some b)) H'
    | some _ => none
  | .makeSlice t x y => aMakeSlice P t (ev x) (ev y) H k
  | .slice t x lo hi mx => if isSliceV (ev x) then match mx with
      | none => aSlice P t (ev x) (lo.map ev) (hi.map ev) H k
      | some _ => none
    else if isPtrV (ev x) then match mx with
      | none => aSliceArr P t (ev x) (lo.map ev) (hi.map ev) H k
      | some _ => none
    else other ()
  | .lookup t x i ok => aLookup P t (ev x) (ev i) ok H k
  | .mapUpdate t m i x | .insert t m i x => aMapUpdate P t (ev m) (ev i) (ev x) H k
  | .range t x => aRange P t (ev x) H k
  | .next it s => if s then aNextS (ev it) H k else none
  | .entry it => aEntry (ev it) H k
  | .makeFunc fn first captured => match fn with
    | .func g => k (.func (.func g) (first.toList.map ev).toArray (captured.toList.map ev).toArray) H
    | _ => none
  | .nilCheck x => aNilCheck (ev x) H k other
  | .call c => match c.callee with
    | .builtin b => aBuiltin P b c.argTypes (c.args.toList.map ev) H k other
    | _ => none
  | _ => other ()

def okPlain : Op → Bool
  | .binOp .. | .unOp .. | .convert .. | .index .. | .slice .. | .nilCheck _ | .typeAssert .. | .makeInterface .. => true
  | .call { callee := .builtin b, .. } => match b with
    | .len | .max | .min => true
    | _ => false
  | _ => false

def aPlain {β : Type} (P : Program) (o : Oper) (ev : Operand → Value) (H : AHeap) (k : K β) : Option β :=
  if okPlain o.op && o.op.operands.toList.all (fun x => plainV 6 (ev x)) then
    match pureOf P (execOp ev o) with
    | some (.value v) => if plainV 6 v then forceV v fun v => k v H else none
    | _ => none
  else none

def putA {β : Type} (sz : Nat) (f : AF) (dst : Option Tmp) (v : Value) (k : AF → Option β) : Option β :=
  match dst with
  | none => k f
  | some d => match Nat.ble sz d with
    | true => none
    | false => forceV v fun v => f.env.setK (d + 1) d v fun t => k ⟨t, f.defers⟩

inductive Callee2 where
  | fn (f : FuncId) (args : List Value)
  | round (l : Nat) (args : List Value)
  | recover
  | none

def aCallee (P : Program) (f : Value) (args : List Value) : Callee2 :=
  match f with
  | .func (.func g) first captured => match P.funcs[g]? with
    | some fn => if fn.name == "runtime.NumGoroutine" || fn.body.isNone then .none else .fn g (first.toList ++ args ++ captured.toList)
    | _ => .none
  | .func (.yield l) first _ => .round l (first.toList ++ args)
  | _ => .none

def wantedA (ops : Array Oper) (f : AF) (o : Oper) : Option Bool :=
  match o.guard with
  | none => some true
  | some (j, want) => match ops.toList[j]? with
    | none => some false
    | some g => match g.dst with
      | none => some false
      | some d => match f.tmp d with
        | .bool b => some (b == want)
        | .tuple _ => some false
        | _ => none

def callA (P : Program) (rec : Rec) (cx : Cx) (dst : Option Tmp) (g : Value) (args : List Value) (f : AF) (H : AHeap) (k : AF → AHeap → Option (List Out)) : Option (List Out) :=
  match aCallee P g args with
  | .fn g args => match rec (.call false cx.loops g args H) with
    | none => none
    | some l => bindO l fun r => putA cx.sz f dst r.v fun f' => k f' r.H
  | .round l args => match rec (.round cx.loops l args H) with
    | none => none
    | some l => bindO l fun r => putA cx.sz f dst r.v fun f' => k f' r.H
  | _ => none

def deferA (cx : Cx) (dst : Option Tmp) (g : Value) (args : List Value) (f : AF) (H : AHeap) (k : AF → AHeap → Option (List Out)) : Option (List Out) :=
  match cx.round, g with
  | none, .func (.func g) first captured => putA cx.sz ⟨f.env, { target := .fn (.func g) captured, args := (first.toList ++ args).toArray } :: f.defers⟩ dst undef fun f' => k f' H
  | _, _ => none

inductive Seldom where
  | load (t : TypeId)
  | fieldAddr (s : TypeId) (i : Nat)
  | alloc (t : TypeId)
  | box (t : TypeId)
  | other (o : Op)

inductive AOp where
  | move (x : Operand)
  | bin (op : BinOp) (t : TypeId) (x y : Operand)
  | extract (x : Operand) (i : Nat)
  | store (t : TypeId) (x y : Operand)
  | indexAddr (t : TypeId) (x y : Operand)
  | seldom (s : Seldom) (x : Operand)
  | call (g : Operand) (args : List Operand)
  | rest (k : Nat) (g : Operand) (args : List Operand)

def decode (o : Op) : AOp :=
  match o with
  | .move x | .assign x => .move x
  | .binOp op t x y _ => .bin op t x y
  | .extract x i => .extract x i
  | .load t x => .seldom (.load t) x
  | .store t x y => .store t x y
  | .indexAddr t x y => .indexAddr t x y
  | .fieldAddr s x i => .seldom (.fieldAddr s i) x
  | .alloc t => .seldom (.alloc t) (.const undef)
  | .box t x => .seldom (.box t) x
  | .call c => match c.callee with
    | .value g => .call g c.args.toList
    | .builtin b => match b with
      | .recover => .rest 0 (.const undef) []
      | b => .seldom (.other (.call { callee := .builtin b, args := c.args, argTypes := c.argTypes })) (.const undef)
    | .invoke x m => .seldom (.other (.call { callee := .invoke x m, args := c.args, argTypes := c.argTypes })) (.const undef)
  | .defer c => match c.callee with
    | .value g => .rest 1 g c.args.toList
    | _ => .rest 3 (.const undef) []
  | .next it s => match s with
    | true => .seldom (.other (.next it true)) (.const undef)
    | false => .rest 2 it []
  | o => .seldom (.other o) (.const undef)

def seldomA {β : Type} (P : Program) (o : Oper) (s : Seldom) (x : Operand) (ev : Operand → Value) (H : AHeap) (k : K β) : Option β :=
  match s with
  | .load t => aLoad P t (ev x) H k
  | .fieldAddr s i => aFieldAddr P s (ev x) i H k
  | .alloc t => aAlloc P t H k
  | .box t => aBox t (ev x) H k
  | .other op => aOper P op ev H k fun _ => aPlain P o ev H k

def restA (cx : Cx) (n : Nat) (dst : Option Tmp) (g : Operand) (args : List Operand) (f : AF) (H : AHeap) (k : AF → AHeap → Option (List Out)) : Option (List Out) :=
  match n with
  | 1 => deferA cx dst (f.eval g) (args.map f.eval) f H k
  | 2 => aNext (f.eval g) H fun v H' => putA cx.sz f dst v fun f' => k f' H'
  | _ => none

def valA {β : Type} (P : Program) (o : Oper) (d : AOp) (ev : Operand → Value) (H : AHeap) (k : K β) : Option β :=
  match d with
  | .move x => k (ev x) H
  | .bin op t x y => aBin P op t (ev x) (ev y) H k fun _ => aPlain P o ev H k
  | .extract x i => aExtract (ev x) i H k
  | .store t x y => aStore P t (ev x) (ev y) H k
  | .indexAddr t x y => aIndexAddr P t (ev x) (ev y) H k
  | .seldom s x => seldomA P o s x ev H k
  | .call .. | .rest .. => none

def opA (P : Program) (rec : Rec) (cx : Cx) (o : Oper) (f : AF) (H : AHeap) (k : AF → AHeap → Option (List Out)) : Option (List Out) :=
  match decode o.op with
  | .call g args => callA P rec cx o.dst (f.eval g) (args.map f.eval) f H k
  | .rest n g args => restA cx n o.dst g args f H k
  | d => valA P o d f.eval H fun v H' => putA cx.sz f o.dst v fun f' => k f' H'

def opsA (P : Program) (rec : Rec) (cx : Cx) (ops : Array Oper) (l : List Oper) : AF → AHeap → Option (List Out) :=
  @List.rec Oper (fun _ => AF → AHeap → Option (List Out)) (fun f H => some [⟨.normal, f, undef, H⟩]) (fun o _ ih f H =>
    match wantedA ops f o with
    | some true => opA P rec cx o f H ih
    | some false => putA cx.sz f o.dst undef fun f' => ih f' H
    | none => none) l

def beqL (f : Value → Value → Bool) : List Value → List Value → Bool
  | [], [] => true
  | a :: as, b :: bs => f a b && beqL f as bs
  | _, _ => false

def beqV : Nat → Value → Value → Bool
  | 0, _, _ => false
  | d + 1, v, u => match v, u with
    | .bool a, .bool b => a == b
    | .int j a, .int k b => j == k && a == b
    | .string a, .string b => a.data.toList == b.data.toList
    | .pointer a, .pointer b => a == b
    | .slice a n c, .slice b m e => a == b && n == m && c == e
    | .map a, .map b => a == b
    | .nilFunc, .nilFunc => true
    | .nilIface, .nilIface => true
    | .iface t a, .iface t' b => t == t' && beqV d a b
    | .agg a, .agg b => beqL (beqV d) a.toList b.toList
    | .tuple a, .tuple b => beqL (beqV d) a.toList b.toList
    | .func fn f c, .func fn' f' c' => fn == fn' && beqL (beqV d) f.toList f'.toList && beqL (beqV d) c.toList c'.toList
    | _, _ => false

def beqVs (l l' : List Value) : Bool := beqL (beqV 8) l l'


def loud (o : Op) : Bool :=
  match decode o with
  | .move _ | .bin .. | .extract .. | .indexAddr .. => false
  | .store .. | .call .. | .rest .. => true
  | .seldom s _ => match s with
    | .load _ | .fieldAddr .. => false
    | .alloc _ | .box _ => true
    | .other op => match op with
      | .pick .. | .build .. | .slice .. | .lookup .. | .nilCheck _ | .unOp .. | .convert .. | .index .. | .typeAssert .. | .makeInterface .. => false
      | .call c => match c.callee with
        | .builtin b => match b with
          | .len | .max | .min => false
          | _ => true
        | _ => true
      | _ => true

def bitsBefore : List Oper → List Nat → List Nat
  | [], acc => acc
  | o :: rest, acc => bitsBefore rest (acc ++ [o.after.toList.foldl (fun s e => if Region.binds .any e then s ||| 2 ^ e.on ||| acc.getD e.on 0 else s) 0])

def precedes (B : List Nat) (i j : Nat) : Bool := (B.getD j 0).testBit i

def readsOf (ops : List Oper) (o : Oper) : List Tmp :=
  (o.op.operands.toList.filterMap fun x => match x with | .tmp t => some t | _ => none) ++
    (match o.guard with
     | some (g, _) => match ops[g]? with
       | some p => match p.dst with | some d => [d] | none => []
       | none => []
     | none => [])

structure Rec1 where
  j : Nat
  o : Oper
  f : AF
  v : Value

def opReads (o : Oper) : List Tmp := o.op.operands.toList.filterMap fun x => match x with | .tmp t => some t | _ => none

def evR (rs : List Tmp) (f : AF) : Operand → Value
  | .tmp t => match rs.contains t with
    | true => f.tmp t
    | false => .chan (some 0)
  | x => f.eval x

def pairK (v : Value) (H : AHeap) : Option (Value × AHeap) := some (v, H)

def drawOk2 (ops : List Oper) (B : List Nat) : Bool :=
  let n := ops.length
  (List.range n).all fun j =>
    match ops[j]? with
    | none => true
    | some o =>
      (o.after.toList.all fun e => !Region.binds .any e || decide (e.on < j)) &&
      (List.range n).all fun i =>
        match ops[i]? with
        | none => true
        | some p =>
          (i == j || p.dst.isNone || !(p.dst == o.dst)) &&
          ((match p.dst with | some d => !(readsOf ops o).contains d | none => true) || i == j || precedes B i j || precedes B j i)

structure DSt where
  f : AF
  H : AHeap
  ex : List Nat
  qs : List Rec1

def readyD (ex : List Nat) (o : Oper) : Bool := o.after.toList.all fun e => !Region.binds .any e || ex.contains e.on

def keepQ (B : List Nat) (i : Nat) (qs : List Rec1) : List Rec1 := qs.filter fun q => !precedes B q.j i

def allIn (ex : List Nat) : Nat → Bool
  | 0 => true
  | n + 1 => ex.contains n && allIn ex n

def passA (P : Program) (cx : Cx) (ops : Array Oper) : List Oper → Nat → DSt → (DSt → Option (List Out)) → Option (List Out)
  | [], _, s, k => k s
  | o :: rest, j, s, k =>
    match s.ex.contains j || !readyD s.ex o with
    | true => passA P cx ops rest (j + 1) s k
    | false => match wantedA ops s.f o with
      | some false => putA cx.sz s.f o.dst undef fun f' => passA P cx ops rest (j + 1) ⟨f', s.H, j :: s.ex, s.qs⟩ k
      | some true => match loud o.op with
        | true => passA P cx ops rest (j + 1) s k
        | false => match valA P o (decode o.op) (evR (opReads o) s.f) s.H pairK with
          | some (v, _) => putA cx.sz s.f o.dst v fun f' => passA P cx ops rest (j + 1) ⟨f', s.H, j :: s.ex, ⟨j, o, s.f, v⟩ :: s.qs⟩ k
          | none => none
      | none => none

def stableA (P : Program) (B : List Nat) (i : Nat) (H : AHeap) : List Rec1 → Bool
  | [] => true
  | q :: qs => (precedes B q.j i || match valA P q.o (decode q.o.op) (evR (opReads q.o) q.f) H pairK with
    | some (v, _) => beqV 8 v q.v
    | none => false) && stableA P B i H qs

def behindA (P : Program) (cx : Cx) (B : List Nat) (o : Oper) (j : Nat) (s : DSt) (k : DSt → Option (List Out)) (v : Value) (H' : AHeap) : Option (List Out) :=
  match stableA P B j H' s.qs with
  | true => putA cx.sz s.f o.dst v fun f' => k ⟨f', H', j :: s.ex, keepQ B j s.qs⟩
  | false => none

def loudA (P : Program) (rec : Rec) (cx : Cx) (B : List Nat) (o : Oper) (j : Nat) (s : DSt) (k : DSt → Option (List Out)) : Option (List Out) :=
  match decode o.op with
  | .call g args => match aCallee P (evR (opReads o) s.f g) (args.map (evR (opReads o) s.f)) with
    | .fn g args => match rec (.call false cx.loops g args s.H) with
      | some l => bindO l fun r => behindA P cx B o j s k r.v r.H
      | none => none
    | .round l args => match rec (.round cx.loops l args s.H) with
      | some l => bindO l fun r => behindA P cx B o j s k r.v r.H
      | none => none
    | _ => none
  | .rest .. => none
  | d => match valA P o d (evR (opReads o) s.f) s.H pairK with
    | some (v, H') => behindA P cx B o j s k v H'
    | none => none

def loudsA (P : Program) (rec : Rec) (cx : Cx) (ops : Array Oper) (B : List Nat) : List Oper → Nat → DSt → (DSt → Option (List Out)) → Option (List Out)
  | [], _, _, _ => some []
  | o :: rest, j, s, k =>
    match s.ex.contains j || !readyD s.ex o with
    | true => loudsA P rec cx ops B rest (j + 1) s k
    | false => match wantedA ops s.f o with
      | some true => match loudA P rec cx B o j s k with
        | none => none
        | some l => match loudsA P rec cx ops B rest (j + 1) s k with
          | none => none
          | some l' => some (l ++ l')
      | _ => none

def treeA (P : Program) (rec : Rec) (cx : Cx) (ops : Array Oper) (B : List Nat) : Nat → DSt → Option (List Out)
  | 0, _ => none
  | n + 1, s => passA P cx ops ops.toList 0 s fun s => match allIn s.ex ops.size with
    | true => some [⟨.normal, s.f, undef, s.H⟩]
    | false => loudsA P rec cx ops B ops.toList 0 s (treeA P rec cx ops B n)

def drawA (P : Program) (rec : Rec) (cx : Cx) (ops : Array Oper) (f : AF) (H : AHeap) : Option (List Out) :=
  match drawOk2 ops.toList (bitsBefore ops.toList []) with
  | false => none
  | true => treeA P rec cx ops (bitsBefore ops.toList []) (ops.size + 1) ⟨f, H, [], []⟩

def loopA (rec : Rec) (cx : Cx) (c : Code) : Nat → AF → AHeap → Option (List Out)
  | 0, _, _ => none
  | m + 1, f, H => match rec (.code cx c f H) with
    | none => none
    | some l => bindO l fun r => match r.e with
      | .normal => loopA rec cx c m r.f r.H
      | _ => some [r]


def idsL (f : Value → Option (List Nat)) : List Value → Option (List Nat)
  | [] => some []
  | v :: vs => match f v with
    | none => none
    | some l => match idsL f vs with
      | none => none
      | some l' => some (l ++ l')

def newIds (n : Nat) : Nat → Value → Option (List Nat)
  | 0, _ => none
  | d + 1, v => match v with
    | .int .. | .bool _ | .string _ | .nilIface | .nilFunc | .float .. | .complex .. => some []
    | .pointer none | .slice none _ _ | .map none => some []
    | .pointer (some a) | .slice (some a) _ _ => some (if n ≤ a.block then [a.block] else [])
    | .map (some r) => some (if n ≤ r then [r] else [])
    | .func fn first captured =>
      match fn with
      | .yield l => (idsL (newIds n d) (first.toList ++ captured.toList)).map fun x => (if n ≤ l then l :: x else x)
      | .func _ => idsL (newIds n d) (first.toList ++ captured.toList)
      | _ => none
    | .iface _ v => newIds n d v
    | .agg cs | .tuple cs => idsL (newIds n d) cs.toList
    | _ => none

def idsRow (n : Nat) (l : List Value) : Option (List Nat) := idsL (newIds n 8) l

def idsE (n : Nat) : List MapEntry → Option (List Nat)
  | [] => some []
  | e :: es => match newIds n 8 e.key, newIds n 8 e.val, idsE n es with
    | some a, some b, some c => some (a ++ b ++ c)
    | _, _, _ => none

def idsObj (n : Nat) : AObj → Option (List Nat)
  | .row c _ => idsRow n c
  | .ext c _ => idsRow n c
  | .map es _ => idsE n es
  | .iter (some m) _ _ _ => some (if n ≤ m then [m] else [])
  | _ => some []

def idsOld (n : Nat) (H : AHeap) : Nat → Option (List Nat)
  | 0 => some []
  | i + 1 => match idsObj n (H.get i) with
    | none => none
    | some l => match idsOld n H i with
      | none => none
      | some l' => some (l ++ l')

def placeOf (x : Nat) : List Nat → Nat → Option Nat
  | [], _ => none
  | y :: ys, k => if x = y then some k else placeOf x ys (k + 1)

def newName (n : Nat) (L : List Nat) (x : Nat) : Option Nat := if x < n then some x else placeOf x L n

def mapO {α β : Type} (f : α → Option β) : List α → Option (List β)
  | [] => some []
  | x :: xs => match f x with
    | none => none
    | some y => match mapO f xs with
      | none => none
      | some ys => some (y :: ys)

def renV (σ : Nat → Option Nat) : Nat → Value → Option Value
  | 0, _ => none
  | d + 1, v => match v with
    | .int .. | .bool _ | .string _ | .nilIface | .nilFunc | .float .. | .complex .. => some v
    | .pointer none | .slice none _ _ | .map none => some v
    | .pointer (some a) => match σ a.block with | some b => some (.pointer (some { a with block := b })) | none => none
    | .slice (some a) n c => match σ a.block with | some b => some (.slice (some { a with block := b }) n c) | none => none
    | .map (some r) => match σ r with | some b => some (.map (some b)) | none => none
    | .func fn first captured =>
      match fn with
      | .func g => match mapO (renV σ d) first.toList, mapO (renV σ d) captured.toList with
        | some f', some c' => some (.func (.func g) f'.toArray c'.toArray)
        | _, _ => none
      | _ => none
    | .iface t v => (renV σ d v).map fun v' => .iface t v'
    | .agg cs => (mapO (renV σ d) cs.toList).map fun l => .agg l.toArray
    | .tuple cs => (mapO (renV σ d) cs.toList).map fun l => .tuple l.toArray
    | _ => none

def renE (σ : Nat → Option Nat) (e : MapEntry) : Option MapEntry :=
  match renV σ 8 e.key, renV σ 8 e.val with
  | some a, some b => some ⟨a, b, e.born⟩
  | _, _ => none

def renObj (σ : Nat → Option Nat) : AObj → Option AObj
  | .row c e => (mapO (renV σ 8) c).map fun l => .row l e
  | .map es k => (mapO (renE σ) es).map fun l => .map l k
  | .iter (some m) a b c => (σ m).map fun m' => .iter (some m') a b c
  | .iter none a b c => some (.iter none a b c)
  | .siter s k => some (.siter s k)
  | .dead => some .dead
  | .loop .. | .defs _ | .ext .. => none

def addNew (L : List Nat) : List Nat → List Nat
  | [] => L
  | x :: xs => if L.contains x then addNew L xs else addNew (L ++ [x]) xs

def reach (n : Nat) (H : AHeap) : Nat → Nat → List Nat → Option (List Nat)
  | 0, _, _ => none
  | m + 1, k, L => match L[k]? with
    | none => some L
    | some x => match idsObj n (H.get x) with
      | none => none
      | some l => reach n H m (k + 1) (addNew L l)

def layNew {β : Type} (n : Nat) (σ : Nat → Option Nat) (H : AHeap) : List Nat → AHeap → (AHeap → Option β) → Option β
  | [], G, k => k G
  | x :: xs, G, k => match Nat.ble H.n x || Nat.blt x n with
    | true => none
    | false => match renObj σ (H.get x) with
      | none => none
      | some o => G.new o fun _ G' => layNew n σ H xs G' k

def layOld {β : Type} (n : Nat) (σ : Nat → Option Nat) (H : AHeap) : Nat → AHeap → (AHeap → Option β) → Option β
  | 0, G, k => k G
  | i + 1, G, k => match idsObj n (H.get i) with
    | some [] => layOld n σ H i G k
    | some _ => match renObj σ (H.get i) with
      | none => none
      | some o => G.set i o fun G' => layOld n σ H i G' k
    | none => none

def gc (n : Nat) (r : Out) (k : Out → Option (List Out)) : Option (List Out) :=
  if r.H.n ≤ n then k r else
  match newIds n 8 r.v, idsOld n r.H n with
  | some l0, some l1 => match reach n r.H (r.H.n + 1) 0 (addNew (addNew [] l0) l1) with
    | none => none
    | some L =>
      let σ := newName n L
      match renV σ 8 r.v with
      | none => none
      | some v' => layOld n σ r.H n ⟨n, r.H.t⟩ fun G => layNew n σ r.H L G fun G' => k { r with v := v', H := G' }
  | _, _ => none


def beqE : List MapEntry → List MapEntry → Bool
  | [], [] => true
  | a :: as, b :: bs => beqV 8 a.key b.key && beqV 8 a.val b.val && a.born == b.born && beqE as bs
  | _, _ => false

def beqObj : AObj → AObj → Bool
  | .row c e, .row c' e' => e == e' && beqVs c c'
  | .map es k, .map es' k' => k == k' && beqE es es'
  | .iter m a s k, .iter m' a' s' k' => m == m' && a == a' && s == s' && k == k'
  | .siter s k, .siter s' k' => s.data.toList == s'.data.toList && k == k'
  | .loop a b, .loop a' b' => a == a' && b == b'
  | .defs a, .defs b => a == b
  | .ext c e, .ext c' e' => e == e' && beqVs c c'
  | .dead, .dead => true
  | _, _ => false

def beqHeap (H G : AHeap) : Nat → Bool
  | 0 => true
  | i + 1 => beqObj (H.get i) (G.get i) && beqHeap H G i

def beqOut (r s : Out) : Bool := r.H.n == s.H.n && beqV 8 r.v s.v && beqHeap r.H s.H r.H.n

def dedupe : List Out → List Out
  | [] => []
  | [r] => [r]
  | r :: rs => let l := dedupe rs; if l.any (beqOut r) then l else r :: l


def resA (P : Program) (f : AF) (H : AHeap) : List ResultVar → Option (List Value)
  | [] => some []
  | .tmp t :: rs => match resA P f H rs with | some l => some (f.tmp t :: l) | none => none
  | .cell a t :: rs => match resA P f H rs with | some l => aLoad P t (f.tmp a) H fun v _ => some (v :: l) | none => none

def oneOf : List Value → Value
  | [v] => v
  | l => .tuple l.toArray

def leaveA (P : Program) (rec : Rec) (loops : List (Nat × LInfo)) (fn : Func) (f : AF) : List Deferred → AHeap → Option (List Out)
  | [], H => match resA P f H fn.results.toList with
    | some l => some [⟨.ret, ⟨.e, []⟩, oneOf l, H⟩]
    | none => none
  | d :: ds, H => match d.target with
    | .collected r => match H.get r with
      | .defs false => H.set r (.defs true) fun H' => leaveA P rec loops fn f ds H'
      | _ => none
    | .fn (.func g) captured => match P.funcs[g]? with
      | some fn' => if fn'.name == "runtime.NumGoroutine" || fn'.body.isNone then none else
        match rec (.call true loops g (d.args.toList ++ captured.toList) H) with
        | some l => bindO l fun r => leaveA P rec loops fn f ds r.H
        | none => none
      | none => none
    | _ => none

def argsK {β : Type} : List Value → Nat → Tr Value → (Tr Value → Option β) → Option β
  | [], _, t, k => k t
  | v :: vs, i, t, k => forceV v fun v => t.setK (i + 1) i v fun t' => argsK vs (i + 1) t' k

def paramsK {β : Type} : List (Tmp × Value) → Nat → Tr Value → (Tr Value → Option β) → Option β
  | [], _, t, k => k t
  | (p, v) :: vs, sz, t, k => if p < sz then forceV v fun v => t.setK (p + 1) p v fun t' => paramsK vs sz t' k else none

def findLoop (l : Nat) : List (Nat × LInfo) → Option LInfo
  | [] => none
  | (i, x) :: ls => if l = i then some x else findLoop l ls

def seqA (rec : Rec) (cx : Cx) (x y : Code) (f : AF) (H : AHeap) : Option (List Out) :=
  match rec (.code cx x f H) with
  | none => none
  | some l => bindO l fun r => match r.e with
    | .normal => rec (.code cx y r.f r.H)
    | _ => some [r]

def condA (rec : Rec) (cx : Cx) (c : Value) (x y : Code) (f : AF) (H : AHeap) : Option (List Out) :=
  match c with
  | .bool true => rec (.code cx x f H)
  | .bool false => rec (.code cx y f H)
  | _ => none

def blockA (rec : Rec) (cx : Cx) (id : Nat) (c : Code) (f : AF) (H : AHeap) : Option (List Out) :=
  match rec (.code cx c f H) with
  | none => none
  | some l => bindO l fun r => match r.e with
    | .exit id' => if id' = id then some [⟨.normal, r.f, r.v, r.H⟩] else some [r]
    | _ => some [r]

def scopeA (rec : Rec) (cx : Cx) (c : Code) (f : AF) (H : AHeap) : Option (List Out) :=
  match rec (.code cx c f H) with
  | none => none
  | some l => bindO l fun r => match r.e with
    | .goto _ => none
    | _ => some [r]

def rangeEnd (f : AF) (mark : List Deferred) (l : Nat) (r : Out) : Option (List Out) :=
  match r.H.get l with
  | .loop st pend => if st == .busy then none else r.H.set l (.loop .exhausted pend) fun H2 =>
    match pend with
    | none => some [⟨.normal, ⟨f.env, mark ++ f.defers⟩, undef, H2⟩]
    | some none => some [⟨.ret, ⟨f.env, mark ++ f.defers⟩, undef, H2⟩]
    | some (some id) => some [⟨.exit id, ⟨f.env, mark ++ f.defers⟩, undef, H2⟩]
  | _ => none

def rangeStart (rec : Rec) (cx : Cx) (q : FuncId) (first captured : List Value) (ps : Array Tmp) (assign body : Code) (f : AF) (dfs : Nat) (mark : List Deferred) (H : AHeap) : Option (List Out) :=
  H.new (.loop .ready none) fun l H1 =>
    match rec (.call false ((l, ⟨cx.fn, cx.sz, f.env, ps, assign, body, dfs⟩) :: cx.loops) q (first ++ [.func (.yield l) #[] #[]] ++ captured) H1) with
    | none => none
    | some rs => bindO rs fun r => rangeEnd f mark l r

def rangeA (P : Program) (rec : Rec) (cx : Cx) (g : Value) (ps : Array Tmp) (assign body : Code) (f : AF) (H : AHeap) : Option (List Out) :=
  match g with
  | .func (.func q) first captured => match P.funcs[q]? with
    | none => none
    | some fn => if fn.name == "runtime.NumGoroutine" || fn.body.isNone then none else
      match cx.round with
      | some l0 => match findLoop l0 cx.loops, H.get l0 with
        | some x, .loop _ _ => rangeStart rec cx q first.toList captured.toList ps assign body f x.defers [] H
        | _, _ => none
      | none => H.new (.defs false) fun r H1 => rangeStart rec cx q first.toList captured.toList ps assign body f r [{ target := .collected r, args := #[] }] H1
  | _ => none

def codeA (P : Program) (n : Nat) (rec : Rec) (cx : Cx) (c : Code) (f : AF) (H : AHeap) : Option (List Out) :=
  match c with
  | .skip | .label _ => some [⟨.normal, f, undef, H⟩]
  | .region _ ops draw => match draw with
    | false => opsA P rec cx ops ops.toList f H
    | true => drawA P rec cx ops f H
  | .seq x y => seqA rec cx x y f H
  | .cond c x y => condA rec cx (f.eval c) x y f H
  | .block id c => blockA rec cx id c f H
  | .loop c => loopA rec cx c n f H
  | .exit id => some [⟨.exit id, f, undef, H⟩]
  | .ret => some [⟨.ret, f, undef, H⟩]
  | .scope c => scopeA rec cx c f H
  | .rangeFunc g ps assign body => rangeA P rec cx (f.eval g) ps assign body f H
  | .goto _ | .refuse _ => none

def hasRecover (ops : List Oper) : Bool := ops.any fun o => match decode o.op with | .rest 0 _ _ => true | _ => false

def opsD (P : Program) (cx : Cx) (ops : Array Oper) : List Oper → AF → AHeap → Option (List Out)
  | [], f, H => some [⟨.normal, f, undef, H⟩]
  | o :: rest, f, H =>
    match wantedA ops f o with
    | some true => match decode o.op with
      | .rest 0 _ _ => putA cx.sz f o.dst .nilIface fun f' => opsD P cx ops rest f' H
      | d => valA P o d f.eval H fun v H' => putA cx.sz f o.dst v fun f' => opsD P cx ops rest f' H'
    | some false => putA cx.sz f o.dst undef fun f' => opsD P cx ops rest f' H
    | none => none

def codeD (P : Program) (rec : Rec) (cx : Cx) : Code → AF → AHeap → Option (List Out)
  | .seq x y, f, H => match codeD P rec cx x f H with
    | none => none
    | some l => bindO l fun r => match r.e with
      | .normal => codeD P rec cx y r.f r.H
      | _ => some [r]
  | .cond c x y, f, H => match f.eval c with
    | .bool true => codeD P rec cx x f H
    | .bool false => codeD P rec cx y f H
    | _ => none
  | .region id ops draw, f, H => match hasRecover ops.toList && !draw with
    | true => opsD P cx ops ops.toList f H
    | false => rec (.code cx (.region id ops draw) f H)
  | c, f, H => rec (.code cx c f H)

def endCall (P : Program) (rec : Rec) (dm : Bool) (loops : List (Nat × LInfo)) (fn : Func) (n : Nat) (r : Out) : Option (List Out) :=
  match r.e with
  | .normal | .ret => match dm && !r.f.defers.isEmpty with
    | true => none
    | false => match leaveA P rec loops fn r.f r.f.defers r.H with
      | none => none
      | some l' => bindO l' fun r => gc n r fun r => some [r]
  | _ => none

def bodyA (P : Program) (rec : Rec) (dm : Bool) (cx : Cx) (c : Code) (f : AF) (H : AHeap) : Option (List Out) :=
  match dm with
  | false => rec (.code cx c f H)
  | true => codeD P rec cx c f H

def enterA (P : Program) (rec : Rec) (dm : Bool) (loops : List (Nat × LInfo)) (g : FuncId) (args : List Value) (H : AHeap) : Option (List Out) :=
  match P.funcs[g]? with
  | none => none
  | some fn => match fn.body with
    | none => none
    | some c => argsK args 0 .e fun env => forceN (args.length + (fn.ntmps - args.length)) fun sz => match bodyA P rec dm ⟨g, sz, none, loops⟩ c ⟨env, []⟩ H with
      | none => none
      | some l => match bindO l (endCall P rec dm loops fn H.n) with
        | none => none
        | some l' => some (dedupe l')

def endRound (l : Nat) (r : Out) : Option (List Out) :=
  match r.H.get l with
  | .loop _ _ => match r.e with
    | .normal => r.H.set l (.loop .ready none) fun H2 => some [⟨.ret, ⟨.e, []⟩, .bool true, H2⟩]
    | .ret => r.H.set l (.loop .done (some none)) fun H2 => some [⟨.ret, ⟨.e, []⟩, .bool false, H2⟩]
    | .exit id => r.H.set l (.loop .done (some (some id))) fun H2 => some [⟨.ret, ⟨.e, []⟩, .bool false, H2⟩]
    | _ => none
  | _ => none

def bodyRound (rec : Rec) (loops : List (Nat × LInfo)) (x : LInfo) (l : Nat) (r : Out) : Option (List Out) :=
  match r.e with
  | .normal => match r.H.get l with
    | .loop .ready none => r.H.set l (.loop .busy none) fun H1 =>
      match rec (.code ⟨x.fn, x.sz, some l, loops⟩ x.body r.f H1) with
      | none => none
      | some rs2 => bindO rs2 (endRound l)
    | _ => none
  | _ => none

def roundA (rec : Rec) (loops : List (Nat × LInfo)) (l : Nat) (args : List Value) (H : AHeap) : Option (List Out) :=
  match findLoop l loops, H.get l with
  | some x, .loop .ready none =>
    if x.params.size ≠ args.length then none else
    paramsK (x.params.toList.zip args) x.sz x.env fun env =>
    match rec (.code ⟨x.fn, x.sz, some l, loops⟩ x.assign ⟨env, []⟩ H) with
    | none => none
    | some rs => bindO rs (bodyRound rec loops x l)
  | _, _ => none

def stepA (P : Program) (n : Nat) (rec : Rec) (t : Task) : Option (List Out) :=
  match t with
  | .code cx c f H => codeA P n rec cx c f H
  | .call dm loops g args H => enterA P rec dm loops g args H
  | .round loops l args H => roundA rec loops l args H

def ev (P : Program) (n : Nat) : Task → Option (List Out) :=
  @Nat.rec (fun _ => Task → Option (List Out)) (fun _ => none) (fun n ih => stepA P n ih) n

end
end Go.Am
namespace Go.Am


inductive L2 {α β : Type} (R : α → β → Prop) : List α → List β → Prop
  | nil : L2 R [] []
  | cons {a b l l'} : R a b → L2 R l l' → L2 R (a :: l) (b :: l')

section
variable {α β : Type} {R S : α → β → Prop}

theorem L2.mono (h : ∀ a b, R a b → S a b) : ∀ {l : List α} {l' : List β}, L2 R l l' → L2 S l l'
  | _, _, .nil => .nil
  | _, _, .cons r t => .cons (h _ _ r) (L2.mono h t)

theorem L2.length : ∀ {l : List α} {l' : List β}, L2 R l l' → l.length = l'.length
  | _, _, .nil => rfl
  | _, _, .cons _ t => by simp [L2.length t]

theorem L2.get : ∀ {l : List α} {l' : List β}, L2 R l l' → ∀ {i : Nat} {a : α}, l[i]? = some a → ∃ b, l'[i]? = some b ∧ R a b
  | _, _, .cons r _, 0, _, h => by simp at h; subst h; exact ⟨_, rfl, r⟩
  | _, _, .cons _ t, i + 1, _, h => by simpa using L2.get t (i := i) (by simpa using h)

theorem L2.get' : ∀ {l : List α} {l' : List β}, L2 R l l' → ∀ {i : Nat} {b : β}, l'[i]? = some b → ∃ a, l[i]? = some a ∧ R a b
  | _, _, .cons r _, 0, _, h => by simp at h; subst h; exact ⟨_, rfl, r⟩
  | _, _, .cons _ t, i + 1, _, h => by simpa using L2.get' t (i := i) (by simpa using h)

theorem L2.append : ∀ {l : List α} {l' : List β}, L2 R l l' → ∀ {m : List α} {m' : List β}, L2 R m m' → L2 R (l ++ m) (l' ++ m')
  | _, _, .nil, _, _, h => h
  | _, _, .cons r t, _, _, h => .cons r (L2.append t h)

theorem L2.take : ∀ {l : List α} {l' : List β}, L2 R l l' → ∀ n, L2 R (l.take n) (l'.take n)
  | _, _, .nil, n => by simp; exact .nil
  | _, _, .cons _ _, 0 => .nil
  | _, _, .cons r t, n + 1 => .cons r (L2.take t n)

theorem L2.drop : ∀ {l : List α} {l' : List β}, L2 R l l' → ∀ n, L2 R (l.drop n) (l'.drop n)
  | _, _, .nil, n => by simp; exact .nil
  | _, _, .cons r t, 0 => .cons r t
  | _, _, .cons _ t, n + 1 => L2.drop t n

theorem L2.of_get : ∀ {l : List α} {l' : List β}, l.length = l'.length → (∀ (i : Nat) a b, l[i]? = some a → l'[i]? = some b → R a b) → L2 R l l'
  | [], [], _, _ => .nil
  | [], _ :: _, h, _ => by simp at h
  | _ :: _, [], h, _ => by simp at h
  | a :: l, b :: l', h, hr => .cons (hr 0 a b rfl rfl) (L2.of_get (by simpa using h) fun i x y hx hy => hr (i + 1) x y (by simpa using hx) (by simpa using hy))

theorem L2.map {γ δ : Type} {f : γ → α} {g : δ → β} : ∀ {l : List γ} {l' : List δ}, L2 (fun x y => R (f x) (g y)) l l' → L2 R (l.map f) (l'.map g)
  | _, _, .nil => .nil
  | _, _, .cons r t => .cons r (L2.map t)

theorem L2.map_same {γ : Type} {f : γ → α} {g : γ → β} (h : ∀ x, R (f x) (g x)) : ∀ l : List γ, L2 R (l.map f) (l.map g)
  | [] => .nil
  | _ :: l => .cons (h _) (L2.map_same h l)
end


structure LoopC where
  tmps : Array Value
  params : Array Tmp
  assign : Code
  body : Code
  defers : Nat

structure Ent where
  b : Nat
  sz : Nat
  e : TypeId
  keep : Bool
  lp : Option LoopC

abbrev Ren := List (Option Ent)

def Le (ρ ρ' : Ren) : Prop := ∀ (i : Nat) x, ρ[i]? = some x → ρ'[i]? = some x ∨ (ρ'[i]? = some none ∧ ∀ y, x = some y → y.keep = false)

theorem Le.refl (ρ : Ren) : Le ρ ρ := fun _ _ h => .inl h

theorem Le.trans {ρ ρ' ρ'' : Ren} (h : Le ρ ρ') (k : Le ρ' ρ'') : Le ρ ρ'' := fun i x hx => by
  rcases h i x hx with h1 | ⟨h1, h2⟩
  · exact k i x h1
  · rcases k i none h1 with h3 | ⟨h3, _⟩
    · exact .inr ⟨h3, h2⟩
    · exact .inr ⟨h3, h2⟩

theorem Le.length {ρ ρ' : Ren} (h : Le ρ ρ') : ρ.length ≤ ρ'.length := by
  rcases Nat.lt_or_ge ρ'.length ρ.length with hlt | hge
  · obtain ⟨x, hx⟩ : ∃ x, ρ[ρ'.length]? = some x := ⟨_, List.getElem?_eq_getElem hlt⟩
    rcases h _ _ hx with h1 | ⟨h1, _⟩ <;> simp at h1
  · exact hge

theorem Le.keeps {ρ ρ' : Ren} (h : Le ρ ρ') {i : Nat} {y : Ent} (hy : ρ[i]? = some (some y)) (hk : y.keep = true) : ρ'[i]? = some (some y) := by
  rcases h i _ hy with h1 | ⟨_, h2⟩
  · exact h1
  · have := h2 y rfl; rw [hk] at this; cases this

theorem Le.append (ρ : Ren) (l : Ren) : Le ρ (ρ ++ l) := fun i x h => .inl (by rw [List.getElem?_append_left (List.getElem?_eq_some_iff.1 h).1]; exact h)

def IR (ρ : Ren) (i j : Nat) : Prop := ∃ x, ρ[i]? = some x ∧ ∀ y, x = some y → y.b = j

theorem IR.mono {ρ ρ' : Ren} {i j : Nat} (h : IR ρ i j) (hl : Le ρ ρ') : IR ρ' i j := by
  obtain ⟨x, hx, hy⟩ := h
  rcases hl i x hx with h1 | ⟨h1, _⟩
  · exact ⟨x, h1, hy⟩
  · exact ⟨none, h1, fun y hy => by cases hy⟩

theorem IR.live {ρ : Ren} {i j : Nat} (h : IR ρ i j) {y : Ent} (hy : ρ[i]? = some (some y)) : y.b = j := by
  obtain ⟨x, hx, hb⟩ := h
  rw [hx] at hy; cases hy; exact hb y rfl

def Fit (P : Program) (ρ : Ren) (a a' : Addr) (c : Nat) : Prop := ∀ y, ρ[a.block]? = some (some y) → y.keep = false → a'.off + c * P.cellsOf y.e ≤ y.sz

inductive VR (P : Program) (ρ : Ren) : Value → Value → Prop
  | bool (b : Bool) : VR P ρ (.bool b) (.bool b)
  | int (k : IntKind) (n : Int) : VR P ρ (.int k n) (.int k n)
  | float (k : FloatKind) (n : Nat) : VR P ρ (.float k n) (.float k n)
  | complex (k : FloatKind) (n m : Nat) : VR P ρ (.complex k n m) (.complex k n m)
  | string (s : ByteArray) : VR P ρ (.string s) (.string s)
  | pnil : VR P ρ (.pointer none) (.pointer none)
  | ptr {a a' : Addr} (h : a.spot = none) (h' : a'.spot = none) (ho : a'.off = a.off) (hb : IR ρ a.block a'.block) : VR P ρ (.pointer (some a)) (.pointer (some a'))
  | snil : VR P ρ (.slice none 0 0) (.slice none 0 0)
  | slice {a a' : Addr} {n c c' : Nat} (h : a.spot = none) (h' : a'.spot = none) (ho : a'.off = a.off) (hb : IR ρ a.block a'.block) (hn : n ≤ c) (hc : c ≤ c') (hf : Fit P ρ a a' c') :
      VR P ρ (.slice (some a) n c) (.slice (some a') n c')
  | sliceX {a a' : Addr} {n c : Nat} (h : a.spot = some 0) (h' : a'.spot = none) (ho : a'.off = a.off) (hb : IR ρ a.block a'.block) (hn : n ≤ c) : VR P ρ (.slice (some a) n c) (.slice (some a') n c)
  | sliceE {a a' : Addr} {c' : Nat} (h : a.spot = some 1) : VR P ρ (.slice (some a) 0 0) (.slice (some a') 0 c')
  | mnil : VR P ρ (.map none) (.map none)
  | map {r r' : Nat} (h : IR ρ r r') : VR P ρ (.map (some r)) (.map (some r'))
  | func (g : FuncId) {f f' c c' : Array Value} (hs : f.size = f'.size) (hv : ∀ (i : Nat) v v', f[i]? = some v → f'[i]? = some v' → VR P ρ v v')
      (hs2 : c.size = c'.size) (hv2 : ∀ (i : Nat) v v', c[i]? = some v → c'[i]? = some v' → VR P ρ v v') : VR P ρ (.func (.func g) f c) (.func (.func g) f' c')
  | yield {l l' : Nat} (h : IR ρ l l') : VR P ρ (.func (.yield l) #[] #[]) (.func (.yield l') #[] #[])
  | nilFunc : VR P ρ .nilFunc .nilFunc
  | iface (t : TypeId) {v v' : Value} (h : VR P ρ v v') : VR P ρ (.iface t v) (.iface t v')
  | nilIface : VR P ρ .nilIface .nilIface
  | agg {cs cs' : Array Value} (hs : cs.size = cs'.size) (hv : ∀ (i : Nat) v v', cs[i]? = some v → cs'[i]? = some v' → VR P ρ v v') : VR P ρ (.agg cs) (.agg cs')
  | tuple {cs cs' : Array Value} (hs : cs.size = cs'.size) (hv : ∀ (i : Nat) v v', cs[i]? = some v → cs'[i]? = some v' → VR P ρ v v') : VR P ρ (.tuple cs) (.tuple cs')
  | poison {v : Value} : VR P ρ (.chan (some 0)) v

section
variable {P : Program} {ρ ρ' : Ren}

theorem Fit.mono {a a' : Addr} {c : Nat} (hb : IR ρ a.block a'.block) (h : Fit P ρ a a' c) (hl : Le ρ ρ') : Fit P ρ' a a' c := fun y hy hk => by
  obtain ⟨x, hx, _⟩ := hb
  rcases hl _ _ hx with h1 | ⟨h1, _⟩
  · rw [h1] at hy; cases hy; exact h y hx hk
  · rw [h1] at hy; cases hy

theorem VR.mono {v v' : Value} (h : VR P ρ v v') (hl : Le ρ ρ') : VR P ρ' v v' := by
  induction h with
  | bool b => exact .bool b
  | int k n => exact .int k n
  | float k n => exact .float k n
  | complex k n m => exact .complex k n m
  | string s => exact .string s
  | pnil => exact .pnil
  | ptr h h' ho hb => exact .ptr h h' ho (hb.mono hl)
  | snil => exact .snil
  | slice h h' ho hb hn hc hf => exact .slice h h' ho (hb.mono hl) hn hc (hf.mono hb hl)
  | sliceX h h' ho hb hn => exact .sliceX h h' ho (hb.mono hl) hn
  | sliceE h => exact .sliceE h
  | mnil => exact .mnil
  | map h => exact .map (h.mono hl)
  | func g hs _ hs2 _ ih ih2 => exact .func g hs ih hs2 ih2
  | yield h => exact .yield (h.mono hl)
  | nilFunc => exact .nilFunc
  | iface t _ ih => exact .iface t ih
  | nilIface => exact .nilIface
  | agg hs _ ih => exact .agg hs ih
  | tuple hs _ ih => exact .tuple hs ih
  | poison => exact .poison

abbrev VL (P : Program) (ρ : Ren) := L2 (VR P ρ)

theorem VL.mono {l l' : List Value} (h : VL P ρ l l') (hl : Le ρ ρ') : VL P ρ' l l' := L2.mono (fun _ _ h => h.mono hl) h

theorem vl_arr {cs cs' : Array Value} (hs : cs.size = cs'.size) (hv : ∀ (i : Nat) v v', cs[i]? = some v → cs'[i]? = some v' → VR P ρ v v') : VL P ρ cs.toList cs'.toList :=
  L2.of_get (by simpa using hs) fun i a b ha hb => hv i a b (by simpa using ha) (by simpa using hb)

theorem arr_vl {cs cs' : Array Value} (h : VL P ρ cs.toList cs'.toList) : cs.size = cs'.size ∧ ∀ (i : Nat) v v', cs[i]? = some v → cs'[i]? = some v' → VR P ρ v v' := by
  refine ⟨by simpa using h.length, fun i v v' hv hv' => ?_⟩
  obtain ⟨b, hb, hr⟩ := h.get (i := i) (a := v) (by simpa using hv)
  simp at hb; rw [hv'] at hb; cases hb; exact hr

theorem VR.agg_of {cs cs' : Array Value} (h : VL P ρ cs.toList cs'.toList) : VR P ρ (.agg cs) (.agg cs') := .agg (arr_vl h).1 (arr_vl h).2
theorem VR.tuple_of {cs cs' : Array Value} (h : VL P ρ cs.toList cs'.toList) : VR P ρ (.tuple cs) (.tuple cs') := .tuple (arr_vl h).1 (arr_vl h).2
theorem VR.func_of {g : FuncId} {f f' c c' : Array Value} (h : VL P ρ f.toList f'.toList) (h2 : VL P ρ c.toList c'.toList) : VR P ρ (.func (.func g) f c) (.func (.func g) f' c') :=
  .func g (arr_vl h).1 (arr_vl h).2 (arr_vl h2).1 (arr_vl h2).2

theorem VR.undef : VR P ρ undef undef := .tuple rfl fun i v v' h => by simp at h

theorem VR.oneCell {v v' : Value} (h : VR P ρ v v') (ho : oneV v = true) : v'.oneCell' = true := by
  cases h <;> simp_all [oneV, Value.oneCell']

theorem vr_cells' {v v' : Value} (h : VR P ρ v v') (hne : v ≠ .chan (some 0)) : VL P ρ (cellsOfV v) v'.cells.toList := by
  cases h with
  | agg hs hv => exact vl_arr hs hv
  | bool b => exact .cons (.bool b) .nil
  | int k n => exact .cons (.int k n) .nil
  | float k n => exact .cons (.float k n) .nil
  | complex k n m => exact .cons (.complex k n m) .nil
  | string s => exact .cons (.string s) .nil
  | pnil => exact .cons .pnil .nil
  | ptr h h' ho hb => exact .cons (.ptr h h' ho hb) .nil
  | snil => exact .cons .snil .nil
  | slice h h' ho hb hn hc hf => exact .cons (.slice h h' ho hb hn hc hf) .nil
  | sliceX h h' ho hb hn => exact .cons (.sliceX h h' ho hb hn) .nil
  | sliceE h => exact .cons (.sliceE h) .nil
  | mnil => exact .cons .mnil .nil
  | map h => exact .cons (.map h) .nil
  | func g a b c d => exact .cons (.func g a b c d) .nil
  | yield h => exact .cons (.yield h) .nil
  | nilFunc => exact .cons .nilFunc .nil
  | iface t h => exact .cons (.iface t h) .nil
  | nilIface => exact .cons .nilIface .nil
  | tuple a b => exact .cons (.tuple a b) .nil
  | poison => exact absurd rfl hne

theorem vr_cells {v v' : Value} (h : VR P ρ v v') (hne : ∀ c ∈ cellsOfV v, oneV c = true) : VL P ρ (cellsOfV v) v'.cells.toList :=
  vr_cells' h (by rintro rfl; have := hne (.chan (some 0)) (by simp [cellsOfV]); simp [oneV] at this)

theorem plain_eq : ∀ (d : Nat) {v v' : Value}, VR P ρ v v' → plainV d v = true → v' = v
  | 0, _, _, _, h => by simp [plainV] at h
  | d + 1, v, v', h, hp => by
    have hl : ∀ {cs cs' : Array Value}, cs.size = cs'.size → (∀ (i : Nat) v v', cs[i]? = some v → cs'[i]? = some v' → VR P ρ v v') → cs.toList.all (plainV d) = true → cs' = cs := by
      intro cs cs' hs hv ha
      apply Array.ext hs.symm
      intro i h1 h2
      have hx : cs[i]? = some cs[i] := Array.getElem?_eq_getElem h2
      have hy : cs'[i]? = some cs'[i] := Array.getElem?_eq_getElem h1
      have := List.all_eq_true.1 ha cs[i] (by simp)
      exact plain_eq d (hv i _ _ hx hy) this
    cases h with
    | iface t h => rw [plain_eq d h (by simpa [plainV] using hp)]
    | agg hs hv => rw [hl hs hv (by simpa [plainV] using hp)]
    | tuple hs hv => rw [hl hs hv (by simpa [plainV] using hp)]
    | func g hs hv hs2 hv2 =>
      simp only [plainV, Bool.and_eq_true] at hp
      rw [hl hs hv hp.1, hl hs2 hv2 hp.2]
    | _ => first | rfl | (simp [plainV] at hp)

theorem plain_refl : ∀ (d : Nat) {v : Value}, plainV d v = true → VR P ρ v v
  | 0, _, h => by simp [plainV] at h
  | d + 1, v, hp => by
    have hl : ∀ {cs : Array Value}, cs.toList.all (plainV d) = true → ∀ (i : Nat) v v', cs[i]? = some v → cs[i]? = some v' → VR P ρ v v' := by
      intro cs ha i v v' h1 h2
      rw [h1] at h2; cases h2
      exact plain_refl d (List.all_eq_true.1 ha v (by
        have := Array.mem_of_getElem? h1
        simpa using this))
    unfold plainV at hp
    split at hp <;> first
      | constructor; done
      | exact .iface _ (plain_refl d hp)
      | exact .agg rfl (hl hp)
      | exact .tuple rfl (hl hp)
      | skip
    · rename_i fn f c
      split at hp
      · simp only [Bool.and_eq_true] at hp
        exact .func _ rfl (hl hp.1) rfl (hl hp.2)
      · cases hp
    · cases hp
end
end Go.Am
namespace Go.Am
def laidTabs : List (Nat × List Value) := [(1, Lib.deBruijn64tab.map fun (n : Nat) => .int .u8 n)]
def strsOf : List Value → Option (List ByteArray)
  | [] => some []
  | .string s :: t => match strsOf t with
    | some l => some (s :: l)
    | none => none
  | _ :: _ => none
def pureT (g : FuncId) (args : List Value) (cells : Nat → Nat → Nat → Option (List Value)) : Option Value :=
  match Nat.beq g 193 with
  | true => match args with
    | [.int .u64 (.ofNat n)] => match Nat.blt n 18446744073709551616 with
      | true => some (.int .i64 (.ofNat (Lib.ctz 64 n)))
      | false => none
    | _ => none
  | false => match Nat.beq g 142 with
    | true => match args with
      | [.slice (some a) (n + 1) _, .string sep] => match cells a.block a.off (n + 1) with
        | some l => match strsOf l with
          | some xs => match Nat.ble n 1000 && Nat.ble (Lib.join (xs.map (·.data.toList)) sep.data.toList).length 100000 with
            | true => some (.string ⟨(Lib.join (xs.map (·.data.toList)) sep.data.toList).toArray⟩)
            | false => none
          | none => none
        | none => none
      | _ => none
    | false => none
end Go.Am
namespace Go.Am
open Go.RowKit
def Laid (B : Nat) (w : World) : Prop := ∀ t, t ∈ laidTabs → t.1 < B ∧ ∀ i v, t.2[i]? = some v → w.cell? ⟨t.1, i, none⟩ = some v
theorem Laid.below {B : Nat} {w w' : World} (h : Laid B w) (hb : Below B w w') (hs : B ≤ w'.heap.size) : Laid w'.heap.size w' := fun t ht => by
  obtain ⟨h1, h2⟩ := h t ht
  refine ⟨Nat.lt_of_lt_of_le h1 hs, fun i v hv => ?_⟩
  have := h2 i v hv
  unfold World.cell? at this ⊢
  simp only at this ⊢
  rw [hb.block _ h1]; exact this
end Go.Am
namespace Go.Am
open Go.RowKit

theorem Tr.get_e {α : Type} (i : Nat) : (Tr.e : Tr α).get i = none := rfl

theorem Tr.get_n {α : Type} (v : Option α) (l r : Tr α) (i : Nat) : (Tr.n v l r).get i = if i = 0 then v else if i % 2 = 1 then l.get (i / 2) else r.get (i / 2 - 1) := by
  show @Bool.rec (fun _ => Option α) (@Bool.rec (fun _ => Option α) (r.get (Nat.pred (Nat.div i 2))) (l.get (Nat.div i 2)) (Nat.beq (Nat.mod i 2) 1)) v (Nat.beq i 0) = _
  by_cases h0 : i = 0
  · subst h0; rfl
  · have hb : Nat.beq i 0 = false := by
      cases i with
      | zero => exact absurd rfl h0
      | succ n => rfl
    rw [if_neg h0, hb]
    show @Bool.rec (fun _ => Option α) (r.get (Nat.pred (Nat.div i 2))) (l.get (Nat.div i 2)) (Nat.beq (Nat.mod i 2) 1) = _
    by_cases h1 : i % 2 = 1
    · have hb1 : Nat.beq (Nat.mod i 2) 1 = true := by
        show Nat.beq (i % 2) 1 = true
        rw [h1]; rfl
      rw [if_pos h1, hb1]; rfl
    · have hb1 : Nat.beq (Nat.mod i 2) 1 = false := by
        rw [Bool.eq_false_iff]; intro h; exact h1 (Nat.eq_of_beq_eq_true h)
      rw [if_neg h1, hb1]; rfl

theorem brec_true {β : Type} {b : Bool} {x y : β} (h : b = true) : @Bool.rec (fun _ => β) x y b = y := by subst h; rfl
theorem brec_false {β : Type} {b : Bool} {x y : β} (h : b = false) : @Bool.rec (fun _ => β) x y b = x := by subst h; rfl

theorem beq0 {i : Nat} : Nat.beq i 0 = decide (i = 0) := by cases i <;> rfl
theorem beq1 {i : Nat} : Nat.beq (Nat.mod i 2) 1 = decide (i % 2 = 1) := by
  by_cases h : i % 2 = 1
  · simp only [h, decide_true]
    show Nat.beq (i % 2) 1 = true
    rw [h]; rfl
  · simp only [h, decide_false]; rw [Bool.eq_false_iff]; intro h'; exact h (Nat.eq_of_beq_eq_true h')

theorem Tr.setK_spec {α β : Type} : ∀ (d : Nat) (t : Tr α) (i : Nat) (v : α) (k : Tr α → Option β) (r : β), Tr.setK d t i v k = some r →
    ∃ t', k t' = some r ∧ ∀ j, t'.get j = if j = i then some v else t.get j := by
  intro d
  induction d with
  | zero => intro t i v k r h; cases h
  | succ d ih =>
    intro t i v k r h
    have hdiv : ∀ j, j ≠ 0 → i ≠ 0 → j % 2 = i % 2 → j % 2 = 1 → (j / 2 = i / 2 ↔ j = i) := fun j _ _ _ _ => by omega
    have hdiv2 : ∀ j, j ≠ 0 → i ≠ 0 → ¬ j % 2 = 1 → ¬ i % 2 = 1 → (j / 2 - 1 = i / 2 - 1 ↔ j = i) := fun j _ _ _ _ => by omega
    cases t with
    | e =>
      change @Bool.rec (fun _ => Option β) (@Bool.rec (fun _ => Option β) (Tr.setK d .e (Nat.pred (Nat.div i 2)) v fun r' => k (.n none .e r')) (Tr.setK d .e (Nat.div i 2) v fun l' => k (.n none l' .e)) (Nat.beq (Nat.mod i 2) 1)) (k (.n (some v) .e .e)) (Nat.beq i 0) = some r at h
      by_cases h0 : i = 0
      · rw [brec_true (by rw [beq0]; simp [h0])] at h
        exact ⟨_, h, fun j => by rw [Tr.get_n]; subst h0; by_cases hj : j = 0 <;> simp [hj, Tr.get_e]⟩
      · rw [brec_false (by rw [beq0]; simp [h0])] at h
        by_cases h1 : i % 2 = 1
        · rw [brec_true (by rw [beq1]; simp [h1])] at h
          obtain ⟨t', hk, ht⟩ := ih _ _ _ _ _ h
          refine ⟨_, hk, fun j => ?_⟩
          rw [Tr.get_n, Tr.get_e]
          by_cases hj0 : j = 0
          · simp [hj0, Ne.symm h0, Tr.get_e]
          · by_cases hj1 : j % 2 = 1
            · rw [if_neg hj0, if_pos hj1, ht]
              have := hdiv j hj0 h0 (by omega) hj1
              change (if j / 2 = i / 2 then some v else Tr.get .e (j / 2)) = _
              by_cases hji : j = i
              · simp [hji]
              · rw [if_neg (fun h => hji (this.1 h)), if_neg hji]; rfl
            · rw [if_neg hj0, if_neg hj1, if_neg (by rintro rfl; exact hj1 h1)]; rfl
        · rw [brec_false (by rw [beq1]; simp [h1])] at h
          obtain ⟨t', hk, ht⟩ := ih _ _ _ _ _ h
          refine ⟨_, hk, fun j => ?_⟩
          rw [Tr.get_n, Tr.get_e]
          by_cases hj0 : j = 0
          · simp [hj0, Ne.symm h0, Tr.get_e]
          · by_cases hj1 : j % 2 = 1
            · rw [if_neg hj0, if_pos hj1, if_neg (by rintro rfl; exact h1 hj1)]; rfl
            · rw [if_neg hj0, if_neg hj1, ht]
              have := hdiv2 j hj0 h0 hj1 h1
              change (if j / 2 - 1 = i / 2 - 1 then some v else Tr.get .e (j / 2 - 1)) = _
              by_cases hji : j = i
              · simp [hji]
              · rw [if_neg (fun h => hji (this.1 h)), if_neg hji]; rfl
    | n u l r' =>
      change @Bool.rec (fun _ => Option β) (@Bool.rec (fun _ => Option β) (Tr.setK d r' (Nat.pred (Nat.div i 2)) v fun r' => k (.n u l r')) (Tr.setK d l (Nat.div i 2) v fun l' => k (.n u l' r')) (Nat.beq (Nat.mod i 2) 1)) (k (.n (some v) l r')) (Nat.beq i 0) = some r at h
      by_cases h0 : i = 0
      · rw [brec_true (by rw [beq0]; simp [h0])] at h
        exact ⟨_, h, fun j => by rw [Tr.get_n, Tr.get_n]; subst h0; by_cases hj : j = 0 <;> simp [hj]⟩
      · rw [brec_false (by rw [beq0]; simp [h0])] at h
        by_cases h1 : i % 2 = 1
        · rw [brec_true (by rw [beq1]; simp [h1])] at h
          obtain ⟨t', hk, ht⟩ := ih _ _ _ _ _ h
          refine ⟨_, hk, fun j => ?_⟩
          rw [Tr.get_n, Tr.get_n]
          by_cases hj0 : j = 0
          · simp [hj0, Ne.symm h0, Tr.get_e]
          · by_cases hj1 : j % 2 = 1
            · rw [if_neg hj0, if_pos hj1, ht, if_neg hj0, if_pos hj1]
              have := hdiv j hj0 h0 (by omega) hj1
              change (if j / 2 = i / 2 then some v else Tr.get l (j / 2)) = _
              by_cases hji : j = i
              · simp [hji]
              · rw [if_neg (fun h => hji (this.1 h)), if_neg hji]
            · rw [if_neg hj0, if_neg hj1, if_neg (by rintro rfl; exact hj1 h1), if_neg hj0, if_neg hj1]
        · rw [brec_false (by rw [beq1]; simp [h1])] at h
          obtain ⟨t', hk, ht⟩ := ih _ _ _ _ _ h
          refine ⟨_, hk, fun j => ?_⟩
          rw [Tr.get_n, Tr.get_n]
          by_cases hj0 : j = 0
          · simp [hj0, Ne.symm h0, Tr.get_e]
          · by_cases hj1 : j % 2 = 1
            · rw [if_neg hj0, if_pos hj1, if_neg (by rintro rfl; exact h1 hj1), if_neg hj0, if_pos hj1]
            · rw [if_neg hj0, if_neg hj1, ht, if_neg hj0, if_neg hj1]
              have := hdiv2 j hj0 h0 hj1 h1
              change (if j / 2 - 1 = i / 2 - 1 then some v else Tr.get r' (j / 2 - 1)) = _
              by_cases hji : j = i
              · simp [hji]
              · rw [if_neg (fun h => hji (this.1 h)), if_neg hji]

theorem forceN_spec {β : Type} {m : Nat} {k : Nat → Option β} : forceN m k = k m := by unfold forceN; cases m <;> rfl

theorem forceV_spec {β : Type} {v : Value} {k : Value → Option β} : forceV v k = k v := by
  unfold forceV
  split
  · split <;> simp [forceN_spec]
  · split <;> rfl
  · split <;> simp [forceN_spec]
  · split <;> simp [forceN_spec]
  · rfl

theorem AHeap.set_spec {β : Type} {H : AHeap} {i : Nat} {o : AObj} {k : AHeap → Option β} {r : β} (h : H.set i o k = some r) :
    ∃ H', k H' = some r ∧ H'.n = H.n ∧ ∀ j, H'.get j = if j = i then o else H.get j := by
  obtain ⟨t', hk, ht⟩ := Tr.setK_spec _ _ _ _ _ _ h
  refine ⟨_, hk, rfl, fun j => ?_⟩
  simp only [AHeap.get, ht]
  by_cases hj : j = i <;> simp [hj]

theorem AHeap.new_spec {β : Type} {H : AHeap} {o : AObj} {k : Nat → AHeap → Option β} {r : β} (h : H.new o k = some r) :
    ∃ H', k H.n H' = some r ∧ H'.n = H.n + 1 ∧ ∀ j, H'.get j = if j = H.n then o else H.get j := by
  obtain ⟨t', hk, ht⟩ := Tr.setK_spec _ _ _ _ _ _ h
  rw [forceN_spec] at hk
  refine ⟨_, hk, rfl, fun j => ?_⟩
  simp only [AHeap.get, ht]
  by_cases hj : j = H.n <;> simp [hj]


def ME (P : Program) (ρ : Ren) (e e' : MapEntry) : Prop := VR P ρ e.key e'.key ∧ VR P ρ e.val e'.val ∧ e.born = e'.born

def pendCode : Option Nat → Code
  | none => .ret
  | some id => .exit id

inductive OR (P : Program) (ρ : Ren) : AObj → Ent → Obj → Prop
  | row {c : List Value} {e : TypeId} {x : Ent} {cur : Array Value} (he : x.e = e) (hs : cur.size = x.sz) (hk : x.keep = false) (h : VL P ρ c (cur.toList.take c.length)) :
      OR P ρ (.row c e) x (.cells cur e (0, 0))
  | map {es : List MapEntry} {k : Nat} {x : Ent} {es' : Array MapEntry} (h : L2 (ME P ρ) es es'.toList) : OR P ρ (.map es k) x (.map es' k)
  | iter0 {a b : Nat} {seen : List Nat} {x : Ent} {seen' : Array Nat} (h : seen'.toList = seen) : OR P ρ (.iter none a seen b) x (.mapIter none a seen' b)
  | iter {m m' a b : Nat} {seen : List Nat} {x : Ent} {seen' : Array Nat} (hm : IR ρ m m') (h : seen'.toList = seen) : OR P ρ (.iter (some m) a seen b) x (.mapIter (some m') a seen' b)
  | siter {s : ByteArray} {k : Nat} {x : Ent} : OR P ρ (.siter s k) x (.stringIter s k)
  | loop {st : LoopState} {pend : Option (Option Nat)} {x : Ent} {r : Loop} (hk : x.keep = true) (hl : x.lp = some ⟨r.tmps, r.params, r.assign, r.body, r.defers⟩) (hs : r.state = st)
      (hp : r.pending = pend.map pendCode) : OR P ρ (.loop st pend) x (.loop r)
  | defs {shut : Bool} {x : Ent} (hk : x.keep = true) : OR P ρ (.defs shut) x (.deferred (if shut then none else some []))
  | ext {c : List Value} {e e' : TypeId} {x : Ent} {cur : Array Value} {fz : Nat × Nat} (hk : x.keep = true) (h : VL P ρ c (cur.toList.take c.length)) : OR P ρ (.ext c e) x (.cells cur e' fz)

section
variable {P : Program} {ρ ρ' : Ren}

theorem ME.mono {e e' : MapEntry} (h : ME P ρ e e') (hl : Le ρ ρ') : ME P ρ' e e' := ⟨h.1.mono hl, h.2.1.mono hl, h.2.2⟩

theorem OR.mono {o : AObj} {x : Ent} {o' : Obj} (h : OR P ρ o x o') (hl : Le ρ ρ') : OR P ρ' o x o' := by
  cases h with
  | row he hs hk h => exact .row he hs hk (h.mono hl)
  | map h => exact .map (L2.mono (fun _ _ h => h.mono hl) h)
  | iter0 h => exact .iter0 h
  | iter hm h => exact .iter (hm.mono hl) h
  | siter => exact .siter
  | loop hk hl hs hp => exact .loop hk hl hs hp
  | defs hk => exact .defs hk
  | ext hk h => exact .ext hk (h.mono hl)

structure HR (P : Program) (ρ : Ren) (H : AHeap) (B : Nat) (w0 w : World) : Prop where
  len : ρ.length = H.n
  live : ∀ (i : Nat) x, ρ[i]? = some (some x) → (isExt (H.get i) = true → x.b < B) ∧ (isExt (H.get i) = false → B ≤ x.b) ∧ ∃ o', w.heap[x.b]? = some o' ∧ OR P ρ (H.get i) x o'
  dead : ∀ (i : Nat), ρ[i]? = some none → H.get i = .dead
  inj : ∀ (i j : Nat) x y, ρ[i]? = some (some x) → ρ[j]? = some (some y) → isExt (H.get i) = false → x.b = y.b → i = j
  base : Below B w0 w
  bound : B ≤ w.heap.size
  laid : Laid B w0

variable {H H' : AHeap} {B : Nat} {w0 w w' : World}

theorem HR.drew (h : HR P ρ H B w0 w) : HR P ρ H B w0 w.drew := ⟨h.len, h.live, h.dead, h.inj, h.base.drew, h.bound, h.laid⟩

theorem HR.at (h : HR P ρ H B w0 w) {i j : Nat} (hi : IR ρ i j) (hd : H.get i ≠ .dead) (he : isExt (H.get i) = false) : ∃ x o', ρ[i]? = some (some x) ∧ x.b = j ∧ w.heap[j]? = some o' ∧ OR P ρ (H.get i) x o' ∧ B ≤ j := by
  obtain ⟨x, hx, hb⟩ := hi
  cases x with
  | none => exact absurd (h.dead i hx) hd
  | some x =>
    obtain ⟨_, hB, o', ho, hor⟩ := h.live i x hx
    have := hb x rfl
    subst this
    exact ⟨x, o', hx, rfl, ho, hor, hB he⟩

theorem HR.atE (h : HR P ρ H B w0 w) {i j : Nat} (hi : IR ρ i j) {c : List Value} {e : TypeId} (hg : H.get i = .ext c e) :
    ∃ x cur e' fz, ρ[i]? = some (some x) ∧ x.b = j ∧ w.heap[j]? = some (.cells cur e' fz) ∧ x.keep = true ∧ VL P ρ c (cur.toList.take c.length) := by
  obtain ⟨x, hx, hb⟩ := hi
  cases x with
  | none => have := h.dead i hx; rw [hg] at this; cases this
  | some x =>
    obtain ⟨_, _, o', ho, hor⟩ := h.live i x hx
    have := hb x rfl
    subst this
    rw [hg] at hor
    cases hor with
    | ext hk hv => exact ⟨x, _, _, _, hx, rfl, ho, hk, hv⟩

theorem HR.new (h : HR P ρ H B w0 w) {o : AObj} {x : Ent} {o' : Obj} (hx : x.b = w.heap.size) (hn : H'.n = H.n + 1) (hg : ∀ j, H'.get j = if j = H.n then o else H.get j)
    (ho : OR P (ρ ++ [some x]) o x o') (he : isExt o = false := by rfl) : HR P (ρ ++ [some x]) H' B w0 (w.alloc o') := by
  have hle : Le ρ (ρ ++ [some x]) := Le.append _ _
  have hlt : ∀ (i : Nat) y, ρ[i]? = some y → i < H.n := fun i y hy => by have := (List.getElem?_eq_some_iff.1 hy).1; rw [h.len] at this; exact this
  have hold : ∀ (i : Nat) y, (ρ ++ [some x])[i]? = some y → (i < H.n ∧ ρ[i]? = some y) ∨ (i = H.n ∧ y = some x) := by
    intro i y hy
    rcases Nat.lt_or_ge i ρ.length with h1 | h1
    · rw [List.getElem?_append_left h1] at hy
      exact .inl ⟨hlt i y hy, hy⟩
    · rw [List.getElem?_append_right h1] at hy
      have hz : i - ρ.length = 0 := by
        have := (List.getElem?_eq_some_iff.1 hy).1
        simp at this; omega
      rw [hz] at hy
      simp at hy
      exact .inr ⟨by rw [← h.len]; omega, hy.symm⟩
  refine ⟨by simp [h.len, hn], fun i y hy => ?_, fun i hy => ?_, fun i j y z hy hz hne hb => ?_, h.base.alloc h.bound _, by (simp; have := h.bound; omega), h.laid⟩
  · rcases hold i _ hy with ⟨h1, h2⟩ | ⟨h1, h2⟩
    · obtain ⟨hB1, hB2, o2, ho2, hor⟩ := h.live i y h2
      rw [hg, if_neg (by omega)]
      refine ⟨hB1, hB2, o2, ?_, hor.mono hle⟩
      rw [heap_alloc_old]; exact ho2
      exact (Array.getElem?_eq_some_iff.1 ho2).1
    · cases h2
      rw [hg, if_pos h1]
      exact ⟨fun h0 => (by rw [he] at h0; cases h0), fun _ => by rw [hx]; exact h.bound, o', by rw [hx]; exact heap_alloc_new _ _, ho⟩
  · rcases hold i _ hy with ⟨h1, h2⟩ | ⟨h1, h2⟩
    · rw [hg, if_neg (by omega)]; exact h.dead i h2
    · cases h2
  · rcases hold i _ hy with ⟨h1, h2⟩ | ⟨h1, h2⟩ <;> rcases hold j _ hz with ⟨h3, h4⟩ | ⟨h3, h4⟩
    · rw [hg, if_neg (by omega)] at hne; exact h.inj i j y z h2 h4 hne hb
    · cases h4
      obtain ⟨_, _, o2, ho2, _⟩ := h.live i y h2
      have := (Array.getElem?_eq_some_iff.1 ho2).1
      omega
    · cases h2
      obtain ⟨_, _, o2, ho2, _⟩ := h.live j z h4
      have := (Array.getElem?_eq_some_iff.1 ho2).1
      omega
    · omega

theorem HR.add (h : HR P ρ H B w0 w) {o : AObj} {x : Ent} {o' : Obj} (hB : B ≤ x.b) (hfree : ∀ (i : Nat) y, ρ[i]? = some (some y) → y.b ≠ x.b) (hn : H'.n = H.n + 1) (hg : ∀ j, H'.get j = if j = H.n then o else H.get j)
    (ho : OR P (ρ ++ [some x]) o x o') (hw : w'.heap[x.b]? = some o') (hoth : ∀ k, k ≠ x.b → w'.heap[k]? = w.heap[k]?) (hsz : w'.heap.size = w.heap.size) (hos : w'.os = w.os) (htape : w'.tape = w.tape) (hout : w'.output = w.output) (he : isExt o = false := by rfl) :
    HR P (ρ ++ [some x]) H' B w0 w' := by
  have hle : Le ρ (ρ ++ [some x]) := Le.append _ _
  have hold : ∀ (i : Nat) y, (ρ ++ [some x])[i]? = some y → (i < H.n ∧ ρ[i]? = some y) ∨ (i = H.n ∧ y = some x) := by
    intro i y hy
    rcases Nat.lt_or_ge i ρ.length with h1 | h1
    · rw [List.getElem?_append_left h1] at hy
      exact .inl ⟨by rw [← h.len]; exact h1, hy⟩
    · rw [List.getElem?_append_right h1] at hy
      have hz : i - ρ.length = 0 := by
        have := (List.getElem?_eq_some_iff.1 hy).1
        simp at this; omega
      rw [hz] at hy
      simp at hy
      exact .inr ⟨by rw [← h.len]; omega, hy.symm⟩
  refine ⟨by simp [h.len, hn], fun i y hy => ?_, fun i hy => ?_, fun i j y z hy hz hne hb => ?_, ?_, by (rw [hsz]; exact h.bound), h.laid⟩
  · rcases hold i _ hy with ⟨h1, h2⟩ | ⟨h1, h2⟩
    · obtain ⟨hB1, hB2, o2, ho2, hor⟩ := h.live i y h2
      rw [hg, if_neg (by omega)]
      refine ⟨hB1, hB2, o2, ?_, hor.mono hle⟩
      rw [hoth _ (hfree i y h2)]; exact ho2
    · cases h2
      rw [hg, if_pos h1]
      exact ⟨fun h0 => (by rw [he] at h0; cases h0), fun _ => hB, o', hw, ho⟩
  · rcases hold i _ hy with ⟨h1, h2⟩ | ⟨h1, h2⟩
    · rw [hg, if_neg (by omega)]; exact h.dead i h2
    · cases h2
  · rcases hold i _ hy with ⟨h1, h2⟩ | ⟨h1, h2⟩ <;> rcases hold j _ hz with ⟨h3, h4⟩ | ⟨h3, h4⟩
    · rw [hg, if_neg (by omega)] at hne; exact h.inj i j y z h2 h4 hne hb
    · cases h4; exact absurd hb (hfree i y h2)
    · cases h2; exact absurd hb.symm (hfree j z h4)
    · omega
  · refine ⟨hos.trans h.base.os, htape.trans h.base.tape, hout.trans h.base.output, by rw [hsz]; exact h.base.size, fun k hk => ?_⟩
    rw [hoth k (by omega)]; exact h.base.block k hk

theorem HR.set (h : HR P ρ H B w0 w) {i : Nat} {x : Ent} {o : AObj} {o' : Obj} (hx : ρ[i]? = some (some x)) (hn : H'.n = H.n) (hg : ∀ j, H'.get j = if j = i then o else H.get j)
    (ho : OR P ρ o x o') (hw : w'.heap[x.b]? = some o') (hoth : ∀ k, k ≠ x.b → w'.heap[k]? = w.heap[k]?) (hsz : w'.heap.size = w.heap.size) (hos : w'.os = w.os) (htape : w'.tape = w.tape) (hout : w'.output = w.output) (hei : isExt (H.get i) = false) (heo : isExt o = false := by rfl) :
    HR P ρ H' B w0 w' := by
  refine ⟨by rw [hn]; exact h.len, fun j y hy => ?_, fun j hy => ?_, fun j k y z hy hz hne hb => ?_, ?_, by (rw [hsz]; exact h.bound), h.laid⟩
  · obtain ⟨hB1, hB2, o2, ho2, hor⟩ := h.live j y hy
    by_cases hji : j = i
    · subst hji
      rw [hx] at hy; cases hy
      rw [hg, if_pos rfl]
      exact ⟨fun h0 => (by rw [heo] at h0; cases h0), fun _ => hB2 hei, o', hw, ho⟩
    · rw [hg, if_neg hji]
      refine ⟨hB1, hB2, o2, ?_, hor⟩
      rw [hoth _ (fun e => hji (h.inj i j x y hx hy hei e.symm).symm)]; exact ho2
  · rw [hg, if_neg (by rintro rfl; rw [hx] at hy; cases hy)]; exact h.dead j hy
  · rw [hg] at hne
    split at hne
    · rename_i hji; subst hji; exact h.inj j k y z hy hz hei hb
    · exact h.inj j k y z hy hz hne hb
  · refine ⟨hos.trans h.base.os, htape.trans h.base.tape, hout.trans h.base.output, by rw [hsz]; exact h.base.size, fun k hk => ?_⟩
    rw [hoth k (by have := (h.live i x hx).2.1 hei; omega)]; exact h.base.block k hk

theorem HR.kill (h : HR P ρ H B w0 w) {i : Nat} {x : Ent} (hx : ρ[i]? = some (some x)) (hk : x.keep = false) (hn : H'.n = H.n) (hg : ∀ j, H'.get j = if j = i then .dead else H.get j) :
    HR P (ρ.set i none) H' B w0 w ∧ Le ρ (ρ.set i none) := by
  have hle : Le ρ (ρ.set i none) := by
    intro j y hy
    by_cases hji : j = i
    · subst hji
      have hlt := (List.getElem?_eq_some_iff.1 hy).1
      exact .inr ⟨by simp [hlt], fun z hz => by rw [hx] at hy; cases hy; cases hz; exact hk⟩
    · exact .inl (by rw [List.getElem?_set_ne (Ne.symm hji)]; exact hy)
  have hback : ∀ (j : Nat) y, (ρ.set i none)[j]? = some (some y) → j ≠ i ∧ ρ[j]? = some (some y) := by
    intro j y hy
    by_cases hji : j = i
    · subst hji
      have hlt := (List.getElem?_eq_some_iff.1 hx).1
      simp [hlt] at hy
    · exact ⟨hji, by rw [List.getElem?_set_ne (Ne.symm hji)] at hy; exact hy⟩
  refine ⟨⟨by simp [h.len, hn], fun j y hy => ?_, fun j hy => ?_, fun j k y z hy hz hne hb => ?_, h.base, h.bound, h.laid⟩, hle⟩
  · obtain ⟨hji, hy'⟩ := hback j y hy
    obtain ⟨hB1, hB2, o2, ho2, hor⟩ := h.live j y hy'
    rw [hg, if_neg hji]
    exact ⟨hB1, hB2, o2, ho2, hor.mono hle⟩
  · by_cases hji : j = i
    · rw [hg, if_pos hji]
    · rw [hg, if_neg hji]
      rw [List.getElem?_set_ne (Ne.symm hji)] at hy
      exact h.dead j hy
  · rw [hg, if_neg (hback j y hy).1] at hne; exact h.inj j k y z (hback j y hy).2 (hback k z hz).2 hne hb
end
end Go.Am
namespace Go.Am
open Go.RowKit

section
variable {P : Program} {ρ : Ren} {H : AHeap} {B : Nat} {w0 w : World}

def Got {β : Type} (P : Program) (ρ : Ren) (B : Nat) (w0 w : World) (k : K β) (r : β) (s : Sem Value) : Prop :=
  ∃ v H' ρ' v' w', k v H' = some r ∧ Le ρ ρ' ∧ HR P ρ' H' B w0 w' ∧ VR P ρ' v v' ∧ s.run P w = .ok v' w'

def GotU {β : Type} (P : Program) (ρ : Ren) (B : Nat) (w0 w : World) (k : K β) (r : β) (s : Sem Unit) : Prop :=
  ∃ H' ρ' w', k undef H' = some r ∧ Le ρ ρ' ∧ HR P ρ' H' B w0 w' ∧ s.run P w = .ok () w'

theorem run_isAgg {t : TypeId} {b : Bool} (h : isAggT P t = some b) : (isAgg t).run P w = .ok b w := by
  unfold isAggT at h
  cases hu : P.underlying t with
  | none => simp [hu] at h
  | some d => cases d <;> simp [hu] at h <;> subst h <;> simp [isAgg, run_underlying hu]

theorem run_sizeOf {t : TypeId} {n : Nat} (h : szT P t = some n) : (sizeOf t).run P w = .ok n w := by
  unfold szT at h
  cases hi : P.info? t with
  | none => simp [hi] at h
  | some i => simp [hi] at h; subst h; simp [sizeOf, typeInfo, hi]

theorem cellsOf_sz {t : TypeId} {n : Nat} (h : szT P t = some n) : P.cellsOf t = n := by
  unfold szT at h
  cases hi : P.info? t with
  | none => simp [hi] at h
  | some i => simp [hi] at h; subst h; simp [Program.cellsOf, hi]

theorem elem_underlying {t e : TypeId} (h : elemT P t = some e) : P.underlying t = some (.slice e) := by
  unfold elemT at h
  cases hu : P.underlying t with
  | none => simp [hu] at h
  | some d => cases d <;> simp [hu] at h; subst h; rfl

theorem map_underlying {t a b : TypeId} (h : mapT P t = some (a, b)) : P.underlying t = some (.map a b) := by
  unfold mapT at h
  cases hu : P.underlying t with
  | none => simp [hu] at h
  | some d => cases d <;> simp [hu] at h; obtain ⟨rfl, rfl⟩ := h; rfl

theorem fieldOf_spec {s : TypeId} {i : Nat} {f : Field} (h : fieldOf P s i = some f) : ∃ fs, P.underlying s = some (.struct fs) ∧ fs[i]? = some f := by
  unfold fieldOf at h
  cases hu : P.underlying s with
  | none => simp [hu] at h
  | some d => cases d <;> simp [hu] at h; exact ⟨_, rfl, h⟩

theorem addr_eq {a : Addr} (h : a.spot = none) : a = ⟨a.block, a.off, none⟩ := by cases a; simp_all

theorem row_at (h : HR P ρ H B w0 w) {i j : Nat} (hi : IR ρ i j) {c : List Value} {e : TypeId} (hg : H.get i = .row c e) :
    ∃ x cur, ρ[i]? = some (some x) ∧ x.b = j ∧ w.heap[j]? = some (.cells cur e (0, 0)) ∧ x.e = e ∧ cur.size = x.sz ∧ x.keep = false ∧ VL P ρ c (cur.toList.take c.length) ∧ B ≤ j := by
  obtain ⟨x, o', hx, hb, ho, hor, hB⟩ := h.at hi (by rw [hg]; simp) (by rw [hg]; rfl)
  rw [hg] at hor
  cases hor with
  | row he hs hk hv => exact ⟨x, _, hx, hb, ho, he, hs, hk, hv, hB⟩

theorem vl_take_get {c : List Value} {l : List Value} (h : VL P ρ c (l.take c.length)) {i : Nat} {v : Value} (hi : c[i]? = some v) : ∃ v', l[i]? = some v' ∧ VR P ρ v v' := by
  obtain ⟨v', hv', hr⟩ := h.get hi
  rw [List.getElem?_take] at hv'
  split at hv'
  · exact ⟨v', hv', hr⟩
  · cases hv'

theorem cell_spec (h : HR P ρ H B w0 w) {a a' : Addr} (hb : IR ρ a.block a'.block) (ho : a'.off = a.off) (hs : a'.spot = none) {v : Value} (hc : cellAt H a.block a.off = some v) :
    ∃ v', w.cell? a' = some v' ∧ VR P ρ v v' := by
  unfold cellAt at hc
  cases hg : H.get a.block <;> simp [hg] at hc
  · obtain ⟨x, cur, _, _, hw, _, _, _, hv, _⟩ := row_at h hb hg
    obtain ⟨v', hv', hr⟩ := vl_take_get hv hc
    refine ⟨v', ?_, hr⟩
    rw [addr_eq hs, cell_of_row w _ _ cur _ _ hw, ho]
    simpa using hv'
  · obtain ⟨x, cur, e', fz, _, _, hw, _, hv⟩ := h.atE hb hg
    obtain ⟨v', hv', hr⟩ := vl_take_get hv hc
    refine ⟨v', ?_, hr⟩
    rw [addr_eq hs]
    simp only [World.cell?, hw]
    simp [ho]
    simpa using hv'

theorem cells_spec (h : HR P ρ H B w0 w) {a a' : Addr} (hb : IR ρ a.block a'.block) (ho : a'.off = a.off) (hs : a'.spot = none) {n : Nat} {l : List Value} (hc : cellsAt H a.block a.off n = some l) :
    ∃ l', l'.length = n ∧ VL P ρ l l' ∧ ∀ j v, l'[j]? = some v → w.cell? (a'.add j) = some v := by
  obtain ⟨c, cur, e', fz, hw, hv, hle, rfl⟩ : ∃ c cur e' fz, w.heap[a'.block]? = some (.cells cur e' fz) ∧ VL P ρ c (cur.toList.take c.length) ∧ a.off + n ≤ c.length ∧ l = (c.drop a.off).take n := by
    unfold cellsAt at hc
    cases hg : H.get a.block <;> simp [hg] at hc
    · obtain ⟨hle, rfl⟩ := hc
      obtain ⟨x, cur, _, _, hw, _, _, _, hv, _⟩ := row_at h hb hg
      exact ⟨_, _, _, _, hw, hv, hle, rfl⟩
    · obtain ⟨hle, rfl⟩ := hc
      obtain ⟨x, cur, e', fz, _, _, hw, _, hv⟩ := h.atE hb hg
      exact ⟨_, _, _, _, hw, hv, hle, rfl⟩
  have hlen := hv.length
  have hcur : c.length ≤ cur.size := by
    have : c.length = min c.length cur.size := by simpa using hlen
    omega
  refine ⟨((cur.toList.take c.length).drop a.off).take n, ?_, (hv.drop _).take _, ?_⟩
  · simp; omega
  · intro j v hj
    have hjn : j < n := by
      have := (List.getElem?_eq_some_iff.1 hj).1
      simp at this; omega
    rw [List.getElem?_take, if_pos hjn, List.getElem?_drop, List.getElem?_take] at hj
    split at hj
    · have : a'.add j = ⟨a'.block, a'.off + j, none⟩ := by
        unfold Addr.add
        split
        · subst j; rw [addr_eq hs]; simp
        · rfl
      rw [this]
      simp only [World.cell?, hw]
      simp [ho]
      simpa using hj
    · cases hj

theorem add_none {a : Addr} (h : a.spot = none) (j : Nat) : a.add j = ⟨a.block, a.off + j, none⟩ := by
  unfold Addr.add
  split
  · subst j; rw [addr_eq h]; simp
  · rfl


theorem aExtract_ok {β : Type} {k : K β} {r : β} {x x' : Value} {i : Nat} (h : HR P ρ H B w0 w) (hx : VR P ρ x x') (ha : aExtract x i H k = some r) :
    Got P ρ B w0 w k r (Instr.extract x' i) := by
  unfold aExtract at ha
  cases hx <;> simp only at ha <;> try (cases ha; done)
  rename_i cs cs' hs hv
  cases hg : cs.toList[i]? with
  | none => simp [hg] at ha
  | some v =>
    simp only [hg] at ha
    obtain ⟨v', hv', hr⟩ := (vl_arr hs hv).get hg
    refine ⟨v, H, ρ, v', w, ha, Le.refl _, h, hr, ?_⟩
    have : cs'[i]? = some v' := by simpa using hv'
    simp [Instr.extract, this]

theorem aLoad_ok {β : Type} {k : K β} {r : β} {x x' : Value} {t : TypeId} (h : HR P ρ H B w0 w) (hx : VR P ρ x x') (ha : aLoad P t x H k = some r) :
    Got P ρ B w0 w k r (Instr.loadAt t x') := by
  unfold aLoad at ha
  cases hx <;> simp only at ha <;> try (cases ha; done)
  rename_i a a' hs hs' ho hb
  rw [if_neg (by simp [hs])] at ha
  cases hag : isAggT P t with
  | none => simp [hag] at ha
  | some b =>
    cases b
    · simp only [hag] at ha
      cases hc : cellAt H a.block a.off with
      | none => simp [hc] at ha
      | some v =>
        simp only [hc] at ha
        obtain ⟨v', hv', hr⟩ := cell_spec h hb ho hs' hc
        exact ⟨v, H, ρ, v', w, ha, Le.refl _, h, hr, by simp [Instr.loadAt, Instr.sureAddr, loadVar, run_isAgg hag, hv']⟩
    · simp only [hag] at ha
      cases hz : szT P t with
      | none => simp [hz] at ha
      | some n =>
        simp only [hz] at ha
        cases hc : cellsAt H a.block a.off n with
        | none => simp [hc] at ha
        | some l =>
          simp only [hc] at ha
          obtain ⟨l', hl, hv, hcell⟩ := cells_spec h hb ho hs' hc
          refine ⟨_, H, ρ, .agg l'.toArray, w, ha, Le.refl _, h, VR.agg_of (by simpa using hv), ?_⟩
          have hld := run_loadCells_list (P := P) w a' l' hcell
          rw [hl] at hld
          simp [Instr.loadAt, Instr.sureAddr, loadVar, run_isAgg hag, run_sizeOf hz, hld]

theorem aPick_ok {β : Type} {k : K β} {r : β} {c c' a a' b b' : Value} (h : HR P ρ H B w0 w) (hc : VR P ρ c c') (hx : VR P ρ a a') (hy : VR P ρ b b') (ha : aPick c a b H k = some r) :
    Got P ρ B w0 w k r (do pure (if ← asBool c' then a' else b')) := by
  unfold aPick at ha
  cases hc <;> try (simp at ha; done)
  rename_i x
  cases x <;> simp only at ha
  · exact ⟨b, H, ρ, b', w, ha, Le.refl _, h, hy, by simp [asBool]⟩
  · exact ⟨a, H, ρ, a', w, ha, Le.refl _, h, hx, by simp [asBool]⟩

theorem aFieldAddr_ok {β : Type} {k : K β} {r : β} {x x' : Value} {s : TypeId} {i : Nat} (h : HR P ρ H B w0 w) (hx : VR P ρ x x') (ha : aFieldAddr P s x i H k = some r) :
    Got P ρ B w0 w k r (Instr.fieldAt s x' i) := by
  unfold aFieldAddr at ha
  cases hx <;> simp only at ha <;> try (cases ha; done)
  rename_i a a' hs hs' ho hb
  cases hf : fieldOf P s i with
  | none => simp [hf] at ha
  | some f =>
    simp only [hf] at ha
    cases hz : szT P f.type with
    | none => simp [hz] at ha
    | some n =>
      simp only [hz] at ha
      split at ha
      · cases ha
      · rename_i hn
        obtain ⟨fs, hu, hi⟩ := fieldOf_spec hf
        simp only [not_or] at hn
        refine ⟨_, H, ρ, .pointer (some ⟨a'.block, a'.off + f.offset, none⟩), w, ha, Le.refl _, h, .ptr rfl rfl (by simp [ho]) hb, ?_⟩
        simp [Instr.fieldAt, run_underlying hu, hi, Instr.sureAddr, fieldPlace, run_sizeOf hz, hn.2, add_none hs']

theorem array_underlying {t e : TypeId} {n : Nat} (h : arrayT P t = some (n, e)) : P.underlying t = some (.array n e) := by
  unfold arrayT at h
  cases hu : P.underlying t with
  | none => simp [hu] at h
  | some d => cases d <;> simp [hu] at h; obtain ⟨rfl, rfl⟩ := h; rfl

theorem aIndexAddr_ok {β : Type} {k : K β} {r : β} {x x' i i' : Value} {t : TypeId} (h : HR P ρ H B w0 w) (hx : VR P ρ x x') (hi : VR P ρ i i') (ha : aIndexAddr P t x i H k = some r) :
    Got P ρ B w0 w k r (Instr.indexAt t x' i') := by
  unfold aIndexAddr at ha
  cases hi <;> simp only at ha <;> try (cases ha; done)
  rename_i q n
  cases n with
  | negSucc n => simp at ha
  | ofNat n =>
    simp only at ha
    cases hx <;> simp only at ha <;> try (cases ha; done)
    · rename_i a a' hs hs' ho hb
      split at ha
      · rename_i len elem he
        split at ha
        · rename_i size hz
          split at ha
          · rename_i hlt
            rw [if_neg (by simp [hs])] at ha
            refine ⟨_, H, ρ, .pointer (some ⟨a'.block, a'.off + n * size, none⟩), w, ha, Le.refl _, h, .ptr rfl rfl (by simp [ho]) hb, ?_⟩
            have h1 : (0 : Int) ≤ (Int.ofNat n) ∧ (Int.ofNat n) < (len : Int) := ⟨Int.natCast_nonneg n, by simpa using hlt⟩
            simp [Instr.indexAt, asIntOf, run_underlying (array_underlying he), h1.2, run_sizeOf hz, add_none hs', hlt, Instr.sureAddr]
          · cases ha
        · cases ha
      · cases ha
    · rename_i a a' m c c' hs hs' ho hb hn hc hf
      cases he : elemT P t with
      | none => simp [he] at ha
      | some e =>
        simp only [he] at ha
        cases hz : szT P e with
        | none => simp [hz] at ha
        | some size =>
          simp only [hz] at ha
          split at ha
          · rename_i hlt
            refine ⟨_, H, ρ, .pointer (some ⟨a'.block, a'.off + n * size, none⟩), w, ha, Le.refl _, h, .ptr rfl rfl (by simp [ho]) hb, ?_⟩
            have h1 : (0 : Int) ≤ (Int.ofNat n) ∧ (Int.ofNat n) < (m : Int) := ⟨Int.natCast_nonneg n, by simpa using hlt⟩
            simp [Instr.indexAt, asIntOf, run_underlying (elem_underlying he), h1.2, run_sizeOf hz, add_none hs', hlt]
          · cases ha
    · rename_i a a' m c hs hs' ho hb hn
      cases he : elemT P t with
      | none => simp [he] at ha
      | some e =>
        simp only [he] at ha
        cases hz : szT P e with
        | none => simp [hz] at ha
        | some size =>
          simp only [hz] at ha
          split at ha
          · rename_i hlt
            refine ⟨_, H, ρ, .pointer (some ⟨a'.block, a'.off + n * size, none⟩), w, ha, Le.refl _, h, .ptr rfl rfl (by simp [ho]) hb, ?_⟩
            have h1 : (0 : Int) ≤ (Int.ofNat n) ∧ (Int.ofNat n) < (m : Int) := ⟨Int.natCast_nonneg n, by simpa using hlt⟩
            simp [Instr.indexAt, asIntOf, run_underlying (elem_underlying he), h1.2, run_sizeOf hz, add_none hs', hlt]
          · cases ha
    · rename_i a a' c hs
      cases he : elemT P t with
      | none => simp [he] at ha
      | some e =>
        simp only [he] at ha
        cases hz : szT P e with
        | none => simp [hz] at ha
        | some size => simp [hz] at ha


theorem forceL_spec {β : Type} : ∀ {l : List Value} {k : List Value → Option β} {r : β}, forceL l k = some r → k l = some r ∧ ∀ v ∈ l, oneV v = true
  | [], _, _, h => ⟨h, fun v hv => by cases hv⟩
  | x :: xs, k, r, h => by
    unfold forceL at h
    split at h
    · rename_i ho
      rw [forceV_spec] at h
      obtain ⟨h1, h2⟩ := forceL_spec h
      exact ⟨h1, fun v hv => by cases hv with | head => exact ho | tail _ hv => exact h2 v hv⟩
    · cases h

theorem new_row (h : HR P ρ H B w0 w) {H' : AHeap} {c : List Value} {c' : List Value} {e : TypeId} (hn : H'.n = H.n + 1) (hg : ∀ j, H'.get j = if j = H.n then .row c e else H.get j)
    (hv : VL P ρ c (c'.take c.length)) : Le ρ (ρ ++ [some ⟨w.heap.size, c'.length, e, false, none⟩]) ∧
      HR P (ρ ++ [some ⟨w.heap.size, c'.length, e, false, none⟩]) H' B w0 (w.alloc (.cells c'.toArray e)) ∧
      (ρ ++ [some ⟨w.heap.size, c'.length, e, false, none⟩])[H.n]? = some (some ⟨w.heap.size, c'.length, e, false, none⟩) := by
  have hle := Le.append ρ [some ⟨w.heap.size, c'.length, e, false, none⟩]
  exact ⟨hle, h.new rfl hn hg (.row rfl (by simp) rfl (by simpa using hv.mono hle)), by rw [← h.len]; simp⟩

theorem ir_of {ρ : Ren} {i : Nat} {y : Ent} (h : ρ[i]? = some (some y)) {j : Nat} (hj : y.b = j) : IR ρ i j := ⟨_, h, fun z hz => by cases hz; exact hj⟩

theorem newP_row {β : Type} {k : K β} {r : β} (h : HR P ρ H B w0 w) {l l' : List Value} {t : TypeId} (hv : VL P ρ l l') (ha : newP H (.row l t) k = some r) :
    ∃ v H' ρ' v', k v H' = some r ∧ Le ρ ρ' ∧ HR P ρ' H' B w0 (w.alloc (.cells l'.toArray t)) ∧ VR P ρ' v v' ∧ v' = .pointer (some ⟨w.heap.size, 0, none⟩) := by
  obtain ⟨H', hk, hn, hg⟩ := AHeap.new_spec ha
  have hlen := hv.length
  obtain ⟨hle, hr, hx⟩ := new_row (c' := l') h hn hg (by rw [hlen, List.take_length]; exact hv)
  exact ⟨_, H', _, .pointer (some ⟨w.heap.size, 0, none⟩), hk, hle, hr, .ptr rfl rfl rfl (ir_of hx rfl), rfl⟩

theorem zero_vr {t : TypeId} {z : Value} (h : zeroT P t = some z) : VR P ρ z z := by
  unfold zeroT at h
  split at h
  · split at h
    · split at h
      · rename_i hp; cases h; exact plain_refl 6 hp
      · cases h
    · cases h
  · cases h

theorem zero_info {t : TypeId} {z : Value} (h : zeroT P t = some z) : ∃ i, P.info? t = some i ∧ i.zero = some z := by
  unfold zeroT at h
  split at h
  · rename_i i hi
    split at h
    · rename_i z' hz
      split at h
      · cases h; exact ⟨i, hi, hz⟩
      · cases h
    · cases h
  · cases h

theorem run_zeroT {t : TypeId} {z : Value} (h : zeroT P t = some z) : (zeroValue t).run P w = .ok z w := by
  obtain ⟨i, hi, hz⟩ := zero_info h
  simp [zeroValue, typeInfo, hi, hz]

theorem cells_list (v : Value) : cellsOfV v = v.cells.toList := by cases v <;> rfl

theorem aAlloc_ok {β : Type} {k : K β} {r : β} {t : TypeId} (h : HR P ρ H B w0 w) (ha : aAlloc P t H k = some r) : Got P ρ B w0 w k r (Instr.alloc t true (.tuple #[])) := by
  unfold aAlloc at ha
  cases hz : zeroT P t with
  | none => simp [hz] at ha
  | some z =>
    simp only [hz] at ha
    obtain ⟨ha, hone⟩ := forceL_spec ha
    obtain ⟨v, H', ρ', v', hk, hle, hr, hv, rfl⟩ := newP_row h (vr_cells (zero_vr hz) hone) ha
    refine ⟨v, H', ρ', _, _, hk, hle, hr, hv, ?_⟩
    simp [Instr.alloc, run_zeroT hz, newVar, newRow]

theorem aBox_ok {β : Type} {k : K β} {r : β} {x x' : Value} {t : TypeId} (h : HR P ρ H B w0 w) (hx : VR P ρ x x') (ha : aBox t x H k = some r) : Got P ρ B w0 w k r (Instr.box t x') := by
  unfold aBox at ha
  obtain ⟨ha, hone⟩ := forceL_spec ha
  obtain ⟨v, H', ρ', v', hk, hle, hr, hv, rfl⟩ := newP_row h (vr_cells hx hone) ha
  exact ⟨v, H', ρ', _, _, hk, hle, hr, hv, by simp [Instr.box, newVar, newRow]⟩


theorem put_spec : ∀ {l xs l' : List Value}, setL.put l xs = some l' → xs.length ≤ l.length ∧ l' = xs ++ l.drop xs.length
  | l, [], l', h => by
    have : l' = l := by cases l <;> (simp [setL.put] at h; first | exact h | exact h.symm)
    subst this; simp
  | [], x :: xs, l', h => by simp [setL.put] at h
  | y :: l, x :: xs, l', h => by
    simp only [setL.put, Option.map_eq_some_iff] at h
    obtain ⟨m, hm, rfl⟩ := h
    obtain ⟨h1, h2⟩ := put_spec hm
    exact ⟨by simpa using h1, by simp [h2]⟩

theorem setL_spec : ∀ {l : List Value} {i : Nat} {xs l' : List Value}, setL l i xs = some l' → (xs = [] ∧ l' = l) ∨ (i + xs.length ≤ l.length ∧ l' = l.take i ++ xs ++ l.drop (i + xs.length))
  | l, 0, xs, l', h => by
    have h' : setL.put l xs = some l' := by cases l <;> exact h
    obtain ⟨h1, h2⟩ := put_spec h'
    exact .inr ⟨by simpa using h1, by simp [h2]⟩
  | y :: l, i + 1, xs, l', h => by
    simp only [setL, Option.map_eq_some_iff] at h
    obtain ⟨m, hm, rfl⟩ := h
    rcases setL_spec hm with ⟨h1, h2⟩ | ⟨h1, h2⟩
    · exact .inl ⟨h1, by rw [h2]⟩
    · exact .inr ⟨by simp; omega, by rw [h2, show i + 1 + xs.length = (i + xs.length) + 1 by omega]; simp⟩
  | [], i + 1, [], l', h => by simp [setL] at h; exact .inl ⟨rfl, h⟩
  | [], i + 1, x :: xs, l', h => by simp [setL] at h

theorem seg_take {α : Type} (l : List α) (i m : Nat) (vs : List α) (h : i + vs.length ≤ m) (hm : m ≤ l.length) :
    (l.take i ++ vs ++ l.drop (i + vs.length)).take m = (l.take m).take i ++ vs ++ (l.take m).drop (i + vs.length) := by
  apply List.ext_getElem?
  intro j
  simp only [List.getElem?_take, List.getElem?_append, List.length_append, List.length_take, List.getElem?_drop]
  have e1 : min i l.length = i := by omega
  have e2 : min i (min m l.length) = i := by omega
  rw [e1, e2]
  by_cases h1 : j < m
  · rw [if_pos h1]
    by_cases h2 : j < i + vs.length
    · rw [if_pos h2, if_pos h2]
      by_cases h3 : j < i
      · simp [h3, show j < m by omega]
      · simp [h3]
    · rw [if_neg h2, if_neg h2, if_pos (by omega)]
  · rw [if_neg h1, if_neg (by omega), if_neg (by omega)]

theorem putK_eq {β : Type} : ∀ (l xs : List Value) (k : List Value → Option β), putK l xs k = match setL.put l xs with | some c => k c | none => none
  | l, [], k => by cases l <;> rfl
  | [], _ :: _, _ => rfl
  | _ :: l, x :: xs, k => by
    rw [putK, setL.put, putK_eq l xs]
    cases setL.put l xs <;> rfl
theorem setLK_eq {β : Type} : ∀ (l : List Value) (i : Nat) (xs : List Value) (k : List Value → Option β), setLK l i xs k = match setL l i xs with | some c => k c | none => none
  | l, 0, xs, k => by
    have h : setL l 0 xs = setL.put l xs := by cases l <;> rfl
    have h2 : setLK l 0 xs k = putK l xs k := by cases l <;> cases xs <;> rfl
    rw [h, h2, putK_eq]
  | y :: l, i + 1, xs, k => by
    have h : setLK (y :: l) (i + 1) xs k = setLK l i xs fun l' => k (y :: l') := rfl
    rw [h, setL, setLK_eq l i xs]
    cases setL l i xs <;> rfl
  | [], _ + 1, [], _ => rfl
  | [], _ + 1, _ :: _, _ => rfl

theorem storeAt_ok {β : Type} {k : AHeap → Option β} {r : β} (h : HR P ρ H B w0 w) {i j off : Nat} (hi : IR ρ i j) {xs xs' : List Value} (hv : VL P ρ xs xs') (ha : storeAt H i off xs k = some r) :
    ∃ H', k H' = some r ∧ ∃ w', (storeCells ⟨j, off, none⟩ xs').run P w = .ok () w' ∧ HR P ρ H' B w0 w' := by
  unfold storeAt at ha
  cases hg : H.get i <;> simp only [hg] at ha <;> try (cases ha; done)
  rename_i c e
  obtain ⟨ha, hone⟩ := forceL_spec ha
  rw [setLK_eq] at ha
  cases hset : setL c off xs with
  | none => simp [hset] at ha
  | some c' =>
    simp only [hset] at ha
    obtain ⟨H', hk, hn, hg'⟩ := AHeap.set_spec ha
    obtain ⟨x, cur, hx, hb, hw, he, hs, hkeep, hvl, hB⟩ := row_at h hi hg
    have hcur : c.length ≤ cur.size := by
      have : c.length = min c.length cur.size := by simpa using hvl.length
      omega
    have hone' : ∀ v ∈ xs', v.oneCell' = true := by
      intro v hvm
      obtain ⟨n, hn', hnv⟩ := List.mem_iff_getElem.1 hvm
      obtain ⟨a, ha', hr⟩ := hv.get' (i := n) (b := v) (by rw [List.getElem?_eq_getElem hn', hnv])
      exact hr.oneCell (hone a (List.mem_of_getElem? ha'))
    refine ⟨H', hk, ?_⟩
    rcases setL_spec hset with ⟨hnil, hc'⟩ | ⟨hle, hc'⟩
    · subst hnil
      have hx0 : xs' = [] := by cases hv; rfl
      subst hx0; subst hc'
      refine ⟨w, by simp [storeCells], ?_⟩
      exact h.set (o := .row c' e) hx hn hg' (.row he hs hkeep hvl) (by rw [hb]; exact hw) (fun _ _ => rfl) rfl rfl rfl rfl (by rw [hg]; rfl)
    · have hlen := hv.length
      have hrun := run_storeCells_at P j off e xs' 0 cur w hw (by simp; omega) hone'
      simp only [Nat.add_zero] at hrun
      refine ⟨_, hrun, h.set (o := .row c' e) hx hn hg' (.row he ?_ hkeep ?_) (by rw [hb]; exact setRow_heap w j cur _ e _ hw) (fun q hq => by rw [hb] at hq; exact setRow_other w j q _ hq) (size_setRow _ _ _) rfl rfl rfl (by rw [hg]; rfl)⟩
      · simp; omega
      · have hcl : c'.length = c.length := by subst hc'; simp; omega
        have hst := seg_take cur.toList off c.length xs' (by omega) (by simpa using hcur)
        simp only [hcl, hst]
        subst hc'
        rw [hlen]
        exact ((hvl.take _).append hv).append (hvl.drop _)

theorem aStore_ok {β : Type} {k : K β} {r : β} {x x' y y' : Value} {t : TypeId} (h : HR P ρ H B w0 w) (hx : VR P ρ x x') (hy : VR P ρ y y') (ha : aStore P t x y H k = some r) :
    GotU P ρ B w0 w k r (Instr.storeAt t x' y') := by
  unfold aStore at ha
  cases hx <;> simp only at ha <;> try (cases ha; done)
  rename_i a a' hs hs' ho hb
  rw [if_neg (by simp [hs])] at ha
  split at ha
  · rename_i hz
    have hone : ∀ c ∈ cellsOfV y, oneV c = true := by
      unfold storeAt at ha
      split at ha
      · exact (forceL_spec ha).2
      · cases ha
    have hc := vr_cells hy hone
    obtain ⟨H', hk, w', hrun, hr⟩ := storeAt_ok h hb hc ha
    refine ⟨H', ρ, w', hk, Le.refl _, hr, ?_⟩
    have hlen := hc.length
    rw [← ho, ← addr_eq hs'] at hrun
    have hsz : y'.cells.size = (cellsOfV y).length := by rw [hlen]; simp
    simp [Instr.storeAt, Instr.sureAddr, storeVar, run_sizeOf hz, hsz, hrun]
  · cases ha

end
end Go.Am
