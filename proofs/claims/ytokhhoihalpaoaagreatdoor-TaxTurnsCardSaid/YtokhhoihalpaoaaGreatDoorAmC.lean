/- Code, calls, loops over functions and deferred calls of the closed evaluator are sound. -/
import Derived.Scope
import Derived.RecoverIn
import Derived.Test.YtokhhoihalpaoaaGreatDoorAmB
set_option linter.all false
namespace Go.Am
open Go.RowKit

section
variable {P : Program} {ρ ρ' : Ren} {H : AHeap} {B : Nat} {w0 w : World}

inductive DR (P : Program) (ρ : Ren) : Deferred → Deferred → Prop
  | mark {r r' : Nat} (h : IR ρ r r') : DR P ρ { target := .collected r, args := #[] } { target := .collected r', args := #[] }
  | fn (g : FuncId) {c c' a a' : Array Value} (hc : VL P ρ c.toList c'.toList) (ha : VL P ρ a.toList a'.toList) : DR P ρ { target := .fn (.func g) c, args := a } { target := .fn (.func g) c', args := a' }

theorem DR.mono {d d' : Deferred} (h : DR P ρ d d') (hl : Le ρ ρ') : DR P ρ' d d' := by
  cases h with
  | mark h => exact .mark (h.mono hl)
  | fn g hc ha => exact .fn g (VL.mono hc hl) (VL.mono ha hl)

structure AFR (P : Program) (ρ : Ren) (sz : Nat) (f : AF) (a : Act) : Prop where
  size : a.tmps.size = sz
  tmps : ∀ t, VR P ρ (f.tmp t) (a.tmps.getD t undef)
  defers : L2 (DR P ρ) f.defers a.defers

theorem AFR.mono {sz : Nat} {f : AF} {a : Act} (h : AFR P ρ sz f a) (hl : Le ρ ρ') : AFR P ρ' sz f a :=
  ⟨h.size, fun t => (h.tmps t).mono hl, L2.mono (fun _ _ h => h.mono hl) h.defers⟩

theorem AFR.eval {sz : Nat} {f : AF} {a : Act} (h : AFR P ρ sz f a) : ∀ x, VR P ρ (f.eval x) (a.eval x) := by
  intro x
  cases x with
  | tmp t => exact h.tmps t
  | const v =>
    simp only [AF.eval, Act.eval]
    split
    · rename_i hp; exact plain_refl 6 hp
    · exact .poison
  | global g => exact .poison
  | func g => exact VR.func_of .nil .nil

theorem putA_spec {β : Type} {sz : Nat} {f : AF} {dst : Option Tmp} {v : Value} {k : AF → Option β} {r : β} (h : putA sz f dst v k = some r) :
    ∃ f', k f' = some r ∧ f'.defers = f.defers ∧ (∀ d, dst = some d → d < sz) ∧ ∀ t, f'.tmp t = if dst = some t then v else f.tmp t := by
  unfold putA at h
  split at h
  · exact ⟨f, h, rfl, fun d hd => by simp at hd, fun t => by simp⟩
  · rename_i d
    split at h
    · cases h
    · rename_i hble
      have hlt : d < sz := by
        rcases Nat.lt_or_ge d sz with h1 | h1
        · exact h1
        · rw [Nat.ble_eq_true_of_le h1] at hble; cases hble
      rw [forceV_spec] at h
      obtain ⟨t', hk, ht⟩ := Tr.setK_spec _ _ _ _ _ _ h
      refine ⟨_, hk, rfl, fun d' hd' => by cases hd'; exact hlt, fun t => ?_⟩
      simp only [AF.tmp, ht]
      by_cases hd : t = d
      · subst hd; simp
      · rw [if_neg hd, if_neg (by simpa using fun h : d = t => hd h.symm)]

theorem AFR.put {sz : Nat} {f f' : AF} {a : Act} {dst : Option Tmp} {v v' : Value} (h : AFR P ρ sz f a) (hv : VR P ρ v v') (hd : f'.defers = f.defers) (hlt : ∀ d, dst = some d → d < sz)
    (ht : ∀ t, f'.tmp t = if dst = some t then v else f.tmp t) : AFR P ρ sz f' (a.put dst v') := by
  cases dst with
  | none => exact ⟨h.size, fun t => by rw [ht]; simpa [Act.put] using h.tmps t, by rw [hd]; exact h.defers⟩
  | some d =>
    refine ⟨by simp [Act.put, h.size], fun t => ?_, by rw [hd]; exact h.defers⟩
    rw [ht]
    have hds : d < a.tmps.size := by rw [h.size]; exact hlt d rfl
    by_cases hdt : d = t
    · subst hdt
      simp [Act.put, hds, hv]
    · rw [if_neg (by simpa using hdt)]
      have : ((a.tmps.setIfInBounds d v').getD t undef) = a.tmps.getD t undef := by
        simp only [Array.getD_eq_getD_getElem?]
        rw [Array.getElem?_setIfInBounds_ne hdt]
      simp only [Act.put, this]
      exact h.tmps t


def LI (P : Program) (ρ : Ren) (loops : List (Nat × LInfo)) : Prop := ∀ l x, findLoop l loops = some x →
  ∃ y lp, ρ[l]? = some (some y) ∧ y.keep = true ∧ y.lp = some lp ∧ lp.params = x.params ∧ lp.assign = x.assign ∧ lp.body = x.body ∧ lp.tmps.size = x.sz ∧
    (∀ t, VR P ρ ((⟨x.env, []⟩ : AF).tmp t) (lp.tmps.getD t undef)) ∧ ∃ z, ρ[x.defers]? = some (some z) ∧ z.keep = true ∧ z.b = lp.defers

theorem LI.mono {loops : List (Nat × LInfo)} (h : LI P ρ loops) (hl : Le ρ ρ') : LI P ρ' loops := fun l x hx => by
  obtain ⟨y, lp, h1, h2, h3, h4, h5, h6, h7, h8, z, h9, h10, h11⟩ := h l x hx
  exact ⟨y, lp, hl.keeps h1 h2, h2, h3, h4, h5, h6, h7, fun t => (h8 t).mono hl, z, hl.keeps h9 h10, h10, h11⟩

def FR (ρ : Ren) (cx : Cx) (F : Fence) : Prop := match cx.round with
  | none => F = Fence.wide
  | some l => ∃ x y, findLoop l cx.loops = some x ∧ ρ[l]? = some (some y) ∧ y.keep = true ∧ F = Fence.wide.inRound y.b

theorem FR.mono {cx : Cx} {F : Fence} (h : FR ρ cx F) (hl : Le ρ ρ') : FR ρ' cx F := by
  unfold FR at *
  split
  · rename_i hr; rw [hr] at h; exact h
  · rename_i l hr
    rw [hr] at h
    obtain ⟨x, y, h1, h2, h3, h4⟩ := h
    exact ⟨x, y, h1, hl.keeps h2 h3, h3, h4⟩


def OutPost (P : Program) (ρ : Ren) (B : Nat) (w0 : World) (sz : Nat) (outs : List Out) (e : Exit) (a' : Act) (w' : World) : Prop :=
  ∃ r, r ∈ outs ∧ e = r.e ∧ ∃ ρ', Le ρ ρ' ∧ HR P ρ' r.H B w0 w' ∧ AFR P ρ' sz r.f a'

def CallPost (P : Program) (ρ : Ren) (B : Nat) (w0 : World) (outs : List Out) (e : Ending) (w' : World) : Prop :=
  ∃ r, r ∈ outs ∧ ∃ ρ' v', e = .returned v' ∧ Le ρ ρ' ∧ HR P ρ' r.H B w0 w' ∧ VR P ρ' r.v v'

def CodeOK (P : Program) (cx : Cx) (c : Code) (f : AF) (H : AHeap) (outs : List Out) : Prop :=
  ∀ (ρ : Ren) (B : Nat) (w0 w : World) (a : Act) (F : Fence), HR P ρ H B w0 w → LI P ρ cx.loops → FR ρ cx F → AFR P ρ cx.sz f a → c.wpIn F 0 P (OutPost P ρ B w0 cx.sz outs) a w

def CallOK (P : Program) (dm : Bool) (loops : List (Nat × LInfo)) (g : FuncId) (args : List Value) (H : AHeap) (outs : List Out) : Prop :=
  ∀ (ρ : Ren) (B : Nat) (w0 w : World) (args' : List Value), HR P ρ H B w0 w → LI P ρ loops → VL P ρ args args' →
    match dm with
    | false => CallsIn Fence.wide 0 P g args'.toArray w (CallPost P ρ B w0 outs)
    | true => CallsDIn Fence.wide 0 P g args'.toArray .returning w fun e u w' => u = .returning ∧ CallPost P ρ B w0 outs e w'

def RoundOK (P : Program) (loops : List (Nat × LInfo)) (l : Nat) (args : List Value) (H : AHeap) (outs : List Out) : Prop :=
  (∃ x st pend, findLoop l loops = some x ∧ x.params.size = args.length ∧ H.get l = .loop st pend) ∧
  ∀ (ρ : Ren) (B : Nat) (w0 w : World) (args' : List Value) (y : Ent) (lp : LoopC) (fn : FuncId), HR P ρ H B w0 w → LI P ρ loops → VL P ρ args args' → ρ[l]? = some (some y) → y.lp = some lp →
    RoundIn Fence.wide 0 P y.b fn ((lp.params.zip args'.toArray).foldl (fun tmps (t, a) => tmps.setIfInBounds t a) lp.tmps) lp.assign lp.body w (CallPost P ρ B w0 outs)

def TaskOK (P : Program) : Task → List Out → Prop
  | .code cx c f H, outs => CodeOK P cx c f H outs
  | .call dm loops g args H, outs => CallOK P dm loops g args H outs
  | .round loops l args H, outs => RoundOK P loops l args H outs

def RecOK (P : Program) (rec : Rec) : Prop := ∀ t outs, rec t = some outs → TaskOK P t outs

theorem OutPost.sub {sz : Nat} {outs outs' : List Out} {e : Exit} {a' : Act} {w' : World} (h : OutPost P ρ B w0 sz outs e a' w') (hs : ∀ x ∈ outs, x ∈ outs') : OutPost P ρ B w0 sz outs' e a' w' := by
  obtain ⟨r, hr, rest⟩ := h
  exact ⟨r, hs r hr, rest⟩

theorem OutPost.le {sz : Nat} {outs : List Out} {e : Exit} {a' : Act} {w' : World} (hl : Le ρ ρ') (h : OutPost P ρ' B w0 sz outs e a' w') : OutPost P ρ B w0 sz outs e a' w' := by
  obtain ⟨r, hr, he, ρ2, hl2, rest⟩ := h
  exact ⟨r, hr, he, ρ2, hl.trans hl2, rest⟩

theorem CallPost.sub {outs outs' : List Out} {e : Ending} {w' : World} (h : CallPost P ρ B w0 outs e w') (hs : ∀ x ∈ outs, x ∈ outs') : CallPost P ρ B w0 outs' e w' := by
  obtain ⟨r, hr, rest⟩ := h
  exact ⟨r, hs r hr, rest⟩

theorem CallPost.le {outs : List Out} {e : Ending} {w' : World} (hl : Le ρ ρ') (h : CallPost P ρ' B w0 outs e w') : CallPost P ρ B w0 outs e w' := by
  obtain ⟨r, hr, ρ2, v', he, hl2, rest⟩ := h
  exact ⟨r, hr, ρ2, v', he, hl.trans hl2, rest⟩


theorem wanted_ok {sz : Nat} {ops : Array Oper} {f : AF} {a : Act} {o : Oper} {b : Bool} (h : AFR P ρ sz f a) (hw : wantedA ops f o = some b) : Region.wanted o (yielded ops a.tmps) = b := by
  unfold wantedA at hw
  unfold Region.wanted
  split at hw
  · rename_i hg; cases hw; rw [hg]
  · rename_i j want hg
    rw [hg]
    simp only
    split at hw
    · rename_i hj
      cases hw
      have : ops[j]? = none := by simpa using hj
      simp [yielded, this]
    · rename_i g hj
      have hj' : ops[j]? = some g := by simpa using hj
      split at hw
      · rename_i hd
        cases hw
        simp [yielded, hj', hd]
      · rename_i d hd
        have ht := h.tmps d
        have hcase : a.tmps[d]? = some (a.tmps.getD d undef) ∨ (a.tmps[d]? = none ∧ a.tmps.getD d undef = undef) := by
          simp only [Array.getD_eq_getD_getElem?]
          cases hx : a.tmps[d]? with
          | none => exact .inr ⟨rfl, rfl⟩
          | some v => exact .inl rfl
        split at hw
        · rename_i b' hb
          cases hw
          rw [hb] at ht
          generalize hv : a.tmps.getD d undef = v' at ht hcase
          cases ht
          rcases hcase with h1 | ⟨_, h1⟩
          · simp [yielded, hj', hd, h1]
          · cases h1
        · rename_i cs hb
          cases hw
          rw [hb] at ht
          generalize hv : a.tmps.getD d undef = v' at ht hcase
          cases ht
          rcases hcase with h1 | ⟨h1, _⟩
          · simp [yielded, hj', hd, h1]
          · simp [yielded, hj', hd, h1]
        · cases hw
end
end Go.Am
namespace Go.Am
open Go.RowKit

section
variable {P : Program} {ρ ρ' : Ren} {H : AHeap} {B : Nat} {w0 w : World}

theorem FR.fn {cx : Cx} {F : Fence} (h : FR ρ cx F) : ∀ f, F.fn f := by
  unfold FR at h
  split at h
  · subst h; exact fun _ => trivial
  · obtain ⟨_, _, _, _, _, rfl⟩ := h; exact fun _ => trivial

theorem FR.depth {cx : Cx} {F : Fence} (h : FR ρ cx F) {n : Nat} : F.depth.isSome = true → 1 ≤ n := by
  unfold FR at h
  split at h
  · subst h; intro h; simp [Fence.wide] at h
  · obtain ⟨_, _, _, _, _, rfl⟩ := h; intro h; simp [Fence.wide, Fence.inRound] at h

theorem FR.calls {cx : Cx} {F : Fence} (h : FR ρ cx F) {n : Nat} {g : FuncId} {args : Array Value} {R : Ending → World → Prop} (hc : CallsIn Fence.wide n P g args w R) : CallsIn F n P g args w R := by
  unfold FR at h
  split at h
  · subst h; exact hc
  · obtain ⟨_, _, _, _, _, rfl⟩ := h; exact hc

theorem FR.rounds {cx : Cx} {F : Fence} (h : FR ρ cx F) {n l : Nat} {fn : FuncId} {tmps : Array Value} {assign body : Code} {R : Ending → World → Prop} (hc : RoundIn Fence.wide n P l fn tmps assign body w R) :
    RoundIn F n P l fn tmps assign body w R := by
  unfold FR at h
  split at h
  · subst h; exact hc
  · obtain ⟨_, _, _, _, _, rfl⟩ := h; exact hc

theorem aCallee_fn {g g' : Value} {args args2 : List Value} {q : FuncId} (hv : VR P ρ g g') (h : aCallee P g args = .fn q args2) :
    ∃ fn first captured first' captured', P.funcs[q]? = some fn ∧ (fn.name == "runtime.NumGoroutine") = false ∧ fn.body.isNone = false ∧ g' = .func (.func q) first' captured' ∧ args2 = first ++ args ++ captured ∧
      VL P ρ first first'.toList ∧ VL P ρ captured captured'.toList := by
  unfold aCallee at h
  split at h
  · rename_i q' first captured
    split at h
    · rename_i fn hfn
      split at h
      · cases h
      · rename_i hc
        simp only [Bool.or_eq_true, not_or, Bool.not_eq_true] at hc
        cases h
        cases hv with
        | func _ hs hx hs2 hx2 => exact ⟨fn, _, _, _, _, hfn, hc.1, hc.2, rfl, rfl, vl_arr hs hx, vl_arr hs2 hx2⟩
    · cases h
  · cases h
  · cases h

theorem aCallee_round {g g' : Value} {args args2 : List Value} {l : Nat} (hv : VR P ρ g g') (h : aCallee P g args = .round l args2) :
    ∃ l', g' = .func (.yield l') #[] #[] ∧ IR ρ l l' ∧ args2 = args := by
  unfold aCallee at h
  split at h
  · split at h
    · split at h <;> cases h
    · cases h
  · cases h
    cases hv with
    | yield h => exact ⟨_, rfl, h, by simp⟩
  · cases h

theorem run_call {g : FuncId} {fn : Func} {first captured : Array Value} {o : Oper} {ev : Operand → Value} {x : Operand} {args : Array Operand} {ts : Array TypeId} (hop : o.op = .call { callee := .value x, args, argTypes := ts })
    (hx : ev x = .func (.func g) first captured) (hf : P.funcs[g]? = some fn) (hn : (fn.name == "runtime.NumGoroutine") = false) (hb : fn.body.isNone = false) :
    (execOp ev o).run P w = .ok (.enter g (first ++ args.map ev ++ captured)) w := by
  have hn' : ¬ fn.name = "runtime.NumGoroutine" := by simpa using hn
  have hb' : ¬ fn.body = none := by intro h0; simp [h0] at hb
  simp [execOp, hop, resolve, hx, Deferred.ofValue, invoke, callFunc, hf, hn', hb']

theorem run_yield_call {l : Nat} {r : Loop} {o : Oper} {ev : Operand → Value} {x : Operand} {args : Array Operand} {ts : Array TypeId} (hop : o.op = .call { callee := .value x, args, argTypes := ts })
    (hx : ev x = .func (.yield l) #[] #[]) (hl : w.heap[l]? = some (.loop r)) (hs : args.size = r.params.size) :
    (execOp ev o).run P w = .ok (.round l r.fn ((r.params.zip (args.map ev)).foldl (fun tmps (t, a) => tmps.setIfInBounds t a) r.tmps) r.assign r.body) w := by
  have hg : (Instr.getLoop l).run P w = .ok r w := by simp [Instr.getLoop, getObj, Sem.run, hl]
  simp [execOp, hop, resolve, hx, Deferred.ofValue, invoke, Instr.yield, hg, hs]

theorem arr_of_list {α : Type} {a b c : Array α} : a ++ b ++ c = (a.toList ++ b.toList ++ c.toList).toArray := by
  apply Array.ext'; simp

theorem callA_ok {rec : Rec} (hrec : RecOK P rec) {cx : Cx} {o : Oper} {x : Operand} {args : Array Operand} {ts : Array TypeId} (hop : o.op = .call { callee := .value x, args, argTypes := ts })
    {f : AF} {a : Act} {F : Fence} {k : AF → AHeap → Option (List Out)} {outs : List Out} {next : Act → World → Prop} {Q : Exit → Act → World → Prop}
    (h : HR P ρ H B w0 w) (hl : LI P ρ cx.loops) (hF : FR ρ cx F) (hf : AFR P ρ cx.sz f a)
    (hnext : ∀ f' H' ρ' a' w' outs', k f' H' = some outs' → (∀ y ∈ outs', y ∈ outs) → Le ρ ρ' → HR P ρ' H' B w0 w' → AFR P ρ' cx.sz f' a' → next a' w')
    (ha : callA P rec cx o.dst (f.eval x) (args.toList.map f.eval) f H k = some outs) : o.wpIn F 0 P a w next Q := by
  have hsem : o.semAt F.round a.eval = execOp a.eval o := Oper.semAt_eq _ _ _ (fun c h0 => by rw [hop] at h0; cases h0)
  refine ⟨fun g _ => hF.fn g, ?_⟩
  rw [hsem]
  have fin : ∀ (rs : List Out) (e : Ending) (w' : World), bindO rs (fun r => putA cx.sz f o.dst r.v fun f' => k f' r.H) = some outs → CallPost P ρ B w0 rs e w' →
      match e, w' with | .returned v, w'' => next (a.put o.dst v) w'' | .panicked chain, w'' => Q (.panic chain) a w'' | .outgrown, _ => LetsOut Q := by
    rintro rs e w' hb ⟨r, hr, ρ', v', rfl, hle, hHR, hv⟩
    obtain ⟨outs', h1, h2⟩ := bindO_mem hb r hr
    obtain ⟨f', hk, hd, hlt, ht⟩ := putA_spec h1
    exact hnext f' r.H ρ' _ w' outs' hk h2 hle hHR ((hf.mono hle).put hv hd hlt ht)
  unfold callA at ha
  split at ha
  · rename_i q args2 hcal
    obtain ⟨fn, first, captured, first', captured', hfn, hn, hb, hx, rfl, hv1, hv2⟩ := aCallee_fn (hf.eval x) hcal
    rw [run_call hop hx hfn hn hb, arr_of_list]
    split at ha
    · cases ha
    · rename_i rs hrs
      have hc := hrec _ _ hrs ρ B w0 w _ h hl ((hv1.append (vl_map hf.eval args.toList)).append hv2)
      refine ⟨hF.depth, hF.calls (CallsIn.mono ?_ fun e w' he => fin rs e w' ha he)⟩
      simpa using hc
  · rename_i l args2 hcal
    obtain ⟨l', hx, hir, rfl⟩ := aCallee_round (hf.eval x) hcal
    split at ha
    · cases ha
    · rename_i rs hrs
      obtain ⟨⟨x0, st, pend, hfl, hps, hg⟩, hround⟩ := hrec _ _ hrs
      obtain ⟨y, o', hy, hyb, hw, hor, _⟩ := h.at hir (by rw [hg]; simp) (by rw [hg]; rfl)
      rw [hg] at hor
      cases hor with
      | loop hk hlp hst hp =>
        rename_i r
        obtain ⟨y2, lp, hy2, _, hlp2, hpar, _⟩ := hl l x0 hfl
        rw [hy] at hy2; cases hy2
        rw [hlp] at hlp2; cases hlp2
        have hsz : args.size = r.params.size := by
          simp only at hpar
          rw [hpar, hps]; simp
        rw [run_yield_call hop hx hw hsz]
        have hv := vl_map hf.eval args.toList
        have := hround ρ B w0 w _ y _ r.fn h hl hv hy hlp
        refine ⟨hF.depth, hF.rounds (RoundIn.mono ?_ fun e w' he => fin rs e w' ha he)⟩
        rw [hyb] at this
        have hmap : (args.toList.map a.eval).toArray = args.map a.eval := by apply Array.ext'; simp
        rw [hmap] at this
        exact this
  · cases ha

theorem deferA_ok {cx : Cx} {o : Oper} {x : Operand} {args : Array Operand} {ts : Array TypeId} (hop : o.op = .defer { callee := .value x, args, argTypes := ts })
    {f : AF} {a : Act} {F : Fence} {k : AF → AHeap → Option (List Out)} {outs : List Out} {next : Act → World → Prop} {Q : Exit → Act → World → Prop}
    (h : HR P ρ H B w0 w) (hF : FR ρ cx F) (hf : AFR P ρ cx.sz f a)
    (hnext : ∀ f' H' ρ' a' w' outs', k f' H' = some outs' → (∀ y ∈ outs', y ∈ outs) → Le ρ ρ' → HR P ρ' H' B w0 w' → AFR P ρ' cx.sz f' a' → next a' w')
    (ha : deferA cx o.dst (f.eval x) (args.toList.map f.eval) f H k = some outs) : o.wpIn F 0 P a w next Q := by
  unfold deferA at ha
  split at ha
  · rename_i q first captured hr hx
    have hF' : F = Fence.wide := by unfold FR at hF; rw [hr] at hF; exact hF
    subst hF'
    have hvx := hf.eval x
    rw [hx] at hvx
    generalize hax : a.eval x = xv at hvx
    cases hvx with
    | func _ hs hv hs2 hv2 =>
      rename_i first' captured'
      refine ⟨fun _ _ => trivial, ?_⟩
      have hrun : (o.semAt Fence.wide.round a.eval).run P w = .ok (.defer { target := .fn (.func q) captured', args := first' ++ args.map a.eval }) w := by
        show (execOp a.eval o).run P w = _
        simp [execOp, hop, resolve, hax, Deferred.ofValue]
      rw [hrun]
      obtain ⟨f', hk, hd, hlt, ht⟩ := putA_spec ha
      refine hnext f' H ρ _ w outs hk (fun _ h => h) (Le.refl _) h ?_
      have h2 : AFR P ρ cx.sz (⟨f.env, { target := .fn (.func q) captured, args := (first.toList ++ args.toList.map f.eval).toArray } :: f.defers⟩ : AF)
          { a with defers := { target := .fn (.func q) captured', args := first' ++ args.map a.eval } :: a.defers } :=
        ⟨hf.size, hf.tmps, .cons (.fn q (vl_arr hs2 hv2) (by simpa using (vl_arr hs hv).append (vl_map hf.eval args.toList))) hf.defers⟩
      exact h2.put VR.undef hd hlt ht
  · cases ha

theorem opA_ok {rec : Rec} (hrec : RecOK P rec) {cx : Cx} {o : Oper} {f : AF} {a : Act} {F : Fence} {k : AF → AHeap → Option (List Out)} {outs : List Out} {next : Act → World → Prop} {Q : Exit → Act → World → Prop}
    (h : HR P ρ H B w0 w) (hl : LI P ρ cx.loops) (hF : FR ρ cx F) (hf : AFR P ρ cx.sz f a)
    (hnext : ∀ f' H' ρ' a' w' outs', k f' H' = some outs' → (∀ y ∈ outs', y ∈ outs) → Le ρ ρ' → HR P ρ' H' B w0 w' → AFR P ρ' cx.sz f' a' → next a' w')
    (ha : opA P rec cx o f H k = some outs) : o.wpIn F 0 P a w next Q := by
  have hval : (∀ c, o.op ≠ .defer c) → valA P o (decode o.op) f.eval H (fun v H' => putA cx.sz f o.dst v fun f' => k f' H') = some outs → o.wpIn F 0 P a w next Q := by
    intro hnd hv
    obtain ⟨v, H', ρ', v', w', h1, h2, h3, h4, h5⟩ := valA_ok h hf.eval hv
    obtain ⟨f', hk, hd, hlt, ht⟩ := putA_spec h1
    have hfin := hnext f' H' ρ' _ w' outs hk (fun _ h => h) h2 h3 ((hf.mono h2).put h4 hd hlt ht)
    refine ⟨fun g _ => hF.fn g, ?_⟩
    rw [Oper.semAt_eq _ _ _ hnd]
    rcases h5 with h5 | ⟨h5, rfl⟩
    · rw [h5]; exact hfin
    · rw [h5]; exact hfin
  unfold opA at ha
  cases hop : o.op with
  | call c =>
    obtain ⟨callee, args, ts⟩ := c
    cases callee with
    | value x =>
      rw [hop] at ha
      exact callA_ok hrec hop h hl hF hf hnext ha
    | builtin b =>
      cases b <;> first
        | (refine hval (fun c h0 => by rw [hop] at h0; cases h0) ?_; rw [hop] at ha ⊢; exact ha)
        | (rw [hop] at ha; simp [decode, restA] at ha)
    | invoke x m => exact hval (fun c h0 => by rw [hop] at h0; cases h0) (by rw [hop] at ha ⊢; exact ha)
  | defer c =>
    obtain ⟨callee, args, ts⟩ := c
    cases callee with
    | value x =>
      rw [hop] at ha
      exact deferA_ok hop h hF hf hnext ha
    | _ => rw [hop] at ha; simp [decode, restA] at ha
  | next it s =>
    cases s with
    | true => exact hval (fun c h0 => by rw [hop] at h0; cases h0) (by rw [hop] at ha ⊢; exact ha)
    | false =>
      rw [hop] at ha
      simp only [decode, restA] at ha
      obtain ⟨v, H', ρ', v', w', r', h1, hsub, h2, h3, h4, h5⟩ := aNext_ok (t := o.type) h (hf.eval it) ha
      obtain ⟨f', hk, hd, hlt, ht⟩ := putA_spec h1
      have hfin := hnext f' H' ρ' _ w' r' hk hsub h2 h3 ((hf.mono h2).put h4 hd hlt ht)
      refine ⟨fun g _ => hF.fn g, ?_⟩
      rw [Oper.semAt_eq _ _ _ (fun c h0 => by rw [hop] at h0; cases h0)]
      have : (execOp a.eval o).run P w = .ok (.value v') w' := by simp [execOp, hop, h5]
      rw [this]; exact hfin
  | _ => exact hval (fun c h0 => by rw [hop] at h0; cases h0) (by rw [hop] at ha ⊢; exact ha)
end
end Go.Am
namespace Go.Am
open Go.RowKit

section
variable {P : Program} {ρ ρ' : Ren} {H : AHeap} {B : Nat} {w0 w : World}

theorem opsA_cons {rec : Rec} {cx : Cx} {ops : Array Oper} {o : Oper} {rest : List Oper} {f : AF} {H : AHeap} : opsA P rec cx ops (o :: rest) f H =
    (match wantedA ops f o with
    | some true => opA P rec cx o f H fun f' H' => opsA P rec cx ops rest f' H'
    | some false => putA cx.sz f o.dst undef fun f' => opsA P rec cx ops rest f' H
    | none => none) := rfl

theorem opsA_ok {rec : Rec} (hrec : RecOK P rec) {cx : Cx} {ops : Array Oper} {F : Fence} {Q : Exit → Act → World → Prop} : ∀ (l : List Oper) (i : Nat) (ρ : Ren) (H : AHeap) (w : World) (f : AF) (a : Act) (outs : List Out),
    ops.toList.drop i = l → opsA P rec cx ops l f H = some outs → HR P ρ H B w0 w → LI P ρ cx.loops → FR ρ cx F → AFR P ρ cx.sz f a →
    (∀ e a w, OutPost P ρ B w0 cx.sz outs e a w → Q e a w) → wpOpsIn F 0 P ops Q (List.range' i l.length) a w := by
  intro l
  induction l with
  | nil =>
    intro i ρ H w f a outs hdrop ha h hl hF hf hQ
    change some [(⟨.normal, f, undef, H⟩ : Out)] = some outs at ha
    cases ha
    exact hQ _ _ _ ⟨_, List.mem_singleton_self _, rfl, ρ, Le.refl _, h, hf⟩
  | cons o rest ih =>
    intro i ρ H w f a outs hdrop ha h hl hF hf hQ
    have hi : ops[i]? = some o := by
      have : (ops.toList.drop i)[0]? = some o := by rw [hdrop]; rfl
      rw [List.getElem?_drop] at this
      simpa using this
    have hdrop' : ops.toList.drop (i + 1) = rest := by
      have : (ops.toList.drop i).drop 1 = rest := by rw [hdrop]; rfl
      rwa [List.drop_drop] at this
    rw [opsA_cons] at ha
    simp only [List.length_cons, List.range'_succ, wpOpsIn, hi]
    split at ha
    · rename_i hw
      rw [wanted_ok hf hw]
      simp only [if_true]
      refine opA_ok hrec h hl hF hf ?_ ha
      intro f' H' ρ' a' w' outs' hk hsub hle hHR hf'
      exact ih (i + 1) ρ' H' w' f' a' outs' hdrop' hk hHR (hl.mono hle) (hF.mono hle) hf' (fun e a w hp => hQ e a w ((hp.le hle).sub hsub))
    · rename_i hw
      rw [wanted_ok hf hw]
      simp only [Bool.false_eq_true, if_false]
      obtain ⟨f', hk, hd, hlt, ht⟩ := putA_spec ha
      exact ⟨fun g _ => hF.fn g, ih (i + 1) ρ H w f' _ outs hdrop' hk h hl hF (hf.put VR.undef hd hlt ht) hQ⟩
    · cases ha


theorem bindO_post {rs : List Out} {g : Out → Option (List Out)} {outs : List Out} (hb : bindO rs g = some outs) {r : Out} (hr : r ∈ rs) : ∃ outs', g r = some outs' ∧ ∀ y ∈ outs', y ∈ outs := bindO_mem hb r hr

theorem code_simple {cx : Cx} {c : Code} {f : AF} {H : AHeap} {e : Exit} {outs : List Out} (ha : some [(⟨e, f, undef, H⟩ : Out)] = some outs)
    (hc : ∀ (F : Fence) (Q : Exit → Act → World → Prop) (a : Act) (w : World), Q e a w → c.wpIn F 0 P Q a w) : CodeOK P cx c f H outs := by
  cases ha
  intro ρ B w0 w a F h hl hF hf
  exact hc F _ a w ⟨_, List.mem_singleton_self _, rfl, ρ, Le.refl _, h, hf⟩

theorem seqA_ok {rec : Rec} (hrec : RecOK P rec) {cx : Cx} {x y : Code} {f : AF} {H : AHeap} {outs : List Out} (ha : seqA rec cx x y f H = some outs) : CodeOK P cx (.seq x y) f H outs := by
  unfold seqA at ha
  split at ha
  · cases ha
  · rename_i l hx
    intro ρ B w0 w a F h hl hF hf
    refine wpIn_seq (wpIn_mono (hrec _ _ hx ρ B w0 w a F h hl hF hf) ?_)
    rintro e a' w' ⟨r, hr, rfl, ρ', hle, hHR, hf'⟩
    obtain ⟨outs', h1, h2⟩ := bindO_post ha hr
    have hother : r.e ≠ .normal → some [r] = some outs' → OutPost P ρ B w0 cx.sz outs r.e a' w' := by
      intro _ h0; cases h0
      exact ⟨r, h2 r (List.mem_singleton_self _), rfl, ρ', hle, hHR, hf'⟩
    cases hre : r.e with
    | normal =>
      rw [hre] at h1
      exact wpIn_mono (hrec _ _ h1 ρ' B w0 w' a' F hHR (hl.mono hle) (hF.mono hle) hf') (fun e a w hp => (hp.le hle).sub h2)
    | _ =>
      rw [hre] at h1 hother
      exact hother (by simp) h1

theorem condA_ok {rec : Rec} (hrec : RecOK P rec) {cx : Cx} {c : Operand} {x y : Code} {f : AF} {H : AHeap} {outs : List Out} (ha : condA rec cx (f.eval c) x y f H = some outs) : CodeOK P cx (.cond c x y) f H outs := by
  intro ρ B w0 w a F h hl hF hf
  have hv := hf.eval c
  unfold condA at ha
  split at ha
  · rename_i hb
    rw [hb] at hv
    generalize hx : a.eval c = xv at hv
    cases hv
    exact wpIn_cond_true hx (hrec _ _ ha ρ B w0 w a F h hl hF hf)
  · rename_i hb
    rw [hb] at hv
    generalize hx : a.eval c = xv at hv
    cases hv
    exact wpIn_cond_false hx (hrec _ _ ha ρ B w0 w a F h hl hF hf)
  · cases ha

theorem blockA_ok {rec : Rec} (hrec : RecOK P rec) {cx : Cx} {id : Nat} {c : Code} {f : AF} {H : AHeap} {outs : List Out} (ha : blockA rec cx id c f H = some outs) : CodeOK P cx (.block id c) f H outs := by
  unfold blockA at ha
  split at ha
  · cases ha
  · rename_i l hx
    intro ρ B w0 w a F h hl hF hf
    refine wpIn_block (wpIn_mono (hrec _ _ hx ρ B w0 w a F h hl hF hf) ?_)
    rintro e a' w' ⟨r, hr, rfl, ρ', hle, hHR, hf'⟩
    obtain ⟨outs', h1, h2⟩ := bindO_post ha hr
    have hother : some [r] = some outs' → OutPost P ρ B w0 cx.sz outs r.e a' w' := by
      intro h0; cases h0
      exact ⟨r, h2 r (List.mem_singleton_self _), rfl, ρ', hle, hHR, hf'⟩
    cases hre : r.e with
    | exit id' =>
      rw [hre] at h1 hother
      simp only at h1
      simp only [Exit.inBlock]
      split at h1
      · rename_i hid
        cases h1
        rw [if_pos hid]
        exact ⟨_, h2 _ (List.mem_singleton_self _), rfl, ρ', hle, hHR, hf'⟩
      · rename_i hid
        rw [if_neg hid]
        exact hother h1
    | _ =>
      rw [hre] at h1 hother
      exact hother h1

theorem loopA_ok {rec : Rec} (hrec : RecOK P rec) {cx : Cx} {c : Code} {F : Fence} {Q : Exit → Act → World → Prop} : ∀ (m : Nat) (ρ : Ren) (H : AHeap) (w : World) (f : AF) (a : Act) (outs : List Out), loopA rec cx c m f H = some outs →
    HR P ρ H B w0 w → LI P ρ cx.loops → FR ρ cx F → AFR P ρ cx.sz f a → (∀ e a w, OutPost P ρ B w0 cx.sz outs e a w → Q e a w) → Code.roundsIn F 0 P c Q m a w := by
  intro m
  induction m with
  | zero => intro ρ H w f a outs ha; simp [loopA] at ha
  | succ m ih =>
    intro ρ H w f a outs ha h hl hF hf hQ
    simp only [loopA] at ha
    split at ha
    · cases ha
    · rename_i l hx
      refine wpIn_mono (hrec _ _ hx ρ B w0 w a F h hl hF hf) ?_
      rintro e a' w' ⟨r, hr, rfl, ρ', hle, hHR, hf'⟩
      obtain ⟨outs', h1, h2⟩ := bindO_post ha hr
      have hother : some [r] = some outs' → Q r.e a' w' := by
        intro h0; cases h0
        exact hQ _ _ _ ⟨r, h2 r (List.mem_singleton_self _), rfl, ρ', hle, hHR, hf'⟩
      cases hre : r.e with
      | normal =>
        rw [hre] at h1
        exact ih ρ' r.H w' r.f a' outs' h1 hHR (hl.mono hle) (hF.mono hle) hf' (fun e a w hp => hQ e a w ((hp.le hle).sub h2))
      | _ =>
        rw [hre] at h1 hother
        exact hother h1

theorem stepR_scope {b : Frame} {a : Act} {k : List Item} {cs : List Frame} {w : World} {c : Code} : step P (lone (b.atR a (.code (.scope c) :: k)) cs w) = .next (lone (b.atR a (.code c :: .inScope c :: k)) cs w) :=
  step_lone_go (by simp [stepG, stepG.exec, Frame.atR])
theorem stepR_inScope {b : Frame} {a : Act} {k : List Item} {cs : List Frame} {w : World} {c : Code} : step P (lone (b.atR a (.inScope c :: k)) cs w) = .next (lone (b.atR a k) cs w) :=
  step_lone_go (by simp [stepG, stepG.exec, Frame.atR])

theorem wpIn_scope {F : Fence} {n : Nat} {Q : Exit → Act → World → Prop} {a : Act} {c : Code} (h : c.wpIn F n P (Exit.noGoto Q) a w) : (Code.scope c).wpIn F n P Q a w := by
  intro b k cs hro hb hr
  have h0 : (lone (b.atR a (.code (.scope c) :: k)) cs w).fenced P F := fenced_calm hb hr rfl
  obtain ⟨e, a₁, w₁, hq, harr⟩ := h b (.inScope c :: k) cs hro hb hr
  cases e with
  | normal => exact ⟨.normal, a₁, w₁, hq, .head h0 stepR_scope (StepsIn.trans harr (.one (fenced_calm hb hr rfl) stepR_inScope))⟩
  | exit id =>
    have hx : exitTo id (.inScope c :: k) = exitTo id k := by simp [exitTo]
    exact ⟨.exit id, a₁, w₁, hq, fun k' hk => .head h0 stepR_scope (harr.1 k' (by rw [hx]; exact hk)),
      fun hr' hk => let ⟨k₁, h1, h2⟩ := harr.2 hr' (by rw [hx]; exact hk); ⟨k₁, h1, .head h0 stepR_scope h2⟩⟩
  | goto l => exact hq.elim
  | ret => exact ⟨_, a₁, w₁, hq, .of_steps (.one h0 stepR_scope) harr⟩
  | panic ch => exact ⟨_, a₁, w₁, hq, .of_steps (.one h0 stepR_scope) harr⟩
  | outgrown => exact ⟨_, a₁, w₁, hq, .of_steps (.one h0 stepR_scope) harr⟩

theorem scopeA_ok {rec : Rec} (hrec : RecOK P rec) {cx : Cx} {c : Code} {f : AF} {H : AHeap} {outs : List Out} (ha : scopeA rec cx c f H = some outs) : CodeOK P cx (.scope c) f H outs := by
  unfold scopeA at ha
  split at ha
  · cases ha
  · rename_i l hx
    intro ρ B w0 w a F h hl hF hf
    refine wpIn_scope (wpIn_mono (hrec _ _ hx ρ B w0 w a F h hl hF hf) ?_)
    rintro e a' w' ⟨r, hr, rfl, ρ', hle, hHR, hf'⟩
    obtain ⟨outs', h1, h2⟩ := bindO_post ha hr
    have hother : some [r] = some outs' → OutPost P ρ B w0 cx.sz outs r.e a' w' := by
      intro h0; cases h0
      exact ⟨r, h2 r (List.mem_singleton_self _), rfl, ρ', hle, hHR, hf'⟩
    cases hre : r.e with
    | goto t => rw [hre] at h1; cases h1
    | _ =>
      rw [hre] at h1 hother
      exact hother h1
end
end Go.Am
namespace Go.Am
open Go.RowKit

section
variable {P : Program} {ρ ρ' : Ren} {H : AHeap} {B : Nat} {w0 w : World}

theorem loop_at (h : HR P ρ H B w0 w) {i : Nat} {y : Ent} (hy : ρ[i]? = some (some y)) {st : LoopState} {pend : Option (Option Nat)} (hg : H.get i = .loop st pend) :
    ∃ r : Loop, w.heap[y.b]? = some (.loop r) ∧ y.lp = some ⟨r.tmps, r.params, r.assign, r.body, r.defers⟩ ∧ r.state = st ∧ r.pending = pend.map pendCode ∧ y.keep = true := by
  obtain ⟨_, _, o', ho, hor⟩ := h.live i y hy
  rw [hg] at hor
  cases hor with
  | loop hk hl hs hp => exact ⟨_, ho, hl, hs, hp, hk⟩

theorem run_getLoop' {l : Nat} {r : Loop} (h : w.heap[l]? = some (.loop r)) : (Instr.getLoop l).run P w = .ok r w := by simp [Instr.getLoop, getObj, Sem.run, h]

theorem run_setLoop {l : Nat} {r : Loop} (o : Obj) (h : w.heap[l]? = some (.loop r)) : (setObj l o).run P w = .ok () { w with heap := w.heap.setIfInBounds l o } := by simp [setObj, Sem.run, h]

theorem rangeEnd_ok {f : AF} {a : Act} {mark mark' : List Deferred} {l : Nat} {y : Ent} {r : Out} {outs : List Out} {sz : Nat} {F : Fence} {Q : Exit → Act → World → Prop} (hy : ρ[l]? = some (some y))
    (h : HR P ρ r.H B w0 w) (hf : AFR P ρ sz ⟨f.env, mark ++ f.defers⟩ { a with defers := mark' ++ a.defers }) (ha : rangeEnd f mark l r = some outs)
    (hQ : ∀ e a w, OutPost P ρ B w0 sz outs e a w → Q e a w) :
    ∃ jump w₄, (Instr.endLoop y.b).run P w = .ok jump w₄ ∧
      (match jump with
       | none => Q .normal { a with defers := mark' ++ a.defers } w₄
       | some c => c.wpIn F 0 P Q { a with defers := mark' ++ a.defers } w₄) := by
  unfold rangeEnd at ha
  split at ha
  · rename_i st pend hg
    obtain ⟨r0, hw, hlp, hst, hpend, hkeep⟩ := loop_at h hy hg
    obtain ⟨rst, rpend, rfn, rtmps, rps, ras, rbody, rdef⟩ := r0
    simp only at hst hpend
    subst hst hpend
    split at ha
    · cases ha
    · rename_i hbusy
      obtain ⟨H2, hk, hn, hg2⟩ := AHeap.set_spec ha
      have hput := h.put (o := .loop .exhausted pend) (o' := .loop ⟨.exhausted, pend.map pendCode, rfn, rtmps, rps, ras, rbody, rdef⟩) hy rfl hw hn hg2 (.loop hkeep hlp rfl rfl) (by rw [hg]; rfl)
      refine ⟨pend.map pendCode, { w with heap := w.heap.setIfInBounds y.b (.loop ⟨.exhausted, pend.map pendCode, rfn, rtmps, rps, ras, rbody, rdef⟩) }, ?_, ?_⟩
      · have hb : ¬ rst = LoopState.busy := by simpa using hbusy
        have hset := run_setLoop (P := P) (.loop ⟨.exhausted, pend.map pendCode, rfn, rtmps, rps, ras, rbody, rdef⟩) hw
        simp [Instr.endLoop, run_getLoop' hw, hb, hset]
      · have post : ∀ e, some [(⟨e, ⟨f.env, mark ++ f.defers⟩, undef, H2⟩ : Out)] = some outs → Q e { a with defers := mark' ++ a.defers } { w with heap := w.heap.setIfInBounds y.b (.loop ⟨.exhausted, pend.map pendCode, rfn, rtmps, rps, ras, rbody, rdef⟩) } := by
          intro e he; cases he
          exact hQ _ _ _ ⟨_, List.mem_singleton_self _, rfl, ρ, Le.refl _, hput, hf⟩
        cases pend with
        | none => exact post _ hk
        | some j =>
          cases j with
          | none => exact wpIn_ret (post _ hk)
          | some id => exact wpIn_exit (post _ hk)
  · cases ha

theorem rangeStart_ok {rec : Rec} (hrec : RecOK P rec) {cx : Cx} {q : FuncId} {fn0 : FuncId} {first captured : List Value} {first' captured' : Array Value} {ps : Array Tmp} {assign body : Code} {f : AF} {a : Act} {dfs : Nat} {mark mark' : List Deferred} {outs : List Out} {F : Fence}
    {Q : Exit → Act → World → Prop} {z : Ent} (h : HR P ρ H B w0 w) (hl : LI P ρ cx.loops) (hF : FR ρ cx F) (hf : AFR P ρ cx.sz f a) (hmark : L2 (DR P ρ) mark mark') (hz : ρ[dfs]? = some (some z)) (hzk : z.keep = true)
    (hv1 : VL P ρ first first'.toList) (hv2 : VL P ρ captured captured'.toList) (ha : rangeStart rec cx q first captured ps assign body f dfs mark H = some outs)
    (hQ : ∀ e a w, OutPost P ρ B w0 cx.sz outs e a w → Q e a w) :
    CallsIn F 0 P q (first' ++ #[.func (.yield w.heap.size) #[] #[]] ++ captured') (w.alloc (.loop { state := .ready, pending := none, fn := fn0, tmps := a.tmps, params := ps, assign, body, defers := z.b }))
      (rangePost F 0 P w.heap.size Q { a with defers := mark' ++ a.defers }) := by
  unfold rangeStart at ha
  obtain ⟨H1, hk, hn, hg⟩ := AHeap.new_spec ha
  have hle := Le.append ρ [some (⟨w.heap.size, 0, 0, true, some ⟨a.tmps, ps, assign, body, z.b⟩⟩ : Ent)]
  have hnew := h.new (x := ⟨w.heap.size, 0, 0, true, some ⟨a.tmps, ps, assign, body, z.b⟩⟩) (o := .loop .ready none) (o' := .loop { state := .ready, pending := none, fn := fn0, tmps := a.tmps, params := ps, assign, body, defers := z.b }) rfl hn hg
    (.loop rfl rfl rfl rfl)
  have hx : (ρ ++ [some (⟨w.heap.size, 0, 0, true, some ⟨a.tmps, ps, assign, body, z.b⟩⟩ : Ent)])[H.n]? = some (some ⟨w.heap.size, 0, 0, true, some ⟨a.tmps, ps, assign, body, z.b⟩⟩) := by rw [← h.len]; simp
  generalize hρ2 : (ρ ++ [some (⟨w.heap.size, 0, 0, true, some ⟨a.tmps, ps, assign, body, z.b⟩⟩ : Ent)]) = ρ2 at hle hnew hx
  have hl2 : LI P ρ2 ((H.n, ⟨cx.fn, cx.sz, f.env, ps, assign, body, dfs⟩) :: cx.loops) := by
    intro l x hfl
    simp only [findLoop] at hfl
    split at hfl
    · rename_i heq
      cases hfl; subst heq
      refine ⟨_, _, hx, rfl, rfl, rfl, rfl, rfl, hf.size, fun t => (hf.tmps t).mono hle, z, hle.keeps hz hzk, hzk, rfl⟩
    · exact hl.mono hle l x hfl
  split at hk
  · cases hk
  · rename_i rs hrs
    have hargs : VL P ρ2 (first ++ [.func (.yield H.n) #[] #[]] ++ captured) (first'.toList ++ [.func (.yield w.heap.size) #[] #[]] ++ captured'.toList) :=
      ((VL.mono hv1 hle).append (.cons (.yield (ir_of hx rfl)) .nil)).append (VL.mono hv2 hle)
    have hcall := hrec _ _ hrs ρ2 B w0 _ _ hnew hl2 hargs
    have harr : (first'.toList ++ [Value.func (.yield w.heap.size) #[] #[]] ++ captured'.toList).toArray = first' ++ #[.func (.yield w.heap.size) #[] #[]] ++ captured' := by
      apply Array.ext'; simp
    simp only at hcall
    rw [harr] at hcall
    refine hF.calls (CallsIn.mono hcall ?_)
    rintro e w' ⟨r, hr, ρ', v', rfl, hle2, hHR, _⟩
    obtain ⟨outs', h1, h2⟩ := bindO_post hk hr
    have hfin := rangeEnd_ok (F := F) (hle2.keeps hx rfl) hHR (a := a) (mark' := mark') ⟨hf.size, fun t => ((hf.mono (hle.trans hle2)).tmps t), L2.mono (fun _ _ h => h.mono (hle.trans hle2)) (hmark.append hf.defers)⟩ h1
      (fun e a w hp => hQ e a w ((hp.le (hle.trans hle2)).sub h2))
    exact hfin

theorem rangeA_ok {rec : Rec} (hrec : RecOK P rec) {cx : Cx} {g : Operand} {ps : Array Tmp} {assign body : Code} {f : AF} {H : AHeap} {outs : List Out} (ha : rangeA P rec cx (f.eval g) ps assign body f H = some outs) :
    CodeOK P cx (.rangeFunc g ps assign body) f H outs := by
  intro ρ B w0 w a F h hl hF hf
  refine wpIn_rangeFunc fun fn0 _ => ?_
  unfold rangeA at ha
  split at ha
  · rename_i q first captured hg
    split at ha
    · cases ha
    · rename_i fn hfn
      split at ha
      · cases ha
      · rename_i hc
        simp only [Bool.or_eq_true, not_or, Bool.not_eq_true] at hc
        have hvx := hf.eval g
        rw [hg] at hvx
        generalize hax : a.eval g = xv at hvx
        cases hvx with
        | func _ hs hv hs2 hv2 =>
          rename_i first' captured'
          have hres : ∀ (l : Nat) (w1 : World), (resolve a.eval (rangeCall g l) 0).run P w1 = .ok { target := .fn (.func q) captured', args := first' ++ #[.func (.yield l) #[] #[]] } w1 := by
            intro l w1
            simp [resolve, rangeCall, hax, Deferred.ofValue, show ∀ v, a.eval (.const v) = v from fun _ => rfl]
          have hn' : ¬ fn.name = "runtime.NumGoroutine" := by simpa using hc.1
          have hb' : ¬ fn.body = none := by intro h0; simp [h0] at hc
          have hinv : ∀ (l : Nat) (w1 : World), (invoke (.fn (.func q) captured') (first' ++ #[.func (.yield l) #[] #[]])).run P w1 = .ok (.enter q (first' ++ #[.func (.yield l) #[] #[]] ++ captured')) w1 := by
            intro l w1
            simp [invoke, callFunc, hfn, hn', hb']
          split at ha
          · -- inside a round
            rename_i l0 hround
            split at ha
            · rename_i x st0 pend0 hfl hgl
              obtain ⟨y, lp, hy, hyk, hlp, _, _, _, _, _, z, hz, hzk, hzb⟩ := hl l0 x hfl
              have hF2 := hF
              unfold FR at hF2
              rw [hround] at hF2
              obtain ⟨x2, y2, hfl2, hy2, _, hFe⟩ := hF2
              rw [hfl] at hfl2; cases hfl2
              rw [hy] at hy2; cases hy2
              obtain ⟨r0, ho, hlp2, _⟩ := loop_at h hy hgl
              rw [hlp] at hlp2; cases hlp2
              have hdef : r0.defers = z.b := hzb.symm
              refine ⟨w.heap.size, [], _, _, _, q, _, _, ?_, hres _ _, fun _ _ => hF.fn _, hinv _ _, hF.depth, rangeStart_ok hrec (fn0 := fn0) h hl hF hf .nil hz hzk (vl_arr hs hv) (vl_arr hs2 hv2) ha (fun e a w hp => hp)⟩
              rw [hFe]
              simp [Instr.enterLoop, Fence.inRound, run_getLoop' ho, hdef]
            · cases ha
          · -- an outermost loop
            rename_i hround
            have hFe : F = Fence.wide := by unfold FR at hF; rw [hround] at hF; exact hF
            obtain ⟨H1, hk, hn, hg1⟩ := AHeap.new_spec ha
            have hle := Le.append ρ [some (⟨w.heap.size, 0, 0, true, none⟩ : Ent)]
            have hnew := h.new (x := ⟨w.heap.size, 0, 0, true, none⟩) (o := .defs false) (o' := .deferred (some [])) rfl hn hg1 (.defs rfl)
            have hx : (ρ ++ [some (⟨w.heap.size, 0, 0, true, none⟩ : Ent)])[H.n]? = some (some ⟨w.heap.size, 0, 0, true, none⟩) := by rw [← h.len]; simp
            have hmark : L2 (DR P (ρ ++ [some (⟨w.heap.size, 0, 0, true, none⟩ : Ent)])) [{ target := .collected H.n, args := #[] }] [{ target := .collected w.heap.size, args := #[] }] :=
              .cons (.mark (ir_of hx rfl)) .nil
            have hcall := rangeStart_ok hrec (fn0 := fn0) hnew (hl.mono hle) (hF.mono hle) (hf.mono hle) hmark hx rfl (VL.mono (vl_arr hs hv) hle) (VL.mono (vl_arr hs2 hv2) hle) hk
              (Q := OutPost P ρ B w0 cx.sz outs) (fun e a w hp => hp.le hle)
            refine ⟨_, [{ target := .collected w.heap.size, args := #[] }], _, _, _, q, _, _, ?_, hres _ _, fun _ _ => hF.fn _, hinv _ _, hF.depth, hcall⟩
            rw [hFe]
            simp [Instr.enterLoop, Fence.wide]
  · cases ha
end
end Go.Am
namespace Go.Am
open Go.RowKit

section
variable {P : Program} {ρ ρ' : Ren} {H : AHeap} {B : Nat} {w0 w : World}

def PairR (P : Program) (ρ : Ren) (p p' : Tmp × Value) : Prop := p.1 = p'.1 ∧ VR P ρ p.2 p'.2

theorem pairs_zip : ∀ {ps : List Tmp} {vs vs' : List Value}, VL P ρ vs vs' → L2 (PairR P ρ) (ps.zip vs) (ps.zip vs')
  | [], _, _, _ => by simp only [List.zip_nil_left]; exact .nil
  | p :: ps, _, _, .nil => by simp only [List.zip_nil_right]; exact .nil
  | p :: ps, _, _, .cons h t => by simp only [List.zip_cons_cons]; exact .cons ⟨rfl, h⟩ (pairs_zip t)

theorem paramsK_ok {β : Type} {sz : Nat} {k : Tr Value → Option β} {r : β} : ∀ {l l' : List (Tmp × Value)} {t : Tr Value} {T : Array Value}, L2 (PairR P ρ) l l' → AFR P ρ sz ⟨t, []⟩ { tmps := T, defers := [] } → paramsK l sz t k = some r →
    ∃ t', k t' = some r ∧ AFR P ρ sz ⟨t', []⟩ { tmps := l'.foldl (fun tmps (t, a) => tmps.setIfInBounds t a) T, defers := [] }
  | _, _, t, T, .nil, hf, h => ⟨t, h, hf⟩
  | _, _, t, T, .cons (a := (p, v)) (b := (p', v')) hp hl, hf, h => by
    obtain ⟨rfl, hv⟩ := hp
    simp only [paramsK] at h
    split at h
    · rename_i hlt
      rw [forceV_spec] at h
      obtain ⟨t', hk, ht⟩ := Tr.setK_spec _ _ _ _ _ _ h
      have h2 : AFR P ρ sz ⟨t', []⟩ ((({ tmps := T, defers := [] } : Act)).put (some p) v') := hf.put hv rfl (fun d hd => by cases hd; exact hlt) (fun i => by
        simp only [AF.tmp, ht]
        by_cases hd : i = p
        · subst hd; simp
        · rw [if_neg hd, if_neg (by simpa using fun h : p = i => hd h.symm)])
      exact paramsK_ok (T := T.setIfInBounds p v') hl h2 hk
    · cases h

theorem run_beginRound {l : Nat} {r : Loop} (h : w.heap[l]? = some (.loop r)) (hr : r.state = .ready) : (Instr.beginRound l).run P w = .ok () { w with heap := w.heap.setIfInBounds l (.loop { r with state := .busy }) } := by
  have hset := run_setLoop (P := P) (.loop { r with state := .busy }) h
  simp [Instr.beginRound, run_getLoop' h, hset, hr]

theorem run_endRound {l : Nat} {r : Loop} {jump : Option Code} (h : w.heap[l]? = some (.loop r)) : (Instr.endRound l jump).run P w = .ok (.bool jump.isNone) { w with heap := w.heap.setIfInBounds l (.loop { r with state := if jump.isNone then .ready else .done, pending := jump }) } := by
  have hset := run_setLoop (P := P) (.loop { r with state := if jump.isNone then .ready else .done, pending := jump }) h
  simp only [Instr.endRound, Sem.run_bind, run_getLoop' h, Result.andThen, hset, Sem.run_pure]

theorem endRound_ok {l : Nat} {y : Ent} {r : Out} {outs : List Out} (hy : ρ[l]? = some (some y)) (h : HR P ρ r.H B w0 w) (ha : endRound l r = some outs) :
    ∃ jump v w4, (Instr.endRound y.b jump).run P w = .ok v w4 ∧ CallPost P ρ B w0 outs (.returned v) w4 ∧ ((r.e = .normal ∧ jump = none) ∨ (r.e = .ret ∧ jump = some .ret) ∨ ∃ id, r.e = .exit id ∧ jump = some (.exit id)) := by
  unfold endRound at ha
  split at ha
  · rename_i st pend hg
    obtain ⟨r0, hw, hlp, hst, hpend, hkeep⟩ := loop_at h hy hg
    have go : ∀ (st2 : LoopState) (pend2 : Option (Option Nat)) (jump : Option Code) (b : Bool) (e : Exit), jump = pend2.map pendCode → st2 = (if jump.isNone then .ready else .done) → b = jump.isNone →
        (r.H.set l (.loop st2 pend2) fun H2 => some [(⟨e, ⟨.e, []⟩, .bool b, H2⟩ : Out)]) = some outs →
        ∃ v w4, (Instr.endRound y.b jump).run P w = .ok v w4 ∧ CallPost P ρ B w0 outs (.returned v) w4 := by
      intro st2 pend2 jump b e hj hs hb hset
      obtain ⟨H2, hk, hn, hg2⟩ := AHeap.set_spec hset
      have hput := h.put (o := .loop st2 pend2) (o' := .loop { r0 with state := if jump.isNone then .ready else .done, pending := jump }) hy rfl hw hn hg2 (.loop hkeep hlp hs.symm hj) (by rw [hg]; rfl)
      cases hk
      exact ⟨_, _, run_endRound hw, _, List.mem_singleton_self _, ρ, _, rfl, Le.refl _, hput, by rw [hb]; exact .bool _⟩
    split at ha
    · rename_i he
      obtain ⟨v, w4, h1, h2⟩ := go .ready none none true .ret rfl rfl rfl ha
      exact ⟨none, v, w4, h1, h2, .inl ⟨he, rfl⟩⟩
    · rename_i he
      obtain ⟨v, w4, h1, h2⟩ := go .done (some none) (some .ret) false .ret rfl rfl rfl ha
      exact ⟨some .ret, v, w4, h1, h2, .inr (.inl ⟨he, rfl⟩)⟩
    · rename_i id he
      obtain ⟨v, w4, h1, h2⟩ := go .done (some (some id)) (some (.exit id)) false .ret rfl rfl rfl ha
      exact ⟨some (.exit id), v, w4, h1, h2, .inr (.inr ⟨id, he, rfl⟩)⟩
    · cases ha
  · cases ha

theorem roundA_ok {rec : Rec} (hrec : RecOK P rec) {loops : List (Nat × LInfo)} {l : Nat} {args : List Value} {H : AHeap} {outs : List Out} (ha : roundA rec loops l args H = some outs) : RoundOK P loops l args H outs := by
  unfold roundA at ha
  split at ha
  · rename_i x hfl hg
    split at ha
    · cases ha
    · rename_i hps
      have hps' : x.params.size = args.length := by simpa using hps
      refine ⟨⟨x, _, _, hfl, hps', hg⟩, ?_⟩
      intro ρ B w0 w args' y lp fn h hl hv hy hlp
      obtain ⟨y2, lp2, hy2, hyk, hlp2, hpar, hass, hbody, hsz, henv, hdefs⟩ := hl l x hfl
      rw [hy] at hy2; cases hy2
      rw [hlp] at hlp2; cases hlp2
      have hbase : AFR P ρ x.sz ⟨x.env, []⟩ { tmps := lp.tmps, defers := [] } := ⟨hsz, henv, .nil⟩
      obtain ⟨env, hk, hf⟩ := paramsK_ok (pairs_zip (ps := x.params.toList) hv) hbase ha
      have hfold : (x.params.toList.zip args').foldl (fun tmps (t, a) => tmps.setIfInBounds t a) lp.tmps = (lp.params.zip args'.toArray).foldl (fun tmps (t, a) => tmps.setIfInBounds t a) lp.tmps := by
        rw [hpar, ← Array.foldl_toList]; simp
      rw [hfold] at hf
      split at hk
      · cases hk
      · rename_i rs hrs
        refine roundIn_of_wpIn trivial ?_
        have hF : FR ρ ⟨x.fn, x.sz, some l, loops⟩ (Fence.wide.inRound y.b) := ⟨x, y, hfl, hy, hyk, rfl⟩
        rw [hass]
        refine wpIn_mono (hrec _ _ hrs ρ B w0 w _ _ h hl hF hf) ?_
        rintro e a' w' ⟨r, hr, rfl, ρ', hle, hHR, hf'⟩
        obtain ⟨outs', h1, h2⟩ := bindO_post hk hr
        unfold bodyRound at h1
        split at h1
        · rename_i he
          rw [he]
          split at h1
          · rename_i hg1
            have hy' := hle.keeps hy hyk
            obtain ⟨r0, hw, hlp3, hst, hpend, hkeep⟩ := loop_at hHR hy' hg1
            obtain ⟨H2, hk2, hn, hg2⟩ := AHeap.set_spec h1
            have hput := hHR.put (o := .loop .busy none) (o' := .loop { r0 with state := .busy }) hy' rfl hw hn hg2 (.loop hkeep hlp3 rfl hpend) (by rw [hg1]; rfl)
            refine ⟨_, run_beginRound hw hst, ?_⟩
            split at hk2
            · cases hk2
            · rename_i rs2 hrs2
              rw [hbody]
              refine wpIn_mono (hrec _ _ hrs2 ρ' B w0 _ a' _ hput (hl.mono hle) (FR.mono hF hle) hf') ?_
              rintro e2 a2 w2 ⟨r2, hr2, rfl, ρ2, hle2, hHR2, hf2⟩
              obtain ⟨outs2, h3, h4⟩ := bindO_post hk2 hr2
              obtain ⟨jump, v, w4, h5, h6, h7⟩ := endRound_ok (hle2.keeps hy' hyk) hHR2 h3
              have h6' := ((h6.le (hle.trans hle2)).sub h4).sub h2
              rcases h7 with ⟨he2, rfl⟩ | ⟨he2, rfl⟩ | ⟨id, he2, rfl⟩
              · rw [he2]; exact ⟨v, w4, h5, h6'⟩
              · rw [he2]; exact ⟨v, w4, h5, h6'⟩
              · rw [he2]; exact ⟨v, w4, h5, h6'⟩
          · cases h1
        · cases h1
  · cases ha
end
end Go.Am
namespace Go.Am
open Go.RowKit

section
variable {P : Program} {ρ ρ2 : Ren} {H : AHeap} {B : Nat} {w0 w : World}

theorem L2.mapO {α β γ : Type} {R : α → γ → Prop} {S : β → γ → Prop} {f : α → Option β} (hf : ∀ x y z, f x = some y → R x z → S y z) : ∀ {l : List α} {l2 : List β} {l' : List γ}, Go.Am.mapO f l = some l2 → L2 R l l' → L2 S l2 l'
  | [], l2, _, h, .nil => by simp only [Go.Am.mapO] at h; cases h; exact .nil
  | x :: xs, l2, _, h, .cons hr ht => by
    simp only [Go.Am.mapO] at h
    split at h
    · cases h
    · rename_i y hy
      split at h
      · cases h
      · rename_i ys hys
        cases h
        exact .cons (hf _ _ _ hy hr) (L2.mapO hf hys ht)

theorem mapO_length {α β : Type} {f : α → Option β} : ∀ {l : List α} {l2 : List β}, mapO f l = some l2 → l2.length = l.length
  | [], l2, h => by simp only [mapO] at h; cases h; rfl
  | x :: xs, l2, h => by
    simp only [mapO] at h
    split at h
    · cases h
    · split at h
      · cases h
      · rename_i ys hys
        cases h
        simp [mapO_length hys]

section ren
variable {σ : Nat → Option Nat} (hσ : ∀ x y e, σ x = some y → ρ[x]? = some e → ρ2[y]? = some e)
include hσ

theorem IR.ren {i i2 j : Nat} (hs : σ i = some i2) (h : IR ρ i j) : IR ρ2 i2 j := by
  obtain ⟨x, hx, hb⟩ := h
  exact ⟨x, hσ _ _ _ hs hx, hb⟩

theorem renV_ok : ∀ (d : Nat) {v v2 v' : Value}, renV σ d v = some v2 → VR P ρ v v' → VR P ρ2 v2 v'
  | 0, _, _, _, h, _ => by simp [renV] at h
  | d + 1, v, v2, v', h, hv => by
    cases hv with
    | bool b => simp only [renV] at h; cases h; exact .bool b
    | int k n => simp only [renV] at h; cases h; exact .int k n
    | float k n => simp only [renV] at h; cases h; exact .float k n
    | complex k n m => simp only [renV] at h; cases h; exact .complex k n m
    | string s => simp only [renV] at h; cases h; exact .string s
    | pnil => simp only [renV] at h; cases h; exact .pnil
    | snil => simp only [renV] at h; cases h; exact .snil
    | mnil => simp only [renV] at h; cases h; exact .mnil
    | nilFunc => simp only [renV] at h; cases h; exact .nilFunc
    | nilIface => simp only [renV] at h; cases h; exact .nilIface
    | ptr h1 h2 ho hb =>
      simp only [renV] at h
      split at h
      · rename_i b hs; cases h; exact .ptr h1 h2 ho (hb.ren hσ hs)
      · cases h
    | slice h1 h2 ho hb hn hc hf =>
      rename_i a a' n c c'
      simp only [renV] at h
      split at h
      · rename_i b hs; cases h
        refine .slice h1 h2 ho (hb.ren hσ hs) hn hc ?_
        intro y hy hyk
        obtain ⟨x, hx, _⟩ := hb
        have := hσ _ _ _ hs hx
        simp only at hy
        rw [this] at hy; cases hy
        exact hf y hx hyk
      · cases h
    | sliceX h1 h2 ho hb hn =>
      simp only [renV] at h
      split at h
      · rename_i b hs; cases h; exact .sliceX h1 h2 ho (hb.ren hσ hs) hn
      · cases h
    | sliceE h1 =>
      simp only [renV] at h
      split at h
      · cases h; exact .sliceE h1
      · cases h
    | map hr =>
      simp only [renV] at h
      split at h
      · rename_i b hs; cases h; exact .map (hr.ren hσ hs)
      · cases h
    | func g hs hx hs2 hx2 =>
      simp only [renV] at h
      split at h
      · rename_i f' c' h1 h2
        cases h
        refine VR.func_of ?_ ?_
        · exact L2.mapO (R := VR P ρ) (S := VR P ρ2) (fun _ _ _ => renV_ok d) h1 (vl_arr hs hx)
        · exact L2.mapO (R := VR P ρ) (S := VR P ρ2) (fun _ _ _ => renV_ok d) h2 (vl_arr hs2 hx2)
      · cases h
    | yield hr => simp only [renV] at h; cases h
    | iface t hv =>
      simp only [renV, Option.map_eq_some_iff] at h
      obtain ⟨u, hu, rfl⟩ := h
      exact .iface t (renV_ok d hu hv)
    | agg hs hx =>
      simp only [renV, Option.map_eq_some_iff] at h
      obtain ⟨u, hu, rfl⟩ := h
      exact VR.agg_of (L2.mapO (R := VR P ρ) (S := VR P ρ2) (fun _ _ _ => renV_ok d) hu (vl_arr hs hx))
    | tuple hs hx =>
      simp only [renV, Option.map_eq_some_iff] at h
      obtain ⟨u, hu, rfl⟩ := h
      exact VR.tuple_of (L2.mapO (R := VR P ρ) (S := VR P ρ2) (fun _ _ _ => renV_ok d) hu (vl_arr hs hx))
    | poison => simp only [renV] at h; cases h

theorem renObj_ok {o o2 : AObj} {x : Ent} {o' : Obj} (h : renObj σ o = some o2) (ho : OR P ρ o x o') : OR P ρ2 o2 x o' := by
  cases ho with
  | row he hs hk hv =>
    simp only [renObj, Option.map_eq_some_iff] at h
    obtain ⟨u, hu, rfl⟩ := h
    refine .row he hs hk ?_
    rw [mapO_length hu]
    exact L2.mapO (R := VR P ρ) (S := VR P ρ2) (fun _ _ _ => renV_ok hσ 8) hu hv
  | map hm =>
    simp only [renObj, Option.map_eq_some_iff] at h
    obtain ⟨u, hu, rfl⟩ := h
    refine .map (L2.mapO (fun e e2 e' he hme => ?_) hu hm)
    unfold renE at he
    split at he
    · rename_i a b h1 h2
      cases he
      exact ⟨renV_ok hσ 8 h1 hme.1, renV_ok hσ 8 h2 hme.2.1, hme.2.2⟩
    · cases he
  | iter0 hs => simp only [renObj] at h; cases h; exact .iter0 hs
  | iter hm hs =>
    simp only [renObj, Option.map_eq_some_iff] at h
    obtain ⟨u, hu, rfl⟩ := h
    exact .iter (hm.ren hσ hu) hs
  | siter => simp only [renObj] at h; cases h; exact .siter
  | loop => simp only [renObj] at h; cases h
  | defs => simp only [renObj] at h; cases h
  | ext => simp only [renObj] at h; cases h

omit hσ in
theorem renObj_ext {o o2 : AObj} (h : renObj σ o = some o2) : isExt o = false ∧ isExt o2 = false := by
  cases o with
  | row c e => simp only [renObj, Option.map_eq_some_iff] at h; obtain ⟨u, _, rfl⟩ := h; exact ⟨rfl, rfl⟩
  | map es k => simp only [renObj, Option.map_eq_some_iff] at h; obtain ⟨u, _, rfl⟩ := h; exact ⟨rfl, rfl⟩
  | iter m a b c =>
    cases m with
    | none => simp only [renObj] at h; cases h; exact ⟨rfl, rfl⟩
    | some m => simp only [renObj, Option.map_eq_some_iff] at h; obtain ⟨u, _, rfl⟩ := h; exact ⟨rfl, rfl⟩
  | siter s k => simp only [renObj] at h; cases h; exact ⟨rfl, rfl⟩
  | loop => simp only [renObj] at h; cases h
  | defs => simp only [renObj] at h; cases h
  | ext => simp only [renObj] at h; cases h
  | dead => simp only [renObj] at h; cases h; exact ⟨rfl, rfl⟩
end ren

section keep
variable {n : Nat} (hn : ∀ x e, x < n → ρ[x]? = some e → ρ2[x]? = some e)
include hn

theorem idsL_nil {f : Value → Option (List Nat)} : ∀ {l : List Value}, idsL f l = some [] → ∀ v ∈ l, f v = some []
  | [], _, _, h => by cases h
  | x :: xs, h, v, hv => by
    simp only [idsL] at h
    split at h
    · cases h
    · rename_i l1 h1
      split at h
      · cases h
      · rename_i l2 h2
        have h0 : l1 ++ l2 = [] := Option.some.inj h
        simp only [List.append_eq_nil_iff] at h0
        obtain ⟨rfl, rfl⟩ := h0
        cases hv with
        | head => exact h1
        | tail _ hv => exact idsL_nil h2 v hv

theorem L2.mono_mem {α β : Type} {R S : α → β → Prop} : ∀ {l : List α} {l' : List β}, (∀ a ∈ l, ∀ b, R a b → S a b) → L2 R l l' → L2 S l l'
  | _, _, _, .nil => .nil
  | _, _, h, .cons r t => .cons (h _ (List.mem_cons_self ..) _ r) (L2.mono_mem (fun a ha b => h a (List.mem_cons_of_mem _ ha) b) t)

theorem IR.stay {i j : Nat} (hi : i < n) (h : IR ρ i j) : IR ρ2 i j := by
  obtain ⟨x, hx, hb⟩ := h
  exact ⟨x, hn _ _ hi hx, hb⟩

theorem one_nil {i : Nat} (h : (if n ≤ i then [i] else []) = ([] : List Nat)) : i < n := by
  split at h
  · cases h
  · omega

theorem newIds_stay : ∀ (d : Nat) {v v' : Value}, newIds n d v = some [] → VR P ρ v v' → VR P ρ2 v v'
  | 0, _, _, h, _ => by simp [newIds] at h
  | d + 1, v, v', h, hv => by
    cases hv with
    | bool b => exact .bool b
    | int k n => exact .int k n
    | float k n => exact .float k n
    | complex k n m => exact .complex k n m
    | string s => exact .string s
    | pnil => exact .pnil
    | snil => exact .snil
    | mnil => exact .mnil
    | nilFunc => exact .nilFunc
    | nilIface => exact .nilIface
    | ptr h1 h2 ho hb =>
      simp only [newIds, Option.some.injEq] at h
      exact .ptr h1 h2 ho (hb.stay hn (one_nil hn h))
    | slice h1 h2 ho hb hln hc hf =>
      simp only [newIds, Option.some.injEq] at h
      have hlt := one_nil hn h
      refine .slice h1 h2 ho (hb.stay hn hlt) hln hc ?_
      intro y hy hyk
      obtain ⟨x, hx, _⟩ := hb
      rw [hn _ _ hlt hx] at hy; cases hy
      exact hf y hx hyk
    | sliceX h1 h2 ho hb hln =>
      simp only [newIds, Option.some.injEq] at h
      exact .sliceX h1 h2 ho (hb.stay hn (one_nil hn h)) hln
    | sliceE h1 => exact .sliceE h1
    | map hr =>
      simp only [newIds, Option.some.injEq] at h
      exact .map (hr.stay hn (one_nil hn h))
    | func g hs hx hs2 hx2 =>
      simp only [newIds] at h
      have hall := idsL_nil hn h
      refine VR.func_of ?_ ?_
      · exact L2.mono_mem hn (fun a ha b hab => newIds_stay d (hall a (List.mem_append_left _ ha)) hab) (vl_arr hs hx)
      · exact L2.mono_mem hn (fun a ha b hab => newIds_stay d (hall a (List.mem_append_right _ ha)) hab) (vl_arr hs2 hx2)
    | yield hr =>
      rename_i l l'
      simp only [newIds, idsL, List.append_nil, Option.map_some, Option.some.injEq, List.toList_toArray] at h
      refine .yield (hr.stay hn ?_)
      split at h
      · cases h
      · omega
    | iface t hv => simp only [newIds] at h; exact .iface t (newIds_stay d h hv)
    | agg hs hx =>
      simp only [newIds] at h
      have hall := idsL_nil hn h
      exact VR.agg_of (L2.mono_mem hn (fun a ha b hab => newIds_stay d (hall a ha) hab) (vl_arr hs hx))
    | tuple hs hx =>
      simp only [newIds] at h
      have hall := idsL_nil hn h
      exact VR.tuple_of (L2.mono_mem hn (fun a ha b hab => newIds_stay d (hall a ha) hab) (vl_arr hs hx))
    | poison => exact .poison

theorem idsE_nil : ∀ {l : List MapEntry}, idsE n l = some [] → ∀ e ∈ l, newIds n 8 e.key = some [] ∧ newIds n 8 e.val = some []
  | [], _, _, h => by cases h
  | x :: xs, h, e, he => by
    simp only [idsE] at h
    split at h
    · rename_i a b c h1 h2 h3
      have h0 : a ++ b ++ c = [] := Option.some.inj h
      simp only [List.append_eq_nil_iff] at h0
      obtain ⟨⟨rfl, rfl⟩, rfl⟩ := h0
      cases he with
      | head => exact ⟨h1, h2⟩
      | tail _ he => exact idsE_nil h3 e he
    · cases h

theorem idsObj_stay {o : AObj} {x : Ent} {o' : Obj} (h : idsObj n o = some []) (ho : OR P ρ o x o') : OR P ρ2 o x o' := by
  cases ho with
  | row he hs hk hv =>
    simp only [idsObj, idsRow] at h
    have hall := idsL_nil hn h
    exact .row he hs hk (L2.mono_mem hn (fun a ha b hab => newIds_stay hn 8 (hall a ha) hab) hv)
  | map hm =>
    simp only [idsObj] at h
    have hall := idsE_nil hn h
    exact .map (L2.mono_mem hn (fun e he e' hme => ⟨newIds_stay hn 8 (hall e he).1 hme.1, newIds_stay hn 8 (hall e he).2 hme.2.1, hme.2.2⟩) hm)
  | iter0 hs => exact .iter0 hs
  | iter hm hs =>
    simp only [idsObj, Option.some.injEq] at h
    exact .iter (hm.stay hn (one_nil hn h)) hs
  | siter => exact .siter
  | loop hk hl hs hp => exact .loop hk hl hs hp
  | defs hk => exact .defs hk
  | ext hk hv =>
    simp only [idsObj, idsRow] at h
    have hall := idsL_nil hn h
    exact .ext hk (L2.mono_mem hn (fun a ha b hab => newIds_stay hn 8 (hall a ha) hab) hv)
end keep


theorem placeOf_spec {x : Nat} : ∀ {L : List Nat} {k y : Nat}, placeOf x L k = some y → k ≤ y ∧ L[y - k]? = some x
  | [], _, _, h => by simp [placeOf] at h
  | z :: zs, k, y, h => by
    simp only [placeOf] at h
    split at h
    · rename_i hx; cases h; subst hx; simp
    · obtain ⟨h1, h2⟩ := placeOf_spec h
      refine ⟨by omega, ?_⟩
      have : y - k = (y - (k + 1)) + 1 := by omega
      rw [this]; simpa using h2

theorem layNew_spec {β : Type} {n : Nat} {σ : Nat → Option Nat} {H : AHeap} {k : AHeap → Option β} {r : β} : ∀ {L : List Nat} {G : AHeap}, layNew n σ H L G k = some r →
    ∃ G', k G' = some r ∧ G'.n = G.n + L.length ∧ (∀ i, i < G.n → G'.get i = G.get i) ∧ ∀ i x, L[i]? = some x → x < H.n ∧ n ≤ x ∧ renObj σ (H.get x) = some (G'.get (G.n + i))
  | [], G, h => ⟨G, h, rfl, fun _ _ => rfl, fun i x hx => by simp at hx⟩
  | x :: xs, G, h => by
    simp only [layNew] at h
    split at h
    · cases h
    · rename_i hb
      split at h
      · cases h
      · rename_i o ho
        obtain ⟨G1, h1, hn1, hg1⟩ := AHeap.new_spec h
        obtain ⟨G', h2, hn2, hg2, hL⟩ := layNew_spec h1
        refine ⟨G', h2, by rw [hn2, hn1]; simp; omega, fun i hi => ?_, fun i y hy => ?_⟩
        · rw [hg2 i (by omega), hg1, if_neg (by omega)]
        · cases i with
          | zero =>
            simp at hy; subst hy
            simp only [Bool.or_eq_false_iff] at hb
            have hb1 : x < H.n := by
              rcases Nat.lt_or_ge x H.n with h3 | h3
              · exact h3
              · have := Nat.ble_eq_true_of_le h3; rw [this] at hb; simp at hb
            have hb2 : n ≤ x := by
              rcases Nat.lt_or_ge x n with h3 | h3
              · have : Nat.blt x n = true := Nat.ble_eq_true_of_le h3
                rw [this] at hb; simp at hb
              · exact h3
            refine ⟨hb1, hb2, ?_⟩
            rw [ho, Nat.add_zero, hg2 _ (by omega), hg1, if_pos rfl]
          | succ i =>
            obtain ⟨h3, h4, h5⟩ := hL i y (by simpa using hy)
            refine ⟨h3, h4, ?_⟩
            rw [h5, hn1]
            congr 2; omega

theorem layOld_spec {β : Type} {n : Nat} {σ : Nat → Option Nat} {H : AHeap} {k : AHeap → Option β} {r : β} : ∀ {m : Nat} {G : AHeap}, layOld n σ H m G k = some r →
    ∃ G', k G' = some r ∧ G'.n = G.n ∧ (∀ i, m ≤ i → G'.get i = G.get i) ∧ ∀ i, i < m → (idsObj n (H.get i) = some [] ∧ G'.get i = G.get i) ∨ renObj σ (H.get i) = some (G'.get i)
  | 0, G, h => ⟨G, h, rfl, fun _ _ => rfl, fun i hi => by omega⟩
  | m + 1, G, h => by
    simp only [layOld] at h
    split at h
    · rename_i hi
      obtain ⟨G', h1, hn, hge, hlt⟩ := layOld_spec h
      refine ⟨G', h1, hn, fun i him => hge i (by omega), fun i him => ?_⟩
      rcases Nat.lt_or_ge i m with h2 | h2
      · exact hlt i h2
      · have : i = m := by omega
        subst this
        exact .inl ⟨hi, hge _ (Nat.le_refl _)⟩
    · split at h
      · cases h
      · rename_i o ho
        obtain ⟨G1, h0, hn0, hg0⟩ := AHeap.set_spec h
        obtain ⟨G', h1, hn, hge, hlt⟩ := layOld_spec h0
        refine ⟨G', h1, by rw [hn, hn0], fun i him => by rw [hge i (by omega), hg0, if_neg (by omega)], fun i him => ?_⟩
        rcases Nat.lt_or_ge i m with h2 | h2
        · rcases hlt i h2 with ⟨h3, h4⟩ | h3
          · exact .inl ⟨h3, by rw [h4, hg0, if_neg (by omega)]⟩
          · exact .inr h3
        · have : i = m := by omega
          subst this
          refine .inr ?_
          rw [ho, hge _ (Nat.le_refl _), hg0, if_pos rfl]
    · cases h

theorem addNew_nodup : ∀ {l L : List Nat}, L.Nodup → (addNew L l).Nodup
  | [], L, h => h
  | x :: xs, L, h => by
    simp only [addNew]
    split
    · exact addNew_nodup h
    · rename_i hc
      refine addNew_nodup ?_
      rw [List.nodup_append]
      refine ⟨h, by simp, fun a ha b hb => ?_⟩
      simp at hb; subst hb
      intro hab; subst hab
      simp at hc
      exact hc ha

theorem reach_nodup {n : Nat} {H : AHeap} : ∀ {m k : Nat} {L L' : List Nat}, L.Nodup → reach n H m k L = some L' → L'.Nodup
  | 0, _, _, _, _, h => by simp [reach] at h
  | m + 1, k, L, L', hn, h => by
    simp only [reach] at h
    split at h
    · cases h; exact hn
    · split at h
      · cases h
      · exact reach_nodup (addNew_nodup hn) h

theorem gc_ok {n : Nat} {r : Out} {k : Out → Option (List Out)} {outs : List Out} {v' : Value} {ρ0 : Ren} (h : HR P ρ r.H B w0 w) (hv : VR P ρ r.v v') (hle : Le ρ0 ρ) (hlen : ρ0.length = n) (ha : gc n r k = some outs) :
    ∃ r2 ρ2, k r2 = some outs ∧ r2.e = r.e ∧ Le ρ0 ρ2 ∧ HR P ρ2 r2.H B w0 w ∧ VR P ρ2 r2.v v' := by
  unfold gc at ha
  split at ha
  · exact ⟨r, ρ, ha, rfl, hle, h, hv⟩
  · rename_i hnn
    split at ha
    · rename_i l0 l1 _ _
      split at ha
      · cases ha
      · rename_i L hL
        simp only at ha
        split at ha
        · cases ha
        · rename_i v2 hv2
          obtain ⟨G1, h1, hn1, hge1, hlt1⟩ := layOld_spec ha
          obtain ⟨G2, h2, hn2, hold2, hnew2⟩ := layNew_spec h1
          simp only at hn1 hge1
          have hnd : L.Nodup := reach_nodup (addNew_nodup (addNew_nodup List.nodup_nil)) hL
          have hnlt : n ≤ ρ.length := by rw [h.len]; omega
          let ρ2 : Ren := ρ.take n ++ L.map fun x => (ρ[x]?).getD none
          have hlo : ∀ i, i < n → ρ2[i]? = ρ[i]? := by
            intro i hi
            rw [List.getElem?_append_left (by simp; omega), List.getElem?_take, if_pos hi]
          have hhi : ∀ i x, L[i]? = some x → ρ2[n + i]? = ρ[x]? := by
            intro i x hx
            rw [List.getElem?_append_right (by simp; omega)]
            have hlenT : (ρ.take n).length = n := by simp; omega
            rw [hlenT, Nat.add_sub_cancel_left, List.getElem?_map, hx]
            have hxlt : x < ρ.length := by rw [h.len]; exact (hnew2 i x hx).1
            simp [List.getElem?_eq_getElem hxlt]
          have hback : ∀ i e, ρ2[i]? = some e → (i < n ∧ ρ[i]? = some e) ∨ ∃ j x, i = n + j ∧ L[j]? = some x ∧ ρ[x]? = some e := by
            intro i e he
            rcases Nat.lt_or_ge i n with hi | hi
            · exact .inl ⟨hi, by rw [← hlo i hi]; exact he⟩
            · refine .inr ⟨i - n, ?_⟩
              have hl2 : i - n < L.length := by
                have := (List.getElem?_eq_some_iff.1 he).1
                simp [ρ2] at this; omega
              have hx : L[i - n]? = some L[i - n] := List.getElem?_eq_getElem hl2
              refine ⟨L[i - n], by omega, hx, ?_⟩
              rw [← hhi _ _ hx, show n + (i - n) = i by omega]; exact he
          have hσ : ∀ x y e, newName n L x = some y → ρ[x]? = some e → ρ2[y]? = some e := by
            intro x y e hxy he
            unfold newName at hxy
            split at hxy
            · rename_i hx; cases hxy; rw [hlo _ hx]; exact he
            · obtain ⟨h3, h4⟩ := placeOf_spec hxy
              have := hhi _ _ h4
              rw [show n + (y - n) = y by omega] at this
              rw [this]; exact he
          have hstay : ∀ x e, x < n → ρ[x]? = some e → ρ2[x]? = some e := fun x e hx he => by rw [hlo x hx]; exact he
          have hgold : ∀ i, i < n → (idsObj n (r.H.get i) = some [] ∧ G2.get i = r.H.get i) ∨ renObj (newName n L) (r.H.get i) = some (G2.get i) := by
            intro i hi
            rw [hold2 i (by omega)]
            exact hlt1 i hi
          refine ⟨_, ρ2, h2, rfl, ?_, ?_, renV_ok hσ 8 hv2 hv⟩
          · intro i x hx
            have hi : i < n := by rw [← hlen]; exact (List.getElem?_eq_some_iff.1 hx).1
            rw [hlo i hi]; exact hle i x hx
          · refine ⟨?_, ?_, ?_, ?_, h.base, h.bound, h.laid⟩
            · simp only [hn2, hn1, ρ2, List.length_append, List.length_map, List.length_take]; omega
            · intro i x hx
              rcases hback i _ hx with ⟨hi, he⟩ | ⟨j, x1, rfl, hj, he⟩
              · obtain ⟨hB1, hB2, o', ho', hor⟩ := h.live i x he
                rcases hgold i hi with ⟨h3, h4⟩ | h3
                · simp only [h4]; exact ⟨hB1, hB2, o', ho', idsObj_stay hstay h3 hor⟩
                · obtain ⟨e1, e2⟩ := renObj_ext h3
                  exact ⟨fun h0 => (by simp only at h0; rw [e2] at h0; cases h0), fun _ => hB2 e1, o', ho', renObj_ok hσ h3 hor⟩
              · obtain ⟨hB1, hB2, o', ho', hor⟩ := h.live x1 x he
                have h3 := (hnew2 j x1 hj).2.2
                rw [hn1] at h3
                obtain ⟨e1, e2⟩ := renObj_ext h3
                exact ⟨fun h0 => (by simp only at h0; rw [e2] at h0; cases h0), fun _ => hB2 e1, o', ho', renObj_ok hσ h3 hor⟩
            · intro i hi0
              have key : ∀ {o2 : AObj}, renObj (newName n L) AObj.dead = some o2 → o2 = .dead := fun h => by simp only [renObj] at h; cases h; rfl
              rcases hback i _ hi0 with ⟨hi, he⟩ | ⟨j, x1, rfl, hj, he⟩
              · have hd := h.dead i he
                rcases hgold i hi with ⟨h3, h4⟩ | h3
                · exact h4.trans hd
                · rw [hd] at h3; exact key h3
              · have hd := h.dead x1 he
                have h3 := (hnew2 j x1 hj).2.2
                rw [hn1, hd] at h3
                exact key h3
            · intro i j x y hx hy hne hxy
              simp only at hne
              rcases hback i _ hx with ⟨hi, hei⟩ | ⟨i1, x1, rfl, hi1, hei⟩ <;> rcases hback j _ hy with ⟨hj, hej⟩ | ⟨j1, y1, rfl, hj1, hej⟩
              · refine h.inj _ _ _ _ hei hej ?_ hxy
                rcases hgold i hi with ⟨_, h4⟩ | h3
                · rw [← h4]; exact hne
                · exact (renObj_ext h3).1
              · have h3 := (hnew2 _ _ hj1).2.2
                have := h.inj _ _ _ _ hej hei (renObj_ext h3).1 hxy.symm
                have := (hnew2 _ _ hj1).2.1
                omega
              · have h3 := (hnew2 _ _ hi1).2.2
                have := h.inj _ _ _ _ hei hej (renObj_ext h3).1 hxy
                have := (hnew2 _ _ hi1).2.1
                omega
              · have hxy1 := h.inj _ _ _ _ hei hej (renObj_ext (hnew2 _ _ hi1).2.2).1 hxy
                subst hxy1
                have := (List.getElem?_inj (List.getElem?_eq_some_iff.1 hi1).1 hnd).1 (hi1.trans hj1.symm)
                rw [this]
    · cases ha
end
end Go.Am
namespace Go.Am
open Go.RowKit


theorem beqL_eq {f : Value → Value → Bool} (hf : ∀ v u, f v u = true → v = u) : ∀ {l l' : List Value}, beqL f l l' = true → l = l'
  | [], [], _ => rfl
  | a :: as, b :: bs, h => by
    simp only [beqL, Bool.and_eq_true] at h
    rw [hf _ _ h.1, beqL_eq hf h.2]
  | [], _ :: _, h => by simp [beqL] at h
  | _ :: _, [], h => by simp [beqL] at h

theorem bytes_eq {s s' : ByteArray} (h : (s.data.toList == s'.data.toList) = true) : s = s' := by
  have h1 : s.data.toList = s'.data.toList := by simpa using h
  have h2 : s.data = s'.data := Array.ext' h1
  cases s; cases s'; simp_all

theorem beqV_eq : ∀ (d : Nat) (v u : Value), beqV d v u = true → v = u
  | 0, _, _, h => by simp [beqV] at h
  | d + 1, v, u, h => by
    unfold beqV at h
    split at h
    · simp at h; rw [h]
    · simp at h; rw [h.1, h.2]
    · rw [bytes_eq h]
    · simp at h; rw [h]
    · simp at h; rw [h.1.1, h.1.2, h.2]
    · simp at h; rw [h]
    · rfl
    · rfl
    · simp at h; rw [h.1, beqV_eq d _ _ h.2]
    · rw [Array.ext' (beqL_eq (beqV_eq d) h)]
    · rw [Array.ext' (beqL_eq (beqV_eq d) h)]
    · simp only [Bool.and_eq_true] at h
      have h1 := h.1.1
      simp at h1
      rw [h1, Array.ext' (beqL_eq (beqV_eq d) h.1.2), Array.ext' (beqL_eq (beqV_eq d) h.2)]
    · cases h

theorem beqE_eq : ∀ {l l' : List MapEntry}, beqE l l' = true → l = l'
  | [], [], _ => rfl
  | a :: as, b :: bs, h => by
    simp only [beqE, Bool.and_eq_true] at h
    obtain ⟨⟨⟨h1, h2⟩, h3⟩, h4⟩ := h
    have h3 : a.born = b.born := by simpa using h3
    have := beqV_eq _ _ _ h1
    have := beqV_eq _ _ _ h2
    rw [beqE_eq h4]
    cases a; cases b; simp_all
  | [], _ :: _, h => by simp [beqE] at h
  | _ :: _, [], h => by simp [beqE] at h

theorem beqObj_eq {o o' : AObj} (h : beqObj o o' = true) : o = o' := by
  unfold beqObj at h
  split at h
  · simp only [Bool.and_eq_true] at h
    have h1 := h.1
    simp at h1
    rw [h1, beqL_eq (beqV_eq 8) h.2]
  · simp only [Bool.and_eq_true] at h
    have h1 := h.1
    simp at h1
    rw [h1, beqE_eq h.2]
  · simp at h; rw [h.1.1.1, h.1.1.2, h.1.2, h.2]
  · simp only [Bool.and_eq_true] at h
    have h1 := h.2
    simp at h1
    rw [bytes_eq h.1, h1]
  · simp at h; rw [h.1, h.2]
  · simp at h; rw [h]
  · simp only [Bool.and_eq_true] at h
    have h1 := h.1
    simp at h1
    rw [h1, beqL_eq (beqV_eq 8) h.2]
  · rfl
  · cases h

theorem beqHeap_eq {H G : AHeap} : ∀ {n : Nat}, beqHeap H G n = true → ∀ i, i < n → H.get i = G.get i
  | 0, _, i, hi => by omega
  | n + 1, h, i, hi => by
    simp only [beqHeap, Bool.and_eq_true] at h
    rcases Nat.lt_or_ge i n with h1 | h1
    · exact beqHeap_eq h.2 i h1
    · have : i = n := by omega
      subst this
      exact beqObj_eq h.1

section
variable {P : Program} {ρ ρ' : Ren} {H : AHeap} {B : Nat} {w0 w : World}

theorem HR.same {H' : AHeap} (h : HR P ρ H B w0 w) (hn : H.n = H'.n) (hg : ∀ i, i < H.n → H.get i = H'.get i) : HR P ρ H' B w0 w := by
  have hlt : ∀ {i : Nat} {e}, ρ[i]? = some e → i < H.n := fun he => by rw [← h.len]; exact (List.getElem?_eq_some_iff.1 he).1
  exact ⟨by rw [← hn]; exact h.len, fun i x hx => by rw [← hg i (hlt hx)]; exact h.live i x hx, fun i hx => by rw [← hg i (hlt hx)]; exact h.dead i hx, fun i j x y hx hy hne => h.inj i j x y hx hy (by rw [hg i (hlt hx)]; exact hne), h.base, h.bound, h.laid⟩

theorem dedupe_mem : ∀ {l : List Out} {r : Out}, r ∈ l → ∃ s, s ∈ dedupe l ∧ (s = r ∨ beqOut r s = true)
  | [], _, h => by cases h
  | [a], r, h => ⟨r, h, .inl rfl⟩
  | a :: b :: l, r, h => by
    simp only [dedupe]
    split
    · rename_i hany
      cases h with
      | head =>
        obtain ⟨s, hs, hb⟩ := List.any_eq_true.1 hany
        exact ⟨s, hs, .inr hb⟩
      | tail _ h => exact dedupe_mem h
    · cases h with
      | head => exact ⟨a, List.mem_cons_self .., .inl rfl⟩
      | tail _ h =>
        obtain ⟨s, hs, hb⟩ := dedupe_mem h
        exact ⟨s, List.mem_cons_of_mem _ hs, hb⟩

theorem CallPost.dedupe {outs : List Out} {e : Ending} {w' : World} (h : CallPost P ρ B w0 outs e w') : CallPost P ρ B w0 (Am.dedupe outs) e w' := by
  obtain ⟨r, hr, ρ', v', he, hle, hHR, hv⟩ := h
  obtain ⟨s, hs, hb⟩ := dedupe_mem hr
  rcases hb with rfl | hb
  · exact ⟨s, hs, ρ', v', he, hle, hHR, hv⟩
  · simp only [beqOut, Bool.and_eq_true] at hb
    obtain ⟨⟨h1, h2⟩, h3⟩ := hb
    have h1 : r.H.n = s.H.n := by simpa using h1
    exact ⟨s, hs, ρ', v', he, hle, hHR.same h1 (beqHeap_eq h3), by rw [← beqV_eq _ _ _ h2]; exact hv⟩


theorem aLoad_same {β : Type} {k : K β} {r : β} {x x' : Value} {t : TypeId} (h : HR P ρ H B w0 w) (hx : VR P ρ x x') (ha : aLoad P t x H k = some r) :
    ∃ v v' a', x' = .pointer (some a') ∧ k v H = some r ∧ VR P ρ v v' ∧ (loadVar t a').run P w = .ok v' w := by
  unfold aLoad at ha
  cases hx <;> simp only at ha <;> try (cases ha; done)
  rename_i a a' hs hs' ho hb
  rw [if_neg (by simp [hs])] at ha
  cases hag : isAggT P t with
  | none => simp [hag] at ha
  | some b =>
    cases b
    · simp only [hag] at ha
      cases hc : cellAt H a.block a.off with
      | none => simp [hc] at ha
      | some v =>
        simp only [hc] at ha
        obtain ⟨v', hv', hr⟩ := cell_spec h hb ho hs' hc
        exact ⟨v, v', a', rfl, ha, hr, by simp [loadVar, run_isAgg hag, hv']⟩
    · simp only [hag] at ha
      cases hz : szT P t with
      | none => simp [hz] at ha
      | some n =>
        simp only [hz] at ha
        cases hc : cellsAt H a.block a.off n with
        | none => simp [hc] at ha
        | some l =>
          simp only [hc] at ha
          obtain ⟨l', hl, hv, hcell⟩ := cells_spec h hb ho hs' hc
          refine ⟨_, .agg l'.toArray, a', rfl, ha, VR.agg_of (by simpa using hv), ?_⟩
          have hld := run_loadCells_list (P := P) w a' l' hcell
          rw [hl] at hld
          simp [loadVar, run_isAgg hag, run_sizeOf hz, hld]

def resOne (tmps : Array Value) : ResultVar → Sem Value
  | .tmp t => pure (tmps.getD t undef)
  | .cell a t => do loadVar t (← asAddr (tmps.getD a undef))

theorem resA_ok {sz : Nat} {f : AF} {a : Act} (h : HR P ρ H B w0 w) (hf : AFR P ρ sz f a) : ∀ {rs : List ResultVar} {l : List Value}, resA P f H rs = some l →
    ∃ l', (rs.mapM (resOne a.tmps)).run P w = .ok l' w ∧ VL P ρ l l'
  | [], l, ha => by simp only [resA] at ha; cases ha; exact ⟨[], by simp, .nil⟩
  | .tmp t :: rs, l, ha => by
    simp only [resA] at ha
    split at ha
    · rename_i l1 h1
      cases ha
      obtain ⟨l', h2, h3⟩ := resA_ok h hf h1
      exact ⟨a.tmps.getD t undef :: l', by simp [List.mapM_cons, resOne, h2], .cons (hf.tmps t) h3⟩
    · cases ha
  | .cell p t :: rs, l, ha => by
    simp only [resA] at ha
    split at ha
    · rename_i l1 h1
      obtain ⟨v, v', a', hx, h4, h5, h6⟩ := aLoad_same h (hf.tmps p) ha
      cases h4
      obtain ⟨l', h2, h3⟩ := resA_ok h hf h1
      have hr : (resOne a.tmps (.cell p t)).run P w = .ok v' w := by simp only [resOne, hx]; simp [asAddr, h6]
      exact ⟨v' :: l', by simp [List.mapM_cons, hr, h2], .cons h5 h3⟩
    · cases ha

theorem results_ok {sz : Nat} {f : AF} {a : Act} {fn : Func} {l : List Value} (h : HR P ρ H B w0 w) (hf : AFR P ρ sz f a) (ha : resA P f H fn.results.toList = some l) :
    ∃ v', (results fn a.tmps).run P w = .ok v' w ∧ VR P ρ (oneOf l) v' := by
  obtain ⟨l', h1, h2⟩ := resA_ok h hf ha
  refine ⟨if h : l'.toArray.size = 1 then l'.toArray[0] else .tuple l'.toArray, ?_, ?_⟩
  · have : results fn a.tmps = (do let vs ← fn.results.mapM (resOne a.tmps); pure (if h : vs.size = 1 then vs[0] else .tuple vs)) := rfl
    rw [this, Array.mapM_eq_mapM_toList]
    simp [h1]
  · cases h2 with
    | nil => simp only [oneOf]; exact VR.tuple_of .nil
    | cons hv ht =>
      cases ht with
      | nil => simp only [oneOf]; exact hv
      | cons hv2 ht => simp only [oneOf]; simp; exact VR.tuple_of (by simpa using L2.cons hv (L2.cons hv2 ht))


theorem leaveA_ok {rec : Rec} (hrec : RecOK P rec) {loops : List (Nat × LInfo)} {fn : Func} {sz : Nat} {f : AF} {R : Ending → World → Prop} : ∀ (ds : List Deferred) (ds' : List Deferred) (ρ : Ren) (H : AHeap) (w : World) (a : Act) (outs : List Out),
    leaveA P rec loops fn f ds H = some outs → HR P ρ H B w0 w → LI P ρ loops → AFR P ρ sz f a → L2 (DR P ρ) ds ds' → (∀ e w, CallPost P ρ B w0 outs e w → R e w) → LeavesInM Fence.wide 0 P fn a.tmps R ds' .returning w
  | _, _, ρ, H, w, a, outs, ha, h, hl, hf, .nil, hR => by
    simp only [leaveA] at ha
    split at ha
    · rename_i l hl0
      cases ha
      obtain ⟨v', h1, h2⟩ := results_ok h hf hl0
      exact ⟨v', h1, hR _ _ ⟨_, List.mem_singleton_self _, ρ, v', rfl, Le.refl _, h, h2⟩⟩
    · cases ha
  | _, _, ρ, H, w, a, outs, ha, h, hl, hf, .cons hd hds, hR => by
    refine ⟨by simp, ?_⟩
    cases hd with
    | mark hir =>
      rename_i ds ds' r r'
      simp only [leaveA] at ha
      split at ha
      · rename_i hg
        obtain ⟨x, o', hx, hxb, hw, hor, _⟩ := h.at hir (by rw [hg]; simp) (by rw [hg]; rfl)
        rw [hg] at hor
        cases hor with
        | defs hk =>
          obtain ⟨H2, hk2, hn, hg2⟩ := AHeap.set_spec ha
          subst hxb
          have hput := h.put (o := .defs true) (o' := .deferred none) hx rfl hw hn hg2 (.defs hk) (by rw [hg]; rfl)
          refine .inl ⟨x.b, _, rfl, ?_, leaveA_ok hrec _ _ ρ H2 _ a outs hk2 hput hl hf hds hR⟩
          simp only [Bool.false_eq_true, if_false] at hw
          simp [Instr.takeDeferred, getObj, setObj, Sem.run, hw]
      · cases ha
    | fn g hc hag =>
      rename_i ds ds' c c' x x'
      simp only [leaveA] at ha
      split at ha
      · rename_i fn' hfn
        split at ha
        · cases ha
        · rename_i hcond
          simp only [Bool.or_eq_true, not_or, Bool.not_eq_true] at hcond
          split at ha
          · rename_i l hl0
            have hn' : ¬ fn'.name = "runtime.NumGoroutine" := by simpa using hcond.1
            have hb' : ¬ fn'.body = none := by intro h0; have := hcond.2; simp [h0] at this
            have hcall := hrec _ _ hl0 ρ B w0 w _ h hl (hag.append hc)
            have harr : (x'.toList ++ c'.toList).toArray = x' ++ c' := by apply Array.ext'; simp
            simp only at hcall
            rw [harr] at hcall
            refine .inr ⟨fun h0 => by simp [Fence.wide] at h0, _, _, g, x' ++ c', rfl, by simp [invoke, callFunc, hfn, hn', hb'], fun _ _ => trivial, CallsDIn.mono hcall ?_⟩
            rintro e u w' ⟨rfl, r, hr, ρ', v', rfl, hle, hHR, hv⟩
            obtain ⟨outs', h1, h2⟩ := bindO_post ha hr
            exact leaveA_ok hrec _ _ ρ' r.H w' a outs' h1 hHR (hl.mono hle) (hf.mono hle) (L2.mono (fun _ _ h => h.mono hle) hds) (fun e w hp => hR e w ((hp.le hle).sub h2))
          · cases ha
      · cases ha


theorem wpSIn_mono {F : Fence} {n : Nat} {c : Code} {Q Q' : Exit → Act → List Frame → World → Prop} {a : Act} {cs : List Frame} (h : c.wpSIn F n P Q a cs w) (hq : ∀ e a cs w, Q e a cs w → Q' e a cs w) : c.wpSIn F n P Q' a cs w :=
  fun b k h1 h2 h3 h4 => let ⟨e, a', cs', w', l, q, r⟩ := h b k h1 h2 h3 h4; ⟨e, a', cs', w', l, hq _ _ _ _ q, r⟩

theorem decode_recover {o : Op} {g : Operand} {args : List Operand} (h : decode o = .rest 0 g args) : ∃ a ts, o = .call { callee := .builtin .recover, args := a, argTypes := ts } := by
  cases o with
  | call c =>
    obtain ⟨callee, a, ts⟩ := c
    cases callee with
    | builtin b => cases b <;> first | exact ⟨_, _, rfl⟩ | (simp [decode] at h)
    | _ => simp [decode] at h
  | defer c =>
    obtain ⟨callee, a, ts⟩ := c
    cases callee <;> simp [decode] at h
  | next it s => cases s <;> simp [decode] at h
  | _ => simp [decode] at h

theorem opsD_ok {cx : Cx} {ops : Array Oper} {c₀ : Frame} (hc : c₀.mode = .returning) {cs : List Frame} {Q : Exit → Act → List Frame → World → Prop} : ∀ (l : List Oper) (i : Nat) (ρ : Ren) (H : AHeap) (w : World) (f : AF) (a : Act) (outs : List Out),
    ops.toList.drop i = l → opsD P cx ops l f H = some outs → HR P ρ H B w0 w → AFR P ρ cx.sz f a →
    (∀ e a w, OutPost P ρ B w0 cx.sz outs e a w → Q e a (c₀ :: cs) w) → wpOpsSIn Fence.wide 0 P ops Q (List.range' i l.length) a (c₀ :: cs) w := by
  intro l
  induction l with
  | nil =>
    intro i ρ H w f a outs hdrop ha h hf hQ
    simp only [opsD] at ha
    cases ha
    exact hQ _ _ _ ⟨_, List.mem_singleton_self _, rfl, ρ, Le.refl _, h, hf⟩
  | cons o rest ih =>
    intro i ρ H w f a outs hdrop ha h hf hQ
    have hi : ops[i]? = some o := by
      have : (ops.toList.drop i)[0]? = some o := by rw [hdrop]; rfl
      rw [List.getElem?_drop] at this
      simpa using this
    have hdrop' : ops.toList.drop (i + 1) = rest := by
      have : (ops.toList.drop i).drop 1 = rest := by rw [hdrop]; rfl
      rwa [List.drop_drop] at this
    simp only [opsD] at ha
    simp only [List.length_cons, List.range'_succ, wpOpsSIn, hi]
    refine ⟨fun _ _ => trivial, ?_⟩
    split at ha
    · rename_i hw
      rw [wanted_ok hf hw]
      simp only [if_true]
      split at ha
      · rename_i hdec
        obtain ⟨ar, ts, hop⟩ := decode_recover hdec
        obtain ⟨f', hk, hd, hlt, ht⟩ := putA_spec ha
        have hrun : (execOp a.eval o).run P w = .ok .recover w := by simp [execOp, hop, resolve, invoke, builtin]
        have hrec0 : recoverD (c₀ :: cs) = none := by simp [recoverD, hc]
        rw [hrun]
        simp only [hrec0]
        exact ih (i + 1) ρ H w f' _ outs hdrop' hk h (hf.put .nilIface hd hlt ht) hQ
      · obtain ⟨v, H', ρ', v', w', h1, h2, h3, h4, h5⟩ := valA_ok h hf.eval ha
        obtain ⟨f', hk, hd, hlt, ht⟩ := putA_spec h1
        have hfin := ih (i + 1) ρ' H' w' f' _ outs hdrop' hk h3 ((hf.mono h2).put h4 hd hlt ht) (fun e a w hp => hQ e a w (hp.le h2))
        rcases h5 with h5 | ⟨h5, rfl⟩
        · rw [h5]; exact hfin
        · rw [h5]; exact hfin
    · rename_i hw
      rw [wanted_ok hf hw]
      simp only [Bool.false_eq_true, if_false]
      obtain ⟨f', hk, hd, hlt, ht⟩ := putA_spec ha
      exact ih (i + 1) ρ H w f' _ outs hdrop' hk h (hf.put VR.undef hd hlt ht) hQ
    · cases ha

def PostD (P : Program) (ρ : Ren) (B : Nat) (w0 : World) (sz : Nat) (outs : List Out) (cs0 : List Frame) (e : Exit) (a : Act) (cs : List Frame) (w : World) : Prop := cs = cs0 ∧ OutPost P ρ B w0 sz outs e a w

theorem codeD_ok {rec : Rec} (hrec : RecOK P rec) {cx : Cx} (hcx : cx.round = none) {c₀ : Frame} (hc : c₀.mode = .returning) {cs : List Frame} : ∀ (c : Code) (f : AF) (H : AHeap) (outs : List Out) (ρ : Ren) (w : World) (a : Act), codeD P rec cx c f H = some outs →
    HR P ρ H B w0 w → LI P ρ cx.loops → AFR P ρ cx.sz f a → c.wpSIn Fence.wide 0 P (PostD P ρ B w0 cx.sz outs (c₀ :: cs)) a (c₀ :: cs) w := by
  have other : ∀ (c : Code) (f : AF) (H : AHeap) (outs : List Out) (ρ : Ren) (w : World) (a : Act), rec (.code cx c f H) = some outs →
      HR P ρ H B w0 w → LI P ρ cx.loops → AFR P ρ cx.sz f a → c.wpSIn Fence.wide 0 P (PostD P ρ B w0 cx.sz outs (c₀ :: cs)) a (c₀ :: cs) w := by
    intro c f H outs ρ w a ha h hl hf
    refine wpSIn_of_wpIn rfl (wpIn_mono (hrec _ _ ha ρ B w0 w a Fence.wide h hl ?_ hf) fun e a w hp => ⟨rfl, hp⟩)
    unfold FR; rw [hcx]
  intro c
  induction c with
  | seq x y ihx ihy =>
    intro f H outs ρ w a ha h hl hf
    simp only [codeD] at ha
    split at ha
    · cases ha
    · rename_i l hx
      refine wpSIn_seq (wpSIn_mono (ihx f H l ρ w a hx h hl hf) ?_)
      rintro e a' cs' w' ⟨rfl, r, hr, rfl, ρ', hle, hHR, hf'⟩
      obtain ⟨outs', h1, h2⟩ := bindO_post ha hr
      have hother : some [r] = some outs' → PostD P ρ B w0 cx.sz outs (c₀ :: cs) r.e a' (c₀ :: cs) w' := by
        intro h0; cases h0
        exact ⟨rfl, r, h2 r (List.mem_singleton_self _), rfl, ρ', hle, hHR, hf'⟩
      cases hre : r.e with
      | normal =>
        rw [hre] at h1
        exact wpSIn_mono (ihy r.f r.H outs' ρ' w' a' h1 hHR (hl.mono hle) hf') (fun e a cs w hp => ⟨hp.1, (hp.2.le hle).sub h2⟩)
      | _ =>
        rw [hre] at h1 hother
        exact hother h1
  | cond c x y ihx ihy =>
    intro f H outs ρ w a ha h hl hf
    have hv := hf.eval c
    simp only [codeD] at ha
    split at ha
    · rename_i hb
      rw [hb] at hv
      generalize hx : a.eval c = xv at hv
      cases hv
      exact wpSIn_cond hx (ihx f H outs ρ w a ha h hl hf)
    · rename_i hb
      rw [hb] at hv
      generalize hx : a.eval c = xv at hv
      cases hv
      exact wpSIn_cond hx (ihy f H outs ρ w a ha h hl hf)
    · cases ha
  | region id ops draw =>
    intro f H outs ρ w a ha h hl hf
    simp only [codeD] at ha
    split at ha
    · rename_i hb
      simp only [Bool.and_eq_true, Bool.not_eq_true'] at hb
      obtain ⟨_, rfl⟩ := hb
      refine wpSIn_region ?_
      have := opsD_ok (P := P) (B := B) (w0 := w0) (ops := ops) (cx := cx) hc (cs := cs) (Q := PostD P ρ B w0 cx.sz outs (c₀ :: cs)) ops.toList 0 ρ H w f a outs rfl ha h hf (fun e a w hp => ⟨rfl, hp⟩)
      rw [List.range_eq_range']
      simpa using this
    · exact other _ f H outs ρ w a ha h hl hf
  | _ =>
    intro f H outs ρ w a ha h hl hf
    exact other _ f H outs ρ w a ha h hl hf


theorem argsK_spec {β : Type} {k : Tr Value → Option β} {r : β} : ∀ {l : List Value} {i : Nat} {t : Tr Value}, argsK l i t k = some r →
    ∃ t', k t' = some r ∧ ∀ j, t'.get j = if i ≤ j ∧ j < i + l.length then l[j - i]? else t.get j
  | [], i, t, h => ⟨t, h, fun j => by rw [if_neg (by simp only [List.length_nil]; omega)]⟩
  | v :: vs, i, t, h => by
    simp only [argsK] at h
    rw [forceV_spec] at h
    obtain ⟨t1, h1, ht1⟩ := Tr.setK_spec _ _ _ _ _ _ h
    obtain ⟨t2, h2, ht2⟩ := argsK_spec h1
    refine ⟨t2, h2, fun j => ?_⟩
    rw [ht2]
    by_cases hj : i + 1 ≤ j ∧ j < i + 1 + vs.length
    · rw [if_pos hj, if_pos (by simp; omega)]
      have : j - i = (j - (i + 1)) + 1 := by omega
      rw [this]; simp
    · rw [if_neg hj, ht1]
      by_cases hji : j = i
      · subst hji; rw [if_pos rfl, if_pos (by simp)]; simp
      · rw [if_neg hji, if_neg (by simp; omega)]

theorem enter_afr {args args' : List Value} {t : Tr Value} {m : Nat} (hv : VL P ρ args args') (ht : ∀ j, t.get j = if 0 ≤ j ∧ j < 0 + args.length then args[j - 0]? else (Tr.e : Tr Value).get j) :
    AFR P ρ (args.length + (m - args.length)) ⟨t, []⟩ { tmps := args'.toArray ++ Array.replicate (m - args'.toArray.size) undef, defers := [] } := by
  have hlen := hv.length
  refine ⟨by simp [hlen], fun i => ?_, .nil⟩
  simp only [AF.tmp, ht]
  by_cases hi : i < args.length
  · rw [if_pos (by omega)]
    obtain ⟨v, hgv⟩ : ∃ v, args[i]? = some v := ⟨_, List.getElem?_eq_getElem hi⟩
    obtain ⟨v', hgv', hvr⟩ := hv.get hgv
    simp only [Nat.sub_zero, hgv]
    have : (args'.toArray ++ Array.replicate (m - args'.toArray.size) undef).getD i undef = v' := by
      simp only [Array.getD_eq_getD_getElem?]
      rw [Array.getElem?_append_left (by simp; omega)]
      simp [hgv']
    rw [this]; exact hvr
  · rw [if_neg (by omega), Tr.get_e]
    have : (args'.toArray ++ Array.replicate (m - args'.toArray.size) undef).getD i undef = undef := by
      simp only [Array.getD_eq_getD_getElem?]
      rw [Array.getElem?_append_right (by simp; omega)]
      rw [Array.getElem?_replicate]
      split <;> rfl
    rw [this]; exact VR.undef

theorem gcs_ok {n : Nat} {l' outs : List Out} {ρ0 : Ren} {e : Ending} (hlen : ρ0.length = n) (hb : bindO l' (fun r => gc n r fun r => some [r]) = some outs) (h : CallPost P ρ0 B w0 l' e w) : CallPost P ρ0 B w0 outs e w := by
  obtain ⟨r, hr, ρ, v', he, hle, hHR, hv⟩ := h
  obtain ⟨outs', h1, h2⟩ := bindO_post hb hr
  obtain ⟨r2, ρ2, h3, _, h4, h5, h6⟩ := gc_ok hHR hv hle hlen h1
  cases h3
  exact ⟨r2, h2 _ (List.mem_singleton_self _), ρ2, v', he, h4, h5, h6⟩

theorem endCall_some {rec : Rec} {dm : Bool} {loops : List (Nat × LInfo)} {fn : Func} {n : Nat} {r : Out} {outs : List Out} (h : endCall P rec dm loops fn n r = some outs) :
    (r.e = .normal ∨ r.e = .ret) ∧ (dm = true → r.f.defers = []) ∧ ∃ l', leaveA P rec loops fn r.f r.f.defers r.H = some l' ∧ bindO l' (fun r => gc n r fun r => some [r]) = some outs := by
  unfold endCall at h
  have fin : (match dm && !r.f.defers.isEmpty with
      | true => none
      | false => match leaveA P rec loops fn r.f r.f.defers r.H with
        | none => none
        | some l' => bindO l' fun r => gc n r fun r => some [r]) = some outs → (dm = true → r.f.defers = []) ∧ ∃ l', leaveA P rec loops fn r.f r.f.defers r.H = some l' ∧ bindO l' (fun r => gc n r fun r => some [r]) = some outs := by
    intro h
    split at h
    · cases h
    · rename_i hd
      split at h
      · cases h
      · rename_i l' hl
        refine ⟨fun hdm => ?_, l', hl, h⟩
        subst hdm
        simpa using hd
  split at h
  · rename_i he; exact ⟨.inl he, fin h⟩
  · rename_i he; exact ⟨.inr he, fin h⟩
  · cases h

theorem enterA_ok {rec : Rec} (hrec : RecOK P rec) {dm : Bool} {loops : List (Nat × LInfo)} {g : FuncId} {args : List Value} {H : AHeap} {outs : List Out} (ha : enterA P rec dm loops g args H = some outs) : CallOK P dm loops g args H outs := by
  unfold enterA at ha
  split at ha
  · cases ha
  · rename_i fn hfn
    split at ha
    · cases ha
    · rename_i c hb
      obtain ⟨t, hk, ht⟩ := argsK_spec ha
      rw [forceN_spec] at hk
      split at hk
      · cases hk
      · rename_i l hl0
        split at hk
        · cases hk
        · rename_i l' hb0
          cases hk
          intro ρ B w0 w args' h hl hv
          have hf0 := enter_afr (m := fn.ntmps) hv ht
          cases dm with
          | false =>
            simp only [bodyA] at hl0
            show CallsIn _ _ _ _ _ _ _
            refine callsIn_of_wp_marks hfn hb trivial ?_
            refine wpIn_mono (hrec _ _ hl0 ρ B w0 w _ Fence.wide h hl rfl hf0) ?_
            rintro e a' w' ⟨r, hr, rfl, ρ', hle, hHR, hf'⟩
            obtain ⟨outs', h1, h2⟩ := bindO_post hb0 hr
            obtain ⟨he, _, l2, h3, h4⟩ := endCall_some h1
            have hlv : LeavesInM Fence.wide 0 P fn a'.tmps (CallPost P ρ B w0 (dedupe l')) a'.defers .returning w' :=
              leaveA_ok hrec _ _ ρ' r.H w' a' l2 h3 hHR (hl.mono hle) hf' hf'.defers
                (fun e w hp => ((gcs_ok h.len h4 (hp.le hle)).sub h2).dedupe)
            rcases he with he | he
            · rw [he]; exact hlv
            · rw [he]; exact hlv
          | true =>
            simp only [bodyA] at hl0
            show CallsDIn _ _ _ _ _ _ _ _
            refine callsDIn_of_wpSIn hfn hb trivial ?_
            intro c₀ cs hc0
            refine wpSIn_mono (codeD_ok (cx := ⟨g, args.length + (fn.ntmps - args.length), none, loops⟩) hrec rfl hc0 c _ H l ρ w _ hl0 h hl hf0) ?_
            rintro e a' cs' w' ⟨rfl, r, hr, rfl, ρ', hle, hHR, hf'⟩
            obtain ⟨outs', h1, h2⟩ := bindO_post hb0 hr
            obtain ⟨he, hdm, l2, h3, h4⟩ := endCall_some h1
            have hd0 := hdm rfl
            have hdd : a'.defers = [] := by
              have := hf'.defers
              rw [hd0] at this
              generalize a'.defers = ds at this
              cases this; rfl
            rw [hd0] at h3
            simp only [leaveA] at h3
            split at h3
            · rename_i vs hvs
              cases h3
              obtain ⟨v', h5, h6⟩ := results_ok hHR hf' hvs
              have hpost : CallPost P ρ B w0 (dedupe l') (.returned v') w' :=
                ((gcs_ok h.len h4 ⟨_, List.mem_singleton_self _, ρ', v', rfl, hle, hHR, h6⟩).sub h2).dedupe
              have hfr : c₀ :: cs = { c₀ with mode := .returning } :: cs := by rw [← hc0]
              rcases he with he | he
              · rw [he]; exact ⟨hdd, .returning, hfr, v', h5, rfl, hpost⟩
              · rw [he]; exact ⟨hdd, .returning, hfr, v', h5, rfl, hpost⟩
            · cases h3
end
end Go.Am
