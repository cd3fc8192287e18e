/- Contracts of functions, walked. -/
import Derived.Test.YtbpdmnkbehapcaaStRB
import Derived.Test.YtbpdmnkbehapcaaAmS
import Derived.Test.YtbpdmnkbehapcaaAwB
import Derived.Test.YtbpdmnkbehapcaaStRC
import Derived.Test.YtbpdmnkbehapcaaStM8
set_option linter.all false
namespace Go.Proofs.Try
open Go Go.Am Go.RowKit
set_option maxRecDepth 100000


section
variable {H : AHeap} {β : Type} {kk : K β} {other : Unit → Option β} {dst : Option Tmp} {ty : TypeId} {src : String} {af : Array Edge} {g : Option (Nat × Bool)}
@[go_sem] theorem aBin_bool {a b : Bool} : aBin Try.prog .eql 4 (.bool a) (.bool b) H kk other = other () := by
  have h : nilEq Try.prog 4 (.bool a) (.bool b) = none := by kernel_rfl
  simp only [aBin, aEq, h]
noncomputable def eqBV (o : Oper) (ev : Operand → Value) (v u : Value) (H : AHeap) (kk : K β) : Option β := match v, u with
  | .bool a, .bool b => kk (.bool (a == b)) H
  | _, _ => plainRest Try.prog o ev H kk
@[go_sem] theorem eqBV_bool {o : Oper} {ev : Operand → Value} {a b : Bool} : eqBV o ev (.bool a) (.bool b) H kk = kk (.bool (a == b)) H := rfl
@[go_sem] theorem aPlain_eqB {t' : TypeId} {x y : Operand} {ev : Operand → Value} : aPlain Try.prog ⟨dst, .binOp .eql 4 x y t', ty, src, af, g⟩ ev H kk = eqBV ⟨dst, .binOp .eql 4 x y t', ty, src, af, g⟩ ev (ev x) (ev y) H kk := by
  unfold eqBV
  split
  · rename_i a b hx hy
    rw [plain_of rfl]
    have e1 : ((Op.binOp .eql 4 x y t').operands.toList.all fun x => plainV 6 (ev x)) = true := by
      show ([x, y].all fun x => plainV 6 (ev x)) = true
      simp [hx, hy]
      exact ⟨rfl, rfl⟩
    rw [if_pos e1]
    have e2 : pureOf Try.prog (execOp ev ⟨dst, .binOp .eql 4 x y t', ty, src, af, g⟩) = some (.value (.bool (a == b))) := by
      simp only [execOp, hx, hy]
      kernel_rfl
    rw [e2]
    rfl
  · rfl
end
theorem head_s {loops : List (Nat × LInfo)} {H : AHeap} : CallS Try.prog loops 11 [] H fun r H' => r = .bool true ∧ H' = H := CallS.of_calls rfl rfl sanity_calls

def Tour.few (t : Tour) : Bool := decide (t.closed.length ≤ 70) && (decide (t.flaws.length ≤ 8) || (decide (40 < t.flaws.length) && decide (t.flaws.length ≤ 50)))

theorem few_s {loops : List (Nat × LInfo)} {H : AHeap} {v : Value} {t : Tour} (hv : TourV H v t) : CallS Try.prog loops 12 [v] H fun r H' => r = .bool t.few ∧ H' = H := by
  refine CallS.forget (R := fun r => r = .bool t.few) (by rintro v rfl; rfl) ?_
  obtain ⟨cv, fv, rfl, hc, hf⟩ := hv
  obtain ⟨hcl, ca, cc, rfl⟩ := hc.slice
  obtain ⟨hfl, fa, fc, rfl⟩ := hf.slice
  unfold Tour.few
  clear hc hf
  refine CallS.enter' Try.func12 rfl Try.ntmps12 (by simp) fun f hd hf => ?_
  have f0 := hf 0
  simp at f0
  clear hf
  repeat' (first|(with_reducible first|refine zA ?_|refine zB fun K hK=>?_|refine zC fun K2 hK2=>?_|refine zD ?_|refine zE ?_|refine zF ?_|refine zG ?_|refine zH ?_|refine zI ?_|refine zM ?_|refine zN ?_|refine zO ?_|refine zP ?_|refine zQ ?_|refine zR ?_)|((with_reducible refine zU (hK _ _ ?_));clear hK K)|((with_reducible refine zV ?_ ?_ fun K1 K3 d hdst h1 h3=>?_);rfl;exact yB rfl;cases hdst;go_simp)|((with_reducible refine zW fun K1 K3 h1 h3=>?_);go_simp)|((first|refine h1 ?_|refine h3 ?_);clear h1 h3 K1 K3)|((first|refine zX (fun hb=>h1 ?_) (fun hb=>h3 ?_)|refine zX (fun hb=>h3 ?_) (fun hb=>h1 ?_))<;>(clear h1 h3 K1 K3;(try have hb2:=yC hb);(try have hb2:=yD hb);(try have hb2:=yE hb);(try have hb2:=yF hb);(try have hb2:=yG hb)))|(refine fun (K2:_→AHeap→Prop) hK2=>?_)|((with_reducible refine zY ?_ ?_);decide)|((with_reducible first|refine zZ ?_ (fun K hK=>?_)|refine yA ?_ (fun K hK=>?_));(focus go_simp;done);go_simp;refine hK _ _ ?_;clear hK K)|(go_simp;(try go_bits);refine hK2 _ _ ?_;clear hK2 K2))
  all_goals (refine ⟨?_, (Ext.refl _).push' _⟩; (try (rw [Value.bool.injEq, Bool.eq_iff_iff])); simp_all; try omega)

theorem conv5 {dst : Option Tmp} {x : Operand} {ty : TypeId} {src : String} {af : Array Edge} {g : Option (Nat × Bool)} {a : Int} (ev : Operand → Value) (hx : ev x = .int .u8 a) : pureOf Try.prog (execOp ev ⟨dst, .convert 5 3 x, ty, src, af, g⟩) = some (.value (.int .i64 (IntKind.i64.wrap a))) := by
  simp only [execOp, hx]
  kernel_rfl
def convV {β : Type} (v : Value) (H : AHeap) (kk : K β) (other : Unit → Option β) : Option β := match v with
  | .int .u8 a => kk (.int .i64 (IntKind.i64.wrap a)) H
  | _ => other ()
@[go_sem] theorem convV_u8 {β : Type} {a : Int} {H : AHeap} {kk : K β} {other : Unit → Option β} : convV (.int .u8 a) H kk other = kk (.int .i64 (IntKind.i64.wrap a)) H := rfl
theorem aPlain_conv5 {β : Type} {dst : Option Tmp} {x : Operand} {ty : TypeId} {src : String} {af : Array Edge} {g : Option (Nat × Bool)} {ev : Operand → Value} {H : AHeap} {kk : K β} : aPlain Try.prog ⟨dst, .convert 5 3 x, ty, src, af, g⟩ ev H kk = convV (ev x) H kk fun _ => aPlain Try.prog ⟨dst, .convert 5 3 x, ty, src, af, g⟩ ev H kk := by
  unfold convV
  split
  · rename_i a hx
    rw [plain_of rfl]
    have e1 : ((Op.convert 5 3 x).operands.toList.all fun x => plainV 6 (ev x)) = true := by
      show ([x].all fun x => plainV 6 (ev x)) = true
      simp [hx]
      rfl
    rw [if_pos e1, conv5 ev hx]
    rfl
  · rfl
@[go_sem] theorem opP_conv5 {cx : Cx} {H : AHeap} {f : AF} {k : AF → AHeap → Prop} {dst : Option Tmp} {x : Operand} {ty : TypeId} {src : String} {af : Array Edge} {g : Option (Nat × Bool)} : opP Try.prog cx ⟨dst, .convert 5 3 x, ty, src, af, g⟩ f H k = Holds (convV (f.eval x) H (fun v H' => some (putP cx.sz f dst v fun f' => k f' H')) fun _ => aPlain Try.prog ⟨dst, .convert 5 3 x, ty, src, af, g⟩ f.eval H fun v H' => some (putP cx.sz f dst v fun f' => k f' H')) :=
  opP_convert.trans (congrArg Holds aPlain_conv5)
def CutOk (H : AHeap) (v : Value) : Prop := ∀ b o sp n c, v = .slice (some ⟨b, o, sp⟩) n c → 0 < n → sp = none ∧ n ≤ c ∧ elemIsR H b 3 = true
end Go.Proofs.Try
namespace Go.Proofs.Try
open Go Go.Am Go.RowKit
set_option maxRecDepth 100000


end Go.Proofs.Try
namespace Go.Proofs.Try
open Go Go.Am Go.RowKit
set_option maxRecDepth 100000

@[go_sem] theorem get_at9 {H : AHeap} {o : AObj} {i : Nat} (h : i = H.n) : (H.push o).get i = o := by rw [h, AHeap.get_push_new]
@[go_sem] theorem get_lt9 {H : AHeap} {o : AObj} {i : Nat} (h : i < H.n) : (H.push o).get i = H.get i := AHeap.get_push_old h
@[go_sem] theorem get_up9 {H : AHeap} {o : AObj} {i j : Nat} (h : i < j) : (H.upd j o).get i = H.get i := AHeap.get_upd_ne (by omega)
@[go_sem] theorem get_up9b {H : AHeap} {o : AObj} {i j : Nat} (h : j < i) : (H.upd j o).get i = H.get i := AHeap.get_upd_ne (by omega)
end Go.Proofs.Try
namespace Go.Proofs.Try
open Go Go.Am Go.RowKit
set_option maxRecDepth 100000

@[go_sem] theorem jamV_eq {a b c p : Nat} : jamV a b c p = .func (.func 82) #[] #[.pointer (some ⟨a, 0, none⟩), .pointer (some ⟨b, 0, none⟩), .pointer (some ⟨c, 0, none⟩), .pointer (some ⟨p, 0, none⟩)] := rfl
def orElseJ (a : Option (Nat × Nat)) (b : Option (Nat × Nat)) : Option (Nat × Nat) := match a with
  | some x => some x
  | none => b

def Tour.jamHi (t : Tour) (ids : List Int) (lo : Nat) : Nat → Nat → Option (Nat × Nat)
  | 0, _ => none
  | r + 1, hi => if t.isJam ids lo hi = true then some (lo, hi) else t.jamHi ids lo r (hi + 1)
def Tour.jamLo (t : Tour) (ids : List Int) (n : Nat) : Nat → Nat → Option (Nat × Nat)
  | 0, _ => none
  | r + 1, lo => orElseJ (t.jamHi ids lo (n - lo) lo) (t.jamLo ids n r (lo + 1))
def Tour.jam (t : Tour) (ids : List Int) : Option (Nat × Nat) := t.jamLo ids t.days.toNat t.days.toNat 0
end Go.Proofs.Try
namespace Go.Proofs.Try
open Go Go.Am Go.RowKit
set_option maxRecDepth 100000

theorem good_list {t : Tour} {ids : List Int} (he : errList t ids = 0) : Good t ∧ t.listed ids = true := by
  unfold errList at he
  split at he
  · rename_i h; exact absurd he h
  · rename_i h
    split at he
    · rename_i h2; exact ⟨good_of (by simpa using h), h2⟩
    · cases he

end Go.Proofs.Try
namespace Go.Proofs.Try
open Go Go.Am Go.RowKit
set_option maxRecDepth 100000


theorem jamHi_none {t : Tour} {ids : List Int} {lo : Nat} : ∀ (r hi : Nat), t.jamHi ids lo r hi = none → ∀ j, hi ≤ j → j < hi + r → t.isJam ids lo j = false
  | 0, hi, _, j, h1, h2 => by omega
  | r + 1, hi, h, j, h1, h2 => by
    rw [Tour.jamHi] at h
    split at h
    · cases h
    · rename_i hn
      rcases Nat.eq_or_lt_of_le h1 with rfl | h3
      · simpa using hn
      · exact jamHi_none r (hi + 1) h j h3 (by omega)
theorem jamLo_none {t : Tour} {ids : List Int} {n : Nat} : ∀ (r lo : Nat), t.jamLo ids n r lo = none → ∀ k j, lo ≤ k → k < lo + r → k ≤ j → j < n → t.isJam ids k j = false
  | 0, lo, _, k, j, h1, h2, _, _ => by omega
  | r + 1, lo, h, k, j, h1, h2, h3, h4 => by
    rw [Tour.jamLo] at h
    unfold orElseJ at h
    split at h
    · cases h
    · rename_i hn
      rcases Nat.eq_or_lt_of_le h1 with rfl | h5
      · exact jamHi_none _ _ hn j h3 (by omega)
      · exact jamLo_none r (lo + 1) h k j h5 (by omega) h3 h4
theorem jam_none {t : Tour} {ids : List Int} (h : t.jam ids = none) (lo hi : Int) : t.isJam ids lo hi = false := by
  by_cases hs : t.isSpan lo hi = true
  · simp only [Tour.isSpan, Tour.isDay, Bool.and_eq_true, win_iff, decide_eq_true_eq] at hs
    obtain ⟨a, rfl⟩ := Int.eq_ofNat_of_zero_le (show 0 ≤ lo by omega)
    obtain ⟨b, rfl⟩ := Int.eq_ofNat_of_zero_le (show 0 ≤ hi by omega)
    exact jamLo_none _ _ h a b (by omega) (by omega) (by omega) (by omega)
  · have : t.isSpan lo hi = false := by simpa using hs
    rw [Tour.isJam, this]; rfl
section
variable {P : Program} {H : AHeap} {K : Value → AHeap → Prop} {t e : TypeId} {size : Nat} {q : IntKind} {b o n c : Nat} {l : List Value}
end
end Go.Proofs.Try
namespace Go.Proofs.Try
open Go Go.Am Go.RowKit
set_option maxRecDepth 100000


theorem cntP_put {P Q : Nat → Bool} {d : Nat} : ∀ n, d < n → P d = true → Q d = false → (∀ e, e ≠ d → Q e = P e) → cntP Q n < cntP P n
  | 0, h, _, _, _ => absurd h (Nat.not_lt_zero d)
  | n + 1, h, hP, hQ, he => by
    rw [cntP_succ, cntP_succ]
    rcases Nat.lt_or_ge d n with h1 | h1
    · have := cntP_put n h1 hP hQ he
      rw [he n (by omega)]; omega
    · have hdn : d = n := by omega
      subst hdn
      have : cntP Q d = cntP P d := by
        unfold cntP
        congr 1
        refine List.filter_congr fun i hi => ?_
        have := List.mem_range.1 hi
        exact he i (by omega)
      rw [this, hP, hQ]; simp

theorem trail_exists {fls : List Flaw} {D0 D : Nat → Int} {x : Nat} (hp : PlanD fls D0 D) (hx : ¬ Has D x) : ∀ (n : Nat) (L : List Nat) (T : Nat → Int), cntP (fun d => T d == -1) 120 ≤ n → TrP fls D0 D x L T → ∃ L' T' fr, TrEnd fls D0 D x L' T' fr := by
  intro n
  induction n with
  | zero =>
    intro L T hn h
    refine ⟨L, T, -1, h.tr, h.lt, .inl ⟨rfl, h.full fun j hj l hl d hc => ?_⟩⟩
    rcases h.tr.tkr d with h1 | ⟨i, h1⟩
    · exfalso
      have : d ∈ (List.range 120).filter (fun d => T d == -1) := List.mem_filter.2 ⟨List.mem_range.2 hc.2.1, by simpa using h1⟩
      have := List.length_pos_of_mem this
      unfold cntP at hn; omega
    · omega
  | succ n ih =>
    intro L T hn h
    by_cases hall : ∀ j, j < L.length → ∀ l, L[j]? = some l → ∀ d, canD fls D0 l d → 0 ≤ T d
    · exact ⟨L, T, -1, h.tr, h.lt, .inl ⟨rfl, h.full hall⟩⟩
    · have hall2 : ∃ j l d : Nat, L[j]? = some l ∧ canD fls D0 l d ∧ T d = -1 := by
        refine Classical.byContradiction fun hc => hall fun j _ l hl d hd => ?_
        rcases h.tr.tkr d with h1 | ⟨i, h1⟩
        · exact absurd ⟨j, l, d, hl, hd, h1⟩ hc
        · omega
      obtain ⟨j, l, d, hl, hd, hT⟩ := hall2
      rcases hp.val d hd.2.1 with h1 | h1 | ⟨g, h1, -⟩
      · exact absurd ((hp.closed d).1 h1) hd.2.2.1
      · exact ⟨_, _, _, h.free hl hd h1⟩
      · refine ih (L ++ [g]) (putI T d l) ?_ (h.more hp hx hl hd hT h1)
        have := cntP_put (P := fun d => T d == -1) (Q := fun e => putI T d l e == -1) (d := d) 120 hd.2.1 (by simpa using hT) (by simp [putI_same]) (fun e he => by simp only [putI_ne he])
        omega
theorem added_of_moving {fls : List Flaw} {D0 D : Nat → Int} {x : Nat} {L : List Nat} {T : Nat → Int} (ht : Trail (canD fls D0) D x L T) (hp : PlanD fls D0 D) (hx : ¬ Has D x) : ∀ (n j : Nat) (C : Nat → Int) (day : Nat), j ≤ n → Moving fls D0 D x L T C day j → ∃ C', Added fls D0 D x C' := by
  intro n
  induction n with
  | zero =>
    intro j C day hj h
    obtain ⟨l, hl⟩ := h.idx
    by_cases hw : ∀ d, d < 120 → C d ≠ (l : Int)
    · exact ⟨_, h.last ht hl hw⟩
    · exfalso
      refine hw fun d hd hc => ?_
      obtain ⟨j', h1, -⟩ := h.next ht hp hx hl hc hd
      omega
  | succ n ih =>
    intro j C day hj h
    obtain ⟨l, hl⟩ := h.idx
    by_cases hw : ∀ d, d < 120 → C d ≠ (l : Int)
    · exact ⟨_, h.last ht hl hw⟩
    · have hw2 : ∃ d, d < 120 ∧ C d = (l : Int) := Classical.byContradiction fun hc => hw fun d hd he => hc ⟨d, hd, he⟩
      obtain ⟨d, hd, hc⟩ := hw2
      obtain ⟨j', h1, h2⟩ := h.next ht hp hx hl hc hd
      exact ih j' _ d (by omega) h2
theorem min_exists {α : Type} (f : α → Int) : ∀ (l : List α), l ≠ [] → ∃ y, y ∈ l ∧ ∀ i, i ∈ l → f y ≤ f i
  | [], h => absurd rfl h
  | [a], _ => ⟨a, by simp, fun i hi => by simp at hi; subst hi; exact Int.le_refl _⟩
  | a :: b :: l, _ => by
    obtain ⟨y, h1, h2⟩ := min_exists f (b :: l) (by simp)
    by_cases h : f a ≤ f y
    · refine ⟨a, by simp, fun i hi => ?_⟩
      rcases List.mem_cons.1 hi with rfl | hi
      · exact Int.le_refl _
      · exact Int.le_trans h (h2 i hi)
    · refine ⟨y, List.mem_cons_of_mem _ h1, fun i hi => ?_⟩
      rcases List.mem_cons.1 hi with rfl | hi
      · omega
      · exact h2 i hi
theorem added_exists {fls : List Flaw} {D0 D : Nat → Int} {x : Nat} (hp : PlanD fls D0 D) (hx : x < fls.length) (hn : ¬ Has D x) (hb : BestOf (canD fls D0) (meritN fls) D x) : ∃ C, Added fls D0 D x C := by
  obtain ⟨L, T, fr, htr, hlt, h⟩ := trail_exists hp hn _ _ _ (Nat.le_refl _) (TrP.first (D := D) (D0 := D0) hx)
  rcases h with ⟨-, hf⟩ | ⟨d, l, -, hd, hT, hD⟩
  · obtain ⟨y, hy, hmin⟩ := min_exists (meritN fls) L (fun h => by have := htr.head; rw [h] at this; cases this)
    by_cases hyx : y = x
    · subst hyx
      exact ⟨D, Added.self htr hp hb hf hn hmin⟩
    · rcases htr.src y hy with e | ⟨d, hd, -⟩
      · exact absurd e hyx
      · obtain ⟨j, hm⟩ := Moving.other htr hp hb hf hn hy hmin hd
        exact added_of_moving htr hp hn _ _ _ _ (Nat.le_refl _) hm
  · obtain ⟨j, hm⟩ := Moving.free htr hp hb hd hT hD
    exact added_of_moving htr hp hn _ _ _ _ (Nat.le_refl _) hm
theorem plan_exists {fls : List Flaw} {D0 D : Nat → Int} (hp : PlanD fls D0 D) (hn : ∀ i, ¬ Has D i) : ∀ k, k ≤ fls.length → ∃ C, PlanD fls D0 C ∧ BestOf (canD fls D0) (meritN fls) C k ∧ ∀ i, Has C i → i < k
  | 0, _ => ⟨D, hp, best_none hp, fun i hi => absurd hi (hn i)⟩
  | k + 1, h => by
    obtain ⟨C, h1, h2, h3⟩ := plan_exists hp hn k (by omega)
    obtain ⟨C', ha⟩ := added_exists h1 h (fun h => Nat.lt_irrefl k (h3 k h)) h2
    refine ⟨C', ha.plan, ha.best, fun i hi => ?_⟩
    rcases ha.has i hi with h4 | h4
    · exact Nat.lt_succ_of_lt (h3 i h4)
    · omega

def reM (g : Int → Int) (fls : List Flaw) : List Flaw := fls.map fun a => ⟨a.id, a.lo, a.hi, g a.id⟩
theorem reM_get {g : Int → Int} {fls : List Flaw} {i : Nat} (h : i < fls.length) : (reM g fls).getD i nowhere = ⟨(fls[i]).id, (fls[i]).lo, (fls[i]).hi, g (fls[i]).id⟩ := by
  rw [List.getD_eq_getElem?_getD, List.getElem?_eq_getElem (by simpa [reM] using h)]
  simp [reM]
theorem reM_can {g : Int → Int} {fls : List Flaw} {D0 : Nat → Int} : canD (reM g fls) D0 = canD fls D0 := by
  funext i d
  have hl : (reM g fls).length = fls.length := by simp [reM]
  unfold canD
  rw [hl]
  by_cases h : i < fls.length
  · rw [reM_get h, getD_in h]
  · simp [h]
theorem reM_merit {g : Int → Int} {fls : List Flaw} {i : Nat} (h : i < fls.length) : meritN (reM g fls) i = g (fls[i]).id := by rw [meritN, reM_get h]
theorem reM_plan {g : Int → Int} {fls : List Flaw} {D0 D : Nat → Int} (h : PlanD fls D0 D) : PlanD (reM g fls) D0 D := by
  have hl : (reM g fls).length = fls.length := by simp [reM]
  exact ⟨h.closed, by rw [hl]; exact h.val, h.out, by rw [reM_can]; exact h.mat⟩
theorem reM_unplan {g : Int → Int} {fls : List Flaw} {D0 D : Nat → Int} (h : PlanD (reM g fls) D0 D) : PlanD fls D0 D := by
  have hl : (reM g fls).length = fls.length := by simp [reM]
  exact ⟨h.closed, by rw [← hl]; exact h.val, h.out, by rw [← reM_can (g := g)]; exact h.mat⟩
theorem best_exists (t : Tour) (g : Int → Int) : ∃ C, PlanD t.flaws t.D0 C ∧ BestOf (canD t.flaws t.D0) (meritN (reM g t.flaws)) C t.flaws.length := by
  have hl : (reM g t.flaws).length = t.flaws.length := by simp [reM]
  obtain ⟨C, h1, h2, -⟩ := plan_exists (reM_plan (g := g) (planD0 t)) (noD0 t) _ (Nat.le_refl _)
  rw [hl, reM_can] at h2
  exact ⟨C, reM_unplan h1, h2⟩
end Go.Proofs.Try
namespace Go.Proofs.Try
open Go Go.Am Go.RowKit
set_option maxRecDepth 100000


theorem D0_lt {t : Tour} {d : Nat} (h : t.D0 d ≠ -2) : d < 60 := by
  unfold Tour.D0 dayD at h
  split at h
  · rename_i h1
    have := h1.1
    simp at this
    exact this
  · exact absurd rfl h
theorem openGo_nodup (D : Nat → Int) : ∀ r i, (openGo D r i).Nodup
  | 0, _ => .nil
  | r + 1, i => by
    rw [openGo]
    split
    · exact openGo_nodup D r (i + 1)
    · refine List.nodup_cons.2 ⟨fun h => ?_, openGo_nodup D r (i + 1)⟩
      obtain ⟨j, h1, h2, h3, h4⟩ := openGo_mem2 D r (i + 1) _ h
      injection h4 with _ h5
      omega
theorem room_go (t : Tour) (lo hi : Int) : t.room lo hi = (openGo t.D0 (hi.toNat + 1 - lo.toNat) lo.toNat).length := by
  have h0 : openGo t.D0 (hi.toNat + 1 - lo.toNat) (60 + lo.toNat) = [] := by
    rw [List.eq_nil_iff_forall_not_mem]
    intro v hv
    obtain ⟨j, h1, h2, h3, h4⟩ := openGo_mem2 _ _ _ _ hv
    have := D0_lt h3
    omega
  show (openFrom t.D0 (hi.toNat + 1 - lo.toNat) lo.toNat 0).length = _
  rw [openFrom, h0, List.append_nil]

theorem trail_span {t : Tour} {C : Nat → Int} {u : Nat} {L : List Nat} {T : Nat → Int} (hp : PlanD t.flaws t.D0 C) (ht : Trail (canD t.flaws t.D0) C u L T) : ∀ (n j : Nat) (l : Nat), j < n → L[j]? = some l → ∀ q d : Int, loN t.flaws l ≤ q → q ≤ hiN t.flaws l → (loN t.flaws u ≤ d ∧ d ≤ q ∨ q ≤ d ∧ d ≤ loN t.flaws u) → ∃ l', l' ∈ L ∧ loN t.flaws l' ≤ d ∧ d ≤ hiN t.flaws l' := by
  intro n
  induction n with
  | zero => intro j l hj; exact absurd hj (Nat.not_lt_zero j)
  | succ n ih =>
    intro j l hj hl q d hq1 hq2 hd
    rcases ht.src l (List.mem_of_getElem? hl) with e | ⟨e, h1, h2⟩
    · subst e
      exact ⟨l, List.mem_of_getElem? hl, by omega, by omega⟩
    · rcases ht.tkr e with h3 | ⟨i, h3⟩
      · omega
      · obtain ⟨h4, j1, h5, h6⟩ := ht.take e i h3
        obtain ⟨j2, h7, h8⟩ := h6 l h1
        have h9 := nodup_idx ht.nodup h8 hl
        subst h9
        obtain ⟨-, -, c1, c2, c3⟩ := h4
        obtain ⟨-, -, -, c4, c5⟩ := hp.mat.ok e l h1
        have h60 := D0_lt c1
        rw [show e % 60 = e by omega] at c2 c3 c4 c5
        have c2' : loN t.flaws i ≤ (e : Int) := c2
        have c3' : (e : Int) ≤ hiN t.flaws i := c3
        have c4' : loN t.flaws l ≤ (e : Int) := c4
        have c5' : (e : Int) ≤ hiN t.flaws l := c5
        by_cases hb : loN t.flaws u ≤ d ∧ d ≤ (e : Int) ∨ (e : Int) ≤ d ∧ d ≤ loN t.flaws u
        · exact ih j1 i (by omega) h5 e d c2' c3' hb
        · exact ⟨l, List.mem_of_getElem? hl, by omega, by omega⟩
theorem hull_cover {t : Tour} {C : Nat → Int} {u : Nat} {L : List Nat} {T : Nat → Int} {lo hi : Int} (hp : PlanD t.flaws t.D0 C) (hle : ∀ l, l ∈ L → loN t.flaws l ≤ hiN t.flaws l) (h : FullFor t.flaws t.D0 C u lo hi L T) (d : Int) (h1 : lo ≤ d) (h2 : d ≤ hi) : ∃ l', l' ∈ L ∧ loN t.flaws l' ≤ d ∧ d ≤ hiN t.flaws l' := by
  obtain ⟨a, ha, hla⟩ := h.lo1
  obtain ⟨b, hb, hhb⟩ := h.hi1
  obtain ⟨ja, hja, hja2⟩ := List.mem_iff_getElem.1 ha
  obtain ⟨jb, hjb, hjb2⟩ := List.mem_iff_getElem.1 hb
  have hle1 := hle a ha
  have hle2 := hle b hb
  by_cases hd : d ≤ loN t.flaws u
  · exact trail_span hp h.tr (ja + 1) ja a (Nat.lt_succ_self _) (by rw [List.getElem?_eq_getElem hja, hja2]) (loN t.flaws a) d (Int.le_refl _) hle1 (.inr ⟨by omega, hd⟩)
  · exact trail_span hp h.tr (jb + 1) jb b (Nat.lt_succ_self _) (by rw [List.getElem?_eq_getElem hjb, hjb2]) (hiN t.flaws b) d hle2 (Int.le_refl _) (.inl ⟨by omega, by omega⟩)
def holder (C : Nat → Int) (v : Value) : Int := match v with
  | .int _ d => C d.toNat
  | _ => -1
theorem hull_room {t : Tour} {C : Nat → Int} {u : Nat} {L : List Nat} {T : Nat → Int} {lo hi : Int} (hp : PlanD t.flaws t.D0 C) (hn : ¬ Has C u) (hle : ∀ l, l ∈ L → loN t.flaws l ≤ hiN t.flaws l) (h0 : 0 ≤ lo) (h : FullFor t.flaws t.D0 C u lo hi L T) : t.room lo hi < L.length := by
  have huL : u ∈ L := List.mem_of_getElem? h.tr.head
  have hlh : lo ≤ hi := Int.le_trans (h.lo2 u huL) (Int.le_trans (hle u huL) (h.hi2 u huL))
  have hheld : ∀ v, v ∈ openGo t.D0 (hi.toNat + 1 - lo.toNat) lo.toNat → ∃ (d g : Nat), v = .int .i64 (d : Int) ∧ C d = (g : Int) ∧ g ∈ L ∧ g ≠ u := by
    intro v hv
    obtain ⟨d, h1, h2, h3, rfl⟩ := openGo_mem2 _ _ _ _ hv
    have h60 := D0_lt h3
    obtain ⟨l, hl, hl1, hl2⟩ := hull_cover hp hle h (d : Int) (by omega) (by omega)
    have hc : canD t.flaws t.D0 l d := ⟨h.lt l hl, by omega, h3, by rw [show d % 60 = d by omega]; exact hl1, by rw [show d % 60 = d by omega]; exact hl2⟩
    obtain ⟨g, hg, hgL⟩ := h.full.days l hl d hc
    exact ⟨d, g, rfl, hg, hgL, fun e => hn ⟨d, by rw [hg, e]⟩⟩
  have key := nodup_le ((openGo t.D0 (hi.toNat + 1 - lo.toNat) lo.toNat).map (holder C)) ((L.erase u).map fun l : Nat => (l : Int)) ?_ ?_
  · rw [List.length_map, List.length_map, List.length_erase_of_mem huL] at key
    rw [room_go]
    have := List.length_pos_of_mem huL
    omega
  · rw [List.nodup_iff_pairwise_ne, List.pairwise_map]
    have hpw := openGo_nodup t.D0 (hi.toNat + 1 - lo.toNat) lo.toNat
    rw [List.nodup_iff_pairwise_ne] at hpw
    refine List.Pairwise.imp_of_mem (fun {a b} ha hb hab he => hab ?_) hpw
    obtain ⟨d, g, rfl, h1, -, -⟩ := hheld a ha
    obtain ⟨e, g2, rfl, h2, -, -⟩ := hheld b hb
    simp only [holder, Int.toNat_natCast] at he
    rw [hp.mat.one d e g h1 (by omega)]
  · intro z hz
    obtain ⟨v, hv, rfl⟩ := List.mem_map.1 hz
    obtain ⟨d, g, rfl, h1, h2, h3⟩ := hheld v hv
    simp only [holder, Int.toNat_natCast, h1]
    exact List.mem_map.2 ⟨g, (List.mem_erase_of_ne h3).2 h2, rfl⟩
end Go.Proofs.Try
