/- Contracts of functions, walked. -/
import Derived.Test.YtbpdmnkbehapcaaStRB
import Derived.Test.YtbpdmnkbehapcaaAmS
import Derived.Test.YtbpdmnkbehapcaaAwB
import Derived.Test.YtbpdmnkbehapcaaStRC
import Derived.Test.YtbpdmnkbehapcaaStM8
set_option linter.all false
namespace Go.Proofs.Try
open Go Go.Am Go.RowKit
set_option maxRecDepth 100000


section
variable {H : AHeap} {β : Type} {kk : K β} {other : Unit → Option β} {dst : Option Tmp} {ty : TypeId} {src : String} {af : Array Edge} {g : Option (Nat × Bool)}
@[go_sem] theorem aBin_bool {a b : Bool} : aBin Try.prog .eql 4 (.bool a) (.bool b) H kk other = other () := by
  have h : nilEq Try.prog 4 (.bool a) (.bool b) = none := by kernel_rfl
  simp only [aBin, aEq, h]
noncomputable def eqBV (o : Oper) (ev : Operand → Value) (v u : Value) (H : AHeap) (kk : K β) : Option β := match v, u with
  | .bool a, .bool b => kk (.bool (a == b)) H
  | _, _ => plainRest Try.prog o ev H kk
@[go_sem] theorem eqBV_bool {o : Oper} {ev : Operand → Value} {a b : Bool} : eqBV o ev (.bool a) (.bool b) H kk = kk (.bool (a == b)) H := rfl
@[go_sem] theorem aPlain_eqB {t' : TypeId} {x y : Operand} {ev : Operand → Value} : aPlain Try.prog ⟨dst, .binOp .eql 4 x y t', ty, src, af, g⟩ ev H kk = eqBV ⟨dst, .binOp .eql 4 x y t', ty, src, af, g⟩ ev (ev x) (ev y) H kk := by
  unfold eqBV
  split
  · rename_i a b hx hy
    rw [plain_of rfl]
    have e1 : ((Op.binOp .eql 4 x y t').operands.toList.all fun x => plainV 6 (ev x)) = true := by
      show ([x, y].all fun x => plainV 6 (ev x)) = true
      simp [hx, hy]
      exact ⟨rfl, rfl⟩
    rw [if_pos e1]
    have e2 : pureOf Try.prog (execOp ev ⟨dst, .binOp .eql 4 x y t', ty, src, af, g⟩) = some (.value (.bool (a == b))) := by
      simp only [execOp, hx, hy]
      kernel_rfl
    rw [e2]
    rfl
  · rfl
end
theorem head_s {loops : List (Nat × LInfo)} {H : AHeap} : CallS Try.prog loops 11 [] H fun r H' => r = .bool true ∧ H' = H := CallS.of_calls rfl rfl sanity_calls

def Tour.few (t : Tour) : Bool := decide (t.closed.length ≤ 70) && (decide (t.flaws.length ≤ 8) || (decide (40 < t.flaws.length) && decide (t.flaws.length ≤ 50)))

theorem few_s {loops : List (Nat × LInfo)} {H : AHeap} {v : Value} {t : Tour} (hv : TourV H v t) : CallS Try.prog loops 12 [v] H fun r H' => r = .bool t.few ∧ H' = H := by
  refine CallS.forget (R := fun r => r = .bool t.few) (by rintro v rfl; rfl) ?_
  obtain ⟨cv, fv, rfl, hc, hf⟩ := hv
  obtain ⟨hcl, ca, cc, rfl⟩ := hc.slice
  obtain ⟨hfl, fa, fc, rfl⟩ := hf.slice
  unfold Tour.few
  clear hc hf
  refine CallS.enter' Try.func12 rfl Try.ntmps12 (by simp) fun f hd hf => ?_
  have f0 := hf 0
  simp at f0
  clear hf
  repeat' (first|(with_reducible first|refine zA ?_|refine zB fun K hK=>?_|refine zC fun K2 hK2=>?_|refine zD ?_|refine zE ?_|refine zF ?_|refine zG ?_|refine zH ?_|refine zI ?_|refine zM ?_|refine zN ?_|refine zO ?_|refine zP ?_|refine zQ ?_|refine zR ?_)|((with_reducible refine zU (hK _ _ ?_));clear hK K)|((with_reducible refine zV ?_ ?_ fun K1 K3 d hdst h1 h3=>?_);rfl;exact yB rfl;cases hdst;go_simp)|((with_reducible refine zW fun K1 K3 h1 h3=>?_);go_simp)|((first|refine h1 ?_|refine h3 ?_);clear h1 h3 K1 K3)|((first|refine zX (fun hb=>h1 ?_) (fun hb=>h3 ?_)|refine zX (fun hb=>h3 ?_) (fun hb=>h1 ?_))<;>(clear h1 h3 K1 K3;(try have hb2:=yC hb);(try have hb2:=yD hb);(try have hb2:=yE hb);(try have hb2:=yF hb);(try have hb2:=yG hb)))|(refine fun (K2:_→AHeap→Prop) hK2=>?_)|((with_reducible refine zY ?_ ?_);decide)|((with_reducible first|refine zZ ?_ (fun K hK=>?_)|refine yA ?_ (fun K hK=>?_));(focus go_simp;done);go_simp;refine hK _ _ ?_;clear hK K)|(go_simp;(try go_bits);refine hK2 _ _ ?_;clear hK2 K2))
  all_goals (refine ⟨?_, (Ext.refl _).push' _⟩; (try (rw [Value.bool.injEq, Bool.eq_iff_iff])); simp_all; try omega)

theorem conv5 {dst : Option Tmp} {x : Operand} {ty : TypeId} {src : String} {af : Array Edge} {g : Option (Nat × Bool)} {a : Int} (ev : Operand → Value) (hx : ev x = .int .u8 a) : pureOf Try.prog (execOp ev ⟨dst, .convert 5 3 x, ty, src, af, g⟩) = some (.value (.int .i64 (IntKind.i64.wrap a))) := by
  simp only [execOp, hx]
  kernel_rfl
def convV {β : Type} (v : Value) (H : AHeap) (kk : K β) (other : Unit → Option β) : Option β := match v with
  | .int .u8 a => kk (.int .i64 (IntKind.i64.wrap a)) H
  | _ => other ()
@[go_sem] theorem convV_u8 {β : Type} {a : Int} {H : AHeap} {kk : K β} {other : Unit → Option β} : convV (.int .u8 a) H kk other = kk (.int .i64 (IntKind.i64.wrap a)) H := rfl
theorem aPlain_conv5 {β : Type} {dst : Option Tmp} {x : Operand} {ty : TypeId} {src : String} {af : Array Edge} {g : Option (Nat × Bool)} {ev : Operand → Value} {H : AHeap} {kk : K β} : aPlain Try.prog ⟨dst, .convert 5 3 x, ty, src, af, g⟩ ev H kk = convV (ev x) H kk fun _ => aPlain Try.prog ⟨dst, .convert 5 3 x, ty, src, af, g⟩ ev H kk := by
  unfold convV
  split
  · rename_i a hx
    rw [plain_of rfl]
    have e1 : ((Op.convert 5 3 x).operands.toList.all fun x => plainV 6 (ev x)) = true := by
      show ([x].all fun x => plainV 6 (ev x)) = true
      simp [hx]
      rfl
    rw [if_pos e1, conv5 ev hx]
    rfl
  · rfl
@[go_sem] theorem opP_conv5 {cx : Cx} {H : AHeap} {f : AF} {k : AF → AHeap → Prop} {dst : Option Tmp} {x : Operand} {ty : TypeId} {src : String} {af : Array Edge} {g : Option (Nat × Bool)} : opP Try.prog cx ⟨dst, .convert 5 3 x, ty, src, af, g⟩ f H k = Holds (convV (f.eval x) H (fun v H' => some (putP cx.sz f dst v fun f' => k f' H')) fun _ => aPlain Try.prog ⟨dst, .convert 5 3 x, ty, src, af, g⟩ f.eval H fun v H' => some (putP cx.sz f dst v fun f' => k f' H')) :=
  opP_convert.trans (congrArg Holds aPlain_conv5)
def CutOk (H : AHeap) (v : Value) : Prop := ∀ b o sp n c, v = .slice (some ⟨b, o, sp⟩) n c → 0 < n → sp = none ∧ n ≤ c ∧ elemIsR H b 3 = true
end Go.Proofs.Try
namespace Go.Proofs.Try
open Go Go.Am Go.RowKit
set_option maxRecDepth 100000


end Go.Proofs.Try
namespace Go.Proofs.Try
open Go Go.Am Go.RowKit
set_option maxRecDepth 100000

theorem intsL_one {H : AHeap} {n : Nat} {cv : Value} {l : List Int} (h : cellAt H n 0 = some cv) (hn : n < H.n) (hi : Ints H cv l) : IntsL H (.slice (some ⟨n, 0, none⟩) 1 1) [l] :=
  ⟨[cv], rfl, ⟨rfl, (show 1 ≤ 9223372036854775807 by omega), _, _, rfl, (fun h => by cases h), fun _ => ⟨n, 0, none, rfl, hn, fun j u hu => by
    match j, hu with
    | 0, hu => cases hu; exact h⟩⟩, fun i hlt u hu => by
    match i, hlt, hu with
    | 0, _, hu => cases hu; exact hi⟩

@[go_sem] theorem get_at9 {H : AHeap} {o : AObj} {i : Nat} (h : i = H.n) : (H.push o).get i = o := by rw [h, AHeap.get_push_new]
@[go_sem] theorem get_lt9 {H : AHeap} {o : AObj} {i : Nat} (h : i < H.n) : (H.push o).get i = H.get i := AHeap.get_push_old h
@[go_sem] theorem get_up9 {H : AHeap} {o : AObj} {i j : Nat} (h : i < j) : (H.upd j o).get i = H.get i := AHeap.get_upd_ne (by omega)
@[go_sem] theorem get_up9b {H : AHeap} {o : AObj} {i j : Nat} (h : j < i) : (H.upd j o).get i = H.get i := AHeap.get_upd_ne (by omega)
theorem jam_fin {H F : AHeap} {a b c p : Nat} {t : Tour} {ids : List Int} (hx : Ext H F) (h : Ext H F → JamAt F a b c p t ids) : ∃ a' b' c' p', Value.func (.func 82) #[] #[.pointer (some ⟨a, 0, none⟩), .pointer (some ⟨b, 0, none⟩), .pointer (some ⟨c, 0, none⟩), .pointer (some ⟨p, 0, none⟩)] = jamV a' b' c' p' ∧ JamAt F a' b' c' p' t ids ∧ Ext H F := ⟨a, b, c, p, rfl, h hx, hx⟩
set_option maxHeartbeats 8000000 in
theorem jamsOf_e {loops : List (Nat × LInfo)} {H : AHeap} {v lv : Value} {t : Tour} {ids : List Int} (hv : TourV H v t) (hl : Ints H lv ids) (hg : Good t) :
    CallS Try.prog loops 51 [v, lv] H fun r H' => ∃ a b c p, r = jamV a b c p ∧ JamAt H' a b c p t ids ∧ Ext H H' := by
  have HV := Lib.hid hv
  have HL := Lib.hid hl
  have HG := Lib.hid hg
  obtain ⟨cv, fv, rfl, hc, hf⟩ := hv
  obtain ⟨hcl, ca, cc, rfl⟩ := hc.slice
  obtain ⟨hfl, fa, fc, rfl⟩ := hf.slice
  obtain ⟨hll, la, lc, rfl⟩ := hl.slice
  have HC := Lib.hid hc
  have HF := Lib.hid hf
  have HFW := Lib.hid (Nat.le_trans hg.few (show 40 ≤ 1000 by decide))
  clear hc hf hl hg
  refine CallS.enter' Try.func51 rfl Try.ntmps51 (by simp) fun f hd hf => ?_
  have f0 := hf 0
  have f1 := hf 1
  simp at f0 f1
  clear hf
  repeat' (first|(with_reducible first|refine zA ?_|refine zB fun K hK=>?_|refine zC fun K2 hK2=>?_|refine zD ?_|refine zE ?_|refine zF ?_|refine zG ?_|refine zH ?_|refine zI ?_|refine zM ?_|refine zN ?_|refine zO ?_|refine zP ?_|refine zQ ?_|refine zR ?_)|((with_reducible refine zU (hK _ _ ?_));clear hK K)|((with_reducible refine zV ?_ ?_ fun K1 K3 d hdst h1 h3=>?_);rfl;exact yB rfl;cases hdst;go_simp)|((with_reducible refine zW fun K1 K3 h1 h3=>?_);go_simp)|((first|refine h1 ?_|refine h3 ?_);clear h1 h3 K1 K3)|((first|refine zX (fun hb=>h1 ?_) (fun hb=>h3 ?_)|refine zX (fun hb=>h3 ?_) (fun hb=>h1 ?_))<;>(clear h1 h3 K1 K3;(try have hb2:=yC hb);(try have hb2:=yD hb);(try have hb2:=yE hb);(try have hb2:=yF hb);(try have hb2:=yG hb)))|(refine fun (K2:_→AHeap→Prop) hK2=>?_)|((with_reducible refine zY ?_ ?_);decide)|((with_reducible first|refine zZ ?_ (fun K hK=>?_)|refine yA ?_ (fun K hK=>?_));(focus go_simp;done);go_simp;refine hK _ _ ?_;clear hK K)|((with_reducible refine yH mixed rfl ?_ 20 fun K0 hK0=>?_);kernel_rfl)|(with_reducible first|exact yI|exact yJ|refine yK ?_|refine yL ?_|refine yM ?_)|((with_reducible first|refine yN ?_ ?_|refine yO ?_ ?_|refine yP ?_ ?_);rfl)|((with_reducible refine yQ ?_ ?_);rfl;refine hK0 _ _ ?_;clear hK0 K0)|((with_reducible refine yR ?_ ?_ ?_ ?_);rfl;rfl;rfl)|((with_reducible refine yS ?_ ?_ ?_ fun K2 hK2=>?_);rfl;rfl;exact yB rfl)|((with_reducible refine yT ?_ ?_ ?_ ?_ fun K1 K3 d hdst h1 h3=>?_);rfl;rfl;rfl;exact yB rfl;cases hdst;go_simp)|((with_reducible refine yU ?_ ?_ ?_ ?_ fun K1 K3 d hdst h1 h3=>?_);rfl;rfl;rfl;exact yB rfl;cases hdst;go_simp)|((with_reducible refine yV ?_ ?_ (fun K2 hK2=>?_) ?_);rfl;exact yB rfl)|((with_reducible refine yW ?_ ?_ ?_ ?_ (fun K2 hK2=>?_) ?_);rfl;exact yB rfl;rfl;(focus go_simp;done))|((with_reducible refine yX ?_ ?_ ?_ (fun K2 hK2=>?_) ?_);rfl;rfl;exact yB rfl)|((with_reducible refine yY ?_ ?_ (fun K2 hK2=>?_) ?_);rfl;rfl)|((with_reducible refine yZ ?_ ?_);(first|rfl|(dsimp only;decide +kernel)))|((with_reducible refine xA ?_ ?_);(focus go_simp;done))|(go_simp;(try go_bits);(try first |((with_reducible show CallS _ _ _ _ _ _);first|(refine CallS.mono (planOf_e (sh := [t.closed]) (HV.out.ext (by repeat' (first|exact Ext.refl _|refine Ext.push' ?_ _))) (intsL_one (cv := .slice ca t.closed.length cc) (by go_simp) (by simp only [AHeap.n_push]; omega) (HC.out.ext (by repeat' (first|exact Ext.refl _|refine Ext.push' ?_ _)))) HG.out.days (show 1 ≤ 2 by omega) HFW.out) ?_; rintro _ H2 ⟨⟨ga, gc, rfl, hF2, -⟩, hx2⟩; (have HX2 : Hid (Ext H H2) := Lib.hid (Ext.trans (by repeat' (first|exact Ext.refl _|refine Ext.push' ?_ _)) hx2)); (have h0 : H.n < H2.n := Nat.lt_of_lt_of_le (by simp only [AHeap.n_push]; omega) hx2.n); (have h1 : H.n + 1 < H2.n := Nat.lt_of_lt_of_le (by simp only [AHeap.n_push]; omega) hx2.n); (have hA : H.n + 1 + 1 < H2.n := Nat.lt_of_lt_of_le (by simp only [AHeap.n_push]; omega) hx2.n); (have hB := fun h => Nat.lt_of_lt_of_le (n := H.n + 1 + 1 + 1) h hx2.n); (have hC := fun h => Nat.lt_of_lt_of_le (n := H.n + 1 + 1 + 1 + 1) h hx2.n); (have mA : H.n + 1 + 1 ≠ H2.n := Nat.ne_of_lt hA); (have oA : H2.n ≠ H.n + 1 + 1 := Nat.ne_of_gt hA); (have oB := fun h => Nat.ne_of_gt (Nat.lt_of_lt_of_le (n := H.n + 1 + 1 + 1) h hx2.n)); (have oC := fun h => Nat.ne_of_gt (Nat.lt_of_lt_of_le (n := H.n + 1 + 1 + 1 + 1) h hx2.n)); (have mB := fun h => Nat.ne_of_lt (Nat.lt_of_lt_of_le (n := H.n + 1 + 1 + 1) h hx2.n)); (have mC := fun h => Nat.ne_of_lt (Nat.lt_of_lt_of_le (n := H.n + 1 + 1 + 1 + 1) h hx2.n)); (have hk2 := hx2.get); (have hk2c := fun b o n hb => Ext.cellsAt hx2 (b := b) (o := o) (n := n) hb); (have hk2a := fun b o hb => Ext.cellAt hx2 (b := b) (o := o) hb); simp only [AHeap.n_push] at hk2 hk2c hk2a hB hC mB mC oB oC; (try simp only [Am.lt_one_self, Nat.lt_irrefl, forall_const, false_implies, true_implies] at hB); (try simp only [Am.lt_one_self, Nat.lt_irrefl, forall_const, false_implies, true_implies] at hC); (try simp only [Am.lt_one_self, Nat.lt_irrefl, forall_const, false_implies, true_implies] at mB); (try simp only [Am.lt_one_self, Nat.lt_irrefl, forall_const, false_implies, true_implies] at mC); (try simp only [Am.lt_one_self, Nat.lt_irrefl, forall_const, false_implies, true_implies] at oB); (try simp only [Am.lt_one_self, Nat.lt_irrefl, forall_const, false_implies, true_implies] at oC); clear hx2 hF2)|(refine CallS.mono (indices_e (HV.out.ext (by repeat' (first|exact HX2.out|refine Ext.push' ?_ _))) HG.out.nodup) ?_; rintro _ H3 ⟨rfl, hx3, hn3, hm3⟩; (have HX3 : Hid (Ext H H3) := Lib.hid (Ext.trans (by repeat' (first|exact HX2.out|refine Ext.push' ?_ _)) hx3)); (have HM3 := Lib.hid hm3); (have g0 : H.n < H3.n := Nat.lt_of_lt_of_le (by (try simp only [AHeap.n_push]); omega) hx3.n); (have g1 : H.n + 1 < H3.n := Nat.lt_of_lt_of_le (by (try simp only [AHeap.n_push]); omega) hx3.n); (have gA : H.n + 1 + 1 < H3.n := Nat.lt_of_lt_of_le (by (try simp only [AHeap.n_push]); omega) hx3.n); (have gB := fun h => Nat.lt_of_lt_of_le (n := H.n + 1 + 1 + 1) h hx3.n); (have gC := fun h => Nat.lt_of_lt_of_le (n := H.n + 1 + 1 + 1 + 1) h hx3.n); (have gD := fun h => Nat.lt_of_lt_of_le (n := H2.n) h hx3.n); (have gE := fun h => Nat.lt_of_lt_of_le (n := H2.n + 1) h hx3.n); (have nA : H.n + 1 + 1 ≠ H3.n := Nat.ne_of_lt gA); (have nB := fun h => Nat.ne_of_lt (Nat.lt_of_lt_of_le (n := H.n + 1 + 1 + 1) h hx3.n)); (have nC := fun h => Nat.ne_of_lt (Nat.lt_of_lt_of_le (n := H.n + 1 + 1 + 1 + 1) h hx3.n)); (have nD := fun h => Nat.ne_of_lt (Nat.lt_of_lt_of_le (n := H2.n) h hx3.n)); (have nE := fun h => Nat.ne_of_lt (Nat.lt_of_lt_of_le (n := H2.n + 1) h hx3.n)); (have hk3 := hx3.get); (have hk3c := fun b o n hb => Ext.cellsAt hx3 (b := b) (o := o) (n := n) hb); (have hk3a := fun b o hb => Ext.cellAt hx3 (b := b) (o := o) hb); (try simp only [AHeap.n_push] at hk3 hk3c hk3a gB gC gD gE nB nC nD nE hn3); (try simp only [Am.lt_one_self, Nat.lt_irrefl, forall_const, false_implies, true_implies] at gB); (try simp only [Am.lt_one_self, Nat.lt_irrefl, forall_const, false_implies, true_implies] at gC); (try simp only [Am.lt_one_self, Nat.lt_irrefl, forall_const, false_implies, true_implies] at gD); (try simp only [Am.lt_one_self, Nat.lt_irrefl, forall_const, false_implies, true_implies] at gE); (try simp only [Am.lt_one_self, Nat.lt_irrefl, forall_const, false_implies, true_implies] at nB); (try simp only [Am.lt_one_self, Nat.lt_irrefl, forall_const, false_implies, true_implies] at nC); (try simp only [Am.lt_one_self, Nat.lt_irrefl, forall_const, false_implies, true_implies] at nD); (try simp only [Am.lt_one_self, Nat.lt_irrefl, forall_const, false_implies, true_implies] at nE); clear hx3 hm3))|((refine one_v el65 sz22 ze22 rfl (by decide) (by decide) rfl rfl ?_); go_simp));(first|(refine hK2 _ _ ?_ ?_<;>clear hK2 K2)|(refine hK2 _ _ ?_;clear hK2 K2))))
  all_goals (
    refine jam_fin ?_ fun hxf => ?_
    · repeat' (first | exact HX3.out | refine Ext.push' ?_ _ | (refine Ext.upd ?_ ?_ _; rotate_left; (focus omega)))
    · refine ⟨(by (try simp only [AHeap.n_push, AHeap.n_upd]); omega), (by (try simp only [AHeap.n_push, AHeap.n_upd]); omega), (by (try simp only [AHeap.n_push, AHeap.n_upd]); omega), (by (try simp only [AHeap.n_push, AHeap.n_upd]); omega), ⟨_, _, ?_, HC.out.ext hxf, HF.out.ext hxf⟩, ⟨_, ?_, HL.out.ext hxf⟩, ?_, ?_⟩
      · repeat' (first | exact AHeap.get_upd_same | exact AHeap.get_push_new | (with_reducible rfl) | exact (rfl : H3.get _ = H3.get _) | (refine (AHeap.get_upd_ne ?_).trans ?_; (focus omega)) | (refine (AHeap.get_push_old ?_).trans ?_; (focus ((try simp only [AHeap.n_push, AHeap.n_upd]); omega))) | (refine (hk3 _ ?_).trans ?_; (focus omega)) | (refine (hk2 _ ?_).trans ?_; (focus omega)))
      · repeat' (first | exact AHeap.get_upd_same | exact AHeap.get_push_new | (with_reducible rfl) | exact (rfl : H3.get _ = H3.get _) | (refine (AHeap.get_upd_ne ?_).trans ?_; (focus omega)) | (refine (AHeap.get_push_old ?_).trans ?_; (focus ((try simp only [AHeap.n_push, AHeap.n_upd]); omega))) | (refine (hk3 _ ?_).trans ?_; (focus omega)) | (refine (hk2 _ ?_).trans ?_; (focus omega)))
      · apply Exists.intro
        refine ⟨?_, ?_, ?_⟩
        · repeat' (first | exact AHeap.get_upd_same | exact AHeap.get_push_new | (with_reducible rfl) | exact (rfl : H3.get _ = H3.get _) | (refine (AHeap.get_upd_ne ?_).trans ?_; (focus omega)) | (refine (AHeap.get_push_old ?_).trans ?_; (focus ((try simp only [AHeap.n_push, AHeap.n_upd]); omega))) | (refine (hk3 _ ?_).trans ?_; (focus omega)) | (refine (hk2 _ ?_).trans ?_; (focus omega)))
        · ((try simp only [AHeap.n_push, AHeap.n_upd]); omega)
        · obtain ⟨es, ck, e1, e2⟩ := HM3.out
          refine ⟨es, ck, Eq.trans ?_ e1, e2⟩
          repeat' (first | exact AHeap.get_upd_same | exact AHeap.get_push_new | (with_reducible rfl) | exact (rfl : H3.get _ = H3.get _) | (refine (AHeap.get_upd_ne ?_).trans ?_; (focus omega)) | (refine (AHeap.get_push_old ?_).trans ?_; (focus ((try simp only [AHeap.n_push, AHeap.n_upd]); omega))) | (refine (hk3 _ ?_).trans ?_; (focus omega)) | (refine (hk2 _ ?_).trans ?_; (focus omega)))
      · apply Exists.intro
        repeat' (first | exact AHeap.get_upd_same | exact AHeap.get_push_new | (with_reducible rfl) | exact (rfl : H3.get _ = H3.get _) | (refine (AHeap.get_upd_ne ?_).trans ?_; (focus omega)) | (refine (AHeap.get_push_old ?_).trans ?_; (focus ((try simp only [AHeap.n_push, AHeap.n_upd]); omega))) | (refine (hk3 _ ?_).trans ?_; (focus omega)) | (refine (hk2 _ ?_).trans ?_; (focus omega))))
end Go.Proofs.Try
namespace Go.Proofs.Try
open Go Go.Am Go.RowKit
set_option maxRecDepth 100000

@[go_sem] theorem jamV_eq {a b c p : Nat} : jamV a b c p = .func (.func 82) #[] #[.pointer (some ⟨a, 0, none⟩), .pointer (some ⟨b, 0, none⟩), .pointer (some ⟨c, 0, none⟩), .pointer (some ⟨p, 0, none⟩)] := rfl
theorem st30 : structOk Try.prog 30 = true := by kernel_rfl
def orElseJ (a : Option (Nat × Nat)) (b : Option (Nat × Nat)) : Option (Nat × Nat) := match a with
  | some x => some x
  | none => b

def Tour.jamHi (t : Tour) (ids : List Int) (lo : Nat) : Nat → Nat → Option (Nat × Nat)
  | 0, _ => none
  | r + 1, hi => if t.isJam ids lo hi = true then some (lo, hi) else t.jamHi ids lo r (hi + 1)
def Tour.jamLo (t : Tour) (ids : List Int) (n : Nat) : Nat → Nat → Option (Nat × Nat)
  | 0, _ => none
  | r + 1, lo => orElseJ (t.jamHi ids lo (n - lo) lo) (t.jamLo ids n r (lo + 1))
def Tour.jam (t : Tour) (ids : List Int) : Option (Nat × Nat) := t.jamLo ids t.days.toNat t.days.toNat 0
def jamR (e : Int) (o : Option (Nat × Nat)) : Value := match o with
  | some (lo, hi) => .tuple #[.agg #[.int .i64 lo, .int .i64 hi], .bool true, .int .i64 e]
  | none => .tuple #[.agg #[.int .i64 0, .int .i64 0], .bool false, .int .i64 e]

set_option maxHeartbeats 4000000 in
theorem jam_s {loops : List (Nat × LInfo)} {H : AHeap} {v lv : Value} {t : Tour} {ids : List Int} (hv : TourV H v t) (hl : Ints H lv ids) :
    CallS Try.prog loops 21 [v, lv] H fun r H' => r = jamR (errList t ids) (if errList t ids = 0 then t.jam ids else none) ∧ H' = H := by
  refine CallS.forget (R := fun r => r = jamR (errList t ids) (if errList t ids = 0 then t.jam ids else none)) (by rintro v rfl; cases (if errList t ids = 0 then t.jam ids else none) <;> rfl) ?_
  have HV := Lib.hid hv
  have HL := Lib.hid hl
  have HCL := Lib.hid (fun (loops : List (Nat × LInfo)) (H2 : AHeap) (hx : Ext H H2) => checkList_s (loops := loops) (HV.out.ext hx) (HL.out.ext hx))
  by_cases he : errList t ids = 0
  case' neg =>
    rw [if_neg he]
    generalize errList t ids = er at HCL he ⊢
    have heb : (er != 0) = true := by simpa using he
    obtain ⟨cv, fv, rfl, hc, hf⟩ := hv
    obtain ⟨hcl', ca, cc, rfl⟩ := hc.slice
    obtain ⟨hfl, fa, fc, rfl⟩ := hf.slice
    obtain ⟨hll, la, lc, rfl⟩ := hl.slice
    clear hc hf hl he
    refine CallS.enter' Try.func21 rfl Try.ntmps21 (by simp) fun f hd hf => ?_
    have f0 := hf 0
    have f1 := hf 1
    simp at f0 f1
    clear hf
    repeat' (first|(with_reducible first|refine zA ?_|refine zB fun K hK=>?_|refine zC fun K2 hK2=>?_|refine zD ?_|refine zE ?_|refine zF ?_|refine zG ?_|refine zH ?_|refine zI ?_|refine zM ?_|refine zN ?_|refine zO ?_|refine zP ?_|refine zQ ?_|refine zR ?_)|((with_reducible refine zU (hK _ _ ?_));clear hK K)|((with_reducible refine zV ?_ ?_ fun K1 K3 d hdst h1 h3=>?_);rfl;exact yB rfl;cases hdst;go_simp)|((with_reducible refine zW fun K1 K3 h1 h3=>?_);go_simp)|((first|refine h1 ?_|refine h3 ?_);clear h1 h3 K1 K3)|((first|refine zX (fun hb=>h1 ?_) (fun hb=>h3 ?_)|refine zX (fun hb=>h3 ?_) (fun hb=>h1 ?_))<;>(clear h1 h3 K1 K3;(try have hb2:=yC hb);(try have hb2:=yD hb);(try have hb2:=yE hb);(try have hb2:=yF hb);(try have hb2:=yG hb)))|(refine fun (K2:_→AHeap→Prop) hK2=>?_)|((with_reducible refine zY ?_ ?_);decide)|((with_reducible first|refine zZ ?_ (fun K hK=>?_)|refine yA ?_ (fun K hK=>?_));(focus go_simp;done);go_simp;refine hK _ _ ?_;clear hK K)|(go_simp;(try go_bits);(try first | ((with_reducible show CallS _ _ _ _ _ _);refine CallS.mono (HCL.out _ _ (((Ext.refl _).push' _).push' _)) ?_; rintro _ _ ⟨rfl, rfl⟩));refine hK2 _ _ ?_;clear hK2 K2))
    exact ⟨rfl, ((Ext.refl _).push' _).push' _⟩
  case' pos =>
    have hg : Good t ∧ t.listed ids = true := by
      unfold errList at he
      split at he
      · rename_i h; exact absurd he h
      · rename_i h
        split at he
        · rename_i h2; exact ⟨good_of (by simpa using h), h2⟩
        · cases he
    rw [if_pos he, he]
    rw [he] at HCL
    have HG := Lib.hid hg
    have HJO := Lib.hid (fun (loops : List (Nat × LInfo)) (H2 : AHeap) (hx : Ext H H2) => jamsOf_e (loops := loops) (HV.out.ext hx) (HL.out.ext hx) hg.1)
    have hdays := hg.1.days
    rw [win_iff] at hdays
    obtain ⟨n, hn⟩ := Int.eq_ofNat_of_zero_le (show 0 ≤ t.days by omega)
    have hn1 : 1 ≤ n := by omega
    have hn2 : n ≤ 60 := by omega
    have HRES : Hid (t.jam ids = t.jamLo ids n n 0) := Lib.hid (by rw [Tour.jam, hn]; rfl)
    obtain ⟨cv, fv, rfl, hc, hf⟩ := hv
    obtain ⟨hcl', ca, cc, rfl⟩ := hc.slice
    obtain ⟨hfl, fa, fc, rfl⟩ := hf.slice
    obtain ⟨hll, la, lc, rfl⟩ := hl.slice
    rw [hn] at HV HCL HJO ⊢
    clear hc hf hl he hg hdays hn
    refine CallS.enter' Try.func21 rfl Try.ntmps21 (by simp) fun f hd hf => ?_
    have f0 := hf 0
    have f1 := hf 1
    simp at f0 f1
    clear hf
    repeat' (first|(with_reducible first|refine zA ?_|refine zB fun K hK=>?_|refine zC fun K2 hK2=>?_|refine zD ?_|refine zE ?_|refine zF ?_|refine zG ?_|refine zH ?_|refine zI ?_|refine zM ?_|refine zN ?_|refine zO ?_|refine zP ?_|refine zQ ?_|refine zR ?_)|((with_reducible refine zU (hK _ _ ?_));clear hK K)|((with_reducible refine zV ?_ ?_ fun K1 K3 d hdst h1 h3=>?_);rfl;exact yB rfl;cases hdst;go_simp)|((with_reducible refine zW fun K1 K3 h1 h3=>?_);go_simp)|((first|refine h1 ?_|refine h3 ?_);clear h1 h3 K1 K3)|((first|refine zX (fun hb=>h1 ?_) (fun hb=>h3 ?_)|refine zX (fun hb=>h3 ?_) (fun hb=>h1 ?_))<;>(clear h1 h3 K1 K3;(try have hb2:=yC hb);(try have hb2:=yD hb);(try have hb2:=yE hb);(try have hb2:=yF hb);(try have hb2:=yG hb)))|(refine fun (K2:_→AHeap→Prop) hK2=>?_)|((with_reducible refine zY ?_ ?_);decide)|((with_reducible first|refine zZ ?_ (fun K hK=>?_)|refine yA ?_ (fun K hK=>?_));(focus go_simp;done);go_simp;refine hK _ _ ?_;clear hK K)|(go_simp;(try go_bits);(try first |((with_reducible show CallS _ _ _ _ _ _);first|(refine CallS.mono (HCL.out _ _ (((Ext.refl _).push' _).push' _)) ?_; rintro _ _ ⟨rfl, rfl⟩)|(refine CallS.mono (HJO.out _ _ (((Ext.refl _).push' _).push' _)) ?_; rintro _ H2 ⟨a, b, c, p, rfl, hj, hx2⟩; (have HJ := Lib.hid hj); (have HX2 := Lib.hid hx2); clear hj hx2)));refine hK2 _ _ ?_;clear hK2 K2))
    have hlt2 : H.n + 1 < H2.n := by have := HX2.out.n; simp only [AHeap.n_push] at this; omega
    have hcd : cellAt H2 H.n 0 = some (.int .i64 n) := by
      rw [cellAt_get (HX2.out.get _ (by simp only [AHeap.n_push]; omega)), cellAt_get (AHeap.get_push_old (by simp only [AHeap.n_push]; omega)), cellAt_new]; rfl
    have hgr : H2.get (H.n + 1) = .row [.int .i64 0, .int .i64 0] 30 := by
      rw [HX2.out.get _ (by simp only [AHeap.n_push]; omega), show H.n + 1 = (H.push (.row [.int .i64 n, .slice ca t.closed.length cc, .slice fa t.flaws.length fc] 25)).n from rfl, AHeap.get_push_new]
    have HXH : Hid (Ext H H2) := Lib.hid ((((Ext.refl _).push' _).push' _).trans HX2.out)
    have HGR := Lib.hid hgr
    have HCD := Lib.hid hcd
    clear hgr HX2
    repeat' (first|(with_reducible first|refine zA ?_|refine zB fun K hK=>?_|refine zC fun K2 hK2=>?_|refine zD ?_|refine zE ?_|refine zF ?_|refine zG ?_|refine zH ?_|refine zI ?_|refine zM ?_|refine zN ?_|refine zO ?_|refine zP ?_|refine zQ ?_|refine zR ?_)|((with_reducible refine zU (hK _ _ ?_));clear hK K)|((with_reducible refine zV ?_ ?_ fun K1 K3 d hdst h1 h3=>?_);rfl;exact yB rfl;cases hdst;go_simp)|((with_reducible refine zW fun K1 K3 h1 h3=>?_);go_simp)|((first|refine h1 ?_|refine h3 ?_);clear h1 h3 K1 K3)|((first|refine zX (fun hb=>h1 ?_) (fun hb=>h3 ?_)|refine zX (fun hb=>h3 ?_) (fun hb=>h1 ?_))<;>(clear h1 h3 K1 K3;(try have hb2:=yC hb);(try have hb2:=yD hb);(try have hb2:=yE hb);(try have hb2:=yF hb);(try have hb2:=yG hb)))|(refine fun (K2:_→AHeap→Prop) hK2=>?_)|((with_reducible refine zY ?_ ?_);decide)|((with_reducible first|refine zZ ?_ (fun K hK=>?_)|refine yA ?_ (fun K hK=>?_));(focus go_simp;done);go_simp;refine hK _ _ ?_;clear hK K)|(go_simp;(try go_bits);refine hK2 _ _ ?_;clear hK2 K2))
    refine CodeS.loop (fun m f H' => ∃ (k : Nat), k ≤ n ∧ m = n - k ∧ f.tmp 24 = .int .i64 k ∧ f.tmp 23 = .int .i64 n ∧ f.tmp 8 = jamV a b c p ∧ f.tmp 2 = .pointer (some ⟨H.n, 0, none⟩) ∧ f.tmp 4 = .pointer (some ⟨H.n + 1, 0, none⟩) ∧ f.defers = [] ∧ Hid (Ext H2 H') ∧ Hid (t.jamLo ids n (n - k) k = t.jam ids)) n ?_ ?_
    · exact ⟨0, by omega, by omega, (by first|go_simp<;>go_num|assumption), (by first|go_simp<;>go_num|assumption), (by first|go_simp<;>go_num|assumption), (by first|go_simp<;>go_num|assumption), (by first|go_simp<;>go_num|assumption), (by first|go_simp<;>go_num|assumption), Lib.hid (Ext.refl _), Lib.hid (by rw [HRES.out]; rfl)⟩
    clear f0 f1 hd f hcd
    rintro m f H' ⟨k, hk, rfl, f24, f23, f8, f2, f4, hd, HX, HJL⟩
    by_cases hlt : k < n
    · have HST : Hid (t.jamLo ids n (n - k) k = orElseJ (t.jamHi ids k (n - k) k) (t.jamLo ids n (n - (k + 1)) (k + 1))) := Lib.hid (by
        rw [show n - k = (n - (k + 1)) + 1 by omega, Tour.jamLo, show n - (k + 1) + 1 = n - k by omega])
      repeat' (first|(with_reducible first|refine zA ?_|refine zB fun K hK=>?_|refine zC fun K2 hK2=>?_|refine zD ?_|refine zE ?_|refine zF ?_|refine zG ?_|refine zH ?_|refine zI ?_|refine zM ?_|refine zN ?_|refine zO ?_|refine zP ?_|refine zQ ?_|refine zR ?_)|((with_reducible refine zU (hK _ _ ?_));clear hK K)|((with_reducible refine zV ?_ ?_ fun K1 K3 d hdst h1 h3=>?_);rfl;exact yB rfl;cases hdst;go_simp)|((with_reducible refine zW fun K1 K3 h1 h3=>?_);go_simp)|((first|refine h1 ?_|refine h3 ?_);clear h1 h3 K1 K3)|((first|refine zX (fun hb=>h1 ?_) (fun hb=>h3 ?_)|refine zX (fun hb=>h3 ?_) (fun hb=>h1 ?_))<;>(clear h1 h3 K1 K3;(try have hb2:=yC hb);(try have hb2:=yD hb);(try have hb2:=yE hb);(try have hb2:=yF hb);(try have hb2:=yG hb)))|(refine fun (K2:_→AHeap→Prop) hK2=>?_)|((with_reducible refine zY ?_ ?_);decide)|((with_reducible first|refine zZ ?_ (fun K hK=>?_)|refine yA ?_ (fun K hK=>?_));(focus go_simp;done);go_simp;refine hK _ _ ?_;clear hK K)|(go_simp;(try go_bits);refine hK2 _ _ ?_;clear hK2 K2))
      refine CodeS.loop (fun m f H' => ∃ (j : Nat), k ≤ j ∧ j ≤ n ∧ m = n - j ∧ f.tmp 10 = .int .i64 j ∧ f.tmp 9 = .int .i64 k ∧ f.tmp 24 = .int .i64 k ∧ f.tmp 23 = .int .i64 n ∧ f.tmp 8 = jamV a b c p ∧ f.tmp 2 = .pointer (some ⟨H.n, 0, none⟩) ∧ f.tmp 4 = .pointer (some ⟨H.n + 1, 0, none⟩) ∧ f.defers = [] ∧ Hid (Ext H2 H') ∧ Hid (orElseJ (t.jamHi ids k (n - j) j) (t.jamLo ids n (n - (k + 1)) (k + 1)) = t.jam ids)) (n - k) ?_ ?_
      · exact ⟨k, Nat.le_refl _, by omega, rfl, (by first|go_simp<;>go_num|assumption), (by first|go_simp<;>go_num|assumption), (by first|go_simp<;>go_num|assumption), (by first|go_simp<;>go_num|assumption), (by first|go_simp<;>go_num|assumption), (by first|go_simp<;>go_num|assumption), (by first|go_simp<;>go_num|assumption), (by first|go_simp<;>go_num|assumption), HX, Lib.hid (by rw [← HST.out, HJL.out])⟩
      clear f24 f23 f8 f2 f4 hd f HX HJL HST H'
      rintro m f H' ⟨j, hkj, hj, rfl, f10, f9, f24, f23, f8, f2, f4, hd, HX, HJL⟩
      have hcd : cellAt H' H.n 0 = some (.int .i64 n) := (HX.out.cellAt (by omega)).trans HCD.out
      have hnn : H.n + 1 < H'.n := by have := HX.out.n; omega
      have hn0 : H.n < H'.n := by omega
      by_cases hjn : j < n
      · have HST : Hid (t.jamHi ids k (n - j) j = if t.isJam ids k j = true then some (k, j) else t.jamHi ids k (n - (j + 1)) (j + 1)) := Lib.hid (by
          rw [show n - j = (n - (j + 1)) + 1 by omega, Tour.jamHi])
        have HIJ := Lib.hid (fun (loops : List (Nat × LInfo)) (H3 : AHeap) (hx : Ext H' H3) => isJam_s (loops := loops) (lo := (k : Int)) (hi := (j : Int)) (HJ.out.ext (HX.out.trans hx)) HG.out.1 HG.out.2)
        have hg1 : ∀ o, (H'.push o).get (H.n + 1) = .row [.int .i64 0, .int .i64 0] 30 := fun o => (AHeap.get_push_old hnn).trans ((HX.out.get _ hlt2).trans HGR.out)
        generalize t.isJam ids k j = ij at HIJ HST
        repeat' (first|(with_reducible first|refine zA ?_|refine zB fun K hK=>?_|refine zC fun K2 hK2=>?_|refine zD ?_|refine zE ?_|refine zF ?_|refine zG ?_|refine zH ?_|refine zI ?_|refine zM ?_|refine zN ?_|refine zO ?_|refine zP ?_|refine zQ ?_|refine zR ?_)|((with_reducible refine zU (hK _ _ ?_));clear hK K)|((with_reducible refine zV ?_ ?_ fun K1 K3 d hdst h1 h3=>?_);rfl;exact yB rfl;cases hdst;go_simp)|((with_reducible refine zW fun K1 K3 h1 h3=>?_);go_simp)|((first|refine h1 ?_|refine h3 ?_);clear h1 h3 K1 K3)|((first|refine zX (fun hb=>h1 ?_) (fun hb=>h3 ?_)|refine zX (fun hb=>h3 ?_) (fun hb=>h1 ?_))<;>(clear h1 h3 K1 K3;(try have hb2:=yC hb);(try have hb2:=yD hb);(try have hb2:=yE hb);(try have hb2:=yF hb);(try have hb2:=yG hb)))|(refine fun (K2:_→AHeap→Prop) hK2=>?_)|((with_reducible refine zY ?_ ?_);decide)|((with_reducible first|refine zZ ?_ (fun K hK=>?_)|refine yA ?_ (fun K hK=>?_));(focus go_simp;done);go_simp;refine hK _ _ ?_;clear hK K)|(go_simp;(try go_bits);(try first | ((rw [aBuild_struct st30 ze30]); go_simp) | ((with_reducible show CallS _ _ _ _ _ _);refine CallS.mono (HIJ.out _ _ (Ext.push _)) ?_; rintro _ _ ⟨rfl, rfl⟩));refine hK2 _ _ ?_;clear hK2 K2))
        · have hij : ij = true := hb
          have h := HJL.out
          rw [HST.out, if_pos hij] at h
          refine ⟨?_, ((HXH.out.trans HX.out).upd (by omega) _).push' _⟩
          rw [← h]; rfl
        · have hij : ¬ ij = true := by rw [hb]; exact Bool.false_ne_true
          refine Post.round_normal ⟨n - (j + 1), by omega, j + 1, by omega, by omega, rfl, (by first|go_simp<;>go_num|assumption), (by first|go_simp<;>go_num|assumption), (by first|go_simp<;>go_num|assumption), (by first|go_simp<;>go_num|assumption), (by first|go_simp<;>go_num|assumption), (by first|go_simp<;>go_num|assumption), (by first|go_simp<;>go_num|assumption), (by first|go_simp<;>go_num|assumption), Lib.hid (HX.out.push' _), Lib.hid ?_⟩
          rw [← HJL.out, HST.out, if_neg hij]
      · have hnn' : ¬ (j : Int) < (n : Int) := by omega
        repeat' (first|(with_reducible first|refine zA ?_|refine zB fun K hK=>?_|refine zC fun K2 hK2=>?_|refine zD ?_|refine zE ?_|refine zF ?_|refine zG ?_|refine zH ?_|refine zI ?_|refine zM ?_|refine zN ?_|refine zO ?_|refine zP ?_|refine zQ ?_|refine zR ?_)|((with_reducible refine zU (hK _ _ ?_));clear hK K)|((with_reducible refine zV ?_ ?_ fun K1 K3 d hdst h1 h3=>?_);rfl;exact yB rfl;cases hdst;go_simp)|((with_reducible refine zW fun K1 K3 h1 h3=>?_);go_simp)|((first|refine h1 ?_|refine h3 ?_);clear h1 h3 K1 K3)|((first|refine zX (fun hb=>h1 ?_) (fun hb=>h3 ?_)|refine zX (fun hb=>h3 ?_) (fun hb=>h1 ?_))<;>(clear h1 h3 K1 K3;(try have hb2:=yC hb);(try have hb2:=yD hb);(try have hb2:=yE hb);(try have hb2:=yF hb);(try have hb2:=yG hb)))|(refine fun (K2:_→AHeap→Prop) hK2=>?_)|((with_reducible refine zY ?_ ?_);decide)|((with_reducible first|refine zZ ?_ (fun K hK=>?_)|refine yA ?_ (fun K hK=>?_));(focus go_simp;done);go_simp;refine hK _ _ ?_;clear hK K)|(go_simp;(try go_bits);refine hK2 _ _ ?_;clear hK2 K2))
        refine Post.round_normal ⟨n - (k + 1), by omega, k + 1, by omega, rfl, (by first|go_simp<;>go_num|assumption), (by first|go_simp<;>go_num|assumption), (by first|go_simp<;>go_num|assumption), (by first|go_simp<;>go_num|assumption), (by first|go_simp<;>go_num|assumption), (by first|go_simp<;>go_num|assumption), HX, Lib.hid ?_⟩
        have h := HJL.out
        rw [show n - j = 0 by omega] at h
        exact h
    · have hcc : ¬ (k : Int) < (n : Int) := by omega
      have hnn : H.n + 1 < H'.n := by have := HX.out.n; omega
      have hg1 : H'.get (H.n + 1) = .row [.int .i64 0, .int .i64 0] 30 := (HX.out.get _ hlt2).trans HGR.out
      have hres : t.jam ids = none := by
        have h := HJL.out
        rw [show n - k = 0 by omega] at h
        exact h.symm
      rw [hres]
      clear hres
      repeat' (first|(with_reducible first|refine zA ?_|refine zB fun K hK=>?_|refine zC fun K2 hK2=>?_|refine zD ?_|refine zE ?_|refine zF ?_|refine zG ?_|refine zH ?_|refine zI ?_|refine zM ?_|refine zN ?_|refine zO ?_|refine zP ?_|refine zQ ?_|refine zR ?_)|((with_reducible refine zU (hK _ _ ?_));clear hK K)|((with_reducible refine zV ?_ ?_ fun K1 K3 d hdst h1 h3=>?_);rfl;exact yB rfl;cases hdst;go_simp)|((with_reducible refine zW fun K1 K3 h1 h3=>?_);go_simp)|((first|refine h1 ?_|refine h3 ?_);clear h1 h3 K1 K3)|((first|refine zX (fun hb=>h1 ?_) (fun hb=>h3 ?_)|refine zX (fun hb=>h3 ?_) (fun hb=>h1 ?_))<;>(clear h1 h3 K1 K3;(try have hb2:=yC hb);(try have hb2:=yD hb);(try have hb2:=yE hb);(try have hb2:=yF hb);(try have hb2:=yG hb)))|(refine fun (K2:_→AHeap→Prop) hK2=>?_)|((with_reducible refine zY ?_ ?_);decide)|((with_reducible first|refine zZ ?_ (fun K hK=>?_)|refine yA ?_ (fun K hK=>?_));(focus go_simp;done);go_simp;refine hK _ _ ?_;clear hK K)|(go_simp;(try go_bits);refine hK2 _ _ ?_;clear hK2 K2))
      exact ⟨rfl, (HXH.out.trans HX.out).upd (by omega) _⟩
end Go.Proofs.Try
namespace Go.Proofs.Try
open Go Go.Am Go.RowKit
set_option maxRecDepth 100000

theorem good_list {t : Tour} {ids : List Int} (he : errList t ids = 0) : Good t ∧ t.listed ids = true := by
  unfold errList at he
  split at he
  · rename_i h; exact absurd he h
  · rename_i h
    split at he
    · rename_i h2; exact ⟨good_of (by simpa using h), h2⟩
    · cases he

def Tour.can (t : Tour) (ids : List Int) : Bool := decide (errList t ids = 0) && (t.jam ids).isNone

theorem can_s {loops : List (Nat × LInfo)} {H : AHeap} {v lv : Value} {t : Tour} {ids : List Int} (hv : TourV H v t) (hl : Ints H lv ids) :
    CallS Try.prog loops 20 [v, lv] H fun r H' => r = .tuple #[.bool (t.can ids), .int .i64 (errList t ids)] ∧ H' = H := by
  refine CallS.forget (R := fun r => r = .tuple #[.bool (t.can ids), .int .i64 (errList t ids)]) (by rintro v rfl; rfl) ?_
  have HV := Lib.hid hv
  have HL := Lib.hid hl
  have hj := fun (loops : List (Nat × LInfo)) (H2 : AHeap) (hx : Ext H H2) => jam_s (loops := loops) (HV.out.ext hx) (HL.out.ext hx)
  unfold Tour.can
  obtain ⟨cv, fv, rfl, hc, hf⟩ := hv
  obtain ⟨hcl', ca, cc, rfl⟩ := hc.slice
  obtain ⟨hfl, fa, fc, rfl⟩ := hf.slice
  obtain ⟨hll, la, lc, rfl⟩ := hl.slice
  clear hc hf hl
  generalize errList t ids = er at hj ⊢
  generalize t.jam ids = o at hj ⊢
  by_cases he : er = 0
  case' neg =>
    rw [if_neg he, jamR] at hj
    rw [decide_eq_false he]
    have heb : (er == 0) = false := by simpa using he
    have HJ := Lib.hid hj
    clear hj he
    refine CallS.enter' Try.func20 rfl Try.ntmps20 (by simp) fun f hd hf => ?_
    have f0 := hf 0
    have f1 := hf 1
    simp at f0 f1
    clear hf
    repeat' (first|(with_reducible first|refine zA ?_|refine zB fun K hK=>?_|refine zC fun K2 hK2=>?_|refine zD ?_|refine zE ?_|refine zF ?_|refine zG ?_|refine zH ?_|refine zI ?_|refine zM ?_|refine zN ?_|refine zO ?_|refine zP ?_|refine zQ ?_|refine zR ?_)|((with_reducible refine zU (hK _ _ ?_));clear hK K)|((with_reducible refine zV ?_ ?_ fun K1 K3 d hdst h1 h3=>?_);rfl;exact yB rfl;cases hdst;go_simp)|((with_reducible refine zW fun K1 K3 h1 h3=>?_);go_simp)|((first|refine h1 ?_|refine h3 ?_);clear h1 h3 K1 K3)|((first|refine zX (fun hb=>h1 ?_) (fun hb=>h3 ?_)|refine zX (fun hb=>h3 ?_) (fun hb=>h1 ?_))<;>(clear h1 h3 K1 K3;(try have hb2:=yC hb);(try have hb2:=yD hb);(try have hb2:=yE hb);(try have hb2:=yF hb);(try have hb2:=yG hb)))|(refine fun (K2:_→AHeap→Prop) hK2=>?_)|((with_reducible refine zY ?_ ?_);decide)|((with_reducible first|refine zZ ?_ (fun K hK=>?_)|refine yA ?_ (fun K hK=>?_));(focus go_simp;done);go_simp;refine hK _ _ ?_;clear hK K)|(go_simp;(try go_bits);(try first | ((with_reducible show CallS _ _ _ _ _ _);refine CallS.mono (HJ.out _ _ ((Ext.refl _).push' _)) ?_; rintro _ _ ⟨rfl, rfl⟩));refine hK2 _ _ ?_;clear hK2 K2))
    exact ⟨rfl, ((Ext.refl _).push' _).push' _⟩
  case' pos =>
    subst he
    rw [if_pos rfl] at hj
    cases o with
    | none =>
      rw [jamR] at hj
      have HJ := Lib.hid hj
      clear hj
      refine CallS.enter' Try.func20 rfl Try.ntmps20 (by simp) fun f hd hf => ?_
      have f0 := hf 0
      have f1 := hf 1
      simp at f0 f1
      clear hf
      repeat' (first|(with_reducible first|refine zA ?_|refine zB fun K hK=>?_|refine zC fun K2 hK2=>?_|refine zD ?_|refine zE ?_|refine zF ?_|refine zG ?_|refine zH ?_|refine zI ?_|refine zM ?_|refine zN ?_|refine zO ?_|refine zP ?_|refine zQ ?_|refine zR ?_)|((with_reducible refine zU (hK _ _ ?_));clear hK K)|((with_reducible refine zV ?_ ?_ fun K1 K3 d hdst h1 h3=>?_);rfl;exact yB rfl;cases hdst;go_simp)|((with_reducible refine zW fun K1 K3 h1 h3=>?_);go_simp)|((first|refine h1 ?_|refine h3 ?_);clear h1 h3 K1 K3)|((first|refine zX (fun hb=>h1 ?_) (fun hb=>h3 ?_)|refine zX (fun hb=>h3 ?_) (fun hb=>h1 ?_))<;>(clear h1 h3 K1 K3;(try have hb2:=yC hb);(try have hb2:=yD hb);(try have hb2:=yE hb);(try have hb2:=yF hb);(try have hb2:=yG hb)))|(refine fun (K2:_→AHeap→Prop) hK2=>?_)|((with_reducible refine zY ?_ ?_);decide)|((with_reducible first|refine zZ ?_ (fun K hK=>?_)|refine yA ?_ (fun K hK=>?_));(focus go_simp;done);go_simp;refine hK _ _ ?_;clear hK K)|(go_simp;(try go_bits);(try first | ((with_reducible show CallS _ _ _ _ _ _);refine CallS.mono (HJ.out _ _ ((Ext.refl _).push' _)) ?_; rintro _ _ ⟨rfl, rfl⟩));refine hK2 _ _ ?_;clear hK2 K2))
      exact ⟨rfl, ((Ext.refl _).push' _).push' _⟩
    | some x =>
      obtain ⟨lo, hi⟩ := x
      rw [jamR] at hj
      have HJ := Lib.hid hj
      clear hj
      refine CallS.enter' Try.func20 rfl Try.ntmps20 (by simp) fun f hd hf => ?_
      have f0 := hf 0
      have f1 := hf 1
      simp at f0 f1
      clear hf
      repeat' (first|(with_reducible first|refine zA ?_|refine zB fun K hK=>?_|refine zC fun K2 hK2=>?_|refine zD ?_|refine zE ?_|refine zF ?_|refine zG ?_|refine zH ?_|refine zI ?_|refine zM ?_|refine zN ?_|refine zO ?_|refine zP ?_|refine zQ ?_|refine zR ?_)|((with_reducible refine zU (hK _ _ ?_));clear hK K)|((with_reducible refine zV ?_ ?_ fun K1 K3 d hdst h1 h3=>?_);rfl;exact yB rfl;cases hdst;go_simp)|((with_reducible refine zW fun K1 K3 h1 h3=>?_);go_simp)|((first|refine h1 ?_|refine h3 ?_);clear h1 h3 K1 K3)|((first|refine zX (fun hb=>h1 ?_) (fun hb=>h3 ?_)|refine zX (fun hb=>h3 ?_) (fun hb=>h1 ?_))<;>(clear h1 h3 K1 K3;(try have hb2:=yC hb);(try have hb2:=yD hb);(try have hb2:=yE hb);(try have hb2:=yF hb);(try have hb2:=yG hb)))|(refine fun (K2:_→AHeap→Prop) hK2=>?_)|((with_reducible refine zY ?_ ?_);decide)|((with_reducible first|refine zZ ?_ (fun K hK=>?_)|refine yA ?_ (fun K hK=>?_));(focus go_simp;done);go_simp;refine hK _ _ ?_;clear hK K)|(go_simp;(try go_bits);(try first | ((with_reducible show CallS _ _ _ _ _ _);refine CallS.mono (HJ.out _ _ ((Ext.refl _).push' _)) ?_; rintro _ _ ⟨rfl, rfl⟩));refine hK2 _ _ ?_;clear hK2 K2))
      exact ⟨rfl, ((Ext.refl _).push' _).push' _⟩

end Go.Proofs.Try
namespace Go.Proofs.Try
open Go Go.Am Go.RowKit
set_option maxRecDepth 100000


theorem jamHi_none {t : Tour} {ids : List Int} {lo : Nat} : ∀ (r hi : Nat), t.jamHi ids lo r hi = none → ∀ j, hi ≤ j → j < hi + r → t.isJam ids lo j = false
  | 0, hi, _, j, h1, h2 => by omega
  | r + 1, hi, h, j, h1, h2 => by
    rw [Tour.jamHi] at h
    split at h
    · cases h
    · rename_i hn
      rcases Nat.eq_or_lt_of_le h1 with rfl | h3
      · simpa using hn
      · exact jamHi_none r (hi + 1) h j h3 (by omega)
theorem jamHi_some {t : Tour} {ids : List Int} {lo : Nat} : ∀ (r hi : Nat) (x : Nat × Nat), t.jamHi ids lo r hi = some x → t.isJam ids x.1 x.2 = true
  | 0, hi, x, h => by cases h
  | r + 1, hi, x, h => by
    rw [Tour.jamHi] at h
    split at h
    · rename_i hj
      cases h; exact hj
    · exact jamHi_some r (hi + 1) x h
theorem jamLo_none {t : Tour} {ids : List Int} {n : Nat} : ∀ (r lo : Nat), t.jamLo ids n r lo = none → ∀ k j, lo ≤ k → k < lo + r → k ≤ j → j < n → t.isJam ids k j = false
  | 0, lo, _, k, j, h1, h2, _, _ => by omega
  | r + 1, lo, h, k, j, h1, h2, h3, h4 => by
    rw [Tour.jamLo] at h
    unfold orElseJ at h
    split at h
    · cases h
    · rename_i hn
      rcases Nat.eq_or_lt_of_le h1 with rfl | h5
      · exact jamHi_none _ _ hn j h3 (by omega)
      · exact jamLo_none r (lo + 1) h k j h5 (by omega) h3 h4
theorem jamLo_some {t : Tour} {ids : List Int} {n : Nat} : ∀ (r lo : Nat) (x : Nat × Nat), t.jamLo ids n r lo = some x → t.isJam ids x.1 x.2 = true
  | 0, lo, x, h => by cases h
  | r + 1, lo, x, h => by
    rw [Tour.jamLo] at h
    unfold orElseJ at h
    split at h
    · rename_i y hy
      cases h; exact jamHi_some _ _ _ hy
    · exact jamLo_some r (lo + 1) x h
theorem jam_none {t : Tour} {ids : List Int} (h : t.jam ids = none) (lo hi : Int) : t.isJam ids lo hi = false := by
  by_cases hs : t.isSpan lo hi = true
  · simp only [Tour.isSpan, Tour.isDay, Bool.and_eq_true, win_iff, decide_eq_true_eq] at hs
    obtain ⟨a, rfl⟩ := Int.eq_ofNat_of_zero_le (show 0 ≤ lo by omega)
    obtain ⟨b, rfl⟩ := Int.eq_ofNat_of_zero_le (show 0 ≤ hi by omega)
    exact jamLo_none _ _ h a b (by omega) (by omega) (by omega) (by omega)
  · have : t.isSpan lo hi = false := by simpa using hs
    rw [Tour.isJam, this]; rfl
theorem jam_some {t : Tour} {ids : List Int} {x : Nat × Nat} (h : t.jam ids = some x) : t.isJam ids x.1 x.2 = true := jamLo_some _ _ _ h

section
variable {P : Program} {H : AHeap} {K : Value → AHeap → Prop} {t e : TypeId} {size : Nat} {q : IntKind} {b o n c : Nat} {l : List Value}
end
end Go.Proofs.Try
namespace Go.Proofs.Try
open Go Go.Am Go.RowKit
set_option maxRecDepth 100000


theorem cntP_put {P Q : Nat → Bool} {d : Nat} : ∀ n, d < n → P d = true → Q d = false → (∀ e, e ≠ d → Q e = P e) → cntP Q n < cntP P n
  | 0, h, _, _, _ => absurd h (Nat.not_lt_zero d)
  | n + 1, h, hP, hQ, he => by
    rw [cntP_succ, cntP_succ]
    rcases Nat.lt_or_ge d n with h1 | h1
    · have := cntP_put n h1 hP hQ he
      rw [he n (by omega)]; omega
    · have hdn : d = n := by omega
      subst hdn
      have : cntP Q d = cntP P d := by
        unfold cntP
        congr 1
        refine List.filter_congr fun i hi => ?_
        have := List.mem_range.1 hi
        exact he i (by omega)
      rw [this, hP, hQ]; simp

theorem trail_exists {fls : List Flaw} {D0 D : Nat → Int} {x : Nat} (hp : PlanD fls D0 D) (hx : ¬ Has D x) : ∀ (n : Nat) (L : List Nat) (T : Nat → Int), cntP (fun d => T d == -1) 120 ≤ n → TrP fls D0 D x L T → ∃ L' T' fr, TrEnd fls D0 D x L' T' fr := by
  intro n
  induction n with
  | zero =>
    intro L T hn h
    refine ⟨L, T, -1, h.tr, h.lt, .inl ⟨rfl, h.full fun j hj l hl d hc => ?_⟩⟩
    rcases h.tr.tkr d with h1 | ⟨i, h1⟩
    · exfalso
      have : d ∈ (List.range 120).filter (fun d => T d == -1) := List.mem_filter.2 ⟨List.mem_range.2 hc.2.1, by simpa using h1⟩
      have := List.length_pos_of_mem this
      unfold cntP at hn; omega
    · omega
  | succ n ih =>
    intro L T hn h
    by_cases hall : ∀ j, j < L.length → ∀ l, L[j]? = some l → ∀ d, canD fls D0 l d → 0 ≤ T d
    · exact ⟨L, T, -1, h.tr, h.lt, .inl ⟨rfl, h.full hall⟩⟩
    · have hall2 : ∃ j l d : Nat, L[j]? = some l ∧ canD fls D0 l d ∧ T d = -1 := by
        refine Classical.byContradiction fun hc => hall fun j _ l hl d hd => ?_
        rcases h.tr.tkr d with h1 | ⟨i, h1⟩
        · exact absurd ⟨j, l, d, hl, hd, h1⟩ hc
        · omega
      obtain ⟨j, l, d, hl, hd, hT⟩ := hall2
      rcases hp.val d hd.2.1 with h1 | h1 | ⟨g, h1, -⟩
      · exact absurd ((hp.closed d).1 h1) hd.2.2.1
      · exact ⟨_, _, _, h.free hl hd h1⟩
      · refine ih (L ++ [g]) (putI T d l) ?_ (h.more hp hx hl hd hT h1)
        have := cntP_put (P := fun d => T d == -1) (Q := fun e => putI T d l e == -1) (d := d) 120 hd.2.1 (by simpa using hT) (by simp [putI_same]) (fun e he => by simp only [putI_ne he])
        omega
theorem added_of_moving {fls : List Flaw} {D0 D : Nat → Int} {x : Nat} {L : List Nat} {T : Nat → Int} (ht : Trail (canD fls D0) D x L T) (hp : PlanD fls D0 D) (hx : ¬ Has D x) : ∀ (n j : Nat) (C : Nat → Int) (day : Nat), j ≤ n → Moving fls D0 D x L T C day j → ∃ C', Added fls D0 D x C' := by
  intro n
  induction n with
  | zero =>
    intro j C day hj h
    obtain ⟨l, hl⟩ := h.idx
    by_cases hw : ∀ d, d < 120 → C d ≠ (l : Int)
    · exact ⟨_, h.last ht hl hw⟩
    · exfalso
      refine hw fun d hd hc => ?_
      obtain ⟨j', h1, -⟩ := h.next ht hp hx hl hc hd
      omega
  | succ n ih =>
    intro j C day hj h
    obtain ⟨l, hl⟩ := h.idx
    by_cases hw : ∀ d, d < 120 → C d ≠ (l : Int)
    · exact ⟨_, h.last ht hl hw⟩
    · have hw2 : ∃ d, d < 120 ∧ C d = (l : Int) := Classical.byContradiction fun hc => hw fun d hd he => hc ⟨d, hd, he⟩
      obtain ⟨d, hd, hc⟩ := hw2
      obtain ⟨j', h1, h2⟩ := h.next ht hp hx hl hc hd
      exact ih j' _ d (by omega) h2
theorem min_exists {α : Type} (f : α → Int) : ∀ (l : List α), l ≠ [] → ∃ y, y ∈ l ∧ ∀ i, i ∈ l → f y ≤ f i
  | [], h => absurd rfl h
  | [a], _ => ⟨a, by simp, fun i hi => by simp at hi; subst hi; exact Int.le_refl _⟩
  | a :: b :: l, _ => by
    obtain ⟨y, h1, h2⟩ := min_exists f (b :: l) (by simp)
    by_cases h : f a ≤ f y
    · refine ⟨a, by simp, fun i hi => ?_⟩
      rcases List.mem_cons.1 hi with rfl | hi
      · exact Int.le_refl _
      · exact Int.le_trans h (h2 i hi)
    · refine ⟨y, List.mem_cons_of_mem _ h1, fun i hi => ?_⟩
      rcases List.mem_cons.1 hi with rfl | hi
      · omega
      · exact h2 i hi
theorem added_exists {fls : List Flaw} {D0 D : Nat → Int} {x : Nat} (hp : PlanD fls D0 D) (hx : x < fls.length) (hn : ¬ Has D x) (hb : BestOf (canD fls D0) (meritN fls) D x) : ∃ C, Added fls D0 D x C := by
  obtain ⟨L, T, fr, htr, hlt, h⟩ := trail_exists hp hn _ _ _ (Nat.le_refl _) (TrP.first (D := D) (D0 := D0) hx)
  rcases h with ⟨-, hf⟩ | ⟨d, l, -, hd, hT, hD⟩
  · obtain ⟨y, hy, hmin⟩ := min_exists (meritN fls) L (fun h => by have := htr.head; rw [h] at this; cases this)
    by_cases hyx : y = x
    · subst hyx
      exact ⟨D, Added.self htr hp hb hf hn hmin⟩
    · rcases htr.src y hy with e | ⟨d, hd, -⟩
      · exact absurd e hyx
      · obtain ⟨j, hm⟩ := Moving.other htr hp hb hf hn hy hmin hd
        exact added_of_moving htr hp hn _ _ _ _ (Nat.le_refl _) hm
  · obtain ⟨j, hm⟩ := Moving.free htr hp hb hd hT hD
    exact added_of_moving htr hp hn _ _ _ _ (Nat.le_refl _) hm
theorem plan_exists {fls : List Flaw} {D0 D : Nat → Int} (hp : PlanD fls D0 D) (hn : ∀ i, ¬ Has D i) : ∀ k, k ≤ fls.length → ∃ C, PlanD fls D0 C ∧ BestOf (canD fls D0) (meritN fls) C k ∧ ∀ i, Has C i → i < k
  | 0, _ => ⟨D, hp, best_none hp, fun i hi => absurd hi (hn i)⟩
  | k + 1, h => by
    obtain ⟨C, h1, h2, h3⟩ := plan_exists hp hn k (by omega)
    obtain ⟨C', ha⟩ := added_exists h1 h (fun h => Nat.lt_irrefl k (h3 k h)) h2
    refine ⟨C', ha.plan, ha.best, fun i hi => ?_⟩
    rcases ha.has i hi with h4 | h4
    · exact Nat.lt_succ_of_lt (h3 i h4)
    · omega

def reM (g : Int → Int) (fls : List Flaw) : List Flaw := fls.map fun a => ⟨a.id, a.lo, a.hi, g a.id⟩
theorem reM_get {g : Int → Int} {fls : List Flaw} {i : Nat} (h : i < fls.length) : (reM g fls).getD i nowhere = ⟨(fls[i]).id, (fls[i]).lo, (fls[i]).hi, g (fls[i]).id⟩ := by
  rw [List.getD_eq_getElem?_getD, List.getElem?_eq_getElem (by simpa [reM] using h)]
  simp [reM]
theorem reM_can {g : Int → Int} {fls : List Flaw} {D0 : Nat → Int} : canD (reM g fls) D0 = canD fls D0 := by
  funext i d
  have hl : (reM g fls).length = fls.length := by simp [reM]
  unfold canD
  rw [hl]
  by_cases h : i < fls.length
  · rw [reM_get h, getD_in h]
  · simp [h]
theorem reM_merit {g : Int → Int} {fls : List Flaw} {i : Nat} (h : i < fls.length) : meritN (reM g fls) i = g (fls[i]).id := by rw [meritN, reM_get h]
theorem reM_plan {g : Int → Int} {fls : List Flaw} {D0 D : Nat → Int} (h : PlanD fls D0 D) : PlanD (reM g fls) D0 D := by
  have hl : (reM g fls).length = fls.length := by simp [reM]
  exact ⟨h.closed, by rw [hl]; exact h.val, h.out, by rw [reM_can]; exact h.mat⟩
theorem reM_unplan {g : Int → Int} {fls : List Flaw} {D0 D : Nat → Int} (h : PlanD (reM g fls) D0 D) : PlanD fls D0 D := by
  have hl : (reM g fls).length = fls.length := by simp [reM]
  exact ⟨h.closed, by rw [← hl]; exact h.val, h.out, by rw [← reM_can (g := g)]; exact h.mat⟩
theorem best_exists (t : Tour) (g : Int → Int) : ∃ C, PlanD t.flaws t.D0 C ∧ BestOf (canD t.flaws t.D0) (meritN (reM g t.flaws)) C t.flaws.length := by
  have hl : (reM g t.flaws).length = t.flaws.length := by simp [reM]
  obtain ⟨C, h1, h2, -⟩ := plan_exists (reM_plan (g := g) (planD0 t)) (noD0 t) _ (Nat.le_refl _)
  rw [hl, reM_can] at h2
  exact ⟨C, reM_unplan h1, h2⟩
end Go.Proofs.Try
namespace Go.Proofs.Try
open Go Go.Am Go.RowKit
set_option maxRecDepth 100000


theorem D0_lt {t : Tour} {d : Nat} (h : t.D0 d ≠ -2) : d < 60 := by
  unfold Tour.D0 dayD at h
  split at h
  · rename_i h1
    have := h1.1
    simp at this
    exact this
  · exact absurd rfl h
theorem openGo_nodup (D : Nat → Int) : ∀ r i, (openGo D r i).Nodup
  | 0, _ => .nil
  | r + 1, i => by
    rw [openGo]
    split
    · exact openGo_nodup D r (i + 1)
    · refine List.nodup_cons.2 ⟨fun h => ?_, openGo_nodup D r (i + 1)⟩
      obtain ⟨j, h1, h2, h3, h4⟩ := openGo_mem2 D r (i + 1) _ h
      injection h4 with _ h5
      omega
theorem room_go (t : Tour) (lo hi : Int) : t.room lo hi = (openGo t.D0 (hi.toNat + 1 - lo.toNat) lo.toNat).length := by
  have h0 : openGo t.D0 (hi.toNat + 1 - lo.toNat) (60 + lo.toNat) = [] := by
    rw [List.eq_nil_iff_forall_not_mem]
    intro v hv
    obtain ⟨j, h1, h2, h3, h4⟩ := openGo_mem2 _ _ _ _ hv
    have := D0_lt h3
    omega
  show (openFrom t.D0 (hi.toNat + 1 - lo.toNat) lo.toNat 0).length = _
  rw [openFrom, h0, List.append_nil]

theorem plan_noJam {t : Tour} {E : Nat → Int} (hp : PlanD t.flaws t.D0 E) {ids : List Int} (hl : t.listed ids = true) (hm : ∀ x, x ∈ ids → Has E (atOf t.flaws x)) (lo hi : Int) : t.isJam ids lo hi = false := by
  rw [Bool.eq_false_iff]
  intro hj
  simp only [Tour.isJam, Bool.and_eq_true, decide_eq_true_eq] at hj
  obtain ⟨hs, hlt⟩ := hj
  simp only [Tour.isSpan, Tour.isDay, Bool.and_eq_true, win_iff, decide_eq_true_eq] at hs
  rw [inSpan_filter, room_go] at hlt
  have hday : ∀ x, x ∈ ids.filter (fun x => lies (t.flawOf x).lo (t.flawOf x).hi lo hi) → ∃ d : Nat, dayI E (atOf t.flaws x : Int) = (d : Int) ∧ E d = (atOf t.flaws x : Int) ∧ t.D0 d ≠ -2 ∧ lo ≤ (d : Int) ∧ (d : Int) ≤ hi := by
    intro x hx
    obtain ⟨hx1, hx2⟩ := List.mem_filter.1 hx
    obtain ⟨d, hd⟩ := hm x hx1
    rcases dayI_spec E (atOf t.flaws x : Int) with ⟨-, h2⟩ | ⟨e, he, h2, h3⟩
    · rcases Nat.lt_or_ge d 120 with h9 | h9
      · exact absurd hd (h2 d h9)
      · have := hp.out d h9; omega
    · obtain ⟨-, -, h4, h5, h6⟩ := hp.mat.ok e _ h3
      have h7 := D0_lt h4
      rw [show e % 60 = e by omega] at h5 h6
      rw [lies, Bool.and_eq_true, decide_eq_true_eq, decide_eq_true_eq] at hx2
      have h8 : lo ≤ (t.flaws.getD (atOf t.flaws x) nowhere).lo := hx2.1
      have h9 : (t.flaws.getD (atOf t.flaws x) nowhere).hi ≤ hi := hx2.2
      exact ⟨e, h2, h3, h4, by omega, by omega⟩
  refine absurd hlt (Nat.not_lt.2 ?_)
  have key := nodup_le ((ids.filter (fun x => lies (t.flawOf x).lo (t.flawOf x).hi lo hi)).map fun x => Value.int .i64 (dayI E (atOf t.flaws x : Int))) (openGo t.D0 (hi.toNat + 1 - lo.toNat) lo.toNat) ?_ ?_
  · rwa [List.length_map] at key
  · rw [List.nodup_iff_pairwise_ne, List.pairwise_map]
    have hpw : (ids.filter (fun x => lies (t.flawOf x).lo (t.flawOf x).hi lo hi)).Pairwise (· < ·) := by
      simp only [Tour.listed, Bool.and_eq_true] at hl
      exact (incr_lt _ hl.1).filter _
    refine List.Pairwise.imp_of_mem ?_ hpw
    intro x y hx hy hxy he
    obtain ⟨d, d1, d2, -⟩ := hday x hx
    obtain ⟨e, e1, e2, -⟩ := hday y hy
    injection he with _ he2
    have hde : d = e := by omega
    subst hde
    have h3 : atOf t.flaws x = atOf t.flaws y := by omega
    have h4 := atOf_id (listed_mem hl (List.mem_filter.1 hx).1)
    have h5 := atOf_id (listed_mem hl (List.mem_filter.1 hy).1)
    simp only [h3] at h4
    omega
  · intro v hv
    obtain ⟨x, hx, rfl⟩ := List.mem_map.1 hv
    obtain ⟨d, d1, d2, d3, d4, d5⟩ := hday x hx
    rw [d1]
    exact openGo_mem _ _ _ d (by omega) (by omega) d3

theorem trail_span {t : Tour} {C : Nat → Int} {u : Nat} {L : List Nat} {T : Nat → Int} (hp : PlanD t.flaws t.D0 C) (ht : Trail (canD t.flaws t.D0) C u L T) : ∀ (n j : Nat) (l : Nat), j < n → L[j]? = some l → ∀ q d : Int, loN t.flaws l ≤ q → q ≤ hiN t.flaws l → (loN t.flaws u ≤ d ∧ d ≤ q ∨ q ≤ d ∧ d ≤ loN t.flaws u) → ∃ l', l' ∈ L ∧ loN t.flaws l' ≤ d ∧ d ≤ hiN t.flaws l' := by
  intro n
  induction n with
  | zero => intro j l hj; exact absurd hj (Nat.not_lt_zero j)
  | succ n ih =>
    intro j l hj hl q d hq1 hq2 hd
    rcases ht.src l (List.mem_of_getElem? hl) with e | ⟨e, h1, h2⟩
    · subst e
      exact ⟨l, List.mem_of_getElem? hl, by omega, by omega⟩
    · rcases ht.tkr e with h3 | ⟨i, h3⟩
      · omega
      · obtain ⟨h4, j1, h5, h6⟩ := ht.take e i h3
        obtain ⟨j2, h7, h8⟩ := h6 l h1
        have h9 := nodup_idx ht.nodup h8 hl
        subst h9
        obtain ⟨-, -, c1, c2, c3⟩ := h4
        obtain ⟨-, -, -, c4, c5⟩ := hp.mat.ok e l h1
        have h60 := D0_lt c1
        rw [show e % 60 = e by omega] at c2 c3 c4 c5
        have c2' : loN t.flaws i ≤ (e : Int) := c2
        have c3' : (e : Int) ≤ hiN t.flaws i := c3
        have c4' : loN t.flaws l ≤ (e : Int) := c4
        have c5' : (e : Int) ≤ hiN t.flaws l := c5
        by_cases hb : loN t.flaws u ≤ d ∧ d ≤ (e : Int) ∨ (e : Int) ≤ d ∧ d ≤ loN t.flaws u
        · exact ih j1 i (by omega) h5 e d c2' c3' hb
        · exact ⟨l, List.mem_of_getElem? hl, by omega, by omega⟩
theorem hull_cover {t : Tour} {C : Nat → Int} {u : Nat} {L : List Nat} {T : Nat → Int} {lo hi : Int} (hp : PlanD t.flaws t.D0 C) (hle : ∀ l, l ∈ L → loN t.flaws l ≤ hiN t.flaws l) (h : FullFor t.flaws t.D0 C u lo hi L T) (d : Int) (h1 : lo ≤ d) (h2 : d ≤ hi) : ∃ l', l' ∈ L ∧ loN t.flaws l' ≤ d ∧ d ≤ hiN t.flaws l' := by
  obtain ⟨a, ha, hla⟩ := h.lo1
  obtain ⟨b, hb, hhb⟩ := h.hi1
  obtain ⟨ja, hja, hja2⟩ := List.mem_iff_getElem.1 ha
  obtain ⟨jb, hjb, hjb2⟩ := List.mem_iff_getElem.1 hb
  have hle1 := hle a ha
  have hle2 := hle b hb
  by_cases hd : d ≤ loN t.flaws u
  · exact trail_span hp h.tr (ja + 1) ja a (Nat.lt_succ_self _) (by rw [List.getElem?_eq_getElem hja, hja2]) (loN t.flaws a) d (Int.le_refl _) hle1 (.inr ⟨by omega, hd⟩)
  · exact trail_span hp h.tr (jb + 1) jb b (Nat.lt_succ_self _) (by rw [List.getElem?_eq_getElem hjb, hjb2]) (hiN t.flaws b) d hle2 (Int.le_refl _) (.inl ⟨by omega, by omega⟩)
def holder (C : Nat → Int) (v : Value) : Int := match v with
  | .int _ d => C d.toNat
  | _ => -1
theorem hull_room {t : Tour} {C : Nat → Int} {u : Nat} {L : List Nat} {T : Nat → Int} {lo hi : Int} (hp : PlanD t.flaws t.D0 C) (hn : ¬ Has C u) (hle : ∀ l, l ∈ L → loN t.flaws l ≤ hiN t.flaws l) (h0 : 0 ≤ lo) (h : FullFor t.flaws t.D0 C u lo hi L T) : t.room lo hi < L.length := by
  have huL : u ∈ L := List.mem_of_getElem? h.tr.head
  have hlh : lo ≤ hi := Int.le_trans (h.lo2 u huL) (Int.le_trans (hle u huL) (h.hi2 u huL))
  have hheld : ∀ v, v ∈ openGo t.D0 (hi.toNat + 1 - lo.toNat) lo.toNat → ∃ (d g : Nat), v = .int .i64 (d : Int) ∧ C d = (g : Int) ∧ g ∈ L ∧ g ≠ u := by
    intro v hv
    obtain ⟨d, h1, h2, h3, rfl⟩ := openGo_mem2 _ _ _ _ hv
    have h60 := D0_lt h3
    obtain ⟨l, hl, hl1, hl2⟩ := hull_cover hp hle h (d : Int) (by omega) (by omega)
    have hc : canD t.flaws t.D0 l d := ⟨h.lt l hl, by omega, h3, by rw [show d % 60 = d by omega]; exact hl1, by rw [show d % 60 = d by omega]; exact hl2⟩
    obtain ⟨g, hg, hgL⟩ := h.full.days l hl d hc
    exact ⟨d, g, rfl, hg, hgL, fun e => hn ⟨d, by rw [hg, e]⟩⟩
  have key := nodup_le ((openGo t.D0 (hi.toNat + 1 - lo.toNat) lo.toNat).map (holder C)) ((L.erase u).map fun l : Nat => (l : Int)) ?_ ?_
  · rw [List.length_map, List.length_map, List.length_erase_of_mem huL] at key
    rw [room_go]
    have := List.length_pos_of_mem huL
    omega
  · rw [List.nodup_iff_pairwise_ne, List.pairwise_map]
    have hpw := openGo_nodup t.D0 (hi.toNat + 1 - lo.toNat) lo.toNat
    rw [List.nodup_iff_pairwise_ne] at hpw
    refine List.Pairwise.imp_of_mem (fun {a b} ha hb hab he => hab ?_) hpw
    obtain ⟨d, g, rfl, h1, -, -⟩ := hheld a ha
    obtain ⟨e, g2, rfl, h2, -, -⟩ := hheld b hb
    simp only [holder, Int.toNat_natCast] at he
    rw [hp.mat.one d e g h1 (by omega)]
  · intro z hz
    obtain ⟨v, hv, rfl⟩ := List.mem_map.1 hz
    obtain ⟨d, g, rfl, h1, h2, h3⟩ := hheld v hv
    simp only [holder, Int.toNat_natCast, h1]
    exact List.mem_map.2 ⟨g, (List.mem_erase_of_ne h3).2 h2, rfl⟩
end Go.Proofs.Try
