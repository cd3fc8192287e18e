/- Contracts of functions, walked. -/
import Derived.Test.YtbpdmnkbehapcaaChecked
import Derived.Test.YtbpdmnkbehapcaaRows
import Derived.Below
import Derived.Carry
import Derived.Deep.Slices
import Derived.Deep.Fields
import Derived.ChangeSame
import Derived.ProofKit
import Derived.OpenShut
import Derived.ShutString
import Derived.ChangeOld
import Derived.Lib.SmallJoins
import Derived.Test.YtbpdmnkbehapcaaStRH
import Derived.Test.YtbpdmnkbehapcaaStPE
set_option linter.all false
namespace Go.Proofs.Try
open Go Go.Am Go.RowKit
set_option maxRecDepth 100000


section
variable {P : Program} {H : AHeap} {f : AF} {dst : Option Tmp} {ty : TypeId} {src : String} {af : Array Edge} {g : Option (Nat × Bool)}
theorem rem_v {K : Value → AHeap → Prop} {t t' : TypeId} {x y : Operand} {a b : Int} (hx : f.eval x = .int .i64 a) (hy : f.eval y = .int .i64 b) (ha : 0 ≤ a) (hb : 1 ≤ b) (h : K (.int .i64 (a % b)) H) : HoldsV (aPlain P ⟨dst, .binOp .rem t x y t', ty, src, af, g⟩ (evR (opReads ⟨dst, .binOp .rem t x y t', ty, src, af, g⟩) f) H pairK) K := by
  rw [aPlain_rem (a := a) (b := b) (by rw [evR_self (by simp [Op.operands])]; exact hx) (by rw [evR_self (by simp [Op.operands])]; exact hy) ha hb]; exact h
theorem conv_v {K : Value → AHeap → Prop} {x : Operand} {a : Int} (hx : f.eval x = .int .u8 a) (ha : 0 ≤ a ∧ a ≤ 255) (h : K (.int .i64 a) H) : HoldsV (valA Try.prog ⟨dst, .convert 5 3 x, ty, src, af, g⟩ (Am.decode (Op.convert 5 3 x)) (evR (opReads ⟨dst, .convert 5 3 x, ty, src, af, g⟩) f) H pairK) K := by
  show HoldsV (aPlain Try.prog ⟨dst, .convert 5 3 x, ty, src, af, g⟩ (evR (opReads ⟨dst, .convert 5 3 x, ty, src, af, g⟩) f) H pairK) K
  rw [aPlain_conv (a := a) (q := .u8) (fun ev hx => conv5 ev hx) (by rw [evR_self (by simp [Op.operands])]; exact hx) (by omega)]; exact h
end
theorem rotF_at {F : List Flaw} {r : Int} {k : Nat} (h : 0 < F.length) (hr : 0 ≤ r) : ∃ q, ∃ hq : q < F.length, ((k : Int) + r) % (F.length : Int) = (q : Int) ∧ rotF F r.toNat (k + 1) = rotF F r.toNat k ++ [F[q]] := by
  refine ⟨(k + r.toNat) % F.length, Nat.mod_lt _ h, ?_, rotF_succ h⟩
  have e : (k : Int) + r = ((k + r.toNat : Nat) : Int) := by omega
  rw [e]
  norm_cast
def inIds (ids : List Int) (a : Flaw) : Bool := decide (a.id ∈ ids)
def Tour.only (t : Tour) (ids : List Int) : Tour := ⟨t.days, t.closed, t.flaws.filter (inIds ids)⟩
def Tour.rot (t : Tour) (r : Nat) : Tour := ⟨t.days, t.closed, rotF t.flaws r t.flaws.length⟩
theorem worthOf_bound {t : Tour} (hg : Good t) {C : Nat → Int} {l : List (Int × Int)} (h : BestIs t C l) : 0 ≤ t.worthOf C ∧ t.worthOf C ≤ 120000000 := by
  have := worthD_bound hg.fok h.plan.val 120 (Nat.le_refl _)
  unfold Tour.worthOf
  omega
theorem partsW {t : Tour} (hg : Good t) (ids : List Int) (r : Nat) {C C1 C2 C3 : Nat → Int} {l l1 l2 l3 : List (Int × Int)} (h : BestIs t C l) (h1 : BestIs (t.only ids) C1 l1) (h2 : BestIs (t.less ids) C2 l2) (h3 : BestIs (t.rot r) C3 l3) :
    t.worthOf C ≤ (t.only ids).worthOf C1 + (t.less ids).worthOf C2 ∧ (t.only ids).worthOf C1 ≤ t.worthOf C ∧ (t.less ids).worthOf C2 ≤ t.worthOf C ∧ (t.rot r).worthOf C3 = t.worthOf C := by
  have h0 : ∀ a, a ∈ t.flaws → 0 ≤ a.merit := fun a ha => (hg.fok a ha).m0
  have hs1 : ∀ a, a ∈ (t.only ids).flaws → a ∈ t.flaws := fun a ha => (List.mem_filter.1 ha).1
  have hs2 : ∀ a, a ∈ (t.less ids).flaws → a ∈ t.flaws := fun a ha => (List.mem_filter.1 ha).1
  have hn1 : ((t.only ids).flaws.map (·.id)).Nodup := hg.nodup.sublist (List.filter_sublist.map _)
  have hn2 : ((t.less ids).flaws.map (·.id)).Nodup := hg.nodup.sublist (List.filter_sublist.map _)
  have hn3 : ((t.rot r).flaws.map (·.id)).Nodup := rotF_nodup hg.nodup
  refine ⟨two_worth hg.nodup hn1 hn2 (fun a ha => ?_) h.plan h1.plan h2.plan h1.best h2.best (fun a ha => h0 a (hs1 a ha)) (fun a ha => h0 a (hs2 a ha)), less_worth hn1 hg.nodup hs1 h1.plan h.plan h.best h0, less_worth hn2 hg.nodup hs2 h2.plan h.plan h.best h0, Int.le_antisymm (less_worth hn3 hg.nodup (fun a ha => rotF_mem a ha) h3.plan h.plan h.best h0) (less_worth hg.nodup hn3 (rotF_all hg.nodup) h.plan h3.plan h3.best (fun a ha => h0 a (rotF_mem a ha)))⟩
  by_cases hm : a.id ∈ ids
  · exact .inl ⟨List.mem_filter.2 ⟨ha, by simp [inIds, hm]⟩, fun h => by have := (List.mem_filter.1 h).2; simp [hm] at this⟩
  · exact .inr ⟨fun h => by have := (List.mem_filter.1 h).2; simp [inIds, hm] at this, List.mem_filter.2 ⟨ha, by simp [hm]⟩⟩

set_option maxHeartbeats 8000000 in
theorem law9 {H : AHeap} {v lv : Value} {t : Tour} {ids : List Int} {τ : Int} (hv : TourV H v t) (hl : Ints H lv ids) (hτ : 0 ≤ τ ∧ τ ≤ 255) :
    CallS Try.prog [] 9 [v, lv, .int .u8 τ] H fun r _ => r = .bool true := by
  have HV := Lib.hid hv
  have HL := Lib.hid hl
  obtain ⟨cv, fv, rfl, hc, hf⟩ := hv
  obtain ⟨hcl', ca, cc, rfl⟩ := hc.slice
  obtain ⟨hfl, fa, fc, rfl⟩ := hf.slice
  obtain ⟨hll, la, lc, rfl⟩ := hl.slice
  have HC := Lib.hid hc
  have HF := Lib.hid hf
  clear hc hf hl
  have HFEW := Lib.hid (fun (loops : List (Nat × LInfo)) (H2 : AHeap) (hx : Ext H H2) => few_s (loops := loops) (HV.out.ext hx))
  by_cases h1 : t.few = true
  case' neg =>
    have h1b : t.few = false := by simpa using h1
    rw [h1b] at HFEW
    refine CallS.enter' Try.func9 rfl Try.ntmps9 (by simp) fun f hd hf => ?_
    have f0 := hf 0
    have f1 := hf 1
    have f2 := hf 2
    simp at f0 f1 f2
    clear hf h1 h1b
    repeat' (first|(with_reducible first|refine zA ?_|refine zB fun K hK=>?_|refine zC fun K2 hK2=>?_|refine zD ?_|refine zE ?_|refine zF ?_|refine zG ?_|refine zH ?_|refine zI ?_|refine zM ?_|refine zN ?_|refine zO ?_|refine zP ?_|refine zQ ?_|refine zR ?_)|((with_reducible refine zU (hK _ _ ?_));clear hK K)|((with_reducible refine zV ?_ ?_ fun K1 K3 d hdst h1 h3=>?_);rfl;exact yB rfl;cases hdst;go_simp)|((with_reducible refine zW fun K1 K3 h1 h3=>?_);go_simp)|((first|refine h1 ?_|refine h3 ?_);clear h1 h3 K1 K3)|((first|refine zX (fun hb=>h1 ?_) (fun hb=>h3 ?_)|refine zX (fun hb=>h3 ?_) (fun hb=>h1 ?_))<;>(clear h1 h3 K1 K3;(try have hb2:=yC hb);(try have hb2:=yD hb);(try have hb2:=yE hb);(try have hb2:=yF hb);(try have hb2:=yG hb)))|(refine fun (K2:_→AHeap→Prop) hK2=>?_)|((with_reducible refine zY ?_ ?_);decide)|((with_reducible first|refine zZ ?_ (fun K hK=>?_)|refine yA ?_ (fun K hK=>?_));(focus go_simp;done);go_simp;refine hK _ _ ?_;clear hK K)|(go_simp;(try go_bits);(try first |((with_reducible show CallS _ _ _ _ _ _);first|(refine CallS.mono head_s ?_; rintro _ _ ⟨rfl, h9⟩; rw [h9]; clear h9; go_simp)|(refine CallS.mono (HFEW.out _ _ ((Ext.refl _).push' _)) ?_; rintro _ _ ⟨rfl, h9⟩; rw [h9]; clear h9; go_simp)));refine hK2 _ _ ?_;clear hK2 K2))
    rfl
  rw [h1] at HFEW
  by_cases h2 : 60 < ids.length
  case' pos =>
    have h2b : (60 : Int) < (ids.length : Int) := by omega
    refine CallS.enter' Try.func9 rfl Try.ntmps9 (by simp) fun f hd hf => ?_
    have f0 := hf 0
    have f1 := hf 1
    have f2 := hf 2
    simp at f0 f1 f2
    clear hf h1
    repeat' (first|(with_reducible first|refine zA ?_|refine zB fun K hK=>?_|refine zC fun K2 hK2=>?_|refine zD ?_|refine zE ?_|refine zF ?_|refine zG ?_|refine zH ?_|refine zI ?_|refine zM ?_|refine zN ?_|refine zO ?_|refine zP ?_|refine zQ ?_|refine zR ?_)|((with_reducible refine zU (hK _ _ ?_));clear hK K)|((with_reducible refine zV ?_ ?_ fun K1 K3 d hdst h1 h3=>?_);rfl;exact yB rfl;cases hdst;go_simp)|((with_reducible refine zW fun K1 K3 h1 h3=>?_);go_simp)|((first|refine h1 ?_|refine h3 ?_);clear h1 h3 K1 K3)|((first|refine zX (fun hb=>h1 ?_) (fun hb=>h3 ?_)|refine zX (fun hb=>h3 ?_) (fun hb=>h1 ?_))<;>(clear h1 h3 K1 K3;(try have hb2:=yC hb);(try have hb2:=yD hb);(try have hb2:=yE hb);(try have hb2:=yF hb);(try have hb2:=yG hb)))|(refine fun (K2:_→AHeap→Prop) hK2=>?_)|((with_reducible refine zY ?_ ?_);decide)|((with_reducible first|refine zZ ?_ (fun K hK=>?_)|refine yA ?_ (fun K hK=>?_));(focus go_simp;done);go_simp;refine hK _ _ ?_;clear hK K)|(go_simp;(try go_bits);(try first |((with_reducible show CallS _ _ _ _ _ _);first|(refine CallS.mono head_s ?_; rintro _ _ ⟨rfl, h9⟩; rw [h9]; clear h9; go_simp)|(refine CallS.mono (HFEW.out _ _ ((Ext.refl _).push' _)) ?_; rintro _ _ ⟨rfl, h9⟩; rw [h9]; clear h9; go_simp)));refine hK2 _ _ ?_;clear hK2 K2))
    rfl
  have h2b : ¬ (60 : Int) < (ids.length : Int) := by omega
  have hfew : t.closed.length ≤ 1000 ∧ t.flaws.length ≤ 1000 := by
    simp only [Tour.few, Bool.and_eq_true, Bool.or_eq_true, decide_eq_true_eq] at h1
    omega
  have HWT := Lib.hid (fun (loops : List (Nat × LInfo)) (H2 : AHeap) (hx : Ext H H2) => withoutT_e (loops := loops) (HV.out.ext hx) (HL.out.ext hx) hfew.1 hfew.2)
  have HME := Lib.hid (fun (loops : List (Nat × LInfo)) (H2 : AHeap) (hx : Ext H H2) => merit_s (loops := loops) (HV.out.ext hx))
  unfold MeritR at HME
  by_cases he : errList t ids = 0
  case' neg =>
    have heb : (errList t ids != 0) = true := by simpa using he
    have HEQ : ∃ er : Int, errList t ids = er := ⟨_, rfl⟩
    obtain ⟨er, hee⟩ := HEQ
    rw [hee] at HWT heb
    have HM2 : Hid (∀ (loops : List (Nat × LInfo)) (H2 : AHeap), Ext H H2 → CallS Try.prog loops 15 [.agg #[.int .i64 t.days, .slice ca t.closed.length cc, .slice fa t.flaws.length fc]] H2 fun r H' => (∃ w e : Int, r = .tuple #[.int .i64 w, .int .i64 e]) ∧ H' = H2) := Lib.hid (fun loops H2 hx => (HME.out loops H2 hx).mono fun r H' h => ⟨by
      have h1 := h.1
      split at h1
      · obtain ⟨C, l, rfl, -⟩ := h1; exact ⟨_, _, rfl⟩
      · exact ⟨_, _, h1⟩, h.2⟩)
    refine CallS.enter' Try.func9 rfl Try.ntmps9 (by simp) fun f hd hf => ?_
    have f0 := hf 0
    have f1 := hf 1
    have f2 := hf 2
    simp at f0 f1 f2
    clear hf h1 he hee HME
    repeat' (first|(with_reducible first|refine zA ?_|refine zB fun K hK=>?_|refine zC fun K2 hK2=>?_|refine zD ?_|refine zE ?_|refine zF ?_|refine zG ?_|refine zH ?_|refine zI ?_|refine zM ?_|refine zN ?_|refine zO ?_|refine zP ?_|refine zQ ?_|refine zR ?_)|((with_reducible refine zU (hK _ _ ?_));clear hK K)|((with_reducible refine zV ?_ ?_ fun K1 K3 d hdst h1 h3=>?_);rfl;exact yB rfl;cases hdst;go_simp)|((with_reducible refine zW fun K1 K3 h1 h3=>?_);go_simp)|((first|refine h1 ?_|refine h3 ?_);clear h1 h3 K1 K3)|((first|refine zX (fun hb=>h1 ?_) (fun hb=>h3 ?_)|refine zX (fun hb=>h3 ?_) (fun hb=>h1 ?_))<;>(clear h1 h3 K1 K3;(try have hb2:=yC hb);(try have hb2:=yD hb);(try have hb2:=yE hb);(try have hb2:=yF hb);(try have hb2:=yG hb)))|(refine fun (K2:_→AHeap→Prop) hK2=>?_)|((with_reducible refine zY ?_ ?_);decide)|((with_reducible first|refine zZ ?_ (fun K hK=>?_)|refine yA ?_ (fun K hK=>?_));(focus go_simp;done);go_simp;refine hK _ _ ?_;clear hK K)|(go_simp;(try go_bits);(try first |((with_reducible show CallS _ _ _ _ _ _);first|(refine CallS.mono head_s ?_; rintro _ _ ⟨rfl, h9⟩; rw [h9]; clear h9; go_simp)|(refine CallS.mono (HFEW.out _ _ ((Ext.refl _).push' _)) ?_; rintro _ _ ⟨rfl, h9⟩; rw [h9]; clear h9; go_simp)|(refine CallS.mono (HWT.out _ _ ((Ext.refl _).push' _)) ?_; rintro _ H2 ⟨⟨cv2, fv2, d2, ⟨ca2, n1, cc2, rfl⟩, ⟨fa2, n2, fc2, rfl⟩, rfl, -⟩, hx2⟩; (have HX2 := Lib.hid hx2); (have hn2 : H.n < H2.n := by have := hx2.n; simp only [AHeap.n_push] at this; omega); (have hq2 : cellsAt H2 H.n 0 3 = some [.int .i64 t.days, .slice ca t.closed.length cc, .slice fa t.flaws.length fc] := (hx2.cellsAt (by simp only [AHeap.n_push]; omega)).trans (by go_simp)); clear hx2; go_simp)|(refine CallS.mono (HM2.out _ _ (((Ext.push _).trans HX2.out).push' _)) ?_; rintro _ _ ⟨⟨w, e, rfl⟩, h9⟩; rw [h9]; clear h9; go_simp)));refine hK2 _ _ ?_;clear hK2 K2))
    all_goals rfl
  obtain ⟨hg, her⟩ := errList_few he
  simp only [if_pos her] at HME
  rw [he] at HWT
  have HG := Lib.hid hg
  refine CallS.enter' Try.func9 rfl Try.ntmps9 (by simp) fun f hd hf => ?_
  have f0 := hf 0
  have f1 := hf 1
  have f2 := hf 2
  simp at f0 f1 f2
  clear hf h1 he her hg
  repeat' (first|((with_reducible refine stop_seq (n := 8) ?_))|(with_reducible first|refine zA ?_|refine zB fun K hK=>?_|refine zC fun K2 hK2=>?_|refine zD ?_|refine zE ?_|refine zF ?_|refine zG ?_|refine zH ?_|refine zI ?_|refine zM ?_|refine zN ?_|refine zO ?_|refine zP ?_|refine zQ ?_|refine zR ?_)|((with_reducible refine zU (hK _ _ ?_));clear hK K)|((with_reducible refine zV ?_ ?_ fun K1 K3 d hdst h1 h3=>?_);rfl;exact yB rfl;cases hdst;go_simp)|((with_reducible refine zW fun K1 K3 h1 h3=>?_);go_simp)|((first|refine h1 ?_|refine h3 ?_);clear h1 h3 K1 K3)|((first|refine zX (fun hb=>h1 ?_) (fun hb=>h3 ?_)|refine zX (fun hb=>h3 ?_) (fun hb=>h1 ?_))<;>(clear h1 h3 K1 K3;(try have hb2:=yC hb);(try have hb2:=yD hb);(try have hb2:=yE hb);(try have hb2:=yF hb);(try have hb2:=yG hb)))|(refine fun (K2:_→AHeap→Prop) hK2=>?_)|((with_reducible refine zY ?_ ?_);decide)|((with_reducible first|refine zZ ?_ (fun K hK=>?_)|refine yA ?_ (fun K hK=>?_));(focus go_simp;done);go_simp;refine hK _ _ ?_;clear hK K)|(go_simp;(try go_bits);(try first |((with_reducible show CallS _ _ _ _ _ _);first|(refine CallS.mono head_s ?_; rintro _ _ ⟨rfl, h9⟩; rw [h9]; clear h9; go_simp)|(refine CallS.mono (HFEW.out _ _ ((Ext.refl _).push' _)) ?_; rintro _ _ ⟨rfl, h9⟩; rw [h9]; clear h9; go_simp)|(refine CallS.mono (HWT.out _ _ ((Ext.refl _).push' _)) ?_; rintro _ H2 ⟨⟨cv2, fv2, d2, ⟨ca2, n1, cc2, rfl⟩, ⟨fa2, n2, fc2, rfl⟩, rfl, htv⟩, hx2⟩; (have HTV := Lib.hid (htv rfl)); (have HX2 := Lib.hid hx2); (have hn2 : H.n < H2.n := by have := hx2.n; simp only [AHeap.n_push] at this; omega); (have hq2 : H2.get H.n = .row [.int .i64 t.days, .slice ca t.closed.length cc, .slice fa t.flaws.length fc] 25 := (hx2.get _ (by simp only [AHeap.n_push]; omega)).trans AHeap.get_push_new); (have hq3 : cellsAt H2 H.n 0 3 = some [.int .i64 t.days, .slice ca t.closed.length cc, .slice fa t.flaws.length fc] := by simp [cellsAt, hq2]); (have HQ2 := Lib.hid hq2); clear hx2 htv hq2; go_simp)|(refine CallS.mono (HME.out _ _ (((Ext.push _).trans HX2.out).push' _)) ?_; rintro _ _ ⟨⟨C, sl, rfl, hbi⟩, h9⟩; rw [h9]; clear h9; (have HBI := Lib.hid hbi); clear hbi; go_simp)));refine hK2 _ _ ?_;clear hK2 K2))
  have hK0 : (H2.push (.row [.int .i64 d2, .slice ca2 n1 cc2, .slice fa2 n2 fc2] 25)).get H.n = .row [.int .i64 t.days, .slice ca t.closed.length cc, .slice fa t.flaws.length fc] 25 := (AHeap.get_push_old hn2).trans HQ2.out
  have hK8 : (H2.push (.row [.int .i64 d2, .slice ca2 n1 cc2, .slice fa2 n2 fc2] 25)).get H2.n = .row [.int .i64 d2, .slice ca2 n1 cc2, .slice fa2 n2 fc2] 25 := AHeap.get_push_new
  have hxK : Ext H (H2.push (.row [.int .i64 d2, .slice ca2 n1 cc2, .slice fa2 n2 fc2] 25)) := ((Ext.push _).trans HX2.out).push' _
  have htK : TourV (H2.push (.row [.int .i64 d2, .slice ca2 n1 cc2, .slice fa2 n2 fc2] 25)) (.agg #[.int .i64 d2, .slice ca2 n1 cc2, .slice fa2 n2 fc2]) (t.less ids) := HTV.out.ext (Ext.push _)
  have hnK : (H2.push (.row [.int .i64 d2, .slice ca2 n1 cc2, .slice fa2 n2 fc2] 25)).n = H2.n + 1 := AHeap.n_push _ _
  generalize hK : H2.push (.row [.int .i64 d2, .slice ca2 n1 cc2, .slice fa2 n2 fc2] 25) = KH at hK0 hK8 hxK htK hnK ⊢
  refine ⟨genC (fun f K' => f.tmp 1 = .slice la ids.length lc ∧ f.tmp 2 = .int .u8 τ ∧ f.tmp 3 = .pointer (some ⟨H.n, 0, none⟩) ∧ f.tmp 7 = .bool true ∧ f.tmp 8 = .pointer (some ⟨H2.n, 0, none⟩) ∧ f.tmp 10 = .int .i64 (t.worthOf C) ∧ f.defers = [] ∧ K' = KH) ⟨(by first|go_simp<;>go_num|assumption), (by first|go_simp<;>go_num|assumption), (by first|go_simp<;>go_num|assumption), (by first|go_simp<;>go_num|assumption), (by first|go_simp<;>go_num|assumption), (by first|go_simp<;>go_num|assumption), (by first|go_simp<;>go_num|assumption), rfl⟩ ?_⟩
  have HK0 := Lib.hid hK0
  have HK8 := Lib.hid hK8
  have HXK := Lib.hid hxK
  have HTK := Lib.hid htK
  have hcq3 : cellsAt KH H.n 0 3 = some [.int .i64 t.days, .slice ca t.closed.length cc, .slice fa t.flaws.length fc] := by simp [cellsAt, hK0]
  clear f0 f1 f2 hd f hK0 hK8 hxK htK hK HQ2 hq3 HTV HX2 HME HWT HFEW
  rintro f K' ⟨f1, f2, f3, f7, f8, f10, hd, e9⟩
  have e9 := e9.symm
  subst e9
  have hHK : H.n < KH.n := by omega
  have hH2K : H2.n < KH.n := by omega
  clear hnK
  repeat' (first|(with_reducible first|refine zA ?_|refine zB fun K hK=>?_|refine zC fun K2 hK2=>?_|refine zD ?_|refine zE ?_|refine zF ?_|refine zG ?_|refine zH ?_|refine zI ?_|refine zM ?_|refine zN ?_|refine zO ?_|refine zP ?_|refine zQ ?_|refine zR ?_)|((with_reducible refine zU (hK _ _ ?_));clear hK K)|((with_reducible refine zV ?_ ?_ fun K1 K3 d hdst h1 h3=>?_);rfl;exact yB rfl;cases hdst;go_simp)|((with_reducible refine zW fun K1 K3 h1 h3=>?_);go_simp)|((first|refine h1 ?_|refine h3 ?_);clear h1 h3 K1 K3)|((first|refine zX (fun hb=>h1 ?_) (fun hb=>h3 ?_)|refine zX (fun hb=>h3 ?_) (fun hb=>h1 ?_))<;>(clear h1 h3 K1 K3;(try have hb2:=yC hb);(try have hb2:=yD hb);(try have hb2:=yE hb);(try have hb2:=yF hb);(try have hb2:=yG hb)))|(refine fun (K2:_→AHeap→Prop) hK2=>?_)|((with_reducible refine zY ?_ ?_);decide)|((with_reducible first|refine zZ ?_ (fun K hK=>?_)|refine yA ?_ (fun K hK=>?_));(focus go_simp;done);go_simp;refine hK _ _ ?_;clear hK K)|(go_simp;(try go_bits);refine hK2 _ _ ?_;clear hK2 K2))
  have hgA : ((KH.push (.row [.int .i64 t.days, .slice ca t.closed.length cc, .slice none 0 0] 25)).push (.row [.int .i64 t.days, .slice ca t.closed.length cc, .slice none 0 0] 25)).get KH.n = .row [.int .i64 t.days, .slice ca t.closed.length cc, .slice none 0 0] 25 := (AHeap.get_push_old (by rw [AHeap.n_push]; exact Nat.lt_succ_self _)).trans AHeap.get_push_new
  have hgB : ((KH.push (.row [.int .i64 t.days, .slice ca t.closed.length cc, .slice none 0 0] 25)).push (.row [.int .i64 t.days, .slice ca t.closed.length cc, .slice none 0 0] 25)).get (KH.n + 1) = .row [.int .i64 t.days, .slice ca t.closed.length cc, .slice none 0 0] 25 := AHeap.get_push_new
  have hgX : Ext KH ((KH.push (.row [.int .i64 t.days, .slice ca t.closed.length cc, .slice none 0 0] 25)).push (.row [.int .i64 t.days, .slice ca t.closed.length cc, .slice none 0 0] 25)) := ((Ext.refl _).push' _).push' _
  have hgN : ((KH.push (.row [.int .i64 t.days, .slice ca t.closed.length cc, .slice none 0 0] 25)).push (.row [.int .i64 t.days, .slice ca t.closed.length cc, .slice none 0 0] 25)).n = KH.n + 2 := by simp only [AHeap.n_push]
  generalize ((KH.push (.row [.int .i64 t.days, .slice ca t.closed.length cc, .slice none 0 0] 25)).push (.row [.int .i64 t.days, .slice ca t.closed.length cc, .slice none 0 0] 25)) = G at hgA hgB hgX hgN ⊢
  refine CodeS.loop (fun m f K' => ∃ (k : Nat) (ov rv : Value), k ≤ t.flaws.length ∧ m = t.flaws.length - k ∧ f.tmp 14 = .int .i64 k ∧ f.tmp 1 = .slice la ids.length lc ∧ f.tmp 2 = .int .u8 τ ∧ f.tmp 3 = .pointer (some ⟨H.n, 0, none⟩) ∧ f.tmp 7 = .bool true ∧ f.tmp 8 = .pointer (some ⟨H2.n, 0, none⟩) ∧ f.tmp 10 = .int .i64 (t.worthOf C) ∧ f.tmp 12 = .pointer (some ⟨KH.n, 0, none⟩) ∧ f.tmp 13 = .pointer (some ⟨KH.n + 1, 0, none⟩) ∧ f.defers = [] ∧
    Hid (Own K' (KH.n + 2) ov 32 4 (flawCells ((t.flaws.take k).filter (inIds ids)))) ∧ Hid (Own K' (KH.n + 2) rv 32 4 (flawCells (rotF t.flaws τ.toNat k))) ∧ Hid (∀ i, isBlk ov i → ¬ isBlk rv i) ∧ Hid (K'.get KH.n = .row [.int .i64 t.days, .slice ca t.closed.length cc, ov] 25) ∧ Hid (K'.get (KH.n + 1) = .row [.int .i64 t.days, .slice ca t.closed.length cc, rv] 25) ∧ Hid (Ext KH K') ∧ KH.n + 2 ≤ K'.n) t.flaws.length ?_ ?_
  · refine ⟨0, .slice none 0 0, .slice none 0 0, by omega, by omega, (by first|go_simp<;>go_num|assumption), (by first|go_simp<;>go_num|assumption), (by first|go_simp<;>go_num|assumption), (by first|go_simp<;>go_num|assumption), (by first|go_simp<;>go_num|assumption), (by first|go_simp<;>go_num|assumption), (by first|go_simp<;>go_num|assumption), (by first|go_simp<;>go_num|assumption), (by first|go_simp<;>go_num|assumption), (by first|go_simp<;>go_num|assumption), Lib.hid Own.nil, Lib.hid Own.nil, Lib.hid (fun i hi => by obtain ⟨n, h1, h2⟩ := hi; cases h1), Lib.hid hgA, Lib.hid hgB, Lib.hid hgX, by omega⟩
  clear f1 f2 f3 f7 f8 f10 hd f hgA hgB hgX hgN G
  rintro m f J1 ⟨k, ov, rv, hk, rfl, f14, f1, f2, f3, f7, f8, f10, f12, f13, hd, HOV, HRV, HSEP, HGA, HGB, HXJ, hnJ⟩
  have hcj3 : cellsAt J1 H.n 0 3 = some [.int .i64 t.days, .slice ca t.closed.length cc, .slice fa t.flaws.length fc] := (HXJ.out.cellsAt hHK).trans hcq3
  have hcj2 : cellAt J1 H.n 2 = some (.slice fa t.flaws.length fc) := by rw [cellAt, HXJ.out.get _ hHK, HK0.out]; rfl
  have HXHJ := Lib.hid (HXK.out.trans HXJ.out)
  obtain ⟨oa, on, rfl⟩ := own_slice HOV.out
  obtain ⟨ra, rn, rfl⟩ := own_slice HRV.out
  by_cases hlt : k < t.flaws.length
  · have hki : (k : Int) < (t.flaws.length : Int) := by omega
    obtain ⟨b1, o1, sp1, rfl, hb1, hx4, hx5⟩ := (HF.out.ext HXHJ.out).at_ hlt
    have hx0 := hx5 0 _ rfl
    simp only [Nat.add_zero] at hx0
    have HFS := Lib.hid (filter_step (p := inIds ids) hlt)
    generalize t.flaws[k] = a at hx4 hx0 HFS
    have HHS := Lib.hid (fun (loops : List (Nat × LInfo)) => has_s (loops := loops) (x := a.id) (HL.out.ext HXHJ.out))
    clear hx5
    repeat' (first|((with_reducible refine stop_if (n := 15) ?_))|(with_reducible first|refine zA ?_|refine zB fun K hK=>?_|refine zC fun K2 hK2=>?_|refine zD ?_|refine zE ?_|refine zF ?_|refine zG ?_|refine zH ?_|refine zI ?_|refine zM ?_|refine zN ?_|refine zO ?_|refine zP ?_|refine zQ ?_|refine zR ?_)|((with_reducible refine zU (hK _ _ ?_));clear hK K)|((with_reducible refine zV ?_ ?_ fun K1 K3 d hdst h1 h3=>?_);rfl;exact yB rfl;cases hdst;go_simp)|((with_reducible refine zW fun K1 K3 h1 h3=>?_);go_simp)|((first|refine h1 ?_|refine h3 ?_);clear h1 h3 K1 K3)|((first|refine zX (fun hb=>h1 ?_) (fun hb=>h3 ?_)|refine zX (fun hb=>h3 ?_) (fun hb=>h1 ?_))<;>(clear h1 h3 K1 K3;(try have hb2:=yC hb);(try have hb2:=yD hb);(try have hb2:=yE hb);(try have hb2:=yF hb);(try have hb2:=yG hb)))|(refine fun (K2:_→AHeap→Prop) hK2=>?_)|((with_reducible refine zY ?_ ?_);decide)|((with_reducible first|refine zZ ?_ (fun K hK=>?_)|refine yA ?_ (fun K hK=>?_));(focus go_simp;done);go_simp;refine hK _ _ ?_;clear hK K)|(go_simp;(try go_bits);refine hK2 _ _ ?_;clear hK2 K2))
    refine ⟨CodeS.cut (fun f K2 => f.tmp 14 = .int .i64 k ∧ f.tmp 1 = .slice la ids.length lc ∧ f.tmp 2 = .int .u8 τ ∧ f.tmp 3 = .pointer (some ⟨H.n, 0, none⟩) ∧ f.tmp 7 = .bool true ∧ f.tmp 8 = .pointer (some ⟨H2.n, 0, none⟩) ∧ f.tmp 10 = .int .i64 (t.worthOf C) ∧ f.tmp 12 = .pointer (some ⟨KH.n, 0, none⟩) ∧ f.tmp 13 = .pointer (some ⟨KH.n + 1, 0, none⟩) ∧ f.defers = [] ∧ ∃ ov2 : Value, Hid (Own K2 (KH.n + 2) ov2 32 4 (flawCells ((t.flaws.take (k + 1)).filter (inIds ids)))) ∧ Hid (Own K2 (KH.n + 2) (.slice ra rn rn) 32 4 (flawCells (rotF t.flaws τ.toNat k))) ∧ Hid (∀ i, isBlk ov2 i → ¬ isBlk (.slice ra rn rn) i) ∧ Hid (K2.get KH.n = .row [.int .i64 t.days, .slice ca t.closed.length cc, ov2] 25) ∧ Hid (K2.get (KH.n + 1) = .row [.int .i64 t.days, .slice ca t.closed.length cc, .slice ra rn rn] 25) ∧ Hid (Ext KH K2) ∧ KH.n + 2 ≤ K2.n) ?_ ?_⟩
    · by_cases hm : a.id ∈ ids
      · rw [decide_eq_true hm] at HHS
        have HFS2 : Hid ((t.flaws.take (k + 1)).filter (inIds ids) = (t.flaws.take k).filter (inIds ids) ++ [a]) := Lib.hid (by rw [HFS.out, if_pos (by simp [inIds, hm])])
        have hbig : ((flawCells ((t.flaws.take k).filter (inIds ids))).length + 4) * max 32 1 ≤ 1073741824 := by
          have h1 := List.length_filter_le (inIds ids) (t.flaws.take k)
          have h2 := List.length_take_le k t.flaws
          rw [flawCells_length]; simp; omega
        have HBIG := Lib.hid hbig
        obtain ⟨ai, alo, ahi, am⟩ := a
        simp only [Flaw.cells] at hx4
        have hcA : cellAt J1 KH.n 2 = some (.slice oa on on) := by rw [cellAt, HGA.out]; rfl
        have hAn : KH.n < J1.n := by omega
        have hBn : KH.n + 1 < J1.n := by omega
        have hHn : H.n < J1.n := by omega
        have hga := HGA.out
        clear hbig hm HFS
        repeat' (first|(with_reducible first|refine zA ?_|refine zB fun K hK=>?_|refine zC fun K2 hK2=>?_|refine zD ?_|refine zE ?_|refine zF ?_|refine zG ?_|refine zH ?_|refine zI ?_|refine zM ?_|refine zN ?_|refine zO ?_|refine zP ?_|refine zQ ?_|refine zR ?_)|((with_reducible refine zU (hK _ _ ?_));clear hK K)|((with_reducible refine zV ?_ ?_ fun K1 K3 d hdst h1 h3=>?_);rfl;exact yB rfl;cases hdst;go_simp)|((with_reducible refine zW fun K1 K3 h1 h3=>?_);go_simp)|((first|refine h1 ?_|refine h3 ?_);clear h1 h3 K1 K3)|((first|refine zX (fun hb=>h1 ?_) (fun hb=>h3 ?_)|refine zX (fun hb=>h3 ?_) (fun hb=>h1 ?_))<;>(clear h1 h3 K1 K3;(try have hb2:=yC hb);(try have hb2:=yD hb);(try have hb2:=yE hb);(try have hb2:=yF hb);(try have hb2:=yG hb)))|(refine fun (K2:_→AHeap→Prop) hK2=>?_)|((with_reducible refine zY ?_ ?_);decide)|((with_reducible first|refine zZ ?_ (fun K hK=>?_)|refine yA ?_ (fun K hK=>?_));(focus go_simp;done);go_simp;refine hK _ _ ?_;clear hK K)|((with_reducible refine yH mixed rfl ?_ 20 fun K0 hK0=>?_);kernel_rfl)|(with_reducible first|exact yI|exact yJ|refine yK ?_|refine yL ?_|refine yM ?_)|((with_reducible first|refine yN ?_ ?_|refine yO ?_ ?_|refine yP ?_ ?_);rfl)|((with_reducible refine yQ ?_ ?_);rfl;refine hK0 _ _ ?_;clear hK0 K0)|((with_reducible refine yR ?_ ?_ ?_ ?_);rfl;rfl;rfl)|((with_reducible refine yS ?_ ?_ ?_ fun K2 hK2=>?_);rfl;rfl;exact yB rfl)|((with_reducible refine yT ?_ ?_ ?_ ?_ fun K1 K3 d hdst h1 h3=>?_);rfl;rfl;rfl;exact yB rfl;cases hdst;go_simp)|((with_reducible refine yU ?_ ?_ ?_ ?_ fun K1 K3 d hdst h1 h3=>?_);rfl;rfl;rfl;exact yB rfl;cases hdst;go_simp)|((with_reducible refine yV ?_ ?_ (fun K2 hK2=>?_) ?_);rfl;exact yB rfl)|((with_reducible refine yW ?_ ?_ ?_ ?_ (fun K2 hK2=>?_) ?_);rfl;exact yB rfl;rfl;(focus go_simp;done))|((with_reducible refine yX ?_ ?_ ?_ (fun K2 hK2=>?_) ?_);rfl;rfl;exact yB rfl)|((with_reducible refine yY ?_ ?_ (fun K2 hK2=>?_) ?_);rfl;rfl)|((with_reducible refine yZ ?_ ?_);(first|rfl|(dsimp only;decide +kernel)))|((with_reducible refine xA ?_ ?_);(focus go_simp;done))|(go_simp;(try go_bits);(try first | ((with_reducible show CallS _ _ _ _ _ _);refine CallS.mono (HHS.out _) ?_; rintro _ _ ⟨rfl, h9⟩; rw [h9]; clear h9; go_simp) | ((refine one_v el23 sz32 ze32 rfl (by decide) (by decide) rfl rfl ?_); go_simp) | ((refine append_v el23 sz32 by32 ze32 rfl (by decide) (HOV.out.ext (Ext.push _)) (srcCells_new rfl) (by decide) rfl (by rw [List.all_append, flawCells_one]; rfl) HBIG.out (by rw [AHeap.n_push]; omega) fun v2 H4 ho4 hg4 => ?_); (obtain ⟨a4, n4, rfl⟩ := own_slice ho4); (have HO4 := Lib.hid ho4); (have HG4 := Lib.hid hg4); (have hkp : ∀ i, i < J1.n → ¬ isBlk (.slice oa on on) i → H4.get i = J1.get i := fun i hi hb => (hg4.2 i (by rw [AHeap.n_push]; omega) (fun b n hv hn e => hb (by rw [e]; exact ⟨n, hv, hn⟩))).trans (AHeap.get_push_old hi)); (have HKP := Lib.hid hkp); (have hnb : ∀ i, i < KH.n + 2 → ¬ isBlk (.slice oa on on) i := fun i hi hb => by have := (isBlk_own HOV.out hb).1; omega); (have hA4 : H4.get KH.n = .row [.int .i64 t.days, .slice ca t.closed.length cc, .slice oa on on] 25 := (hkp _ hAn (hnb _ (by omega))).trans hga); (have hA4c : cellAt H4 KH.n 2 = some (.slice oa on on) := by simp [cellAt, hA4]); (have hH4c : cellAt H4 H.n 2 = some (.slice (some ⟨b1, o1, sp1⟩) t.flaws.length fc) := (cellAt_get (hkp _ hHn (hnb _ (by omega)))).trans hcj2); (have hb1K : b1 < KH.n := by obtain ⟨b9, o9, s9, he9, hb9, -⟩ := HF.out.at_ hlt; cases he9; have := HXK.out.n; omega); (have hx4c : cellsAt H4 b1 (o1 + k * 4) 4 = some [.int .i64 ai, .int .i64 alo, .int .i64 ahi, .int .i64 am] := (cellsAt_get (hkp _ (by omega) (hnb _ (by omega)))).trans hx4); clear ho4 hg4; go_simp));(first|(refine hK2 _ _ ?_ ?_<;>clear hK2 K2)|(refine hK2 _ _ ?_;clear hK2 K2))))
        have hn4 := HG4.out.1
        simp only [AHeap.n_push] at hn4
        refine ⟨(by first|go_simp<;>go_num|assumption), (by first|go_simp<;>go_num|assumption), (by first|go_simp<;>go_num|assumption), (by first|go_simp<;>go_num|assumption), (by first|go_simp<;>go_num|assumption), (by first|go_simp<;>go_num|assumption), (by first|go_simp<;>go_num|assumption), (by first|go_simp<;>go_num|assumption), (by first|go_simp<;>go_num|assumption), (by first|go_simp<;>go_num|assumption), .slice a4 n4 n4, Lib.hid ?_, Lib.hid ?_, Lib.hid ?_, Lib.hid ?_, Lib.hid ?_, Lib.hid ?_, by rw [AHeap.n_upd]; omega⟩
        · rw [HFS2.out, flawCells_append]
          refine own_at (HO4.out.mono (by rw [AHeap.n_push]; omega)) (by rw [AHeap.n_upd]; exact Nat.le_refl _) fun i n hv hn => ?_
          have := (own_block HO4.out hv hn).1
          simp only [AHeap.n_push] at this
          rw [AHeap.get_upd_ne (by omega)]
        · refine own_at HRV.out (by rw [AHeap.n_upd]; omega) fun i n hv hn => ?_
          have h5 := own_block HRV.out hv hn
          rw [AHeap.get_upd_ne (by omega)]
          exact HKP.out i h5.2.1 fun hb => HSEP.out i hb ⟨n, hv, hn⟩
        · intro i hi hb
          have h5 := (isBlk_own HO4.out hi).1
          have h6 := (isBlk_own HRV.out hb).2.1
          simp only [AHeap.n_push] at h5
          omega
        · rw [AHeap.get_upd_same]
        · rw [AHeap.get_upd_ne (by omega), HKP.out _ hBn (hnb _ (by omega))]
          exact HGB.out
        · refine Ext.upd ⟨by omega, fun i hi => ?_⟩ (Nat.le_refl _) _
          rw [HKP.out i (by omega) (hnb _ (by omega))]
          exact HXJ.out.get i hi
      · rw [decide_eq_false hm] at HHS
        have HFS2 : Hid ((t.flaws.take (k + 1)).filter (inIds ids) = (t.flaws.take k).filter (inIds ids)) := Lib.hid (by rw [HFS.out, if_neg (by simp [inIds, hm]), List.append_nil])
        clear hm HFS
        repeat' (first|(with_reducible first|refine zA ?_|refine zB fun K hK=>?_|refine zC fun K2 hK2=>?_|refine zD ?_|refine zE ?_|refine zF ?_|refine zG ?_|refine zH ?_|refine zI ?_|refine zM ?_|refine zN ?_|refine zO ?_|refine zP ?_|refine zQ ?_|refine zR ?_)|((with_reducible refine zU (hK _ _ ?_));clear hK K)|((with_reducible refine zV ?_ ?_ fun K1 K3 d hdst h1 h3=>?_);rfl;exact yB rfl;cases hdst;go_simp)|((with_reducible refine zW fun K1 K3 h1 h3=>?_);go_simp)|((first|refine h1 ?_|refine h3 ?_);clear h1 h3 K1 K3)|((first|refine zX (fun hb=>h1 ?_) (fun hb=>h3 ?_)|refine zX (fun hb=>h3 ?_) (fun hb=>h1 ?_))<;>(clear h1 h3 K1 K3;(try have hb2:=yC hb);(try have hb2:=yD hb);(try have hb2:=yE hb);(try have hb2:=yF hb);(try have hb2:=yG hb)))|(refine fun (K2:_→AHeap→Prop) hK2=>?_)|((with_reducible refine zY ?_ ?_);decide)|((with_reducible first|refine zZ ?_ (fun K hK=>?_)|refine yA ?_ (fun K hK=>?_));(focus go_simp;done);go_simp;refine hK _ _ ?_;clear hK K)|((with_reducible refine yH mixed rfl ?_ 20 fun K0 hK0=>?_);kernel_rfl)|(with_reducible first|exact yI|exact yJ|refine yK ?_|refine yL ?_|refine yM ?_)|((with_reducible first|refine yN ?_ ?_|refine yO ?_ ?_|refine yP ?_ ?_);rfl)|((with_reducible refine yQ ?_ ?_);rfl;refine hK0 _ _ ?_;clear hK0 K0)|((with_reducible refine yR ?_ ?_ ?_ ?_);rfl;rfl;rfl)|((with_reducible refine yS ?_ ?_ ?_ fun K2 hK2=>?_);rfl;rfl;exact yB rfl)|((with_reducible refine yT ?_ ?_ ?_ ?_ fun K1 K3 d hdst h1 h3=>?_);rfl;rfl;rfl;exact yB rfl;cases hdst;go_simp)|((with_reducible refine yU ?_ ?_ ?_ ?_ fun K1 K3 d hdst h1 h3=>?_);rfl;rfl;rfl;exact yB rfl;cases hdst;go_simp)|((with_reducible refine yV ?_ ?_ (fun K2 hK2=>?_) ?_);rfl;exact yB rfl)|((with_reducible refine yW ?_ ?_ ?_ ?_ (fun K2 hK2=>?_) ?_);rfl;exact yB rfl;rfl;(focus go_simp;done))|((with_reducible refine yX ?_ ?_ ?_ (fun K2 hK2=>?_) ?_);rfl;rfl;exact yB rfl)|((with_reducible refine yY ?_ ?_ (fun K2 hK2=>?_) ?_);rfl;rfl)|((with_reducible refine yZ ?_ ?_);(first|rfl|(dsimp only;decide +kernel)))|((with_reducible refine xA ?_ ?_);(focus go_simp;done))|(go_simp;(try go_bits);(try first | ((with_reducible show CallS _ _ _ _ _ _);refine CallS.mono (HHS.out _) ?_; rintro _ _ ⟨rfl, h9⟩; rw [h9]; clear h9; go_simp));(first|(refine hK2 _ _ ?_ ?_<;>clear hK2 K2)|(refine hK2 _ _ ?_;clear hK2 K2))))
        exact ⟨(by first|go_simp<;>go_num|assumption), (by first|go_simp<;>go_num|assumption), (by first|go_simp<;>go_num|assumption), (by first|go_simp<;>go_num|assumption), (by first|go_simp<;>go_num|assumption), (by first|go_simp<;>go_num|assumption), (by first|go_simp<;>go_num|assumption), (by first|go_simp<;>go_num|assumption), (by first|go_simp<;>go_num|assumption), (by first|go_simp<;>go_num|assumption), .slice oa on on, Lib.hid (by rw [HFS2.out]; exact HOV.out), HRV, HSEP, HGA, HGB, HXJ, by omega⟩
    · clear f14 f1 f2 f3 f7 f8 f10 f12 f13 hd HHS hcj3 hcj2 hx4 hx0 HFS HXHJ HOV HRV HSEP HGA HGB hnJ hb1 f
      rintro f J2 ⟨f14, f1, f2, f3, f7, f8, f10, f12, f13, hd, ov2, HOV, HRV, HSEP, HGA, HGB, HXJ2, hnJ⟩
      obtain ⟨q, hql, hqe, hrs⟩ := rotF_at (F := t.flaws) (r := τ) (k := k) (by omega) hτ.1
      have HXHJ := Lib.hid (HXK.out.trans HXJ2.out)
      obtain ⟨b2, o2, s2, e2, hb1, hx4, -⟩ := (HF.out.ext HXHJ.out).at_ hql
      cases e2
      have HRS := Lib.hid hrs
      have HQE := Lib.hid hqe
      have hqi : (q : Int) < (t.flaws.length : Int) := by omega
      clear hrs hqe
      generalize t.flaws[q] = a2 at hx4 HRS
      obtain ⟨oa2, on2, rfl⟩ := own_slice HOV.out
      have HBIG := Lib.hid (show ((flawCells (rotF t.flaws τ.toNat k)).length + 4) * max 32 1 ≤ 1073741824 by
        rw [flawCells_length]; simp [rotF]; omega)
      obtain ⟨ai, alo, ahi, am⟩ := a2
      simp only [Flaw.cells] at hx4
      have hcB : cellAt J2 (KH.n + 1) 2 = some (.slice ra rn rn) := by rw [cellAt, HGB.out]; rfl
      have hcj2 : cellAt J2 H.n 2 = some (.slice (some ⟨b1, o1, sp1⟩) t.flaws.length fc) := by rw [cellAt, HXJ2.out.get _ hHK, HK0.out]; rfl
      have hAn : KH.n < J2.n := by omega
      have hBn : KH.n + 1 < J2.n := by omega
      have hHn : H.n < J2.n := by omega
      have hb1K : b1 < KH.n := by obtain ⟨b9, o9, s9, he9, hb9, -⟩ := HF.out.at_ hlt; cases he9; have := HXK.out.n; omega
      have hGB := HGB.out
      have hs0 : 0 ≤ (k : Int) + τ := by omega
      have hs1 : (1 : Int) ≤ (t.flaws.length : Int) := by omega
      have hs2 : (k : Int) + τ ≤ 9223372036854775807 := by omega
      repeat' (first|((with_reducible refine xA ?_ ?_); focus (refine conv_v (a := τ) (by go_simp) hτ rfl; done)) | ((with_reducible refine xA ?_ ?_); focus (go_simp; refine rem_v (a := (k : Int) + τ) (b := (t.flaws.length : Int)) (by go_simp) (by go_simp) hs0 hs1 ?_; rw [HQE.out]; done))|(with_reducible first|refine zA ?_|refine zB fun K hK=>?_|refine zC fun K2 hK2=>?_|refine zD ?_|refine zE ?_|refine zF ?_|refine zG ?_|refine zH ?_|refine zI ?_|refine zM ?_|refine zN ?_|refine zO ?_|refine zP ?_|refine zQ ?_|refine zR ?_)|((with_reducible refine zU (hK _ _ ?_));clear hK K)|((with_reducible refine zV ?_ ?_ fun K1 K3 d hdst h1 h3=>?_);rfl;exact yB rfl;cases hdst;go_simp)|((with_reducible refine zW fun K1 K3 h1 h3=>?_);go_simp)|((first|refine h1 ?_|refine h3 ?_);clear h1 h3 K1 K3)|((first|refine zX (fun hb=>h1 ?_) (fun hb=>h3 ?_)|refine zX (fun hb=>h3 ?_) (fun hb=>h1 ?_))<;>(clear h1 h3 K1 K3;(try have hb2:=yC hb);(try have hb2:=yD hb);(try have hb2:=yE hb);(try have hb2:=yF hb);(try have hb2:=yG hb)))|(refine fun (K2:_→AHeap→Prop) hK2=>?_)|((with_reducible refine zY ?_ ?_);decide)|((with_reducible first|refine zZ ?_ (fun K hK=>?_)|refine yA ?_ (fun K hK=>?_));(focus go_simp;done);go_simp;refine hK _ _ ?_;clear hK K)|((with_reducible refine yH mixed rfl ?_ 20 fun K0 hK0=>?_);kernel_rfl)|(with_reducible first|exact yI|exact yJ|refine yK ?_|refine yL ?_|refine yM ?_)|((with_reducible first|refine yN ?_ ?_|refine yO ?_ ?_|refine yP ?_ ?_);rfl)|((with_reducible refine yQ ?_ ?_);rfl;refine hK0 _ _ ?_;clear hK0 K0)|((with_reducible refine yR ?_ ?_ ?_ ?_);rfl;rfl;rfl)|((with_reducible refine yS ?_ ?_ ?_ fun K2 hK2=>?_);rfl;rfl;exact yB rfl)|((with_reducible refine yT ?_ ?_ ?_ ?_ fun K1 K3 d hdst h1 h3=>?_);rfl;rfl;rfl;exact yB rfl;cases hdst;go_simp)|((with_reducible refine yU ?_ ?_ ?_ ?_ fun K1 K3 d hdst h1 h3=>?_);rfl;rfl;rfl;exact yB rfl;cases hdst;go_simp)|((with_reducible refine yV ?_ ?_ (fun K2 hK2=>?_) ?_);rfl;exact yB rfl)|((with_reducible refine yW ?_ ?_ ?_ ?_ (fun K2 hK2=>?_) ?_);rfl;exact yB rfl;rfl;(focus go_simp;done))|((with_reducible refine yX ?_ ?_ ?_ (fun K2 hK2=>?_) ?_);rfl;rfl;exact yB rfl)|((with_reducible refine yY ?_ ?_ (fun K2 hK2=>?_) ?_);rfl;rfl)|((with_reducible refine yZ ?_ ?_);(first|rfl|(dsimp only;decide +kernel)))|((with_reducible refine xA ?_ ?_);(focus go_simp;done))|(go_simp;(try go_bits);(try first | ((refine conv_v (a := τ) (by go_simp) hτ ?_); go_simp) | ((refine rem_v (a := (k : Int) + τ) (b := (t.flaws.length : Int)) (by go_simp) (by go_simp) hs0 hs1 ?_); rw [HQE.out]; go_simp) | ((refine one_v el23 sz32 ze32 rfl (by decide) (by decide) rfl rfl ?_); go_simp) | ((refine append_v el23 sz32 by32 ze32 rfl (by decide) (HRV.out.ext (Ext.push _)) (srcCells_new rfl) (by decide) rfl (by rw [List.all_append, flawCells_one]; rfl) HBIG.out (by rw [AHeap.n_push]; omega) fun v2 H4 ho4 hg4 => ?_); (obtain ⟨a4, n4, rfl⟩ := own_slice ho4); (have HO4 := Lib.hid ho4); (have HG4 := Lib.hid hg4); (have hkp : ∀ i, i < J2.n → ¬ isBlk (.slice ra rn rn) i → H4.get i = J2.get i := fun i hi hb => (hg4.2 i (by rw [AHeap.n_push]; omega) (fun b n hv hn e => hb (by rw [e]; exact ⟨n, hv, hn⟩))).trans (AHeap.get_push_old hi)); (have HKP := Lib.hid hkp); (have hnb : ∀ i, i < KH.n + 2 → ¬ isBlk (.slice ra rn rn) i := fun i hi hb => by have := (isBlk_own HRV.out hb).1; omega); (have hA4 : H4.get (KH.n + 1) = .row [.int .i64 t.days, .slice ca t.closed.length cc, .slice ra rn rn] 25 := (hkp _ hBn (hnb _ (by omega))).trans hGB); (have hA4c : cellAt H4 (KH.n + 1) 2 = some (.slice ra rn rn) := by simp [cellAt, hA4]); (have hH4c : cellAt H4 H.n 2 = some (.slice (some ⟨b1, o1, sp1⟩) t.flaws.length fc) := (cellAt_get (hkp _ hHn (hnb _ (by omega)))).trans hcj2); (have hx4c : cellsAt H4 b1 (o1 + q * 4) 4 = some [.int .i64 ai, .int .i64 alo, .int .i64 ahi, .int .i64 am] := (cellsAt_get (hkp _ (by omega) (hnb _ (by omega)))).trans hx4); clear ho4 hg4; go_simp));(first|(refine hK2 _ _ ?_ ?_<;>clear hK2 K2)|(refine hK2 _ _ ?_;clear hK2 K2))))
      have hn4 := HG4.out.1
      simp only [AHeap.n_push] at hn4
      refine Post.round_normal ⟨t.flaws.length - (k + 1), by omega, k + 1, .slice oa2 on2 on2, .slice a4 n4 n4, by omega, rfl, (by first|go_simp<;>go_num|assumption), (by first|go_simp<;>go_num|assumption), (by first|go_simp<;>go_num|assumption), (by first|go_simp<;>go_num|assumption), (by first|go_simp<;>go_num|assumption), (by first|go_simp<;>go_num|assumption), (by first|go_simp<;>go_num|assumption), (by first|go_simp<;>go_num|assumption), (by first|go_simp<;>go_num|assumption), (by first|go_simp<;>go_num|assumption), Lib.hid ?_, Lib.hid ?_, Lib.hid ?_, Lib.hid ?_, Lib.hid ?_, Lib.hid ?_, by rw [AHeap.n_upd]; omega⟩
      · refine own_at HOV.out (by rw [AHeap.n_upd]; omega) fun i n hv hn => ?_
        have h5 := own_block HOV.out hv hn
        rw [AHeap.get_upd_ne (by omega)]
        exact HKP.out i h5.2.1 fun hb => HSEP.out i ⟨n, hv, hn⟩ hb
      · rw [HRS.out, flawCells_append]
        refine own_at (HO4.out.mono (by rw [AHeap.n_push]; omega)) (by rw [AHeap.n_upd]; exact Nat.le_refl _) fun i n hv hn => ?_
        have := (own_block HO4.out hv hn).1
        simp only [AHeap.n_push] at this
        rw [AHeap.get_upd_ne (by omega)]
      · intro i hi hb
        have h5 := (isBlk_own HO4.out hb).1
        have h6 := (isBlk_own HOV.out hi).2.1
        simp only [AHeap.n_push] at h5
        omega
      · rw [AHeap.get_upd_ne (by omega), HKP.out _ hAn (hnb _ (by omega))]
        exact HGA.out
      · rw [AHeap.get_upd_same]
      · refine Ext.upd ⟨by omega, fun i hi => ?_⟩ (by omega) _
        rw [HKP.out i (by omega) (hnb _ (by omega))]
        exact HXJ2.out.get i hi
  · have hki : ¬ (k : Int) < (t.flaws.length : Int) := by omega
    have hke : k = t.flaws.length := by omega
    subst hke
    rw [List.take_length] at HOV
    have hcA : cellsAt J1 KH.n 0 3 = some [.int .i64 t.days, .slice ca t.closed.length cc, .slice oa on on] := by simp [cellsAt, HGA.out]
    have hcB : cellsAt J1 (KH.n + 1) 0 3 = some [.int .i64 t.days, .slice ca t.closed.length cc, .slice ra rn rn] := by simp [cellsAt, HGB.out]
    have hcD : cellsAt J1 H2.n 0 3 = some [.int .i64 d2, .slice ca2 n1 cc2, .slice fa2 n2 fc2] := by
      rw [HXJ.out.cellsAt hH2K]; simp [cellsAt, HK8.out]
    have hs1 : ∀ a, a ∈ (t.only ids).flaws → a ∈ t.flaws := fun a ha => (List.mem_filter.1 ha).1
    have hs2 : ∀ a, a ∈ (t.less ids).flaws → a ∈ t.flaws := fun a ha => (List.mem_filter.1 ha).1
    have he1 : err (t.only ids) = 0 := err_sub HG.out hs1 (HG.out.nodup.sublist (List.filter_sublist.map _))
    have he2 : err (t.less ids) = 0 := err_sub HG.out hs2 (HG.out.nodup.sublist (List.filter_sublist.map _))
    have he3 : err (t.rot τ.toNat) = 0 := err_sub HG.out (fun a ha => rotF_mem a ha) (rotF_nodup HG.out.nodup)
    have hl1 := List.length_filter_le (inIds ids) t.flaws
    have hV1 : TourV J1 (.agg #[.int .i64 t.days, .slice ca t.closed.length cc, .slice oa on on]) (t.only ids) := ⟨_, _, rfl, HC.out.ext HXHJ.out, flaws_own HOV.out (by show (t.flaws.filter _).length ≤ _; omega)⟩
    have hV3 : TourV J1 (.agg #[.int .i64 t.days, .slice ca t.closed.length cc, .slice ra rn rn]) (t.rot τ.toNat) := ⟨_, _, rfl, HC.out.ext HXHJ.out, flaws_own HRV.out (by show (rotF _ _ _).length ≤ _; simp only [rotF, List.length_map, List.length_range]; omega)⟩
    have HM1 := Lib.hid (fun (loops : List (Nat × LInfo)) => merit_s (loops := loops) hV1)
    have HM2 := Lib.hid (fun (loops : List (Nat × LInfo)) => merit_s (loops := loops) (HTK.out.ext HXJ.out))
    have HM3 := Lib.hid (fun (loops : List (Nat × LInfo)) => merit_s (loops := loops) hV3)
    unfold MeritR at HM1 HM2 HM3
    simp only [if_pos he1] at HM1
    simp only [if_pos he2] at HM2
    simp only [if_pos he3] at HM3
    have HE := Lib.hid (And.intro he1 (And.intro he2 he3))
    clear hlt hs1 hs2 he1 he2 he3 hl1 hV1 hV3 hcj3 hcq3
    repeat' (first|(with_reducible first|refine zA ?_|refine zB fun K hK=>?_|refine zC fun K2 hK2=>?_|refine zD ?_|refine zE ?_|refine zF ?_|refine zG ?_|refine zH ?_|refine zI ?_|refine zM ?_|refine zN ?_|refine zO ?_|refine zP ?_|refine zQ ?_|refine zR ?_)|((with_reducible refine zU (hK _ _ ?_));clear hK K)|((with_reducible refine zV ?_ ?_ fun K1 K3 d hdst h1 h3=>?_);rfl;exact yB rfl;cases hdst;go_simp)|((with_reducible refine zW fun K1 K3 h1 h3=>?_);go_simp)|((first|refine h1 ?_|refine h3 ?_);clear h1 h3 K1 K3)|((first|refine zX (fun hb=>h1 ?_) (fun hb=>h3 ?_)|refine zX (fun hb=>h3 ?_) (fun hb=>h1 ?_))<;>(clear h1 h3 K1 K3;(try have hb2:=yC hb);(try have hb2:=yD hb);(try have hb2:=yE hb);(try have hb2:=yF hb);(try have hb2:=yG hb)))|(refine fun (K2:_→AHeap→Prop) hK2=>?_)|((with_reducible refine zY ?_ ?_);decide)|((with_reducible first|refine zZ ?_ (fun K hK=>?_)|refine yA ?_ (fun K hK=>?_));(focus go_simp;done);go_simp;refine hK _ _ ?_;clear hK K)|(go_simp;(try go_bits);(try first |((with_reducible show CallS _ _ _ _ _ _);first|(refine CallS.mono (HM1.out _) ?_; rintro _ _ ⟨⟨C1, l1, rfl, hb1⟩, h9⟩; rw [h9]; clear h9; (have HB1 := Lib.hid hb1); clear hb1; go_simp)|(refine CallS.mono (HM2.out _) ?_; rintro _ _ ⟨⟨C2, l2, rfl, hb2⟩, h9⟩; rw [h9]; clear h9; (have HB2 := Lib.hid hb2); clear hb2; go_simp)|(refine CallS.mono (HM3.out _) ?_; rintro _ _ ⟨⟨C3, l3, rfl, hb3⟩, h9⟩; rw [h9]; clear h9; (obtain ⟨p1, p2, p3, p4⟩ := partsW HG.out ids τ.toNat HBI.out HB1.out HB2.out hb3); (have q1 := worthOf_bound (good_of HE.out.1) HB1.out); (have q2 := worthOf_bound (good_of HE.out.2.1) HB2.out); (obtain ⟨q3, q4⟩ := q1); (obtain ⟨q5, q6⟩ := q2); clear hb3; go_simp)));refine hK2 _ _ ?_;clear hK2 K2))
    all_goals rfl
end Go.Proofs.Try
namespace Go.Proofs.Try
open Go.ChangeShapes Go.WideShapes Go.ChangeAt Go.RowKit Go.Joins Go.Deep Go.Am
set_option maxRecDepth 100000


theorem fields30 : ∃ f0 f1 : Field, Try.prog.underlying 30 = some (.struct #[f0, f1]) ∧ (f0.type = 3 ∧ f1.type = 3) ∧ (f0.offset = 0 ∧ f1.offset = 1) ∧ Try.prog.cellsOf 3 = 1 ∧ Try.prog.cellsOf 30 = 2 :=
  ⟨(fieldOf Try.prog 30 0).getD default, (fieldOf Try.prog 30 1).getD default, by kernel_rfl, by refine ⟨?_, ?_⟩ <;> kernel_rfl, by refine ⟨?_, ?_⟩ <;> kernel_rfl, by kernel_rfl, by kernel_rfl⟩
theorem fields32 : ∃ f0 f1 f2 : Field, Try.prog.underlying 32 = some (.struct #[f0, f1, f2]) ∧ (f0.type = 3 ∧ f1.type = 30 ∧ f2.type = 3) ∧ (f0.offset = 0 ∧ f1.offset = 1 ∧ f2.offset = 3) ∧ Try.prog.cellsOf 3 = 1 ∧ Try.prog.cellsOf 30 = 2 ∧ Try.prog.cellsOf 32 = 4 :=
  ⟨(fieldOf Try.prog 32 0).getD default, (fieldOf Try.prog 32 1).getD default, (fieldOf Try.prog 32 2).getD default, by kernel_rfl, by refine ⟨?_, ?_, ?_⟩ <;> kernel_rfl, by refine ⟨?_, ?_, ?_⟩ <;> kernel_rfl, by kernel_rfl, by kernel_rfl, by kernel_rfl⟩

section
variable {H : Type} {enc : TypeId × Value → H} {w : World}
theorem span_cells {fuel : Nat} {a b : Value} {x : DataW H × List MemPlace} (h : DataW.trod enc Try.prog w 0 (fun _ => true) true fuel 30 [a, b] = some x) : ∃ lo hi : Int, a = .int .i64 lo ∧ b = .int .i64 hi := by
  obtain ⟨f0, f1, hu, ⟨t0, t1⟩, ⟨o0, o1⟩, h3, h6⟩ := fields30
  obtain ⟨xs, n, _, _, _, _, ht⟩ := DataW.trod_struct hu h
  have ht0 := ht 0 f0 rfl
  have ht1 := ht 1 f1 rfl
  rw [t0, o0, h3] at ht0
  rw [t1, o1, h3] at ht1
  have hlen : xs.length = 2 := by assumption
  rw [List.getElem?_eq_getElem (by omega)] at ht0 ht1
  obtain ⟨z0, hz0, _, _⟩ := DataW.trod_int Try.underlying3 (show DataW.trod enc Try.prog w 0 (fun _ => true) true n 3 [a] = _ from ht0)
  obtain ⟨z1, hz1, _, _⟩ := DataW.trod_int Try.underlying3 (show DataW.trod enc Try.prog w 0 (fun _ => true) true n 3 [b] = _ from ht1)
  injection hz0 with hz0 _
  injection hz1 with hz1 _
  exact ⟨z0, z1, hz0, hz1⟩
theorem flaw_cells {fuel : Nat} {cs : List Value} {x : DataW H × List MemPlace} (hc : cs.length = 4) (h : DataW.trod enc Try.prog w 0 (fun _ => true) true fuel 32 cs = some x) : ∃ q : Flaw, cs = q.cells := by
  obtain ⟨f0, f1, f2, hu, ⟨t0, t1, t2⟩, ⟨o0, o1, o2⟩, h3, h4, h6⟩ := fields32
  obtain ⟨xs, n, _, _, _, _, ht⟩ := DataW.trod_struct hu h
  obtain ⟨a, b, c, d, rfl⟩ : ∃ a b c d, cs = [a, b, c, d] := by
    match cs, hc with
    | [a, b, c, d], _ => exact ⟨a, b, c, d, rfl⟩
  have ht0 := ht 0 f0 rfl
  have ht1 := ht 1 f1 rfl
  have ht2 := ht 2 f2 rfl
  rw [t0, o0, h3] at ht0
  rw [t1, o1, h4] at ht1
  rw [t2, o2, h3] at ht2
  have hlen : xs.length = 3 := by assumption
  rw [List.getElem?_eq_getElem (by omega)] at ht0 ht1 ht2
  obtain ⟨z0, hz0, _, _⟩ := DataW.trod_int Try.underlying3 (show DataW.trod enc Try.prog w 0 (fun _ => true) true n 3 [a] = _ from ht0)
  obtain ⟨lo, hi, rfl, rfl⟩ := span_cells (show DataW.trod enc Try.prog w 0 (fun _ => true) true n 30 [b, c] = _ from ht1)
  obtain ⟨z2, hz2, _, _⟩ := DataW.trod_int Try.underlying3 (show DataW.trod enc Try.prog w 0 (fun _ => true) true n 3 [d] = _ from ht2)
  injection hz0 with hz0 _
  injection hz2 with hz2 _
  exact ⟨⟨z0, lo, hi, z2⟩, by rw [hz0, hz2]; rfl⟩
end
theorem add_at (b o j : Nat) : (⟨b, o, none⟩ : Addr).add j = ⟨b, o + j, none⟩ := by
  unfold Addr.add
  split
  · rename_i h; subst h; rfl
  · rfl
theorem cell_lt {w : World} {p : Addr} {v : Value} (h : w.cell? p = some v) : p.block < w.heap.size := by
  rcases Nat.lt_or_ge p.block w.heap.size with hlt | hge
  · exact hlt
  · unfold World.cell? at h
    rw [Array.getElem?_eq_none hge] at h
    cases h
theorem cell_spot {w : World} {p : Addr} {v : Value} (h : w.cell? p = some v) : p.spot = none := by
  unfold World.cell? at h
  split at h
  · split at h
    · cases h
    · rename_i h0; simpa using h0
  · cases h


theorem slice_abs {w : World} {a : Addr} {len cap size d : Nat} {us : List Value} (hl : len ≤ cap) (hc : len ≤ 9223372036854775807) (hus : us.length = len * size) (hsz : 0 < size) (hplain : ∀ (j : Nat) (u : Value), us[j]? = some u → absV w.heap.size 8 u = u) (hcell : ∀ (j : Nat) (u : Value), us[j]? = some u → w.cell? (a.add j) = some u) : Cells (absH w) (absV w.heap.size (d + 1) (.slice (some a) len cap)) size len us ∧ CutOk (absH w) (absV w.heap.size (d + 1) (.slice (some a) len cap)) := by
  by_cases h0 : len = 0
  · subst h0
    simp only [absV]
    split
    · exact ⟨⟨hus, hc, _, _, rfl, by simp, by omega⟩, fun b o sp n c e h => by cases e; omega⟩
    · rw [if_pos trivial]; exact ⟨⟨hus, hc, _, _, rfl, by simp, by omega⟩, fun b o sp n c e h => by cases e; omega⟩
  · have hpos : 0 < us.length := by rw [hus]; exact Nat.mul_pos (by omega) hsz
    have h1 := hcell 0 _ (List.getElem?_eq_getElem hpos)
    have e0 : a.add 0 = a := by unfold Addr.add; rw [if_pos rfl]
    rw [e0] at h1
    have hsp := cell_spot h1
    have hlt := cell_lt h1
    obtain ⟨b, o, sp⟩ := a
    simp only at hsp hlt
    subst hsp
    simp only [absV]
    rw [if_pos ⟨trivial, hlt, hl⟩]
    refine ⟨⟨hus, hc, _, _, rfl, by simp, fun _ => ⟨b, o, none, rfl, by rw [absH_n]; exact hlt, fun j u hu => ?_⟩⟩, fun b' o' sp' n' c' e h => ?_⟩
    · have h2 := hcell j u hu
      rw [add_at] at h2
      rw [abs_cell h2, hplain j u hu]
    · cases e
      refine ⟨rfl, hl, ?_⟩
      unfold World.cell? at h1
      split at h1
      · rename_i c e fz hc
        have hg : (absH w).get b = .ext (c.toList.map (absV w.heap.size 8)) 0 := by
          rw [absH_get w hlt, absO]; simp only at hc; rw [hc]
        simp [elemIsR, hg]
      · cases h1

section
variable {H : Type} {enc : TypeId × Value → H} {w : World}
theorem none_abs {w : World} {d size : Nat} : Cells (absH w) (absV w.heap.size (d + 1) (.slice none 0 0)) size 0 [] ∧ CutOk (absH w) (absV w.heap.size (d + 1) (.slice none 0 0)) :=
  ⟨⟨by simp, by omega, none, 0, rfl, fun _ => rfl, by simp⟩, fun b o sp n c e h => by cases e⟩
theorem ints_abs {fuel d : Nat} {v : Value} {x : DataW H × List MemPlace} (h : DataW.trod enc Try.prog w 0 (fun _ => true) true fuel 22 [v] = some x) : ∃ xs, Ints (absH w) (absV w.heap.size (d + 1) v) xs ∧ CutOk (absH w) (absV w.heap.size (d + 1) v) := by
  rcases open_ints Try.underlying22 Try.underlying3 (by kernel_rfl) h with ⟨hcs, _⟩ | ⟨a, l, c, zs, hcs, _, hl, hm, hz, _, hcell, _⟩
  · injection hcs with hcs _
    subst hcs
    exact ⟨[], none_abs⟩
  · injection hcs with hcs _
    subst hcs
    simp only [if_true] at hz
    have hlen : (zs.take l).length = l := by rw [List.length_take]; omega
    refine ⟨zs.take l, ?_⟩
    unfold Ints
    rw [hlen]
    refine slice_abs hl (by unfold maxLen at hm; omega) (by rw [List.length_map, hlen]; omega) (by decide) (fun j u hu => ?_) (fun j u hu => ?_)
    · rw [List.getElem?_map] at hu
      obtain ⟨z, _, rfl⟩ := Option.map_eq_some_iff.1 hu
      rfl
    · rw [List.getElem?_map] at hu
      obtain ⟨z, hz1, rfl⟩ := Option.map_eq_some_iff.1 hu
      rw [List.getElem?_take] at hz1
      split at hz1
      · have hj : j < zs.length := (List.getElem?_eq_some_iff.1 hz1).1
        rw [hcell j hj, List.getD_eq_getElem?_getD, hz1]
        rfl
      · cases hz1

theorem flaws_abs {fuel d : Nat} {v : Value} {x : DataW H × List MemPlace} (h : DataW.trod enc Try.prog w 0 (fun _ => true) true fuel 23 [v] = some x) : ∃ l, Flaws (absH w) (absV w.heap.size (d + 1) v) l := by
  rcases open_slice Try.underlying23 h with ⟨hcs, _⟩ | ⟨a, len, cap, m, n, D, Pl, hcs, _, hl, hm, hmm, _, hi⟩
  · injection hcs with hcs _
    subst hcs
    exact ⟨[], none_abs.1⟩
  · injection hcs with hcs _
    subst hcs
    simp only [if_true] at hmm
    obtain ⟨_, _, _, _, _, _, _, _, hC⟩ := fields32
    have hq : ∀ i, i < len → ∃ q : Flaw, ∀ j u, q.cells[j]? = some u → w.cell? (a.add (i * 4 + j)) = some u := by
      intro i h
      obtain ⟨cs', hc, ht'⟩ := hi i (by omega)
      rw [hC] at hc
      obtain ⟨_, hcl, hat⟩ := World.cells?_some hc
      obtain ⟨q, rfl⟩ := flaw_cells hcl ht'
      refine ⟨q, fun j u hu => ?_⟩
      have hj : j < 4 := (List.getElem?_eq_some_iff.1 hu).1
      rw [← Go.Deep.add_add, hat j hj]; exact hu
    obtain ⟨f, hf'⟩ := Classical.skolem.1 (fun i => show ∃ q : Flaw, i < len → ∀ j u, q.cells[j]? = some u → w.cell? (a.add (i * 4 + j)) = some u by
      by_cases hi : i < len
      · obtain ⟨q, hq⟩ := hq i hi; exact ⟨q, fun _ => hq⟩
      · exact ⟨⟨0, 0, 0, 0⟩, fun h => absurd h hi⟩)
    have hlen : ((List.range len).map f).length = len := by simp
    refine ⟨(List.range len).map f, ?_⟩
    unfold Flaws
    rw [hlen]
    have hget : ∀ j u, (flawCells ((List.range len).map f))[j]? = some u → ∃ k i, k < len ∧ j = k * 4 + i ∧ (f k).cells[i]? = some u := by
      intro j u hu
      have hj : j < len * 4 := by
        have := (List.getElem?_eq_some_iff.1 hu).1
        rw [flawCells_length, hlen] at this; exact this
      have hk : j / 4 < len := by omega
      have hi : j % 4 < 4 := Nat.mod_lt _ (by decide)
      have hcl : (f (j / 4)).cells.length = 4 := rfl
      have h1 := flawCells_get ((List.range len).map f) (j / 4) (by rw [hlen]; exact hk) (j % 4) ((f (j / 4)).cells[j % 4]'(by rw [hcl]; exact hi)) (by simp)
      have e : j / 4 * 4 + j % 4 = j := by omega
      rw [e, hu] at h1
      refine ⟨j / 4, j % 4, hk, e.symm, ?_⟩
      rw [List.getElem?_eq_getElem (by rw [hcl]; exact hi)]
      exact h1.symm ▸ rfl
    refine (slice_abs hl (by unfold maxLen at hm; omega) (by rw [flawCells_length, hlen]) (by decide) (fun j u hu => ?_) (fun j u hu => ?_)).1
    · obtain ⟨k, i, hk, rfl, hi⟩ := hget j u hu
      match i, hi with
      | 0, hi => cases hi; rfl
      | 1, hi => cases hi; rfl
      | 2, hi => cases hi; rfl
      | 3, hi => cases hi; rfl
      | i + 4, hi => simp [Flaw.cells] at hi
    · obtain ⟨k, i, hk, rfl, hi⟩ := hget j u hu
      exact hf' k hk i u hi
end

theorem ownOne : ownKnob Try.prog.godebug = none := by kernel_rfl
theorem laidOut : laidOutB Try.prog = true := by kernel_rfl

theorem fields25 : ∃ f0 f1 f2 : Field, Try.prog.underlying 25 = some (.struct #[f0, f1, f2]) ∧ (f0.type = 3 ∧ f1.type = 22 ∧ f2.type = 23) ∧ (f0.offset = 0 ∧ f1.offset = 1 ∧ f2.offset = 2) ∧ Try.prog.cellsOf 3 = 1 ∧ Try.prog.cellsOf 22 = 1 ∧ Try.prog.cellsOf 23 = 1 ∧ Try.prog.cellsOf 25 = 3 :=
  ⟨(fieldOf Try.prog 25 0).getD default, (fieldOf Try.prog 25 1).getD default, (fieldOf Try.prog 25 2).getD default, by kernel_rfl, by refine ⟨?_, ?_, ?_⟩ <;> kernel_rfl, by refine ⟨?_, ?_, ?_⟩ <;> kernel_rfl, by kernel_rfl, by kernel_rfl, by kernel_rfl, by kernel_rfl⟩
section
variable {H : Type} {enc : TypeId × Value → H} {w : World}
theorem tour_abs {r : Reach} {b0 : Nat} {v : Value} {d : DataW H} {p : List MemPlace} (hval : Value.okWide Try.prog w r b0 25 v) (h : DataW.Trod enc Try.prog w 0 (fun _ => true) true 25 v d p) : ∃ t, TourV (absH w) (absV w.heap.size 8 v) t := by
  obtain ⟨f0, f1, f2, hu, ⟨t0, t1, t2⟩, ⟨o0, o1, o2⟩, h3, h4, h5, h6⟩ := fields25
  obtain ⟨cs, rfl, hcs⟩ := okWide_struct hu hval
  obtain ⟨fuel, hf⟩ := h
  obtain ⟨xs, n, _, _, _, _, ht⟩ := DataW.trod_struct hu hf
  rw [h6] at hcs
  obtain ⟨a, b, c, rfl⟩ : ∃ a b c, cs = #[a, b, c] := by
    obtain ⟨l⟩ := cs
    match l, hcs with
    | [a, b, c], _ => exact ⟨a, b, c, rfl⟩
  have ht0 := ht 0 f0 rfl
  have ht1 := ht 1 f1 rfl
  have ht2 := ht 2 f2 rfl
  rw [t0, o0, h3] at ht0
  rw [t1, o1, h4] at ht1
  rw [t2, o2, h5] at ht2
  have hlen : xs.length = 3 := by assumption
  rw [List.getElem?_eq_getElem (by omega)] at ht0 ht1 ht2
  obtain ⟨z, hz, _, _⟩ := DataW.trod_int Try.underlying3 (show DataW.trod enc Try.prog w 0 (fun _ => true) true n 3 [a] = _ by simpa [Value.cells] using ht0)
  obtain ⟨ws, hw, _⟩ := ints_abs (d := 6) (v := b) (by simpa [Value.cells] using ht1)
  obtain ⟨l, hl⟩ := flaws_abs (d := 6) (v := c) (by simpa [Value.cells] using ht2)
  injection hz with hz _
  subst hz
  exact ⟨⟨z, ws, l⟩, _, _, by simp [absV], hw, hl⟩
theorem u8_in {l : Int} (h : (Lit.int .u8 l).wf = true) : 0 ≤ l ∧ l ≤ 255 := by
  have h2 : IntKind.u8.min ≤ l ∧ l ≤ IntKind.u8.max := by simpa [Lit.wf] using h
  exact h2
theorem list_abs {r : Reach} {b0 : Nat} {v : Value} {d : DataW H} {p : List MemPlace} (hval : Value.okWide Try.prog w r b0 22 v) (h : DataW.Trod enc Try.prog w 0 (fun _ => true) true 22 v d p) : ∃ xs, Ints (absH w) (absV w.heap.size 8 v) xs ∧ CutOk (absH w) (absV w.heap.size 8 v) := by
  obtain ⟨a, len, cap, rfl⟩ := okWide_slice Try.underlying22 hval
  obtain ⟨fuel, hf⟩ := h
  exact ints_abs (d := 7) hf
end
end Go.Proofs.Try
