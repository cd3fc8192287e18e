/- Contracts of functions, walked. -/
import Derived.Lib.Hide
import Derived.Test.YtokhhoihalpaoaaGreatDoorChecked
import Derived.Test.YtokhhoihalpaoaaGreatDoorRows
import Derived.Below
import Derived.Carry
import Derived.Deep.Slices
import Derived.Deep.Fields
import Derived.ChangeSame
import Derived.ChangeVars
import Derived.JoinedOf
import Derived.LaidLaws
import Derived.LaidHandle
import Derived.Deep.DeepLaidRun
import Derived.Stop.Joined
import Derived.ProofKit
import Derived.OpenShut
import Derived.LaidMore
import Derived.Lib.SmallJoins
import Derived.Test.YtokhhoihalpaoaaGreatDoorStS0
import Derived.Test.YtokhhoihalpaoaaGreatDoorAmS
import Derived.Test.YtokhhoihalpaoaaGreatDoorAwB
set_option linter.all false
namespace Go.Proofs.Tryz
open Go Go.Am Go.RowKit
set_option maxRecDepth 100000


theorem head_s {loops : List (Nat × LInfo)} {H : AHeap} : CallS Tryz.prog loops 19 [] H fun r H' => r = .bool true ∧ H' = H := CallS.of_callsL rfl rfl fun w hL => sanity_calls w hL

def win (lo hi n : Int) : Bool := decide (lo ≤ n) && decide (n ≤ hi)
theorem win_iff {lo hi n : Int} : win lo hi n = true ↔ lo ≤ n ∧ n ≤ hi := by simp [win]
theorem within_s {loops : List (Nat × LInfo)} {H : AHeap} {n lo hi : Int} : CallS Tryz.prog loops 100 [.int .i64 n, .int .i64 lo, .int .i64 hi] H fun v H' => v = .bool (win lo hi n) ∧ H' = H := by
  refine CallS.enter' Tryz.func100 rfl Tryz.ntmps100 (by simp) fun f hd hf => ?_
  have f0 := hf 0
  have f1 := hf 1
  have f2 := hf 2
  simp at f0 f1 f2
  clear hf
  unfold win
  repeat' (first|(with_reducible first|refine zA ?_|refine zB fun K hK=>?_|refine zC fun K2 hK2=>?_|refine zD ?_|refine zE ?_|refine zF ?_|refine zG ?_|refine zH ?_|refine zI ?_|refine zM ?_|refine zN ?_|refine zO ?_|refine zP ?_|refine zQ ?_|refine zR ?_)|((with_reducible refine zU (hK _ _ ?_));clear hK K)|((with_reducible refine zV ?_ ?_ fun K1 K3 d hdst h1 h3=>?_);rfl;exact yB rfl;cases hdst;go_simp)|((with_reducible refine zW fun K1 K3 h1 h3=>?_);go_simp)|((first|refine h1 ?_|refine h3 ?_);clear h1 h3 K1 K3)|((first|refine zX (fun hb=>h1 ?_) (fun hb=>h3 ?_)|refine zX (fun hb=>h3 ?_) (fun hb=>h1 ?_))<;>(clear h1 h3 K1 K3;(try have hb2:=yC hb);(try have hb2:=yD hb);(try have hb2:=yE hb);(try have hb2:=yF hb);(try have hb2:=yG hb)))|(refine fun (K2:_→AHeap→Prop) hK2=>?_)|((with_reducible refine zY ?_ ?_);decide)|((with_reducible first|refine zZ ?_ (fun K hK=>?_)|refine yA ?_ (fun K hK=>?_));(focus go_simp;done);go_simp;refine hK _ _ ?_;clear hK K)|(go_simp;(try go_bits);refine hK2 _ _ ?_;clear hK2 K2))
  all_goals (refine ⟨?_, rfl⟩; simp [*])

theorem isPrice_s {loops : List (Nat × LInfo)} {H : AHeap} {n : Int} : CallS Tryz.prog loops 96 [.int .i64 n] H fun v H' => v = .bool (win 0 1048576 n) ∧ H' = H := by
  refine CallS.enter' Tryz.func96 rfl Tryz.ntmps96 (by simp) fun f hd hf => ?_
  have f0 := hf 0
  simp at f0
  clear hf
  repeat' (first|(with_reducible first|refine zA ?_|refine zB fun K hK=>?_|refine zC fun K2 hK2=>?_|refine zD ?_|refine zE ?_|refine zF ?_|refine zG ?_|refine zH ?_|refine zI ?_|refine zM ?_|refine zN ?_|refine zO ?_|refine zP ?_|refine zQ ?_|refine zR ?_)|((with_reducible refine zU (hK _ _ ?_));clear hK K)|((with_reducible refine zV ?_ ?_ fun K1 K3 d hdst h1 h3=>?_);rfl;exact yB rfl;cases hdst;go_simp)|((with_reducible refine zW fun K1 K3 h1 h3=>?_);go_simp)|((first|refine h1 ?_|refine h3 ?_);clear h1 h3 K1 K3)|((first|refine zX (fun hb=>h1 ?_) (fun hb=>h3 ?_)|refine zX (fun hb=>h3 ?_) (fun hb=>h1 ?_))<;>(clear h1 h3 K1 K3;(try have hb2:=yC hb);(try have hb2:=yD hb);(try have hb2:=yE hb);(try have hb2:=yF hb);(try have hb2:=yG hb)))|(refine fun (K2:_→AHeap→Prop) hK2=>?_)|((with_reducible refine zY ?_ ?_);decide)|((with_reducible first|refine zZ ?_ (fun K hK=>?_)|refine yA ?_ (fun K hK=>?_));(focus go_simp;done);go_simp;refine hK _ _ ?_;clear hK K)|(go_simp;(try go_bits);(try first | ((with_reducible show CallS _ _ _ _ _ _);refine CallS.mono within_s ?_; rintro _ _ ⟨rfl, rfl⟩));refine hK2 _ _ ?_;clear hK2 K2))
  exact ⟨rfl, rfl⟩

structure Terms where
  free : Int
  per : Int
  most : Int
  forf : Int
def Terms.val (t : Terms) : Value := .agg #[.int .i64 t.free, .int .i64 t.per, .int .i64 t.most, .int .i64 t.forf]
def Terms.ok (t : Terms) : Bool := win 0 730 t.free && (win t.free 730 t.forf && (win 0 1048576 t.per && win 0 1048576 t.most))
def fineE (t : Terms) (late : Int) : Int := if (t.ok && win 0 730 late) = true then 0 else 1

theorem checkTerms_s {loops : List (Nat × LInfo)} {H : AHeap} {t : Terms} {late : Int} : CallS Tryz.prog loops 97 [t.val, .int .i64 late] H fun v H' => v = .int .i64 (fineE t late) ∧ H' = H := by
  refine CallS.forget (R := fun r => r = .int .i64 (fineE t late)) (by rintro v rfl; rfl) ?_
  unfold fineE Terms.ok Terms.val
  obtain ⟨a, b, c, d⟩ := t
  refine CallS.enter' Tryz.func97 rfl Tryz.ntmps97 (by simp) fun f hd hf => ?_
  have f0 := hf 0
  have f1 := hf 1
  simp at f0 f1
  clear hf
  repeat' (first|(with_reducible first|refine zA ?_|refine zB fun K hK=>?_|refine zC fun K2 hK2=>?_|refine zD ?_|refine zE ?_|refine zF ?_|refine zG ?_|refine zH ?_|refine zI ?_|refine zM ?_|refine zN ?_|refine zO ?_|refine zP ?_|refine zQ ?_|refine zR ?_)|((with_reducible refine zU (hK _ _ ?_));clear hK K)|((with_reducible refine zV ?_ ?_ fun K1 K3 d hdst h1 h3=>?_);rfl;exact yB rfl;cases hdst;go_simp)|((with_reducible refine zW fun K1 K3 h1 h3=>?_);go_simp)|((first|refine h1 ?_|refine h3 ?_);clear h1 h3 K1 K3)|((first|refine zX (fun hb=>h1 ?_) (fun hb=>h3 ?_)|refine zX (fun hb=>h3 ?_) (fun hb=>h1 ?_))<;>(clear h1 h3 K1 K3;(try have hb2:=yC hb);(try have hb2:=yD hb);(try have hb2:=yE hb);(try have hb2:=yF hb);(try have hb2:=yG hb)))|(refine fun (K2:_→AHeap→Prop) hK2=>?_)|((with_reducible refine zY ?_ ?_);decide)|((with_reducible first|refine zZ ?_ (fun K hK=>?_)|refine yA ?_ (fun K hK=>?_));(focus go_simp;done);go_simp;refine hK _ _ ?_;clear hK K)|(go_simp;(try go_bits);(try first |((with_reducible show CallS _ _ _ _ _ _);first|(refine CallS.mono within_s ?_; rintro _ _ ⟨rfl, rfl⟩)|(refine CallS.mono isPrice_s ?_; rintro _ _ ⟨rfl, rfl⟩)));refine hK2 _ _ ?_;clear hK2 K2))
  all_goals (refine ⟨?_, (Ext.refl _).push' _⟩; simp_all)

end Go.Proofs.Tryz
namespace Go.Proofs.Tryz
open Go Go.Am Go.RowKit
set_option maxRecDepth 100000


theorem st66 : structOk Tryz.prog 66 = true := by kernel_rfl
theorem mul_bd {a b A B : Int} (ha : 0 ≤ a) (hA : a ≤ A) (hb : 0 ≤ b) (hB : b ≤ B) : 0 ≤ a * b ∧ a * b ≤ A * B :=
  ⟨Int.mul_nonneg ha hb, Int.mul_le_mul hA hB hb (Int.le_trans ha hA)⟩

def fineV (t : Terms) (late : Int) : Int := min t.most (max 0 (late - t.free) * t.per)
structure Terms.Ok (t : Terms) : Prop where
  free : 0 ≤ t.free ∧ t.free ≤ 730
  forf : t.free ≤ t.forf ∧ t.forf ≤ 730
  per : 0 ≤ t.per ∧ t.per ≤ 1048576
  most : 0 ≤ t.most ∧ t.most ≤ 1048576
theorem Terms.ok_iff {t : Terms} : t.ok = true ↔ t.Ok := by
  simp only [Terms.ok, Bool.and_eq_true, win_iff]
  exact ⟨fun ⟨a, b, c, d⟩ => ⟨a, b, c, d⟩, fun ⟨a, b, c, d⟩ => ⟨a, b, c, d⟩⟩
theorem fine_bd {t : Terms} {late : Int} (h : t.Ok) (hl : 0 ≤ late ∧ late ≤ 730) : 0 ≤ max 0 (late - t.free) * t.per ∧ max 0 (late - t.free) * t.per ≤ 765460480 := by
  obtain ⟨h1, h2, h3, h4⟩ := h
  have := mul_bd (a := max 0 (late - t.free)) (b := t.per) (A := 730) (B := 1048576) (by omega) (by omega) h3.1 h3.2
  simpa using this
theorem wrap_id {n : Int} (h : -9223372036854775808 ≤ n ∧ n ≤ 9223372036854775807) : IntKind.i64.wrap n = n := by rw [IntKind.wrap_i64]; omega
theorem fineE_ok {t : Terms} {late : Int} : fineE t late = 0 ↔ t.Ok ∧ 0 ≤ late ∧ late ≤ 730 := by
  unfold fineE
  split <;> rename_i h
  · simp only [Bool.and_eq_true, Terms.ok_iff, win_iff] at h; simp [h]
  · simp only [Bool.and_eq_true, Terms.ok_iff, win_iff] at h; simp [h]
theorem fineE_alt {t : Terms} {late : Int} : fineE t late = 0 ∨ fineE t late = 1 := by unfold fineE; split <;> simp

def fineR (t : Terms) (late : Int) : Int := if fineE t late = 0 then fineV t late else 0

theorem fine_s {loops : List (Nat × LInfo)} {H : AHeap} {t : Terms} {late : Int} : CallS Tryz.prog loops 39 [t.val, .int .i64 late] H fun v H' => v = .tuple #[.int .i64 (fineR t late), .int .i64 (fineE t late)] ∧ H' = H := by
  refine CallS.forget (R := fun r => r = .tuple #[.int .i64 (fineR t late), .int .i64 (fineE t late)]) (by rintro v rfl; rfl) ?_
  have HC := Lib.hid (fun (loops : List (Nat × LInfo)) (H2 : AHeap) => checkTerms_s (loops := loops) (H := H2) (t := t) (late := late))
  unfold fineR
  rcases fineE_alt (t := t) (late := late) with h | h
  · rw [h, if_pos rfl]
    rw [h] at HC
    obtain ⟨h1, h2⟩ := fineE_ok.1 h
    have h3 := fine_bd h1 h2
    have hw1 := wrap_id (n := late - t.free) (by have := h1.free; omega)
    have h4 : t.per * max (late - t.free) 0 = max 0 (late - t.free) * t.per := by rw [Int.mul_comm, Int.max_comm]
    have hw2 := wrap_id (n := t.per * max (late - t.free) 0) (by omega)
    have h5 : min (t.per * max (late - t.free) 0) t.most = fineV t late := by rw [h4, Int.min_comm]; rfl
    rw [← h5]
    unfold Terms.val at HC ⊢
    obtain ⟨a, b, c, d⟩ := t
    clear h h1 h2 h3 h4 h5
    simp only at hw1 hw2 HC
    refine CallS.enter' Tryz.func39 rfl Tryz.ntmps39 (by simp) fun f hd hf => ?_
    have f0 := hf 0
    have f1 := hf 1
    simp at f0 f1
    clear hf
    repeat' (first|(with_reducible first|refine zA ?_|refine zB fun K hK=>?_|refine zC fun K2 hK2=>?_|refine zD ?_|refine zE ?_|refine zF ?_|refine zG ?_|refine zH ?_|refine zI ?_|refine zM ?_|refine zN ?_|refine zO ?_|refine zP ?_|refine zQ ?_|refine zR ?_)|((with_reducible refine zU (hK _ _ ?_));clear hK K)|((with_reducible refine zV ?_ ?_ fun K1 K3 d hdst h1 h3=>?_);rfl;exact yB rfl;cases hdst;go_simp)|((with_reducible refine zW fun K1 K3 h1 h3=>?_);go_simp)|((first|refine h1 ?_|refine h3 ?_);clear h1 h3 K1 K3)|((first|refine zX (fun hb=>h1 ?_) (fun hb=>h3 ?_)|refine zX (fun hb=>h3 ?_) (fun hb=>h1 ?_))<;>(clear h1 h3 K1 K3;(try have hb2:=yC hb);(try have hb2:=yD hb);(try have hb2:=yE hb);(try have hb2:=yF hb);(try have hb2:=yG hb)))|(refine fun (K2:_→AHeap→Prop) hK2=>?_)|((with_reducible refine zY ?_ ?_);decide)|((with_reducible first|refine zZ ?_ (fun K hK=>?_)|refine yA ?_ (fun K hK=>?_));(focus go_simp;done);go_simp;refine hK _ _ ?_;clear hK K)|(go_simp;(try go_bits);(try first | ((with_reducible show CallS _ _ _ _ _ _);refine CallS.mono (HC.out _ _) ?_; rintro _ _ ⟨rfl, rfl⟩));refine hK2 _ _ ?_;clear hK2 K2))
    exact ⟨rfl, (Ext.refl _).push' _⟩
  · rw [h, if_neg (by decide)]
    rw [h] at HC
    unfold Terms.val at HC ⊢
    obtain ⟨a, b, c, d⟩ := t
    clear h
    simp only at HC
    refine CallS.enter' Tryz.func39 rfl Tryz.ntmps39 (by simp) fun f hd hf => ?_
    have f0 := hf 0
    have f1 := hf 1
    simp at f0 f1
    clear hf
    repeat' (first|(with_reducible first|refine zA ?_|refine zB fun K hK=>?_|refine zC fun K2 hK2=>?_|refine zD ?_|refine zE ?_|refine zF ?_|refine zG ?_|refine zH ?_|refine zI ?_|refine zM ?_|refine zN ?_|refine zO ?_|refine zP ?_|refine zQ ?_|refine zR ?_)|((with_reducible refine zU (hK _ _ ?_));clear hK K)|((with_reducible refine zV ?_ ?_ fun K1 K3 d hdst h1 h3=>?_);rfl;exact yB rfl;cases hdst;go_simp)|((with_reducible refine zW fun K1 K3 h1 h3=>?_);go_simp)|((first|refine h1 ?_|refine h3 ?_);clear h1 h3 K1 K3)|((first|refine zX (fun hb=>h1 ?_) (fun hb=>h3 ?_)|refine zX (fun hb=>h3 ?_) (fun hb=>h1 ?_))<;>(clear h1 h3 K1 K3;(try have hb2:=yC hb);(try have hb2:=yD hb);(try have hb2:=yE hb);(try have hb2:=yF hb);(try have hb2:=yG hb)))|(refine fun (K2:_→AHeap→Prop) hK2=>?_)|((with_reducible refine zY ?_ ?_);decide)|((with_reducible first|refine zZ ?_ (fun K hK=>?_)|refine yA ?_ (fun K hK=>?_));(focus go_simp;done);go_simp;refine hK _ _ ?_;clear hK K)|(go_simp;(try go_bits);(try first | ((with_reducible show CallS _ _ _ _ _ _);refine CallS.mono (HC.out _ _) ?_; rintro _ _ ⟨rfl, rfl⟩));refine hK2 _ _ ?_;clear hK2 K2))
    exact ⟨rfl, (Ext.refl _).push' _⟩

end Go.Proofs.Tryz
namespace Go.Proofs.Tryz
open Go Go.Am Go.RowKit
set_option maxRecDepth 100000


structure Hire where
  price : Int
  pledge : Int
  weeks : Int
  late : Int
def Hire.ok (h : Hire) : Bool := win 0 1048576 h.price && (win 0 1048576 h.pledge && win 0 40 h.weeks)
def billE (t : Terms) (h : Hire) : Int := if fineE t h.late = 0 ∧ h.ok = true then 0 else 1
theorem billE_alt {t : Terms} {h : Hire} : billE t h = 0 ∨ billE t h = 1 := by unfold billE; split <;> simp
structure Chg where
  hire : Int
  fine : Int
  pledge : Int
def bill (t : Terms) (h : Hire) : Chg := if billE t h = 0 then ⟨h.price * h.weeks, fineV t h.late, if t.forf < h.late then h.pledge else 0⟩ else ⟨0, 0, 0⟩
def Chg.val (c : Chg) : Value := .agg #[.int .i64 c.hire, .int .i64 c.fine, .int .i64 c.pledge]
theorem hire_bd {h : Hire} (hk : h.ok = true) : 0 ≤ h.price * h.weeks ∧ h.price * h.weeks ≤ 41943040 := by
  simp only [Hire.ok, Bool.and_eq_true, win_iff] at hk
  have := mul_bd (A := 1048576) (B := 40) hk.1.1 hk.1.2 hk.2.2.1 hk.2.2.2
  simpa using this

theorem bill_s {loops : List (Nat × LInfo)} {H : AHeap} {t : Terms} {h : Hire} : CallS Tryz.prog loops 41 [t.val, .int .i64 h.price, .int .i64 h.pledge, .int .i64 h.weeks, .int .i64 h.late] H fun v H' => v = .tuple #[(bill t h).val, .int .i64 (billE t h)] ∧ H' = H := by
  refine CallS.forget (R := fun r => r = .tuple #[(bill t h).val, .int .i64 (billE t h)]) (by rintro v rfl; rfl) ?_
  have HF := Lib.hid (fun (loops : List (Nat × LInfo)) (H2 : AHeap) => fine_s (loops := loops) (H := H2) (t := t) (late := h.late))
  have HP1 := Lib.hid (fun (loops : List (Nat × LInfo)) (H2 : AHeap) => isPrice_s (loops := loops) (H := H2) (n := h.price))
  have HP2 := Lib.hid (fun (loops : List (Nat × LInfo)) (H2 : AHeap) => isPrice_s (loops := loops) (H := H2) (n := h.pledge))
  have HP3 := Lib.hid (fun (loops : List (Nat × LInfo)) (H2 : AHeap) => within_s (loops := loops) (H := H2) (n := h.weeks) (lo := 0) (hi := 40))
  unfold bill
  by_cases h0 : fineE t h.late = 0
  · by_cases h1 : h.ok = true
    · have hb := hire_bd h1
      have hw := wrap_id (n := h.price * h.weeks) (by omega)
      have hE : billE t h = 0 := if_pos ⟨h0, h1⟩
      rw [hE, if_pos rfl]
      rw [fineR, h0, if_pos rfl] at HF
      simp only [Hire.ok, Bool.and_eq_true] at h1
      obtain ⟨h2, h3, h4⟩ := h1
      rw [h2] at HP1
      rw [h3] at HP2
      rw [h4] at HP3
      generalize fineV t h.late = fv at HF ⊢
      obtain ⟨a, b, c, d⟩ := t
      obtain ⟨pr, pl, we, la⟩ := h
      clear hE h0 hb h2 h3 h4
      unfold Terms.val Chg.val at *
      simp only at HF HP1 HP2 HP3 hw ⊢
      by_cases hl : d < la
      · rw [if_pos hl]
        refine CallS.enter' Tryz.func41 rfl Tryz.ntmps41 (by simp) fun f hd hf => ?_
        have f0 := hf 0
        have f1 := hf 1
        have f2 := hf 2
        have f3 := hf 3
        have f4 := hf 4
        simp at f0 f1 f2 f3 f4
        clear hf
        repeat' (first|(with_reducible first|refine zA ?_|refine zB fun K hK=>?_|refine zC fun K2 hK2=>?_|refine zD ?_|refine zE ?_|refine zF ?_|refine zG ?_|refine zH ?_|refine zI ?_|refine zM ?_|refine zN ?_|refine zO ?_|refine zP ?_|refine zQ ?_|refine zR ?_)|((with_reducible refine zU (hK _ _ ?_));clear hK K)|((with_reducible refine zV ?_ ?_ fun K1 K3 d hdst h1 h3=>?_);rfl;exact yB rfl;cases hdst;go_simp)|((with_reducible refine zW fun K1 K3 h1 h3=>?_);go_simp)|((first|refine h1 ?_|refine h3 ?_);clear h1 h3 K1 K3)|((first|refine zX (fun hb=>h1 ?_) (fun hb=>h3 ?_)|refine zX (fun hb=>h3 ?_) (fun hb=>h1 ?_))<;>(clear h1 h3 K1 K3;(try have hb2:=yC hb);(try have hb2:=yD hb);(try have hb2:=yE hb);(try have hb2:=yF hb);(try have hb2:=yG hb)))|(refine fun (K2:_→AHeap→Prop) hK2=>?_)|((with_reducible refine zY ?_ ?_);decide)|((with_reducible first|refine zZ ?_ (fun K hK=>?_)|refine yA ?_ (fun K hK=>?_));(focus go_simp;done);go_simp;refine hK _ _ ?_;clear hK K)|(go_simp;(try go_bits);(try first |((with_reducible show CallS _ _ _ _ _ _);first|(refine CallS.mono (HF.out _ _) ?_; rintro _ _ ⟨rfl, rfl⟩)|(refine CallS.mono (HP1.out _ _) ?_; rintro _ _ ⟨rfl, rfl⟩)|(refine CallS.mono (HP2.out _ _) ?_; rintro _ _ ⟨rfl, rfl⟩)|(refine CallS.mono (HP3.out _ _) ?_; rintro _ _ ⟨rfl, rfl⟩))|((rw [aBuild_struct st66 ze66]); go_simp));refine hK2 _ _ ?_;clear hK2 K2))
        all_goals exact ⟨rfl, (by repeat (first | exact Ext.refl _ | refine Ext.push' ?_ _ | refine Ext.upd ?_ (by simp only [AHeap.n_push, AHeap.n_upd]; omega) _))⟩
      · rw [if_neg hl]
        refine CallS.enter' Tryz.func41 rfl Tryz.ntmps41 (by simp) fun f hd hf => ?_
        have f0 := hf 0
        have f1 := hf 1
        have f2 := hf 2
        have f3 := hf 3
        have f4 := hf 4
        simp at f0 f1 f2 f3 f4
        clear hf
        repeat' (first|(with_reducible first|refine zA ?_|refine zB fun K hK=>?_|refine zC fun K2 hK2=>?_|refine zD ?_|refine zE ?_|refine zF ?_|refine zG ?_|refine zH ?_|refine zI ?_|refine zM ?_|refine zN ?_|refine zO ?_|refine zP ?_|refine zQ ?_|refine zR ?_)|((with_reducible refine zU (hK _ _ ?_));clear hK K)|((with_reducible refine zV ?_ ?_ fun K1 K3 d hdst h1 h3=>?_);rfl;exact yB rfl;cases hdst;go_simp)|((with_reducible refine zW fun K1 K3 h1 h3=>?_);go_simp)|((first|refine h1 ?_|refine h3 ?_);clear h1 h3 K1 K3)|((first|refine zX (fun hb=>h1 ?_) (fun hb=>h3 ?_)|refine zX (fun hb=>h3 ?_) (fun hb=>h1 ?_))<;>(clear h1 h3 K1 K3;(try have hb2:=yC hb);(try have hb2:=yD hb);(try have hb2:=yE hb);(try have hb2:=yF hb);(try have hb2:=yG hb)))|(refine fun (K2:_→AHeap→Prop) hK2=>?_)|((with_reducible refine zY ?_ ?_);decide)|((with_reducible first|refine zZ ?_ (fun K hK=>?_)|refine yA ?_ (fun K hK=>?_));(focus go_simp;done);go_simp;refine hK _ _ ?_;clear hK K)|(go_simp;(try go_bits);(try first |((with_reducible show CallS _ _ _ _ _ _);first|(refine CallS.mono (HF.out _ _) ?_; rintro _ _ ⟨rfl, rfl⟩)|(refine CallS.mono (HP1.out _ _) ?_; rintro _ _ ⟨rfl, rfl⟩)|(refine CallS.mono (HP2.out _ _) ?_; rintro _ _ ⟨rfl, rfl⟩)|(refine CallS.mono (HP3.out _ _) ?_; rintro _ _ ⟨rfl, rfl⟩))|((rw [aBuild_struct st66 ze66]); go_simp));refine hK2 _ _ ?_;clear hK2 K2))
        all_goals exact ⟨rfl, (by repeat (first | exact Ext.refl _ | refine Ext.push' ?_ _ | refine Ext.upd ?_ (by simp only [AHeap.n_push, AHeap.n_upd]; omega) _))⟩

    · have hE : billE t h = 1 := if_neg fun h2 => h1 h2.2
      rw [hE, if_neg (by decide)]
      rw [h0] at HF
      generalize fineR t h.late = fv at HF
      unfold Hire.ok at h1
      generalize win 0 1048576 h.price = b1 at HP1 h1
      generalize win 0 1048576 h.pledge = b2 at HP2 h1
      generalize win 0 40 h.weeks = b3 at HP3 h1
      have HN := Lib.hid h1
      obtain ⟨a, b, c, d⟩ := t
      obtain ⟨pr, pl, we, la⟩ := h
      clear hE h0 h1
      unfold Terms.val Chg.val at *
      simp only at HF HP1 HP2 HP3 ⊢
      refine CallS.enter' Tryz.func41 rfl Tryz.ntmps41 (by simp) fun f hd hf => ?_
      have f0 := hf 0
      have f1 := hf 1
      have f2 := hf 2
      have f3 := hf 3
      have f4 := hf 4
      simp at f0 f1 f2 f3 f4
      clear hf
      repeat' (first|(with_reducible first|refine zA ?_|refine zB fun K hK=>?_|refine zC fun K2 hK2=>?_|refine zD ?_|refine zE ?_|refine zF ?_|refine zG ?_|refine zH ?_|refine zI ?_|refine zM ?_|refine zN ?_|refine zO ?_|refine zP ?_|refine zQ ?_|refine zR ?_)|((with_reducible refine zU (hK _ _ ?_));clear hK K)|((with_reducible refine zV ?_ ?_ fun K1 K3 d hdst h1 h3=>?_);rfl;exact yB rfl;cases hdst;go_simp)|((with_reducible refine zW fun K1 K3 h1 h3=>?_);go_simp)|((first|refine h1 ?_|refine h3 ?_);clear h1 h3 K1 K3)|((first|refine zX (fun hb=>h1 ?_) (fun hb=>h3 ?_)|refine zX (fun hb=>h3 ?_) (fun hb=>h1 ?_))<;>(clear h1 h3 K1 K3;(try have hb2:=yC hb);(try have hb2:=yD hb);(try have hb2:=yE hb);(try have hb2:=yF hb);(try have hb2:=yG hb)))|(refine fun (K2:_→AHeap→Prop) hK2=>?_)|((with_reducible refine zY ?_ ?_);decide)|((with_reducible first|refine zZ ?_ (fun K hK=>?_)|refine yA ?_ (fun K hK=>?_));(focus go_simp;done);go_simp;refine hK _ _ ?_;clear hK K)|(go_simp;(try go_bits);(try first |((with_reducible show CallS _ _ _ _ _ _);first|(refine CallS.mono (HF.out _ _) ?_; rintro _ _ ⟨rfl, rfl⟩)|(refine CallS.mono (HP1.out _ _) ?_; rintro _ _ ⟨rfl, rfl⟩)|(refine CallS.mono (HP2.out _ _) ?_; rintro _ _ ⟨rfl, rfl⟩)|(refine CallS.mono (HP3.out _ _) ?_; rintro _ _ ⟨rfl, rfl⟩))|((rw [aBuild_struct st66 ze66]); go_simp));refine hK2 _ _ ?_;clear hK2 K2))
      all_goals first | exact ⟨rfl, (by repeat (first | exact Ext.refl _ | refine Ext.push' ?_ _ | refine Ext.upd ?_ (by simp only [AHeap.n_push, AHeap.n_upd]; omega) _))⟩ | (have := HN.out; simp_all)
  · have h1 : fineE t h.late = 1 := by rcases fineE_alt (t := t) (late := h.late) with h1 | h1; exact absurd h1 h0; exact h1
    have hE : billE t h = 1 := if_neg fun h2 => h0 h2.1
    rw [hE, if_neg (by decide)]
    rw [h1] at HF
    generalize fineR t h.late = fv at HF
    obtain ⟨a, b, c, d⟩ := t
    obtain ⟨pr, pl, we, la⟩ := h
    clear hE h0 h1 HP1 HP2 HP3
    unfold Terms.val Chg.val at *
    simp only at HF ⊢
    refine CallS.enter' Tryz.func41 rfl Tryz.ntmps41 (by simp) fun f hd hf => ?_
    have f0 := hf 0
    have f1 := hf 1
    have f2 := hf 2
    have f3 := hf 3
    have f4 := hf 4
    simp at f0 f1 f2 f3 f4
    clear hf
    repeat' (first|(with_reducible first|refine zA ?_|refine zB fun K hK=>?_|refine zC fun K2 hK2=>?_|refine zD ?_|refine zE ?_|refine zF ?_|refine zG ?_|refine zH ?_|refine zI ?_|refine zM ?_|refine zN ?_|refine zO ?_|refine zP ?_|refine zQ ?_|refine zR ?_)|((with_reducible refine zU (hK _ _ ?_));clear hK K)|((with_reducible refine zV ?_ ?_ fun K1 K3 d hdst h1 h3=>?_);rfl;exact yB rfl;cases hdst;go_simp)|((with_reducible refine zW fun K1 K3 h1 h3=>?_);go_simp)|((first|refine h1 ?_|refine h3 ?_);clear h1 h3 K1 K3)|((first|refine zX (fun hb=>h1 ?_) (fun hb=>h3 ?_)|refine zX (fun hb=>h3 ?_) (fun hb=>h1 ?_))<;>(clear h1 h3 K1 K3;(try have hb2:=yC hb);(try have hb2:=yD hb);(try have hb2:=yE hb);(try have hb2:=yF hb);(try have hb2:=yG hb)))|(refine fun (K2:_→AHeap→Prop) hK2=>?_)|((with_reducible refine zY ?_ ?_);decide)|((with_reducible first|refine zZ ?_ (fun K hK=>?_)|refine yA ?_ (fun K hK=>?_));(focus go_simp;done);go_simp;refine hK _ _ ?_;clear hK K)|(go_simp;(try go_bits);(try first | ((with_reducible show CallS _ _ _ _ _ _);refine CallS.mono (HF.out _ _) ?_; rintro _ _ ⟨rfl, rfl⟩) | ((rw [aBuild_struct st66 ze66]); go_simp));refine hK2 _ _ ?_;clear hK2 K2))
    all_goals exact ⟨rfl, (by repeat (first | exact Ext.refl _ | refine Ext.push' ?_ _ | refine Ext.upd ?_ (by simp only [AHeap.n_push, AHeap.n_upd]; omega) _))⟩

end Go.Proofs.Tryz
namespace Go.Proofs.Tryz
open Go Go.Am Go.RowKit
set_option maxRecDepth 100000


theorem pureOf_pure {α : Type} (x : α) : pureOf Tryz.prog (pure x : Sem α) = some x := rfl
theorem pEq3 (d : Nat) (a b : Int) : pureOf Tryz.prog (Op.equalIn (d + 1) 3 (.int .i64 a) (.int .i64 b)) = some (a == b) := by kernel_rfl
theorem part3_0 (a b c : Value) : pureOf Tryz.prog (part 3 #[a, b, c] 0) = some a := by kernel_rfl
theorem part3_1 (a b c : Value) : pureOf Tryz.prog (part 3 #[a, b, c] 1) = some b := by kernel_rfl
theorem part3_2 (a b c : Value) : pureOf Tryz.prog (part 3 #[a, b, c] 2) = some c := by kernel_rfl
theorem un66p : ∃ f0 f1 f2 : Field, pureOf Tryz.prog (underlying 66) = some (.struct #[f0, f1, f2]) ∧ (f0.name != "_") = true ∧ (f1.name != "_") = true ∧ (f2.name != "_") = true ∧ f0.type = 3 ∧ f1.type = 3 ∧ f2.type = 3 ∧ f0.offset = 0 ∧ f1.offset = 1 ∧ f2.offset = 2 :=
  ⟨(fieldOf Tryz.prog 66 0).getD default, (fieldOf Tryz.prog 66 1).getD default, (fieldOf Tryz.prog 66 2).getD default, by kernel_rfl, by kernel_rfl, by kernel_rfl, by kernel_rfl, by kernel_rfl, by kernel_rfl, by kernel_rfl, by kernel_rfl, by kernel_rfl, by kernel_rfl⟩
theorem pEq66 (d : Nat) (a b c a' b' c' : Int) : pureOf Tryz.prog (Op.equalIn (d + 3) 66 (.agg #[.int .i64 a, .int .i64 b, .int .i64 c]) (.agg #[.int .i64 a', .int .i64 b', .int .i64 c'])) = some (a == a' && (b == b' && c == c')) := by
  obtain ⟨f0, f1, f2, hfs, n0, n1, n2, t0, t1, t2, o0, o1, o2⟩ := un66p
  rw [Op.equalIn]
  rw [pureOf_bind, hfs]
  dsimp only [Option.bind]
  rw [pureOf_bind, show pureOf Tryz.prog program = some Tryz.prog from rfl]
  dsimp only [Option.bind]
  rw [show Tryz.prog.stoodInHeld 66 = false by kernel_rfl, if_neg (by simp)]
  simp only [List.forIn_toArray, List.forIn_cons, List.forIn_nil]
  simp only [if_pos (bne_iff_ne.1 n0), if_pos (bne_iff_ne.1 n1), if_pos (bne_iff_ne.1 n2), t0, t1, t2, o0, o1, o2, pureOf_bind, part3_0, pEq3, Option.bind_some]
  cases (a == a')
  · rfl
  · simp only [Bool.not_true, Bool.false_eq_true, if_false, pureOf_pure, Option.bind_some, pureOf_bind, part3_1, pEq3]
    cases (b == b')
    · rfl
    · simp only [Bool.not_true, Bool.false_eq_true, if_false, pureOf_pure, Option.bind_some, pureOf_bind, part3_2, pEq3]
      cases (c == c') <;> rfl
theorem eqF66 (x y : Operand) (a b c a' b' c' : Int) : pureOf Tryz.prog (do eqGuard .eql 66 x y (.agg #[.int .i64 a, .int .i64 b, .int .i64 c]) (.agg #[.int .i64 a', .int .i64 b', .int .i64 c']); binOp .eql 66 (.agg #[.int .i64 a, .int .i64 b, .int .i64 c]) (.agg #[.int .i64 a', .int .i64 b', .int .i64 c'])) = some (.bool (a == a' && (b == b' && c == c'))) := by
  rw [pureOf_bind, show pureOf Tryz.prog (eqGuard .eql 66 x y (.agg #[.int .i64 a, .int .i64 b, .int .i64 c]) (.agg #[.int .i64 a', .int .i64 b', .int .i64 c'])) = some () by kernel_rfl]
  dsimp only [Option.bind]
  rw [show binOp .eql 66 (.agg #[.int .i64 a, .int .i64 b, .int .i64 c]) (.agg #[.int .i64 a', .int .i64 b', .int .i64 c']) = (do pure (.bool (← Op.equal 66 (.agg #[.int .i64 a, .int .i64 b, .int .i64 c]) (.agg #[.int .i64 a', .int .i64 b', .int .i64 c'])))) from rfl]
  rw [pureOf_bind, show Op.equal 66 (.agg #[.int .i64 a, .int .i64 b, .int .i64 c]) (.agg #[.int .i64 a', .int .i64 b', .int .i64 c']) = Op.equalIn (9997 + 3) 66 (.agg #[.int .i64 a, .int .i64 b, .int .i64 c]) (.agg #[.int .i64 a', .int .i64 b', .int .i64 c']) from rfl, pEq66]
  rfl
section
variable {H : AHeap} {ev : Operand → Value} {dst : Option Tmp} {ty t' : TypeId} {src : String} {af : Array Edge} {g : Option (Nat × Bool)} {x y : Operand} {β : Type} {kk : K β} {other : Unit → Option β}
theorem eq66_eq {a b c a' b' c' : Int} (hx : ev x = .agg #[.int .i64 a, .int .i64 b, .int .i64 c]) (hy : ev y = .agg #[.int .i64 a', .int .i64 b', .int .i64 c']) : aPlain Tryz.prog ⟨dst, .binOp .eql 66 x y t', ty, src, af, g⟩ ev H kk = kk (.bool (a == a' && (b == b' && c == c'))) H := by
  have hr : pureOf Tryz.prog (execOp ev ⟨dst, .binOp .eql 66 x y t', ty, src, af, g⟩) = some (.value (.bool (a == a' && (b == b' && c == c')))) := by
    have h0 : execOp ev ⟨dst, .binOp .eql 66 x y t', ty, src, af, g⟩ = (do pure (.value (← (do eqGuard .eql 66 x y (ev x) (ev y); binOp .eql 66 (ev x) (ev y))))) := rfl
    rw [h0, hx, hy, pureOf_bind, eqF66]; rfl
  rw [plain_of rfl, hr]
  have ho : (Op.binOp .eql 66 x y t').operands.toList.all (fun x => plainV 6 (ev x)) = true := by
    show (#[x, y].toList.all fun x => plainV 6 (ev x)) = _
    simp [hx, hy]; exact ⟨rfl, rfl⟩
  rw [if_pos ho]; rfl
@[go_sem] theorem aBin_aggE {t : TypeId} {a b : Array Value} : aBin Tryz.prog .eql t (.agg a) (.agg b) H kk other = other () := by
  have h : nilEq Tryz.prog t (.agg a) (.agg b) = none := by
    unfold nilEq
    split <;> simp_all
  simp only [aBin, aEq, h]
theorem eq66_o {cx : Cx} {f : AF} {k : AF → AHeap → Prop} {a b c a' b' c' : Int} (hx : f.eval x = .agg #[.int .i64 a, .int .i64 b, .int .i64 c]) (hy : f.eval y = .agg #[.int .i64 a', .int .i64 b', .int .i64 c']) (h : putP cx.sz f dst (.bool (a == a' && (b == b' && c == c'))) fun f' => k f' H) : opP Tryz.prog cx ⟨dst, .binOp .eql 66 x y t', ty, src, af, g⟩ f H k := by
  rw [opP_bin, hx, hy, aBin_aggE, eq66_eq hx hy]
  exact h
end
end Go.Proofs.Tryz
namespace Go.Proofs.Tryz
open Go Go.Am Go.RowKit
set_option maxRecDepth 100000


section
variable {H : AHeap} {β : Type} {kk : K β} {dst : Option Tmp} {ty : TypeId} {src : String} {af : Array Edge} {g : Option (Nat × Bool)}
noncomputable def quoV (o : Oper) (ev : Operand → Value) (v u : Value) (H : AHeap) (kk : K β) : Option β := match v, u with
  | .int .i64 a, .int .i64 b => if (0 ≤ a ∧ a ≤ 9223372036854775807) ∧ 1 ≤ b then kk (.int .i64 (a / b)) H else plainRest Tryz.prog o ev H kk
  | _, _ => plainRest Tryz.prog o ev H kk
@[go_sem] theorem quoV_int {o : Oper} {ev : Operand → Value} {a b : Int} (ha : 0 ≤ a) (ha2 : a ≤ 9223372036854775807) (hb : 1 ≤ b) : quoV o ev (.int .i64 a) (.int .i64 b) H kk = kk (.int .i64 (a / b)) H := by
  simp only [quoV]; rw [if_pos ⟨⟨ha, ha2⟩, hb⟩]
@[go_sem] theorem aPlain_quoV {t t' : TypeId} {x y : Operand} {ev : Operand → Value} : aPlain Tryz.prog ⟨dst, .binOp .quo t x y t', ty, src, af, g⟩ ev H kk = quoV ⟨dst, .binOp .quo t x y t', ty, src, af, g⟩ ev (ev x) (ev y) H kk := by
  unfold quoV
  split
  · rename_i a b hx hy
    split
    · rename_i h; exact aPlain_quo hx hy h.1 h.2
    · rfl
  · rfl
noncomputable def remV (o : Oper) (ev : Operand → Value) (v u : Value) (H : AHeap) (kk : K β) : Option β := match v, u with
  | .int .i64 a, .int .i64 b => if 0 ≤ a ∧ 1 ≤ b then kk (.int .i64 (a % b)) H else plainRest Tryz.prog o ev H kk
  | _, _ => plainRest Tryz.prog o ev H kk
@[go_sem] theorem remV_int {o : Oper} {ev : Operand → Value} {a b : Int} (ha : 0 ≤ a) (hb : 1 ≤ b) : remV o ev (.int .i64 a) (.int .i64 b) H kk = kk (.int .i64 (a % b)) H := by
  simp only [remV]; rw [if_pos ⟨ha, hb⟩]
@[go_sem] theorem aPlain_remV {t t' : TypeId} {x y : Operand} {ev : Operand → Value} : aPlain Tryz.prog ⟨dst, .binOp .rem t x y t', ty, src, af, g⟩ ev H kk = remV ⟨dst, .binOp .rem t x y t', ty, src, af, g⟩ ev (ev x) (ev y) H kk := by
  unfold remV
  split
  · rename_i a b hx hy
    split
    · rename_i h; exact aPlain_rem hx hy h.1 h.2
    · rfl
  · rfl
end
theorem opsP_app {cx : Cx} {ops : Array Oper} {l m : List Oper} {f : AF} {H : AHeap} {k : AF → AHeap → Prop} (h : opsP Tryz.prog cx ops (List.append l m) f H k) : opsP Tryz.prog cx ops (List.append l m) f H k := h
def convV {β : Type} (q : IntKind) (v : Value) (H : AHeap) (kk : K β) (other : Unit → Option β) : Option β := match v with
  | .int k a => if k = q then kk (.int .i64 (IntKind.i64.wrap a)) H else other ()
  | _ => other ()
@[go_sem] theorem convV_int {β : Type} {q : IntKind} {a : Int} {H : AHeap} {kk : K β} {other : Unit → Option β} : convV q (.int q a) H kk other = kk (.int .i64 (IntKind.i64.wrap a)) H := by simp [convV]
section
variable {β : Type} {dst : Option Tmp} {x : Operand} {ty : TypeId} {src : String} {af : Array Edge} {g : Option (Nat × Bool)} {s : TypeId} {q : IntKind}
theorem aPlain_convG {ev : Operand → Value} {H : AHeap} {kk : K β} (hc : ∀ (ev : Operand → Value) (a : Int), ev x = .int q a → pureOf Tryz.prog (execOp ev ⟨dst, .convert s 3 x, ty, src, af, g⟩) = some (.value (.int .i64 (IntKind.i64.wrap a)))) :
    aPlain Tryz.prog ⟨dst, .convert s 3 x, ty, src, af, g⟩ ev H kk = convV q (ev x) H kk fun _ => aPlain Tryz.prog ⟨dst, .convert s 3 x, ty, src, af, g⟩ ev H kk := by
  unfold convV
  split
  · rename_i k a hx
    split
    · rename_i hk
      subst hk
      rw [plain_of rfl]
      have e1 : ((Op.convert s 3 x).operands.toList.all fun x => plainV 6 (ev x)) = true := by
        show ([x].all fun x => plainV 6 (ev x)) = true
        simp [hx]
        rfl
      rw [if_pos e1, hc ev a hx]
      rfl
    · rfl
  · rfl
theorem conv5 (ev : Operand → Value) (a : Int) (hx : ev x = .int .u8 a) : pureOf Tryz.prog (execOp ev ⟨dst, .convert 5 3 x, ty, src, af, g⟩) = some (.value (.int .i64 (IntKind.i64.wrap a))) := by
  simp only [execOp, hx]
  kernel_rfl
theorem conv106 (ev : Operand → Value) (a : Int) (hx : ev x = .int .u16 a) : pureOf Tryz.prog (execOp ev ⟨dst, .convert 106 3 x, ty, src, af, g⟩) = some (.value (.int .i64 (IntKind.i64.wrap a))) := by
  simp only [execOp, hx]
  kernel_rfl
theorem conv113 (ev : Operand → Value) (a : Int) (hx : ev x = .int .u32 a) : pureOf Tryz.prog (execOp ev ⟨dst, .convert 113 3 x, ty, src, af, g⟩) = some (.value (.int .i64 (IntKind.i64.wrap a))) := by
  simp only [execOp, hx]
  kernel_rfl
@[go_sem] theorem opP_conv5 {cx : Cx} {H : AHeap} {f : AF} {k : AF → AHeap → Prop} : opP Tryz.prog cx ⟨dst, .convert 5 3 x, ty, src, af, g⟩ f H k = Holds (convV .u8 (f.eval x) H (fun v H' => some (putP cx.sz f dst v fun f' => k f' H')) fun _ => aPlain Tryz.prog ⟨dst, .convert 5 3 x, ty, src, af, g⟩ f.eval H fun v H' => some (putP cx.sz f dst v fun f' => k f' H')) :=
  opP_convert.trans (congrArg Holds (aPlain_convG conv5))
@[go_sem] theorem opP_conv106 {cx : Cx} {H : AHeap} {f : AF} {k : AF → AHeap → Prop} : opP Tryz.prog cx ⟨dst, .convert 106 3 x, ty, src, af, g⟩ f H k = Holds (convV .u16 (f.eval x) H (fun v H' => some (putP cx.sz f dst v fun f' => k f' H')) fun _ => aPlain Tryz.prog ⟨dst, .convert 106 3 x, ty, src, af, g⟩ f.eval H fun v H' => some (putP cx.sz f dst v fun f' => k f' H')) :=
  opP_convert.trans (congrArg Holds (aPlain_convG conv106))
@[go_sem] theorem opP_conv113 {cx : Cx} {H : AHeap} {f : AF} {k : AF → AHeap → Prop} : opP Tryz.prog cx ⟨dst, .convert 113 3 x, ty, src, af, g⟩ f H k = Holds (convV .u32 (f.eval x) H (fun v H' => some (putP cx.sz f dst v fun f' => k f' H')) fun _ => aPlain Tryz.prog ⟨dst, .convert 113 3 x, ty, src, af, g⟩ f.eval H fun v H' => some (putP cx.sz f dst v fun f' => k f' H')) :=
  opP_convert.trans (congrArg Holds (aPlain_convG conv113))
end
end Go.Proofs.Tryz
namespace Go.Proofs.Tryz
open Go Go.Am Go.RowKit
set_option maxRecDepth 100000


theorem fineV_mono {t : Terms} {a b : Int} (h : t.Ok) (hab : a ≤ b) : fineV t a ≤ fineV t b := by
  have h1 : max 0 (a - t.free) * t.per ≤ max 0 (b - t.free) * t.per := Int.mul_le_mul_of_nonneg_right (by omega) h.per.1
  unfold fineV; omega

theorem fineV_free {t : Terms} {a : Int} (h : t.Ok) (ha : ¬ t.free < a) : fineV t a = 0 := by
  have h1 : max 0 (a - t.free) = 0 := by omega
  have := h.most
  unfold fineV; rw [h1]; omega

set_option maxHeartbeats 4000000 in
theorem law11 {H : AHeap} {t : Terms} {p q wk lt mo : Int} (hp : 0 ≤ p ∧ p ≤ 65535) (hq : 0 ≤ q ∧ q ≤ 65535) (hwk : 0 ≤ wk ∧ wk ≤ 255) (hlt : 0 ≤ lt ∧ lt ≤ 65535) (hmo : 0 ≤ mo ∧ mo ≤ 65535) :
    CallS Tryz.prog [] 11 [t.val, .int .u16 p, .int .u16 q, .int .u8 wk, .int .u16 lt, .int .u16 mo] H fun r _ => r = .bool true := by
  have c1 := wrap_id (n := p) (by omega)
  have c2 := wrap_id (n := q) (by omega)
  have c3 := wrap_id (n := wk) (by omega)
  have c4 := wrap_id (n := lt) (by omega)
  have c5 := wrap_id (n := mo) (by omega)
  have hwk0 := hwk.1
  have hlt0 := hlt.1
  have hw : 0 ≤ wk % 40 ∧ wk % 40 ≤ 39 := by omega
  have hd : 0 ≤ lt % 730 ∧ lt % 730 ≤ 729 := by omega
  have HA := Lib.hid (fun (loops : List (Nat × LInfo)) (H2 : AHeap) => fine_s (loops := loops) (H := H2) (t := t) (late := lt % 730))
  have HB := Lib.hid (fun (loops : List (Nat × LInfo)) (H2 : AHeap) => bill_s (loops := loops) (H := H2) (t := t) (h := ⟨p, q, wk % 40, lt % 730⟩))
  have HD := Lib.hid (fun (loops : List (Nat × LInfo)) (H2 : AHeap) => bill_s (loops := loops) (H := H2) (t := t) (h := ⟨p + mo, q + mo, min 40 (wk % 40 + mo), min 730 (lt % 730 + mo)⟩))
  by_cases h0 : billE t ⟨p, q, wk % 40, lt % 730⟩ = 0
  case' neg =>
    have h1 : billE t ⟨p, q, wk % 40, lt % 730⟩ = 1 := by rcases billE_alt (t := t) (h := ⟨p, q, wk % 40, lt % 730⟩) with h | h; exact absurd h h0; exact h
    rw [bill, h1, if_neg (by decide)] at HB
    obtain ⟨a, b, c, d⟩ := t
    clear h0 h1 HA HD
    unfold Terms.val Chg.val at *
    simp only at HB ⊢
    refine CallS.enter' Tryz.func11 rfl Tryz.ntmps11 (by simp) fun f hd hf => ?_
    have f0 := hf 0
    have f1 := hf 1
    have f2 := hf 2
    have f3 := hf 3
    have f4 := hf 4
    have f5 := hf 5
    simp at f0 f1 f2 f3 f4 f5
    clear hf
    repeat' (first|((with_reducible refine eq66_o (a := 0) (b := 0) (c := 0) (a' := 0) (b' := 0) (c' := 0) ?_ ?_ ?_); (focus go_simp; done); (focus go_simp; done); go_simp; refine hK2 _ _ ?_; clear hK2 K2)|(with_reducible first|refine zA ?_|refine zB fun K hK=>?_|refine zC fun K2 hK2=>?_|refine zD ?_|refine zE ?_|refine zF ?_|refine zG ?_|refine zH ?_|refine zI ?_|refine zM ?_|refine zN ?_|refine zO ?_|refine zP ?_|refine zQ ?_|refine zR ?_)|((with_reducible refine zU (hK _ _ ?_));clear hK K)|((with_reducible refine zV ?_ ?_ fun K1 K3 d hdst h1 h3=>?_);rfl;exact yB rfl;cases hdst;go_simp)|((with_reducible refine zW fun K1 K3 h1 h3=>?_);go_simp)|((first|refine h1 ?_|refine h3 ?_);clear h1 h3 K1 K3)|((first|refine zX (fun hb=>h1 ?_) (fun hb=>h3 ?_)|refine zX (fun hb=>h3 ?_) (fun hb=>h1 ?_))<;>(clear h1 h3 K1 K3;(try have hb2:=yC hb);(try have hb2:=yD hb);(try have hb2:=yE hb);(try have hb2:=yF hb);(try have hb2:=yG hb)))|(refine fun (K2:_→AHeap→Prop) hK2=>?_)|((with_reducible refine zY ?_ ?_);decide)|((with_reducible first|refine zZ ?_ (fun K hK=>?_)|refine yA ?_ (fun K hK=>?_));(focus go_simp;done);go_simp;refine hK _ _ ?_;clear hK K)|(go_simp;(try go_bits);(try first |((with_reducible show CallS _ _ _ _ _ _);first|(refine CallS.mono (HB.out _ _) ?_; rintro _ _ ⟨rfl, h9⟩; rw [h9]; clear h9; go_simp)|(refine CallS.mono head_s ?_; rintro _ _ ⟨rfl, h9⟩; rw [h9]; clear h9; go_simp))|((rw [aBuild_struct st66 ze66]); go_simp));refine hK2 _ _ ?_;clear hK2 K2))
    all_goals rfl
  have hE := h0
  unfold billE at h0
  split at h0
  case' isFalse => exact absurd h0 (by decide)
  rename_i h1
  obtain ⟨h1, h2⟩ := h1
  obtain ⟨hT, hl⟩ := fineE_ok.1 h1
  simp only [Hire.ok, Bool.and_eq_true, win_iff] at h2
  have hd2 : 0 ≤ min 730 (lt % 730 + mo) ∧ min 730 (lt % 730 + mo) ≤ 730 := by omega
  have h3 : fineE t (min 730 (lt % 730 + mo)) = 0 := fineE_ok.2 ⟨hT, hd2⟩
  have hE2 : billE t ⟨p + mo, q + mo, min 40 (wk % 40 + mo), min 730 (lt % 730 + mo)⟩ = 0 := if_pos ⟨h3, by
    simp only [Hire.ok, Bool.and_eq_true, win_iff]; omega⟩
  rw [fineR, h1, if_pos rfl] at HA
  rw [bill, hE, if_pos rfl] at HB
  rw [bill, hE2, if_pos rfl] at HD
  simp only at HB HD
  have m1 := mul_bd (a := p) (b := wk % 40) (A := 65535) (B := 39) hp.1 hp.2 hw.1 hw.2
  have hw0 := wrap_id (n := p * (wk % 40)) (by omega)
  have hy1 : p * (wk % 40) ≤ (p + mo) * min 40 (wk % 40 + mo) := Int.mul_le_mul (by omega) (by omega) (by omega) (by omega)
  have hy2 : fineV t (lt % 730) ≤ fineV t (min 730 (lt % 730 + mo)) := fineV_mono hT (by omega)
  have hm : fineV t (lt % 730) ≤ t.most := by unfold fineV; omega
  have hfree : t.free < lt % 730 ∨ fineV t (lt % 730) = 0 := by
    by_cases hg : t.free < lt % 730
    · exact .inl hg
    · exact .inr (fineV_free hT hg)
  have hy3 : (if t.forf < lt % 730 then q else 0) ≤ if t.forf < min 730 (lt % 730 + mo) then q + mo else 0 := by split <;> split <;> omega
  have hx3 : (if t.forf < lt % 730 then q else 0) = 0 ∨ ((if t.forf < lt % 730 then q else 0) = q ∧ (q == 0) = false) := by
    split
    · by_cases h9 : q = 0
      · exact .inl h9
      · exact .inr ⟨rfl, by simpa using h9⟩
    · exact .inl rfl
  generalize (p + mo) * min 40 (wk % 40 + mo) = y1 at HD hy1
  generalize fineV t (lt % 730) = x2 at HA HB hy2 hm hfree
  generalize fineV t (min 730 (lt % 730 + mo)) = y2 at HD hy2
  generalize (if t.forf < lt % 730 then q else 0) = x3 at HB hy3 hx3
  generalize (if t.forf < min 730 (lt % 730 + mo) then q + mo else 0) = y3 at HD hy3
  have a1 := wrap_id (n := p + mo) (by omega)
  have a2 := wrap_id (n := q + mo) (by omega)
  have a3 := wrap_id (n := wk % 40 + mo) (by omega)
  have a4 := wrap_id (n := lt % 730 + mo) (by omega)
  obtain ⟨a, b, c, d⟩ := t
  clear h0 h1 h2 h3 hE hE2 hT hl m1 hd2
  unfold Terms.val Chg.val at *
  simp only at HA HB HD hm hfree ⊢
  have HWQ := Lib.hid hwk
  rcases hfree with hfree | rfl <;> rcases hx3 with rfl | ⟨rfl, hq0⟩
  all_goals (
    refine CallS.enter' Tryz.func11 rfl Tryz.ntmps11 (by simp) fun f hd hf => ?_
    have f0 := hf 0
    have f1 := hf 1
    have f2 := hf 2
    have f3 := hf 3
    have f4 := hf 4
    have f5 := hf 5
    simp at f0 f1 f2 f3 f4 f5
    clear hf
    repeat' (first|((with_reducible refine opsP_app ?_); dsimp only [List.append])|(with_reducible first|refine zA ?_|refine zB fun K hK=>?_|refine zC fun K2 hK2=>?_|refine zD ?_|refine zE ?_|refine zF ?_|refine zG ?_|refine zH ?_|refine zI ?_|refine zM ?_|refine zN ?_|refine zO ?_|refine zP ?_|refine zQ ?_|refine zR ?_)|((with_reducible refine zU (hK _ _ ?_));clear hK K)|((with_reducible refine zV ?_ ?_ fun K1 K3 d hdst h1 h3=>?_);rfl;exact yB rfl;cases hdst;go_simp)|((with_reducible refine zW fun K1 K3 h1 h3=>?_);go_simp)|((first|refine h1 ?_|refine h3 ?_);clear h1 h3 K1 K3)|((first|refine zX (fun hb=>h1 ?_) (fun hb=>h3 ?_)|refine zX (fun hb=>h3 ?_) (fun hb=>h1 ?_))<;>(clear h1 h3 K1 K3;(try have hb2:=yC hb);(try have hb2:=yD hb);(try have hb2:=yE hb);(try have hb2:=yF hb);(try have hb2:=yG hb)))|(refine fun (K2:_→AHeap→Prop) hK2=>?_)|((with_reducible refine zY ?_ ?_);decide)|((with_reducible first|refine zZ ?_ (fun K hK=>?_)|refine yA ?_ (fun K hK=>?_));(focus go_simp;done);go_simp;refine hK _ _ ?_;clear hK K)|(go_simp;(try go_bits);(try first |((with_reducible show CallS _ _ _ _ _ _);first|(refine CallS.mono (HA.out _ _) ?_; rintro _ _ ⟨rfl, h9⟩; rw [h9]; clear h9; go_simp)|(refine CallS.mono (HB.out _ _) ?_; rintro _ _ ⟨rfl, h9⟩; rw [h9]; clear h9; go_simp)|(refine CallS.mono (HD.out _ _) ?_; rintro _ _ ⟨rfl, h9⟩; rw [h9]; clear h9; go_simp)|(refine CallS.mono head_s ?_; rintro _ _ ⟨rfl, h9⟩; rw [h9]; clear h9; go_simp)));refine hK2 _ _ ?_;clear hK2 K2)))
  all_goals rfl
end Go.Proofs.Tryz
namespace Go.Proofs.Tryz
open Go.ChangeShapes Go.WideShapes Go.ChangeAt Go.RowKit Go.Joins Go.Deep Go.Am
open Go.Proofs.YtokhhoihalpaoaaGreatDoor
set_option maxRecDepth 100000


theorem ownOne : ownKnob Tryz.prog.godebug = none := by kernel_rfl
theorem laidOut : laidOutB Tryz.prog = true := by kernel_rfl

def tabCells (d : DataW Unit) : Array Value := match d with
  | .agg l => (l.filterMap fun x => match x with | .lit (.int k n) => some (Value.int k n) | _ => none).toArray
  | _ => #[]
def layTab (cs : Array Value) : Obj → Obj
  | .cells _ t f => .cells cs t f
  | o => o
noncomputable def laidWorld (os : Os) : World :=
  let w0 := World.holding Tryz.prog os ⟨#[], #[], []⟩
  { w0 with heap := ((w0.heap.modify 0 (layTab (tabCells Rows.laid_math_bits_deBruijn32tab))).modify 1 (layTab (tabCells Rows.laid_math_bits_deBruijn64tab))).modify 2 (layTab (tabCells Rows.laid_internal_strconv_uint64pow10)) }
theorem laid_met (os : Os) (args : Array Value) : laidMet Tryz.prog Rows.taxBillsRow.laid ((laidWorld os).forCall (fun _ _ => 0) ⟨#[], args, []⟩).memory :=
  laidMet_of_run3 8 (by kernel_rfl) (by kernel_rfl) (by kernel_rfl)
theorem laid_metH (os : Os) (args : Array Value) : laidMetH Tryz.prog Rows.taxBillsRow.laid ((laidWorld os).forCall (fun _ _ => 0) ⟨#[], args, []⟩).memory :=
  laidMetH_of_parts (laid_met os args) (by kernel_rfl)

theorem tab_cell {W : World} (h : laidMetH Tryz.prog Rows.taxBillsRow.laid W) (r : Nat) (hr : r < 64) : W.cell? ⟨1, r, none⟩ = some (.int .u8 (Lib.deBruijn64tab.getD r 0)) := by
  rw [MakeChecks.laidMetH_plain _ _ _ (by kernel_rfl)] at h
  obtain ⟨ps, ⟨_, _, _, _, _, _, _, _, _, _, ⟨g, t, cs, fuel, p, q, hg, ht, hv, hd, _, _⟩, _⟩, _, _⟩ := h
  obtain rfl := Option.some.inj ((show Tryz.prog.globalNamed "math/bits.deBruijn64tab" = some 1 by kernel_rfl).symm.trans hg)
  obtain rfl := Option.some.inj ((show (Tryz.prog.globals[1]?).map (·.type) = some 286 by kernel_rfl).symm.trans ht)
  obtain ⟨xs, m, _, ex, _, hl, hel⟩ := DataW.trod_array Tryz.underlying286 hd
  have c5 : Tryz.prog.cellsOf 5 = 1 := by kernel_rfl
  have hE := hel r hr
  rw [c5, Nat.mul_one, List.getElem?_eq_getElem (by omega)] at hE
  obtain ⟨z, e1, e2, _⟩ := DataW.trod_int Tryz.underlying5 hE
  have hlen : Lib.deBruijn64tab.length = 64 := by kernel_rfl
  have hrow : (Rows.laid_math_bits_deBruijn64tab : DataW Unit) = .agg (Lib.deBruijn64tab.map fun (n : Nat) => .lit (.int .u8 n)) := by kernel_rfl
  have e3 : (xs.map (·.1)) = Lib.deBruijn64tab.map fun (n : Nat) => (DataW.lit (.int .u8 n) : DataW Unit) := (DataW.agg.inj (hrow.symm.trans (Prod.mk.inj ex).1)).symm
  have e4 : (xs.map (·.1))[r]? = (Lib.deBruijn64tab.map fun (n : Nat) => (DataW.lit (.int .u8 n) : DataW Unit))[r]? := by rw [e3]
  rw [List.getElem?_map, List.getElem?_map, List.getElem?_eq_getElem (by omega : r < xs.length), List.getElem?_eq_getElem (by omega : r < Lib.deBruijn64tab.length), e2] at e4
  have hz : z = Lib.deBruijn64tab.getD r 0 := by
    simp only [Option.map_some, Option.some.injEq, DataW.lit.injEq, Lit.int.injEq, true_and] at e4
    rw [e4, List.getD, List.getElem?_eq_getElem (by omega : r < Lib.deBruijn64tab.length)]; rfl
  rw [World.var?_cell hg hv r, ← hz]
  have : cs.toList[r]? = some (.int .u8 z) := by
    have h0 : ((cs.toList.drop r).take 1)[0]? = some (.int .u8 z) := by rw [e1]; rfl
    simpa using h0
  simpa using this

theorem laid_of {W : World} (h : laidMetH Tryz.prog Rows.taxBillsRow.laid W) : Laid W.heap.size W := by
  intro t ht
  rw [laidTabs, List.mem_singleton] at ht
  subst ht
  refine ⟨cell_lt (a := ⟨1, 0, none⟩) (tab_cell h 0 (by decide)), fun i v hv => ?_⟩
  simp only [List.getElem?_map] at hv
  have hlen : Lib.deBruijn64tab.length = 64 := by kernel_rfl
  by_cases hi : i < 64
  · rw [tab_cell h i hi, List.getD, ← hv]
    rw [List.getElem?_eq_getElem (by omega)]; rfl
  · rw [List.getElem?_eq_none (by omega)] at hv; cases hv

section
variable {H : Type} {enc : TypeId × Value → H} {w : World}
theorem int_cells {n : Nat} {cs : List Value} {x : DataW H × List MemPlace} (h : DataW.trod enc Tryz.prog w 0 (fun _ => true) true n 3 cs = some x) : ∃ z : Int, cs = [.int .i64 z] := by
  obtain ⟨z, hz, _, _⟩ := DataW.trod_int Tryz.underlying3 h
  exact ⟨z, hz⟩
theorem fields62 : ∃ f0 f1 f2 f3 : Field, Tryz.prog.underlying 62 = some (.struct #[f0, f1, f2, f3]) ∧ (f0.type = 3 ∧ f1.type = 3 ∧ f2.type = 3 ∧ f3.type = 3) ∧ (f0.offset = 0 ∧ f1.offset = 1 ∧ f2.offset = 2 ∧ f3.offset = 3) ∧ Tryz.prog.cellsOf 3 = 1 ∧ Tryz.prog.cellsOf 62 = 4 :=
  ⟨(fieldOf Tryz.prog 62 0).getD default, (fieldOf Tryz.prog 62 1).getD default, (fieldOf Tryz.prog 62 2).getD default, (fieldOf Tryz.prog 62 3).getD default, by kernel_rfl, by refine ⟨?_, ?_, ?_, ?_⟩ <;> kernel_rfl, by refine ⟨?_, ?_, ?_, ?_⟩ <;> kernel_rfl, by kernel_rfl, by kernel_rfl⟩
theorem terms_abs {r : Reach} {b0 : Nat} {v : Value} {d : DataW H} {p : List MemPlace} (hval : Value.okWide Tryz.prog w r b0 62 v) (h : DataW.Trod enc Tryz.prog w 0 (fun _ => true) true 62 v d p) : ∃ t : Terms, v = t.val := by
  obtain ⟨f0, f1, f2, f3, hu, ⟨t0, t1, t2, t3⟩, ⟨o0, o1, o2, o3⟩, h3, h6⟩ := fields62
  obtain ⟨cs, rfl, hcs⟩ := okWide_struct hu hval
  obtain ⟨fuel, hf⟩ := h
  rw [h6] at hcs
  obtain ⟨a, b, c, e, rfl⟩ : ∃ a b c e, cs = #[a, b, c, e] := by
    obtain ⟨l⟩ := cs
    match l, hcs with
    | [a, b, c, e], _ => exact ⟨a, b, c, e, rfl⟩
  obtain ⟨xs, n, _, _, _, _, ht⟩ := DataW.trod_struct hu (show DataW.trod enc Tryz.prog w 0 (fun _ => true) true fuel 62 [a, b, c, e] = _ by simpa [Value.cells] using hf)
  have ht0 := ht 0 f0 rfl
  have ht1 := ht 1 f1 rfl
  have ht2 := ht 2 f2 rfl
  have ht3 := ht 3 f3 rfl
  rw [t0, o0, h3] at ht0
  rw [t1, o1, h3] at ht1
  rw [t2, o2, h3] at ht2
  rw [t3, o3, h3] at ht3
  have hlen : xs.length = 4 := by assumption
  rw [List.getElem?_eq_getElem (by omega)] at ht0 ht1 ht2 ht3
  obtain ⟨z0, hz0⟩ := int_cells (show DataW.trod enc Tryz.prog w 0 (fun _ => true) true n 3 [a] = _ from ht0)
  obtain ⟨z1, hz1⟩ := int_cells (show DataW.trod enc Tryz.prog w 0 (fun _ => true) true n 3 [b] = _ from ht1)
  obtain ⟨z2, hz2⟩ := int_cells (show DataW.trod enc Tryz.prog w 0 (fun _ => true) true n 3 [c] = _ from ht2)
  obtain ⟨z3, hz3⟩ := int_cells (show DataW.trod enc Tryz.prog w 0 (fun _ => true) true n 3 [e] = _ from ht3)
  injection hz0 with hz0 _
  injection hz1 with hz1 _
  injection hz2 with hz2 _
  injection hz3 with hz3 _
  exact ⟨⟨z0, z1, z2, z3⟩, by rw [hz0, hz1, hz2, hz3]; rfl⟩
theorem u8_in {l : Int} (h : (Lit.int .u8 l).wf = true) : 0 ≤ l ∧ l ≤ 255 := by
  have h2 : IntKind.u8.min ≤ l ∧ l ≤ IntKind.u8.max := by simpa [Lit.wf] using h
  exact h2
theorem u16_in {l : Int} (h : (Lit.int .u16 l).wf = true) : 0 ≤ l ∧ l ≤ 65535 := by
  have h2 : IntKind.u16.min ≤ l ∧ l ≤ IntKind.u16.max := by simpa [Lit.wf] using h
  exact h2
end
end Go.Proofs.Tryz
namespace Go.Proofs.YtokhhoihalpaoaaGreatDoor
open Go.ChangeShapes Go.WideShapes Go.ChangeAt Go.RowKit Go.Joins Go.Deep Go.Am Go.Proofs.Tryz
set_option maxRecDepth 100000 in
theorem lifted (os : Os) (started : os.Started) (H : Type) (enc : TypeId × Value → H) :
    ReturnsInHanded {} Tryz.checked os 11 .any (fun w args => (Rows.taxLaterSpec.pre enc Tryz.prog Tryz.f11 [] false w args ∧ laidMetH Tryz.prog Rows.taxLaterRow.laid w) ∧ sizedMet enc Tryz.prog Tryz.f11 (OpenSpec.ofChange Rows.taxLaterSpec) false w args)
      (Rows.taxLaterSpec.post enc Tryz.prog Tryz.f11 false true false false) := by
  refine returnsInHanded_of_change_and (C := Tryz.checked) (X := fun w _ => laidMetH Tryz.prog Rows.taxLaterRow.laid w) (fun _ _ _ hh h => h.of_heap hh) ownOne started (by kernel_rfl) Tryz.func11
    (ChangeSpec.witness_at (enc := enc) (C := Tryz.checked) (os := os) (X := fun w _ => laidMetH Tryz.prog Rows.taxLaterRow.laid w) false (laidWorld os) #[.agg #[.int .i64 0, .int .i64 0, .int .i64 0, .int .i64 0], .int .u16 0, .int .u16 0, .int .u8 0, .int .u16 0, .int .u16 0] 8 rfl (by kernel_rfl) (by kernel_rfl) (by kernel_rfl) (by kernel_rfl) (by kernel_rfl) (laid_metH os _)) ?_
  intro W base args ds gs before hval0 hW _ _ hL _
  have HL := laid_of hL
  have hval : ∀ (j : Nat) t v, Tryz.f11.params[j]? = some t → args[j]? = some v → Value.okWide Tryz.prog W .any base t v := hval0
  have hW' := hW
  obtain ⟨p, q, hA0, hV, rfl, hfz, hnd⟩ := hW
  have hA : DataW.TrodAll enc Tryz.prog W 0 (fun _ => true) true Tryz.f11.params.toList args.toList ds p := hA0
  rw [Tryz.params11] at hA hval
  obtain ⟨v0, vs0, d0, ds0, p0, q0, hargs, rfl, rfl, h0, r0⟩ := trodAll_cons hA
  obtain ⟨v1, vs1, d1, ds1, p1, q1, rfl, rfl, rfl, h1, r1⟩ := trodAll_cons r0
  obtain ⟨v2, vs2, d2, ds2, p2, q2, rfl, rfl, rfl, h2, r2⟩ := trodAll_cons r1
  obtain ⟨v3, vs3, d3, ds3, p3, q3, rfl, rfl, rfl, h3, r3⟩ := trodAll_cons r2
  obtain ⟨v4, vs4, d4, ds4, p4, q4, rfl, rfl, rfl, h4, r4⟩ := trodAll_cons r3
  obtain ⟨v5, vs5, d5, ds5, p5, q5, rfl, rfl, rfl, h5, r5⟩ := trodAll_cons r4
  obtain ⟨rfl, rfl, rfl⟩ := trodAll_nil r5
  obtain rfl : args = #[v0, v1, v2, v3, v4, v5] := by cases args; simp_all
  obtain ⟨rfl, rfl⟩ := trodVars_none hV
  have k0 := h0
  have lt0 : ∀ x ∈ p0, x.block < W.heap.size := by obtain ⟨m, hm⟩ := k0; exact DataW.trod_lt m _ _ _ hm
  have k1 := h1
  have lt1 : ∀ x ∈ p1, x.block < W.heap.size := by obtain ⟨m, hm⟩ := k1; exact DataW.trod_lt m _ _ _ hm
  have k2 := h2
  have lt2 : ∀ x ∈ p2, x.block < W.heap.size := by obtain ⟨m, hm⟩ := k2; exact DataW.trod_lt m _ _ _ hm
  have k3 := h3
  have lt3 : ∀ x ∈ p3, x.block < W.heap.size := by obtain ⟨m, hm⟩ := k3; exact DataW.trod_lt m _ _ _ hm
  have k4 := h4
  have lt4 : ∀ x ∈ p4, x.block < W.heap.size := by obtain ⟨m, hm⟩ := k4; exact DataW.trod_lt m _ _ _ hm
  have k5 := h5
  have lt5 : ∀ x ∈ p5, x.block < W.heap.size := by obtain ⟨m, hm⟩ := k5; exact DataW.trod_lt m _ _ _ hm
  obtain ⟨s0, rfl⟩ := terms_abs (hval 0 62 v0 rfl rfl) h0
  obtain ⟨n1, rfl, hd1, hp1, w1⟩ := open_int Tryz.underlying106 (hval 1 106 v1 rfl rfl) h1
  obtain ⟨n2, rfl, hd2, hp2, w2⟩ := open_int Tryz.underlying106 (hval 2 106 v2 rfl rfl) h2
  obtain ⟨n3, rfl, hd3, hp3, w3⟩ := open_int Tryz.underlying5 (hval 3 5 v3 rfl rfl) h3
  obtain ⟨n4, rfl, hd4, hp4, w4⟩ := open_int Tryz.underlying106 (hval 4 106 v4 rfl rfl) h4
  obtain ⟨n5, rfl, hd5, hp5, w5⟩ := open_int Tryz.underlying106 (hval 5 106 v5 rfl rfl) h5
  clear hA0 hval0
  have hab0 : absV W.heap.size 8 s0.val = s0.val := by simp [absV, Terms.val]
  have hlaw := calls_of_callS (w := W) (args := [s0.val, .int .u16 n1, .int .u16 n2, .int .u8 n3, .int .u16 n4, .int .u16 n5]) (b := true) (by simp only [List.map_cons, List.map_nil, hab0]; exact law11 (u16_in w1) (u16_in w2) (u8_in w3) (u16_in w4) (u16_in w5)) HL
  refine hlaw.mono fun e W' ⟨he, bel⟩ => ?_
  subst he
  exact ⟨_, rfl, _, _, _, [], _, [], hW', trodAll_mk1 (shut_bool Tryz.underlying4 _), (trodAll_cons_mk (Below.trod laidOut (by kernel_rfl) (of_decide_eq_true (by kernel_rfl)) k0 bel lt0) (trodAll_cons_mk (Below.trod laidOut (by kernel_rfl) (of_decide_eq_true (by kernel_rfl)) k1 bel lt1) (trodAll_cons_mk (Below.trod laidOut (by kernel_rfl) (of_decide_eq_true (by kernel_rfl)) k2 bel lt2) (trodAll_cons_mk (Below.trod laidOut (by kernel_rfl) (of_decide_eq_true (by kernel_rfl)) k3 bel lt3) (trodAll_cons_mk (Below.trod laidOut (by kernel_rfl) (of_decide_eq_true (by kernel_rfl)) k4 bel lt4) (trodAll_cons_mk (Below.trod laidOut (by kernel_rfl) (of_decide_eq_true (by kernel_rfl)) k5 bel lt5) trodAll_mk0)))))), rfl, bel.frame _, fun h => by cases h⟩
end Go.Proofs.YtokhhoihalpaoaaGreatDoor
