/- The law itself, but for the examples that it calls. -/
import Derived.Test.YtcoplbaopaigcaaGreatDoorDqH
set_option linter.all false
namespace Go.Proofs.YtcoplbaopaigcaaGreatDoor
open Go.RowKit
def SmRel (qs : List Q) (n : Nat) (w wr : World) (v i : Value) : Prop :=
  ∃ k : Nat, k ≤ n ∧ i = .int .i64 k ∧ v = .int .i64 (sumL qs k) ∧ Below w.heap.size w wr
theorem sum_range {qs : List Q} (h : ∀ q ∈ qs, q.ok = true) {k : Nat} (hk : k ≤ qs.length) : 0 ≤ sumL qs k ∧ sumL qs k ≤ 24 * k := by
  rw [sumL_eq h k hk]
  have := firstL_length qs (fun q hq => (ok_parts (h q hq)).2.2.2.1) k
  omega
theorem numR_leaf {qs : List Q} {k : Nat} {f : Int × Int} (h : err qs = 0) (hf : (leavesL qs)[k]? = some f) : numR qs f = ((k : Int) + 1, 0) := by
  have hi := ixL_get (nodup_leavesL qs) hf
  rw [numR_yes h (by rw [hi]; omega), hi]
theorem hasL_leaf {qs : List Q} {k : Nat} {f : Int × Int} (hf : (leavesL qs)[k]? = some f) : hasL f (leavesL qs) = true := by
  simp only [hasL, List.contains_eq_mem, decide_eq_true_eq]
  exact List.mem_of_getElem? hf
theorem mate_mate {qs : List Q} (x y : Int) : mate qs (mate qs x y).1 (mate qs x y).2 = (x, y) := by
  simp only [mate, Prod.mk.injEq, true_and]
  omega
theorem mate_ne {qs : List Q} {x y : Int} (he : err qs = 0) (hf : hasL (x, y) (leavesL qs) = true) : (mate qs x y).2 ≠ y := by
  obtain ⟨k, hk, rfl, h1, h2⟩ := leaf_in hf
  have hp := ok_parts (err_all he qs[k] (List.getElem_mem _))
  simp only [mate, Int.toNat_natCast, List.getElem?_eq_getElem hk]
  omega
theorem neq39 (x y a b : Int) (w : World) : (binOp .neq 39 (.agg #[.int .i64 x, .int .i64 y]) (.agg #[.int .i64 a, .int .i64 b])).run Tryz.prog w = .ok (.bool (!(x == a && y == b))) w := by
  rw [run_neq_struct, run_equalIn_struct _ _ _ _ _ und90 stood90]
  have hf : (Tryz.prog.fieldsOf 39).toList = [{ name := "Quire", type := 3, offset := 0, embedded := false, tag := "", pkgPath := "", byteOffset := 0 }, { name := "Number", type := 3, offset := 1, embedded := false, tag := "", pkgPath := "", byteOffset := 8 }] := by kernel_rfl
  rw [hf]
  by_cases h1 : x = a <;> by_cases h2 : y = b <;> simp [go_sem, Op.eqFields, h1, h2]
theorem guardneq39 (X Y : Operand) (xs ys : Array Value) (w : World) : (eqGuard .neq 39 X Y (.agg xs) (.agg ys)).run Tryz.prog w = .ok () w := run_eqGuard_agg _ _ _ _ _ _ _ guard90
set_option maxHeartbeats 8000000 in
set_option maxRecDepth 100000 in
theorem book_any (hsan : ∀ w : World, Calls Tryz.prog 7 #[] w fun e w' => e = .returned (.bool true) ∧ Below w.heap.size w w')
    (A : Option Addr) (n c : Nat) (qs : List Q) (x : Int) (hx1 : -9223372036854775808 ≤ x) (hx2 : x ≤ 9223372036854775807) (w : World) (hq : Qs w w.heap.size A n qs) :
    Calls Tryz.prog 5 #[.slice A n c, .int .i64 x] w fun e w' => e = .returned (.bool true) ∧ Below w.heap.size w w' := by
  have HL := hid hq.1
  by_cases h0 : err qs = 0
  · have HE := hid h0
    have HAL := hid (err_all h0)
    have h40 := (err_ok h0).1
    rw [HL.out] at h40
    go_enter Tryz.func5, Tryz.ntmps5
    go_wp2_with (first
      | (go_at_call 6; refine (brief_any A n c qs _ w.heap.size hq).mono ?_; rintro e w' ⟨bb, rfl, rfl⟩; cases bb)
      | (go_at_call 7; refine (hsan _).mono ?_; rintro e w9 ⟨rfl, hb9⟩)
      | (go_at_call 8; refine (print_any A n c qs _ w.heap.size (Nat.le_refl _) hq).mono ?_; rintro e w1 ⟨sx, hsx, rfl, hb1⟩))
    · go_ret
      exact ⟨rfl, hb9⟩
    · clear hsx
      go_loopw [7, 34] (fun v i wr => SmRel qs n w wr v i) (fun _ i _ => n - (intOf i).toNat)
      case atStart => exact ⟨0, Nat.zero_le _, rfl, rfl, hb1⟩
      case round =>
        obtain ⟨k, hk, rfl, rfl, hbl⟩ := hrel
        obtain ⟨wo, rfl⟩ : ∃ wo : World, wo = wr := ⟨_, rfl⟩
        have hsr := sum_range HAL.out (k := k) (by rw [HL.out]; exact hk)
        by_cases hlt : k < n
        · obtain ⟨ad, p, q, rfl, hp, hqk, hfit, hat⟩ := (hq.below hbl).at_ hlt
          have e0 := hat.c0
          have e1 := hat.c1
          have e2 := hat.c2
          have hkl : k < qs.length := by rw [HL.out]; exact hlt
          have HQ := hid (show qs[k] = q by rw [List.getElem?_eq_getElem hkl] at hqk; exact Option.some.inj hqk)
          have hok := ok_parts (HAL.out q (by rw [← HQ.out]; exact List.getElem_mem _))
          have hgl := gone_len hok
          have hgn : q.gl.length = q.n := by have := hfit.2.2.2.2.1; simpa using this
          have hlv : 2 ≤ q.lv ∧ q.lv ≤ 24 := ⟨hok.2.2.1, hok.2.2.2.1⟩
          have HGN := hid hgn
          rw [hgn] at hgl
          clear hqk hfit hat hok hgn
          obtain ⟨sm, hsm⟩ : ∃ sm, sumL qs k = sm := ⟨_, rfl⟩
          rw [hsm] at hsr ⊢
          have HSM := hid hsm
          clear hsm
          go_wp2
          go_roundw
          case rel => exact ⟨k + 1, by omega, by go_num, by rw [sumL_succ hkl, HQ.out, HSM.out, HGN.out], hbl.alloc hbl.size _⟩
          case measure => simp [intOf]; omega
        · obtain ⟨L, hL⟩ : ∃ L, (leavesL qs).length = L := ⟨_, rfl⟩
          have hsm : sumL qs k = (L : Int) := by
            rw [sumL_eq HAL.out k (by rw [HL.out]; exact hk), ← hL]
            unfold leavesL
            rw [show k = qs.length by rw [HL.out]; omega]
          rw [hsm]
          have HLL := hid hL
          have HBL := hid hbl
          have hL960 : (L : Int) ≤ 960 := by rw [hsm] at hsr; omega
          clear hsm hL hbl hsr
          have qq1 := fun X Y xs ys w => guardrun90 X Y xs ys w
          have qq2 := fun X Y xs ys w => guardneq39 X Y xs ys w
          by_cases hw : win 1 L x = true
          · obtain ⟨hlo, hhi⟩ := win_iff.1 hw
            obtain ⟨m, rfl⟩ : ∃ m : Nat, x = (m : Int) + 1 := ⟨(x - 1).toNat, by omega⟩
            obtain ⟨⟨f1, f2⟩, hf⟩ : ∃ f, (leavesL qs)[m]? = some f := ⟨_, List.getElem?_eq_getElem (by rw [HLL.out]; omega)⟩
            have HLF := hid (show leafR qs ((m : Int) + 1) = ((f1, f2), 0) from leafR_yes HE.out rfl hf)
            have HN := hid (show numR qs (f1, f2) = ((m : Int) + 1, 0) from numR_leaf HE.out hf)
            have hhas := hasL_leaf hf
            obtain ⟨p2, hp2⟩ : ∃ p2, (mate qs f1 f2).2 = p2 := ⟨_, rfl⟩
            have hmt : mate qs f1 f2 = (f1, p2) := by rw [← hp2]; rfl
            have hmm : mate qs f1 p2 = (f1, f2) := by have := mate_mate (qs := qs) f1 f2; rw [hmt] at this; exact this
            have hne : p2 ≠ f2 := by rw [← hp2]; exact mate_ne HE.out hhas
            have q1 := fun w => (eq90 f1 f2 f1 f2 w).trans (show Result.ok (Value.bool (f1 == f1 && f2 == f2)) w = Result.ok (Value.bool true) w by simp)
            have q2 := fun w => (neq39 f1 p2 f1 f2 w).trans (show Result.ok (Value.bool (!(f1 == f1 && p2 == f2))) w = Result.ok (Value.bool true) w by simp [hne])
            have q3 := fun w => (eq90 0 0 0 0 w).trans (show Result.ok (Value.bool ((0 : Int) == 0 && (0 : Int) == 0)) w = Result.ok (Value.bool true) w by simp)
            by_cases hh : hasL (mate qs f1 f2) (leavesL qs) = true
            · have HP := hid (show partR qs (f1, f2) = ((f1, p2), true, 0) by rw [partR_yes HE.out hhas hh]; show (mate qs f1 f2, true, (0 : Int)) = _; rw [hmt])
              have HPP := hid (show partR qs (f1, p2) = ((f1, f2), true, 0) by
                rw [partR_yes HE.out (by rw [← hmt]; exact hh) (by show hasL (mate qs f1 p2) (leavesL qs) = true; rw [hmm]; exact hhas)]
                show (mate qs f1 p2, true, (0 : Int)) = _
                rw [hmm])
              clear hw hf hhas hp2 hmt hmm hne hh
              go_wp2_with fail
              go_at_call 13
              refine (leafOf_any A n c qs ((m : Int) + 1) hx1 hx2 _ w.heap.size HBL.out.size (hq.below HBL.out)).mono ?_
              rintro e w1 ⟨he, hb2⟩
              rw [HLF.out] at he
              simp only at he
              subst he
              have HB1 := hid (below_go HBL.out hb2)
              clear hb2
              obtain ⟨a0, a1⟩ := (Has.new w1 39 (.int .i64 f1) (.int .i64 f2)).alls
              go_wp2_with fail
              go_at_call 14
              refine (numberOf_any A n c qs f1 f2 _ w.heap.size (((HB1.out.alloc HB1.out.size _)).size) (hq.below (HB1.out.alloc HB1.out.size _))).mono ?_
              rintro e w2 ⟨he, hb2⟩
              rw [HN.out] at he
              simp only at he
              subst he
              have HB2 := hid (below_next HB1.out hb2)
              have A2 := hid ((Has.new w1 39 (.int .i64 f1) (.int .i64 f2)).below hb2)
              clear hb2 a0 a1
              obtain ⟨-, a0, a1⟩ := A2.out
              go_wp2_with fail
              go_at_call 15
              refine (partner_any A n c qs f1 f2 _ w.heap.size HB2.out.size (hq.below HB2.out)).mono ?_
              rintro e w3 ⟨he, hb2⟩
              rw [HP.out] at he
              simp only at he
              subst he
              have HB3 := hid (below_go HB2.out hb2)
              have A3 := hid (A2.out.below hb2)
              clear hb2 a0 a1
              go_wp2_with fail
              go_at_call 15
              refine (partner_any A n c qs f1 p2 _ w.heap.size (((HB3.out.alloc HB3.out.size _)).size) (hq.below (HB3.out.alloc HB3.out.size _))).mono ?_
              rintro e w4 ⟨he, hb2⟩
              rw [HPP.out] at he
              simp only at he
              subst he
              have HB4 := hid (below_next HB3.out hb2)
              have A4 := hid ((A3.out.alloc _).below hb2)
              have P4 := hid ((Has.new w3 39 (.int .i64 f1) (.int .i64 p2)).below hb2)
              clear hb2
              go_wp2_with fail
              go_at_call 7
              refine (hsan _).mono ?_
              rintro e w5 ⟨rfl, hb2⟩
              obtain ⟨-, a0, a1⟩ := (A4.out.alloc _).below hb2
              obtain ⟨-, b0, b1⟩ := (P4.out.alloc _).below hb2
              obtain ⟨-, d0, d1⟩ := (Has.new w4 39 (.int .i64 f1) (.int .i64 f2)).below hb2
              have HB5 := hid (below_next HB4.out hb2)
              clear hb2
              go_wp2
              go_ret
              exact ⟨rfl, HB5.out⟩
            · have HP := hid (show partR qs (f1, f2) = ((0, 0), false, 0) from partR_gone HE.out hhas (by simpa using hh))
              clear hw hf hhas hp2 hmt hmm hne hh q2
              go_wp2_with fail
              go_at_call 13
              refine (leafOf_any A n c qs ((m : Int) + 1) hx1 hx2 _ w.heap.size HBL.out.size (hq.below HBL.out)).mono ?_
              rintro e w1 ⟨he, hb2⟩
              rw [HLF.out] at he
              simp only at he
              subst he
              have HB1 := hid (below_go HBL.out hb2)
              clear hb2
              obtain ⟨a0, a1⟩ := (Has.new w1 39 (.int .i64 f1) (.int .i64 f2)).alls
              go_wp2_with fail
              go_at_call 14
              refine (numberOf_any A n c qs f1 f2 _ w.heap.size (((HB1.out.alloc HB1.out.size _)).size) (hq.below (HB1.out.alloc HB1.out.size _))).mono ?_
              rintro e w2 ⟨he, hb2⟩
              rw [HN.out] at he
              simp only at he
              subst he
              have HB2 := hid (below_next HB1.out hb2)
              have A2 := hid ((Has.new w1 39 (.int .i64 f1) (.int .i64 f2)).below hb2)
              clear hb2 a0 a1
              obtain ⟨-, a0, a1⟩ := A2.out
              go_wp2_with fail
              go_at_call 15
              refine (partner_any A n c qs f1 f2 _ w.heap.size HB2.out.size (hq.below HB2.out)).mono ?_
              rintro e w3 ⟨he, hb2⟩
              rw [HP.out] at he
              simp only at he
              subst he
              have HB3 := hid (below_go HB2.out hb2)
              have A3 := hid (A2.out.below hb2)
              clear hb2 a0 a1
              go_wp2_with fail
              go_at_call 7
              refine (hsan _).mono ?_
              rintro e w5 ⟨rfl, hb2⟩
              obtain ⟨-, b0, b1⟩ := (Has.new w3 39 (.int .i64 0) (.int .i64 0)).below hb2
              have HB5 := hid (below_next HB3.out hb2)
              clear hb2
              go_wp2
              go_ret
              exact ⟨rfl, HB5.out⟩
          · have HLF := hid (show leafR qs x = ((0, 0), 5) from leafR_no HE.out (by rw [HLL.out]; simpa using hw))
            have hout : ¬ (1 ≤ x ∧ x ≤ (L : Int)) := fun h => hw (win_iff.2 h)
            clear hw
            by_cases h1 : 1 ≤ x
            · have h1' : decide (1 ≤ x) = true := by simpa using h1
              have h2' : decide (x ≤ (L : Int)) = false := by simp; omega
              clear hout
              go_wp2_with fail
              go_at_call 13
              refine (leafOf_any A n c qs x hx1 hx2 _ w.heap.size HBL.out.size (hq.below HBL.out)).mono ?_
              rintro e w1 ⟨he, hb2⟩
              rw [HLF.out] at he
              simp only at he
              subst he
              have HB1 := hid (below_go HBL.out hb2)
              clear hb2
              go_wp2_with fail
              go_at_call 7
              refine (hsan _).mono ?_
              rintro e w5 ⟨rfl, hb2⟩
              have HB5 := hid (below_next HB1.out hb2)
              clear hb2
              go_wp2
              go_ret
              exact ⟨rfl, HB5.out⟩
            · have h1' : decide (1 ≤ x) = false := by simpa using h1
              clear hout
              go_wp2_with fail
              go_at_call 13
              refine (leafOf_any A n c qs x hx1 hx2 _ w.heap.size HBL.out.size (hq.below HBL.out)).mono ?_
              rintro e w1 ⟨he, hb2⟩
              rw [HLF.out] at he
              simp only at he
              subst he
              have HB1 := hid (below_go HBL.out hb2)
              clear hb2
              go_wp2_with fail
              go_at_call 7
              refine (hsan _).mono ?_
              rintro e w5 ⟨rfl, hb2⟩
              have HB5 := hid (below_next HB1.out hb2)
              clear hb2
              go_wp2
              go_ret
              exact ⟨rfl, HB5.out⟩
  · obtain ⟨e0, he0⟩ : ∃ e0, err qs = e0 := ⟨_, rfl⟩
    have h0' : (e0 != 0) = true := by rw [← he0]; simpa using h0
    have HPR := hid (show ∀ w1, Qs w1 w.heap.size A n qs → w.heap.size ≤ w1.heap.size → Calls Tryz.prog 8 #[.slice A n c] w1 (RetPr [] e0 w1) from fun w1 h1 h2 => print_bad A n c qs w1 w.heap.size h2 h1 e0 he0 (by rw [← he0]; exact h0))
    clear he0 h0
    go_enter Tryz.func5, Tryz.ntmps5
    go_wp2_with (first
      | (go_at_call 6; refine (brief_any A n c qs _ w.heap.size hq).mono ?_; rintro e w' ⟨bb, rfl, rfl⟩; cases bb)
      | (go_at_call 7; refine (hsan _).mono ?_; rintro e w9 ⟨rfl, hb9⟩)
      | (go_at_call 8; refine (HPR.out _ hq (Nat.le_refl _)).mono ?_; rintro e w1 ⟨sx, hsx, rfl, hb1⟩))
    · go_ret
      exact ⟨rfl, hb9⟩
    · go_ret
      exact ⟨rfl, below_go hb1 hb9⟩
end Go.Proofs.YtcoplbaopaigcaaGreatDoor
