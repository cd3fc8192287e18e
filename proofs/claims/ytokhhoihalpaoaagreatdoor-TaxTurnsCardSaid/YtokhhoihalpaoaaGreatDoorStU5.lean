/- Contracts of functions, walked. -/
import Derived.Test.YtokhhoihalpaoaaGreatDoorStU2
import Derived.Test.YtokhhoihalpaoaaGreatDoorAwB
set_option linter.all false
namespace Go.Proofs.Tryz
open Go Go.Am Go.RowKit
set_option maxRecDepth 100000


end Go.Proofs.Tryz
namespace Go.Proofs.Tryz
open Go Go.Am Go.RowKit
set_option maxRecDepth 100000


end Go.Proofs.Tryz
namespace Go.Proofs.Tryz
open Go Go.Am Go.RowKit
set_option maxRecDepth 100000


end Go.Proofs.Tryz
namespace Go.Proofs.Tryz
open Go Go.Am Go.RowKit
set_option maxRecDepth 100000


section
variable {H : AHeap} {β : Type} {kk : K β} {dst : Option Tmp} {ty : TypeId} {src : String} {af : Array Edge} {g : Option (Nat × Bool)} {f : AF}
@[go_sem] theorem vA_negT {t : TypeId} {x : Operand} : valA Tryz.prog ⟨dst, .unOp .neg t x, ty, src, af, g⟩ (Am.decode (Op.unOp .neg t x)) (evR (opReads ⟨dst, .unOp .neg t x, ty, src, af, g⟩) f) H kk = negV (f.eval x) H kk fun _ => aPlain Tryz.prog ⟨dst, .unOp .neg t x, ty, src, af, g⟩ (evR (opReads ⟨dst, .unOp .neg t x, ty, src, af, g⟩) f) H kk := by
  rw [← evR_self (o := ⟨dst, .unOp .neg t x, ty, src, af, g⟩) (f := f) (x := x) (by simp [Op.operands])]; exact aPlain_neg
end
def Apart (s r : Value) : Prop := ∀ b n b' n', s = .slice (some ⟨b, 0, none⟩) n n → r = .slice (some ⟨b', 0, none⟩) n' n' → b ≠ b'
theorem Apart.symm {s r : Value} (h : Apart s r) : Apart r s := fun b n b' n' h1 h2 h3 => h b' n' b n h2 h1 h3.symm
theorem own_lt {H : AHeap} {base : Nat} {r : Value} {e : TypeId} {size : Nat} {cells : List Value} (h : Own H base r e size cells) {b n : Nat} (hs : r = .slice (some ⟨b, 0, none⟩) n n) : b < H.n := by
  rcases h with ⟨h, _⟩ | ⟨b1, n1, h1, h2, h3, _⟩
  · rw [h] at hs; cases hs
  · rw [h1] at hs; cases hs; exact h3
theorem ints_len {H : AHeap} {a : Option Addr} {n c : Nat} {xs : List Int} (h : Ints H (.slice a n c) xs) : n = xs.length := by
  obtain ⟨_, _, a', c', h3, _⟩ := h
  cases h3; rfl
end Go.Proofs.Tryz
namespace Go.Proofs.Tryz
open Go Go.Am Go.RowKit
set_option maxRecDepth 100000


structure DSt where
  s : List Int
  left : Int
  next : Int
def baseL (n : Int) (p : List Int) : List Int := p.map fun x => n * x / p.sum
def whoD (p : List Int) (turn : Int) (k : Nat) : Nat := ((turn + k) % p.length).toNat
def divStep (n : Int) (p : List Int) (turn : Int) (k : Nat) (st : DSt) : DSt :=
  if 0 < st.left ∧ ¬ (n * p.getD (whoD p turn k) 0) % p.sum = 0 then ⟨st.s.set (whoD p turn k) (st.s.getD (whoD p turn k) 0 + 1), st.left - 1, ((whoD p turn k : Int) + 1) % p.length⟩ else st
def divS (n : Int) (p : List Int) (turn : Int) : Nat → DSt
  | 0 => ⟨baseL n p, n - (baseL n p).sum, turn⟩
  | k + 1 => divStep n p turn k (divS n p turn k)
structure DvOk (n : Int) (p : List Int) (turn : Int) : Prop where
  amt : 0 ≤ n ∧ n ≤ 1099511627776
  ok : partsOk p = true
  at_ : 0 ≤ turn ∧ turn < p.length

theorem mem_le_sum : ∀ {p : List Int}, (∀ x ∈ p, 0 ≤ x) → 0 ≤ p.sum ∧ ∀ x ∈ p, x ≤ p.sum
  | [], _ => ⟨by simp, fun x hx => by cases hx⟩
  | a :: p, h => by
    obtain ⟨h1, h2⟩ := mem_le_sum (p := p) (fun x hx => h x (List.mem_cons_of_mem _ hx))
    have h3 := h a (List.mem_cons_self ..)
    simp only [List.sum_cons]
    refine ⟨by omega, fun x hx => ?_⟩
    rcases List.mem_cons.1 hx with rfl | hx
    · omega
    · have := h2 x hx; omega
structure PFacts (p : List Int) : Prop where
  len : 1 ≤ p.length ∧ p.length ≤ 10
  bd : ∀ x ∈ p, 0 ≤ x ∧ x ≤ 1000
  sum : 1 ≤ p.sum ∧ p.sum ≤ 10000
  le : ∀ x ∈ p, x ≤ p.sum
theorem pFacts {p : List Int} (h : partsOk p = true) : PFacts p := by
  simp only [partsOk, Bool.and_eq_true, win_iff, decide_eq_true_eq, List.all_eq_true] at h
  obtain ⟨h1, h2, h3⟩ := h
  have h4 := sum_bd (xs := p) (B := 1000) (fun x hx => by have := h2 x hx; omega)
  exact ⟨by omega, h2, by omega, (mem_le_sum fun x hx => (h2 x hx).1).2⟩
theorem mul_n {n x : Int} (hn : 0 ≤ n ∧ n ≤ 1099511627776) (hx : 0 ≤ x ∧ x ≤ 1000) : 0 ≤ n * x ∧ n * x ≤ 1099511627776000 := by
  have := mul_bd hn.1 hn.2 hx.1 hx.2; simpa using this
theorem base_bd {n x S : Int} (hn : 0 ≤ n) (hx : 0 ≤ x ∧ x ≤ S) (hS : 1 ≤ S) : 0 ≤ n * x / S ∧ n * x / S ≤ n := by
  have h1 : 0 ≤ n * x := Int.mul_nonneg hn hx.1
  refine ⟨Int.ediv_nonneg h1 (by omega), ?_⟩
  have h2 : n * x ≤ n * S := Int.mul_le_mul_of_nonneg_left hx.2 hn
  calc n * x / S ≤ n * S / S := Int.ediv_le_ediv (by omega) h2
    _ = n := Int.mul_ediv_cancel _ (by omega)
theorem baseL_bd {n : Int} {p : List Int} (hn : 0 ≤ n ∧ n ≤ 1099511627776) (hp : PFacts p) : ∀ y ∈ baseL n p, 0 ≤ y ∧ y ≤ 1099511627776 := by
  intro y hy
  obtain ⟨x, hx, rfl⟩ := List.mem_map.1 hy
  have := base_bd (S := p.sum) hn.1 ⟨(hp.bd x hx).1, hp.le x hx⟩ hp.sum.1
  omega
theorem baseL_len (n : Int) (p : List Int) : (baseL n p).length = p.length := by simp [baseL]
theorem who_lt {p : List Int} (hp : PFacts p) {turn : Int} {k : Nat} (_ht : 0 ≤ turn) : whoD p turn k < p.length ∧ (turn + k) % (p.length : Int) = (whoD p turn k : Int) := by
  have h1 := Int.emod_nonneg (turn + k) (b := (p.length : Int)) (by have := hp.len; omega)
  have h2 := Int.emod_lt_of_pos (turn + k) (b := (p.length : Int)) (by have := hp.len; omega)
  unfold whoD; omega
structure DFacts (n : Int) (p : List Int) (k : Nat) (st : DSt) : Prop where
  len : st.s.length = p.length
  bd : ∀ y ∈ st.s, 0 ≤ y ∧ y ≤ 1099511627776 + k
  left : -10995116277760 - k ≤ st.left ∧ st.left ≤ 10995116277760
  next : 0 ≤ st.next ∧ st.next < p.length
theorem dFacts {n : Int} {p : List Int} {turn : Int} (h : DvOk n p turn) : ∀ k, DFacts n p k (divS n p turn k)
  | 0 => by
    have hp := pFacts h.ok
    have hb := baseL_bd h.amt hp
    have hs := sum_bd (xs := baseL n p) (B := 1099511627776) (fun x hx => by have := hb x hx; omega)
    have hs2 := (mem_le_sum fun x hx => (hb x hx).1).1
    rw [baseL_len] at hs
    have := hp.len
    have := h.amt
    exact ⟨baseL_len n p, fun y hy => by have := hb y hy; simp only [divS] at *; omega, by simp only [divS]; omega, h.at_⟩
  | k + 1 => by
    have ih := dFacts h k
    have hp := pFacts h.ok
    have hw := who_lt hp (k := k) h.at_.1
    have hm := Int.emod_nonneg ((whoD p turn k : Int) + 1) (b := (p.length : Int)) (by have := hp.len; omega)
    have hm2 := Int.emod_lt_of_pos ((whoD p turn k : Int) + 1) (b := (p.length : Int)) (by have := hp.len; omega)
    simp only [divS, divStep]
    split
    · refine ⟨by simp [ih.len], fun y hy => ?_, by have := ih.left; simp only; omega, ⟨hm, hm2⟩⟩
      rcases List.mem_or_eq_of_mem_set hy with hy | rfl
      · have := ih.bd y hy; omega
      · have hl : whoD p turn k < (divS n p turn k).s.length := by rw [ih.len]; exact hw.1
        rw [List.getD, List.getElem?_eq_getElem hl]
        have := ih.bd _ (List.getElem_mem hl)
        simp only [Option.getD_some]; omega
    · exact ⟨ih.len, fun y hy => by have := ih.bd y hy; omega, by have := ih.left; omega, ih.next⟩
end Go.Proofs.Tryz
namespace Go.Proofs.Tryz
open Go Go.Am Go.RowKit
set_option maxRecDepth 100000


structure OwnB (H : AHeap) (base b : Nat) (xs : List Int) : Prop where
  lo : base ≤ b
  hi : b < H.n
  row : H.get b = .row (xs.map (Value.int .i64)) 3
theorem OwnB.own {H : AHeap} {base b : Nat} {xs : List Int} (h : OwnB H base b xs) (h0 : 0 < xs.length) : Own H base (.slice (some ⟨b, 0, none⟩) xs.length xs.length) 3 1 (xs.map (Value.int .i64)) :=
  .inr ⟨b, xs.length, rfl, h.lo, h.hi, h.row, by simp, h0⟩
theorem own_blk {H : AHeap} {base : Nat} {v : Value} {xs : List Int} (h : Own H base v 3 1 (xs.map (Value.int .i64))) (h0 : 0 < xs.length) : ∃ b, v = .slice (some ⟨b, 0, none⟩) xs.length xs.length ∧ OwnB H base b xs := by
  rcases h with ⟨_, h⟩ | ⟨b, n, rfl, h1, h2, h3, h4, h5⟩
  · have := congrArg List.length h
    simp at this; subst this; simp at h0
  · rw [List.length_map, Nat.mul_one] at h4
    subst h4
    exact ⟨b, rfl, h1, h2, h3⟩
theorem OwnB.cell {H : AHeap} {base b : Nat} {xs : List Int} (h : OwnB H base b xs) {k : Nat} (hk : k < xs.length) : cellAt H b k = some (.int .i64 (xs.getD k 0)) := by
  simp [cellAt, h.row, List.getD, List.getElem?_eq_getElem hk]

set_option maxHeartbeats 8000000 in
theorem divide_e {loops : List (Nat × LInfo)} {H : AHeap} {pv : Value} {n turn : Int} {p : List Int} (hp : Ints H pv p) (h : DvOk n p turn) : CallS Tryz.prog loops 102 [.int .i64 n, pv, .int .i64 turn] H fun r H' => (∃ b, r = .tuple #[.slice (some ⟨b, 0, none⟩) p.length p.length, .int .i64 (divS n p turn p.length).next] ∧ OwnB H' H.n b (divS n p turn p.length).s) ∧ Ext H H' := by
  obtain ⟨hplen, pa, pc, rfl⟩ := hp.slice
  have HP := Lib.hid hp
  have HD := Lib.hid h
  have hf := pFacts h.ok
  have HF := Lib.hid hf
  have HT := Lib.hid (fun (loops : List (Nat × LInfo)) => total_s (loops := loops) hp ⟨by have := hf.len; omega, fun x hx => by have := hf.bd x hx; omega⟩)
  have hs1 := hf.sum.1
  have hs2 := hf.sum.2
  have hL := hf.len
  have HSM : Hid (Small (baseL n p)) := Lib.hid ⟨by rw [baseL_len]; omega, fun x hx => by have := baseL_bd h.amt hf x hx; omega⟩
  have HB2 : Hid (-10995116277760 ≤ (baseL n p).sum ∧ (baseL n p).sum ≤ 10995116277760) := Lib.hid (by
    have := sum_bd (xs := baseL n p) (B := 1099511627776) (fun x hx => by have := baseL_bd h.amt hf x hx; omega)
    rw [baseL_len] at this; omega)
  generalize hS : p.sum = S at HT hs1 hs2
  have HS := Lib.hid hS
  clear hp h hf hS
  refine CallS.enter' Tryz.func102 rfl Tryz.ntmps102 (by simp) fun f hd hf => ?_
  have f0 := hf 0
  have f1 := hf 1
  have f2 := hf 2
  simp at f0 f1 f2
  clear hf
  repeat' (first|(with_reducible first|refine zA ?_|refine zB fun K hK=>?_|refine zC fun K2 hK2=>?_|refine zD ?_|refine zE ?_|refine zF ?_|refine zG ?_|refine zH ?_|refine zI ?_|refine zM ?_|refine zN ?_|refine zO ?_|refine zP ?_|refine zQ ?_|refine zR ?_)|((with_reducible refine zU (hK _ _ ?_));clear hK K)|((with_reducible refine zV ?_ ?_ fun K1 K3 d hdst h1 h3=>?_);rfl;exact yB rfl;cases hdst;go_simp)|((with_reducible refine zW fun K1 K3 h1 h3=>?_);go_simp)|((first|refine h1 ?_|refine h3 ?_);clear h1 h3 K1 K3)|((first|refine zX (fun hb=>h1 ?_) (fun hb=>h3 ?_)|refine zX (fun hb=>h3 ?_) (fun hb=>h1 ?_))<;>(clear h1 h3 K1 K3;(try have hb2:=yC hb);(try have hb2:=yD hb);(try have hb2:=yE hb);(try have hb2:=yF hb);(try have hb2:=yG hb)))|(refine fun (K2:_→AHeap→Prop) hK2=>?_)|((with_reducible refine zY ?_ ?_);decide)|((with_reducible first|refine zZ ?_ (fun K hK=>?_)|refine yA ?_ (fun K hK=>?_));(focus go_simp;done);go_simp;refine hK _ _ ?_;clear hK K)|(go_simp;(try go_bits);(try first | ((with_reducible show CallS _ _ _ _ _ _);refine CallS.mono (HT.out _) ?_; rintro _ _ ⟨rfl, h9⟩; rw [h9]; clear h9; go_simp));refine hK2 _ _ ?_;clear hK2 K2))
  refine CodeS.loop (fun m f H' => ∃ (k : Nat) (u : Value), k ≤ p.length ∧ m = p.length - k ∧ f.tmp 20 = .int .i64 k ∧ f.tmp 19 = .int .i64 p.length ∧ f.tmp 18 = .slice pa p.length pc ∧ f.tmp 0 = .int .i64 n ∧ f.tmp 1 = .slice pa p.length pc ∧ f.tmp 2 = .int .i64 turn ∧ f.tmp 8 = .int .i64 S ∧ f.tmp 9 = u ∧ f.defers = [] ∧ Hid (Own H' H.n u 3 1 (((baseL n p).take k).map (Value.int .i64))) ∧ Hid (Ext H H')) p.length ?_ ?_
  · exact ⟨0, .slice none 0 0, by omega, by omega, (by first|go_simp<;>go_num|assumption), (by first|go_simp<;>go_num|assumption), (by first|go_simp<;>go_num|assumption), (by first|go_simp<;>go_num|assumption), (by first|go_simp<;>go_num|assumption), (by first|go_simp<;>go_num|assumption), (by first|go_simp<;>go_num|assumption), (by first|go_simp<;>go_num|assumption), (by first|go_simp<;>go_num|assumption), Lib.hid Own.nil, Lib.hid (Ext.refl _)⟩
  clear f0 f1 f2 hd f
  rintro m f H' ⟨k, u, hk, rfl, f20, f19, f18, f0, f1, f2, f8, f9, hd, HO, HX⟩
  obtain ⟨a1, n1, rfl⟩ := own_sliceP HO.out
  have HBIG : Hid (((((baseL n p).take k).map (Value.int .i64)).length + 1) * max 8 1 ≤ 1073741824) := Lib.hid (by rw [List.length_map, List.length_take, baseL_len]; show (min k p.length + 1) * 8 ≤ 1073741824; omega)
  have HNX := Lib.hid HX.out.n
  by_cases hlt : k < p.length
  · obtain ⟨b, o, sp, rfl, hb, hx⟩ := (HP.out.ext HX.out).at_ hlt
    have hlb : (k : Int) < (p.length : Int) := by omega
    have HTK : Hid ((baseL n p).take (k + 1) = (baseL n p).take k ++ [n * p[k] / S]) := Lib.hid (by
      rw [List.take_succ_eq_append_getElem (by rw [baseL_len]; exact hlt), ← HS.out]; simp [baseL])
    have hm := mul_n HD.out.amt (HF.out.bd _ (List.getElem_mem hlt))
    generalize p[k] = x at hx HTK hm
    have hm1 := hm.1
    have hm2 : n * x ≤ 9223372036854775807 := by omega
    have w1 := wrap_id (n := n * x) (by omega)
    have w2 := wrap_id (n := (k : Int) + 1) (by omega)
    clear hm
    repeat' (first|(with_reducible first|refine zA ?_|refine zB fun K hK=>?_|refine zC fun K2 hK2=>?_|refine zD ?_|refine zE ?_|refine zF ?_|refine zG ?_|refine zH ?_|refine zI ?_|refine zM ?_|refine zN ?_|refine zO ?_|refine zP ?_|refine zQ ?_|refine zR ?_)|((with_reducible refine zU (hK _ _ ?_));clear hK K)|((with_reducible refine zV ?_ ?_ fun K1 K3 d hdst h1 h3=>?_);rfl;exact yB rfl;cases hdst;go_simp)|((with_reducible refine zW fun K1 K3 h1 h3=>?_);go_simp)|((first|refine h1 ?_|refine h3 ?_);clear h1 h3 K1 K3)|((first|refine zX (fun hb=>h1 ?_) (fun hb=>h3 ?_)|refine zX (fun hb=>h3 ?_) (fun hb=>h1 ?_))<;>(clear h1 h3 K1 K3;(try have hb2:=yC hb);(try have hb2:=yD hb);(try have hb2:=yE hb);(try have hb2:=yF hb);(try have hb2:=yG hb)))|(refine fun (K2:_→AHeap→Prop) hK2=>?_)|((with_reducible refine zY ?_ ?_);decide)|((with_reducible first|refine zZ ?_ (fun K hK=>?_)|refine yA ?_ (fun K hK=>?_));(focus go_simp;done);go_simp;refine hK _ _ ?_;clear hK K)|(go_simp;(try go_bits);(try first | ((refine one_k el23 sz3 ze3 rfl (by decide) (by decide) rfl rfl ?_); go_simp) | ((refine append_k el23 sz3 by3 ze3 rfl (by decide) (HO.out.ext (Ext.push _)) (srcCells_new rfl) (by decide) rfl (by rw [List.all_append, oneV_ints]; rfl) HBIG.out (by rw [AHeap.n_push]; have := HNX.out; omega) fun v2 H4 ho4 hg4 => ?_); (obtain ⟨a4, n4, rfl⟩ := own_sliceP ho4); (have HO4 := Lib.hid ho4); (have HX4 := Lib.hid (hg4.ext (HO.out.ext (Ext.push _)) (Nat.le_refl _) (HX.out.push' _))); clear ho4 hg4; go_simp));refine hK2 _ _ ?_;clear hK2 K2))
    refine Post.round_normal ⟨p.length - (k + 1), by omega, k + 1, .slice a4 n4 n4, by omega, rfl, (by first|go_simp<;>go_num|assumption), (by first|go_simp<;>go_num|assumption), (by first|go_simp<;>go_num|assumption), (by first|go_simp<;>go_num|assumption), (by first|go_simp<;>go_num|assumption), (by first|go_simp<;>go_num|assumption), (by first|go_simp<;>go_num|assumption), (by first|go_simp<;>go_num|assumption), (by first|go_simp<;>go_num|assumption), Lib.hid ?_, HX4⟩
    rw [HTK.out, List.map_append]; exact HO4.out
  · have hlb : ¬ (k : Int) < (p.length : Int) := by omega
    obtain rfl : k = p.length := by omega
    have ho := HO.out
    rw [List.take_of_length_le (by rw [baseL_len]; exact Nat.le_refl _)] at ho
    obtain ⟨b, he, hbk⟩ := own_blk ho (by rw [baseL_len]; omega)
    rw [baseL_len] at he
    cases he
    have HT2 := Lib.hid (fun (loops : List (Nat × LInfo)) => total_s (loops := loops) (own_ints ho (by rw [baseL_len]; omega)) HSM.out)
    have HBK := Lib.hid hbk
    have hb2 := HB2.out
    have hn1 := HD.out.amt
    have w3 := wrap_id (n := n - (baseL n p).sum) (by omega)
    clear ho hbk hb2 hn1
    repeat' (first|(with_reducible first|refine zA ?_|refine zB fun K hK=>?_|refine zC fun K2 hK2=>?_|refine zD ?_|refine zE ?_|refine zF ?_|refine zG ?_|refine zH ?_|refine zI ?_|refine zM ?_|refine zN ?_|refine zO ?_|refine zP ?_|refine zQ ?_|refine zR ?_)|((with_reducible refine zU (hK _ _ ?_));clear hK K)|((with_reducible refine zV ?_ ?_ fun K1 K3 d hdst h1 h3=>?_);rfl;exact yB rfl;cases hdst;go_simp)|((with_reducible refine zW fun K1 K3 h1 h3=>?_);go_simp)|((first|refine h1 ?_|refine h3 ?_);clear h1 h3 K1 K3)|((first|refine zX (fun hb=>h1 ?_) (fun hb=>h3 ?_)|refine zX (fun hb=>h3 ?_) (fun hb=>h1 ?_))<;>(clear h1 h3 K1 K3;(try have hb2:=yC hb);(try have hb2:=yD hb);(try have hb2:=yE hb);(try have hb2:=yF hb);(try have hb2:=yG hb)))|(refine fun (K2:_→AHeap→Prop) hK2=>?_)|((with_reducible refine zY ?_ ?_);decide)|((with_reducible first|refine zZ ?_ (fun K hK=>?_)|refine yA ?_ (fun K hK=>?_));(focus go_simp;done);go_simp;refine hK _ _ ?_;clear hK K)|(go_simp;(try go_bits);(try first | ((with_reducible show CallS _ _ _ _ _ _);refine CallS.mono (HT2.out _) ?_; rintro _ _ ⟨rfl, h9⟩; rw [h9]; clear h9; go_simp));refine hK2 _ _ ?_;clear hK2 K2))
    clear f20 f19 f18 hlb hlt hk
    refine CodeS.loop (fun m f J => ∃ (k : Nat) (st : DSt), k ≤ p.length ∧ m = p.length - k ∧ f.tmp 40 = .int .i64 k ∧ f.tmp 39 = .int .i64 p.length ∧ f.tmp 0 = .int .i64 n ∧ f.tmp 1 = .slice pa p.length pc ∧ f.tmp 2 = .int .i64 turn ∧ f.tmp 8 = .int .i64 S ∧ f.tmp 9 = .slice (some ⟨b, 0, none⟩) p.length p.length ∧ f.tmp 12 = .int .i64 st.left ∧ f.tmp 13 = .int .i64 st.next ∧ f.defers = [] ∧ Hid (divS n p turn k = st) ∧ Hid (OwnB J H.n b st.s) ∧ Hid (Ext H J)) p.length ?_ ?_
    · exact ⟨0, ⟨baseL n p, n - (baseL n p).sum, turn⟩, by omega, by omega, (by first|go_simp<;>go_num|assumption), (by first|go_simp<;>go_num|assumption), (by first|go_simp<;>go_num|assumption), (by first|go_simp<;>go_num|assumption), (by first|go_simp<;>go_num|assumption), (by first|go_simp<;>go_num|assumption), (by first|go_simp<;>go_num|assumption), (by first|go_simp<;>go_num|assumption), (by first|go_simp<;>go_num|assumption), (by first|go_simp<;>go_num|assumption), Lib.hid rfl, HBK, HX⟩
    clear f0 f1 f2 f8 f9 hd f
    rintro m f J ⟨k, st, hk, rfl, f40, f39, f0, f1, f2, f8, f9, f12, f13, hd, HST, HOB, HXJ⟩
    have hdf := dFacts HD.out k
    rw [HST.out] at hdf
    by_cases hlt : k < p.length
    · have hlb : (k : Int) < (p.length : Int) := by omega
      obtain ⟨hw1, hw2⟩ := who_lt HF.out (k := k) HD.out.at_.1
      have HNX : Hid (divS n p turn (k + 1) = if 0 < st.left ∧ ¬ (n * p.getD (whoD p turn k) 0) % S = 0 then ⟨st.s.set (whoD p turn k) (st.s.getD (whoD p turn k) 0 + 1), st.left - 1, ((whoD p turn k : Int) + 1) % p.length⟩ else st) := Lib.hid (by rw [divS, HST.out, divStep, HS.out])
      obtain ⟨b1, o1, sp1, hpa, hb1, hx1⟩ := (HP.out.ext HXJ.out).at_ hw1
      subst hpa
      have hq : p.getD (whoD p turn k) 0 = p[whoD p turn k] := by rw [List.getD, List.getElem?_eq_getElem hw1]; rfl
      rw [hq] at HNX
      have hm := mul_n HD.out.amt (HF.out.bd _ (List.getElem_mem hw1))
      generalize p[whoD p turn k] = x at hx1 HNX hm
      have hsl := hdf.len
      have hcell := HOB.out.cell (k := whoD p turn k) (by rw [hsl]; exact hw1)
      have hyb : 0 ≤ st.s.getD (whoD p turn k) 0 ∧ st.s.getD (whoD p turn k) 0 ≤ 1099511627776 + k := by
        have hl : whoD p turn k < st.s.length := by rw [hsl]; exact hw1
        have := hdf.bd _ (List.getElem_mem hl)
        rw [List.getD, List.getElem?_eq_getElem hl]; exact this
      have hrow := HOB.out.row
      have hbJ := HOB.out.hi
      have hws : whoD p turn k < st.s.length := by rw [hsl]; exact hw1
      have hturn := HD.out.at_
      generalize st.s.getD (whoD p turn k) 0 = y at hcell hyb HNX
      generalize whoD p turn k = w at hw1 hw2 hx1 hcell hws HNX
      have hm1 := hm.1
      have w1 := wrap_id (n := n * x) (by omega)
      have w2 := wrap_id (n := (k : Int) + 1) (by omega)
      have w4 := wrap_id (n := turn + (k : Int)) (by omega)
      have w5 := wrap_id (n := y + 1) (by omega)
      have hlf := hdf.left
      have w6 := wrap_id (n := st.left - 1) (by omega)
      have w7 := wrap_id (n := (w : Int) + 1) (by omega)
      have hk0 : 0 ≤ turn + (k : Int) := by omega
      have hp1 : 1 ≤ (p.length : Int) := by omega
      have hw0 : 0 ≤ (w : Int) + 1 := by omega
      have hwp : (w : Int) < (p.length : Int) := by omega
      obtain ⟨s, lf, nx⟩ := st
      simp only at *
      clear hm hyb hlf hturn hdf hsl
      by_cases hc : 0 < lf ∧ ¬ (n * x) % S = 0
      · rw [if_pos hc] at HNX
        have hc1 := hc.1
        have hc2 : ((n * x) % S != 0) = true := by simpa using hc.2
        clear hc
        repeat' (first|(with_reducible first|refine zA ?_|refine zB fun K hK=>?_|refine zC fun K2 hK2=>?_|refine zD ?_|refine zE ?_|refine zF ?_|refine zG ?_|refine zH ?_|refine zI ?_|refine zM ?_|refine zN ?_|refine zO ?_|refine zP ?_|refine zQ ?_|refine zR ?_)|((with_reducible refine zU (hK _ _ ?_));clear hK K)|((with_reducible refine zV ?_ ?_ fun K1 K3 d hdst h1 h3=>?_);rfl;exact yB rfl;cases hdst;go_simp)|((with_reducible refine zW fun K1 K3 h1 h3=>?_);go_simp)|((first|refine h1 ?_|refine h3 ?_);clear h1 h3 K1 K3)|((first|refine zX (fun hb=>h1 ?_) (fun hb=>h3 ?_)|refine zX (fun hb=>h3 ?_) (fun hb=>h1 ?_))<;>(clear h1 h3 K1 K3;(try have hb2:=yC hb);(try have hb2:=yD hb);(try have hb2:=yE hb);(try have hb2:=yF hb);(try have hb2:=yG hb)))|(refine fun (K2:_→AHeap→Prop) hK2=>?_)|((with_reducible refine zY ?_ ?_);decide)|((with_reducible first|refine zZ ?_ (fun K hK=>?_)|refine yA ?_ (fun K hK=>?_));(focus go_simp;done);go_simp;refine hK _ _ ?_;clear hK K)|(go_simp;(try go_bits);refine hK2 _ _ ?_;clear hK2 K2))
        exact Post.round_normal ⟨p.length - (k + 1), by omega, k + 1, ⟨s.set w (y + 1), lf - 1, ((w : Int) + 1) % p.length⟩, by omega, rfl, (by first|go_simp<;>go_num|assumption), (by first|go_simp<;>go_num|assumption), (by first|go_simp<;>go_num|assumption), (by first|go_simp<;>go_num|assumption), (by first|go_simp<;>go_num|assumption), (by first|go_simp<;>go_num|assumption), (by first|go_simp<;>go_num|assumption), (by first|go_simp<;>go_num|assumption), (by first|go_simp<;>go_num|assumption), (by first|go_simp<;>go_num|assumption), HNX, Lib.hid ⟨HOB.out.lo, by rw [AHeap.n_upd]; exact HOB.out.hi, by rw [AHeap.get_upd, if_pos rfl, List.map_set]⟩, Lib.hid (HXJ.out.upd HOB.out.lo _)⟩
      · rw [if_neg hc] at HNX
        by_cases hc1 : 0 < lf
        · have hc2 : (n * x) % S = 0 := by
            rcases Decidable.em ((n * x) % S = 0) with h | h
            · exact h
            · exact absurd ⟨hc1, h⟩ hc
          clear hc
          repeat' (first|(with_reducible first|refine zA ?_|refine zB fun K hK=>?_|refine zC fun K2 hK2=>?_|refine zD ?_|refine zE ?_|refine zF ?_|refine zG ?_|refine zH ?_|refine zI ?_|refine zM ?_|refine zN ?_|refine zO ?_|refine zP ?_|refine zQ ?_|refine zR ?_)|((with_reducible refine zU (hK _ _ ?_));clear hK K)|((with_reducible refine zV ?_ ?_ fun K1 K3 d hdst h1 h3=>?_);rfl;exact yB rfl;cases hdst;go_simp)|((with_reducible refine zW fun K1 K3 h1 h3=>?_);go_simp)|((first|refine h1 ?_|refine h3 ?_);clear h1 h3 K1 K3)|((first|refine zX (fun hb=>h1 ?_) (fun hb=>h3 ?_)|refine zX (fun hb=>h3 ?_) (fun hb=>h1 ?_))<;>(clear h1 h3 K1 K3;(try have hb2:=yC hb);(try have hb2:=yD hb);(try have hb2:=yE hb);(try have hb2:=yF hb);(try have hb2:=yG hb)))|(refine fun (K2:_→AHeap→Prop) hK2=>?_)|((with_reducible refine zY ?_ ?_);decide)|((with_reducible first|refine zZ ?_ (fun K hK=>?_)|refine yA ?_ (fun K hK=>?_));(focus go_simp;done);go_simp;refine hK _ _ ?_;clear hK K)|(go_simp;(try go_bits);refine hK2 _ _ ?_;clear hK2 K2))
          exact Post.round_normal ⟨p.length - (k + 1), by omega, k + 1, ⟨s, lf, nx⟩, by omega, rfl, (by first|go_simp<;>go_num|assumption), (by first|go_simp<;>go_num|assumption), (by first|go_simp<;>go_num|assumption), (by first|go_simp<;>go_num|assumption), (by first|go_simp<;>go_num|assumption), (by first|go_simp<;>go_num|assumption), (by first|go_simp<;>go_num|assumption), (by first|go_simp<;>go_num|assumption), (by first|go_simp<;>go_num|assumption), (by first|go_simp<;>go_num|assumption), HNX, HOB, HXJ⟩
        · clear hc
          repeat' (first|(with_reducible first|refine zA ?_|refine zB fun K hK=>?_|refine zC fun K2 hK2=>?_|refine zD ?_|refine zE ?_|refine zF ?_|refine zG ?_|refine zH ?_|refine zI ?_|refine zM ?_|refine zN ?_|refine zO ?_|refine zP ?_|refine zQ ?_|refine zR ?_)|((with_reducible refine zU (hK _ _ ?_));clear hK K)|((with_reducible refine zV ?_ ?_ fun K1 K3 d hdst h1 h3=>?_);rfl;exact yB rfl;cases hdst;go_simp)|((with_reducible refine zW fun K1 K3 h1 h3=>?_);go_simp)|((first|refine h1 ?_|refine h3 ?_);clear h1 h3 K1 K3)|((first|refine zX (fun hb=>h1 ?_) (fun hb=>h3 ?_)|refine zX (fun hb=>h3 ?_) (fun hb=>h1 ?_))<;>(clear h1 h3 K1 K3;(try have hb2:=yC hb);(try have hb2:=yD hb);(try have hb2:=yE hb);(try have hb2:=yF hb);(try have hb2:=yG hb)))|(refine fun (K2:_→AHeap→Prop) hK2=>?_)|((with_reducible refine zY ?_ ?_);decide)|((with_reducible first|refine zZ ?_ (fun K hK=>?_)|refine yA ?_ (fun K hK=>?_));(focus go_simp;done);go_simp;refine hK _ _ ?_;clear hK K)|(go_simp;(try go_bits);refine hK2 _ _ ?_;clear hK2 K2))
          exact Post.round_normal ⟨p.length - (k + 1), by omega, k + 1, ⟨s, lf, nx⟩, by omega, rfl, (by first|go_simp<;>go_num|assumption), (by first|go_simp<;>go_num|assumption), (by first|go_simp<;>go_num|assumption), (by first|go_simp<;>go_num|assumption), (by first|go_simp<;>go_num|assumption), (by first|go_simp<;>go_num|assumption), (by first|go_simp<;>go_num|assumption), (by first|go_simp<;>go_num|assumption), (by first|go_simp<;>go_num|assumption), (by first|go_simp<;>go_num|assumption), HNX, HOB, HXJ⟩
    · have hlb : ¬ (k : Int) < (p.length : Int) := by omega
      obtain rfl : k = p.length := by omega
      repeat' (first|(with_reducible first|refine zA ?_|refine zB fun K hK=>?_|refine zC fun K2 hK2=>?_|refine zD ?_|refine zE ?_|refine zF ?_|refine zG ?_|refine zH ?_|refine zI ?_|refine zM ?_|refine zN ?_|refine zO ?_|refine zP ?_|refine zQ ?_|refine zR ?_)|((with_reducible refine zU (hK _ _ ?_));clear hK K)|((with_reducible refine zV ?_ ?_ fun K1 K3 d hdst h1 h3=>?_);rfl;exact yB rfl;cases hdst;go_simp)|((with_reducible refine zW fun K1 K3 h1 h3=>?_);go_simp)|((first|refine h1 ?_|refine h3 ?_);clear h1 h3 K1 K3)|((first|refine zX (fun hb=>h1 ?_) (fun hb=>h3 ?_)|refine zX (fun hb=>h3 ?_) (fun hb=>h1 ?_))<;>(clear h1 h3 K1 K3;(try have hb2:=yC hb);(try have hb2:=yD hb);(try have hb2:=yE hb);(try have hb2:=yF hb);(try have hb2:=yG hb)))|(refine fun (K2:_→AHeap→Prop) hK2=>?_)|((with_reducible refine zY ?_ ?_);decide)|((with_reducible first|refine zZ ?_ (fun K hK=>?_)|refine yA ?_ (fun K hK=>?_));(focus go_simp;done);go_simp;refine hK _ _ ?_;clear hK K)|(go_simp;(try go_bits);refine hK2 _ _ ?_;clear hK2 K2))
      exact ⟨⟨b, by rw [HST.out], by rw [HST.out]; exact HOB.out⟩, HXJ.out⟩
end Go.Proofs.Tryz
namespace Go.Proofs.Tryz
open Go Go.Am Go.RowKit
set_option maxRecDepth 100000


def parS (acc xs : List Int) : Nat → List Int
  | 0 => acc
  | j + 1 => (parS acc xs j).set j ((parS acc xs j).getD j 0 + xs.getD j 0)
theorem parS_len (acc xs : List Int) : ∀ j, (parS acc xs j).length = acc.length
  | 0 => rfl
  | j + 1 => by simp [parS, parS_len acc xs j]
def mergeK (L : Nat) (xss : List (List Int)) : List Int := xss.foldl (fun acc xs => parS acc xs xs.length) (List.replicate L 0)
theorem mergeK_snoc (L : Nat) (xss : List (List Int)) (xs : List Int) : mergeK L (xss ++ [xs]) = parS (mergeK L xss) xs xs.length := by simp [mergeK, List.foldl_append]
theorem mergeK_len (L : Nat) : ∀ (m : Nat) (xss : List (List Int)), (mergeK L (xss.take m)).length = L
  | 0, xss => by simp [mergeK]
  | m + 1, xss => by
    by_cases h : m < xss.length
    · rw [List.take_succ_eq_append_getElem h, mergeK_snoc, parS_len, mergeK_len L m xss]
    · rw [List.take_of_length_le (by omega), ← List.take_of_length_le (l := xss) (i := m) (by omega)]; exact mergeK_len L m xss
def Up (B : Int) (xs : List Int) : Prop := ∀ x ∈ xs, 0 ≤ x ∧ x ≤ B
theorem Up.getD {B : Int} {xs : List Int} (h : Up B xs) (hB : 0 ≤ B) (k : Nat) : 0 ≤ xs.getD k 0 ∧ xs.getD k 0 ≤ B := by
  rw [List.getD]
  rcases Nat.lt_or_ge k xs.length with hk | hk
  · rw [List.getElem?_eq_getElem hk]; exact h _ (List.getElem_mem hk)
  · rw [List.getElem?_eq_none hk]; exact ⟨Int.le_refl _, hB⟩
theorem parS_at (acc xs : List Int) : ∀ j i, j ≤ i → (parS acc xs j).getD i 0 = acc.getD i 0
  | 0, i, _ => rfl
  | j + 1, i, h => by
    rw [parS, ← parS_at acc xs j i (by omega)]
    simp only [List.getD, List.getElem?_set_ne (show j ≠ i by omega)]
theorem parS_up {A B : Int} {acc xs : List Int} (h1 : Up A acc) (h2 : Up B xs) (hA : 0 ≤ A) (hB : 0 ≤ B) : ∀ j, Up (A + B) (parS acc xs j)
  | 0 => fun x hx => by have := h1 x hx; omega
  | j + 1 => fun x hx => by
    rcases List.mem_or_eq_of_mem_set hx with hx | rfl
    · exact parS_up h1 h2 hA hB j x hx
    · rw [parS_at acc xs j j (Nat.le_refl _)]
      have := h1.getD hA j
      have := h2.getD hB j
      omega
theorem mergeK_up {B : Int} (hB : 0 ≤ B) (L : Nat) {xss : List (List Int)} (h : ∀ xs ∈ xss, Up B xs) : ∀ m : Nat, Up (m * B) (mergeK L (xss.take m))
  | 0 => fun x hx => by
    simp [mergeK] at hx
    rw [hx.2]; simp
  | m + 1 => by
    by_cases hm : m < xss.length
    · rw [List.take_succ_eq_append_getElem hm, mergeK_snoc]
      have := parS_up (mergeK_up hB L h m) (h _ (List.getElem_mem hm)) (Int.mul_nonneg (by omega) hB) hB xss[m].length
      rw [Int.natCast_add, Int.add_mul]; simpa using this
    · rw [List.take_of_length_le (by omega), ← List.take_of_length_le (l := xss) (i := m) (by omega)]
      intro x hx
      have := mergeK_up hB L h m x hx
      rw [Int.natCast_add, Int.add_mul]
      have : (m : Int) * B + ((1 : Nat) : Int) * B = m * B + B := by simp
      omega

def RowsV (H : AHeap) (v : Value) (xss : List (List Int)) : Prop := ∃ vs : List Value, Cells H v 1 xss.length vs ∧ vs.length = xss.length ∧ ∀ i (h : i < xss.length), ∃ a n c, vs[i]? = some (.slice a n c) ∧ Ints H (.slice a n c) xss[i]
theorem RowsV.ext {H H' : AHeap} {v : Value} {xss : List (List Int)} (h : RowsV H v xss) (hx : Ext H H') : RowsV H' v xss := by
  obtain ⟨vs, h1, h2, h3⟩ := h
  exact ⟨vs, h1.ext hx, h2, fun i hi => by obtain ⟨a, n, c, e, h⟩ := h3 i hi; exact ⟨a, n, c, e, h.ext hx⟩⟩
theorem RowsV.slice {H : AHeap} {v : Value} {xss : List (List Int)} (h : RowsV H v xss) : xss.length ≤ 9223372036854775807 ∧ ∃ a c, v = .slice a xss.length c := by
  obtain ⟨vs, ⟨h1, h2, a', c', h3, h0, h4⟩, -⟩ := h
  exact ⟨h2, a', c', h3⟩
theorem RowsV.at_ {H : AHeap} {a : Option Addr} {n c : Nat} {xss : List (List Int)} (h : RowsV H (.slice a n c) xss) {k : Nat} (hk : k < xss.length) : ∃ b o sp a2 c2, a = some ⟨b, o, sp⟩ ∧ b < H.n ∧ cellAt H b (o + k) = some (.slice a2 xss[k].length c2) ∧ Ints H (.slice a2 xss[k].length c2) xss[k] := by
  obtain ⟨vs, ⟨h1, h2, a', c', h3, h0, h4⟩, h5, h6⟩ := h
  cases h3
  obtain ⟨b, o, sp, e1, e2, e3⟩ := h4 (by omega)
  obtain ⟨a2, n2, c2, e4, e5⟩ := h6 k hk
  obtain rfl := ints_len e5
  exact ⟨b, o, sp, a2, c2, e1, e2, e3 k _ e4, e5⟩


set_option maxHeartbeats 8000000 in
theorem merge_e {loops : List (Nat × LInfo)} {H : AHeap} {v : Value} {xss : List (List Int)} {L : Nat} (hv : RowsV H v xss) (hL : 1 ≤ L ∧ L ≤ 10) (hm : xss.length ≤ 100) (hl : ∀ xs ∈ xss, xs.length = L) (hu : ∀ xs ∈ xss, Up 1099511627800 xs) : CallS Tryz.prog loops 103 [.int .i64 L, v] H fun r H' => (∃ b, r = .slice (some ⟨b, 0, none⟩) L L ∧ OwnB H' H.n b (mergeK L xss)) ∧ Ext H H' := by
  obtain ⟨hlen, a, c, rfl⟩ := hv.slice
  have HV := Lib.hid hv
  have HL := Lib.hid hl
  have HU := Lib.hid hu
  clear hv hl hu
  refine CallS.enter' Tryz.func103 rfl Tryz.ntmps103 (by simp) fun f hd hf => ?_
  have f0 := hf 0
  have f1 := hf 1
  simp at f0 f1
  clear hf
  repeat' (first|(with_reducible first|refine zA ?_|refine zB fun K hK=>?_|refine zC fun K2 hK2=>?_|refine zD ?_|refine zE ?_|refine zF ?_|refine zG ?_|refine zH ?_|refine zI ?_|refine zM ?_|refine zN ?_|refine zO ?_|refine zP ?_|refine zQ ?_|refine zR ?_)|((with_reducible refine zU (hK _ _ ?_));clear hK K)|((with_reducible refine zV ?_ ?_ fun K1 K3 d hdst h1 h3=>?_);rfl;exact yB rfl;cases hdst;go_simp)|((with_reducible refine zW fun K1 K3 h1 h3=>?_);go_simp)|((first|refine h1 ?_|refine h3 ?_);clear h1 h3 K1 K3)|((first|refine zX (fun hb=>h1 ?_) (fun hb=>h3 ?_)|refine zX (fun hb=>h3 ?_) (fun hb=>h1 ?_))<;>(clear h1 h3 K1 K3;(try have hb2:=yC hb);(try have hb2:=yD hb);(try have hb2:=yE hb);(try have hb2:=yF hb);(try have hb2:=yG hb)))|(refine fun (K2:_→AHeap→Prop) hK2=>?_)|((with_reducible refine zY ?_ ?_);decide)|((with_reducible first|refine zZ ?_ (fun K hK=>?_)|refine yA ?_ (fun K hK=>?_));(focus go_simp;done);go_simp;refine hK _ _ ?_;clear hK K)|(go_simp;(try go_bits);(try first | (refine makeSlice_k el23 sz3 by3 ze3 rfl (by show L * 8 ≤ 1073741824; omega) (by omega) ?_; go_simp));refine hK2 _ _ ?_;clear hK2 K2))
  refine CodeS.loop (fun m f J => ∃ k : Nat, k ≤ xss.length ∧ m = xss.length - k ∧ f.tmp 14 = .int .i64 k ∧ f.tmp 13 = .int .i64 xss.length ∧ f.tmp 12 = .slice a xss.length c ∧ f.tmp 5 = .slice (some ⟨H.n, 0, none⟩) L L ∧ f.defers = [] ∧ Hid (OwnB J H.n H.n (mergeK L (xss.take k))) ∧ Hid (Ext H J)) xss.length ?_ ?_
  · exact ⟨0, by omega, by omega, (by first|go_simp<;>go_num|assumption), (by first|go_simp<;>go_num|assumption), (by first|go_simp<;>go_num|assumption), (by first|go_simp<;>go_num|assumption), (by first|go_simp<;>go_num|assumption), Lib.hid ⟨Nat.le_refl _, by rw [AHeap.n_push]; omega, by rw [AHeap.get_push_new]; simp [mergeK]⟩, Lib.hid (Ext.push _)⟩
  clear f0 f1 hd f
  rintro m f J ⟨k, hk, rfl, f14, f13, f12, f5, hd, HOB, HX⟩
  by_cases hlt : k < xss.length
  · obtain ⟨b, o, sp, a2, c2, rfl, hb0, hx0, hi2⟩ := HV.out.at_ hlt
    have hb : b < J.n := Nat.lt_of_lt_of_le hb0 HX.out.n
    have hx : cellAt J b (o + k) = some (.slice a2 xss[k].length c2) := (HX.out.cellAt hb0).trans hx0
    have hlb : (k : Int) < (xss.length : Int) := by omega
    have w1 := wrap_id (n := (k : Int) + 1) (by omega)
    have hxl := HL.out _ (List.getElem_mem hlt)
    have hup := HU.out _ (List.getElem_mem hlt)
    have HMS : Hid (mergeK L (xss.take (k + 1)) = parS (mergeK L (xss.take k)) xss[k] L) := Lib.hid (by rw [List.take_succ_eq_append_getElem hlt, mergeK_snoc, hxl])
    have hup2 := mergeK_up (by decide) L HU.out k
    have haL := mergeK_len L k xss
    have HI := Lib.hid hi2
    have HUP := Lib.hid hup
    have HUP2 := Lib.hid hup2
    have HAL := Lib.hid haL
    generalize xss[k] = xs at hx hxl HI HUP HMS
    generalize mergeK L (xss.take k) = acc at HOB HUP2 HAL HMS
    rw [hxl] at hx HI
    have HXL := Lib.hid hxl
    clear hx0 hi2 hup hup2 haL hxl
    repeat' (first|(with_reducible first|refine zA ?_|refine zB fun K hK=>?_|refine zC fun K2 hK2=>?_|refine zD ?_|refine zE ?_|refine zF ?_|refine zG ?_|refine zH ?_|refine zI ?_|refine zM ?_|refine zN ?_|refine zO ?_|refine zP ?_|refine zQ ?_|refine zR ?_)|((with_reducible refine zU (hK _ _ ?_));clear hK K)|((with_reducible refine zV ?_ ?_ fun K1 K3 d hdst h1 h3=>?_);rfl;exact yB rfl;cases hdst;go_simp)|((with_reducible refine zW fun K1 K3 h1 h3=>?_);go_simp)|((first|refine h1 ?_|refine h3 ?_);clear h1 h3 K1 K3)|((first|refine zX (fun hb=>h1 ?_) (fun hb=>h3 ?_)|refine zX (fun hb=>h3 ?_) (fun hb=>h1 ?_))<;>(clear h1 h3 K1 K3;(try have hb2:=yC hb);(try have hb2:=yD hb);(try have hb2:=yE hb);(try have hb2:=yF hb);(try have hb2:=yG hb)))|(refine fun (K2:_→AHeap→Prop) hK2=>?_)|((with_reducible refine zY ?_ ?_);decide)|((with_reducible first|refine zZ ?_ (fun K hK=>?_)|refine yA ?_ (fun K hK=>?_));(focus go_simp;done);go_simp;refine hK _ _ ?_;clear hK K)|(go_simp;(try go_bits);refine hK2 _ _ ?_;clear hK2 K2))
    refine CodeS.loop (fun m f J => ∃ j : Nat, j ≤ L ∧ m = L - j ∧ f.tmp 20 = .int .i64 j ∧ f.tmp 19 = .int .i64 L ∧ f.tmp 18 = .slice a2 L c2 ∧ f.tmp 14 = .int .i64 k ∧ f.tmp 13 = .int .i64 xss.length ∧ f.tmp 12 = .slice (some ⟨b, o, sp⟩) xss.length c ∧ f.tmp 5 = .slice (some ⟨H.n, 0, none⟩) L L ∧ f.defers = [] ∧ Hid (OwnB J H.n H.n (parS acc xs j)) ∧ Hid (Ext H J)) L ?_ ?_
    · exact ⟨0, by omega, by omega, (by first|go_simp<;>go_num|assumption), (by first|go_simp<;>go_num|assumption), (by first|go_simp<;>go_num|assumption), (by first|go_simp<;>go_num|assumption), (by first|go_simp<;>go_num|assumption), (by first|go_simp<;>go_num|assumption), (by first|go_simp<;>go_num|assumption), (by first|go_simp<;>go_num|assumption), HOB, HX⟩
    clear HOB HX hx hb f14 f13 f12 f5 hd f J
    rintro m f J ⟨j, hj, rfl, f20, f19, f18, f14, f13, f12, f5, hd, HOB, HX⟩
    by_cases hlt2 : j < L
    · have hjb : (j : Int) < (L : Int) := by omega
      obtain ⟨b2, o2, sp2, rfl, hb2, hx2⟩ := (HI.out.ext HX.out).at_ (k := j) (by rw [HXL.out]; exact hlt2)
      have hlen1 : (parS acc xs j).length = L := by rw [parS_len]; exact HAL.out
      have hcell := HOB.out.cell (k := j) (by rw [hlen1]; exact hlt2)
      have hrow := HOB.out.row
      have hbJ := HOB.out.hi
      have hjl : j < (parS acc xs j).length := by rw [hlen1]; exact hlt2
      have HNX : Hid (parS acc xs (j + 1) = (parS acc xs j).set j ((parS acc xs j).getD j 0 + xs.getD j 0)) := Lib.hid rfl
      have hq : xs.getD j 0 = xs[j]'(by rw [HXL.out]; exact hlt2) := by rw [List.getD, List.getElem?_eq_getElem (by rw [HXL.out]; exact hlt2)]; rfl
      have hy1 : 0 ≤ (parS acc xs j).getD j 0 ∧ (parS acc xs j).getD j 0 ≤ k * 1099511627800 := by
        rw [parS_at acc xs j j (Nat.le_refl _)]; exact HUP2.out.getD (by omega) j
      have hy2 := HUP.out _ (List.getElem_mem (show j < xs.length by rw [HXL.out]; exact hlt2))
      rw [hq] at HNX
      generalize xs[j]'(by rw [HXL.out]; exact hlt2) = z at hx2 HNX hy2
      generalize (parS acc xs j).getD j 0 = y at hcell HNX hy1
      generalize parS acc xs j = st at hcell hrow hjl HNX HOB
      have w2 := wrap_id (n := (j : Int) + 1) (by omega)
      have w3 := wrap_id (n := y + z) (by omega)
      clear hy1 hy2 hq
      repeat' (first|(with_reducible first|refine zA ?_|refine zB fun K hK=>?_|refine zC fun K2 hK2=>?_|refine zD ?_|refine zE ?_|refine zF ?_|refine zG ?_|refine zH ?_|refine zI ?_|refine zM ?_|refine zN ?_|refine zO ?_|refine zP ?_|refine zQ ?_|refine zR ?_)|((with_reducible refine zU (hK _ _ ?_));clear hK K)|((with_reducible refine zV ?_ ?_ fun K1 K3 d hdst h1 h3=>?_);rfl;exact yB rfl;cases hdst;go_simp)|((with_reducible refine zW fun K1 K3 h1 h3=>?_);go_simp)|((first|refine h1 ?_|refine h3 ?_);clear h1 h3 K1 K3)|((first|refine zX (fun hb=>h1 ?_) (fun hb=>h3 ?_)|refine zX (fun hb=>h3 ?_) (fun hb=>h1 ?_))<;>(clear h1 h3 K1 K3;(try have hb2:=yC hb);(try have hb2:=yD hb);(try have hb2:=yE hb);(try have hb2:=yF hb);(try have hb2:=yG hb)))|(refine fun (K2:_→AHeap→Prop) hK2=>?_)|((with_reducible refine zY ?_ ?_);decide)|((with_reducible first|refine zZ ?_ (fun K hK=>?_)|refine yA ?_ (fun K hK=>?_));(focus go_simp;done);go_simp;refine hK _ _ ?_;clear hK K)|(go_simp;(try go_bits);refine hK2 _ _ ?_;clear hK2 K2))
      exact Post.round_normal ⟨L - (j + 1), by omega, j + 1, by omega, rfl, (by first|go_simp<;>go_num|assumption), (by first|go_simp<;>go_num|assumption), (by first|go_simp<;>go_num|assumption), (by first|go_simp<;>go_num|assumption), (by first|go_simp<;>go_num|assumption), (by first|go_simp<;>go_num|assumption), (by first|go_simp<;>go_num|assumption), (by first|go_simp<;>go_num|assumption), Lib.hid ⟨Nat.le_refl _, by rw [AHeap.n_upd]; exact HOB.out.hi, by rw [AHeap.get_upd, if_pos rfl, HNX.out, List.map_set]⟩, Lib.hid (HX.out.upd (Nat.le_refl _) _)⟩
    · have hjb : ¬ (j : Int) < (L : Int) := by omega
      obtain rfl : j = L := by omega
      repeat' (first|(with_reducible first|refine zA ?_|refine zB fun K hK=>?_|refine zC fun K2 hK2=>?_|refine zD ?_|refine zE ?_|refine zF ?_|refine zG ?_|refine zH ?_|refine zI ?_|refine zM ?_|refine zN ?_|refine zO ?_|refine zP ?_|refine zQ ?_|refine zR ?_)|((with_reducible refine zU (hK _ _ ?_));clear hK K)|((with_reducible refine zV ?_ ?_ fun K1 K3 d hdst h1 h3=>?_);rfl;exact yB rfl;cases hdst;go_simp)|((with_reducible refine zW fun K1 K3 h1 h3=>?_);go_simp)|((first|refine h1 ?_|refine h3 ?_);clear h1 h3 K1 K3)|((first|refine zX (fun hb=>h1 ?_) (fun hb=>h3 ?_)|refine zX (fun hb=>h3 ?_) (fun hb=>h1 ?_))<;>(clear h1 h3 K1 K3;(try have hb2:=yC hb);(try have hb2:=yD hb);(try have hb2:=yE hb);(try have hb2:=yF hb);(try have hb2:=yG hb)))|(refine fun (K2:_→AHeap→Prop) hK2=>?_)|((with_reducible refine zY ?_ ?_);decide)|((with_reducible first|refine zZ ?_ (fun K hK=>?_)|refine yA ?_ (fun K hK=>?_));(focus go_simp;done);go_simp;refine hK _ _ ?_;clear hK K)|(go_simp;(try go_bits);refine hK2 _ _ ?_;clear hK2 K2))
      exact Post.round_normal ⟨xss.length - (k + 1), by omega, k + 1, by omega, rfl, (by first|go_simp<;>go_num|assumption), (by first|go_simp<;>go_num|assumption), (by first|go_simp<;>go_num|assumption), (by first|go_simp<;>go_num|assumption), (by first|go_simp<;>go_num|assumption), Lib.hid (by rw [HMS.out]; exact HOB.out), HX⟩
  · have hlb : ¬ (k : Int) < (xss.length : Int) := by omega
    repeat' (first|(with_reducible first|refine zA ?_|refine zB fun K hK=>?_|refine zC fun K2 hK2=>?_|refine zD ?_|refine zE ?_|refine zF ?_|refine zG ?_|refine zH ?_|refine zI ?_|refine zM ?_|refine zN ?_|refine zO ?_|refine zP ?_|refine zQ ?_|refine zR ?_)|((with_reducible refine zU (hK _ _ ?_));clear hK K)|((with_reducible refine zV ?_ ?_ fun K1 K3 d hdst h1 h3=>?_);rfl;exact yB rfl;cases hdst;go_simp)|((with_reducible refine zW fun K1 K3 h1 h3=>?_);go_simp)|((first|refine h1 ?_|refine h3 ?_);clear h1 h3 K1 K3)|((first|refine zX (fun hb=>h1 ?_) (fun hb=>h3 ?_)|refine zX (fun hb=>h3 ?_) (fun hb=>h1 ?_))<;>(clear h1 h3 K1 K3;(try have hb2:=yC hb);(try have hb2:=yD hb);(try have hb2:=yE hb);(try have hb2:=yF hb);(try have hb2:=yG hb)))|(refine fun (K2:_→AHeap→Prop) hK2=>?_)|((with_reducible refine zY ?_ ?_);decide)|((with_reducible first|refine zZ ?_ (fun K hK=>?_)|refine yA ?_ (fun K hK=>?_));(focus go_simp;done);go_simp;refine hK _ _ ?_;clear hK K)|(go_simp;(try go_bits);refine hK2 _ _ ?_;clear hK2 K2))
    refine ⟨⟨H.n, rfl, ?_⟩, HX.out⟩
    have := HOB.out
    rwa [List.take_of_length_le (by omega)] at this
end Go.Proofs.Tryz
