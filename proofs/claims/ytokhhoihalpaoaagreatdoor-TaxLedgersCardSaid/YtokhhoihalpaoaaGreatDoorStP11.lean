/- Contracts of functions, walked. -/
import Derived.Test.YtokhhoihalpaoaaGreatDoorStP4
set_option linter.all false
namespace Go.Proofs.Tryz
open Go Go.Am Go.RowKit
set_option maxRecDepth 100000


end Go.Proofs.Tryz
namespace Go.Proofs.Tryz
open Go Go.Am Go.RowKit
set_option maxRecDepth 100000


end Go.Proofs.Tryz
namespace Go.Proofs.Tryz
open Go Go.Am Go.RowKit
set_option maxRecDepth 100000


theorem oneV_ints : ∀ l : List Int, (l.map (Value.int .i64)).all oneV = true
  | [] => rfl
  | _ :: l => by rw [List.map_cons, List.all_cons, oneV_ints l]; rfl
theorem own_ints {H : AHeap} {base : Nat} {v : Value} {xs : List Int} (h : Own H base v 3 1 (xs.map (Value.int .i64))) (hl : xs.length ≤ 1000) : Ints H v xs := by
  rcases h with ⟨rfl, h⟩ | ⟨b, n, rfl, h1, h2, h3, h4, h5⟩
  · have : xs = [] := by simpa using h
    subst this
    exact ⟨rfl, by simp, none, 0, rfl, fun _ => rfl, by simp⟩
  · rw [List.length_map, Nat.mul_one] at h4
    subst h4
    refine ⟨by simp, by omega, _, _, rfl, (fun h => by cases h), fun _ => ⟨b, 0, none, rfl, h2, fun j u hu => ?_⟩⟩
    simp only [cellAt, h3, Nat.zero_add]; exact hu
theorem ints_nil {H : AHeap} {a : Option Addr} {c : Nat} (h : a = none → c = 0) : Ints H (.slice a 0 c) [] := ⟨rfl, Nat.zero_le _, a, c, rfl, h, fun h => absurd h (Nat.lt_irrefl 0)⟩
theorem own_sliceP {H : AHeap} {base : Nat} {v : Value} {e : TypeId} {size : Nat} {cells : List Value} (h : Own H base v e size cells) : ∃ a n, v = .slice a n n := by
  rcases h with ⟨rfl, _⟩ | ⟨b, n, rfl, _⟩
  · exact ⟨none, 0, rfl⟩
  · exact ⟨_, n, rfl⟩

structure GoodL (l : List Pst) (acc : Int) : Prop where
  bd : 1 ≤ acc ∧ acc ≤ 10
  len : l.length ≤ 80
  right : ∀ p ∈ l, p.right acc = true
theorem errGoP_ok (acc : Int) : ∀ (l : List Pst) (seen : List Int), errGoP acc seen l = 0 → ∀ p ∈ l, p.right acc = true
  | [], _, _, p, hp => by cases hp
  | a :: l, seen, h, p, hp => by
    rw [errGoP] at h
    split at h
    · cases h
    · rename_i h1
      split at h
      · cases h
      · rcases List.mem_cons.1 hp with rfl | hp
        · simpa using h1
        · exact errGoP_ok acc l _ h p hp
theorem goodL {l : List Pst} {acc : Int} (h : errP l acc = 0) : GoodL l acc := by
  unfold errP at h
  split at h
  · cases h
  · rename_i h1
    split at h
    · cases h
    · rename_i h2
      exact ⟨win_iff.1 (by simpa using h1), by omega, errGoP_ok acc l [] h⟩
theorem GoodL.coined {l : List Pst} {acc : Int} (h : GoodL l acc) : Coined l := ⟨by have := h.len; omega, fun p hp => by
  have := h.right p hp
  simp only [Pst.right, Bool.and_eq_true, win_iff] at this
  omega⟩

def balL (l : List Pst) (A : Nat) (day : Int) : List Int := (List.range A).map fun (i : Nat) => bal l i day
theorem balL_succ (l : List Pst) (A : Nat) (day : Int) : balL l (A + 1) day = balL l A day ++ [bal l A day] := by simp [balL, List.range_succ]
theorem balL_len (l : List Pst) (A : Nat) (day : Int) : (balL l A day).length = A := by simp [balL]
def errB (l : List Pst) (acc day : Int) : Int := if errP l acc ≠ 0 then errP l acc else if win 0 730 day = true then 0 else 1
def balR (l : List Pst) (acc day : Int) : List Int := if errB l acc day = 0 then balL l acc.toNat day else []

set_option maxHeartbeats 4000000 in
theorem balances_e {loops : List (Nat × LInfo)} {H : AHeap} {v : Value} {l : List Pst} {acc day : Int} (hv : Psts H v l) : CallS Tryz.prog loops 47 [v, .int .i64 acc, .int .i64 day] H fun r H' => (∃ a n c, r = .tuple #[.slice a n c, .int .i64 (errB l acc day)] ∧ Ints H' (.slice a n c) (balR l acc day)) ∧ Ext H H' := by
  have HCK := Lib.hid (fun (loops : List (Nat × LInfo)) => checkPosts_s (loops := loops) (acc := acc) hv)
  obtain ⟨hlen, a, c, rfl⟩ := hv.slice
  have HV := Lib.hid hv
  clear hv
  unfold balR errB
  by_cases h0 : errP l acc = 0
  case' neg =>
    rw [if_pos h0, if_neg h0]
    have h0b : (errP l acc != 0) = true := by simpa using h0
    generalize errP l acc = er at HCK h0b
    clear h0
    refine CallS.enter' Tryz.func47 rfl Tryz.ntmps47 (by simp) fun f hd hf => ?_
    have f0 := hf 0
    have f1 := hf 1
    have f2 := hf 2
    simp at f0 f1 f2
    clear hf
    repeat' (first|(with_reducible first|refine zA ?_|refine zB fun K hK=>?_|refine zC fun K2 hK2=>?_|refine zD ?_|refine zE ?_|refine zF ?_|refine zG ?_|refine zH ?_|refine zI ?_|refine zM ?_|refine zN ?_|refine zO ?_|refine zP ?_|refine zQ ?_|refine zR ?_)|((with_reducible refine zU (hK _ _ ?_));clear hK K)|((with_reducible refine zV ?_ ?_ fun K1 K3 d hdst h1 h3=>?_);rfl;exact yB rfl;cases hdst;go_simp)|((with_reducible refine zW fun K1 K3 h1 h3=>?_);go_simp)|((first|refine h1 ?_|refine h3 ?_);clear h1 h3 K1 K3)|((first|refine zX (fun hb=>h1 ?_) (fun hb=>h3 ?_)|refine zX (fun hb=>h3 ?_) (fun hb=>h1 ?_))<;>(clear h1 h3 K1 K3;(try have hb2:=yC hb);(try have hb2:=yD hb);(try have hb2:=yE hb);(try have hb2:=yF hb);(try have hb2:=yG hb)))|(refine fun (K2:_→AHeap→Prop) hK2=>?_)|((with_reducible refine zY ?_ ?_);decide)|((with_reducible first|refine zZ ?_ (fun K hK=>?_)|refine yA ?_ (fun K hK=>?_));(focus go_simp;done);go_simp;refine hK _ _ ?_;clear hK K)|(go_simp;(try go_bits);(try first | ((with_reducible show CallS _ _ _ _ _ _);refine CallS.mono (HCK.out _) ?_; rintro _ _ ⟨rfl, h9⟩; rw [h9]; clear h9; go_simp));refine hK2 _ _ ?_;clear hK2 K2))
    exact ⟨⟨_, _, _, rfl, ints_nil fun _ => rfl⟩, Ext.refl _⟩
  have hg := goodL h0
  have hco := hg.coined
  rw [if_neg (by simpa using h0)]
  rw [h0] at HCK
  by_cases h1 : win 0 730 day = true
  case' neg =>
    have h1b : win 0 730 day = false := by simpa using h1
    rw [if_neg h1, if_neg (by decide)]
    clear hg hco h1 h0
    refine CallS.enter' Tryz.func47 rfl Tryz.ntmps47 (by simp) fun f hd hf => ?_
    have f0 := hf 0
    have f1 := hf 1
    have f2 := hf 2
    simp at f0 f1 f2
    clear hf
    repeat' (first|(with_reducible first|refine zA ?_|refine zB fun K hK=>?_|refine zC fun K2 hK2=>?_|refine zD ?_|refine zE ?_|refine zF ?_|refine zG ?_|refine zH ?_|refine zI ?_|refine zM ?_|refine zN ?_|refine zO ?_|refine zP ?_|refine zQ ?_|refine zR ?_)|((with_reducible refine zU (hK _ _ ?_));clear hK K)|((with_reducible refine zV ?_ ?_ fun K1 K3 d hdst h1 h3=>?_);rfl;exact yB rfl;cases hdst;go_simp)|((with_reducible refine zW fun K1 K3 h1 h3=>?_);go_simp)|((first|refine h1 ?_|refine h3 ?_);clear h1 h3 K1 K3)|((first|refine zX (fun hb=>h1 ?_) (fun hb=>h3 ?_)|refine zX (fun hb=>h3 ?_) (fun hb=>h1 ?_))<;>(clear h1 h3 K1 K3;(try have hb2:=yC hb);(try have hb2:=yD hb);(try have hb2:=yE hb);(try have hb2:=yF hb);(try have hb2:=yG hb)))|(refine fun (K2:_→AHeap→Prop) hK2=>?_)|((with_reducible refine zY ?_ ?_);decide)|((with_reducible first|refine zZ ?_ (fun K hK=>?_)|refine yA ?_ (fun K hK=>?_));(focus go_simp;done);go_simp;refine hK _ _ ?_;clear hK K)|(go_simp;(try go_bits);(try first |((with_reducible show CallS _ _ _ _ _ _);first|(refine CallS.mono (HCK.out _) ?_; rintro _ _ ⟨rfl, h9⟩; rw [h9]; clear h9; go_simp)|(refine CallS.mono within_s ?_; rintro _ _ ⟨rfl, h9⟩; rw [h9]; clear h9; go_simp)));refine hK2 _ _ ?_;clear hK2 K2))
    exact ⟨⟨_, _, _, rfl, ints_nil fun _ => rfl⟩, Ext.refl _⟩
  rw [if_pos h1, if_pos rfl]
  obtain ⟨hac, -, -⟩ := hg
  obtain ⟨A, rfl⟩ : ∃ A : Nat, acc = A := ⟨acc.toNat, by omega⟩
  have hA : A ≤ 10 := by omega
  rw [Int.toNat_natCast]
  have HCO := Lib.hid hco
  clear hac hco h0
  refine CallS.enter' Tryz.func47 rfl Tryz.ntmps47 (by simp) fun f hd hf => ?_
  have f0 := hf 0
  have f1 := hf 1
  have f2 := hf 2
  simp at f0 f1 f2
  clear hf
  repeat' (first|(with_reducible first|refine zA ?_|refine zB fun K hK=>?_|refine zC fun K2 hK2=>?_|refine zD ?_|refine zE ?_|refine zF ?_|refine zG ?_|refine zH ?_|refine zI ?_|refine zM ?_|refine zN ?_|refine zO ?_|refine zP ?_|refine zQ ?_|refine zR ?_)|((with_reducible refine zU (hK _ _ ?_));clear hK K)|((with_reducible refine zV ?_ ?_ fun K1 K3 d hdst h1 h3=>?_);rfl;exact yB rfl;cases hdst;go_simp)|((with_reducible refine zW fun K1 K3 h1 h3=>?_);go_simp)|((first|refine h1 ?_|refine h3 ?_);clear h1 h3 K1 K3)|((first|refine zX (fun hb=>h1 ?_) (fun hb=>h3 ?_)|refine zX (fun hb=>h3 ?_) (fun hb=>h1 ?_))<;>(clear h1 h3 K1 K3;(try have hb2:=yC hb);(try have hb2:=yD hb);(try have hb2:=yE hb);(try have hb2:=yF hb);(try have hb2:=yG hb)))|(refine fun (K2:_→AHeap→Prop) hK2=>?_)|((with_reducible refine zY ?_ ?_);decide)|((with_reducible first|refine zZ ?_ (fun K hK=>?_)|refine yA ?_ (fun K hK=>?_));(focus go_simp;done);go_simp;refine hK _ _ ?_;clear hK K)|(go_simp;(try go_bits);(try first |((with_reducible show CallS _ _ _ _ _ _);first|(refine CallS.mono (HCK.out _) ?_; rintro _ _ ⟨rfl, h9⟩; rw [h9]; clear h9; go_simp)|(refine CallS.mono within_s ?_; rintro _ _ ⟨rfl, h9⟩; rw [h9]; clear h9; go_simp)));refine hK2 _ _ ?_;clear hK2 K2))
  refine CodeS.loop (fun m f H' => ∃ (k : Nat) (u : Value), k ≤ A ∧ m = A - k ∧ f.tmp 21 = .int .i64 k ∧ f.tmp 20 = .int .i64 A ∧ f.tmp 0 = .slice a l.length c ∧ f.tmp 2 = .int .i64 day ∧ f.tmp 9 = u ∧ f.defers = [] ∧ Hid (Own H' H.n u 3 1 ((balL l k day).map (Value.int .i64))) ∧ Hid (Ext H H')) A ?_ ?_
  · exact ⟨0, .slice none 0 0, by omega, by omega, (by first|go_simp<;>go_num|assumption), (by first|go_simp<;>go_num|assumption), (by first|go_simp<;>go_num|assumption), (by first|go_simp<;>go_num|assumption), (by first|go_simp<;>go_num|assumption), (by first|go_simp<;>go_num|assumption), Lib.hid Own.nil, Lib.hid (Ext.refl _)⟩
  clear f0 f1 f2 hd f
  rintro m f H' ⟨k, u, hk, rfl, f21, f20, f0, f2, f9, hd, HO, HX⟩
  obtain ⟨a1, n1, rfl⟩ := own_sliceP HO.out
  have HBIG : Hid ((((balL l k day).map (Value.int .i64)).length + 1) * max 8 1 ≤ 1073741824) := Lib.hid (by rw [List.length_map, balL_len]; show (k + 1) * 8 ≤ 1073741824; omega)
  have HS := Lib.hid (fun (loops : List (Nat × LInfo)) => stand_s (loops := loops) (acc := (k : Int)) (day := day) (HV.out.ext HX.out) HCO.out)
  have HB := Lib.hid HX.out.n
  by_cases hlt : k < A
  · have hlb : (k : Int) < (A : Int) := by omega
    have w1 := wrap_id (n := (k : Int) + 1) (by omega)
    have HSU := Lib.hid (balL_succ l k day)
    generalize bal l (k : Int) day = s at HS HSU
    repeat' (first|(with_reducible first|refine zA ?_|refine zB fun K hK=>?_|refine zC fun K2 hK2=>?_|refine zD ?_|refine zE ?_|refine zF ?_|refine zG ?_|refine zH ?_|refine zI ?_|refine zM ?_|refine zN ?_|refine zO ?_|refine zP ?_|refine zQ ?_|refine zR ?_)|((with_reducible refine zU (hK _ _ ?_));clear hK K)|((with_reducible refine zV ?_ ?_ fun K1 K3 d hdst h1 h3=>?_);rfl;exact yB rfl;cases hdst;go_simp)|((with_reducible refine zW fun K1 K3 h1 h3=>?_);go_simp)|((first|refine h1 ?_|refine h3 ?_);clear h1 h3 K1 K3)|((first|refine zX (fun hb=>h1 ?_) (fun hb=>h3 ?_)|refine zX (fun hb=>h3 ?_) (fun hb=>h1 ?_))<;>(clear h1 h3 K1 K3;(try have hb2:=yC hb);(try have hb2:=yD hb);(try have hb2:=yE hb);(try have hb2:=yF hb);(try have hb2:=yG hb)))|(refine fun (K2:_→AHeap→Prop) hK2=>?_)|((with_reducible refine zY ?_ ?_);decide)|((with_reducible first|refine zZ ?_ (fun K hK=>?_)|refine yA ?_ (fun K hK=>?_));(focus go_simp;done);go_simp;refine hK _ _ ?_;clear hK K)|(go_simp;(try go_bits);(try first | ((with_reducible show CallS _ _ _ _ _ _);refine CallS.mono (HS.out _) ?_; rintro _ _ ⟨rfl, h9⟩; rw [h9]; clear h9; go_simp) | ((refine one_k el23 sz3 ze3 rfl (by decide) (by decide) rfl rfl ?_); go_simp) | ((refine append_k el23 sz3 by3 ze3 rfl (by decide) (HO.out.ext (Ext.push _)) (srcCells_new rfl) (by decide) rfl (by rw [List.all_append, oneV_ints]; rfl) HBIG.out (by rw [AHeap.n_push]; have := HB.out; omega) fun v2 H4 ho4 hg4 => ?_); (obtain ⟨a4, n4, rfl⟩ := own_sliceP ho4); (have HO4 := Lib.hid ho4); (have HX4 := Lib.hid (hg4.ext (HO.out.ext (Ext.push _)) (Nat.le_refl _) (HX.out.push' _))); clear ho4 hg4; go_simp));refine hK2 _ _ ?_;clear hK2 K2))
    refine Post.round_normal ⟨A - (k + 1), by omega, k + 1, .slice a4 n4 n4, by omega, rfl, (by first|go_simp<;>go_num|assumption), (by first|go_simp<;>go_num|assumption), (by first|go_simp<;>go_num|assumption), (by first|go_simp<;>go_num|assumption), (by first|go_simp<;>go_num|assumption), (by first|go_simp<;>go_num|assumption), Lib.hid ?_, HX4⟩
    rw [HSU.out, List.map_append]; exact HO4.out
  · have hlb : ¬ (k : Int) < (A : Int) := by omega
    obtain rfl : k = A := by omega
    repeat' (first|(with_reducible first|refine zA ?_|refine zB fun K hK=>?_|refine zC fun K2 hK2=>?_|refine zD ?_|refine zE ?_|refine zF ?_|refine zG ?_|refine zH ?_|refine zI ?_|refine zM ?_|refine zN ?_|refine zO ?_|refine zP ?_|refine zQ ?_|refine zR ?_)|((with_reducible refine zU (hK _ _ ?_));clear hK K)|((with_reducible refine zV ?_ ?_ fun K1 K3 d hdst h1 h3=>?_);rfl;exact yB rfl;cases hdst;go_simp)|((with_reducible refine zW fun K1 K3 h1 h3=>?_);go_simp)|((first|refine h1 ?_|refine h3 ?_);clear h1 h3 K1 K3)|((first|refine zX (fun hb=>h1 ?_) (fun hb=>h3 ?_)|refine zX (fun hb=>h3 ?_) (fun hb=>h1 ?_))<;>(clear h1 h3 K1 K3;(try have hb2:=yC hb);(try have hb2:=yD hb);(try have hb2:=yE hb);(try have hb2:=yF hb);(try have hb2:=yG hb)))|(refine fun (K2:_→AHeap→Prop) hK2=>?_)|((with_reducible refine zY ?_ ?_);decide)|((with_reducible first|refine zZ ?_ (fun K hK=>?_)|refine yA ?_ (fun K hK=>?_));(focus go_simp;done);go_simp;refine hK _ _ ?_;clear hK K)|(go_simp;(try go_bits);refine hK2 _ _ ?_;clear hK2 K2))
    exact ⟨⟨_, _, _, rfl, own_ints HO.out (by rw [balL_len]; omega)⟩, HX.out⟩
end Go.Proofs.Tryz
namespace Go.Proofs.Tryz
open Go Go.Am Go.RowKit
set_option maxRecDepth 100000


def lowS (l : List Pst) (x : Int) : Nat → Int × Int
  | 0 => (bal l x 0, 0)
  | d + 1 => if bal l x d < (lowS l x d).1 then (bal l x d, d) else lowS l x d
def errL (l : List Pst) (acc x : Int) : Int := if errP l acc ≠ 0 then errP l acc else if win 0 (acc - 1) x = true then 0 else 1
def lowR (l : List Pst) (acc x : Int) : Int × Int := if errL l acc x = 0 then lowS l x 731 else (0, 0)

set_option maxHeartbeats 4000000 in
theorem lowest_s {loops : List (Nat × LInfo)} {H : AHeap} {v : Value} {l : List Pst} {acc x : Int} (hv : Psts H v l) : CallS Tryz.prog loops 49 [v, .int .i64 acc, .int .i64 x] H fun r H' => r = .tuple #[.int .i64 (lowR l acc x).1, .int .i64 (lowR l acc x).2, .int .i64 (errL l acc x)] ∧ H' = H := by
  have HCK := Lib.hid (fun (loops : List (Nat × LInfo)) => checkPosts_s (loops := loops) (acc := acc) hv)
  have HST := Lib.hid (fun (loops : List (Nat × LInfo)) (d : Int) (hc : Coined l) => stand_s (loops := loops) (acc := x) (day := d) hv hc)
  obtain ⟨hlen, a, c, rfl⟩ := hv.slice
  clear hv
  unfold lowR
  by_cases h0 : errP l acc = 0
  case' neg =>
    rw [show errL l acc x = errP l acc from if_pos h0, if_neg h0]
    have h0b : (errP l acc != 0) = true := by simpa using h0
    generalize errP l acc = er at HCK h0b
    clear h0
    refine CallS.enter' Tryz.func49 rfl Tryz.ntmps49 (by simp) fun f hd hf => ?_
    have f0 := hf 0
    have f1 := hf 1
    have f2 := hf 2
    simp at f0 f1 f2
    clear hf
    repeat' (first|(with_reducible first|refine zA ?_|refine zB fun K hK=>?_|refine zC fun K2 hK2=>?_|refine zD ?_|refine zE ?_|refine zF ?_|refine zG ?_|refine zH ?_|refine zI ?_|refine zM ?_|refine zN ?_|refine zO ?_|refine zP ?_|refine zQ ?_|refine zR ?_)|((with_reducible refine zU (hK _ _ ?_));clear hK K)|((with_reducible refine zV ?_ ?_ fun K1 K3 d hdst h1 h3=>?_);rfl;exact yB rfl;cases hdst;go_simp)|((with_reducible refine zW fun K1 K3 h1 h3=>?_);go_simp)|((first|refine h1 ?_|refine h3 ?_);clear h1 h3 K1 K3)|((first|refine zX (fun hb=>h1 ?_) (fun hb=>h3 ?_)|refine zX (fun hb=>h3 ?_) (fun hb=>h1 ?_))<;>(clear h1 h3 K1 K3;(try have hb2:=yC hb);(try have hb2:=yD hb);(try have hb2:=yE hb);(try have hb2:=yF hb);(try have hb2:=yG hb)))|(refine fun (K2:_→AHeap→Prop) hK2=>?_)|((with_reducible refine zY ?_ ?_);decide)|((with_reducible first|refine zZ ?_ (fun K hK=>?_)|refine yA ?_ (fun K hK=>?_));(focus go_simp;done);go_simp;refine hK _ _ ?_;clear hK K)|(go_simp;(try go_bits);(try first | ((with_reducible show CallS _ _ _ _ _ _);refine CallS.mono (HCK.out _) ?_; rintro _ _ ⟨rfl, h9⟩; rw [h9]; clear h9; go_simp));refine hK2 _ _ ?_;clear hK2 K2))
    exact ⟨rfl, rfl⟩
  have hg := goodL h0
  have HCO := Lib.hid hg.coined
  have w0 := wrap_id (n := acc - 1) (by have := hg.bd; omega)
  rw [h0] at HCK
  by_cases h1 : win 0 (acc - 1) x = true
  case' neg =>
    have h1b : win 0 (acc - 1) x = false := by simpa using h1
    rw [show errL l acc x = 1 from (if_neg (by simpa using h0)).trans (if_neg h1), if_neg (by decide)]
    clear hg h1 h0
    refine CallS.enter' Tryz.func49 rfl Tryz.ntmps49 (by simp) fun f hd hf => ?_
    have f0 := hf 0
    have f1 := hf 1
    have f2 := hf 2
    simp at f0 f1 f2
    clear hf
    repeat' (first|(with_reducible first|refine zA ?_|refine zB fun K hK=>?_|refine zC fun K2 hK2=>?_|refine zD ?_|refine zE ?_|refine zF ?_|refine zG ?_|refine zH ?_|refine zI ?_|refine zM ?_|refine zN ?_|refine zO ?_|refine zP ?_|refine zQ ?_|refine zR ?_)|((with_reducible refine zU (hK _ _ ?_));clear hK K)|((with_reducible refine zV ?_ ?_ fun K1 K3 d hdst h1 h3=>?_);rfl;exact yB rfl;cases hdst;go_simp)|((with_reducible refine zW fun K1 K3 h1 h3=>?_);go_simp)|((first|refine h1 ?_|refine h3 ?_);clear h1 h3 K1 K3)|((first|refine zX (fun hb=>h1 ?_) (fun hb=>h3 ?_)|refine zX (fun hb=>h3 ?_) (fun hb=>h1 ?_))<;>(clear h1 h3 K1 K3;(try have hb2:=yC hb);(try have hb2:=yD hb);(try have hb2:=yE hb);(try have hb2:=yF hb);(try have hb2:=yG hb)))|(refine fun (K2:_→AHeap→Prop) hK2=>?_)|((with_reducible refine zY ?_ ?_);decide)|((with_reducible first|refine zZ ?_ (fun K hK=>?_)|refine yA ?_ (fun K hK=>?_));(focus go_simp;done);go_simp;refine hK _ _ ?_;clear hK K)|(go_simp;(try go_bits);(try first |((with_reducible show CallS _ _ _ _ _ _);first|(refine CallS.mono (HCK.out _) ?_; rintro _ _ ⟨rfl, h9⟩; rw [h9]; clear h9; go_simp)|(refine CallS.mono within_s ?_; rintro _ _ ⟨rfl, h9⟩; rw [h9]; clear h9; go_simp)));refine hK2 _ _ ?_;clear hK2 K2))
    exact ⟨rfl, rfl⟩
  rw [show errL l acc x = 0 from (if_neg (by simpa using h0)).trans (if_pos h1), if_pos rfl]
  clear hg h0
  refine CallS.enter' Tryz.func49 rfl Tryz.ntmps49 (by simp) fun f hd hf => ?_
  have f0 := hf 0
  have f1 := hf 1
  have f2 := hf 2
  simp at f0 f1 f2
  clear hf
  repeat' (first|(with_reducible first|refine zA ?_|refine zB fun K hK=>?_|refine zC fun K2 hK2=>?_|refine zD ?_|refine zE ?_|refine zF ?_|refine zG ?_|refine zH ?_|refine zI ?_|refine zM ?_|refine zN ?_|refine zO ?_|refine zP ?_|refine zQ ?_|refine zR ?_)|((with_reducible refine zU (hK _ _ ?_));clear hK K)|((with_reducible refine zV ?_ ?_ fun K1 K3 d hdst h1 h3=>?_);rfl;exact yB rfl;cases hdst;go_simp)|((with_reducible refine zW fun K1 K3 h1 h3=>?_);go_simp)|((first|refine h1 ?_|refine h3 ?_);clear h1 h3 K1 K3)|((first|refine zX (fun hb=>h1 ?_) (fun hb=>h3 ?_)|refine zX (fun hb=>h3 ?_) (fun hb=>h1 ?_))<;>(clear h1 h3 K1 K3;(try have hb2:=yC hb);(try have hb2:=yD hb);(try have hb2:=yE hb);(try have hb2:=yF hb);(try have hb2:=yG hb)))|(refine fun (K2:_→AHeap→Prop) hK2=>?_)|((with_reducible refine zY ?_ ?_);decide)|((with_reducible first|refine zZ ?_ (fun K hK=>?_)|refine yA ?_ (fun K hK=>?_));(focus go_simp;done);go_simp;refine hK _ _ ?_;clear hK K)|(go_simp;(try go_bits);(try first |((with_reducible show CallS _ _ _ _ _ _);first|(refine CallS.mono (HCK.out _) ?_; rintro _ _ ⟨rfl, h9⟩; rw [h9]; clear h9; go_simp)|(refine CallS.mono within_s ?_; rintro _ _ ⟨rfl, h9⟩; rw [h9]; clear h9; go_simp)|(refine CallS.mono (HST.out _ _ HCO.out) ?_; rintro _ _ ⟨rfl, h9⟩; rw [h9]; clear h9; go_simp)));refine hK2 _ _ ?_;clear hK2 K2))
  refine CodeS.loop (fun m f H' => ∃ (k : Nat) (p q : Int), k ≤ 731 ∧ m = 731 - k ∧ f.tmp 28 = .int .i64 k ∧ f.tmp 0 = .slice a l.length c ∧ f.tmp 2 = .int .i64 x ∧ f.tmp 10 = .int .i64 p ∧ f.tmp 11 = .int .i64 q ∧ f.defers = [] ∧ Hid (lowS l x k = (p, q)) ∧ H' = H) 731 ?_ ?_
  · exact ⟨0, _, _, by omega, by omega, (by first|go_simp<;>go_num|assumption), (by first|go_simp<;>go_num|assumption), (by first|go_simp<;>go_num|assumption), (by first|go_simp<;>go_num|assumption), (by first|go_simp<;>go_num|assumption), (by first|go_simp<;>go_num|assumption), Lib.hid rfl, rfl⟩
  clear f0 f1 f2 hd f
  rintro m f H' ⟨k, p, q, hk, rfl, f28, f0, f2, f10, f11, hd, HG, h9⟩
  rw [h9]
  clear h9 H'
  by_cases hlt : k < 731
  · have hlb : (k : Int) < 731 := by omega
    have w1 := wrap_id (n := (k : Int) + 1) (by omega)
    have HS := Lib.hid (fun (loops : List (Nat × LInfo)) => HST.out loops (k : Int) HCO.out)
    have HU : Hid (lowS l x (k + 1) = if bal l x k < p then (bal l x k, (k : Int)) else (p, q)) := Lib.hid (by rw [lowS, HG.out])
    generalize bal l x (k : Int) = s at HS HU
    by_cases hs : s < p
    · rw [if_pos hs] at HU
      repeat' (first|(with_reducible first|refine zA ?_|refine zB fun K hK=>?_|refine zC fun K2 hK2=>?_|refine zD ?_|refine zE ?_|refine zF ?_|refine zG ?_|refine zH ?_|refine zI ?_|refine zM ?_|refine zN ?_|refine zO ?_|refine zP ?_|refine zQ ?_|refine zR ?_)|((with_reducible refine zU (hK _ _ ?_));clear hK K)|((with_reducible refine zV ?_ ?_ fun K1 K3 d hdst h1 h3=>?_);rfl;exact yB rfl;cases hdst;go_simp)|((with_reducible refine zW fun K1 K3 h1 h3=>?_);go_simp)|((first|refine h1 ?_|refine h3 ?_);clear h1 h3 K1 K3)|((first|refine zX (fun hb=>h1 ?_) (fun hb=>h3 ?_)|refine zX (fun hb=>h3 ?_) (fun hb=>h1 ?_))<;>(clear h1 h3 K1 K3;(try have hb2:=yC hb);(try have hb2:=yD hb);(try have hb2:=yE hb);(try have hb2:=yF hb);(try have hb2:=yG hb)))|(refine fun (K2:_→AHeap→Prop) hK2=>?_)|((with_reducible refine zY ?_ ?_);decide)|((with_reducible first|refine zZ ?_ (fun K hK=>?_)|refine yA ?_ (fun K hK=>?_));(focus go_simp;done);go_simp;refine hK _ _ ?_;clear hK K)|(go_simp;(try go_bits);(try first | ((with_reducible show CallS _ _ _ _ _ _);refine CallS.mono (HS.out _) ?_; rintro _ _ ⟨rfl, h9⟩; rw [h9]; clear h9; go_simp));refine hK2 _ _ ?_;clear hK2 K2))
      exact Post.round_normal ⟨731 - (k + 1), by omega, k + 1, s, k, by omega, rfl, (by first|go_simp<;>go_num|assumption), (by first|go_simp<;>go_num|assumption), (by first|go_simp<;>go_num|assumption), (by first|go_simp<;>go_num|assumption), (by first|go_simp<;>go_num|assumption), (by first|go_simp<;>go_num|assumption), HU, rfl⟩
    · rw [if_neg hs] at HU
      repeat' (first|(with_reducible first|refine zA ?_|refine zB fun K hK=>?_|refine zC fun K2 hK2=>?_|refine zD ?_|refine zE ?_|refine zF ?_|refine zG ?_|refine zH ?_|refine zI ?_|refine zM ?_|refine zN ?_|refine zO ?_|refine zP ?_|refine zQ ?_|refine zR ?_)|((with_reducible refine zU (hK _ _ ?_));clear hK K)|((with_reducible refine zV ?_ ?_ fun K1 K3 d hdst h1 h3=>?_);rfl;exact yB rfl;cases hdst;go_simp)|((with_reducible refine zW fun K1 K3 h1 h3=>?_);go_simp)|((first|refine h1 ?_|refine h3 ?_);clear h1 h3 K1 K3)|((first|refine zX (fun hb=>h1 ?_) (fun hb=>h3 ?_)|refine zX (fun hb=>h3 ?_) (fun hb=>h1 ?_))<;>(clear h1 h3 K1 K3;(try have hb2:=yC hb);(try have hb2:=yD hb);(try have hb2:=yE hb);(try have hb2:=yF hb);(try have hb2:=yG hb)))|(refine fun (K2:_→AHeap→Prop) hK2=>?_)|((with_reducible refine zY ?_ ?_);decide)|((with_reducible first|refine zZ ?_ (fun K hK=>?_)|refine yA ?_ (fun K hK=>?_));(focus go_simp;done);go_simp;refine hK _ _ ?_;clear hK K)|(go_simp;(try go_bits);(try first | ((with_reducible show CallS _ _ _ _ _ _);refine CallS.mono (HS.out _) ?_; rintro _ _ ⟨rfl, h9⟩; rw [h9]; clear h9; go_simp));refine hK2 _ _ ?_;clear hK2 K2))
      exact Post.round_normal ⟨731 - (k + 1), by omega, k + 1, p, q, by omega, rfl, (by first|go_simp<;>go_num|assumption), (by first|go_simp<;>go_num|assumption), (by first|go_simp<;>go_num|assumption), (by first|go_simp<;>go_num|assumption), (by first|go_simp<;>go_num|assumption), (by first|go_simp<;>go_num|assumption), HU, rfl⟩
  · have hlb : ¬ (k : Int) < 731 := by omega
    obtain rfl : k = 731 := by omega
    repeat' (first|(with_reducible first|refine zA ?_|refine zB fun K hK=>?_|refine zC fun K2 hK2=>?_|refine zD ?_|refine zE ?_|refine zF ?_|refine zG ?_|refine zH ?_|refine zI ?_|refine zM ?_|refine zN ?_|refine zO ?_|refine zP ?_|refine zQ ?_|refine zR ?_)|((with_reducible refine zU (hK _ _ ?_));clear hK K)|((with_reducible refine zV ?_ ?_ fun K1 K3 d hdst h1 h3=>?_);rfl;exact yB rfl;cases hdst;go_simp)|((with_reducible refine zW fun K1 K3 h1 h3=>?_);go_simp)|((first|refine h1 ?_|refine h3 ?_);clear h1 h3 K1 K3)|((first|refine zX (fun hb=>h1 ?_) (fun hb=>h3 ?_)|refine zX (fun hb=>h3 ?_) (fun hb=>h1 ?_))<;>(clear h1 h3 K1 K3;(try have hb2:=yC hb);(try have hb2:=yD hb);(try have hb2:=yE hb);(try have hb2:=yF hb);(try have hb2:=yG hb)))|(refine fun (K2:_→AHeap→Prop) hK2=>?_)|((with_reducible refine zY ?_ ?_);decide)|((with_reducible first|refine zZ ?_ (fun K hK=>?_)|refine yA ?_ (fun K hK=>?_));(focus go_simp;done);go_simp;refine hK _ _ ?_;clear hK K)|(go_simp;(try go_bits);refine hK2 _ _ ?_;clear hK2 K2))
    exact ⟨by rw [HG.out], rfl⟩

end Go.Proofs.Tryz
namespace Go.Proofs.Tryz
open Go Go.Am Go.RowKit
set_option maxRecDepth 100000


theorem errGoP_nodup (acc : Int) : ∀ (l : List Pst) (seen : List Int), errGoP acc seen l = 0 → (l.map (·.id)).Nodup ∧ ∀ p ∈ l, p.id ∉ seen
  | [], _, _ => ⟨by simp, fun p hp => by cases hp⟩
  | a :: l, seen, h => by
    rw [errGoP] at h
    split at h
    · cases h
    · split at h
      · cases h
      · rename_i h2
        obtain ⟨h3, h4⟩ := errGoP_nodup acc l _ h
        refine ⟨?_, fun p hp => ?_⟩
        · rw [List.map_cons, List.nodup_cons]
          refine ⟨fun hm => ?_, h3⟩
          obtain ⟨q, hq, he⟩ := List.mem_map.1 hm
          exact h4 q hq (by rw [he]; simp)
        · rcases List.mem_cons.1 hp with rfl | hp
          · exact h2
          · exact fun hs => h4 p hp (by simp [hs])
theorem errGoP_zero (acc : Int) : ∀ (l : List Pst) (seen : List Int), (∀ p ∈ l, p.right acc = true) → (l.map (·.id)).Nodup → (∀ p ∈ l, p.id ∉ seen) → errGoP acc seen l = 0
  | [], _, _, _, _ => rfl
  | a :: l, seen, h1, h2, h3 => by
    rw [List.map_cons, List.nodup_cons] at h2
    rw [errGoP, if_neg (by simp [h1 a (List.mem_cons_self ..)]), if_neg (h3 a (List.mem_cons_self ..))]
    refine errGoP_zero acc l _ (fun b hb => h1 b (List.mem_cons_of_mem _ hb)) h2.2 (fun b hb hs => ?_)
    simp only [List.mem_append, List.mem_singleton] at hs
    rcases hs with hs | hs
    · exact h3 b (List.mem_cons_of_mem _ hb) hs
    · exact h2.1 (by rw [← hs]; exact List.mem_map.2 ⟨b, hb, rfl⟩)
structure GoodP (l : List Pst) (acc : Int) : Prop extends GoodL l acc where
  nodup : (l.map (·.id)).Nodup
theorem goodP {l : List Pst} {acc : Int} (h : errP l acc = 0) : GoodP l acc := by
  refine ⟨goodL h, ?_⟩
  unfold errP at h
  split at h
  · cases h
  · split at h
    · cases h
    · exact (errGoP_nodup acc l [] h).1
theorem GoodP.err {l : List Pst} {acc : Int} (h : GoodP l acc) : errP l acc = 0 := by
  unfold errP
  rw [if_neg (by rw [win_iff.2 h.bd]; decide), if_neg (by have := h.len; omega)]
  exact errGoP_zero acc l [] h.right h.nodup (fun p _ hp => by cases hp)

def nowP : Pst := ⟨0, 0, 0, 0, 0⟩
theorem getP_in {F : List Pst} {i : Nat} (h : i < F.length) : F.getD i nowP = F[i] := by
  rw [List.getD, List.getElem?_eq_getElem h]; rfl
def rotP (F : List Pst) (r : Nat) (k : Nat) : List Pst := (List.range k).map fun i => F.getD ((i + r) % F.length) nowP
theorem rotP_succ {F : List Pst} {r k : Nat} (h : 0 < F.length) : rotP F r (k + 1) = rotP F r k ++ [F[(k + r) % F.length]'(Nat.mod_lt _ h)] := by
  simp only [rotP, List.range_succ, List.map_append, List.map_cons, List.map_nil]
  rw [getP_in (Nat.mod_lt _ h)]
theorem rotP_len (F : List Pst) (r k : Nat) : (rotP F r k).length = k := by simp [rotP]
theorem rotP_eq (F : List Pst) (r : Nat) (h : 0 < F.length) : rotP F r F.length = F.drop (r % F.length) ++ F.take (r % F.length) := by
  have hs := Nat.mod_lt r h
  refine List.ext_getElem (by simp [rotP]; omega) fun i h1 h2 => ?_
  rw [rotP_len] at h1
  have e1 : (rotP F r F.length)[i]'(by rw [rotP_len]; exact h1) = F[(i + r) % F.length]'(Nat.mod_lt _ h) := by
    simp only [rotP, List.getElem_map, List.getElem_range]
    rw [getP_in (Nat.mod_lt _ h)]
  rw [e1]
  have e2 : (i + r) % F.length = (i + r % F.length) % F.length := by rw [Nat.add_mod, Nat.add_mod i (r % F.length), Nat.mod_mod]
  generalize r % F.length = s at hs e2 h2 ⊢
  rcases Nat.lt_or_ge (i + s) F.length with h3 | h3
  · rw [List.getElem_append_left (by rw [List.length_drop]; omega), List.getElem_drop]
    congr 1
    rw [e2, Nat.mod_eq_of_lt h3]; omega
  · rw [List.getElem_append_right (by rw [List.length_drop]; omega), List.getElem_take]
    congr 1
    rw [e2, Nat.mod_eq_sub_mod h3, Nat.mod_eq_of_lt (by omega), List.length_drop]; omega
theorem rotP_perm (F : List Pst) (r : Nat) : (rotP F r F.length).Perm F := by
  rcases Nat.eq_zero_or_pos F.length with h | h
  · have : F = [] := List.length_eq_zero_iff.1 h
    subst this; simp [rotP]
  · rw [rotP_eq F r h]
    exact List.perm_append_comm.trans (by rw [List.take_append_drop])
theorem bal_app (l m : List Pst) (x d : Int) : bal (l ++ m) x d = bal l x d + bal m x d := by simp [bal]
theorem bal_rot (F : List Pst) (r : Nat) (x d : Int) : bal (rotP F r F.length) x d = bal F x d := by
  rcases Nat.eq_zero_or_pos F.length with h | h
  · have : F = [] := List.length_eq_zero_iff.1 h
    subst this; simp [rotP]
  · rw [rotP_eq F r h, bal_app, Int.add_comm, ← bal_app, List.take_append_drop]
theorem GoodP.perm {l m : List Pst} {acc : Int} (h : GoodP l acc) (hp : m.Perm l) : GoodP m acc :=
  ⟨⟨h.bd, by rw [hp.length_eq]; exact h.len, fun p hm => h.right p (hp.mem_iff.1 hm)⟩, (hp.map _).nodup_iff.2 h.nodup⟩

def Pst.flip (p : Pst) : Pst := ⟨p.id, p.day, p.dst, p.src, p.coins⟩
theorem flip_at (p : Pst) (x d : Int) : p.flip.at_ x d = - p.at_ x d := by
  unfold Pst.at_ Pst.flip; simp only; split <;> omega
theorem bal_flip : ∀ (l : List Pst) (x d : Int), bal (l.map Pst.flip) x d = - bal l x d
  | [], x, d => rfl
  | p :: l, x, d => by
    have := bal_flip l x d
    simp only [bal, List.map_cons, List.sum_cons] at *
    rw [this, flip_at]; omega
theorem flip_right {p : Pst} {acc : Int} (h : p.right acc = true) : p.flip.right acc = true := by
  simp only [Pst.right, Bool.and_eq_true, Bool.not_eq_true', decide_eq_false_iff_not] at h ⊢
  simp only [Pst.flip]
  exact ⟨h.1, h.2.1, h.2.2.2.1, h.2.2.1, h.2.2.2.2.1, fun e => h.2.2.2.2.2 e.symm⟩
theorem GoodP.flip {l : List Pst} {acc : Int} (h : GoodP l acc) : GoodP (l.map Pst.flip) acc :=
  ⟨⟨h.bd, by rw [List.length_map]; exact h.len, fun p hm => by
    obtain ⟨q, hq, rfl⟩ := List.mem_map.1 hm
    exact flip_right (h.right q hq)⟩, by rw [List.map_map]; exact h.nodup⟩

theorem sum_if : ∀ (A : Nat) (x c : Int), ((List.range A).map fun (i : Nat) => if x = (i : Int) then c else 0).sum = if 0 ≤ x ∧ x < A then c else 0
  | 0, x, c => by simp; omega
  | A + 1, x, c => by
    rw [List.range_succ, List.map_append, List.sum_append, sum_if A x c]
    simp only [List.map_cons, List.map_nil, List.sum_cons, List.sum_nil]
    split <;> split <;> split <;> omega
theorem sum_sub : ∀ (l : List Nat) (f g : Nat → Int), (l.map fun i => f i - g i).sum = (l.map f).sum - (l.map g).sum
  | [], f, g => rfl
  | a :: l, f, g => by simp only [List.map_cons, List.sum_cons, sum_sub l f g]; omega
theorem sum_add : ∀ (l : List Nat) (f g : Nat → Int), (l.map fun i => f i + g i).sum = (l.map f).sum + (l.map g).sum
  | [], f, g => rfl
  | a :: l, f, g => by simp only [List.map_cons, List.sum_cons, sum_add l f g]; omega
theorem sum_zero : ∀ l : List Nat, (l.map fun _ => (0 : Int)).sum = 0
  | [] => rfl
  | a :: l => by simp only [List.map_cons, List.sum_cons, sum_zero l]; rfl
theorem at_sum {p : Pst} {A : Nat} (h : p.right A = true) (d : Int) : ((List.range A).map fun (i : Nat) => p.at_ i d).sum = 0 := by
  simp only [Pst.right, Bool.and_eq_true, win_iff] at h
  obtain ⟨-, -, h3, h4, -⟩ := h
  unfold Pst.at_
  by_cases hd : d < p.day
  · simp only [hd, if_true]; exact sum_zero _
  · simp only [hd, if_false]
    rw [sum_sub, sum_if, sum_if, if_pos (by omega), if_pos (by omega)]; omega
theorem balL_sum : ∀ {l : List Pst} {A : Nat}, (∀ p ∈ l, p.right A = true) → ∀ d : Int, (balL l A d).sum = 0
  | [], A, _, d => by simp only [balL, bal, List.map_nil, List.sum_nil]; exact sum_zero _
  | p :: l, A, h, d => by
    have h1 := balL_sum (l := l) (fun q hq => h q (List.mem_cons_of_mem _ hq)) d
    have h2 := at_sum (h p (List.mem_cons_self ..)) d
    simp only [balL, bal, List.map_cons, List.sum_cons] at *
    rw [sum_add, h1, h2]; rfl

theorem lowS_low (l : List Pst) (x : Int) : ∀ (k : Nat), (0 < k → ∃ d : Nat, d < k ∧ (lowS l x k).2 = d ∧ (lowS l x k).1 = bal l x d) ∧ (∀ d : Nat, d < k → (lowS l x k).1 ≤ bal l x d) ∧ ∀ d : Nat, d < k → bal l x d = (lowS l x k).1 → (lowS l x k).2 ≤ d
  | 0 => ⟨fun h => absurd h (by omega), fun d hd => absurd hd (by omega), fun d hd => absurd hd (by omega)⟩
  | k + 1 => by
    obtain ⟨h1, h2, h3⟩ := lowS_low l x k
    rw [lowS]
    by_cases hs : bal l x k < (lowS l x k).1
    · rw [if_pos hs]
      refine ⟨fun _ => ⟨k, by omega, rfl, rfl⟩, fun d hd => ?_, fun d hd he => ?_⟩
      · rcases Nat.lt_or_ge d k with h | h
        · have := h2 d h; simp only; omega
        · obtain rfl : d = k := by omega
          exact Int.le_refl _
      · rcases Nat.lt_or_ge d k with h | h
        · have := h2 d h; simp only at he ⊢; omega
        · simp only; omega
    · rw [if_neg hs]
      rcases Nat.eq_zero_or_pos k with rfl | hk
      · simp only [lowS] at *
        refine ⟨fun _ => ⟨0, by omega, rfl, rfl⟩, fun d hd => ?_, fun d hd he => ?_⟩
        · obtain rfl : d = 0 := by omega
          exact Int.le_refl _
        · omega
      · obtain ⟨d0, hd0, e1, e2⟩ := h1 hk
        refine ⟨fun _ => ⟨d0, by omega, e1, e2⟩, fun d hd => ?_, fun d hd he => ?_⟩
        · rcases Nat.lt_or_ge d k with h | h
          · exact h2 d h
          · obtain rfl : d = k := by omega
            omega
        · rcases Nat.lt_or_ge d k with h | h
          · exact h3 d h he
          · rw [e1]; omega
end Go.Proofs.Tryz
namespace Go.Proofs.Tryz
open Go Go.Am Go.RowKit
set_option maxRecDepth 100000


theorem own_upd {H : AHeap} {base : Nat} {v : Value} {e : TypeId} {size : Nat} {cells : List Value} (h : Own H base v e size cells) {i : Nat} (hi : i < base) (o : AObj) : Own (H.upd i o) base v e size cells := by
  rcases h with h | ⟨b, n, h1, h2, h3, h4, h5⟩
  · exact .inl h
  · exact .inr ⟨b, n, h1, h2, by rw [AHeap.n_upd]; exact h3, by rw [AHeap.get_upd_ne (by omega)]; exact h4, h5⟩

end Go.Proofs.Tryz
namespace Go.Proofs.Tryz
open Go Go.Am Go.RowKit
set_option maxRecDepth 100000


section
variable {H : AHeap} {β : Type} {kk : K β} {dst : Option Tmp} {ty : TypeId} {src : String} {af : Array Edge} {g : Option (Nat × Bool)} {f : AF}
@[go_sem] theorem vA_negT {t : TypeId} {x : Operand} : valA Tryz.prog ⟨dst, .unOp .neg t x, ty, src, af, g⟩ (Am.decode (Op.unOp .neg t x)) (evR (opReads ⟨dst, .unOp .neg t x, ty, src, af, g⟩) f) H kk = negV (f.eval x) H kk fun _ => aPlain Tryz.prog ⟨dst, .unOp .neg t x, ty, src, af, g⟩ (evR (opReads ⟨dst, .unOp .neg t x, ty, src, af, g⟩) f) H kk := by
  rw [← evR_self (o := ⟨dst, .unOp .neg t x, ty, src, af, g⟩) (f := f) (x := x) (by simp [Op.operands])]; exact aPlain_neg
end
def Apart (s r : Value) : Prop := ∀ b n b' n', s = .slice (some ⟨b, 0, none⟩) n n → r = .slice (some ⟨b', 0, none⟩) n' n' → b ≠ b'
theorem own_keep {H H' : AHeap} {base base' : Nat} {s r : Value} {e : TypeId} {size : Nat} {cells : List Value} (h : Own H base' r e size cells) (hg : Grown H H' base s) (ha : Apart s r) : Own H' base' r e size cells := by
  rcases h with h | ⟨b, n, h1, h2, h3, h4, h5⟩
  · exact .inl h
  · refine .inr ⟨b, n, h1, h2, Nat.lt_of_lt_of_le h3 hg.1, ?_, h5⟩
    rw [hg.2 b h3 fun b1 n1 hs hn hb => ha b1 n1 b n hs h1 hb.symm]; exact h4
theorem apart_new {H H' : AHeap} {base : Nat} {s r : Value} {e e' : TypeId} {size size' : Nat} {cells cells' : List Value} (h : Own H base r e size cells) (h' : Own H' H.n s e' size' cells') : Apart s r := by
  intro b n b' n' hs hr
  rcases h with ⟨h, _⟩ | ⟨b1, n1, h1, h2, h3, _⟩
  · rw [h] at hr; cases hr
  · rcases h' with ⟨h', _⟩ | ⟨b2, n2, h1', h2', _⟩
    · rw [h'] at hs; cases hs
    · rw [h1] at hr; rw [h1'] at hs; cases hr; cases hs; omega
theorem Apart.symm {s r : Value} (h : Apart s r) : Apart r s := fun b n b' n' h1 h2 h3 => h b' n' b n h2 h1 h3.symm
theorem apart_nil {s : Value} : Apart s (.slice none 0 0) := fun b n b' n' _ h => by cases h
theorem pst_one : ∀ l : List Pst, (pstCells l).all oneV = true
  | [] => rfl
  | a :: l => by
    have h := pst_one l
    unfold pstCells at *
    rw [List.flatMap_cons, List.all_append, h]; rfl
theorem own_psts {H : AHeap} {base : Nat} {v : Value} {l : List Pst} (h : Own H base v 117 5 (pstCells l)) (hl : l.length ≤ 1000) : Psts H v l := by
  rcases h with ⟨rfl, h⟩ | ⟨b, n, rfl, h1, h2, h3, h4, h5⟩
  · have : l = [] := by
      have := congrArg List.length h
      rw [pstCells_length] at this
      exact List.length_eq_zero_iff.1 (by have h9 : l.length * 5 = 0 := by simpa using this
                                          omega)
    subst this
    exact ⟨rfl, by simp, none, 0, rfl, fun _ => rfl, by simp⟩
  · rw [pstCells_length] at h4
    obtain rfl : l.length = n := by omega
    refine ⟨pstCells_length l, by omega, _, _, rfl, (fun h => by cases h), fun _ => ⟨b, 0, none, rfl, h2, fun j u hu => ?_⟩⟩
    simp only [cellAt, h3, Nat.zero_add]; exact hu
theorem rot_at {F : List Pst} {r : Int} {k : Nat} (h : 0 < F.length) (hr : 0 ≤ r) : ∃ q, ∃ hq : q < F.length, ((k : Int) + r) % (F.length : Int) = (q : Int) ∧ rotP F r.toNat (k + 1) = rotP F r.toNat k ++ [F[q]] := by
  refine ⟨(k + r.toNat) % F.length, Nat.mod_lt _ h, ?_, rotP_succ h⟩
  rw [Int.natCast_emod, Int.natCast_add, Int.toNat_of_nonneg hr]
theorem pstCells_snoc (l : List Pst) (p : Pst) : pstCells (l ++ [p]) = pstCells l ++ [.int .i64 p.id, .int .i64 p.day, .int .i64 p.src, .int .i64 p.dst, .int .i64 p.coins] := by
  simp [pstCells, Pst.cells]
theorem own_move {H0 H : AHeap} {base : Nat} {r : Value} {e : TypeId} {size : Nat} {cells : List Value} (h : Own H0 base r e size cells) (hn : H0.n ≤ H.n) (hk : ∀ b n, r = .slice (some ⟨b, 0, none⟩) n n → b < H0.n → H.get b = H0.get b) : Own H base r e size cells := by
  rcases h with h | ⟨b, n, h1, h2, h3, h4, h5⟩
  · exact .inl h
  · exact .inr ⟨b, n, h1, h2, Nat.lt_of_lt_of_le h3 hn, by rw [hk b n h1 h3]; exact h4, h5⟩
theorem own_lt {H : AHeap} {base : Nat} {r : Value} {e : TypeId} {size : Nat} {cells : List Value} (h : Own H base r e size cells) {b n : Nat} (hs : r = .slice (some ⟨b, 0, none⟩) n n) : b < H.n := by
  rcases h with ⟨h, _⟩ | ⟨b1, n1, h1, h2, h3, _⟩
  · rw [h] at hs; cases hs
  · rw [h1] at hs; cases hs; exact h3
theorem ints_len {H : AHeap} {a : Option Addr} {n c : Nat} {xs : List Int} (h : Ints H (.slice a n c) xs) : n = xs.length := by
  obtain ⟨_, _, a', c', h3, _⟩ := h
  cases h3; rfl
theorem balL_rot (l : List Pst) (r A : Nat) (d : Int) : balL (rotP l r l.length) A d = balL l A d := by simp only [balL, bal_rot]
theorem balL_flip (l : List Pst) (r A : Nat) (d : Int) : balL ((rotP l r l.length).map Pst.flip) A d = (balL l A d).map (fun x => -x) := by
  simp only [balL, bal_flip, bal_rot, List.map_map]; rfl
theorem balL_get {l : List Pst} {A : Nat} {d : Int} {k : Nat} (hk : k < (balL l A d).length) : (balL l A d)[k] = bal l k d := by simp [balL]
theorem sumB {l : List Pst} (h : Coined l) (A : Nat) (d : Int) : ∀ k : Nat, k ≤ A → -((k : Int) * 109951162777600) ≤ ((balL l A d).take k).sum ∧ ((balL l A d).take k).sum ≤ (k : Int) * 109951162777600
  | 0, _ => by simp
  | k + 1, hk => by
    have h1 := sumB h A d k (by omega)
    have hl : k < (balL l A d).length := by rw [balL_len]; omega
    have h2 : -109951162777600 ≤ bal l k d ∧ bal l k d ≤ 109951162777600 := by
      have := bal_take h l.length k d
      rwa [List.take_length] at this
    rw [List.take_succ_eq_append_getElem hl, List.sum_append, balL_get hl]
    simp only [List.sum_cons, List.sum_nil]
    omega
end Go.Proofs.Tryz
