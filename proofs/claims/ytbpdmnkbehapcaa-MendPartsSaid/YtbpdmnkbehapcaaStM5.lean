/- Contracts of functions, walked. -/
import Derived.Lib.Hide
import Derived.Test.YtbpdmnkbehapcaaStS0
import Derived.Test.YtbpdmnkbehapcaaAwB
set_option linter.all false
namespace Go.Proofs.Try
open Go Go.Am Go.RowKit
set_option maxRecDepth 100000


def win (lo hi n : Int) : Bool := decide (lo ≤ n) && decide (n ≤ hi)
theorem win_iff {lo hi n : Int} : win lo hi n = true ↔ lo ≤ n ∧ n ≤ hi := by simp [win]
theorem within_s {loops : List (Nat × LInfo)} {H : AHeap} {n lo hi : Int} : CallS Try.prog loops 70 [.int .i64 n, .int .i64 lo, .int .i64 hi] H fun v H' => v = .bool (win lo hi n) ∧ H' = H := by
  refine CallS.enter' Try.func70 rfl Try.ntmps70 (by simp) fun f hd hf => ?_
  have f0 := hf 0
  have f1 := hf 1
  have f2 := hf 2
  simp at f0 f1 f2
  clear hf
  unfold win
  repeat' (first|(with_reducible first|refine zA ?_|refine zB fun K hK=>?_|refine zC fun K2 hK2=>?_|refine zD ?_|refine zE ?_|refine zF ?_|refine zG ?_|refine zH ?_|refine zI ?_|refine zM ?_|refine zN ?_|refine zO ?_|refine zP ?_|refine zQ ?_|refine zR ?_)|((with_reducible refine zU (hK _ _ ?_));clear hK K)|((with_reducible refine zV ?_ ?_ fun K1 K3 d hdst h1 h3=>?_);rfl;exact yB rfl;cases hdst;go_simp)|((with_reducible refine zW fun K1 K3 h1 h3=>?_);go_simp)|((first|refine h1 ?_|refine h3 ?_);clear h1 h3 K1 K3)|((first|refine zX (fun hb=>h1 ?_) (fun hb=>h3 ?_)|refine zX (fun hb=>h3 ?_) (fun hb=>h1 ?_))<;>(clear h1 h3 K1 K3;(try have hb2:=yC hb);(try have hb2:=yD hb);(try have hb2:=yE hb);(try have hb2:=yF hb);(try have hb2:=yG hb)))|(refine fun (K2:_→AHeap→Prop) hK2=>?_)|((with_reducible refine zY ?_ ?_);decide)|((with_reducible first|refine zZ ?_ (fun K hK=>?_)|refine yA ?_ (fun K hK=>?_));(focus go_simp;done);go_simp;refine hK _ _ ?_;clear hK K)|(go_simp;(try go_bits);refine hK2 _ _ ?_;clear hK2 K2))
  all_goals (refine ⟨?_, rfl⟩; simp [*])

def Cells (H : AHeap) (v : Value) (size n : Nat) (xs : List Value) : Prop :=
  xs.length = n * size ∧ n ≤ 9223372036854775807 ∧ ∃ a c, v = .slice a n c ∧ (a = none → c = 0) ∧ (0 < n → ∃ b o sp, a = some ⟨b, o, sp⟩ ∧ b < H.n ∧ ∀ j u, xs[j]? = some u → cellAt H b (o + j) = some u)
theorem Cells.ext {H H' : AHeap} {v : Value} {size n : Nat} {xs : List Value} (h : Cells H v size n xs) (hx : Ext H H') : Cells H' v size n xs := by
  obtain ⟨h1, h2, a, c, h3, h0, h4⟩ := h
  refine ⟨h1, h2, a, c, h3, h0, fun hn => ?_⟩
  obtain ⟨b, o, sp, h5, h6, h7⟩ := h4 hn
  exact ⟨b, o, sp, h5, Nat.lt_of_lt_of_le h6 hx.n, fun j u hu => by rw [hx.cellAt h6]; exact h7 j u hu⟩
def Ints (H : AHeap) (v : Value) (xs : List Int) : Prop := Cells H v 1 xs.length (xs.map (Value.int .i64))
theorem Ints.ext {H H' : AHeap} {v : Value} {xs : List Int} (h : Ints H v xs) (hx : Ext H H') : Ints H' v xs := Cells.ext h hx
theorem Ints.at_ {H : AHeap} {a : Option Addr} {n c : Nat} {xs : List Int} (h : Ints H (.slice a n c) xs) {k : Nat} (hk : k < xs.length) : ∃ b o sp, a = some ⟨b, o, sp⟩ ∧ b < H.n ∧ cellAt H b (o + k) = some (.int .i64 xs[k]) := by
  obtain ⟨h1, h2, a', c', h3, h0, h4⟩ := h
  cases h3
  obtain ⟨b, o, sp, h5, h6, h7⟩ := h4 (by omega)
  exact ⟨b, o, sp, h5, h6, h7 k _ (by simp [hk])⟩
theorem Ints.slice {H : AHeap} {v : Value} {xs : List Int} (h : Ints H v xs) : xs.length ≤ 9223372036854775807 ∧ ∃ a c, v = .slice a xs.length c := by
  obtain ⟨h1, h2, a', c', h3, h0, h4⟩ := h
  exact ⟨h2, a', c', h3⟩

def idxOf (x : Int) : List Int → Nat → Int
  | [], _ => -1
  | y :: t, k => if x = y then k else idxOf x t (k + 1)
theorem idxOf_pos (x : Int) : ∀ (l : List Int) (k : Nat), decide (0 ≤ idxOf x l k) = decide (x ∈ l)
  | [], k => by simp [idxOf]
  | y :: t, k => by
    rw [idxOf]
    by_cases h : x = y
    · rw [if_pos h]; simp [h]
    · rw [if_neg h, idxOf_pos x t (k + 1)]; simp [h]

theorem index_s {loops : List (Nat × LInfo)} {H : AHeap} {v : Value} {xs : List Int} {x : Int} (hv : Ints H v xs) : CallS Try.prog loops 74 [v, .int .i64 x] H fun r H' => r = .int .i64 (idxOf x xs 0) ∧ H' = H := by
  obtain ⟨hlen, a, c, rfl⟩ := hv.slice
  have HV := Lib.hid hv
  clear hv
  refine CallS.enter' Try.func74 rfl Try.ntmps74 (by simp) fun f hd hf => ?_
  have f0 := hf 0
  have f1 := hf 1
  simp at f0 f1
  clear hf
  repeat' (first|(with_reducible first|refine zA ?_|refine zB fun K hK=>?_|refine zC fun K2 hK2=>?_|refine zD ?_|refine zE ?_|refine zF ?_|refine zG ?_|refine zH ?_|refine zI ?_|refine zM ?_|refine zN ?_|refine zO ?_|refine zP ?_|refine zQ ?_|refine zR ?_)|((with_reducible refine zU (hK _ _ ?_));clear hK K)|((with_reducible refine zV ?_ ?_ fun K1 K3 d hdst h1 h3=>?_);rfl;exact yB rfl;cases hdst;go_simp)|((with_reducible refine zW fun K1 K3 h1 h3=>?_);go_simp)|((first|refine h1 ?_|refine h3 ?_);clear h1 h3 K1 K3)|((first|refine zX (fun hb=>h1 ?_) (fun hb=>h3 ?_)|refine zX (fun hb=>h3 ?_) (fun hb=>h1 ?_))<;>(clear h1 h3 K1 K3;(try have hb2:=yC hb);(try have hb2:=yD hb);(try have hb2:=yE hb);(try have hb2:=yF hb);(try have hb2:=yG hb)))|(refine fun (K2:_→AHeap→Prop) hK2=>?_)|((with_reducible refine zY ?_ ?_);decide)|((with_reducible first|refine zZ ?_ (fun K hK=>?_)|refine yA ?_ (fun K hK=>?_));(focus go_simp;done);go_simp;refine hK _ _ ?_;clear hK K)|(go_simp;(try go_bits);refine hK2 _ _ ?_;clear hK2 K2))
  refine CodeS.loop (fun m f H' => ∃ k : Nat, k ≤ xs.length ∧ m = xs.length - k ∧ f.tmp 8 = .int .i64 k ∧ f.tmp 0 = .slice a xs.length c ∧ f.tmp 7 = .int .i64 xs.length ∧ f.tmp 1 = .int .i64 x ∧ f.defers = [] ∧ Hid (idxOf x (xs.drop k) k = idxOf x xs 0) ∧ H' = H) xs.length ?_ ?_
  · exact ⟨0, by simp, by simp, (by first|go_simp<;>go_num|assumption), (by first|go_simp<;>go_num|assumption), (by first|go_simp<;>go_num|assumption), (by first|go_simp<;>go_num|assumption), (by first|go_simp<;>go_num|assumption), Lib.hid (by simp), rfl⟩
  clear f0 f1 hd f
  rintro m f H' ⟨k, hk, rfl, f8, f0, f7, f1, hd, HG, rfl⟩
  by_cases hlt : k < xs.length
  · obtain ⟨b, o, sp, rfl, hb, hx⟩ := HV.out.at_ hlt
    have HD := Lib.hid (List.drop_eq_getElem_cons hlt)
    generalize xs[k] = y at hx HD
    repeat' (first|(with_reducible first|refine zA ?_|refine zB fun K hK=>?_|refine zC fun K2 hK2=>?_|refine zD ?_|refine zE ?_|refine zF ?_|refine zG ?_|refine zH ?_|refine zI ?_|refine zM ?_|refine zN ?_|refine zO ?_|refine zP ?_|refine zQ ?_|refine zR ?_)|((with_reducible refine zU (hK _ _ ?_));clear hK K)|((with_reducible refine zV ?_ ?_ fun K1 K3 d hdst h1 h3=>?_);rfl;exact yB rfl;cases hdst;go_simp)|((with_reducible refine zW fun K1 K3 h1 h3=>?_);go_simp)|((first|refine h1 ?_|refine h3 ?_);clear h1 h3 K1 K3)|((first|refine zX (fun hb=>h1 ?_) (fun hb=>h3 ?_)|refine zX (fun hb=>h3 ?_) (fun hb=>h1 ?_))<;>(clear h1 h3 K1 K3;(try have hb2:=yC hb);(try have hb2:=yD hb);(try have hb2:=yE hb);(try have hb2:=yF hb);(try have hb2:=yG hb)))|(refine fun (K2:_→AHeap→Prop) hK2=>?_)|((with_reducible refine zY ?_ ?_);decide)|((with_reducible first|refine zZ ?_ (fun K hK=>?_)|refine yA ?_ (fun K hK=>?_));(focus go_simp;done);go_simp;refine hK _ _ ?_;clear hK K)|(go_simp;(try go_bits);refine hK2 _ _ ?_;clear hK2 K2))
    · refine ⟨?_, rfl⟩
      have hw : x = y := by simpa using hb
      rw [← HG.out, HD.out]; simp [idxOf, hw]
    · have hw : ¬ x = y := by simpa using hb
      refine Post.round_normal ⟨xs.length - (k + 1), by omega, k + 1, by omega, rfl, (by first|go_simp<;>go_num|assumption), (by first|go_simp<;>go_num|assumption), (by first|go_simp<;>go_num|assumption), (by first|go_simp<;>go_num|assumption), (by first|go_simp<;>go_num|assumption), Lib.hid ?_, rfl⟩
      rw [← HG.out, HD.out]; simp [idxOf, hw]
  · repeat' (first|(with_reducible first|refine zA ?_|refine zB fun K hK=>?_|refine zC fun K2 hK2=>?_|refine zD ?_|refine zE ?_|refine zF ?_|refine zG ?_|refine zH ?_|refine zI ?_|refine zM ?_|refine zN ?_|refine zO ?_|refine zP ?_|refine zQ ?_|refine zR ?_)|((with_reducible refine zU (hK _ _ ?_));clear hK K)|((with_reducible refine zV ?_ ?_ fun K1 K3 d hdst h1 h3=>?_);rfl;exact yB rfl;cases hdst;go_simp)|((with_reducible refine zW fun K1 K3 h1 h3=>?_);go_simp)|((first|refine h1 ?_|refine h3 ?_);clear h1 h3 K1 K3)|((first|refine zX (fun hb=>h1 ?_) (fun hb=>h3 ?_)|refine zX (fun hb=>h3 ?_) (fun hb=>h1 ?_))<;>(clear h1 h3 K1 K3;(try have hb2:=yC hb);(try have hb2:=yD hb);(try have hb2:=yE hb);(try have hb2:=yF hb);(try have hb2:=yG hb)))|(refine fun (K2:_→AHeap→Prop) hK2=>?_)|((with_reducible refine zY ?_ ?_);decide)|((with_reducible first|refine zZ ?_ (fun K hK=>?_)|refine yA ?_ (fun K hK=>?_));(focus go_simp;done);go_simp;refine hK _ _ ?_;clear hK K)|(go_simp;(try go_bits);refine hK2 _ _ ?_;clear hK2 K2))
    refine ⟨?_, rfl⟩
    rw [← HG.out, List.drop_eq_nil_of_le (by omega)]; rfl

theorem contains_s {loops : List (Nat × LInfo)} {H : AHeap} {v : Value} {xs : List Int} {x : Int} (hv : Ints H v xs) : CallS Try.prog loops 72 [v, .int .i64 x] H fun r H' => r = .bool (decide (x ∈ xs)) ∧ H' = H := by
  have HV := Lib.hid hv
  clear hv
  rw [← idxOf_pos x xs 0]
  generalize hi : idxOf x xs 0 = i
  have HI := Lib.hid hi
  clear hi
  refine CallS.enter' Try.func72 rfl Try.ntmps72 (by simp) fun f hd hf => ?_
  have f0 := hf 0
  have f1 := hf 1
  simp at f0 f1
  clear hf
  repeat' (first|(with_reducible first|refine zA ?_|refine zB fun K hK=>?_|refine zC fun K2 hK2=>?_|refine zD ?_|refine zE ?_|refine zF ?_|refine zG ?_|refine zH ?_|refine zI ?_|refine zM ?_|refine zN ?_|refine zO ?_|refine zP ?_|refine zQ ?_|refine zR ?_)|((with_reducible refine zU (hK _ _ ?_));clear hK K)|((with_reducible refine zV ?_ ?_ fun K1 K3 d hdst h1 h3=>?_);rfl;exact yB rfl;cases hdst;go_simp)|((with_reducible refine zW fun K1 K3 h1 h3=>?_);go_simp)|((first|refine h1 ?_|refine h3 ?_);clear h1 h3 K1 K3)|((first|refine zX (fun hb=>h1 ?_) (fun hb=>h3 ?_)|refine zX (fun hb=>h3 ?_) (fun hb=>h1 ?_))<;>(clear h1 h3 K1 K3;(try have hb2:=yC hb);(try have hb2:=yD hb);(try have hb2:=yE hb);(try have hb2:=yF hb);(try have hb2:=yG hb)))|(refine fun (K2:_→AHeap→Prop) hK2=>?_)|((with_reducible refine zY ?_ ?_);decide)|((with_reducible first|refine zZ ?_ (fun K hK=>?_)|refine yA ?_ (fun K hK=>?_));(focus go_simp;done);go_simp;refine hK _ _ ?_;clear hK K)|(go_simp;(try go_bits);(try first | ((with_reducible show CallS _ _ _ _ _ _);refine CallS.mono (index_s HV.out) ?_; rw [HI.out]; rintro _ _ ⟨rfl, rfl⟩));refine hK2 _ _ ?_;clear hK2 K2))
  exact ⟨rfl, rfl⟩

theorem has_s {loops : List (Nat × LInfo)} {H : AHeap} {v : Value} {xs : List Int} {x : Int} (hv : Ints H v xs) : CallS Try.prog loops 23 [v, .int .i64 x] H fun r H' => r = .bool (decide (x ∈ xs)) ∧ H' = H := by
  obtain ⟨hlen, a, c, rfl⟩ := hv.slice
  have HV := Lib.hid hv
  clear hv
  refine CallS.enter' Try.func23 rfl Try.ntmps23 (by simp) fun f hd hf => ?_
  have f0 := hf 0
  have f1 := hf 1
  simp at f0 f1
  clear hf
  repeat' (first|(with_reducible first|refine zA ?_|refine zB fun K hK=>?_|refine zC fun K2 hK2=>?_|refine zD ?_|refine zE ?_|refine zF ?_|refine zG ?_|refine zH ?_|refine zI ?_|refine zM ?_|refine zN ?_|refine zO ?_|refine zP ?_|refine zQ ?_|refine zR ?_)|((with_reducible refine zU (hK _ _ ?_));clear hK K)|((with_reducible refine zV ?_ ?_ fun K1 K3 d hdst h1 h3=>?_);rfl;exact yB rfl;cases hdst;go_simp)|((with_reducible refine zW fun K1 K3 h1 h3=>?_);go_simp)|((first|refine h1 ?_|refine h3 ?_);clear h1 h3 K1 K3)|((first|refine zX (fun hb=>h1 ?_) (fun hb=>h3 ?_)|refine zX (fun hb=>h3 ?_) (fun hb=>h1 ?_))<;>(clear h1 h3 K1 K3;(try have hb2:=yC hb);(try have hb2:=yD hb);(try have hb2:=yE hb);(try have hb2:=yF hb);(try have hb2:=yG hb)))|(refine fun (K2:_→AHeap→Prop) hK2=>?_)|((with_reducible refine zY ?_ ?_);decide)|((with_reducible first|refine zZ ?_ (fun K hK=>?_)|refine yA ?_ (fun K hK=>?_));(focus go_simp;done);go_simp;refine hK _ _ ?_;clear hK K)|(go_simp;(try go_bits);refine hK2 _ _ ?_;clear hK2 K2))
  refine CodeS.loop (fun m f H' => ∃ k : Nat, k ≤ xs.length ∧ m = xs.length - k ∧ f.tmp 5 = .int .i64 k ∧ f.tmp 0 = .slice a xs.length c ∧ f.tmp 1 = .int .i64 x ∧ f.defers = [] ∧ Hid (decide (x ∈ xs.drop k) = decide (x ∈ xs)) ∧ H' = H) xs.length ?_ ?_
  · exact ⟨0, by simp, by simp, (by first|go_simp<;>go_num|assumption), (by first|go_simp<;>go_num|assumption), (by first|go_simp<;>go_num|assumption), (by first|go_simp<;>go_num|assumption), Lib.hid (by simp), rfl⟩
  clear f0 f1 hd f
  rintro m f H' ⟨k, hk, rfl, f5, f0, f1, hd, HG, rfl⟩
  by_cases hlt : k < xs.length
  · obtain ⟨b, o, sp, rfl, hb, hx⟩ := HV.out.at_ hlt
    have HD := Lib.hid (List.drop_eq_getElem_cons hlt)
    generalize xs[k] = y at hx HD
    repeat' (first|(with_reducible first|refine zA ?_|refine zB fun K hK=>?_|refine zC fun K2 hK2=>?_|refine zD ?_|refine zE ?_|refine zF ?_|refine zG ?_|refine zH ?_|refine zI ?_|refine zM ?_|refine zN ?_|refine zO ?_|refine zP ?_|refine zQ ?_|refine zR ?_)|((with_reducible refine zU (hK _ _ ?_));clear hK K)|((with_reducible refine zV ?_ ?_ fun K1 K3 d hdst h1 h3=>?_);rfl;exact yB rfl;cases hdst;go_simp)|((with_reducible refine zW fun K1 K3 h1 h3=>?_);go_simp)|((first|refine h1 ?_|refine h3 ?_);clear h1 h3 K1 K3)|((first|refine zX (fun hb=>h1 ?_) (fun hb=>h3 ?_)|refine zX (fun hb=>h3 ?_) (fun hb=>h1 ?_))<;>(clear h1 h3 K1 K3;(try have hb2:=yC hb);(try have hb2:=yD hb);(try have hb2:=yE hb);(try have hb2:=yF hb);(try have hb2:=yG hb)))|(refine fun (K2:_→AHeap→Prop) hK2=>?_)|((with_reducible refine zY ?_ ?_);decide)|((with_reducible first|refine zZ ?_ (fun K hK=>?_)|refine yA ?_ (fun K hK=>?_));(focus go_simp;done);go_simp;refine hK _ _ ?_;clear hK K)|(go_simp;(try go_bits);refine hK2 _ _ ?_;clear hK2 K2))
    · refine ⟨?_, rfl⟩
      have hw : y = x := by simpa using hb
      rw [← HG.out, HD.out]; simp [hw]
    · have hw : ¬ y = x := by simpa using hb
      refine Post.round_normal ⟨xs.length - (k + 1), by omega, k + 1, by omega, rfl, (by first|go_simp<;>go_num|assumption), (by first|go_simp<;>go_num|assumption), (by first|go_simp<;>go_num|assumption), (by first|go_simp<;>go_num|assumption), Lib.hid ?_, rfl⟩
      rw [← HG.out, HD.out]; simp [show ¬ x = y from fun h => hw h.symm]
  · repeat' (first|(with_reducible first|refine zA ?_|refine zB fun K hK=>?_|refine zC fun K2 hK2=>?_|refine zD ?_|refine zE ?_|refine zF ?_|refine zG ?_|refine zH ?_|refine zI ?_|refine zM ?_|refine zN ?_|refine zO ?_|refine zP ?_|refine zQ ?_|refine zR ?_)|((with_reducible refine zU (hK _ _ ?_));clear hK K)|((with_reducible refine zV ?_ ?_ fun K1 K3 d hdst h1 h3=>?_);rfl;exact yB rfl;cases hdst;go_simp)|((with_reducible refine zW fun K1 K3 h1 h3=>?_);go_simp)|((first|refine h1 ?_|refine h3 ?_);clear h1 h3 K1 K3)|((first|refine zX (fun hb=>h1 ?_) (fun hb=>h3 ?_)|refine zX (fun hb=>h3 ?_) (fun hb=>h1 ?_))<;>(clear h1 h3 K1 K3;(try have hb2:=yC hb);(try have hb2:=yD hb);(try have hb2:=yE hb);(try have hb2:=yF hb);(try have hb2:=yG hb)))|(refine fun (K2:_→AHeap→Prop) hK2=>?_)|((with_reducible refine zY ?_ ?_);decide)|((with_reducible first|refine zZ ?_ (fun K hK=>?_)|refine yA ?_ (fun K hK=>?_));(focus go_simp;done);go_simp;refine hK _ _ ?_;clear hK K)|(go_simp;(try go_bits);refine hK2 _ _ ?_;clear hK2 K2))
    refine ⟨?_, rfl⟩
    rw [← HG.out, List.drop_eq_nil_of_le (by omega)]; rfl

def incr : List Int → Bool
  | [] => true
  | [_] => true
  | a :: b :: t => decide (a < b) && incr (b :: t)

theorem incr_drop : ∀ (l : List Int) (k : Nat) (h : k + 1 < l.length), incr (l.drop k) = (decide (l[k] < l[k + 1]) && incr (l.drop (k + 1)))
  | a :: b :: t, 0, _ => rfl
  | a :: b :: t, k + 1, h => by
    have := incr_drop (b :: t) k (by simpa using h)
    simpa using this
  | [], _, h => by simp at h
  | [_], _, h => by simp at h

theorem incr_s {loops : List (Nat × LInfo)} {H : AHeap} {v : Value} {xs : List Int} (hv : Ints H v xs) : CallS Try.prog loops 92 [v] H fun r H' => r = .bool (incr xs) ∧ H' = H := by
  obtain ⟨hlen, a, c, rfl⟩ := hv.slice
  have HV := Lib.hid hv
  clear hv
  refine CallS.enter' Try.func92 rfl Try.ntmps92 (by simp) fun f hd hf => ?_
  have f0 := hf 0
  simp at f0
  clear hf
  repeat' (first|(with_reducible first|refine zA ?_|refine zB fun K hK=>?_|refine zC fun K2 hK2=>?_|refine zD ?_|refine zE ?_|refine zF ?_|refine zG ?_|refine zH ?_|refine zI ?_|refine zM ?_|refine zN ?_|refine zO ?_|refine zP ?_|refine zQ ?_|refine zR ?_)|((with_reducible refine zU (hK _ _ ?_));clear hK K)|((with_reducible refine zV ?_ ?_ fun K1 K3 d hdst h1 h3=>?_);rfl;exact yB rfl;cases hdst;go_simp)|((with_reducible refine zW fun K1 K3 h1 h3=>?_);go_simp)|((first|refine h1 ?_|refine h3 ?_);clear h1 h3 K1 K3)|((first|refine zX (fun hb=>h1 ?_) (fun hb=>h3 ?_)|refine zX (fun hb=>h3 ?_) (fun hb=>h1 ?_))<;>(clear h1 h3 K1 K3;(try have hb2:=yC hb);(try have hb2:=yD hb);(try have hb2:=yE hb);(try have hb2:=yF hb);(try have hb2:=yG hb)))|(refine fun (K2:_→AHeap→Prop) hK2=>?_)|((with_reducible refine zY ?_ ?_);decide)|((with_reducible first|refine zZ ?_ (fun K hK=>?_)|refine yA ?_ (fun K hK=>?_));(focus go_simp;done);go_simp;refine hK _ _ ?_;clear hK K)|(go_simp;(try go_bits);refine hK2 _ _ ?_;clear hK2 K2))
  refine CodeS.loop (fun m f H' => ∃ k : Nat, 1 ≤ k ∧ m = xs.length + 1 - k ∧ f.tmp 3 = .int .i64 k ∧ f.tmp 0 = .slice a xs.length c ∧ f.defers = [] ∧ (k ≤ xs.length ∨ k = 1) ∧ Hid (incr (xs.drop (k - 1)) = incr xs) ∧ H' = H) xs.length ?_ ?_
  · exact ⟨1, by omega, by omega, (by first|go_simp<;>go_num|assumption), (by first|go_simp<;>go_num|assumption), (by first|go_simp<;>go_num|assumption), .inr rfl, Lib.hid (by simp), rfl⟩
  clear f0 hd f
  rintro m f H' ⟨k, hk, rfl, f3, f0, hd, hkk, HG, rfl⟩
  by_cases hlt : k < xs.length
  · obtain ⟨b, o, sp, rfl, hb, hx⟩ := HV.out.at_ hlt
    obtain ⟨b', o', sp', he, -, hx'⟩ := HV.out.at_ (k := k - 1) (by omega)
    cases he
    have HD := Lib.hid (incr_drop xs (k - 1) (by omega))
    simp only [show k - 1 + 1 = k by omega] at HD
    generalize xs[k] = y at hx HD
    generalize xs[k - 1] = y' at hx' HD
    have h0i : (0 : Int) ≤ (k : Int) - 1 := by omega
    have h1i : (k : Int) - 1 < (xs.length : Int) := by omega
    have h2i : (1 : Int) ≤ (k : Int) := by omega
    clear hkk
    repeat' (first|(with_reducible first|refine zA ?_|refine zB fun K hK=>?_|refine zC fun K2 hK2=>?_|refine zD ?_|refine zE ?_|refine zF ?_|refine zG ?_|refine zH ?_|refine zI ?_|refine zM ?_|refine zN ?_|refine zO ?_|refine zP ?_|refine zQ ?_|refine zR ?_)|((with_reducible refine zU (hK _ _ ?_));clear hK K)|((with_reducible refine zV ?_ ?_ fun K1 K3 d hdst h1 h3=>?_);rfl;exact yB rfl;cases hdst;go_simp)|((with_reducible refine zW fun K1 K3 h1 h3=>?_);go_simp)|((first|refine h1 ?_|refine h3 ?_);clear h1 h3 K1 K3)|((first|refine zX (fun hb=>h1 ?_) (fun hb=>h3 ?_)|refine zX (fun hb=>h3 ?_) (fun hb=>h1 ?_))<;>(clear h1 h3 K1 K3;(try have hb2:=yC hb);(try have hb2:=yD hb);(try have hb2:=yE hb);(try have hb2:=yF hb);(try have hb2:=yG hb)))|(refine fun (K2:_→AHeap→Prop) hK2=>?_)|((with_reducible refine zY ?_ ?_);decide)|((with_reducible first|refine zZ ?_ (fun K hK=>?_)|refine yA ?_ (fun K hK=>?_));(focus go_simp;done);go_simp;refine hK _ _ ?_;clear hK K)|((with_reducible refine yH mixed rfl ?_ 20 fun K0 hK0=>?_);kernel_rfl)|(with_reducible first|exact yI|exact yJ|refine yK ?_|refine yL ?_|refine yM ?_)|((with_reducible first|refine yN ?_ ?_|refine yO ?_ ?_|refine yP ?_ ?_);rfl)|((with_reducible refine yQ ?_ ?_);rfl;refine hK0 _ _ ?_;clear hK0 K0)|((with_reducible refine yR ?_ ?_ ?_ ?_);rfl;rfl;rfl)|((with_reducible refine yS ?_ ?_ ?_ fun K2 hK2=>?_);rfl;rfl;exact yB rfl)|((with_reducible refine yT ?_ ?_ ?_ ?_ fun K1 K3 d hdst h1 h3=>?_);rfl;rfl;rfl;exact yB rfl;cases hdst;go_simp)|((with_reducible refine yU ?_ ?_ ?_ ?_ fun K1 K3 d hdst h1 h3=>?_);rfl;rfl;rfl;exact yB rfl;cases hdst;go_simp)|((with_reducible refine yV ?_ ?_ (fun K2 hK2=>?_) ?_);rfl;exact yB rfl)|((with_reducible refine yW ?_ ?_ ?_ ?_ (fun K2 hK2=>?_) ?_);rfl;exact yB rfl;rfl;(focus go_simp;done))|((with_reducible refine yX ?_ ?_ ?_ (fun K2 hK2=>?_) ?_);rfl;rfl;exact yB rfl)|((with_reducible refine yY ?_ ?_ (fun K2 hK2=>?_) ?_);rfl;rfl)|((with_reducible refine yZ ?_ ?_);(first|rfl|(dsimp only;decide +kernel)))|((with_reducible refine xA ?_ ?_);(focus go_simp;done))|(go_simp;(try go_bits);(first|(refine hK2 _ _ ?_ ?_<;>clear hK2 K2)|(refine hK2 _ _ ?_;clear hK2 K2))))
    · refine ⟨?_, rfl⟩
      have hw : y ≤ y' := by simpa using hb
      rw [← HG.out, HD.out]; simp; omega
    · have hw : ¬ y ≤ y' := by simpa using hb
      refine Post.round_normal ⟨xs.length + 1 - (k + 1), by omega, k + 1, by omega, rfl, (by first|go_simp<;>go_num|assumption), (by first|go_simp<;>go_num|assumption), (by first|go_simp<;>go_num|assumption), .inl (by omega), Lib.hid ?_, rfl⟩
      rw [← HG.out, HD.out]; simp; omega
  · repeat' (first|(with_reducible first|refine zA ?_|refine zB fun K hK=>?_|refine zC fun K2 hK2=>?_|refine zD ?_|refine zE ?_|refine zF ?_|refine zG ?_|refine zH ?_|refine zI ?_|refine zM ?_|refine zN ?_|refine zO ?_|refine zP ?_|refine zQ ?_|refine zR ?_)|((with_reducible refine zU (hK _ _ ?_));clear hK K)|((with_reducible refine zV ?_ ?_ fun K1 K3 d hdst h1 h3=>?_);rfl;exact yB rfl;cases hdst;go_simp)|((with_reducible refine zW fun K1 K3 h1 h3=>?_);go_simp)|((first|refine h1 ?_|refine h3 ?_);clear h1 h3 K1 K3)|((first|refine zX (fun hb=>h1 ?_) (fun hb=>h3 ?_)|refine zX (fun hb=>h3 ?_) (fun hb=>h1 ?_))<;>(clear h1 h3 K1 K3;(try have hb2:=yC hb);(try have hb2:=yD hb);(try have hb2:=yE hb);(try have hb2:=yF hb);(try have hb2:=yG hb)))|(refine fun (K2:_→AHeap→Prop) hK2=>?_)|((with_reducible refine zY ?_ ?_);decide)|((with_reducible first|refine zZ ?_ (fun K hK=>?_)|refine yA ?_ (fun K hK=>?_));(focus go_simp;done);go_simp;refine hK _ _ ?_;clear hK K)|(go_simp;(try go_bits);refine hK2 _ _ ?_;clear hK2 K2))
    refine ⟨?_, rfl⟩
    rw [← HG.out]
    have : (xs.drop (k - 1)).length ≤ 1 := by simp; omega
    match xs.drop (k - 1), this with
    | [], _ => rfl
    | [_], _ => rfl
end Go.Proofs.Try
namespace Go.Proofs.Try
open Go Go.Am Go.RowKit
set_option maxRecDepth 100000


structure Flaw where
  id : Int
  lo : Int
  hi : Int
  merit : Int
  deriving DecidableEq

def Flaw.cells (a : Flaw) : List Value := [.int .i64 a.id, .int .i64 a.lo, .int .i64 a.hi, .int .i64 a.merit]
def Flaw.val (a : Flaw) : Value := .agg #[.int .i64 a.id, .int .i64 a.lo, .int .i64 a.hi, .int .i64 a.merit]

structure Tour where
  days : Int
  closed : List Int
  flaws : List Flaw

def flawCells (l : List Flaw) : List Value := l.flatMap Flaw.cells
theorem flawCells_length : ∀ l : List Flaw, (flawCells l).length = l.length * 4
  | [] => rfl
  | a :: l => by
    have := flawCells_length l
    simp only [flawCells, List.flatMap_cons, List.length_append] at *
    rw [this]; simp [Flaw.cells]; omega
theorem flawCells_get : ∀ (l : List Flaw) (k : Nat) (h : k < l.length) (j : Nat) (u : Value), (l[k]).cells[j]? = some u → (flawCells l)[k * 4 + j]? = some u
  | a :: l, 0, _, j, u, hu => by
    simp only [flawCells, List.flatMap_cons, Nat.zero_mul, Nat.zero_add]
    have hu' : a.cells[j]? = some u := hu
    rw [List.getElem?_append_left (List.getElem?_eq_some_iff.1 hu').1]; exact hu'
  | a :: l, k + 1, h, j, u, hu => by
    have := flawCells_get l k (by simpa using h) j u (by simpa using hu)
    simp only [flawCells, List.flatMap_cons]
    rw [List.getElem?_append_right (by simp [Flaw.cells]; omega)]
    have e : (k + 1) * 4 + j - a.cells.length = k * 4 + j := by simp [Flaw.cells]; omega
    rw [e]; exact this

def Flaws (H : AHeap) (v : Value) (l : List Flaw) : Prop := Cells H v 4 l.length (flawCells l)
theorem Flaws.ext {H H' : AHeap} {v : Value} {l : List Flaw} (h : Flaws H v l) (hx : Ext H H') : Flaws H' v l := Cells.ext h hx
theorem Flaws.slice {H : AHeap} {v : Value} {l : List Flaw} (h : Flaws H v l) : l.length ≤ 9223372036854775807 ∧ ∃ a c, v = .slice a l.length c := by
  obtain ⟨h1, h2, a', c', h3, h0, h4⟩ := h
  exact ⟨h2, a', c', h3⟩
theorem Flaws.at_ {H : AHeap} {a : Option Addr} {n c : Nat} {l : List Flaw} (h : Flaws H (.slice a n c) l) {k : Nat} (hk : k < l.length) : ∃ b o sp, a = some ⟨b, o, sp⟩ ∧ b < H.n ∧ cellsAt H b (o + k * 4) 4 = some (l[k]).cells ∧ ∀ j u, (l[k]).cells[j]? = some u → cellAt H b (o + k * 4 + j) = some u := by
  obtain ⟨h1, h2, a', c', h3, h0, h4⟩ := h
  cases h3
  obtain ⟨b, o, sp, h5, h6, h7⟩ := h4 (by omega)
  have hc : ∀ j u, (l[k]).cells[j]? = some u → cellAt H b (o + k * 4 + j) = some u := fun j u hu => by
    rw [Nat.add_assoc]; exact h7 _ u (flawCells_get l k hk j u hu)
  exact ⟨b, o, sp, h5, h6, cellsAt_of (us := (l[k]).cells) (by simp [Flaw.cells]) hc, hc⟩

theorem Flaws.days_ {H : AHeap} {b o k : Nat} {a : Flaw} (h : ∀ j u, a.cells[j]? = some u → cellAt H b (o + k * 4 + j) = some u) : cellsAt H b (o + k * 4 + 1) 2 = some [.int .i64 a.lo, .int .i64 a.hi] := by
  have := cellsAt_of (H := H) (b := b) (o := o + k * 4 + 1) (us := [.int .i64 a.lo, .int .i64 a.hi]) (by simp) (fun j u hu => by
    match j, hu with
    | 0, hu => exact h 1 u hu
    | 1, hu => exact h 2 u hu)
  simpa using this

def TourV (H : AHeap) (v : Value) (t : Tour) : Prop := ∃ cv fv, v = .agg #[.int .i64 t.days, cv, fv] ∧ Ints H cv t.closed ∧ Flaws H fv t.flaws
theorem TourV.ext {H H' : AHeap} {v : Value} {t : Tour} (h : TourV H v t) (hx : Ext H H') : TourV H' v t := by
  obtain ⟨w, a, h1, h2, h3⟩ := h
  exact ⟨w, a, h1, h2.ext hx, h3.ext hx⟩

def Tour.isDay (t : Tour) (d : Int) : Bool := win 0 (t.days - 1) d
def Tour.isSpan (t : Tour) (lo hi : Int) : Bool := decide (lo ≤ hi) && (t.isDay lo && t.isDay hi)
def lies (a b c d : Int) : Bool := decide (c ≤ a) && decide (b ≤ d)

theorem isDay_s {loops : List (Nat × LInfo)} {H : AHeap} {v : Value} {t : Tour} {d : Int} (hv : TourV H v t) (h1 : win 1 60 t.days = true) : CallS Try.prog loops 75 [v, .int .i64 d] H fun r H' => r = .bool (t.isDay d) ∧ H' = H := by
  refine CallS.forget (R := fun r => r = .bool (t.isDay d)) (by rintro v rfl; rfl) ?_
  obtain ⟨cv, fv, rfl, hc, hf⟩ := hv
  obtain ⟨hcl, ca, cc, rfl⟩ := hc.slice
  obtain ⟨hfl, fa, fc, rfl⟩ := hf.slice
  obtain ⟨days, closed, flaws⟩ := t
  simp only [Tour.isDay] at *
  rw [win_iff] at h1
  obtain ⟨h1a, h1b⟩ := h1
  clear hc hf
  refine CallS.enter' Try.func75 rfl Try.ntmps75 (by simp) fun f hd hf => ?_
  have f0 := hf 0
  have f1 := hf 1
  simp at f0 f1
  clear hf
  repeat' (first|(with_reducible first|refine zA ?_|refine zB fun K hK=>?_|refine zC fun K2 hK2=>?_|refine zD ?_|refine zE ?_|refine zF ?_|refine zG ?_|refine zH ?_|refine zI ?_|refine zM ?_|refine zN ?_|refine zO ?_|refine zP ?_|refine zQ ?_|refine zR ?_)|((with_reducible refine zU (hK _ _ ?_));clear hK K)|((with_reducible refine zV ?_ ?_ fun K1 K3 d hdst h1 h3=>?_);rfl;exact yB rfl;cases hdst;go_simp)|((with_reducible refine zW fun K1 K3 h1 h3=>?_);go_simp)|((first|refine h1 ?_|refine h3 ?_);clear h1 h3 K1 K3)|((first|refine zX (fun hb=>h1 ?_) (fun hb=>h3 ?_)|refine zX (fun hb=>h3 ?_) (fun hb=>h1 ?_))<;>(clear h1 h3 K1 K3;(try have hb2:=yC hb);(try have hb2:=yD hb);(try have hb2:=yE hb);(try have hb2:=yF hb);(try have hb2:=yG hb)))|(refine fun (K2:_→AHeap→Prop) hK2=>?_)|((with_reducible refine zY ?_ ?_);decide)|((with_reducible first|refine zZ ?_ (fun K hK=>?_)|refine yA ?_ (fun K hK=>?_));(focus go_simp;done);go_simp;refine hK _ _ ?_;clear hK K)|(go_simp;(try go_bits);(try first | ((with_reducible show CallS _ _ _ _ _ _);refine CallS.mono within_s ?_; rintro _ _ ⟨rfl, rfl⟩));refine hK2 _ _ ?_;clear hK2 K2))
  all_goals (refine ⟨?_, (Ext.refl _).push' _⟩; simp_all)

theorem isSpan_s {loops : List (Nat × LInfo)} {H : AHeap} {v : Value} {t : Tour} {lo hi : Int} (hv : TourV H v t) (h1 : win 1 60 t.days = true) : CallS Try.prog loops 45 [v, .agg #[.int .i64 lo, .int .i64 hi]] H fun r H' => r = .bool (t.isSpan lo hi) ∧ H' = H := by
  refine CallS.forget (R := fun r => r = .bool (t.isSpan lo hi)) (by rintro v rfl; rfl) ?_
  have HV := Lib.hid hv
  obtain ⟨cv, fv, rfl, hc, hf⟩ := hv
  obtain ⟨hcl, ca, cc, rfl⟩ := hc.slice
  obtain ⟨hfl, fa, fc, rfl⟩ := hf.slice
  have hcall := fun (loops : List (Nat × LInfo)) (H2 : AHeap) (d : Int) (hx : Ext H H2) => isDay_s (loops := loops) (d := d) (HV.out.ext hx) h1
  unfold Tour.isSpan
  generalize t.isDay = g at hcall ⊢
  have HC := Lib.hid hcall
  clear hc hf hcall h1
  refine CallS.enter' Try.func45 rfl Try.ntmps45 (by simp) fun f hd hf => ?_
  have f0 := hf 0
  have f1 := hf 1
  simp at f0 f1
  clear hf
  repeat' (first|(with_reducible first|refine zA ?_|refine zB fun K hK=>?_|refine zC fun K2 hK2=>?_|refine zD ?_|refine zE ?_|refine zF ?_|refine zG ?_|refine zH ?_|refine zI ?_|refine zM ?_|refine zN ?_|refine zO ?_|refine zP ?_|refine zQ ?_|refine zR ?_)|((with_reducible refine zU (hK _ _ ?_));clear hK K)|((with_reducible refine zV ?_ ?_ fun K1 K3 d hdst h1 h3=>?_);rfl;exact yB rfl;cases hdst;go_simp)|((with_reducible refine zW fun K1 K3 h1 h3=>?_);go_simp)|((first|refine h1 ?_|refine h3 ?_);clear h1 h3 K1 K3)|((first|refine zX (fun hb=>h1 ?_) (fun hb=>h3 ?_)|refine zX (fun hb=>h3 ?_) (fun hb=>h1 ?_))<;>(clear h1 h3 K1 K3;(try have hb2:=yC hb);(try have hb2:=yD hb);(try have hb2:=yE hb);(try have hb2:=yF hb);(try have hb2:=yG hb)))|(refine fun (K2:_→AHeap→Prop) hK2=>?_)|((with_reducible refine zY ?_ ?_);decide)|((with_reducible first|refine zZ ?_ (fun K hK=>?_)|refine yA ?_ (fun K hK=>?_));(focus go_simp;done);go_simp;refine hK _ _ ?_;clear hK K)|(go_simp;(try go_bits);(try first | ((with_reducible show CallS _ _ _ _ _ _);refine CallS.mono (HC.out _ _ _ (((Ext.refl _).push' _).push' _)) ?_; rintro _ _ ⟨rfl, rfl⟩));refine hK2 _ _ ?_;clear hK2 K2))
  all_goals (refine ⟨?_, ((Ext.refl _).push' _).push' _⟩; simp_all <;> omega)

def Tour.areDays (t : Tour) (l : List Int) : Bool := incr l && (decide (l.length = 0) || (t.isDay (l.getD 0 0) && t.isDay (l.getD (l.length - 1) 0)))

set_option maxHeartbeats 2000000 in
theorem areDays_s {loops : List (Nat × LInfo)} {H : AHeap} {v lv : Value} {t : Tour} {l : List Int} (hv : TourV H v t) (hl : Ints H lv l) (h1 : win 1 60 t.days = true) : CallS Try.prog loops 71 [v, lv] H fun r H' => r = .bool (t.areDays l) ∧ H' = H := by
  refine CallS.forget (R := fun r => r = .bool (t.areDays l)) (by rintro v rfl; rfl) ?_
  have HV := Lib.hid hv
  have HL := Lib.hid hl
  obtain ⟨cv, fv, rfl, hc, hf⟩ := hv
  obtain ⟨hcl, ca, cc, rfl⟩ := hc.slice
  obtain ⟨hfl, fa, fc, rfl⟩ := hf.slice
  obtain ⟨hll, la, lc, rfl⟩ := hl.slice
  have hcall := fun (loops : List (Nat × LInfo)) (H2 : AHeap) (d : Int) (hx : Ext H H2) => isDay_s (loops := loops) (d := d) (HV.out.ext hx) h1
  unfold Tour.areDays
  have hinc := fun (loops : List (Nat × LInfo)) (H2 : AHeap) (hx : Ext H H2) => incr_s (loops := loops) (HL.out.ext hx)
  generalize t.isDay = g at hcall ⊢
  generalize incr l = ic at hinc ⊢
  have HC := Lib.hid hcall
  have HI := Lib.hid hinc
  clear hc hf hcall h1 hl hinc
  rcases Nat.eq_zero_or_pos l.length with hl0 | hl0
  case' inl =>
    rw [hl0] at HI
    rw [hl0]
    refine CallS.enter' Try.func71 rfl Try.ntmps71 (by simp) fun f hd hf => ?_
    have f0 := hf 0
    have f1 := hf 1
    simp at f0 f1
    clear hf hl0
    repeat' (first|(with_reducible first|refine zA ?_|refine zB fun K hK=>?_|refine zC fun K2 hK2=>?_|refine zD ?_|refine zE ?_|refine zF ?_|refine zG ?_|refine zH ?_|refine zI ?_|refine zM ?_|refine zN ?_|refine zO ?_|refine zP ?_|refine zQ ?_|refine zR ?_)|((with_reducible refine zU (hK _ _ ?_));clear hK K)|((with_reducible refine zV ?_ ?_ fun K1 K3 d hdst h1 h3=>?_);rfl;exact yB rfl;cases hdst;go_simp)|((with_reducible refine zW fun K1 K3 h1 h3=>?_);go_simp)|((first|refine h1 ?_|refine h3 ?_);clear h1 h3 K1 K3)|((first|refine zX (fun hb=>h1 ?_) (fun hb=>h3 ?_)|refine zX (fun hb=>h3 ?_) (fun hb=>h1 ?_))<;>(clear h1 h3 K1 K3;(try have hb2:=yC hb);(try have hb2:=yD hb);(try have hb2:=yE hb);(try have hb2:=yF hb);(try have hb2:=yG hb)))|(refine fun (K2:_→AHeap→Prop) hK2=>?_)|((with_reducible refine zY ?_ ?_);decide)|((with_reducible first|refine zZ ?_ (fun K hK=>?_)|refine yA ?_ (fun K hK=>?_));(focus go_simp;done);go_simp;refine hK _ _ ?_;clear hK K)|((with_reducible refine yH mixed rfl ?_ 20 fun K0 hK0=>?_);kernel_rfl)|(with_reducible first|exact yI|exact yJ|refine yK ?_|refine yL ?_|refine yM ?_)|((with_reducible first|refine yN ?_ ?_|refine yO ?_ ?_|refine yP ?_ ?_);rfl)|((with_reducible refine yQ ?_ ?_);rfl;refine hK0 _ _ ?_;clear hK0 K0)|((with_reducible refine yR ?_ ?_ ?_ ?_);rfl;rfl;rfl)|((with_reducible refine yS ?_ ?_ ?_ fun K2 hK2=>?_);rfl;rfl;exact yB rfl)|((with_reducible refine yT ?_ ?_ ?_ ?_ fun K1 K3 d hdst h1 h3=>?_);rfl;rfl;rfl;exact yB rfl;cases hdst;go_simp)|((with_reducible refine yU ?_ ?_ ?_ ?_ fun K1 K3 d hdst h1 h3=>?_);rfl;rfl;rfl;exact yB rfl;cases hdst;go_simp)|((with_reducible refine yV ?_ ?_ (fun K2 hK2=>?_) ?_);rfl;exact yB rfl)|((with_reducible refine yW ?_ ?_ ?_ ?_ (fun K2 hK2=>?_) ?_);rfl;exact yB rfl;rfl;(focus go_simp;done))|((with_reducible refine yX ?_ ?_ ?_ (fun K2 hK2=>?_) ?_);rfl;rfl;exact yB rfl)|((with_reducible refine yY ?_ ?_ (fun K2 hK2=>?_) ?_);rfl;rfl)|((with_reducible refine yZ ?_ ?_);(first|rfl|(dsimp only;decide +kernel)))|((with_reducible refine xA ?_ ?_);(focus go_simp;done))|(go_simp;(try go_bits);(try first |((with_reducible show CallS _ _ _ _ _ _);first|(refine CallS.mono (HC.out _ _ _ (((Ext.refl _).push' _))) ?_; rintro _ _ ⟨rfl, rfl⟩)|(refine CallS.mono (HI.out _ _ (((Ext.refl _).push' _))) ?_; rintro _ _ ⟨rfl, rfl⟩)));(first|(refine hK2 _ _ ?_ ?_<;>clear hK2 K2)|(refine hK2 _ _ ?_;clear hK2 K2))))
    all_goals (refine ⟨?_, ((Ext.refl _).push' _)⟩; simp_all)
  case' inr =>
    obtain ⟨b, o, sp, rfl, hb, hx⟩ := HL.out.at_ (k := 0) hl0
    obtain ⟨b', o', sp', he, -, hx'⟩ := HL.out.at_ (k := l.length - 1) (by omega)
    cases he
    have e0 : l.getD 0 0 = l[0] := by simp [hl0]
    have e1 : l.getD (l.length - 1) 0 = l[l.length - 1] := by rw [List.getD_eq_getElem?_getD, List.getElem?_eq_getElem (by omega)]; rfl
    rw [e0, e1]
    simp only [Nat.add_zero] at hx
    generalize l[0] = x0 at hx ⊢
    generalize l[l.length - 1] = x1 at hx' ⊢
    have h0i : (0 : Int) ≤ (l.length : Int) - 1 := by omega
    have h1i : (l.length : Int) - 1 < (l.length : Int) := by omega
    have h2i : (1 : Int) ≤ (l.length : Int) := by omega
    have h3i : 1 ≤ l.length := by omega
    have h4i : ¬ l.length = 0 := by omega
    have h5i : ¬ ((l.length : Int) = 0) := by omega
    refine CallS.enter' Try.func71 rfl Try.ntmps71 (by simp) fun f hd hf => ?_
    have f0 := hf 0
    have f1 := hf 1
    simp at f0 f1
    clear hf
    repeat' (first|(with_reducible first|refine zA ?_|refine zB fun K hK=>?_|refine zC fun K2 hK2=>?_|refine zD ?_|refine zE ?_|refine zF ?_|refine zG ?_|refine zH ?_|refine zI ?_|refine zM ?_|refine zN ?_|refine zO ?_|refine zP ?_|refine zQ ?_|refine zR ?_)|((with_reducible refine zU (hK _ _ ?_));clear hK K)|((with_reducible refine zV ?_ ?_ fun K1 K3 d hdst h1 h3=>?_);rfl;exact yB rfl;cases hdst;go_simp)|((with_reducible refine zW fun K1 K3 h1 h3=>?_);go_simp)|((first|refine h1 ?_|refine h3 ?_);clear h1 h3 K1 K3)|((first|refine zX (fun hb=>h1 ?_) (fun hb=>h3 ?_)|refine zX (fun hb=>h3 ?_) (fun hb=>h1 ?_))<;>(clear h1 h3 K1 K3;(try have hb2:=yC hb);(try have hb2:=yD hb);(try have hb2:=yE hb);(try have hb2:=yF hb);(try have hb2:=yG hb)))|(refine fun (K2:_→AHeap→Prop) hK2=>?_)|((with_reducible refine zY ?_ ?_);decide)|((with_reducible first|refine zZ ?_ (fun K hK=>?_)|refine yA ?_ (fun K hK=>?_));(focus go_simp;done);go_simp;refine hK _ _ ?_;clear hK K)|((with_reducible refine yH mixed rfl ?_ 20 fun K0 hK0=>?_);kernel_rfl)|(with_reducible first|exact yI|exact yJ|refine yK ?_|refine yL ?_|refine yM ?_)|((with_reducible first|refine yN ?_ ?_|refine yO ?_ ?_|refine yP ?_ ?_);rfl)|((with_reducible refine yQ ?_ ?_);rfl;refine hK0 _ _ ?_;clear hK0 K0)|((with_reducible refine yR ?_ ?_ ?_ ?_);rfl;rfl;rfl)|((with_reducible refine yS ?_ ?_ ?_ fun K2 hK2=>?_);rfl;rfl;exact yB rfl)|((with_reducible refine yT ?_ ?_ ?_ ?_ fun K1 K3 d hdst h1 h3=>?_);rfl;rfl;rfl;exact yB rfl;cases hdst;go_simp)|((with_reducible refine yU ?_ ?_ ?_ ?_ fun K1 K3 d hdst h1 h3=>?_);rfl;rfl;rfl;exact yB rfl;cases hdst;go_simp)|((with_reducible refine yV ?_ ?_ (fun K2 hK2=>?_) ?_);rfl;exact yB rfl)|((with_reducible refine yW ?_ ?_ ?_ ?_ (fun K2 hK2=>?_) ?_);rfl;exact yB rfl;rfl;(focus go_simp;done))|((with_reducible refine yX ?_ ?_ ?_ (fun K2 hK2=>?_) ?_);rfl;rfl;exact yB rfl)|((with_reducible refine yY ?_ ?_ (fun K2 hK2=>?_) ?_);rfl;rfl)|((with_reducible refine yZ ?_ ?_);(first|rfl|(dsimp only;decide +kernel)))|((with_reducible refine xA ?_ ?_);(focus go_simp;done))|(go_simp;(try go_bits);(try first |((with_reducible show CallS _ _ _ _ _ _);first|(refine CallS.mono (HC.out _ _ _ (((Ext.refl _).push' _))) ?_; rintro _ _ ⟨rfl, rfl⟩)|(refine CallS.mono (HI.out _ _ (((Ext.refl _).push' _))) ?_; rintro _ _ ⟨rfl, rfl⟩)));(first|(refine hK2 _ _ ?_ ?_<;>clear hK2 K2)|(refine hK2 _ _ ?_;clear hK2 K2))))
    all_goals (refine ⟨?_, ((Ext.refl _).push' _)⟩; simp_all)
end Go.Proofs.Try
namespace Go.Proofs.Try
open Go Go.Am Go.RowKit
set_option maxRecDepth 100000


def Flaw.right (t : Tour) (a : Flaw) : Bool := win 1 1099511627776 a.id && (t.isSpan a.lo a.hi && win 1 1000 a.merit)
def errGo (t : Tour) : List Int → List Flaw → Int
  | _, [] => 0
  | seen, a :: l => if a.right t = false then 1 else if a.id ∈ seen then 6 else errGo t (seen ++ [a.id]) l
def err (t : Tour) : Int := if win 1 60 t.days = false ∨ t.areDays t.closed = false then 1 else if 40 < t.flaws.length then 2 else errGo t [] t.flaws

def seenL (l : List Flaw) : List (Int × Value) := l.map fun a => (a.id, .bool true)
theorem look_bool : ∀ (l : List Flaw) (k : Int), (lookL (seenL l) k).getD (.bool false) = .bool (decide (k ∈ l.map (·.id)))
  | [], k => rfl
  | a :: l, k => by
    have := look_bool l k
    simp only [lookL, seenL, List.map_cons, List.find?_cons, List.mem_cons] at *
    by_cases h : k = a.id
    · simp [h]
    · have hb : (k == a.id) = false := by simpa using h
      rw [hb]; simp only [h, false_or]; exact this
theorem put_seen : ∀ (l : List Flaw) (a : Flaw), a.id ∉ l.map (·.id) → putL (seenL l) a.id (.bool true) = seenL (l ++ [a])
  | [], a, _ => rfl
  | x :: l, a, h => by
    simp only [List.map_cons, List.mem_cons, not_or] at h
    have := put_seen l a h.2
    simp only [seenL, List.map_cons, List.cons_append, putL] at *
    rw [if_neg (by simpa using h.1), this]

set_option maxHeartbeats 4000000 in
theorem check_e {loops : List (Nat × LInfo)} {H : AHeap} {v : Value} {t : Tour} (hv : TourV H v t) : CallS Try.prog loops 38 [v] H fun r H' => r = .int .i64 (err t) ∧ Ext H H' := by
  have HV := Lib.hid hv
  obtain ⟨cv, fv, rfl, hc, hf⟩ := hv
  obtain ⟨hcl, ca, cc, rfl⟩ := hc.slice
  obtain ⟨hfl, fa, fc, rfl⟩ := hf.slice
  have HC := Lib.hid hc
  have HF := Lib.hid hf
  clear hc hf
  generalize he : err t = er
  have HE := Lib.hid he
  clear he
  by_cases hw1 : win 1 60 t.days = true
  case' neg =>
    have hw0 : win 1 60 t.days = false := by simpa using hw1
    refine CallS.enter' Try.func38 rfl Try.ntmps38 (by simp) fun f hd hf => ?_
    have f0 := hf 0
    simp at f0
    clear hf
    have HW0 := Lib.hid hw0
    clear hw1 hw0
    repeat' (first|(with_reducible first|refine zA ?_|refine zB fun K hK=>?_|refine zC fun K2 hK2=>?_|refine zD ?_|refine zE ?_|refine zF ?_|refine zG ?_|refine zH ?_|refine zI ?_|refine zM ?_|refine zN ?_|refine zO ?_|refine zP ?_|refine zQ ?_|refine zR ?_)|((with_reducible refine zU (hK _ _ ?_));clear hK K)|((with_reducible refine zV ?_ ?_ fun K1 K3 d hdst h1 h3=>?_);rfl;exact yB rfl;cases hdst;go_simp)|((with_reducible refine zW fun K1 K3 h1 h3=>?_);go_simp)|((first|refine h1 ?_|refine h3 ?_);clear h1 h3 K1 K3)|((first|refine zX (fun hb=>h1 ?_) (fun hb=>h3 ?_)|refine zX (fun hb=>h3 ?_) (fun hb=>h1 ?_))<;>(clear h1 h3 K1 K3;(try have hb2:=yC hb);(try have hb2:=yD hb);(try have hb2:=yE hb);(try have hb2:=yF hb);(try have hb2:=yG hb)))|(refine fun (K2:_→AHeap→Prop) hK2=>?_)|((with_reducible refine zY ?_ ?_);decide)|((with_reducible first|refine zZ ?_ (fun K hK=>?_)|refine yA ?_ (fun K hK=>?_));(focus go_simp;done);go_simp;refine hK _ _ ?_;clear hK K)|(go_simp;(try go_bits);(try first | ((with_reducible show CallS _ _ _ _ _ _);refine CallS.mono within_s ?_; rw [HW0.out]; rintro _ _ ⟨rfl, rfl⟩));refine hK2 _ _ ?_;clear hK2 K2))
    refine ⟨?_, (Ext.refl _).push' _⟩
    rw [← HE.out]; simp [err, HW0.out]
  case' pos =>
    have HW1 := Lib.hid hw1
    have hcall := fun (loops : List (Nat × LInfo)) (H2 : AHeap) (lo hi : Int) (hx : Ext H H2) => isSpan_s (loops := loops) (lo := lo) (hi := hi) (HV.out.ext hx) hw1
    have hdays := fun (loops : List (Nat × LInfo)) (H2 : AHeap) (hx : Ext H H2) => areDays_s (loops := loops) (HV.out.ext hx) (HC.out.ext hx) hw1
    have HSP := Lib.hid hcall
    have HDS := Lib.hid hdays
    clear hw1 hcall hdays
    refine CallS.enter' Try.func38 rfl Try.ntmps38 (by simp) fun f hd hf => ?_
    have f0 := hf 0
    simp at f0
    clear hf
    repeat' (first|(with_reducible first|refine zA ?_|refine zB fun K hK=>?_|refine zC fun K2 hK2=>?_|refine zD ?_|refine zE ?_|refine zF ?_|refine zG ?_|refine zH ?_|refine zI ?_|refine zM ?_|refine zN ?_|refine zO ?_|refine zP ?_|refine zQ ?_|refine zR ?_)|((with_reducible refine zU (hK _ _ ?_));clear hK K)|((with_reducible refine zV ?_ ?_ fun K1 K3 d hdst h1 h3=>?_);rfl;exact yB rfl;cases hdst;go_simp)|((with_reducible refine zW fun K1 K3 h1 h3=>?_);go_simp)|((first|refine h1 ?_|refine h3 ?_);clear h1 h3 K1 K3)|((first|refine zX (fun hb=>h1 ?_) (fun hb=>h3 ?_)|refine zX (fun hb=>h3 ?_) (fun hb=>h1 ?_))<;>(clear h1 h3 K1 K3;(try have hb2:=yC hb);(try have hb2:=yD hb);(try have hb2:=yE hb);(try have hb2:=yF hb);(try have hb2:=yG hb)))|(refine fun (K2:_→AHeap→Prop) hK2=>?_)|((with_reducible refine zY ?_ ?_);decide)|((with_reducible first|refine zZ ?_ (fun K hK=>?_)|refine yA ?_ (fun K hK=>?_));(focus go_simp;done);go_simp;refine hK _ _ ?_;clear hK K)|(go_simp;(try go_bits);(try first |((with_reducible show CallS _ _ _ _ _ _);first|(refine CallS.mono within_s ?_; rw [HW1.out]; rintro _ _ ⟨rfl, rfl⟩)|(refine CallS.mono (HDS.out _ _ ((Ext.refl _).push' _)) ?_; rintro _ _ ⟨rfl, rfl⟩)));refine hK2 _ _ ?_;clear hK2 K2))
    · refine ⟨?_, (Ext.refl _).push' _⟩
      have hw : t.areDays t.closed = false := by simpa using hb
      rw [← HE.out]; simp [err, hw]
    · refine ⟨?_, (Ext.refl _).push' _⟩
      have hw : t.areDays t.closed = true := by simpa using ‹(!t.areDays t.closed) = false›
      rw [← HE.out]; simp [err, HW1.out, hw]; omega
    have hw : t.areDays t.closed = true := by simpa using ‹(!t.areDays t.closed) = false›
    have HE2 : Hid (errGo t [] t.flaws = er) := Lib.hid (by rw [← HE.out]; simp [err, HW1.out, hw]; omega)
    clear HE hb hb2 hw
    refine CodeS.loop (fun m f H' => ∃ (k : Nat), k ≤ t.flaws.length ∧ m = t.flaws.length - k ∧ f.tmp 25 = .int .i64 k ∧ f.tmp 24 = .int .i64 t.flaws.length ∧ f.tmp 23 = .slice fa t.flaws.length fc ∧ f.tmp 1 = .pointer (some ⟨H.n, 0, none⟩) ∧ f.tmp 3 = .map (some (H.n + 1)) ∧ f.defers = [] ∧ Hid (errGo t ((t.flaws.take k).map (·.id)) (t.flaws.drop k) = er) ∧ H.n + 1 < H'.n ∧ Ext H H' ∧ H'.get H.n = .row [.int .i64 t.days, Value.slice ca t.closed.length cc, Value.slice fa t.flaws.length fc] 25 ∧ MapIs H' (H.n + 1) (seenL (t.flaws.take k))) t.flaws.length ?_ ?_
    · refine ⟨0, by simp, by simp, (by first|go_simp<;>go_num|assumption), (by first|go_simp<;>go_num|assumption), (by first|go_simp<;>go_num|assumption), (by first|go_simp<;>go_num|assumption), (by first|go_simp<;>go_num|assumption), (by first|go_simp<;>go_num|assumption), Lib.hid (by simpa using HE2.out), ?_, ?_, ?_, ?_⟩
      · rw [AHeap.n_push, AHeap.n_push]; omega
      · exact ((Ext.refl _).push' _).push' _
      · rw [AHeap.get_push_old (by rw [AHeap.n_push]; omega), AHeap.get_push_new]
      · exact MapIs.new
    clear f0 hd HE2 f
    rintro m f H' ⟨k, hk, rfl, f25, f24, f23, f1, f3, hd, HG, hn, hx, hg, hm⟩
    have hc0 : cellAt H' H.n 0 = some (.int .i64 t.days) := by simp [cellAt, hg]
    have hc1 : cellAt H' H.n 1 = some (Value.slice ca t.closed.length cc) := by simp [cellAt, hg]
    have hc2 : cellAt H' H.n 2 = some (Value.slice fa t.flaws.length fc) := by simp [cellAt, hg]
    have hc3 : cellsAt H' H.n 0 3 = some [.int .i64 t.days, Value.slice ca t.closed.length cc, Value.slice fa t.flaws.length fc] := by simp [cellsAt, hg]
    have hn0 : H.n < H'.n := by omega
    have HX := Lib.hid hx
    have HM := Lib.hid hm
    have HGT := Lib.hid hg
    clear hx hm hg
    by_cases hlt : k < t.flaws.length
    · obtain ⟨b, o, sp, rfl, hb, hx4, -⟩ := (HF.out.ext HX.out).at_ hlt
      have HD := Lib.hid (List.drop_eq_getElem_cons hlt)
      have HT := Lib.hid (List.take_succ_eq_append_getElem hlt)
      generalize t.flaws[k] = a at hx4 HD HT
      obtain ⟨i, lo, hi, me⟩ := a
      simp only [Flaw.cells] at hx4
      have HLB := Lib.hid (look_bool (t.flaws.take k) i)
      repeat' (first|(with_reducible first|refine zA ?_|refine zB fun K hK=>?_|refine zC fun K2 hK2=>?_|refine zD ?_|refine zE ?_|refine zF ?_|refine zG ?_|refine zH ?_|refine zI ?_|refine zM ?_|refine zN ?_|refine zO ?_|refine zP ?_|refine zQ ?_|refine zR ?_)|((with_reducible refine zU (hK _ _ ?_));clear hK K)|((with_reducible refine zV ?_ ?_ fun K1 K3 d hdst h1 h3=>?_);rfl;exact yB rfl;cases hdst;go_simp)|((with_reducible refine zW fun K1 K3 h1 h3=>?_);go_simp)|((first|refine h1 ?_|refine h3 ?_);clear h1 h3 K1 K3)|((first|refine zX (fun hb=>h1 ?_) (fun hb=>h3 ?_)|refine zX (fun hb=>h3 ?_) (fun hb=>h1 ?_))<;>(clear h1 h3 K1 K3;(try have hb2:=yC hb);(try have hb2:=yD hb);(try have hb2:=yE hb);(try have hb2:=yF hb);(try have hb2:=yG hb)))|(refine fun (K2:_→AHeap→Prop) hK2=>?_)|((with_reducible refine zY ?_ ?_);decide)|((with_reducible first|refine zZ ?_ (fun K hK=>?_)|refine yA ?_ (fun K hK=>?_));(focus go_simp;done);go_simp;refine hK _ _ ?_;clear hK K)|(go_simp;(try go_bits);(try first |((with_reducible show CallS _ _ _ _ _ _);first|(refine CallS.mono within_s ?_; rintro _ _ ⟨rfl, rfl⟩)|(refine CallS.mono (HSP.out _ _ _ _ (HX.out.push' _)) ?_; rintro _ _ ⟨rfl, rfl⟩))|((refine look_k ma117 un3 ze4 (HM.out.ext hn ((Ext.refl _).push' _)) ?_); rw [HLB.out]; go_simp)|((refine update_k ma117 un3 (HM.out.ext hn (((Ext.refl _).push' _))) fun H2 hn2 hm2 hg2 => ?_); go_simp));refine hK2 _ _ ?_;clear hK2 K2))
      all_goals (try (
        refine ⟨?_, HX.out.push' _⟩
        have hr : Flaw.right t ⟨i, lo, hi, me⟩ = false := by simp_all [Flaw.right]
        rw [← HG.out, HD.out]; simp [errGo, hr]; done))
      · refine ⟨?_, HX.out.push' _⟩
        have hr : Flaw.right t ⟨i, lo, hi, me⟩ = true := by simp_all [Flaw.right]
        have hin : i ∈ (t.flaws.take k).map (·.id) := of_decide_eq_true (by rw [List.map_take]; exact hb)
        rw [← HG.out, HD.out, errGo, if_neg (by simp [hr]), if_pos hin]
      · have hr : Flaw.right t ⟨i, lo, hi, me⟩ = true := by simp_all [Flaw.right]
        have hin : i ∉ (t.flaws.take k).map (·.id) := of_decide_eq_false (by rw [List.map_take]; exact hb)
        have hp := put_seen (t.flaws.take k) ⟨i, lo, hi, me⟩ hin
        refine Post.round_normal ⟨t.flaws.length - (k + 1), by omega, k + 1, by omega, rfl, (by first|go_simp<;>go_num|assumption), (by first|go_simp<;>go_num|assumption), (by first|go_simp<;>go_num|assumption), (by first|go_simp<;>go_num|assumption), (by first|go_simp<;>go_num|assumption), (by first|go_simp<;>go_num|assumption), Lib.hid ?_, ?_, ?_, ?_, ?_⟩
        · rw [← HG.out, HD.out, HT.out, errGo, if_neg (by simp [hr]), if_neg hin]; simp
        · rw [hn2, AHeap.n_push]; omega
        · have hle := HX.out.n
          refine ⟨by rw [hn2, AHeap.n_push]; omega, fun j hj => ?_⟩
          rw [hg2 _ (by omega), AHeap.get_push_old (by omega), HX.out.get j hj]
        · rw [hg2 _ (by omega), AHeap.get_push_old (by omega)]; exact HGT.out
        · rw [hp] at hm2
          rw [HT.out]; exact hm2
    · repeat' (first|(with_reducible first|refine zA ?_|refine zB fun K hK=>?_|refine zC fun K2 hK2=>?_|refine zD ?_|refine zE ?_|refine zF ?_|refine zG ?_|refine zH ?_|refine zI ?_|refine zM ?_|refine zN ?_|refine zO ?_|refine zP ?_|refine zQ ?_|refine zR ?_)|((with_reducible refine zU (hK _ _ ?_));clear hK K)|((with_reducible refine zV ?_ ?_ fun K1 K3 d hdst h1 h3=>?_);rfl;exact yB rfl;cases hdst;go_simp)|((with_reducible refine zW fun K1 K3 h1 h3=>?_);go_simp)|((first|refine h1 ?_|refine h3 ?_);clear h1 h3 K1 K3)|((first|refine zX (fun hb=>h1 ?_) (fun hb=>h3 ?_)|refine zX (fun hb=>h3 ?_) (fun hb=>h1 ?_))<;>(clear h1 h3 K1 K3;(try have hb2:=yC hb);(try have hb2:=yD hb);(try have hb2:=yE hb);(try have hb2:=yF hb);(try have hb2:=yG hb)))|(refine fun (K2:_→AHeap→Prop) hK2=>?_)|((with_reducible refine zY ?_ ?_);decide)|((with_reducible first|refine zZ ?_ (fun K hK=>?_)|refine yA ?_ (fun K hK=>?_));(focus go_simp;done);go_simp;refine hK _ _ ?_;clear hK K)|(go_simp;(try go_bits);refine hK2 _ _ ?_;clear hK2 K2))
      refine ⟨?_, HX.out⟩
      rw [← HG.out, List.drop_eq_nil_of_le (by omega)]; rfl

theorem check_s {loops : List (Nat × LInfo)} {H : AHeap} {v : Value} {t : Tour} (hv : TourV H v t) : CallS Try.prog loops 38 [v] H fun r H' => r = .int .i64 (err t) ∧ H' = H :=
  (check_e hv).forget (R := fun v => v = .int .i64 (err t)) (by rintro v rfl; rfl)

def idxL : List Flaw → Nat → List (Int × Value)
  | [], _ => []
  | a :: l, k => (a.id, .int .i64 k) :: idxL l (k + 1)
def atOf (l : List Flaw) (x : Int) : Nat := l.findIdx (fun a => a.id == x)
theorem look_idx : ∀ (l : List Flaw) (k : Nat) (x : Int), (lookL (idxL l k) x).isSome = decide (x ∈ l.map (·.id)) ∧ (x ∈ l.map (·.id) → lookL (idxL l k) x = some (.int .i64 ((k + atOf l x : Nat) : Int)))
  | [], k, x => by simp [lookL, idxL]
  | a :: l, k, x => by
    have ih := look_idx l (k + 1) x
    simp only [lookL, idxL, List.map_cons, List.find?_cons, List.mem_cons] at *
    by_cases h : x = a.id
    · subst h
      simp [atOf, List.findIdx_cons]
    · have hb : (x == a.id) = false := by simpa using h
      have hb' : (a.id == x) = false := by simpa using fun e : a.id = x => h e.symm
      rw [hb]; simp only [h, false_or]
      refine ⟨ih.1, fun hm => ?_⟩
      rw [ih.2 hm, atOf, atOf, List.findIdx_cons, hb']
      simp; omega
theorem put_idx : ∀ (l : List Flaw) (k : Nat) (a : Flaw), a.id ∉ l.map (·.id) → putL (idxL l k) a.id (.int .i64 ((k + l.length : Nat) : Int)) = idxL (l ++ [a]) k
  | [], k, a, _ => rfl
  | x :: l, k, a, h => by
    simp only [List.map_cons, List.mem_cons, not_or] at h
    have := put_idx l (k + 1) a h.2
    simp only [idxL, List.cons_append, putL, List.length_cons] at *
    rw [if_neg (by simpa using h.1), show k + (l.length + 1) = k + 1 + l.length by omega, this]

theorem errGo_ids (t : Tour) : ∀ (l : List Flaw) (seen : List Int), errGo t seen l = 0 → (l.map (·.id)).Nodup ∧ (∀ a ∈ l, a.right t = true) ∧ ∀ a ∈ l, a.id ∉ seen
  | [], _, _ => ⟨List.nodup_nil, by simp, by simp⟩
  | a :: l, seen, h => by
    rw [errGo] at h
    split at h
    · cases h
    · rename_i hr
      split at h
      · cases h
      · rename_i hs
        obtain ⟨h1, h2, h3⟩ := errGo_ids t l _ h
        refine ⟨?_, ?_, ?_⟩
        · rw [List.map_cons, List.nodup_cons]
          refine ⟨fun hm => ?_, h1⟩
          obtain ⟨b, hb, he⟩ := List.mem_map.1 hm
          exact h3 b hb (by rw [he]; simp)
        · intro b hb
          rcases List.mem_cons.1 hb with rfl | hb
          · simpa using hr
          · exact h2 b hb
        · intro b hb
          rcases List.mem_cons.1 hb with rfl | hb
          · exact hs
          · exact fun hm => h3 b hb (by simp [hm])

structure Good (t : Tour) : Prop where
  days : win 1 60 t.days = true
  closed : t.areDays t.closed = true
  few : t.flaws.length ≤ 40
  nodup : (t.flaws.map (·.id)).Nodup
  right : ∀ a ∈ t.flaws, a.right t = true
theorem good_of {t : Tour} (h : err t = 0) : Good t := by
  unfold err at h
  split at h
  · cases h
  · rename_i h1
    simp only [not_or, Bool.not_eq_false] at h1
    split at h
    · cases h
    · rename_i h2
      obtain ⟨h3, h4, -⟩ := errGo_ids t _ _ h
      exact ⟨h1.1, h1.2, by omega, h3, h4⟩

set_option maxHeartbeats 2000000 in
theorem indices_e {loops : List (Nat × LInfo)} {H : AHeap} {v : Value} {t : Tour} (hv : TourV H v t) (hnd : (t.flaws.map (·.id)).Nodup) : CallS Try.prog loops 64 [v] H fun r H' => r = .map (some (H.n + 1)) ∧ Ext H H' ∧ H.n + 1 < H'.n ∧ MapIs H' (H.n + 1) (idxL t.flaws 0) := by
  obtain ⟨cv, fv, rfl, hc, hf⟩ := hv
  obtain ⟨hcl, ca, cc, rfl⟩ := hc.slice
  obtain ⟨hfl, fa, fc, rfl⟩ := hf.slice
  have HF := Lib.hid hf
  have HND := Lib.hid hnd
  clear hc hf hnd
  refine CallS.enter' Try.func64 rfl Try.ntmps64 (by simp) fun f hd hf => ?_
  have f0 := hf 0
  simp at f0
  clear hf
  repeat' (first|(with_reducible first|refine zA ?_|refine zB fun K hK=>?_|refine zC fun K2 hK2=>?_|refine zD ?_|refine zE ?_|refine zF ?_|refine zG ?_|refine zH ?_|refine zI ?_|refine zM ?_|refine zN ?_|refine zO ?_|refine zP ?_|refine zQ ?_|refine zR ?_)|((with_reducible refine zU (hK _ _ ?_));clear hK K)|((with_reducible refine zV ?_ ?_ fun K1 K3 d hdst h1 h3=>?_);rfl;exact yB rfl;cases hdst;go_simp)|((with_reducible refine zW fun K1 K3 h1 h3=>?_);go_simp)|((first|refine h1 ?_|refine h3 ?_);clear h1 h3 K1 K3)|((first|refine zX (fun hb=>h1 ?_) (fun hb=>h3 ?_)|refine zX (fun hb=>h3 ?_) (fun hb=>h1 ?_))<;>(clear h1 h3 K1 K3;(try have hb2:=yC hb);(try have hb2:=yD hb);(try have hb2:=yE hb);(try have hb2:=yF hb);(try have hb2:=yG hb)))|(refine fun (K2:_→AHeap→Prop) hK2=>?_)|((with_reducible refine zY ?_ ?_);decide)|((with_reducible first|refine zZ ?_ (fun K hK=>?_)|refine yA ?_ (fun K hK=>?_));(focus go_simp;done);go_simp;refine hK _ _ ?_;clear hK K)|(go_simp;(try go_bits);refine hK2 _ _ ?_;clear hK2 K2))
  refine CodeS.loop (fun m f H' => ∃ (k : Nat), k ≤ t.flaws.length ∧ m = t.flaws.length - k ∧ f.tmp 10 = .int .i64 k ∧ f.tmp 9 = .int .i64 t.flaws.length ∧ f.tmp 8 = .slice fa t.flaws.length fc ∧ f.tmp 3 = .map (some (H.n + 1)) ∧ f.defers = [] ∧ H.n + 1 < H'.n ∧ Ext H H' ∧ MapIs H' (H.n + 1) (idxL (t.flaws.take k) 0)) t.flaws.length ?_ ?_
  · refine ⟨0, by simp, by simp, (by first|go_simp<;>go_num|assumption), (by first|go_simp<;>go_num|assumption), (by first|go_simp<;>go_num|assumption), (by first|go_simp<;>go_num|assumption), (by first|go_simp<;>go_num|assumption), ?_, ?_, ?_⟩
    · rw [AHeap.n_push, AHeap.n_push]; omega
    · exact ((Ext.refl _).push' _).push' _
    · exact MapIs.new
  clear f0 hd f
  rintro m f H' ⟨k, hk, rfl, f10, f9, f8, f3, hd, hn, hx, hm⟩
  have HX := Lib.hid hx
  have HM := Lib.hid hm
  clear hx hm
  by_cases hlt : k < t.flaws.length
  · obtain ⟨b, o, sp, rfl, hb, hx4, -⟩ := (HF.out.ext HX.out).at_ hlt
    have HT := Lib.hid (List.take_succ_eq_append_getElem hlt)
    have hnew : (t.flaws[k]).id ∉ (t.flaws.take k).map (·.id) := by
      intro hm
      rw [List.map_take] at hm
      obtain ⟨j, hj, he⟩ := List.mem_take_iff_getElem.1 hm
      have h2 := (List.getElem_inj (i := j) (j := k) (h₀ := by simp at hj ⊢; omega) (h₁ := by simpa using hlt) HND.out).1 (by rw [he]; simp)
      simp at hj; omega
    generalize t.flaws[k] = a at hx4 HT hnew
    obtain ⟨i, lo, hi, me⟩ := a
    have HP := Lib.hid (put_idx (t.flaws.take k) 0 ⟨i, lo, hi, me⟩ hnew)
    clear hnew
    rw [List.length_take, Nat.min_eq_left hk] at HP
    simp only [Flaw.cells] at hx4
    repeat' (first|(with_reducible first|refine zA ?_|refine zB fun K hK=>?_|refine zC fun K2 hK2=>?_|refine zD ?_|refine zE ?_|refine zF ?_|refine zG ?_|refine zH ?_|refine zI ?_|refine zM ?_|refine zN ?_|refine zO ?_|refine zP ?_|refine zQ ?_|refine zR ?_)|((with_reducible refine zU (hK _ _ ?_));clear hK K)|((with_reducible refine zV ?_ ?_ fun K1 K3 d hdst h1 h3=>?_);rfl;exact yB rfl;cases hdst;go_simp)|((with_reducible refine zW fun K1 K3 h1 h3=>?_);go_simp)|((first|refine h1 ?_|refine h3 ?_);clear h1 h3 K1 K3)|((first|refine zX (fun hb=>h1 ?_) (fun hb=>h3 ?_)|refine zX (fun hb=>h3 ?_) (fun hb=>h1 ?_))<;>(clear h1 h3 K1 K3;(try have hb2:=yC hb);(try have hb2:=yD hb);(try have hb2:=yE hb);(try have hb2:=yF hb);(try have hb2:=yG hb)))|(refine fun (K2:_→AHeap→Prop) hK2=>?_)|((with_reducible refine zY ?_ ?_);decide)|((with_reducible first|refine zZ ?_ (fun K hK=>?_)|refine yA ?_ (fun K hK=>?_));(focus go_simp;done);go_simp;refine hK _ _ ?_;clear hK K)|(go_simp;(try go_bits);(try first | ((refine update_k ma110 un3 (HM.out.ext hn (((Ext.refl _).push' _))) fun H2 hn2 hm2 hg2 => ?_); go_simp));refine hK2 _ _ ?_;clear hK2 K2))
    refine Post.round_normal ⟨t.flaws.length - (k + 1), by omega, k + 1, by omega, rfl, (by first|go_simp<;>go_num|assumption), (by first|go_simp<;>go_num|assumption), (by first|go_simp<;>go_num|assumption), (by first|go_simp<;>go_num|assumption), (by first|go_simp<;>go_num|assumption), ?_, ?_, ?_⟩
    · rw [hn2, AHeap.n_push]; omega
    · have hle := HX.out.n
      refine ⟨by rw [hn2, AHeap.n_push]; omega, fun j hj => ?_⟩
      rw [hg2 _ (by omega), AHeap.get_push_old (by omega), HX.out.get j hj]
    · have hp := HP.out
      rw [Nat.zero_add] at hp
      rw [HT.out, ← hp]; exact hm2
  · have hkk : k = t.flaws.length := by omega
    have hm := HM.out
    rw [hkk, List.take_length] at hm
    have HM2 := Lib.hid hm
    clear hm HM hkk
    repeat' (first|(with_reducible first|refine zA ?_|refine zB fun K hK=>?_|refine zC fun K2 hK2=>?_|refine zD ?_|refine zE ?_|refine zF ?_|refine zG ?_|refine zH ?_|refine zI ?_|refine zM ?_|refine zN ?_|refine zO ?_|refine zP ?_|refine zQ ?_|refine zR ?_)|((with_reducible refine zU (hK _ _ ?_));clear hK K)|((with_reducible refine zV ?_ ?_ fun K1 K3 d hdst h1 h3=>?_);rfl;exact yB rfl;cases hdst;go_simp)|((with_reducible refine zW fun K1 K3 h1 h3=>?_);go_simp)|((first|refine h1 ?_|refine h3 ?_);clear h1 h3 K1 K3)|((first|refine zX (fun hb=>h1 ?_) (fun hb=>h3 ?_)|refine zX (fun hb=>h3 ?_) (fun hb=>h1 ?_))<;>(clear h1 h3 K1 K3;(try have hb2:=yC hb);(try have hb2:=yD hb);(try have hb2:=yE hb);(try have hb2:=yF hb);(try have hb2:=yG hb)))|(refine fun (K2:_→AHeap→Prop) hK2=>?_)|((with_reducible refine zY ?_ ?_);decide)|((with_reducible first|refine zZ ?_ (fun K hK=>?_)|refine yA ?_ (fun K hK=>?_));(focus go_simp;done);go_simp;refine hK _ _ ?_;clear hK K)|(go_simp;(try go_bits);refine hK2 _ _ ?_;clear hK2 K2))
    exact ⟨rfl, HX.out, hn, HM2.out⟩
end Go.Proofs.Try
namespace Go.Proofs.Try
open Go Go.Am Go.RowKit
set_option maxRecDepth 100000


theorem notIn_s {loops : List (Nat × LInfo)} {H : AHeap} {p r : Nat} {l : List Flaw} {x : Int} (hp : cellAt H p 0 = some (.map (some r))) (hr : r < H.n) (hm : MapIs H r (idxL l 0)) : CallS Try.prog loops 97 [.int .i64 x, .pointer (some ⟨p, 0, none⟩)] H fun v H' => v = .bool (!decide (x ∈ l.map (·.id))) ∧ H' = H := by
  have HM := Lib.hid hm
  have HL := Lib.hid (look_idx l 0 x).1
  clear hm
  refine CallS.enter' Try.func97 rfl Try.ntmps97 (by simp) fun f hd hf => ?_
  have f0 := hf 0
  have f1 := hf 1
  simp at f0 f1
  clear hf
  generalize decide (x ∈ l.map (·.id)) = dd at HL ⊢
  repeat' (first|(with_reducible first|refine zA ?_|refine zB fun K hK=>?_|refine zC fun K2 hK2=>?_|refine zD ?_|refine zE ?_|refine zF ?_|refine zG ?_|refine zH ?_|refine zI ?_|refine zM ?_|refine zN ?_|refine zO ?_|refine zP ?_|refine zQ ?_|refine zR ?_)|((with_reducible refine zU (hK _ _ ?_));clear hK K)|((with_reducible refine zV ?_ ?_ fun K1 K3 d hdst h1 h3=>?_);rfl;exact yB rfl;cases hdst;go_simp)|((with_reducible refine zW fun K1 K3 h1 h3=>?_);go_simp)|((first|refine h1 ?_|refine h3 ?_);clear h1 h3 K1 K3)|((first|refine zX (fun hb=>h1 ?_) (fun hb=>h3 ?_)|refine zX (fun hb=>h3 ?_) (fun hb=>h1 ?_))<;>(clear h1 h3 K1 K3;(try have hb2:=yC hb);(try have hb2:=yD hb);(try have hb2:=yE hb);(try have hb2:=yF hb);(try have hb2:=yG hb)))|(refine fun (K2:_→AHeap→Prop) hK2=>?_)|((with_reducible refine zY ?_ ?_);decide)|((with_reducible first|refine zZ ?_ (fun K hK=>?_)|refine yA ?_ (fun K hK=>?_));(focus go_simp;done);go_simp;refine hK _ _ ?_;clear hK K)|(go_simp;(try go_bits);(try first | ((refine look_k ma110 un3 ze3 HM.out ?_); rw [HL.out]; go_simp));refine hK2 _ _ ?_;clear hK2 K2))
  exact ⟨rfl, rfl⟩

def idxIf (g : Int → Bool) : List Int → Nat → Int
  | [], _ => -1
  | y :: t, k => if g y = true then k else idxIf g t (k + 1)
theorem idxIf_pos (g : Int → Bool) : ∀ (l : List Int) (k : Nat), decide (0 ≤ idxIf g l k) = l.any g
  | [], k => by simp [idxIf]
  | y :: t, k => by
    rw [idxIf]
    by_cases h : g y = true
    · rw [if_pos h]; simp [h]
    · rw [if_neg h, idxIf_pos g t (k + 1)]; simp [h]

theorem indexFunc_s {loops : List (Nat × LInfo)} {H : AHeap} {v : Value} {xs : List Int} {g : Int → Bool} {p : Nat} (hv : Ints H v xs) (hg : ∀ x, CallS Try.prog loops 97 [.int .i64 x, .pointer (some ⟨p, 0, none⟩)] H fun v H' => v = .bool (g x) ∧ H' = H) :
    CallS Try.prog loops 110 [v, .func (.func 97) #[] #[.pointer (some ⟨p, 0, none⟩)]] H fun r H' => r = .int .i64 (idxIf g xs 0) ∧ H' = H := by
  obtain ⟨hlen, a, c, rfl⟩ := hv.slice
  have HV := Lib.hid hv
  have HGG := Lib.hid hg
  clear hv hg
  refine CallS.enter' Try.func110 rfl Try.ntmps110 (by simp) fun f hd hf => ?_
  have f0 := hf 0
  have f1 := hf 1
  simp at f0 f1
  clear hf
  repeat' (first|(with_reducible first|refine zA ?_|refine zB fun K hK=>?_|refine zC fun K2 hK2=>?_|refine zD ?_|refine zE ?_|refine zF ?_|refine zG ?_|refine zH ?_|refine zI ?_|refine zM ?_|refine zN ?_|refine zO ?_|refine zP ?_|refine zQ ?_|refine zR ?_)|((with_reducible refine zU (hK _ _ ?_));clear hK K)|((with_reducible refine zV ?_ ?_ fun K1 K3 d hdst h1 h3=>?_);rfl;exact yB rfl;cases hdst;go_simp)|((with_reducible refine zW fun K1 K3 h1 h3=>?_);go_simp)|((first|refine h1 ?_|refine h3 ?_);clear h1 h3 K1 K3)|((first|refine zX (fun hb=>h1 ?_) (fun hb=>h3 ?_)|refine zX (fun hb=>h3 ?_) (fun hb=>h1 ?_))<;>(clear h1 h3 K1 K3;(try have hb2:=yC hb);(try have hb2:=yD hb);(try have hb2:=yE hb);(try have hb2:=yF hb);(try have hb2:=yG hb)))|(refine fun (K2:_→AHeap→Prop) hK2=>?_)|((with_reducible refine zY ?_ ?_);decide)|((with_reducible first|refine zZ ?_ (fun K hK=>?_)|refine yA ?_ (fun K hK=>?_));(focus go_simp;done);go_simp;refine hK _ _ ?_;clear hK K)|(go_simp;(try go_bits);refine hK2 _ _ ?_;clear hK2 K2))
  refine CodeS.loop (fun m f H' => ∃ k : Nat, k ≤ xs.length ∧ m = xs.length - k ∧ f.tmp 8 = .int .i64 k ∧ f.tmp 0 = .slice a xs.length c ∧ f.tmp 7 = .int .i64 xs.length ∧ f.tmp 1 = .func (.func 97) #[] #[.pointer (some ⟨p, 0, none⟩)] ∧ f.defers = [] ∧ Hid (idxIf g (xs.drop k) k = idxIf g xs 0) ∧ H' = H) xs.length ?_ ?_
  · exact ⟨0, by simp, by simp, (by first|go_simp<;>go_num|assumption), (by first|go_simp<;>go_num|assumption), (by first|go_simp<;>go_num|assumption), (by first|go_simp<;>go_num|assumption), (by first|go_simp<;>go_num|assumption), Lib.hid (by simp), rfl⟩
  clear f0 f1 hd f
  rintro m f H' ⟨k, hk, rfl, f8, f0, f7, f1, hd, HG, rfl⟩
  by_cases hlt : k < xs.length
  · obtain ⟨b, o, sp, rfl, hb, hx⟩ := HV.out.at_ hlt
    have HD := Lib.hid (List.drop_eq_getElem_cons hlt)
    generalize xs[k] = y at hx HD
    repeat' (first|(with_reducible first|refine zA ?_|refine zB fun K hK=>?_|refine zC fun K2 hK2=>?_|refine zD ?_|refine zE ?_|refine zF ?_|refine zG ?_|refine zH ?_|refine zI ?_|refine zM ?_|refine zN ?_|refine zO ?_|refine zP ?_|refine zQ ?_|refine zR ?_)|((with_reducible refine zU (hK _ _ ?_));clear hK K)|((with_reducible refine zV ?_ ?_ fun K1 K3 d hdst h1 h3=>?_);rfl;exact yB rfl;cases hdst;go_simp)|((with_reducible refine zW fun K1 K3 h1 h3=>?_);go_simp)|((first|refine h1 ?_|refine h3 ?_);clear h1 h3 K1 K3)|((first|refine zX (fun hb=>h1 ?_) (fun hb=>h3 ?_)|refine zX (fun hb=>h3 ?_) (fun hb=>h1 ?_))<;>(clear h1 h3 K1 K3;(try have hb2:=yC hb);(try have hb2:=yD hb);(try have hb2:=yE hb);(try have hb2:=yF hb);(try have hb2:=yG hb)))|(refine fun (K2:_→AHeap→Prop) hK2=>?_)|((with_reducible refine zY ?_ ?_);decide)|((with_reducible first|refine zZ ?_ (fun K hK=>?_)|refine yA ?_ (fun K hK=>?_));(focus go_simp;done);go_simp;refine hK _ _ ?_;clear hK K)|(go_simp;(try go_bits);(try first | ((with_reducible show CallS _ _ _ _ _ _);refine CallS.mono (HGG.out y) ?_; rintro _ _ ⟨rfl, rfl⟩));refine hK2 _ _ ?_;clear hK2 K2))
    · refine ⟨?_, rfl⟩
      have hw : g y = true := by simpa using hb
      rw [← HG.out, HD.out]; simp [idxIf, hw]
    · have hw : ¬ g y = true := by simpa using hb
      refine Post.round_normal ⟨xs.length - (k + 1), by omega, k + 1, by omega, rfl, (by first|go_simp<;>go_num|assumption), (by first|go_simp<;>go_num|assumption), (by first|go_simp<;>go_num|assumption), (by first|go_simp<;>go_num|assumption), (by first|go_simp<;>go_num|assumption), Lib.hid ?_, rfl⟩
      rw [← HG.out, HD.out]; simp [idxIf, hw]
  · repeat' (first|(with_reducible first|refine zA ?_|refine zB fun K hK=>?_|refine zC fun K2 hK2=>?_|refine zD ?_|refine zE ?_|refine zF ?_|refine zG ?_|refine zH ?_|refine zI ?_|refine zM ?_|refine zN ?_|refine zO ?_|refine zP ?_|refine zQ ?_|refine zR ?_)|((with_reducible refine zU (hK _ _ ?_));clear hK K)|((with_reducible refine zV ?_ ?_ fun K1 K3 d hdst h1 h3=>?_);rfl;exact yB rfl;cases hdst;go_simp)|((with_reducible refine zW fun K1 K3 h1 h3=>?_);go_simp)|((first|refine h1 ?_|refine h3 ?_);clear h1 h3 K1 K3)|((first|refine zX (fun hb=>h1 ?_) (fun hb=>h3 ?_)|refine zX (fun hb=>h3 ?_) (fun hb=>h1 ?_))<;>(clear h1 h3 K1 K3;(try have hb2:=yC hb);(try have hb2:=yD hb);(try have hb2:=yE hb);(try have hb2:=yF hb);(try have hb2:=yG hb)))|(refine fun (K2:_→AHeap→Prop) hK2=>?_)|((with_reducible refine zY ?_ ?_);decide)|((with_reducible first|refine zZ ?_ (fun K hK=>?_)|refine yA ?_ (fun K hK=>?_));(focus go_simp;done);go_simp;refine hK _ _ ?_;clear hK K)|(go_simp;(try go_bits);refine hK2 _ _ ?_;clear hK2 K2))
    refine ⟨?_, rfl⟩
    rw [← HG.out, List.drop_eq_nil_of_le (by omega)]; rfl

theorem containsFunc_s {loops : List (Nat × LInfo)} {H : AHeap} {v : Value} {xs : List Int} {g : Int → Bool} {p : Nat} (hv : Ints H v xs) (hg : ∀ (loops : List (Nat × LInfo)) x, CallS Try.prog loops 97 [.int .i64 x, .pointer (some ⟨p, 0, none⟩)] H fun v H' => v = .bool (g x) ∧ H' = H) :
    CallS Try.prog loops 96 [v, .func (.func 97) #[] #[.pointer (some ⟨p, 0, none⟩)]] H fun r H' => r = .bool (xs.any g) ∧ H' = H := by
  have HV := Lib.hid hv
  have HGG := Lib.hid hg
  rw [← idxIf_pos g xs 0]
  generalize hi : idxIf g xs 0 = i
  have HI := Lib.hid hi
  clear hv hg hi
  refine CallS.enter' Try.func96 rfl Try.ntmps96 (by simp) fun f hd hf => ?_
  have f0 := hf 0
  have f1 := hf 1
  simp at f0 f1
  clear hf
  repeat' (first|(with_reducible first|refine zA ?_|refine zB fun K hK=>?_|refine zC fun K2 hK2=>?_|refine zD ?_|refine zE ?_|refine zF ?_|refine zG ?_|refine zH ?_|refine zI ?_|refine zM ?_|refine zN ?_|refine zO ?_|refine zP ?_|refine zQ ?_|refine zR ?_)|((with_reducible refine zU (hK _ _ ?_));clear hK K)|((with_reducible refine zV ?_ ?_ fun K1 K3 d hdst h1 h3=>?_);rfl;exact yB rfl;cases hdst;go_simp)|((with_reducible refine zW fun K1 K3 h1 h3=>?_);go_simp)|((first|refine h1 ?_|refine h3 ?_);clear h1 h3 K1 K3)|((first|refine zX (fun hb=>h1 ?_) (fun hb=>h3 ?_)|refine zX (fun hb=>h3 ?_) (fun hb=>h1 ?_))<;>(clear h1 h3 K1 K3;(try have hb2:=yC hb);(try have hb2:=yD hb);(try have hb2:=yE hb);(try have hb2:=yF hb);(try have hb2:=yG hb)))|(refine fun (K2:_→AHeap→Prop) hK2=>?_)|((with_reducible refine zY ?_ ?_);decide)|((with_reducible first|refine zZ ?_ (fun K hK=>?_)|refine yA ?_ (fun K hK=>?_));(focus go_simp;done);go_simp;refine hK _ _ ?_;clear hK K)|(go_simp;(try go_bits);(try first | ((with_reducible show CallS _ _ _ _ _ _);refine CallS.mono (indexFunc_s HV.out (HGG.out _)) ?_; rw [HI.out]; rintro _ _ ⟨rfl, rfl⟩));refine hK2 _ _ ?_;clear hK2 K2))
  exact ⟨rfl, rfl⟩

def Tour.listed (t : Tour) (ids : List Int) : Bool := incr ids && ids.all (fun x => decide (x ∈ t.flaws.map (·.id)))

theorem areFlaws_s {loops : List (Nat × LInfo)} {H : AHeap} {v lv : Value} {t : Tour} {ids : List Int} (hv : TourV H v t) (hl : Ints H lv ids) (hnd : (t.flaws.map (·.id)).Nodup) : CallS Try.prog loops 81 [v, lv] H fun r H' => r = .bool (t.listed ids) ∧ H' = H := by
  refine CallS.forget (R := fun r => r = .bool (t.listed ids)) (by rintro v rfl; rfl) ?_
  have HV := Lib.hid hv
  have HL := Lib.hid hl
  have HND := Lib.hid hnd
  obtain ⟨cv, fv, rfl, hc, hf⟩ := hv
  obtain ⟨hcl, ca, cc, rfl⟩ := hc.slice
  obtain ⟨hfl, fa, fc, rfl⟩ := hf.slice
  obtain ⟨hll, la, lc, rfl⟩ := hl.slice
  have hany : (ids.all fun x => decide (x ∈ t.flaws.map (·.id))) = !ids.any fun x => !decide (x ∈ t.flaws.map (·.id)) := by rw [List.all_eq_not_any_not]
  unfold Tour.listed
  rw [hany]
  have hinc := fun (loops : List (Nat × LInfo)) (H2 : AHeap) (hx : Ext H H2) => incr_s (loops := loops) (HL.out.ext hx)
  generalize incr ids = ic at hinc ⊢
  have HI := Lib.hid hinc
  clear hc hf hl hinc hany hnd
  refine CallS.enter' Try.func81 rfl Try.ntmps81 (by simp) fun f hd hf => ?_
  have f0 := hf 0
  have f1 := hf 1
  simp at f0 f1
  clear hf
  repeat' (first|(with_reducible first|refine zA ?_|refine zB fun K hK=>?_|refine zC fun K2 hK2=>?_|refine zD ?_|refine zE ?_|refine zF ?_|refine zG ?_|refine zH ?_|refine zI ?_|refine zM ?_|refine zN ?_|refine zO ?_|refine zP ?_|refine zQ ?_|refine zR ?_)|((with_reducible refine zU (hK _ _ ?_));clear hK K)|((with_reducible refine zV ?_ ?_ fun K1 K3 d hdst h1 h3=>?_);rfl;exact yB rfl;cases hdst;go_simp)|((with_reducible refine zW fun K1 K3 h1 h3=>?_);go_simp)|((first|refine h1 ?_|refine h3 ?_);clear h1 h3 K1 K3)|((first|refine zX (fun hb=>h1 ?_) (fun hb=>h3 ?_)|refine zX (fun hb=>h3 ?_) (fun hb=>h1 ?_))<;>(clear h1 h3 K1 K3;(try have hb2:=yC hb);(try have hb2:=yD hb);(try have hb2:=yE hb);(try have hb2:=yF hb);(try have hb2:=yG hb)))|(refine fun (K2:_→AHeap→Prop) hK2=>?_)|((with_reducible refine zY ?_ ?_);decide)|((with_reducible first|refine zZ ?_ (fun K hK=>?_)|refine yA ?_ (fun K hK=>?_));(focus go_simp;done);go_simp;refine hK _ _ ?_;clear hK K)|(go_simp;(try go_bits);(try first |((with_reducible show CallS _ _ _ _ _ _);first|(refine CallS.mono (indices_e (HV.out.ext ((Ext.refl _).push' _)) HND.out) ?_; rintro _ H2 ⟨rfl, hx2, hn2, hm2⟩; rw [AHeap.n_push] at hn2 hm2)|(refine CallS.mono (HI.out _ _ ((((Ext.refl _).push' _).trans hx2).push' _)) ?_; rintro _ _ ⟨rfl, rfl⟩)|(refine CallS.mono (containsFunc_s (HL.out.ext ((((Ext.refl _).push' _).trans hx2).push' _)) (fun _ _ => notIn_s (by rw [cellAt_new]; rfl) (by rw [AHeap.n_push]; omega) (hm2.ext hn2 (Ext.push _)))) ?_; rintro _ _ ⟨rfl, rfl⟩)));refine hK2 _ _ ?_;clear hK2 K2))
  all_goals (refine ⟨?_, (((Ext.refl _).push' _).trans hx2).push' _⟩; simp_all)

def errList (t : Tour) (ids : List Int) : Int := if err t ≠ 0 then err t else if t.listed ids then 0 else 1

theorem checkList_s {loops : List (Nat × LInfo)} {H : AHeap} {v lv : Value} {t : Tour} {ids : List Int} (hv : TourV H v t) (hl : Ints H lv ids) : CallS Try.prog loops 50 [v, lv] H fun r H' => r = .int .i64 (errList t ids) ∧ H' = H := by
  refine CallS.forget (R := fun r => r = .int .i64 (errList t ids)) (by rintro v rfl; rfl) ?_
  have HV := Lib.hid hv
  have HL := Lib.hid hl
  have hcl := fun (loops : List (Nat × LInfo)) (H2 : AHeap) (h : err t = 0) (hx : Ext H H2) => areFlaws_s (loops := loops) (HV.out.ext hx) (HL.out.ext hx) (good_of h).nodup
  have hce := fun (loops : List (Nat × LInfo)) (H2 : AHeap) (hx : Ext H H2) => check_s (loops := loops) (HV.out.ext hx)
  obtain ⟨cv, fv, rfl, hc, hf⟩ := hv
  obtain ⟨hcl', ca, cc, rfl⟩ := hc.slice
  obtain ⟨hfl, fa, fc, rfl⟩ := hf.slice
  obtain ⟨hll, la, lc, rfl⟩ := hl.slice
  unfold errList
  generalize t.listed ids = li at hcl ⊢
  generalize err t = er at hcl hce ⊢
  have HA := Lib.hid hcl
  have HC := Lib.hid hce
  clear hc hf hl hcl hce
  refine CallS.enter' Try.func50 rfl Try.ntmps50 (by simp) fun f hd hf => ?_
  have f0 := hf 0
  have f1 := hf 1
  simp at f0 f1
  clear hf
  repeat' (first|(with_reducible first|refine zA ?_|refine zB fun K hK=>?_|refine zC fun K2 hK2=>?_|refine zD ?_|refine zE ?_|refine zF ?_|refine zG ?_|refine zH ?_|refine zI ?_|refine zM ?_|refine zN ?_|refine zO ?_|refine zP ?_|refine zQ ?_|refine zR ?_)|((with_reducible refine zU (hK _ _ ?_));clear hK K)|((with_reducible refine zV ?_ ?_ fun K1 K3 d hdst h1 h3=>?_);rfl;exact yB rfl;cases hdst;go_simp)|((with_reducible refine zW fun K1 K3 h1 h3=>?_);go_simp)|((first|refine h1 ?_|refine h3 ?_);clear h1 h3 K1 K3)|((first|refine zX (fun hb=>h1 ?_) (fun hb=>h3 ?_)|refine zX (fun hb=>h3 ?_) (fun hb=>h1 ?_))<;>(clear h1 h3 K1 K3;(try have hb2:=yC hb);(try have hb2:=yD hb);(try have hb2:=yE hb);(try have hb2:=yF hb);(try have hb2:=yG hb)))|(refine fun (K2:_→AHeap→Prop) hK2=>?_)|((with_reducible refine zY ?_ ?_);decide)|((with_reducible first|refine zZ ?_ (fun K hK=>?_)|refine yA ?_ (fun K hK=>?_));(focus go_simp;done);go_simp;refine hK _ _ ?_;clear hK K)|(go_simp;(try go_bits);(try first |((with_reducible show CallS _ _ _ _ _ _);first|(refine CallS.mono (HC.out _ _ ((Ext.refl _).push' _)) ?_; rintro _ _ ⟨rfl, rfl⟩)|(refine CallS.mono (HA.out _ _ (by simpa using ‹(er != 0) = false›) ((Ext.refl _).push' _)) ?_; rintro _ _ ⟨rfl, rfl⟩)));refine hK2 _ _ ?_;clear hK2 K2))
  all_goals (refine ⟨?_, (Ext.refl _).push' _⟩; simp_all)
end Go.Proofs.Try
namespace Go.Proofs.Try
open Go Go.Am Go.RowKit
set_option maxRecDepth 100000


def planCells (fv : Value) (D : Nat → Int) : List Value := fv :: (List.range 120).map fun i => Value.int .i64 (D i)
def putD (D : Nat → Int) (k : Nat) (v : Int) : Nat → Int := fun i => if i = k then v else D i
variable {fv gv : Value} {D E : Nat → Int}
@[go_sem] theorem planCells_length : (planCells fv D).length = 121 := by simp [planCells]
@[go_sem] theorem planCells_take : (planCells fv D).take 121 = planCells fv D := List.take_of_length_le (by rw [planCells_length]; exact Nat.le_refl _)
theorem range_one : ∀ (l : List Nat) (D : Nat → Int), (l.map fun i => Value.int .i64 (D i)).all oneV = true
  | [], _ => rfl
  | x :: l, D => by simp only [List.map_cons, List.all_cons, range_one l D]; rfl
@[go_sem] theorem planCells_one {a : Option Addr} {n c : Nat} : (planCells (.slice a n c) D).all oneV = true := by
  rw [planCells, List.all_cons, range_one]; rfl
@[go_sem] theorem planCells_get {k : Nat} (h : k < 120) : (planCells fv D)[1 + k]? = some (.int .i64 (D k)) := by
  rw [Nat.add_comm]
  simp [planCells, h]
@[go_sem] theorem planCells_get0 : (planCells fv D)[0]? = some fv := rfl
@[go_sem] theorem setL_plan {k : Nat} {v : Int} (h : k < 120) : setL (planCells fv D) (1 + k) [Value.int .i64 v] = some (planCells fv (putD D k v)) := by
  rw [Nat.add_comm, planCells, setL_succ_cons, setL_one (by simpa using h)]
  simp only [Option.map_some, planCells, Option.some.injEq, List.cons.injEq, true_and]
  apply List.ext_getElem?
  intro i
  rw [List.getElem?_set]
  by_cases hi : k = i
  · subst hi; simp [h, putD]
  · rw [if_neg hi]
    by_cases h2 : i < 120
    · simp [h2, putD, show ¬ i = k from fun e => hi e.symm]
    · simp [h2]
@[go_sem] theorem setL_plan0 {x : Value} : setL (planCells fv D) 0 [x] = some (planCells x D) := rfl
theorem setL_same {l xs : List Value} (h : xs.length = l.length) : setL l 0 xs = some xs := by
  rw [setL_eq _ _ _ (by omega)]
  simp [List.drop_eq_nil_of_le (show l.length ≤ xs.length by omega)]
@[go_sem] theorem setL_planAll : setL (planCells fv D) 0 (planCells gv E) = some (planCells gv E) := setL_same (by simp [planCells])
@[go_sem] theorem setL_put_plan : setL.put (planCells fv D) (planCells gv E) = some (planCells gv E) := by
  rw [← setL_at0]; exact setL_planAll
theorem planCells_congr (h : ∀ i, i < 120 → D i = E i) : planCells fv D = planCells fv E := by
  simp only [planCells, List.cons.injEq, true_and]
  apply List.map_congr_left
  intro i hi
  rw [h i (by simpa using hi)]
@[go_sem] theorem ze84 : zeroT Try.prog 84 = some (.agg (planCells (.slice none 0 0) fun _ => 0).toArray) := by kernel_rfl
theorem st84 : structOk Try.prog 84 = true := by kernel_rfl

section
variable {H : AHeap} {β : Type} {kk : K β} {other : Unit → Option β} {dst : Option Tmp} {ty : TypeId} {src : String} {af : Array Edge} {g : Option (Nat × Bool)}
@[go_sem] theorem aBin_nil23 : aBin Try.prog .eql 23 (.slice none 0 0) (.slice none 0 0) H kk other = other () := by
  have h : nilEq Try.prog 23 (.slice none 0 0) (.slice none 0 0) = none := by kernel_rfl
  simp only [aBin, aEq, h]
@[go_sem] theorem aBin_some23 {a : Addr} {n c : Nat} : aBin Try.prog .eql 23 (.slice (some a) n c) (.slice none 0 0) H kk other = kk (.bool false) H := by
  have h : nilEq Try.prog 23 (.slice (some a) n c) (.slice none 0 0) = some false := by kernel_rfl
  simp only [aBin, aEq, h]
  rfl
theorem aPlain_nil23 {t' : TypeId} {x y : Operand} {ev : Operand → Value} (hx : ev x = .slice none 0 0) (hy : ev y = .slice none 0 0) : aPlain Try.prog ⟨dst, .binOp .eql 23 x y t', ty, src, af, g⟩ ev H kk = kk (.bool true) H := by
  rw [plain_of rfl]
  have e1 : ((Op.binOp .eql 23 x y t').operands.toList.all fun x => plainV 6 (ev x)) = true := by
    show ([x, y].all fun x => plainV 6 (ev x)) = true
    simp [hx, hy]
    rfl
  rw [if_pos e1]
  have e2 : pureOf Try.prog (execOp ev ⟨dst, .binOp .eql 23 x y t', ty, src, af, g⟩) = some (.value (.bool true)) := by
    simp only [execOp, hx, hy]
    kernel_rfl
  rw [e2]
  rfl
end

theorem flaws_nil (H : AHeap) {a : Option Addr} {c : Nat} (h : a = none → c = 0) : Flaws H (.slice a 0 c) [] := ⟨rfl, Nat.zero_le _, a, c, rfl, h, fun h => absurd h (Nat.lt_irrefl 0)⟩
theorem Flaws.keep {H H' : AHeap} {a : Option Addr} {n c : Nat} {l : List Flaw} (h : Flaws H (.slice a n c) l) (hn : H.n ≤ H'.n) (hk : ∀ x, a = some x → x.block < H.n → H'.get x.block = H.get x.block) : Flaws H' (.slice a n c) l := by
  obtain ⟨h1, h2, a', c', h3, h0, h4⟩ := h
  cases h3
  refine ⟨h1, h2, _, _, rfl, h0, fun hp => ?_⟩
  obtain ⟨b, o, sp, rfl, h6, h7⟩ := h4 hp
  exact ⟨b, o, sp, rfl, Nat.lt_of_lt_of_le h6 hn, fun j u hu => by rw [cellAt_get (hk _ rfl h6)]; exact h7 j u hu⟩
theorem flawCells_one : ∀ l : List Flaw, (flawCells l).all oneV = true
  | [] => rfl
  | a :: t => by
    have h := flawCells_one t
    rw [flawCells] at h ⊢
    rw [List.flatMap_cons, List.all_append, h]; rfl

set_option maxHeartbeats 2000000 in
theorem clone_e {loops : List (Nat × LInfo)} {H : AHeap} {v : Value} {l : List Flaw} (hv : Flaws H v l) (h2 : l.length ≤ 1000) : CallS Try.prog loops 48 [v] H fun r H' => (Flaws H' r l ∧ ∃ a c, r = .slice a l.length c ∧ ∀ x, a = some x → H.n ≤ x.block ∧ x.block < H'.n) ∧ Ext H H' := by
  have HXI := Lib.hid hv
  obtain ⟨hl1, -, a, c, rfl, hnil, hsome⟩ := hv
  by_cases ha : a = none
  case' pos =>
    subst ha
    obtain rfl := hnil rfl
    have hl0 : l.length = 0 := by
      rcases Nat.eq_zero_or_pos l.length with h | h
      · exact h
      · obtain ⟨b, o, sp, h5, -⟩ := hsome h; cases h5
    obtain rfl : l = [] := List.length_eq_zero_iff.1 hl0
    clear hsome hl1 hl0 h2 hnil
    refine CallS.enter' Try.func48 rfl Try.ntmps48 (by simp) fun f hd hf => ?_
    have f0 := hf 0
    simp at f0
    clear hf
    repeat' (first|(with_reducible first|refine zA ?_|refine zB fun K hK=>?_|refine zC fun K2 hK2=>?_|refine zD ?_|refine zE ?_|refine zF ?_|refine zG ?_|refine zH ?_|refine zI ?_|refine zM ?_|refine zN ?_|refine zO ?_|refine zP ?_|refine zQ ?_|refine zR ?_)|((with_reducible refine zU (hK _ _ ?_));clear hK K)|((with_reducible refine zV ?_ ?_ fun K1 K3 d hdst h1 h3=>?_);rfl;exact yB rfl;cases hdst;go_simp)|((with_reducible refine zW fun K1 K3 h1 h3=>?_);go_simp)|((first|refine h1 ?_|refine h3 ?_);clear h1 h3 K1 K3)|((first|refine zX (fun hb=>h1 ?_) (fun hb=>h3 ?_)|refine zX (fun hb=>h3 ?_) (fun hb=>h1 ?_))<;>(clear h1 h3 K1 K3;(try have hb2:=yC hb);(try have hb2:=yD hb);(try have hb2:=yE hb);(try have hb2:=yF hb);(try have hb2:=yG hb)))|(refine fun (K2:_→AHeap→Prop) hK2=>?_)|((with_reducible refine zY ?_ ?_);decide)|((with_reducible first|refine zZ ?_ (fun K hK=>?_)|refine yA ?_ (fun K hK=>?_));(focus go_simp;done);go_simp;refine hK _ _ ?_;clear hK K)|(go_simp;(try go_bits);(try first | ((rw [aPlain_nil23 (by go_simp) (by go_simp)]); go_simp));refine hK2 _ _ ?_;clear hK2 K2))
    exact ⟨⟨flaws_nil _ (fun _ => rfl), _, _, rfl, fun x h => by cases h⟩, Ext.refl _⟩
  case' neg =>
    obtain ⟨ad, rfl⟩ := Option.ne_none_iff_exists'.1 ha
    rcases Nat.eq_zero_or_pos l.length with h1 | h1
    case' inl =>
      obtain rfl : l = [] := List.length_eq_zero_iff.1 h1
      clear hsome hl1 h1 h2 hnil ha
      refine CallS.enter' Try.func48 rfl Try.ntmps48 (by simp) fun f hd hf => ?_
      have f0 := hf 0
      simp at f0
      clear hf
      repeat' (first|(with_reducible first|refine zA ?_|refine zB fun K hK=>?_|refine zC fun K2 hK2=>?_|refine zD ?_|refine zE ?_|refine zF ?_|refine zG ?_|refine zH ?_|refine zI ?_|refine zM ?_|refine zN ?_|refine zO ?_|refine zP ?_|refine zQ ?_|refine zR ?_)|((with_reducible refine zU (hK _ _ ?_));clear hK K)|((with_reducible refine zV ?_ ?_ fun K1 K3 d hdst h1 h3=>?_);rfl;exact yB rfl;cases hdst;go_simp)|((with_reducible refine zW fun K1 K3 h1 h3=>?_);go_simp)|((first|refine h1 ?_|refine h3 ?_);clear h1 h3 K1 K3)|((first|refine zX (fun hb=>h1 ?_) (fun hb=>h3 ?_)|refine zX (fun hb=>h3 ?_) (fun hb=>h1 ?_))<;>(clear h1 h3 K1 K3;(try have hb2:=yC hb);(try have hb2:=yD hb);(try have hb2:=yE hb);(try have hb2:=yF hb);(try have hb2:=yG hb)))|(refine fun (K2:_→AHeap→Prop) hK2=>?_)|((with_reducible refine zY ?_ ?_);decide)|((with_reducible first|refine zZ ?_ (fun K hK=>?_)|refine yA ?_ (fun K hK=>?_));(focus go_simp;done);go_simp;refine hK _ _ ?_;clear hK K)|(go_simp;(try go_bits);(try first | ((refine lit0_k el23 sz32 ze32 rfl (by decide) ?_); go_simp) | ((refine appendNil_k el23 sz32 srcCells_none ?_); go_simp));refine hK2 _ _ ?_;clear hK2 K2))
      exact ⟨⟨flaws_nil _ (fun h => by cases h), _, _, rfl, fun x h => by cases h; exact ⟨Nat.le_refl _, by rw [AHeap.n_push]; exact Nat.lt_succ_self _⟩⟩, Ext.push _⟩
    case' inr =>
      obtain ⟨b, o, sp, he, hb, hcell⟩ := hsome h1
      cases he
      have hcells : cellsAt H b o (l.length * 4) = some (flawCells l) := by
        have := cellsAt_of (H := H) (b := b) (o := o) (us := flawCells l) (by intro h; rw [h] at hl1; simp at hl1; omega) hcell
        rwa [flawCells_length] at this
      have HCS := Lib.hid hcells
      clear hcell hsome hcells hl1 hnil ha
      refine CallS.enter' Try.func48 rfl Try.ntmps48 (by simp) fun f hd hf => ?_
      have f0 := hf 0
      simp at f0
      clear hf
      repeat' (first|(with_reducible first|refine zA ?_|refine zB fun K hK=>?_|refine zC fun K2 hK2=>?_|refine zD ?_|refine zE ?_|refine zF ?_|refine zG ?_|refine zH ?_|refine zI ?_|refine zM ?_|refine zN ?_|refine zO ?_|refine zP ?_|refine zQ ?_|refine zR ?_)|((with_reducible refine zU (hK _ _ ?_));clear hK K)|((with_reducible refine zV ?_ ?_ fun K1 K3 d hdst h1 h3=>?_);rfl;exact yB rfl;cases hdst;go_simp)|((with_reducible refine zW fun K1 K3 h1 h3=>?_);go_simp)|((first|refine h1 ?_|refine h3 ?_);clear h1 h3 K1 K3)|((first|refine zX (fun hb=>h1 ?_) (fun hb=>h3 ?_)|refine zX (fun hb=>h3 ?_) (fun hb=>h1 ?_))<;>(clear h1 h3 K1 K3;(try have hb2:=yC hb);(try have hb2:=yD hb);(try have hb2:=yE hb);(try have hb2:=yF hb);(try have hb2:=yG hb)))|(refine fun (K2:_→AHeap→Prop) hK2=>?_)|((with_reducible refine zY ?_ ?_);decide)|((with_reducible first|refine zZ ?_ (fun K hK=>?_)|refine yA ?_ (fun K hK=>?_));(focus go_simp;done);go_simp;refine hK _ _ ?_;clear hK K)|(go_simp;(try go_bits);(try first | ((refine lit0_k el23 sz32 ze32 rfl (by decide) ?_); go_simp) | ((refine append0_g (b := H.n) el23 sz32 by32 ze32 rfl (by decide) (AHeap.get_push_new) (by rw [AHeap.n_push]; omega) (srcCells_some h1 (((Ext.push _).cellsAt hb).trans HCS.out)) h1 (flawCells_length _) (flawCells_one _) (by rw [flawCells_length]; show l.length * 4 * 32 ≤ 1073741824; omega) fun H7 hn7 hg7 hk7 => ?_); (have HO7 := Lib.hid hg7); (have HN7 := Lib.hid hn7); (have HX7 := Lib.hid (grown_ext (Ext.push _) (Nat.le_refl _) hn7 hk7)); clear hn7 hg7 hk7; go_simp));refine hK2 _ _ ?_;clear hK2 K2))
      refine ⟨⟨⟨flawCells_length _, by omega, _, _, rfl, (fun h => by cases h), fun _ => ⟨_, 0, none, rfl, ?_, fun j u hu => ?_⟩⟩, _, _, rfl, fun x h => by cases h; rw [HN7.out]; simp only [AHeap.n_push]; omega⟩, HX7.out⟩
      · rw [HN7.out]; simp only [AHeap.n_push]; omega
      · have := HO7.out
        rw [AHeap.n_push] at this
        simp only [cellAt, this, Nat.zero_add]; exact hu
end Go.Proofs.Try
