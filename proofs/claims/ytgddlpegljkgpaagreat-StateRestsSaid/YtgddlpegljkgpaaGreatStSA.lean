/- Contracts of functions, walked. -/
import Derived.Test.YtgddlpegljkgpaaGreatStS9
set_option linter.all false
namespace Go.Proofs.Tryz
open Go Go.Am Go.RowKit
set_option maxRecDepth 100000


theorem has_s {loops : List (Nat × LInfo)} {H : AHeap} {v : Value} {xs : List Int} {w : Int} (hv : Ints H v xs) : CallS Tryz.prog loops 102 [v, .int .i64 w] H fun r H' => r = .bool (decide (w ∈ xs)) ∧ H' = H := by
  obtain ⟨hlen, a, c, rfl⟩ := hv.slice
  have HV := Lib.hid hv
  clear hv
  generalize he : decide (w ∈ xs) = er
  have HE := Lib.hid he
  clear he
  refine CallS.enter' Tryz.func102 rfl Tryz.ntmps102 (by simp) fun f hd hf => ?_
  have f0 := hf 0
  have f1 := hf 1
  simp at f0 f1
  clear hf
  repeat' (first|(with_reducible first|refine zA ?_|refine zB fun K hK=>?_|refine zC fun K2 hK2=>?_|refine zD ?_|refine zE ?_|refine zF ?_|refine zG ?_|refine zH ?_|refine zI ?_|refine zM ?_|refine zN ?_|refine zO ?_|refine zP ?_|refine zQ ?_|refine zR ?_)|((with_reducible refine zU (hK _ _ ?_));clear hK K)|((with_reducible refine zV ?_ ?_ fun K1 K3 d hdst h1 h3=>?_);rfl;exact yB rfl;cases hdst;go_simp)|((with_reducible refine zW fun K1 K3 h1 h3=>?_);go_simp)|((first|refine h1 ?_|refine h3 ?_);clear h1 h3 K1 K3)|((first|refine zX (fun hb=>h1 ?_) (fun hb=>h3 ?_)|refine zX (fun hb=>h3 ?_) (fun hb=>h1 ?_))<;>(clear h1 h3 K1 K3;(try have hb2:=yC hb);(try have hb2:=yD hb);(try have hb2:=yE hb);(try have hb2:=yF hb);(try have hb2:=yG hb)))|(refine fun (K2:_→AHeap→Prop) hK2=>?_)|((with_reducible refine zY ?_ ?_);decide)|((with_reducible first|refine zZ ?_ (fun K hK=>?_)|refine yA ?_ (fun K hK=>?_));(focus go_simp;done);go_simp;refine hK _ _ ?_;clear hK K)|(go_simp;(try go_bits);refine hK2 _ _ ?_;clear hK2 K2))
  refine CodeS.loop (fun m f H' => ∃ k : Nat, k ≤ xs.length ∧ m = xs.length - k ∧ f.tmp 5 = .int .i64 k ∧ f.tmp 0 = .slice a xs.length c ∧ f.tmp 1 = .int .i64 w ∧ f.defers = [] ∧ Hid (decide (w ∈ xs.drop k) = er) ∧ H' = H) xs.length ?_ ?_
  · exact ⟨0, by simp, by simp, (by first|go_simp<;>go_num|assumption), (by first|go_simp<;>go_num|assumption), (by first|go_simp<;>go_num|assumption), (by first|go_simp<;>go_num|assumption), Lib.hid (by simpa using HE.out), rfl⟩
  clear f0 f1 hd f HE
  rintro m f H' ⟨k, hk, rfl, f5, f0, f1, hd, HG, rfl⟩
  by_cases hlt : k < xs.length
  · obtain ⟨b, o, sp, rfl, hb, hx⟩ := HV.out.at_ hlt
    have HD := Lib.hid (List.drop_eq_getElem_cons hlt)
    generalize xs[k] = y at hx HD
    repeat' (first|(with_reducible first|refine zA ?_|refine zB fun K hK=>?_|refine zC fun K2 hK2=>?_|refine zD ?_|refine zE ?_|refine zF ?_|refine zG ?_|refine zH ?_|refine zI ?_|refine zM ?_|refine zN ?_|refine zO ?_|refine zP ?_|refine zQ ?_|refine zR ?_)|((with_reducible refine zU (hK _ _ ?_));clear hK K)|((with_reducible refine zV ?_ ?_ fun K1 K3 d hdst h1 h3=>?_);rfl;exact yB rfl;cases hdst;go_simp)|((with_reducible refine zW fun K1 K3 h1 h3=>?_);go_simp)|((first|refine h1 ?_|refine h3 ?_);clear h1 h3 K1 K3)|((first|refine zX (fun hb=>h1 ?_) (fun hb=>h3 ?_)|refine zX (fun hb=>h3 ?_) (fun hb=>h1 ?_))<;>(clear h1 h3 K1 K3;(try have hb2:=yC hb);(try have hb2:=yD hb);(try have hb2:=yE hb);(try have hb2:=yF hb);(try have hb2:=yG hb)))|(refine fun (K2:_→AHeap→Prop) hK2=>?_)|((with_reducible refine zY ?_ ?_);decide)|((with_reducible first|refine zZ ?_ (fun K hK=>?_)|refine yA ?_ (fun K hK=>?_));(focus go_simp;done);go_simp;refine hK _ _ ?_;clear hK K)|(go_simp;(try go_bits);refine hK2 _ _ ?_;clear hK2 K2))
    · refine ⟨?_, rfl⟩
      have hw : y = w := by simpa using hb
      rw [← HG.out, HD.out]; simp [hw]
    · have hw : ¬ y = w := by simpa using hb
      refine Post.round_normal ⟨xs.length - (k + 1), by omega, k + 1, by omega, rfl, (by first|go_simp<;>go_num|assumption), (by first|go_simp<;>go_num|assumption), (by first|go_simp<;>go_num|assumption), (by first|go_simp<;>go_num|assumption), Lib.hid ?_, rfl⟩
      rw [← HG.out, HD.out]
      rw [decide_eq_decide, List.mem_cons]
      exact ⟨fun h => .inr h, fun h => h.elim (fun e => absurd e.symm hw) id⟩
  · repeat' (first|(with_reducible first|refine zA ?_|refine zB fun K hK=>?_|refine zC fun K2 hK2=>?_|refine zD ?_|refine zE ?_|refine zF ?_|refine zG ?_|refine zH ?_|refine zI ?_|refine zM ?_|refine zN ?_|refine zO ?_|refine zP ?_|refine zQ ?_|refine zR ?_)|((with_reducible refine zU (hK _ _ ?_));clear hK K)|((with_reducible refine zV ?_ ?_ fun K1 K3 d hdst h1 h3=>?_);rfl;exact yB rfl;cases hdst;go_simp)|((with_reducible refine zW fun K1 K3 h1 h3=>?_);go_simp)|((first|refine h1 ?_|refine h3 ?_);clear h1 h3 K1 K3)|((first|refine zX (fun hb=>h1 ?_) (fun hb=>h3 ?_)|refine zX (fun hb=>h3 ?_) (fun hb=>h1 ?_))<;>(clear h1 h3 K1 K3;(try have hb2:=yC hb);(try have hb2:=yD hb);(try have hb2:=yE hb);(try have hb2:=yF hb);(try have hb2:=yG hb)))|(refine fun (K2:_→AHeap→Prop) hK2=>?_)|((with_reducible refine zY ?_ ?_);decide)|((with_reducible first|refine zZ ?_ (fun K hK=>?_)|refine yA ?_ (fun K hK=>?_));(focus go_simp;done);go_simp;refine hK _ _ ?_;clear hK K)|(go_simp;(try go_bits);refine hK2 _ _ ?_;clear hK2 K2))
    refine ⟨?_, rfl⟩
    rw [← HG.out, List.drop_eq_nil_of_le (by omega)]; simp

theorem spanCells_at : ∀ (l : List (Int × Int)) (k : Nat) (h : k < l.length), (spanCells l)[k * 2]? = some (.int .i64 (l[k]).1) ∧ (spanCells l)[k * 2 + 1]? = some (.int .i64 (l[k]).2)
  | a :: l, 0, _ => ⟨rfl, rfl⟩
  | a :: l, k + 1, h => by
    have := spanCells_at l k (by simpa using h)
    have e : spanCells (a :: l) = .int .i64 a.1 :: .int .i64 a.2 :: spanCells l := rfl
    rw [e, show (k + 1) * 2 = k * 2 + 1 + 1 by omega]
    simpa using this
theorem Spans.at_ {H : AHeap} {a : Option Addr} {n c : Nat} {l : List (Int × Int)} (h : Spans H (.slice a n c) l) {k : Nat} (hk : k < l.length) : ∃ b o sp, a = some ⟨b, o, sp⟩ ∧ b < H.n ∧ cellAt H b (o + k * 2) = some (.int .i64 (l[k]).1) ∧ cellAt H b (o + k * 2 + 1) = some (.int .i64 (l[k]).2) := by
  obtain ⟨h1, h2, a', c', h3, h4⟩ := h
  cases h3
  obtain ⟨b, o, sp, h5, h6, h7⟩ := h4 (by omega)
  have := spanCells_at l k hk
  exact ⟨b, o, sp, h5, h6, h7 _ _ this.1, by rw [Nat.add_assoc]; exact h7 _ _ this.2⟩

theorem Spans.cells_at {H : AHeap} {a : Option Addr} {n c : Nat} {l : List (Int × Int)} (h : Spans H (.slice a n c) l) {k : Nat} (hk : k < l.length) : ∃ b o sp, a = some ⟨b, o, sp⟩ ∧ b < H.n ∧ cellsAt H b (o + k * 2) 2 = some [.int .i64 (l[k]).1, .int .i64 (l[k]).2] := by
  obtain ⟨b, o, sp, h1, h2, h3, h4⟩ := h.at_ hk
  refine ⟨b, o, sp, h1, h2, cellsAt_of (us := [.int .i64 (l[k]).1, .int .i64 (l[k]).2]) (by simp) fun j u hu => ?_⟩
  match j, hu with
  | 0, hu => rw [Nat.add_zero, h3]; exact hu
  | 1, hu => rw [h4]; exact hu
  | j + 2, hu => simp at hu

theorem sameInts_s {loops : List (Nat × LInfo)} {H : AHeap} {u v : Value} {xs ys : List Int} (hu : Ints H u xs) (hv : Ints H v ys) : CallS Tryz.prog loops 17 [u, v] H fun r H' => r = .bool (decide (xs = ys)) ∧ H' = H := by
  obtain ⟨hlen, a, c, rfl⟩ := hu.slice
  obtain ⟨hlen2, a2, c2, rfl⟩ := hv.slice
  have HU := Lib.hid hu
  have HV := Lib.hid hv
  clear hu hv
  generalize he : decide (xs = ys) = er
  have HE := Lib.hid he
  clear he
  refine CallS.enter' Tryz.func17 rfl Tryz.ntmps17 (by simp) fun f hd hf => ?_
  have f0 := hf 0
  have f1 := hf 1
  simp at f0 f1
  clear hf
  repeat' (first|(with_reducible first|refine zA ?_|refine zB fun K hK=>?_|refine zC fun K2 hK2=>?_|refine zD ?_|refine zE ?_|refine zF ?_|refine zG ?_|refine zH ?_|refine zI ?_|refine zM ?_|refine zN ?_|refine zO ?_|refine zP ?_|refine zQ ?_|refine zR ?_)|((with_reducible refine zU (hK _ _ ?_));clear hK K)|((with_reducible refine zV ?_ ?_ fun K1 K3 d hdst h1 h3=>?_);rfl;exact yB rfl;cases hdst;go_simp)|((with_reducible refine zW fun K1 K3 h1 h3=>?_);go_simp)|((first|refine h1 ?_|refine h3 ?_);clear h1 h3 K1 K3)|((first|refine zX (fun hb=>h1 ?_) (fun hb=>h3 ?_)|refine zX (fun hb=>h3 ?_) (fun hb=>h1 ?_))<;>(clear h1 h3 K1 K3;(try have hb2:=yC hb);(try have hb2:=yD hb);(try have hb2:=yE hb);(try have hb2:=yF hb);(try have hb2:=yG hb)))|(refine fun (K2:_→AHeap→Prop) hK2=>?_)|((with_reducible refine zY ?_ ?_);decide)|((with_reducible first|refine zZ ?_ (fun K hK=>?_)|refine yA ?_ (fun K hK=>?_));(focus go_simp;done);go_simp;refine hK _ _ ?_;clear hK K)|(go_simp;(try go_bits);refine hK2 _ _ ?_;clear hK2 K2))
  · refine ⟨?_, rfl⟩
    have h0 : ¬ (xs.length : Int) = ys.length := by simpa using hb
    have h1 : ¬ xs.length = ys.length := by omega
    rw [← HE.out]
    simp only [Value.bool.injEq]
    exact (decide_eq_false fun e => h1 (by rw [e])).symm
  have h0 : (xs.length : Int) = ys.length := by simpa using hb
  have hll : xs.length = ys.length := by omega
  have HLL := Lib.hid hll
  clear hll h0
  refine CodeS.loop (fun m f H' => ∃ k : Nat, k ≤ xs.length ∧ m = xs.length - k ∧ f.tmp 5 = .int .i64 k ∧ f.tmp 0 = .slice a xs.length c ∧ f.tmp 1 = .slice a2 ys.length c2 ∧ f.defers = [] ∧ Hid (decide (xs.drop k = ys.drop k) = er) ∧ H' = H) xs.length ?_ ?_
  · exact ⟨0, by simp, by simp, (by first|go_simp<;>go_num|assumption), (by first|go_simp<;>go_num|assumption), (by first|go_simp<;>go_num|assumption), (by first|go_simp<;>go_num|assumption), Lib.hid (by simpa using HE.out), rfl⟩
  clear f0 f1 hd f HE hb
  rintro m f H' ⟨k, hk, rfl, f5, f0, f1, hd, HG, rfl⟩
  by_cases hlt : k < xs.length
  · have hlt2 : k < ys.length := by have := HLL.out; omega
    obtain ⟨b, o, sp, rfl, hb, hx⟩ := HU.out.at_ hlt
    obtain ⟨b2, o2, sp2, rfl, hb2, hx2⟩ := HV.out.at_ hlt2
    have HD := Lib.hid (List.drop_eq_getElem_cons hlt)
    have HD2 := Lib.hid (List.drop_eq_getElem_cons hlt2)
    generalize xs[k] = y at hx HD
    generalize ys[k] = y2 at hx2 HD2
    repeat' (first|(with_reducible first|refine zA ?_|refine zB fun K hK=>?_|refine zC fun K2 hK2=>?_|refine zD ?_|refine zE ?_|refine zF ?_|refine zG ?_|refine zH ?_|refine zI ?_|refine zM ?_|refine zN ?_|refine zO ?_|refine zP ?_|refine zQ ?_|refine zR ?_)|((with_reducible refine zU (hK _ _ ?_));clear hK K)|((with_reducible refine zV ?_ ?_ fun K1 K3 d hdst h1 h3=>?_);rfl;exact yB rfl;cases hdst;go_simp)|((with_reducible refine zW fun K1 K3 h1 h3=>?_);go_simp)|((first|refine h1 ?_|refine h3 ?_);clear h1 h3 K1 K3)|((first|refine zX (fun hb=>h1 ?_) (fun hb=>h3 ?_)|refine zX (fun hb=>h3 ?_) (fun hb=>h1 ?_))<;>(clear h1 h3 K1 K3;(try have hb2:=yC hb);(try have hb2:=yD hb);(try have hb2:=yE hb);(try have hb2:=yF hb);(try have hb2:=yG hb)))|(refine fun (K2:_→AHeap→Prop) hK2=>?_)|((with_reducible refine zY ?_ ?_);decide)|((with_reducible first|refine zZ ?_ (fun K hK=>?_)|refine yA ?_ (fun K hK=>?_));(focus go_simp;done);go_simp;refine hK _ _ ?_;clear hK K)|(go_simp;(try go_bits);refine hK2 _ _ ?_;clear hK2 K2))
    repeat' (first|(with_reducible first|refine zA ?_|refine zB fun K hK=>?_|refine zC fun K2 hK2=>?_|refine zD ?_|refine zE ?_|refine zF ?_|refine zG ?_|refine zH ?_|refine zI ?_|refine zM ?_|refine zN ?_|refine zO ?_|refine zP ?_|refine zQ ?_|refine zR ?_)|((with_reducible refine zU (hK _ _ ?_));clear hK K)|((with_reducible refine zV ?_ ?_ fun K1 K3 d hdst h1 h3=>?_);rfl;exact yB rfl;cases hdst;go_simp)|((with_reducible refine zW fun K1 K3 h1 h3=>?_);go_simp)|((first|refine h1 ?_|refine h3 ?_);clear h1 h3 K1 K3)|((first|refine zX (fun hb=>h1 ?_) (fun hb=>h3 ?_)|refine zX (fun hb=>h3 ?_) (fun hb=>h1 ?_))<;>(clear h1 h3 K1 K3;(try have hb2:=yC hb);(try have hb2:=yD hb);(try have hb2:=yE hb);(try have hb2:=yF hb);(try have hb2:=yG hb)))|(refine fun (K2:_→AHeap→Prop) hK2=>?_)|((with_reducible refine zY ?_ ?_);decide)|((with_reducible first|refine zZ ?_ (fun K hK=>?_)|refine yA ?_ (fun K hK=>?_));(focus go_simp;done);go_simp;refine hK _ _ ?_;clear hK K)|((with_reducible refine yH mixed rfl ?_ 20 fun K0 hK0=>?_);kernel_rfl)|(with_reducible first|exact yI|exact yJ|refine yK ?_|refine yL ?_|refine yM ?_)|((with_reducible first|refine yN ?_ ?_|refine yO ?_ ?_|refine yP ?_ ?_);rfl)|((with_reducible refine yQ ?_ ?_);rfl;refine hK0 _ _ ?_;clear hK0 K0)|((with_reducible refine yR ?_ ?_ ?_ ?_);rfl;rfl;rfl)|((with_reducible refine yS ?_ ?_ ?_ fun K2 hK2=>?_);rfl;rfl;exact yB rfl)|((with_reducible refine yT ?_ ?_ ?_ ?_ fun K1 K3 d hdst h1 h3=>?_);rfl;rfl;rfl;exact yB rfl;cases hdst;go_simp)|((with_reducible refine yU ?_ ?_ ?_ ?_ fun K1 K3 d hdst h1 h3=>?_);rfl;rfl;rfl;exact yB rfl;cases hdst;go_simp)|((with_reducible refine yV ?_ ?_ (fun K2 hK2=>?_) ?_);rfl;exact yB rfl)|((with_reducible refine yW ?_ ?_ ?_ ?_ (fun K2 hK2=>?_) ?_);rfl;exact yB rfl;rfl;(focus go_simp;done))|((with_reducible refine yX ?_ ?_ ?_ (fun K2 hK2=>?_) ?_);rfl;rfl;exact yB rfl)|((with_reducible refine yY ?_ ?_ (fun K2 hK2=>?_) ?_);rfl;rfl)|((with_reducible refine yZ ?_ ?_);(first|rfl|(dsimp only;decide +kernel)))|((with_reducible refine xA ?_ ?_);(focus go_simp;done))|(go_simp;(try go_bits);(first|(refine hK2 _ _ ?_ ?_<;>clear hK2 K2)|(refine hK2 _ _ ?_;clear hK2 K2))))
    repeat' (first|(with_reducible first|refine zA ?_|refine zB fun K hK=>?_|refine zC fun K2 hK2=>?_|refine zD ?_|refine zE ?_|refine zF ?_|refine zG ?_|refine zH ?_|refine zI ?_|refine zM ?_|refine zN ?_|refine zO ?_|refine zP ?_|refine zQ ?_|refine zR ?_)|((with_reducible refine zU (hK _ _ ?_));clear hK K)|((with_reducible refine zV ?_ ?_ fun K1 K3 d hdst h1 h3=>?_);rfl;exact yB rfl;cases hdst;go_simp)|((with_reducible refine zW fun K1 K3 h1 h3=>?_);go_simp)|((first|refine h1 ?_|refine h3 ?_);clear h1 h3 K1 K3)|((first|refine zX (fun hb=>h1 ?_) (fun hb=>h3 ?_)|refine zX (fun hb=>h3 ?_) (fun hb=>h1 ?_))<;>(clear h1 h3 K1 K3;(try have hb2:=yC hb);(try have hb2:=yD hb);(try have hb2:=yE hb);(try have hb2:=yF hb);(try have hb2:=yG hb)))|(refine fun (K2:_→AHeap→Prop) hK2=>?_)|((with_reducible refine zY ?_ ?_);decide)|((with_reducible first|refine zZ ?_ (fun K hK=>?_)|refine yA ?_ (fun K hK=>?_));(focus go_simp;done);go_simp;refine hK _ _ ?_;clear hK K)|(go_simp;(try go_bits);refine hK2 _ _ ?_;clear hK2 K2))
    · refine ⟨?_, rfl⟩
      have h1 : ¬ y = y2 := by simpa using hb
      rw [← HG.out, HD.out, HD2.out]
      simp [h1]
    · have h1 : y = y2 := by simpa using hb
      refine Post.round_normal ⟨xs.length - (k + 1), by omega, k + 1, by omega, rfl, (by first|go_simp<;>go_num|assumption), (by first|go_simp<;>go_num|assumption), (by first|go_simp<;>go_num|assumption), (by first|go_simp<;>go_num|assumption), Lib.hid ?_, rfl⟩
      rw [← HG.out, HD.out, HD2.out, h1]
      simp
  · repeat' (first|(with_reducible first|refine zA ?_|refine zB fun K hK=>?_|refine zC fun K2 hK2=>?_|refine zD ?_|refine zE ?_|refine zF ?_|refine zG ?_|refine zH ?_|refine zI ?_|refine zM ?_|refine zN ?_|refine zO ?_|refine zP ?_|refine zQ ?_|refine zR ?_)|((with_reducible refine zU (hK _ _ ?_));clear hK K)|((with_reducible refine zV ?_ ?_ fun K1 K3 d hdst h1 h3=>?_);rfl;exact yB rfl;cases hdst;go_simp)|((with_reducible refine zW fun K1 K3 h1 h3=>?_);go_simp)|((first|refine h1 ?_|refine h3 ?_);clear h1 h3 K1 K3)|((first|refine zX (fun hb=>h1 ?_) (fun hb=>h3 ?_)|refine zX (fun hb=>h3 ?_) (fun hb=>h1 ?_))<;>(clear h1 h3 K1 K3;(try have hb2:=yC hb);(try have hb2:=yD hb);(try have hb2:=yE hb);(try have hb2:=yF hb);(try have hb2:=yG hb)))|(refine fun (K2:_→AHeap→Prop) hK2=>?_)|((with_reducible refine zY ?_ ?_);decide)|((with_reducible first|refine zZ ?_ (fun K hK=>?_)|refine yA ?_ (fun K hK=>?_));(focus go_simp;done);go_simp;refine hK _ _ ?_;clear hK K)|(go_simp;(try go_bits);refine hK2 _ _ ?_;clear hK2 K2))
    refine ⟨?_, rfl⟩
    rw [← HG.out, List.drop_eq_nil_of_le (by omega), List.drop_eq_nil_of_le (by have := HLL.out; omega)]; simp

def fewB (s : Sheet) : Bool := (decide (s.words.length ≤ 8) || (decide (40 < s.words.length) && decide (s.words.length ≤ 50))) && (decide (s.alts.length ≤ 8) || (decide (40 < s.alts.length) && decide (s.alts.length ≤ 50)))
theorem few_s {loops : List (Nat × LInfo)} {H : AHeap} {sv : Value} {s : Sheet} (hv : SheetV H sv s) : CallS Tryz.prog loops 9 [sv] H fun r H' => r = .bool (fewB s) ∧ H' = H := by
  refine CallS.forget (R := fun v => v = .bool (fewB s)) (by rintro v rfl; rfl) ?_
  obtain ⟨wv, av, rfl, hw, ha⟩ := hv
  obtain ⟨hwl, wa, wc, rfl⟩ := hw.slice
  obtain ⟨hal, aa, ac, rfl⟩ := ha.slice
  clear hw ha
  generalize he : fewB s = er
  have HE := Lib.hid he
  clear he
  refine CallS.enter' Tryz.func9 rfl Tryz.ntmps9 (by simp) fun f hd hf => ?_
  have f0 := hf 0
  simp at f0
  clear hf
  repeat' (first|(with_reducible first|refine zA ?_|refine zB fun K hK=>?_|refine zC fun K2 hK2=>?_|refine zD ?_|refine zE ?_|refine zF ?_|refine zG ?_|refine zH ?_|refine zI ?_|refine zM ?_|refine zN ?_|refine zO ?_|refine zP ?_|refine zQ ?_|refine zR ?_)|((with_reducible refine zU (hK _ _ ?_));clear hK K)|((with_reducible refine zV ?_ ?_ fun K1 K3 d hdst h1 h3=>?_);rfl;exact yB rfl;cases hdst;go_simp)|((with_reducible refine zW fun K1 K3 h1 h3=>?_);go_simp)|((first|refine h1 ?_|refine h3 ?_);clear h1 h3 K1 K3)|((first|refine zX (fun hb=>h1 ?_) (fun hb=>h3 ?_)|refine zX (fun hb=>h3 ?_) (fun hb=>h1 ?_))<;>(clear h1 h3 K1 K3;(try have hb2:=yC hb);(try have hb2:=yD hb);(try have hb2:=yE hb);(try have hb2:=yF hb);(try have hb2:=yG hb)))|(refine fun (K2:_→AHeap→Prop) hK2=>?_)|((with_reducible refine zY ?_ ?_);decide)|((with_reducible first|refine zZ ?_ (fun K hK=>?_)|refine yA ?_ (fun K hK=>?_));(focus go_simp;done);go_simp;refine hK _ _ ?_;clear hK K)|(go_simp;(try go_bits);refine hK2 _ _ ?_;clear hK2 K2))
  all_goals
    refine ⟨?_, (Ext.refl _).push' _⟩
    rw [← HE.out]
    simp only [fewB, Value.bool.injEq]
    rw [Bool.eq_iff_iff]
    simp only [Bool.and_eq_true, Bool.or_eq_true, decide_eq_true_eq, true_iff, Bool.false_eq_true, false_iff]
    omega
end Go.Proofs.Tryz
