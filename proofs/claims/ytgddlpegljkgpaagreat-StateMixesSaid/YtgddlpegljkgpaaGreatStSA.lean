/- Contracts of functions, walked. -/
import Derived.Test.YtgddlpegljkgpaaGreatStS9
set_option linter.all false
namespace Go.Proofs.Tryz
open Go Go.Am Go.RowKit
set_option maxRecDepth 100000


theorem spanCells_at : ∀ (l : List (Int × Int)) (k : Nat) (h : k < l.length), (spanCells l)[k * 2]? = some (.int .i64 (l[k]).1) ∧ (spanCells l)[k * 2 + 1]? = some (.int .i64 (l[k]).2)
  | a :: l, 0, _ => ⟨rfl, rfl⟩
  | a :: l, k + 1, h => by
    have := spanCells_at l k (by simpa using h)
    have e : spanCells (a :: l) = .int .i64 a.1 :: .int .i64 a.2 :: spanCells l := rfl
    rw [e, show (k + 1) * 2 = k * 2 + 1 + 1 by omega]
    simpa using this
theorem Spans.at_ {H : AHeap} {a : Option Addr} {n c : Nat} {l : List (Int × Int)} (h : Spans H (.slice a n c) l) {k : Nat} (hk : k < l.length) : ∃ b o sp, a = some ⟨b, o, sp⟩ ∧ b < H.n ∧ cellAt H b (o + k * 2) = some (.int .i64 (l[k]).1) ∧ cellAt H b (o + k * 2 + 1) = some (.int .i64 (l[k]).2) := by
  obtain ⟨h1, h2, a', c', h3, h4⟩ := h
  cases h3
  obtain ⟨b, o, sp, h5, h6, h7⟩ := h4 (by omega)
  have := spanCells_at l k hk
  exact ⟨b, o, sp, h5, h6, h7 _ _ this.1, by rw [Nat.add_assoc]; exact h7 _ _ this.2⟩

theorem Spans.cells_at {H : AHeap} {a : Option Addr} {n c : Nat} {l : List (Int × Int)} (h : Spans H (.slice a n c) l) {k : Nat} (hk : k < l.length) : ∃ b o sp, a = some ⟨b, o, sp⟩ ∧ b < H.n ∧ cellsAt H b (o + k * 2) 2 = some [.int .i64 (l[k]).1, .int .i64 (l[k]).2] := by
  obtain ⟨b, o, sp, h1, h2, h3, h4⟩ := h.at_ hk
  refine ⟨b, o, sp, h1, h2, cellsAt_of (us := [.int .i64 (l[k]).1, .int .i64 (l[k]).2]) (by simp) fun j u hu => ?_⟩
  match j, hu with
  | 0, hu => rw [Nat.add_zero, h3]; exact hu
  | 1, hu => rw [h4]; exact hu
  | j + 2, hu => simp at hu

def fewB (s : Sheet) : Bool := (decide (s.words.length ≤ 8) || (decide (40 < s.words.length) && decide (s.words.length ≤ 50))) && (decide (s.alts.length ≤ 8) || (decide (40 < s.alts.length) && decide (s.alts.length ≤ 50)))
theorem few_s {loops : List (Nat × LInfo)} {H : AHeap} {sv : Value} {s : Sheet} (hv : SheetV H sv s) : CallS Tryz.prog loops 9 [sv] H fun r H' => r = .bool (fewB s) ∧ H' = H := by
  refine CallS.forget (R := fun v => v = .bool (fewB s)) (by rintro v rfl; rfl) ?_
  obtain ⟨wv, av, rfl, hw, ha⟩ := hv
  obtain ⟨hwl, wa, wc, rfl⟩ := hw.slice
  obtain ⟨hal, aa, ac, rfl⟩ := ha.slice
  clear hw ha
  generalize he : fewB s = er
  have HE := Lib.hid he
  clear he
  refine CallS.enter' Tryz.func9 rfl Tryz.ntmps9 (by simp) fun f hd hf => ?_
  have f0 := hf 0
  simp at f0
  clear hf
  repeat' (first|(with_reducible first|refine zA ?_|refine zB fun K hK=>?_|refine zC fun K2 hK2=>?_|refine zD ?_|refine zE ?_|refine zF ?_|refine zG ?_|refine zH ?_|refine zI ?_|refine zM ?_|refine zN ?_|refine zO ?_|refine zP ?_|refine zQ ?_|refine zR ?_)|((with_reducible refine zU (hK _ _ ?_));clear hK K)|((with_reducible refine zV ?_ ?_ fun K1 K3 d hdst h1 h3=>?_);rfl;exact yB rfl;cases hdst;go_simp)|((with_reducible refine zW fun K1 K3 h1 h3=>?_);go_simp)|((first|refine h1 ?_|refine h3 ?_);clear h1 h3 K1 K3)|((first|refine zX (fun hb=>h1 ?_) (fun hb=>h3 ?_)|refine zX (fun hb=>h3 ?_) (fun hb=>h1 ?_))<;>(clear h1 h3 K1 K3;(try have hb2:=yC hb);(try have hb2:=yD hb);(try have hb2:=yE hb);(try have hb2:=yF hb);(try have hb2:=yG hb)))|(refine fun (K2:_→AHeap→Prop) hK2=>?_)|((with_reducible refine zY ?_ ?_);decide)|((with_reducible first|refine zZ ?_ (fun K hK=>?_)|refine yA ?_ (fun K hK=>?_));(focus go_simp;done);go_simp;refine hK _ _ ?_;clear hK K)|(go_simp;(try go_bits);refine hK2 _ _ ?_;clear hK2 K2))
  all_goals
    refine ⟨?_, (Ext.refl _).push' _⟩
    rw [← HE.out]
    simp only [fewB, Value.bool.injEq]
    rw [Bool.eq_iff_iff]
    simp only [Bool.and_eq_true, Bool.or_eq_true, decide_eq_true_eq, true_iff, Bool.false_eq_true, false_iff]
    omega
end Go.Proofs.Tryz
