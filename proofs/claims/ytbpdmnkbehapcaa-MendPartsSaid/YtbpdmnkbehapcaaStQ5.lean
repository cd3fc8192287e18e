/- Contracts of functions, walked. -/
import Derived.Test.YtbpdmnkbehapcaaStM8
import Derived.Test.YtbpdmnkbehapcaaAwB
set_option linter.all false
namespace Go.Proofs.Try
open Go Go.Am Go.RowKit
set_option maxRecDepth 100000


structure FOk (a : Flaw) : Prop where
  lo : 0 ≤ a.lo
  le : a.lo ≤ a.hi
  hi : a.hi < 60
  m0 : 0 ≤ a.merit
  m1 : a.merit ≤ 1000000

def dayI (D : Nat → Int) (x : Int) : Int := idxOf x ((List.range 120).map D) 0
theorem idxOf_spec (x : Int) : ∀ (l : List Int) (k : Nat), (idxOf x l k = -1 ∧ x ∉ l) ∨ ∃ (i : Nat) (h : i < l.length), idxOf x l k = ((k + i : Nat) : Int) ∧ l[i] = x
  | [], k => .inl ⟨rfl, by simp⟩
  | y :: l, k => by
    rw [idxOf]
    by_cases h : x = y
    · rw [if_pos h]; exact .inr ⟨0, by simp, rfl, h.symm⟩
    · rw [if_neg h]
      rcases idxOf_spec x l (k + 1) with ⟨h1, h2⟩ | ⟨i, h1, h2, h3⟩
      · exact .inl ⟨h1, by simp [h2, h]⟩
      · exact .inr ⟨i + 1, by simp; omega, by rw [h2]; congr 1; omega, by simpa using h3⟩
theorem dayI_spec (D : Nat → Int) (x : Int) : (dayI D x = -1 ∧ ∀ d, d < 120 → D d ≠ x) ∨ ∃ d : Nat, d < 120 ∧ dayI D x = (d : Int) ∧ D d = x := by
  rcases idxOf_spec x ((List.range 120).map D) 0 with ⟨h1, h2⟩ | ⟨i, h1, h2, h3⟩
  · exact .inl ⟨h1, fun d hd he => h2 (List.mem_map.2 ⟨d, List.mem_range.2 hd, he⟩)⟩
  · rw [List.length_map, List.length_range] at h1
    exact .inr ⟨i, h1, by rw [dayI, h2, Nat.zero_add], by simpa using h3⟩

theorem plan_ints {H : AHeap} {p : Nat} {fv : Value} {D : Nat → Int} (hp : p < H.n) (gp : H.get p = .row (planCells fv D) 84) : Ints H (.slice (some ⟨p, 1, some 0⟩) 120 120) ((List.range 120).map D) := by
  have hl : ((List.range 120).map D).length = 120 := by simp
  refine ⟨by simp, by simp, some ⟨p, 1, some 0⟩, 120, by rw [hl], (fun h => by cases h), fun _ => ⟨p, 1, some 0, rfl, hp, fun j u hu => ?_⟩⟩
  have hj : j < 120 := by have := (List.getElem?_eq_some_iff.1 hu).1; simpa using this
  simp only [List.map_map, List.getElem?_map, List.getElem?_range hj, Option.map_some, Function.comp, Option.some.injEq] at hu
  subst hu
  simp only [cellAt, gp]
  exact planCells_get hj

theorem dayOf_s {loops : List (Nat × LInfo)} {H : AHeap} {p : Nat} {fv : Value} {D : Nat → Int} {x : Int} (hp : p < H.n) (gp : H.get p = .row (planCells fv D) 84) : CallS Try.prog loops 44 [.pointer (some ⟨p, 0, none⟩), .int .i64 x] H fun r H' => r = .int .i64 (dayI D x) ∧ H' = H := by
  have HI := Lib.hid (fun (loops : List (Nat × LInfo)) => index_s (loops := loops) (x := x) (plan_ints hp gp))
  unfold dayI
  clear gp
  refine CallS.enter' Try.func44 rfl Try.ntmps44 (by simp) fun f hd hf => ?_
  have f0 := hf 0
  have f1 := hf 1
  simp at f0 f1
  clear hf
  repeat' (first|(with_reducible first|refine zA ?_|refine zB fun K hK=>?_|refine zC fun K2 hK2=>?_|refine zD ?_|refine zE ?_|refine zF ?_|refine zG ?_|refine zH ?_|refine zI ?_|refine zM ?_|refine zN ?_|refine zO ?_|refine zP ?_|refine zQ ?_|refine zR ?_)|((with_reducible refine zU (hK _ _ ?_));clear hK K)|((with_reducible refine zV ?_ ?_ fun K1 K3 d hdst h1 h3=>?_);rfl;exact yB rfl;cases hdst;go_simp)|((with_reducible refine zW fun K1 K3 h1 h3=>?_);go_simp)|((first|refine h1 ?_|refine h3 ?_);clear h1 h3 K1 K3)|((first|refine zX (fun hb=>h1 ?_) (fun hb=>h3 ?_)|refine zX (fun hb=>h3 ?_) (fun hb=>h1 ?_))<;>(clear h1 h3 K1 K3;(try have hb2:=yC hb);(try have hb2:=yD hb);(try have hb2:=yE hb);(try have hb2:=yF hb);(try have hb2:=yG hb)))|(refine fun (K2:_→AHeap→Prop) hK2=>?_)|((with_reducible refine zY ?_ ?_);decide)|((with_reducible first|refine zZ ?_ (fun K hK=>?_)|refine yA ?_ (fun K hK=>?_));(focus go_simp;done);go_simp;refine hK _ _ ?_;clear hK K)|(go_simp;(try go_bits);(try first | ((with_reducible show CallS _ _ _ _ _ _);refine CallS.mono (HI.out _) ?_; rintro _ _ ⟨rfl, rfl⟩));refine hK2 _ _ ?_;clear hK2 K2))
  exact ⟨rfl, rfl⟩

theorem cl80_s {loops : List (Nat × LInfo)} {H : AHeap} {p b : Nat} {fa : Option Addr} {fc : Nat} {fls : List Flaw} {D : Nat → Int} (hb : b < H.n) (gb : H.get b = .row [.pointer (some ⟨p, 0, none⟩)] 100) (hp : p < H.n) (gp : H.get p = .row (planCells (.slice fa fls.length fc) D) 84) (hf : Flaws H (.slice fa fls.length fc) fls)
    {i : Nat} (hi : i < fls.length) (hok : FOk fls[i]) : CallS Try.prog loops 80 [.int .i64 i, .pointer (some ⟨b, 0, none⟩)] H fun r H' => r = .int .i64 (-(fls[i]).merit) ∧ H' = H := by
  obtain ⟨fb, fo, fsp, rfl, hfb, -, hx⟩ := hf.at_ hi
  have hx0 := hx 3 _ rfl
  have h1 := hok.m0
  have h2 := hok.m1
  have hc0 : cellAt H b 0 = some (.pointer (some ⟨p, 0, none⟩)) := by simp [cellAt, gb]
  have hc1 : cellAt H p 0 = some (.slice (some ⟨fb, fo, fsp⟩) fls.length fc) := by rw [cellAt, gp]; exact planCells_get0
  have hii : (i : Int) < (fls.length : Int) := by omega
  generalize (fls[i]).merit = m at hx0 h1 h2 ⊢
  clear hx gb gp hf hok
  refine CallS.enter' Try.func80 rfl Try.ntmps80 (by simp) fun f hd hf => ?_
  have f0 := hf 0
  have f1 := hf 1
  simp at f0 f1
  clear hf
  repeat' (first|(with_reducible first|refine zA ?_|refine zB fun K hK=>?_|refine zC fun K2 hK2=>?_|refine zD ?_|refine zE ?_|refine zF ?_|refine zG ?_|refine zH ?_|refine zI ?_|refine zM ?_|refine zN ?_|refine zO ?_|refine zP ?_|refine zQ ?_|refine zR ?_)|((with_reducible refine zU (hK _ _ ?_));clear hK K)|((with_reducible refine zV ?_ ?_ fun K1 K3 d hdst h1 h3=>?_);rfl;exact yB rfl;cases hdst;go_simp)|((with_reducible refine zW fun K1 K3 h1 h3=>?_);go_simp)|((first|refine h1 ?_|refine h3 ?_);clear h1 h3 K1 K3)|((first|refine zX (fun hb=>h1 ?_) (fun hb=>h3 ?_)|refine zX (fun hb=>h3 ?_) (fun hb=>h1 ?_))<;>(clear h1 h3 K1 K3;(try have hb2:=yC hb);(try have hb2:=yD hb);(try have hb2:=yE hb);(try have hb2:=yF hb);(try have hb2:=yG hb)))|(refine fun (K2:_→AHeap→Prop) hK2=>?_)|((with_reducible refine zY ?_ ?_);decide)|((with_reducible first|refine zZ ?_ (fun K hK=>?_)|refine yA ?_ (fun K hK=>?_));(focus go_simp;done);go_simp;refine hK _ _ ?_;clear hK K)|(go_simp;(try go_bits);refine hK2 _ _ ?_;clear hK2 K2))
  exact ⟨rfl, rfl⟩
theorem cl93_s {loops : List (Nat × LInfo)} {H : AHeap} {p b : Nat} {fa : Option Addr} {fc : Nat} {fls : List Flaw} {D : Nat → Int} (hb : b < H.n) (gb : H.get b = .row [.pointer (some ⟨p, 0, none⟩)] 100) (hp : p < H.n) (gp : H.get p = .row (planCells (.slice fa fls.length fc) D) 84) (hf : Flaws H (.slice fa fls.length fc) fls)
    {i : Nat} (hi : i < fls.length) (hok : FOk fls[i]) : CallS Try.prog loops 93 [.int .i64 i, .pointer (some ⟨b, 0, none⟩)] H fun r H' => r = .int .i64 (-(fls[i]).lo) ∧ H' = H := by
  obtain ⟨fb, fo, fsp, rfl, hfb, -, hx⟩ := hf.at_ hi
  have hx0 := hx 1 _ rfl
  have h1 := hok.lo
  have h2 := Int.lt_of_le_of_lt hok.le hok.hi
  have hc0 : cellAt H b 0 = some (.pointer (some ⟨p, 0, none⟩)) := by simp [cellAt, gb]
  have hc1 : cellAt H p 0 = some (.slice (some ⟨fb, fo, fsp⟩) fls.length fc) := by rw [cellAt, gp]; exact planCells_get0
  have hii : (i : Int) < (fls.length : Int) := by omega
  generalize (fls[i]).lo = m at hx0 h1 h2 ⊢
  clear hx gb gp hf hok
  refine CallS.enter' Try.func93 rfl Try.ntmps93 (by simp) fun f hd hf => ?_
  have f0 := hf 0
  have f1 := hf 1
  simp at f0 f1
  clear hf
  repeat' (first|(with_reducible first|refine zA ?_|refine zB fun K hK=>?_|refine zC fun K2 hK2=>?_|refine zD ?_|refine zE ?_|refine zF ?_|refine zG ?_|refine zH ?_|refine zI ?_|refine zM ?_|refine zN ?_|refine zO ?_|refine zP ?_|refine zQ ?_|refine zR ?_)|((with_reducible refine zU (hK _ _ ?_));clear hK K)|((with_reducible refine zV ?_ ?_ fun K1 K3 d hdst h1 h3=>?_);rfl;exact yB rfl;cases hdst;go_simp)|((with_reducible refine zW fun K1 K3 h1 h3=>?_);go_simp)|((first|refine h1 ?_|refine h3 ?_);clear h1 h3 K1 K3)|((first|refine zX (fun hb=>h1 ?_) (fun hb=>h3 ?_)|refine zX (fun hb=>h3 ?_) (fun hb=>h1 ?_))<;>(clear h1 h3 K1 K3;(try have hb2:=yC hb);(try have hb2:=yD hb);(try have hb2:=yE hb);(try have hb2:=yF hb);(try have hb2:=yG hb)))|(refine fun (K2:_→AHeap→Prop) hK2=>?_)|((with_reducible refine zY ?_ ?_);decide)|((with_reducible first|refine zZ ?_ (fun K hK=>?_)|refine yA ?_ (fun K hK=>?_));(focus go_simp;done);go_simp;refine hK _ _ ?_;clear hK K)|(go_simp;(try go_bits);refine hK2 _ _ ?_;clear hK2 K2))
  exact ⟨rfl, rfl⟩
theorem cl94_s {loops : List (Nat × LInfo)} {H : AHeap} {p b : Nat} {fa : Option Addr} {fc : Nat} {fls : List Flaw} {D : Nat → Int} (hb : b < H.n) (gb : H.get b = .row [.pointer (some ⟨p, 0, none⟩)] 100) (hp : p < H.n) (gp : H.get p = .row (planCells (.slice fa fls.length fc) D) 84) (hf : Flaws H (.slice fa fls.length fc) fls)
    {i : Nat} (hi : i < fls.length) : CallS Try.prog loops 94 [.int .i64 i, .pointer (some ⟨b, 0, none⟩)] H fun r H' => r = .int .i64 (fls[i]).hi ∧ H' = H := by
  obtain ⟨fb, fo, fsp, rfl, hfb, -, hx⟩ := hf.at_ hi
  have hx0 := hx 2 _ rfl
  have hc0 : cellAt H b 0 = some (.pointer (some ⟨p, 0, none⟩)) := by simp [cellAt, gb]
  have hc1 : cellAt H p 0 = some (.slice (some ⟨fb, fo, fsp⟩) fls.length fc) := by rw [cellAt, gp]; exact planCells_get0
  have hii : (i : Int) < (fls.length : Int) := by omega
  generalize (fls[i]).hi = m at hx0 ⊢
  clear hx gb gp hf
  refine CallS.enter' Try.func94 rfl Try.ntmps94 (by simp) fun f hd hf => ?_
  have f0 := hf 0
  have f1 := hf 1
  simp at f0 f1
  clear hf
  repeat' (first|(with_reducible first|refine zA ?_|refine zB fun K hK=>?_|refine zC fun K2 hK2=>?_|refine zD ?_|refine zE ?_|refine zF ?_|refine zG ?_|refine zH ?_|refine zI ?_|refine zM ?_|refine zN ?_|refine zO ?_|refine zP ?_|refine zQ ?_|refine zR ?_)|((with_reducible refine zU (hK _ _ ?_));clear hK K)|((with_reducible refine zV ?_ ?_ fun K1 K3 d hdst h1 h3=>?_);rfl;exact yB rfl;cases hdst;go_simp)|((with_reducible refine zW fun K1 K3 h1 h3=>?_);go_simp)|((first|refine h1 ?_|refine h3 ?_);clear h1 h3 K1 K3)|((first|refine zX (fun hb=>h1 ?_) (fun hb=>h3 ?_)|refine zX (fun hb=>h3 ?_) (fun hb=>h1 ?_))<;>(clear h1 h3 K1 K3;(try have hb2:=yC hb);(try have hb2:=yD hb);(try have hb2:=yE hb);(try have hb2:=yF hb);(try have hb2:=yG hb)))|(refine fun (K2:_→AHeap→Prop) hK2=>?_)|((with_reducible refine zY ?_ ?_);decide)|((with_reducible first|refine zZ ?_ (fun K hK=>?_)|refine yA ?_ (fun K hK=>?_));(focus go_simp;done);go_simp;refine hK _ _ ?_;clear hK K)|(go_simp;(try go_bits);refine hK2 _ _ ?_;clear hK2 K2))
  exact ⟨rfl, rfl⟩
theorem cl95_s {loops : List (Nat × LInfo)} {H : AHeap} {p b : Nat} {fv : Value} {D : Nat → Int} (hb : b < H.n) (gb : H.get b = .row [.pointer (some ⟨p, 0, none⟩)] 100) (hp : p < H.n) (gp : H.get p = .row (planCells fv D) 84)
    {d : Nat} (hd1 : d < 120) : CallS Try.prog loops 95 [.int .i64 d, .pointer (some ⟨b, 0, none⟩)] H fun r H' => r = .tuple #[.int .i64 (D d), .bool (D d != -1)] ∧ H' = H := by
  have hc0 : cellAt H b 0 = some (.pointer (some ⟨p, 0, none⟩)) := by simp [cellAt, gb]
  have hc1 : cellAt H p (1 + d) = some (.int .i64 (D d)) := by rw [cellAt, gp]; exact planCells_get hd1
  have hdd : (d : Int) < 120 := by omega
  generalize D d = x at hc1 ⊢
  clear gb gp
  refine CallS.enter' Try.func95 rfl Try.ntmps95 (by simp) fun f hd hf => ?_
  have f0 := hf 0
  have f1 := hf 1
  simp at f0 f1
  clear hf
  repeat' (first|(with_reducible first|refine zA ?_|refine zB fun K hK=>?_|refine zC fun K2 hK2=>?_|refine zD ?_|refine zE ?_|refine zF ?_|refine zG ?_|refine zH ?_|refine zI ?_|refine zM ?_|refine zN ?_|refine zO ?_|refine zP ?_|refine zQ ?_|refine zR ?_)|((with_reducible refine zU (hK _ _ ?_));clear hK K)|((with_reducible refine zV ?_ ?_ fun K1 K3 d hdst h1 h3=>?_);rfl;exact yB rfl;cases hdst;go_simp)|((with_reducible refine zW fun K1 K3 h1 h3=>?_);go_simp)|((first|refine h1 ?_|refine h3 ?_);clear h1 h3 K1 K3)|((first|refine zX (fun hb=>h1 ?_) (fun hb=>h3 ?_)|refine zX (fun hb=>h3 ?_) (fun hb=>h1 ?_))<;>(clear h1 h3 K1 K3;(try have hb2:=yC hb);(try have hb2:=yD hb);(try have hb2:=yE hb);(try have hb2:=yF hb);(try have hb2:=yG hb)))|(refine fun (K2:_→AHeap→Prop) hK2=>?_)|((with_reducible refine zY ?_ ?_);decide)|((with_reducible first|refine zZ ?_ (fun K hK=>?_)|refine yA ?_ (fun K hK=>?_));(focus go_simp;done);go_simp;refine hK _ _ ?_;clear hK K)|((with_reducible refine yH mixed rfl ?_ 20 fun K0 hK0=>?_);kernel_rfl)|(with_reducible first|exact yI|exact yJ|refine yK ?_|refine yL ?_|refine yM ?_)|((with_reducible first|refine yN ?_ ?_|refine yO ?_ ?_|refine yP ?_ ?_);rfl)|((with_reducible refine yQ ?_ ?_);rfl;refine hK0 _ _ ?_;clear hK0 K0)|((with_reducible refine yR ?_ ?_ ?_ ?_);rfl;rfl;rfl)|((with_reducible refine yS ?_ ?_ ?_ fun K2 hK2=>?_);rfl;rfl;exact yB rfl)|((with_reducible refine yT ?_ ?_ ?_ ?_ fun K1 K3 d hdst h1 h3=>?_);rfl;rfl;rfl;exact yB rfl;cases hdst;go_simp)|((with_reducible refine yU ?_ ?_ ?_ ?_ fun K1 K3 d hdst h1 h3=>?_);rfl;rfl;rfl;exact yB rfl;cases hdst;go_simp)|((with_reducible refine yV ?_ ?_ (fun K2 hK2=>?_) ?_);rfl;exact yB rfl)|((with_reducible refine yW ?_ ?_ ?_ ?_ (fun K2 hK2=>?_) ?_);rfl;exact yB rfl;rfl;(focus go_simp;done))|((with_reducible refine yX ?_ ?_ ?_ (fun K2 hK2=>?_) ?_);rfl;rfl;exact yB rfl)|((with_reducible refine yY ?_ ?_ (fun K2 hK2=>?_) ?_);rfl;rfl)|((with_reducible refine yZ ?_ ?_);(first|rfl|(dsimp only;decide +kernel)))|((with_reducible refine xA ?_ ?_);(focus go_simp;done))|(go_simp;(try go_bits);(first|(refine hK2 _ _ ?_ ?_<;>clear hK2 K2)|(refine hK2 _ _ ?_;clear hK2 K2))))
  all_goals (refine ⟨?_, rfl⟩; simp_all)
end Go.Proofs.Try
namespace Go.Proofs.Try
open Go Go.Am Go.RowKit
set_option maxRecDepth 100000


section
variable {P : Program} {H : AHeap} {kp : Value → AHeap → Option Prop} {t e : TypeId} {size : Nat} {q : IntKind} {b o n c : Nat}
theorem sliceFrom_k {k : Nat} {i : Int} (he : elemT P t = some e) (hs : szT P e = some size) (hg : elemIsR H b e = true) (hi : i = k) (hk : k < n) (hn : n ≤ c) (h : Holds (kp (.slice (some ⟨b, o + k * size, none⟩) (n - k) (c - k)) H)) : Holds (aSlice P t (.slice (some ⟨b, o, none⟩) n c) (some (.int q i)) none H kp) := by
  subst hi
  have h1 : loOf (some (.int q (k : Int))) = some k := rfl
  simp only [aSlice, he, h1, hiOf, hs, sliceOn, hg, Bool.not_true, Bool.false_eq_true, if_false, show k ≤ n from by omega, show k < c from by omega, if_true]
  exact h
theorem sliceEnd_k {k : Nat} {i : Int} (he : elemT P t = some e) (hs : szT P e = some size) (hg : elemIsR H b e = true) (hi : i = k) (hk : k = n) (h0 : 0 < n) (hn : n = c) (h : Holds (kp (.slice (some ⟨b, o, some 1⟩) 0 0) H)) : Holds (aSlice P t (.slice (some ⟨b, o, none⟩) n c) (some (.int q i)) none H kp) := by
  subst hi hk hn
  have h1 : loOf (some (.int q (k : Int))) = some k := rfl
  simp only [aSlice, he, h1, hiOf, hs, sliceOn, hg, Bool.not_true, Bool.false_eq_true, if_false, Nat.le_refl, if_true, Nat.lt_irrefl, show ¬ k = 0 from by omega, Nat.sub_self]
  exact h
end

def bestGo (w : Int → Int) : List Int → Int → Int
  | [], b => b
  | x :: l, b => bestGo w l (if w b < w x then x else b)
def bestL (w : Int → Int) (l : List Int) : Int := bestGo w (l.drop 1) (l.getD 0 0)
theorem bestGo_spec (w : Int → Int) : ∀ (l : List Int) (b : Int), (bestGo w l b = b ∨ bestGo w l b ∈ l) ∧ w b ≤ w (bestGo w l b) ∧ ∀ x, x ∈ l → w x ≤ w (bestGo w l b)
  | [], b => ⟨.inl rfl, Int.le_refl _, fun x hx => by simp at hx⟩
  | x :: l, b => by
    rw [bestGo]
    by_cases h : w b < w x
    · rw [if_pos h]
      obtain ⟨h1, h2, h3⟩ := bestGo_spec w l x
      refine ⟨?_, by omega, fun y hy => ?_⟩
      · rcases h1 with h1 | h1
        · exact .inr (by rw [h1]; exact List.mem_cons_self ..)
        · exact .inr (List.mem_cons_of_mem _ h1)
      · rcases List.mem_cons.1 hy with rfl | hy
        · exact h2
        · exact h3 y hy
    · rw [if_neg h]
      obtain ⟨h1, h2, h3⟩ := bestGo_spec w l b
      refine ⟨?_, h2, fun y hy => ?_⟩
      · rcases h1 with h1 | h1
        · exact .inl h1
        · exact .inr (List.mem_cons_of_mem _ h1)
      · rcases List.mem_cons.1 hy with rfl | hy
        · omega
        · exact h3 y hy
theorem bestL_spec {w : Int → Int} {l : List Int} (h : 0 < l.length) : bestL w l ∈ l ∧ ∀ x, x ∈ l → w x ≤ w (bestL w l) := by
  match l, h with
  | a :: l, _ =>
    obtain ⟨h1, h2, h3⟩ := bestGo_spec w l a
    show bestGo w l a ∈ a :: l ∧ ∀ x, x ∈ a :: l → w x ≤ w (bestGo w l a)
    refine ⟨?_, fun x hx => ?_⟩
    · rcases h1 with h1 | h1
      · rw [h1]; exact List.mem_cons_self ..
      · exact List.mem_cons_of_mem _ h1
    · rcases List.mem_cons.1 hx with rfl | hx
      · exact h2
      · exact h3 x hx

set_option maxHeartbeats 2000000 in
theorem bestOf_s {loops : List (Nat × LInfo)} {H : AHeap} {g cb bs : Nat} {w : Int → Int} {xs : List Int} {lv : Value} (ho : Own H bs lv 3 1 (xs.map (Value.int .i64))) (h0 : 0 < xs.length) (hlen : xs.length ≤ 1000) (hok : okFn Try.prog g = true)
    (hg : ∀ (loops : List (Nat × LInfo)) x, x ∈ xs → CallS Try.prog loops g [.int .i64 x, .pointer (some ⟨cb, 0, none⟩)] H fun r H' => r = .int .i64 (w x) ∧ H' = H) :
    CallS Try.prog loops 79 [lv, .func (.func g) #[] #[.pointer (some ⟨cb, 0, none⟩)]] H fun r H' => r = .int .i64 (bestL w xs) ∧ H' = H := by
  rcases ho with ⟨rfl, h⟩ | ⟨b, n, rfl, hb, hbn, gb, hn, hn0⟩
  · rw [List.map_eq_nil_iff] at h; rw [h] at h0; exact absurd h0 (Nat.lt_irrefl _)
  have hn : n = xs.length := by simp at hn; omega
  subst hn
  have hel : elemIsR H b 3 = true := by simp [elemIsR, gb]
  have HG := Lib.hid hg
  have HC : Hid (∀ k (h : k < xs.length), cellAt H b k = some (.int .i64 xs[k])) := Lib.hid (fun k h => by simp [cellAt, gb, h])
  have hc0 : cellAt H b 0 = some (.int .i64 (xs.getD 0 0)) := by rw [HC.out 0 h0, List.getD_eq_getElem?_getD, List.getElem?_eq_getElem h0]; rfl
  have HM0 : Hid (xs.getD 0 0 ∈ xs) := Lib.hid (by rw [List.getD_eq_getElem?_getD, List.getElem?_eq_getElem h0]; exact List.getElem_mem _)
  have HR : Hid (bestGo w (xs.drop 1) (xs.getD 0 0) = bestL w xs) := Lib.hid rfl
  generalize bestL w xs = R at HR ⊢
  generalize xs.getD 0 0 = x0 at hc0 HM0 HR
  clear hg gb
  rcases Nat.lt_or_ge 1 xs.length with h1 | h1
  · refine CallS.enter' Try.func79 rfl Try.ntmps79 (by simp) fun f hd hf => ?_
    have f0 := hf 0
    have f1 := hf 1
    simp at f0 f1
    clear hf
    repeat' (first|(with_reducible first|refine zA ?_|refine zB fun K hK=>?_|refine zC fun K2 hK2=>?_|refine zD ?_|refine zE ?_|refine zF ?_|refine zG ?_|refine zH ?_|refine zI ?_|refine zM ?_|refine zN ?_|refine zO ?_|refine zP ?_|refine zQ ?_|refine zR ?_)|((with_reducible refine zU (hK _ _ ?_));clear hK K)|((with_reducible refine zV ?_ ?_ fun K1 K3 d hdst h1 h3=>?_);rfl;exact yB rfl;cases hdst;go_simp)|((with_reducible refine zW fun K1 K3 h1 h3=>?_);go_simp)|((first|refine h1 ?_|refine h3 ?_);clear h1 h3 K1 K3)|((first|refine zX (fun hb=>h1 ?_) (fun hb=>h3 ?_)|refine zX (fun hb=>h3 ?_) (fun hb=>h1 ?_))<;>(clear h1 h3 K1 K3;(try have hb2:=yC hb);(try have hb2:=yD hb);(try have hb2:=yE hb);(try have hb2:=yF hb);(try have hb2:=yG hb)))|(refine fun (K2:_→AHeap→Prop) hK2=>?_)|((with_reducible refine zY ?_ ?_);decide)|((with_reducible first|refine zZ ?_ (fun K hK=>?_)|refine yA ?_ (fun K hK=>?_));(focus go_simp;done);go_simp;refine hK _ _ ?_;clear hK K)|(go_simp;(try go_bits);(try first | ((refine sliceFrom_k (k := 1) el22 sz3 hel rfl h1 (Nat.le_refl _) ?_); go_simp));refine hK2 _ _ ?_;clear hK2 K2))
    refine CodeS.loop (fun m f H' => ∃ (k : Nat) (y : Int), k ≤ xs.length - 1 ∧ m = xs.length - 1 - k ∧ f.tmp 14 = .int .i64 k ∧ f.tmp 5 = .int .i64 y ∧ f.tmp 1 = .func (.func g) #[] #[.pointer (some ⟨cb, 0, none⟩)] ∧ f.tmp 12 = .slice (some ⟨b, 1, none⟩) (xs.length - 1) (xs.length - 1) ∧ f.tmp 13 = .int .i64 ((xs.length - 1 : Nat) : Int) ∧ f.defers = [] ∧ Hid (y ∈ xs) ∧ Hid (bestGo w (xs.drop (1 + k)) y = R) ∧ H' = H) (xs.length - 1) ?_ ?_
    · exact ⟨0, x0, by omega, by omega, (by first|go_simp<;>go_num|assumption), (by first|go_simp<;>go_num|assumption), (by first|go_simp<;>go_num|assumption), (by first|go_simp<;>go_num|assumption), (by first|go_simp<;>go_num|assumption), (by first|go_simp<;>go_num|assumption), HM0, HR, rfl⟩
    clear f0 f1 hd f HM0 HR hc0
    rintro m f H' ⟨k, y, hk, rfl, f14, f5, f1, f12, f13, hd, HM, HR, e9⟩
    have e9 := e9.symm
    subst e9
    by_cases hlt : k < xs.length - 1
    · have hk1 : 1 + k < xs.length := by omega
      have hck := HC.out (1 + k) hk1
      have HD := Lib.hid (List.drop_eq_getElem_cons hk1)
      have HMX := Lib.hid (List.getElem_mem hk1)
      generalize xs[1 + k] = z at hck HD HMX
      have HGZ := Lib.hid (fun (loops : List (Nat × LInfo)) => HG.out loops z HMX.out)
      have HGY := Lib.hid (fun (loops : List (Nat × LInfo)) => HG.out loops y HM.out)
      have HST : Hid (bestGo w (xs.drop (1 + (k + 1))) (if w y < w z then z else y) = R) := Lib.hid (by rw [← HR.out, HD.out, bestGo]; rfl)
      generalize w z = wz at HGZ HST
      generalize w y = wy at HGY HST
      have hlti : (k : Int) < ((xs.length - 1 : Nat) : Int) := by omega
      by_cases hw : wy < wz
      · rw [if_pos hw] at HST
        repeat' (first|(with_reducible first|refine zA ?_|refine zB fun K hK=>?_|refine zC fun K2 hK2=>?_|refine zD ?_|refine zE ?_|refine zF ?_|refine zG ?_|refine zH ?_|refine zI ?_|refine zM ?_|refine zN ?_|refine zO ?_|refine zP ?_|refine zQ ?_|refine zR ?_)|((with_reducible refine zU (hK _ _ ?_));clear hK K)|((with_reducible refine zV ?_ ?_ fun K1 K3 d hdst h1 h3=>?_);rfl;exact yB rfl;cases hdst;go_simp)|((with_reducible refine zW fun K1 K3 h1 h3=>?_);go_simp)|((first|refine h1 ?_|refine h3 ?_);clear h1 h3 K1 K3)|((first|refine zX (fun hb=>h1 ?_) (fun hb=>h3 ?_)|refine zX (fun hb=>h3 ?_) (fun hb=>h1 ?_))<;>(clear h1 h3 K1 K3;(try have hb2:=yC hb);(try have hb2:=yD hb);(try have hb2:=yE hb);(try have hb2:=yF hb);(try have hb2:=yG hb)))|(refine fun (K2:_→AHeap→Prop) hK2=>?_)|((with_reducible refine zY ?_ ?_);decide)|((with_reducible first|refine zZ ?_ (fun K hK=>?_)|refine yA ?_ (fun K hK=>?_));(focus go_simp;done);go_simp;refine hK _ _ ?_;clear hK K)|(go_simp;(try go_bits);(try first |((with_reducible show CallS _ _ _ _ _ _);first|(refine CallS.mono (HGZ.out _) ?_; rintro _ _ ⟨rfl, rfl⟩)|(refine CallS.mono (HGY.out _) ?_; rintro _ _ ⟨rfl, rfl⟩)));refine hK2 _ _ ?_;clear hK2 K2))
        refine Post.round_normal ⟨xs.length - 1 - (k + 1), by omega, k + 1, z, by omega, rfl, (by first|go_simp<;>go_num|assumption), (by first|go_simp<;>go_num|assumption), (by first|go_simp<;>go_num|assumption), (by first|go_simp<;>go_num|assumption), (by first|go_simp<;>go_num|assumption), (by first|go_simp<;>go_num|assumption), HMX, HST, rfl⟩
      · rw [if_neg hw] at HST
        repeat' (first|(with_reducible first|refine zA ?_|refine zB fun K hK=>?_|refine zC fun K2 hK2=>?_|refine zD ?_|refine zE ?_|refine zF ?_|refine zG ?_|refine zH ?_|refine zI ?_|refine zM ?_|refine zN ?_|refine zO ?_|refine zP ?_|refine zQ ?_|refine zR ?_)|((with_reducible refine zU (hK _ _ ?_));clear hK K)|((with_reducible refine zV ?_ ?_ fun K1 K3 d hdst h1 h3=>?_);rfl;exact yB rfl;cases hdst;go_simp)|((with_reducible refine zW fun K1 K3 h1 h3=>?_);go_simp)|((first|refine h1 ?_|refine h3 ?_);clear h1 h3 K1 K3)|((first|refine zX (fun hb=>h1 ?_) (fun hb=>h3 ?_)|refine zX (fun hb=>h3 ?_) (fun hb=>h1 ?_))<;>(clear h1 h3 K1 K3;(try have hb2:=yC hb);(try have hb2:=yD hb);(try have hb2:=yE hb);(try have hb2:=yF hb);(try have hb2:=yG hb)))|(refine fun (K2:_→AHeap→Prop) hK2=>?_)|((with_reducible refine zY ?_ ?_);decide)|((with_reducible first|refine zZ ?_ (fun K hK=>?_)|refine yA ?_ (fun K hK=>?_));(focus go_simp;done);go_simp;refine hK _ _ ?_;clear hK K)|(go_simp;(try go_bits);(try first |((with_reducible show CallS _ _ _ _ _ _);first|(refine CallS.mono (HGZ.out _) ?_; rintro _ _ ⟨rfl, rfl⟩)|(refine CallS.mono (HGY.out _) ?_; rintro _ _ ⟨rfl, rfl⟩)));refine hK2 _ _ ?_;clear hK2 K2))
        refine Post.round_normal ⟨xs.length - 1 - (k + 1), by omega, k + 1, y, by omega, rfl, (by first|go_simp<;>go_num|assumption), (by first|go_simp<;>go_num|assumption), (by first|go_simp<;>go_num|assumption), (by first|go_simp<;>go_num|assumption), (by first|go_simp<;>go_num|assumption), (by first|go_simp<;>go_num|assumption), HM, HST, rfl⟩
    · have hlti : ¬ (k : Int) < ((xs.length - 1 : Nat) : Int) := by omega
      have hy : y = R := by rw [← HR.out, List.drop_eq_nil_of_le (by omega)]; rfl
      subst hy
      clear HR
      repeat' (first|(with_reducible first|refine zA ?_|refine zB fun K hK=>?_|refine zC fun K2 hK2=>?_|refine zD ?_|refine zE ?_|refine zF ?_|refine zG ?_|refine zH ?_|refine zI ?_|refine zM ?_|refine zN ?_|refine zO ?_|refine zP ?_|refine zQ ?_|refine zR ?_)|((with_reducible refine zU (hK _ _ ?_));clear hK K)|((with_reducible refine zV ?_ ?_ fun K1 K3 d hdst h1 h3=>?_);rfl;exact yB rfl;cases hdst;go_simp)|((with_reducible refine zW fun K1 K3 h1 h3=>?_);go_simp)|((first|refine h1 ?_|refine h3 ?_);clear h1 h3 K1 K3)|((first|refine zX (fun hb=>h1 ?_) (fun hb=>h3 ?_)|refine zX (fun hb=>h3 ?_) (fun hb=>h1 ?_))<;>(clear h1 h3 K1 K3;(try have hb2:=yC hb);(try have hb2:=yD hb);(try have hb2:=yE hb);(try have hb2:=yF hb);(try have hb2:=yG hb)))|(refine fun (K2:_→AHeap→Prop) hK2=>?_)|((with_reducible refine zY ?_ ?_);decide)|((with_reducible first|refine zZ ?_ (fun K hK=>?_)|refine yA ?_ (fun K hK=>?_));(focus go_simp;done);go_simp;refine hK _ _ ?_;clear hK K)|(go_simp;(try go_bits);refine hK2 _ _ ?_;clear hK2 K2))
      exact ⟨rfl, rfl⟩
  · have hx1 : xs.length = 1 := by omega
    have hR : R = x0 := by rw [← HR.out, List.drop_eq_nil_of_le (by omega)]; rfl
    rw [hx1, hR]
    clear HR hR HM0 HC HG
    refine CallS.enter' Try.func79 rfl Try.ntmps79 (by simp) fun f hd hf => ?_
    have f0 := hf 0
    have f1 := hf 1
    simp at f0 f1
    clear hf
    repeat' (first|(with_reducible first|refine zA ?_|refine zB fun K hK=>?_|refine zC fun K2 hK2=>?_|refine zD ?_|refine zE ?_|refine zF ?_|refine zG ?_|refine zH ?_|refine zI ?_|refine zM ?_|refine zN ?_|refine zO ?_|refine zP ?_|refine zQ ?_|refine zR ?_)|((with_reducible refine zU (hK _ _ ?_));clear hK K)|((with_reducible refine zV ?_ ?_ fun K1 K3 d hdst h1 h3=>?_);rfl;exact yB rfl;cases hdst;go_simp)|((with_reducible refine zW fun K1 K3 h1 h3=>?_);go_simp)|((first|refine h1 ?_|refine h3 ?_);clear h1 h3 K1 K3)|((first|refine zX (fun hb=>h1 ?_) (fun hb=>h3 ?_)|refine zX (fun hb=>h3 ?_) (fun hb=>h1 ?_))<;>(clear h1 h3 K1 K3;(try have hb2:=yC hb);(try have hb2:=yD hb);(try have hb2:=yE hb);(try have hb2:=yF hb);(try have hb2:=yG hb)))|(refine fun (K2:_→AHeap→Prop) hK2=>?_)|((with_reducible refine zY ?_ ?_);decide)|((with_reducible first|refine zZ ?_ (fun K hK=>?_)|refine yA ?_ (fun K hK=>?_));(focus go_simp;done);go_simp;refine hK _ _ ?_;clear hK K)|(go_simp;(try go_bits);(try first | ((refine sliceEnd_k (k := 1) el22 sz3 hel rfl rfl (by decide) rfl ?_); go_simp));refine hK2 _ _ ?_;clear hK2 K2))
    refine CodeS.loop (fun m f H' => m = 0 ∧ f.tmp 14 = .int .i64 0 ∧ f.tmp 5 = .int .i64 x0 ∧ f.tmp 13 = .int .i64 0 ∧ f.defers = [] ∧ H' = H) 0 ?_ ?_
    · exact ⟨rfl, (by first|go_simp<;>go_num|assumption), (by first|go_simp<;>go_num|assumption), (by first|go_simp<;>go_num|assumption), (by first|go_simp<;>go_num|assumption), rfl⟩
    clear f0 f1 hd f
    rintro m f H' ⟨rfl, f14, f5, f13, hd, rfl⟩
    repeat' (first|(with_reducible first|refine zA ?_|refine zB fun K hK=>?_|refine zC fun K2 hK2=>?_|refine zD ?_|refine zE ?_|refine zF ?_|refine zG ?_|refine zH ?_|refine zI ?_|refine zM ?_|refine zN ?_|refine zO ?_|refine zP ?_|refine zQ ?_|refine zR ?_)|((with_reducible refine zU (hK _ _ ?_));clear hK K)|((with_reducible refine zV ?_ ?_ fun K1 K3 d hdst h1 h3=>?_);rfl;exact yB rfl;cases hdst;go_simp)|((with_reducible refine zW fun K1 K3 h1 h3=>?_);go_simp)|((first|refine h1 ?_|refine h3 ?_);clear h1 h3 K1 K3)|((first|refine zX (fun hb=>h1 ?_) (fun hb=>h3 ?_)|refine zX (fun hb=>h3 ?_) (fun hb=>h1 ?_))<;>(clear h1 h3 K1 K3;(try have hb2:=yC hb);(try have hb2:=yD hb);(try have hb2:=yE hb);(try have hb2:=yF hb);(try have hb2:=yG hb)))|(refine fun (K2:_→AHeap→Prop) hK2=>?_)|((with_reducible refine zY ?_ ?_);decide)|((with_reducible first|refine zZ ?_ (fun K hK=>?_)|refine yA ?_ (fun K hK=>?_));(focus go_simp;done);go_simp;refine hK _ _ ?_;clear hK K)|(go_simp;(try go_bits);refine hK2 _ _ ?_;clear hK2 K2))
    exact ⟨rfl, rfl⟩
end Go.Proofs.Try
namespace Go.Proofs.Try
open Go Go.Am Go.RowKit
set_option maxRecDepth 100000


theorem openGo_mem (D : Nat → Int) : ∀ (r i j : Nat), i ≤ j → j < i + r → D j ≠ -2 → Value.int .i64 (j : Int) ∈ openGo D r i
  | 0, i, j, h1, h2, _ => by omega
  | r + 1, i, j, h1, h2, h3 => by
    rw [openGo]
    rcases Nat.eq_or_lt_of_le h1 with rfl | h4
    · rw [if_neg h3]; exact List.mem_cons_self ..
    · have := openGo_mem D r (i + 1) j h4 (by omega) h3
      split
      · exact this
      · exact List.mem_cons_of_mem _ this

open Classical in
theorem nodup_le {α : Type} : ∀ (l m : List α), l.Nodup → (∀ x ∈ l, x ∈ m) → l.length ≤ m.length
  | [], m, _, _ => Nat.zero_le _
  | x :: l, m, hn, h => by
    rw [List.nodup_cons] at hn
    have h1 := nodup_le l (m.erase x) hn.2 (fun y hy => by
      have := h y (List.mem_cons_of_mem _ hy)
      exact (List.mem_erase_of_ne (fun e => hn.1 (by rw [← e]; exact hy))).2 this)
    have hx := h x (List.mem_cons_self ..)
    rw [List.length_erase_of_mem hx] at h1
    have := List.length_pos_of_mem hx
    simp only [List.length_cons]; omega

theorem inSpan_filter (t : Tour) (lo hi : Int) : ∀ l, t.inSpan lo hi l = (l.filter fun x => lies (t.flawOf x).lo (t.flawOf x).hi lo hi).length
  | [] => rfl
  | x :: l => by
    rw [Tour.inSpan, inSpan_filter t lo hi l, List.filter_cons]
    split <;> simp <;> omega
theorem atOf_id {l : List Flaw} {x : Int} (h : x ∈ l.map (·.id)) : (l[atOf l x]'(atOf_lt h)).id = x := by
  have := List.findIdx_getElem (w := atOf_lt h) (p := fun a : Flaw => a.id == x)
  exact beq_iff_eq.1 this

end Go.Proofs.Try
namespace Go.Proofs.Try


def Has (D : Nat → Int) (i : Nat) : Prop := ∃ d : Nat, D d = (i : Int)
structure Mat (A : Nat → Nat → Prop) (D : Nat → Int) : Prop where
  ok : ∀ d i : Nat, D d = (i : Int) → A i d
  one : ∀ d e i : Nat, D d = (i : Int) → D e = (i : Int) → d = e
structure CertT (A : Nat → Nat → Prop) (m : Nat → Int) (D : Nat → Int) (u : Nat) (T : Nat → Prop) : Prop where
  has : ∀ j, T j → Has D j
  merit : ∀ j, T j → m u ≤ m j
  days : ∀ i, (T i ∨ i = u) → ∀ d, A i d → ∃ j : Nat, D d = (j : Int) ∧ T j
structure BestOf (A : Nat → Nat → Prop) (m : Nat → Int) (D : Nat → Int) (N : Nat) : Prop where
  mat : Mat A D
  cert : ∀ u, u < N → ¬ Has D u → ∃ T, CertT A m D u T

structure Trail (A : Nat → Nat → Prop) (D : Nat → Int) (x : Nat) (L : List Nat) (tk : Nat → Int) : Prop where
  head : L[0]? = some x
  nodup : L.Nodup
  take : ∀ d i : Nat, tk d = (i : Int) → A i d ∧ ∃ j : Nat, L[j]? = some i ∧ ∀ h : Nat, D d = (h : Int) → ∃ j' : Nat, j < j' ∧ L[j']? = some h
  src : ∀ l, l ∈ L → l = x ∨ ∃ d : Nat, D d = (l : Int) ∧ 0 ≤ tk d
  tkr : ∀ d : Nat, tk d = -1 ∨ ∃ i : Nat, tk d = (i : Int)

def putI (D : Nat → Int) (k : Nat) (v : Int) : Nat → Int := fun i => if i = k then v else D i
theorem putI_same {D : Nat → Int} {k : Nat} {v : Int} : putI D k v k = v := if_pos rfl
theorem putI_ne {D : Nat → Int} {k i : Nat} {v : Int} (h : i ≠ k) : putI D k v i = D i := if_neg h

theorem Trail.first {A : Nat → Nat → Prop} {D : Nat → Int} {x : Nat} : Trail A D x [x] (fun _ => -1) where
  head := rfl
  nodup := by simp
  take := fun d i h => by omega
  src := fun l hl => .inl (by simpa using hl)
  tkr := fun d => .inl rfl
theorem Trail.more {A : Nat → Nat → Prop} {D : Nat → Int} {x : Nat} {L : List Nat} {tk : Nat → Int} (h : Trail A D x L tk) (hm : Mat A D) (hx : ¬ Has D x) {j l d g : Nat} (hj : L[j]? = some l) (hd : A l d) (ht : tk d = -1) (hg : D d = (g : Int)) : Trail A D x (L ++ [g]) (putI tk d l) := by
  have hgx : g ≠ x := fun e => hx ⟨d, by rw [hg, e]⟩
  have hgL : g ∉ L := by
    intro hm2
    rcases h.src g hm2 with e | ⟨e, he, h0⟩
    · exact hgx e
    · have := hm.one d e g hg he
      subst this
      omega
  have happ : ∀ (k : Nat) (v : Nat), L[k]? = some v → (L ++ [g])[k]? = some v := by
    intro k v hk
    rw [List.getElem?_append_left (List.getElem?_eq_some_iff.1 hk).1]; exact hk
  have hjl := (List.getElem?_eq_some_iff.1 hj).1
  refine ⟨happ 0 x h.head, ?_, fun e i he => ?_, fun k hk => ?_, fun e => ?_⟩
  · rw [List.nodup_append]
    refine ⟨h.nodup, by simp, fun a ha b hb => ?_⟩
    simp only [List.mem_singleton] at hb
    subst hb
    exact fun e => hgL (e ▸ ha)
  · by_cases hde : e = d
    · subst hde
      rw [putI_same] at he
      have hil : i = l := by omega
      subst hil
      refine ⟨hd, j, happ j i hj, fun g2 hg2 => ⟨L.length, hjl, ?_⟩⟩
      have : g2 = g := by omega
      subst this
      rw [List.getElem?_append_right (Nat.le_refl _), Nat.sub_self]; rfl
    · rw [putI_ne hde] at he
      obtain ⟨h1, j1, h2, h3⟩ := h.take e i he
      refine ⟨h1, j1, happ j1 i h2, fun g2 hg2 => ?_⟩
      obtain ⟨j2, h4, h5⟩ := h3 g2 hg2
      exact ⟨j2, h4, happ j2 g2 h5⟩
  · rcases List.mem_append.1 hk with hk | hk
    · rcases h.src k hk with e | ⟨e, he, h0⟩
      · exact .inl e
      · refine .inr ⟨e, he, ?_⟩
        by_cases hde : e = d
        · subst hde; rw [putI_same]; omega
        · rw [putI_ne hde]; exact h0
    · have : k = g := by simpa using hk
      subst this
      exact .inr ⟨d, hg, by rw [putI_same]; omega⟩
  · by_cases hde : e = d
    · subst hde; rw [putI_same]; exact .inr ⟨l, rfl⟩
    · rw [putI_ne hde]; exact h.tkr e
theorem Trail.free {A : Nat → Nat → Prop} {D : Nat → Int} {x : Nat} {L : List Nat} {tk : Nat → Int} (h : Trail A D x L tk) {j l d : Nat} (hj : L[j]? = some l) (hd : A l d) (hg : D d = -1) : Trail A D x L (putI tk d l) := by
  refine ⟨h.head, h.nodup, fun e i he => ?_, fun k hk => ?_, fun e => ?_⟩
  · by_cases hde : e = d
    · subst hde
      rw [putI_same] at he
      have hil : i = l := by omega
      subst hil
      exact ⟨hd, j, hj, fun g2 hg2 => by omega⟩
    · rw [putI_ne hde] at he
      exact h.take e i he
  · rcases h.src k hk with e | ⟨e, he, h0⟩
    · exact .inl e
    · refine .inr ⟨e, he, ?_⟩
      by_cases hde : e = d
      · subst hde; rw [putI_same]; omega
      · rw [putI_ne hde]; exact h0
  · by_cases hde : e = d
    · subst hde; rw [putI_same]; exact .inr ⟨l, rfl⟩
    · rw [putI_ne hde]; exact h.tkr e

structure Hole (A : Nat → Nat → Prop) (D : Nat → Int) (x : Nat) (L : List Nat) (tk : Nat → Int) (Y : Nat → Prop) (C : Nat → Int) (day j : Nat) : Prop where
  idx : ∃ l, L[j]? = some l ∧ tk day = (l : Int)
  hole : C day = D day
  keep : ∀ d, (C d ≠ D d ∨ d = day) → D d = -1 ∨ ∃ j' h : Nat, j < j' ∧ L[j']? = some h ∧ D d = (h : Int)
  one : ∀ d e i : Nat, d ≠ day → e ≠ day → C d = (i : Int) → C e = (i : Int) → d = e
  ok : ∀ d i : Nat, d ≠ day → C d = (i : Int) → A i d
  has : ∀ i : Nat, (∃ d, d ≠ day ∧ C d = (i : Int)) ↔ Has D i ∧ ¬ Y i
  chg : ∀ d, C d ≠ D d → ∃ i : Nat, C d = (i : Int) ∧ i ∈ L ∧ ¬ Y i
  avoid : ∀ T : Nat → Prop, (∀ i, T i → ∀ d, A i d → ∃ j : Nat, D d = (j : Int) ∧ T j) → (∀ i, Y i → ¬ T i) → ∀ d h : Nat, (C d ≠ D d ∨ d = day) → D d = (h : Int) → ¬ T h
structure Moved (A : Nat → Nat → Prop) (D : Nat → Int) (x : Nat) (L : List Nat) (Y : Nat → Prop) (C : Nat → Int) : Prop where
  mat : Mat A C
  has : ∀ i : Nat, Has C i ↔ (Has D i ∧ ¬ Y i) ∨ i = x
  chg : ∀ d, C d ≠ D d → ∃ i : Nat, C d = (i : Int) ∧ i ∈ L ∧ ¬ Y i
  avoid : ∀ T : Nat → Prop, (∀ i, T i → ∀ d, A i d → ∃ j : Nat, D d = (j : Int) ∧ T j) → (∀ i, Y i → ¬ T i) → ∀ d h : Nat, D d = (h : Int) → T h → C d = (h : Int)

theorem Hole.start {A : Nat → Nat → Prop} {D : Nat → Int} {x : Nat} {L : List Nat} {tk : Nat → Int} (ht : Trail A D x L tk) (hm : Mat A D) {Y : Nat → Prop} {day : Nat} {l : Nat} (hl : tk day = (l : Int)) (hY : ∀ i, Y i ↔ D day = (i : Int)) (hD : D day = -1 ∨ ∃ h : Nat, D day = (h : Int)) : ∃ j, Hole A D x L tk Y D day j := by
  obtain ⟨-, j, hj, hn⟩ := ht.take day l hl
  refine ⟨j, ⟨l, hj, hl⟩, rfl, fun d hd => ?_, fun d e i _ _ => hm.one d e i, fun d i _ => hm.ok d i, fun i => ?_, fun d hd => absurd rfl hd, fun T hT hYT d h hd hh hTh => ?_⟩
  · have : d = day := hd.resolve_left (fun h => h rfl)
    subst this
    rcases hD with h | ⟨h, hh⟩
    · exact .inl h
    · obtain ⟨j', h1, h2⟩ := hn h hh
      exact .inr ⟨j', h, h1, h2, hh⟩
  · constructor
    · rintro ⟨d, hd, hi⟩
      refine ⟨⟨d, hi⟩, fun hy => hd ?_⟩
      exact hm.one d day i hi ((hY i).1 hy)
    · rintro ⟨⟨d, hi⟩, hy⟩
      refine ⟨d, fun e => hy ((hY i).2 (e ▸ hi)), hi⟩
  · have : d = day := hd.resolve_left (fun h => h rfl)
    subst this
    exact hYT h ((hY h).2 hh) hTh

theorem nodup_idx {L : List Nat} (h : L.Nodup) {i j v : Nat} (hi : L[i]? = some v) (hj : L[j]? = some v) : i = j := by
  obtain ⟨h1, h2⟩ := List.getElem?_eq_some_iff.1 hi
  obtain ⟨h3, h4⟩ := List.getElem?_eq_some_iff.1 hj
  rw [List.nodup_iff_pairwise_ne, List.pairwise_iff_getElem] at h
  rcases Nat.lt_trichotomy i j with h5 | h5 | h5
  · exact absurd (h2.trans h4.symm) (h i j h1 h3 h5)
  · exact h5
  · exact absurd (h4.trans h2.symm) (h j i h3 h1 h5)

theorem Hole.still {A : Nat → Nat → Prop} {D : Nat → Int} {x : Nat} {L : List Nat} {tk : Nat → Int} {Y : Nat → Prop} {C : Nat → Int} {day j l d : Nat} (ht : Trail A D x L tk) (h : Hole A D x L tk Y C day j) (hl : tk day = (l : Int)) (hd : D d = (l : Int)) : d ≠ day ∧ C d = D d := by
  obtain ⟨l', hj, hl'⟩ := h.idx
  have : l' = l := by omega
  subst this
  have hk : ¬ (C d ≠ D d ∨ d = day) := by
    intro hk
    rcases h.keep d hk with h1 | ⟨j', h', h1, h2, h3⟩
    · omega
    · have : h' = l' := by omega
      subst this
      have := nodup_idx ht.nodup hj h2
      omega
  exact ⟨fun e => hk (.inr e), Classical.byContradiction fun e => hk (.inl e)⟩

theorem Hole.next {A : Nat → Nat → Prop} {D : Nat → Int} {x : Nat} {L : List Nat} {tk : Nat → Int} {Y : Nat → Prop} {C : Nat → Int} {day j l was : Nat} (ht : Trail A D x L tk) (hm : Mat A D) (h : Hole A D x L tk Y C day j) (hl : tk day = (l : Int)) (hw : C was = (l : Int)) (hx : ¬ Has D x) :
    ∃ j', j' < j ∧ Hole A D x L tk Y (putI C day l) was j' ∧ was ≠ day := by
  obtain ⟨l', hj, hl'⟩ := h.idx
  have : l' = l := by omega
  subst this
  have hAd := (ht.take day l' hl).1
  have hwd : was ≠ day := by
    rintro rfl
    have h9 := h.hole
    exact (h.still ht hl (by omega)).1 rfl
  have hh := (h.has l').1 ⟨was, hwd, hw⟩
  obtain ⟨w2, hw2⟩ := hh.1
  have hs := h.still ht hl hw2
  have : w2 = was := h.one w2 was l' hs.1 hwd (by omega) hw
  subst this
  have hlx : l' ≠ x := fun e => hx ⟨w2, by rw [hw2, e]⟩
  obtain ⟨j', h5, h6⟩ : ∃ j', j' < j ∧ ∃ i, L[j']? = some i ∧ tk w2 = (i : Int) := by
    rcases ht.src l' (List.mem_of_getElem? hj) with e | ⟨d, h1, h2⟩
    · exact absurd e hlx
    · have := hm.one d w2 l' h1 hw2
      subst this
      rcases ht.tkr d with h3 | ⟨i, h3⟩
      · omega
      · obtain ⟨-, j', h4, h5⟩ := ht.take d i h3
        obtain ⟨j2, h6, h7⟩ := h5 l' hw2
        have := nodup_idx ht.nodup hj h7
        exact ⟨j', by omega, i, h4, h3⟩
  refine ⟨j', h5, ⟨h6, ?_, fun d hd => ?_, fun d e i hd he h1 h2 => ?_, fun d i hd h1 => ?_, fun i => ?_, fun d hd => ?_, fun T hT hYT d g hd hg => ?_⟩, hwd⟩
  · rw [putI_ne hwd]; omega
  · by_cases hdd : d = day
    · rcases h.keep d (.inr hdd) with h1 | ⟨j2, g, h1, h2, h3⟩
      · exact .inl h1
      · exact .inr ⟨j2, g, by omega, h2, h3⟩
    · rcases hd with hd | hd
      · rw [putI_ne hdd] at hd
        rcases h.keep d (.inl hd) with h1 | ⟨j2, g, h1, h2, h3⟩
        · exact .inl h1
        · exact .inr ⟨j2, g, by omega, h2, h3⟩
      · subst hd
        exact .inr ⟨j, l', h5, hj, hw2⟩
  · by_cases hdd : d = day
    · subst hdd
      by_cases hed : e = d
      · exact hed.symm
      · rw [putI_same] at h1
        rw [putI_ne hed] at h2
        exact absurd (h.one e w2 l' hed hwd (by omega) hw) he
    · rw [putI_ne hdd] at h1
      by_cases hed : e = day
      · subst hed
        rw [putI_same] at h2
        exact absurd (h.one d w2 l' hdd hwd (by omega) hw) hd
      · rw [putI_ne hed] at h2
        exact h.one d e i hdd hed h1 h2
  · by_cases hdd : d = day
    · subst hdd
      rw [putI_same] at h1
      have : l' = i := by omega
      subst this
      exact hAd
    · rw [putI_ne hdd] at h1
      exact h.ok d i hdd h1
  · rw [← h.has i]
    constructor
    · rintro ⟨d, hd, h1⟩
      by_cases hdd : d = day
      · subst hdd
        rw [putI_same] at h1
        exact ⟨w2, hwd, by omega⟩
      · rw [putI_ne hdd] at h1
        exact ⟨d, hdd, h1⟩
    · rintro ⟨d, hd, h1⟩
      by_cases hdw : d = w2
      · subst hdw
        exact ⟨day, fun e => hwd e.symm, by rw [putI_same]; omega⟩
      · exact ⟨d, hdw, by rw [putI_ne hd]; exact h1⟩
  · by_cases hdd : d = day
    · subst hdd
      exact ⟨l', putI_same, List.mem_of_getElem? hj, hh.2⟩
    · rw [putI_ne hdd] at hd ⊢
      exact h.chg d hd
  · have hday := h.avoid T hT hYT
    by_cases hdd : d = day
    · exact hday d g (.inr hdd) hg
    · rcases hd with hd | hd
      · rw [putI_ne hdd] at hd
        exact hday d g (.inl hd) hg
      · subst hd
        have : g = l' := by omega
        subst this
        intro hTg
        obtain ⟨j2, h7, h8⟩ := hT g hTg day hAd
        exact hday day j2 (.inr rfl) h7 h8

theorem Hole.last {A : Nat → Nat → Prop} {D : Nat → Int} {x : Nat} {L : List Nat} {tk : Nat → Int} {Y : Nat → Prop} {C : Nat → Int} {day j l : Nat} (ht : Trail A D x L tk) (h : Hole A D x L tk Y C day j) (hl : tk day = (l : Int)) (hw : ∀ d, C d ≠ (l : Int)) (hY : ¬ Y x) :
    l = x ∧ Moved A D x L Y (putI C day l) := by
  obtain ⟨l', hj, hl'⟩ := h.idx
  have : l' = l := by omega
  subst this
  have hAd := (ht.take day l' hl).1
  have hlx : l' = x := by
    rcases ht.src l' (List.mem_of_getElem? hj) with e | ⟨d, h1, h2⟩
    · exact e
    · exact absurd ((h.still ht hl h1).2.trans h1) (hw d)
  refine ⟨hlx, ⟨⟨fun d i h1 => ?_, fun d e i h1 h2 => ?_⟩, fun i => ?_, fun d hd => ?_, fun T hT hYT d g hg hTg => ?_⟩⟩
  · by_cases hdd : d = day
    · subst hdd
      rw [putI_same] at h1
      have : l' = i := by omega
      subst this
      exact hAd
    · rw [putI_ne hdd] at h1
      exact h.ok d i hdd h1
  · by_cases hdd : d = day
    · subst hdd
      by_cases hed : e = d
      · exact hed.symm
      · rw [putI_same] at h1
        rw [putI_ne hed] at h2
        exact absurd (by omega) (hw e)
    · rw [putI_ne hdd] at h1
      by_cases hed : e = day
      · subst hed
        rw [putI_same] at h2
        exact absurd (by omega) (hw d)
      · rw [putI_ne hed] at h2
        exact h.one d e i hdd hed h1 h2
  · rw [← h.has i]
    constructor
    · rintro ⟨d, h1⟩
      by_cases hdd : d = day
      · subst hdd
        rw [putI_same] at h1
        exact .inr (by omega)
      · rw [putI_ne hdd] at h1
        exact .inl ⟨d, hdd, h1⟩
    · rintro (⟨d, hd, h1⟩ | h1)
      · exact ⟨d, by rw [putI_ne hd]; exact h1⟩
      · exact ⟨day, by rw [putI_same, hlx, h1]⟩
  · by_cases hdd : d = day
    · subst hdd
      exact ⟨l', putI_same, List.mem_of_getElem? hj, by rw [hlx]; exact hY⟩
    · rw [putI_ne hdd] at hd ⊢
      exact h.chg d hd
  · have hday := h.avoid T hT hYT
    by_cases hdd : d = day
    · exact absurd hTg (hday d g (.inr hdd) hg)
    · rw [putI_ne hdd]
      refine Classical.byContradiction fun hc => hday d g (.inl (fun e => hc (e.trans hg))) hg hTg
end Go.Proofs.Try
namespace Go.Proofs.Try

section
variable {A : Nat → Nat → Prop} {m : Nat → Int} {D C : Nat → Int} {x N : Nat} {L : List Nat} {tk : Nat → Int}

theorem best_free (hb : BestOf A m D x) (hmv : Moved A D x L (fun _ => False) C) : BestOf A m C (x + 1) := by
  refine ⟨hmv.mat, fun u hu hn => ?_⟩
  have hux : u ≠ x := fun e => hn ((hmv.has u).2 (.inr e))
  have hnD : ¬ Has D u := fun h => hn ((hmv.has u).2 (.inl ⟨h, fun h => h⟩))
  obtain ⟨T, hT⟩ := hb.cert u (by omega) hnD
  refine ⟨T, ⟨fun j hj => (hmv.has j).2 (.inl ⟨hT.has j hj, fun h => h⟩), hT.merit, fun i hi d hd => ?_⟩⟩
  obtain ⟨j, h1, h2⟩ := hT.days i hi d hd
  exact ⟨j, hmv.avoid T (fun i hi => hT.days i (.inl hi)) (fun _ h => h.elim) d j h1 h2, h2⟩

structure Full (A : Nat → Nat → Prop) (D : Nat → Int) (L : List Nat) : Prop where
  days : ∀ i, i ∈ L → ∀ d, A i d → ∃ j : Nat, D d = (j : Int) ∧ j ∈ L

theorem best_self (hb : BestOf A m D x) (ht : Trail A D x L tk) (hf : Full A D L) (hx : ¬ Has D x) (hmin : ∀ i, i ∈ L → m x ≤ m i) : BestOf A m D (x + 1) := by
  refine ⟨hb.mat, fun u hu hn => ?_⟩
  by_cases hux : u = x
  · subst hux
    refine ⟨fun j => j ∈ L ∧ j ≠ u, ⟨fun j hj => ?_, fun j hj => hmin j hj.1, fun i hi d hd => ?_⟩⟩
    · rcases ht.src j hj.1 with e | ⟨d, h, -⟩
      · exact absurd e hj.2
      · exact ⟨d, h⟩
    · have hiL : i ∈ L := by
        rcases hi with hi | hi
        · exact hi.1
        · rw [hi]; exact List.mem_of_getElem? ht.head
      obtain ⟨j, h1, h2⟩ := hf.days i hiL d hd
      exact ⟨j, h1, h2, fun e => hn ⟨d, by rw [h1, e]⟩⟩
  · exact hb.cert u (by omega) hn

theorem best_other {y : Nat} (hb : BestOf A m D x) (ht : Trail A D x L tk) (hf : Full A D L) (hx : ¬ Has D x) (hmin : ∀ i, i ∈ L → m y ≤ m i) (hyL : y ∈ L) (hyx : y ≠ x) (hmv : Moved A D x L (fun i => i = y) C) : BestOf A m C (x + 1) := by
  have hnC : ¬ Has C y := fun h => by
    rcases (hmv.has y).1 h with h | h
    · exact h.2 rfl
    · exact hyx h
  have hLC : ∀ j, j ∈ L → j ≠ y → Has C j := by
    intro j hj hjy
    rcases ht.src j hj with e | ⟨d, h, -⟩
    · exact (hmv.has j).2 (.inr e)
    · exact (hmv.has j).2 (.inl ⟨⟨d, h⟩, hjy⟩)
  have hLd : ∀ i, i ∈ L → ∀ d, A i d → ∃ j : Nat, C d = (j : Int) ∧ j ∈ L ∧ j ≠ y := by
    intro i hi d hd
    by_cases hc : C d = D d
    · obtain ⟨j, h1, h2⟩ := hf.days i hi d hd
      exact ⟨j, by rw [hc, h1], h2, fun e => hnC ⟨d, by rw [hc, h1, e]⟩⟩
    · exact hmv.chg d hc
  refine ⟨hmv.mat, fun u hu hn => ?_⟩
  by_cases huy : u = y
  · subst huy
    refine ⟨fun j => j ∈ L ∧ j ≠ u, ⟨fun j hj => hLC j hj.1 hj.2, fun j hj => hmin j hj.1, fun i hi d hd => ?_⟩⟩
    refine hLd i ?_ d hd
    rcases hi with hi | hi
    · exact hi.1
    · rw [hi]; exact hyL
  · have hux : u ≠ x := fun e => hn ((hmv.has u).2 (.inr e))
    have hnD : ¬ Has D u := fun h => hn ((hmv.has u).2 (.inl ⟨h, huy⟩))
    obtain ⟨T, hT⟩ := hb.cert u (by omega) hnD
    by_cases hTy : T y
    · refine ⟨fun j => (T j ∨ j ∈ L) ∧ j ≠ y, ⟨fun j hj => ?_, fun j hj => ?_, fun i hi d hd => ?_⟩⟩
      · rcases hj.1 with h | h
        · exact (hmv.has j).2 (.inl ⟨hT.has j h, hj.2⟩)
        · exact hLC j h hj.2
      · rcases hj.1 with h | h
        · exact hT.merit j h
        · exact Int.le_trans (hT.merit y hTy) (hmin j h)
      · have hi2 : i ∈ L ∨ T i ∨ i = u := by
          rcases hi with hi | hi
          · rcases hi.1 with h | h
            · exact .inr (.inl h)
            · exact .inl h
          · exact .inr (.inr hi)
        rcases hi2 with h | h
        · obtain ⟨j, h1, h2, h3⟩ := hLd i h d hd
          exact ⟨j, h1, .inr h2, h3⟩
        · by_cases hc : C d = D d
          · obtain ⟨j, h1, h2⟩ := hT.days i h d hd
            exact ⟨j, by rw [hc, h1], .inl h2, fun e => hnC ⟨d, by rw [hc, h1, e]⟩⟩
          · obtain ⟨j, h1, h2, h3⟩ := hmv.chg d hc
            exact ⟨j, h1, .inr h2, h3⟩
    · have hav := hmv.avoid T (fun i hi => hT.days i (.inl hi)) (fun i hi h => hTy (hi ▸ h))
      refine ⟨T, ⟨fun j hj => (hmv.has j).2 (.inl ⟨hT.has j hj, fun e => hTy (e ▸ hj)⟩), hT.merit, fun i hi d hd => ?_⟩⟩
      obtain ⟨j, h1, h2⟩ := hT.days i hi d hd
      exact ⟨j, hav d j h1 h2, h2⟩

theorem trail_cert {u : Nat} {T : Nat → Prop} (hT : CertT A m D u T) (ht : Trail A D u L tk) : ∀ (n j : Nat) (l : Nat), j < n → L[j]? = some l → T l ∨ l = u
  | 0, j, l, h, _ => absurd h (Nat.not_lt_zero j)
  | n + 1, j, l, hj, hl => by
    rcases ht.src l (List.mem_of_getElem? hl) with e | ⟨d, h1, h2⟩
    · exact .inr e
    · rcases ht.tkr d with h3 | ⟨i, h3⟩
      · omega
      · obtain ⟨h4, j1, h5, h6⟩ := ht.take d i h3
        obtain ⟨j2, h7, h8⟩ := h6 l h1
        have h9 := nodup_idx ht.nodup h8 hl
        subst h9
        have := trail_cert hT ht n j1 i (by omega) h5
        obtain ⟨g, h10, h11⟩ := hT.days i this d h4
        have : g = l := by omega
        exact .inl (this ▸ h11)
end


def cntP (P : Nat → Bool) (N : Nat) : Nat := ((List.range N).filter P).length
theorem cntP_succ {P : Nat → Bool} {N : Nat} : cntP P (N + 1) = cntP P N + if P N = true then 1 else 0 := by
  simp only [cntP, List.range_succ, List.filter_append, List.length_append]
  by_cases h : P N = true
  · simp [h]
  · simp [h]

open Classical in
theorem nodup_len {α : Type} : ∀ (l m : List α), l.Nodup → (∀ x ∈ l, x ∈ m) → l.length ≤ m.length
  | [], m, _, _ => Nat.zero_le _
  | x :: l, m, hn, h => by
    rw [List.nodup_cons] at hn
    have h1 := nodup_len l (m.erase x) hn.2 (fun y hy => by
      have := h y (List.mem_cons_of_mem _ hy)
      exact (List.mem_erase_of_ne (fun e => hn.1 (by rw [← e]; exact hy))).2 this)
    have hx := h x (List.mem_cons_self ..)
    rw [List.length_erase_of_mem hx] at h1
    have := List.length_pos_of_mem hx
    simp only [List.length_cons]; omega
theorem cntP_inj {P Q : Nat → Bool} {N : Nat} (f : Nat → Nat) (hf : ∀ i, i < N → P i = true → f i < N ∧ Q (f i) = true) (hinj : ∀ i j, i < N → j < N → P i = true → P j = true → f i = f j → i = j) : cntP P N ≤ cntP Q N := by
  have h := nodup_len (((List.range N).filter P).map f) ((List.range N).filter Q) ?_ ?_
  · rwa [List.length_map] at h
  · rw [List.nodup_iff_pairwise_ne, List.pairwise_map]
    have hp : ((List.range N).filter P).Pairwise (· ≠ ·) := by
      rw [← List.nodup_iff_pairwise_ne]; exact List.nodup_range.filter _
    refine List.Pairwise.imp_of_mem (fun {a b} ha hb hab he => hab ?_) hp
    simp only [List.mem_filter, List.mem_range] at ha hb
    exact hinj a b ha.1 hb.1 ha.2 hb.2 he
  · intro y hy
    obtain ⟨i, hi, rfl⟩ := List.mem_map.1 hy
    simp only [List.mem_filter, List.mem_range] at hi ⊢
    exact hf i hi.1 hi.2
def sumP (f : Nat → Nat) : Nat → Nat
  | 0 => 0
  | N + 1 => sumP f N + f N
theorem sumP_min (P : Nat → Bool) (g : Nat → Nat) (w N : Nat) : sumP (fun i => if P i = true then min (g i) (w + 1) else 0) N = sumP (fun i => if P i = true then min (g i) w else 0) N + cntP (fun i => P i && decide (w + 1 ≤ g i)) N := by
  induction N with
  | zero => rfl
  | succ N ih =>
    rw [sumP, sumP, cntP_succ, ih]
    by_cases h : P N = true
    · by_cases h2 : w + 1 ≤ g N
      · simp [h, h2]; omega
      · simp [h, h2]; omega
    · simp [h]
theorem sumP_cnt {P Q : Nat → Bool} {g : Nat → Nat} {N : Nat} (h : ∀ w, cntP (fun i => P i && decide (w + 1 ≤ g i)) N ≤ cntP (fun i => Q i && decide (w + 1 ≤ g i)) N) : ∀ w, sumP (fun i => if P i = true then min (g i) w else 0) N ≤ sumP (fun i => if Q i = true then min (g i) w else 0) N
  | 0 => by
    have : ∀ (R : Nat → Bool) N, sumP (fun i => if R i = true then min (g i) 0 else 0) N = 0 := by
      intro R N
      induction N with
      | zero => rfl
      | succ N ih => rw [sumP, ih]; simp
    rw [this, this]; exact Nat.le_refl _
  | w + 1 => by
    rw [sumP_min, sumP_min]
    exact Nat.add_le_add (sumP_cnt h w) (h w)
theorem sumP_congr {f g : Nat → Nat} : ∀ N, (∀ i, i < N → f i = g i) → sumP f N = sumP g N
  | 0, _ => rfl
  | N + 1, h => by rw [sumP, sumP, sumP_congr N (fun i hi => h i (by omega)), h N (by omega)]
theorem sumP_le_cnt {P Q : Nat → Bool} {g : Nat → Nat} {N : Nat} (h : ∀ w, cntP (fun i => P i && decide (w + 1 ≤ g i)) N ≤ cntP (fun i => Q i && decide (w + 1 ≤ g i)) N) : sumP (fun i => if P i = true then g i else 0) N ≤ sumP (fun i => if Q i = true then g i else 0) N := by
  obtain ⟨W, hW⟩ : ∃ W, ∀ i, i < N → g i ≤ W := by
    clear h
    induction N with
    | zero => exact ⟨0, fun i hi => absurd hi (Nat.not_lt_zero i)⟩
    | succ N ih =>
      obtain ⟨W, hW⟩ := ih
      refine ⟨max W (g N), fun i hi => ?_⟩
      rcases Nat.lt_or_ge i N with h | h
      · exact Nat.le_trans (hW i h) (Nat.le_max_left ..)
      · have : i = N := by omega
        subst this; exact Nat.le_max_right ..
  have := sumP_cnt h W
  rwa [sumP_congr N (g := fun i => if P i = true then g i else 0) (fun i hi => by have := hW i hi; split <;> omega), sumP_congr (f := fun i => if Q i = true then min (g i) W else 0) N (g := fun i => if Q i = true then g i else 0) (fun i hi => by have := hW i hi; split <;> omega)] at this

open Classical in
theorem best_cnt {A : Nat → Nat → Prop} {m : Nat → Int} {D E : Nat → Int} {N : Nat} (hb : BestOf A m D N) (hE : Mat A E) (hN : ∀ d i : Nat, D d = (i : Int) → i < N) (w : Int) :
    cntP (fun i => decide (Has E i) && decide (w ≤ m i)) N ≤ cntP (fun i => decide (Has D i) && decide (w ≤ m i)) N := by
  let T : Nat → Prop := fun j => ∃ u, u < N ∧ ¬ Has D u ∧ w ≤ m u ∧ ∃ T, CertT A m D u T ∧ T j
  let TU : Nat → Prop := fun i => T i ∨ (i < N ∧ ¬ Has D i ∧ w ≤ m i)
  have hTd : ∀ i, TU i → ∀ d, A i d → ∃ j : Nat, D d = (j : Int) ∧ T j := by
    rintro i (⟨u, h1, h2, h3, S, h4, h5⟩ | ⟨h1, h2, h3⟩) d hd
    · obtain ⟨j, h6, h7⟩ := h4.days i (.inl h5) d hd
      exact ⟨j, h6, u, h1, h2, h3, S, h4, h7⟩
    · obtain ⟨S, h4⟩ := hb.cert i h1 h2
      obtain ⟨j, h6, h7⟩ := h4.days i (.inr rfl) d hd
      exact ⟨j, h6, i, h1, h2, h3, S, h4, h7⟩
  have hTm : ∀ j, T j → Has D j ∧ w ≤ m j := by
    rintro j ⟨u, h1, h2, h3, S, h4, h5⟩
    exact ⟨h4.has j h5, Int.le_trans h3 (h4.merit j h5)⟩
  have hex : ∀ i, ∃ k : Nat, (Has E i → TU i → T k ∧ ∃ d : Nat, E d = (i : Int) ∧ D d = (k : Int)) ∧ (¬ TU i → k = i) := by
    intro i
    by_cases h1 : TU i
    · by_cases h2 : Has E i
      · obtain ⟨d, hd⟩ := h2
        obtain ⟨j, h3, h4⟩ := hTd i h1 d (hE.ok d i hd)
        exact ⟨j, fun _ _ => ⟨h4, d, hd, h3⟩, fun h => absurd h1 h⟩
      · exact ⟨i, fun h => absurd h h2, fun _ => rfl⟩
    · exact ⟨i, fun _ h => absurd h h1, fun _ => rfl⟩
  obtain ⟨f, hf⟩ : ∃ f : Nat → Nat, ∀ i, (Has E i → TU i → T (f i) ∧ ∃ d : Nat, E d = (i : Int) ∧ D d = (f i : Int)) ∧ (¬ TU i → f i = i) := ⟨fun i => Classical.choose (hex i), fun i => Classical.choose_spec (hex i)⟩
  refine cntP_inj f (fun i hi hP => ?_) (fun i j hi hj hPi hPj he => ?_)
  · simp only [Bool.and_eq_true, decide_eq_true_eq] at hP ⊢
    by_cases h : TU i
    · obtain ⟨h1, d, h2, h3⟩ := (hf i).1 hP.1 h
      exact ⟨hN d _ h3, hTm _ h1⟩
    · rw [(hf i).2 h]
      refine ⟨hi, Classical.byContradiction fun hn => h (.inr ⟨hi, hn, hP.2⟩), hP.2⟩
  · simp only [Bool.and_eq_true, decide_eq_true_eq] at hPi hPj
    by_cases h : TU i
    · obtain ⟨h1, d, h2, h3⟩ := (hf i).1 hPi.1 h
      by_cases h' : TU j
      · obtain ⟨h4, e, h5, h6⟩ := (hf j).1 hPj.1 h'
        have hde := hb.mat.one d e (f j) (by rw [h3, he]) h6
        subst hde
        omega
      · rw [(hf j).2 h'] at he
        exact absurd (.inl (he ▸ h1)) h'
    · by_cases h' : TU j
      · obtain ⟨h4, e, h5, h6⟩ := (hf j).1 hPj.1 h'
        rw [(hf i).2 h] at he
        exact absurd (.inl (he ▸ h4)) h
      · rw [(hf i).2 h, (hf j).2 h'] at he
        exact he
end Go.Proofs.Try
namespace Go.Proofs.Try


def worthD (m : Nat → Int) (D : Nat → Int) : Nat → Int
  | 0 => 0
  | n + 1 => worthD m D n + if 0 ≤ D n then m (D n).toNat else 0
def worthF (P : Nat → Bool) (m : Nat → Int) : Nat → Int
  | 0 => 0
  | n + 1 => worthF P m n + if P n = true then m n else 0
theorem worthF_congr {P Q : Nat → Bool} {m m' : Nat → Int} : ∀ N, (∀ i, i < N → P i = Q i ∧ m i = m' i) → worthF P m N = worthF Q m' N
  | 0, _ => rfl
  | N + 1, h => by rw [worthF, worthF, worthF_congr N (fun i hi => h i (by omega)), (h N (by omega)).1, (h N (by omega)).2]
theorem worthF_sum {P : Nat → Bool} {m : Nat → Int} : ∀ N, (∀ i, i < N → 0 ≤ m i) → worthF P m N = (sumP (fun i => if P i = true then (m i).toNat else 0) N : Nat)
  | 0, _ => rfl
  | N + 1, h => by
    rw [worthF, sumP, worthF_sum N (fun i hi => h i (by omega))]
    have := h N (by omega)
    split <;> omega
theorem worthF_add {P : Nat → Bool} {m : Nat → Int} {k : Nat} : ∀ N, P k = false → k < N → worthF (fun i => P i || decide (i = k)) m N = worthF P m N + m k
  | 0, _, h => absurd h (Nat.not_lt_zero _)
  | N + 1, hp, h => by
    rcases Nat.lt_or_ge k N with h1 | h1
    · rw [worthF, worthF, worthF_add N hp h1]
      have h2 : N ≠ k := by omega
      simp only [h2, decide_false, Bool.or_false]; omega
    · have h2 : k = N := by omega
      subst h2
      have : worthF (fun i => P i || decide (i = k)) m k = worthF P m k := worthF_congr k fun i hi => by
        have h3 : i ≠ k := by omega
        simp [h3]
      rw [worthF, worthF, this, hp]; simp
theorem worthF_none {m : Nat → Int} : ∀ N, worthF (fun _ => false) m N = 0
  | 0 => rfl
  | N + 1 => by rw [worthF, worthF_none N]; rfl
def hasN (D : Nat → Int) (n i : Nat) : Bool := (List.range n).any fun d => D d == (i : Int)
theorem hasN_iff {D : Nat → Int} {n i : Nat} : hasN D n i = true ↔ ∃ d, d < n ∧ D d = (i : Int) := by
  simp [hasN]
theorem hasN_succ {D : Nat → Int} {n i : Nat} : hasN D (n + 1) i = (hasN D n i || (D n == (i : Int))) := by
  simp [hasN, List.range_succ]
theorem worthD_F {m D : Nat → Int} {N : Nat} : ∀ n, (∀ d e i : Nat, d < n → e < n → D d = (i : Int) → D e = (i : Int) → d = e) → (∀ d i : Nat, d < n → D d = (i : Int) → i < N) → worthD m D n = worthF (hasN D n) m N
  | 0, _, _ => by
    rw [worthD]
    have : worthF (hasN D 0) m N = worthF (fun _ => false) m N := worthF_congr N fun i _ => ⟨rfl, rfl⟩
    rw [this, worthF_none]
  | n + 1, h1, h2 => by
    rw [worthD, worthD_F n (fun d e i hd he => h1 d e i (by omega) (by omega)) (fun d i hd => h2 d i (by omega))]
    by_cases h : 0 ≤ D n
    · obtain ⟨k, hk⟩ := Int.eq_ofNat_of_zero_le h
      have hkN := h2 n k (by omega) hk
      have hno : hasN D n k = false := by
        rw [Bool.eq_false_iff]
        intro hc
        obtain ⟨d, hd, hdk⟩ := hasN_iff.1 hc
        have := h1 d n k (by omega) (by omega) hdk hk
        omega
      rw [if_pos h, hk, Int.toNat_natCast]
      rw [← worthF_add N hno hkN]
      refine worthF_congr N fun i hi => ⟨?_, rfl⟩
      rw [hasN_succ, hk]
      congr 1
      rw [Bool.eq_iff_iff]
      simp only [decide_eq_true_eq, beq_iff_eq]
      omega
    · rw [if_neg h, Int.add_zero]
      refine worthF_congr N fun i hi => ⟨?_, rfl⟩
      rw [hasN_succ]
      have : (D n == (i : Int)) = false := by
        rw [beq_eq_false_iff_ne]; omega
      rw [this, Bool.or_false]

structure Days (D : Nat → Int) (n N : Nat) : Prop where
  out : ∀ d i : Nat, D d = (i : Int) → d < n ∧ i < N
theorem has_hasN {D : Nat → Int} {n N i : Nat} (h : Days D n N) : Has D i ↔ hasN D n i = true := by
  rw [hasN_iff]
  constructor
  · rintro ⟨d, hd⟩; exact ⟨d, (h.out d i hd).1, hd⟩
  · rintro ⟨d, -, hd⟩; exact ⟨d, hd⟩
theorem worthD_has {A : Nat → Nat → Prop} {m D : Nat → Int} {n N : Nat} (h : Days D n N) (hm : Mat A D) : worthD m D n = worthF (hasN D n) m N :=
  worthD_F n (fun d e i _ _ => hm.one d e i) (fun d i _ hd => (h.out d i hd).2)

open Classical in
theorem best_worth {A : Nat → Nat → Prop} {m : Nat → Int} {D E : Nat → Int} {n N : Nat} (hb : BestOf A m D N) (hE : Mat A E) (hD : Days D n N) (hEd : Days E n N) (h0 : ∀ i, i < N → 0 ≤ m i) : worthD m E n ≤ worthD m D n := by
  rw [worthD_has hEd hE, worthD_has hD hb.mat, worthF_sum N h0, worthF_sum N h0, Int.ofNat_le]
  refine sumP_le_cnt fun w => ?_
  have h := best_cnt hb hE (fun d i hd => (hD.out d i hd).2) (w + 1 : Nat)
  have hc : ∀ F : Nat → Int, Days F n N → cntP (fun i => decide (Has F i) && decide (((w + 1 : Nat) : Int) ≤ m i)) N = cntP (fun i => hasN F n i && decide (w + 1 ≤ (m i).toNat)) N := by
    intro F hF
    unfold cntP
    congr 1
    refine List.filter_congr fun i hi => ?_
    have h9 : decide (Has F i) = hasN F n i := by
      rw [Bool.eq_iff_iff, decide_eq_true_eq, has_hasN hF]
    rw [h9]
    have := h0 i (List.mem_range.1 hi)
    congr 1
    rw [decide_eq_decide]
    omega
  rwa [hc E hEd, hc D hD] at h
end Go.Proofs.Try
namespace Go.Proofs.Try
open Go Go.Am Go.RowKit
set_option maxRecDepth 100000


def trCells (lv : Value) (T : Nat → Int) (fr : Int) : List Value := lv :: ((List.range 120).map (fun i => Value.int .i64 (T i)) ++ [.int .i64 fr])
section
variable {lv gv : Value} {T E : Nat → Int} {fr gr : Int}
theorem trCells_plan : trCells lv T fr = planCells lv T ++ [.int .i64 fr] := rfl
@[go_sem] theorem trCells_length : (trCells lv T fr).length = 122 := by simp [trCells]
@[go_sem] theorem trCells_take : (trCells lv T fr).take 122 = trCells lv T fr := List.take_of_length_le (by rw [trCells_length]; exact Nat.le_refl _)
@[go_sem] theorem trCells_one {a : Option Addr} {n c : Nat} : (trCells (.slice a n c) T fr).all oneV = true := by
  rw [trCells_plan, List.all_append, planCells_one]; rfl
@[go_sem] theorem trCells_get {k : Nat} (h : k < 120) : (trCells lv T fr)[1 + k]? = some (.int .i64 (T k)) := by
  rw [trCells_plan, List.getElem?_append_left (by rw [planCells_length]; omega), planCells_get h]
@[go_sem] theorem trCells_get0 : (trCells lv T fr)[0]? = some lv := rfl
@[go_sem] theorem trCells_get121 : (trCells lv T fr)[121]? = some (.int .i64 fr) := by
  rw [trCells_plan, List.getElem?_append_right (by rw [planCells_length]; omega), planCells_length]; rfl
@[go_sem] theorem setL_tr {k : Nat} {v : Int} (h : k < 120) : setL (trCells lv T fr) (1 + k) [Value.int .i64 v] = some (trCells lv (putI T k v) fr) := by
  have h1 := setL_plan (fv := lv) (D := T) (v := v) h
  rw [setL_one (by rw [planCells_length]; omega)] at h1
  rw [setL_one (by rw [trCells_length]; omega), trCells_plan, trCells_plan, List.set_append_left _ _ (by rw [planCells_length]; omega)]
  rw [Option.some.injEq] at h1
  rw [h1]; rfl
@[go_sem] theorem setL_tr0 {x : Value} : setL (trCells lv T fr) 0 [x] = some (trCells x T fr) := rfl
@[go_sem] theorem setL_tr121 {v : Int} : setL (trCells lv T fr) 121 [Value.int .i64 v] = some (trCells lv T v) := by
  rw [setL_one (by rw [trCells_length]; omega), trCells_plan, trCells_plan, List.set_append_right _ _ (by rw [planCells_length]; omega), planCells_length]; rfl
@[go_sem] theorem setL_trAll : setL (trCells lv T fr) 0 (trCells gv E gr) = some (trCells gv E gr) := setL_same (by simp [trCells])
@[go_sem] theorem setL_put_tr : setL.put (trCells lv T fr) (trCells gv E gr) = some (trCells gv E gr) := by
  rw [← setL_at0]; exact setL_trAll
theorem trCells_congr (h : ∀ i, i < 120 → T i = E i) : trCells lv T fr = trCells lv E fr := by
  rw [trCells_plan, trCells_plan, planCells_congr h]
@[go_sem] theorem ze124 : zeroT Try.prog 124 = some (.agg (trCells (.slice none 0 0) (fun _ => 0) 0).toArray) := by kernel_rfl
theorem st124 : structOk Try.prog 124 = true := by kernel_rfl
end

theorem own_block {H : AHeap} {bs : Nat} {v : Value} {e : TypeId} {size : Nat} {cells : List Value} (h : Own H bs v e size cells) {i n : Nat} (hv : v = .slice (some ⟨i, 0, none⟩) n n) (hn : 0 < n) : bs ≤ i ∧ i < H.n ∧ H.get i = .row cells e := by
  rcases h with ⟨h, _⟩ | ⟨b, m, h1, h2, h3, h4, h5⟩
  · rw [hv] at h; cases h
  · rw [hv] at h1; cases h1; exact ⟨h2, h3, h4⟩
theorem own_slice {H : AHeap} {bs : Nat} {v : Value} {e : TypeId} {size : Nat} {cells : List Value} (h : Own H bs v e size cells) : ∃ a n, v = .slice a n n := by
  rcases h with ⟨rfl, _⟩ | ⟨b, m, h1, _⟩
  · exact ⟨none, 0, rfl⟩
  · exact ⟨_, m, h1⟩
theorem own_at {H H' : AHeap} {bs : Nat} {v : Value} {e : TypeId} {size : Nat} {cells : List Value} (h : Own H bs v e size cells) (hn : H.n ≤ H'.n) (hg : ∀ i n, v = .slice (some ⟨i, 0, none⟩) n n → 0 < n → H'.get i = H.get i) : Own H' bs v e size cells := by
  rcases h with h | ⟨b, m, h1, h2, h3, h4, h5, h6⟩
  · exact .inl h
  · exact .inr ⟨b, m, h1, h2, Nat.lt_of_lt_of_le h3 hn, (hg b m h1 h6).trans h4, h5, h6⟩
theorem ints_own {H : AHeap} {base : Nat} {v : Value} {l : List Int} (h : Own H base v 3 1 (l.map (Value.int .i64))) (hl : l.length ≤ 9223372036854775807) : Ints H v l := by
  rcases h with ⟨h1, h2⟩ | ⟨b, n, h1, h2, h3, h4, h5, h6⟩
  · subst h1
    have h3 : l = [] := by simpa using h2
    subst h3
    exact ⟨rfl, hl, none, 0, rfl, fun _ => rfl, fun h => absurd h (Nat.lt_irrefl _)⟩
  · subst h1
    have hn : n = l.length := by simp at h5; omega
    subst hn
    refine ⟨by simp, hl, _, _, rfl, (fun h => by cases h), fun _ => ⟨b, 0, none, rfl, h3, fun j u hu => ?_⟩⟩
    simp only [cellAt, h4, Nat.zero_add]; exact hu

def markOf (r : Nat) : Deferred := { target := .collected r, args := #[] }
theorem leave_marks {P : Program} {loops : List (Nat × LInfo)} {fn : Func} {f : AF} {R : Value → AHeap → Prop} : ∀ (rs : List Nat) (H : AHeap), rs.Nodup → (∀ r, r ∈ rs → H.get r = .defs false) →
    (∀ H2 : AHeap, H2.n = H.n → (∀ i, i ∉ rs → H2.get i = H.get i) → ∃ l, resA P f H2 fn.results.toList = some l ∧ R (oneOf l) H2) → leaveP P loops fn f R (rs.map markOf) H
  | [], H, _, _, h => h H rfl fun _ _ => rfl
  | r :: rs, H, hn, hg, h => by
    rw [List.nodup_cons] at hn
    refine ⟨hg r (List.mem_cons_self ..), leave_marks rs _ hn.2 (fun q hq => ?_) fun H2 h2 h3 => h H2 (h2.trans (AHeap.n_upd ..)) fun i hi => ?_⟩
    · rw [AHeap.get_upd_ne (show q ≠ r from fun e => hn.1 (by rw [← e]; exact hq))]; exact hg q (List.mem_cons_of_mem _ hq)
    · simp only [List.mem_cons, not_or] at hi
      rw [h3 i hi.2, AHeap.get_upd_ne hi.1]
theorem Post.body_marks {P : Program} {H : AHeap} {f : AF} {loops : List (Nat × LInfo)} {fn : Func} {R : Value → AHeap → Prop} (rs : List Nat) (hd : f.defers = rs.map markOf) (hn : rs.Nodup) (hr : ∀ r, r ∈ rs → H.get r = .defs false) (h : ∀ H2 : AHeap, H2.n = H.n → (∀ i, i ∉ rs → H2.get i = H.get i) → ∀ K : Value → AHeap → Prop, (∀ v H, R v H → K v H) → resP P f H2 K fn.results.toList) : bodyS P loops fn R .ret f H := by
  show leaveP P loops fn f R f.defers H
  rw [hd]
  refine leave_marks rs H hn hr fun H2 h2 h3 => ?_
  have h0 := h H2 h2 h3 _ fun _ _ h => h
  unfold resP at h0
  split at h0
  · rename_i l hl; exact ⟨l, hl, h0⟩
  · exact h0.elim

def canD (fls : List Flaw) (D0 : Nat → Int) (i d : Nat) : Prop := i < fls.length ∧ d < 120 ∧ D0 d ≠ -2 ∧ (fls.getD i nowhere).lo ≤ ((d % 60 : Nat) : Int) ∧ ((d % 60 : Nat) : Int) ≤ (fls.getD i nowhere).hi
structure PlanD (fls : List Flaw) (D0 D : Nat → Int) : Prop where
  closed : ∀ d, D d = -2 ↔ D0 d = -2
  val : ∀ d, d < 120 → D d = -2 ∨ D d = -1 ∨ ∃ i : Nat, D d = (i : Int) ∧ i < fls.length
  out : ∀ d, 120 ≤ d → D d = -2
  mat : Mat (canD fls D0) D
structure TrP (fls : List Flaw) (D0 D : Nat → Int) (x : Nat) (L : List Nat) (T : Nat → Int) : Prop where
  tr : Trail (canD fls D0) D x L T
  held : ∀ d : Nat, 0 ≤ T d → ∃ h : Nat, D d = (h : Int)
  lt : ∀ l, l ∈ L → l < fls.length
def DoneTo (fls : List Flaw) (D0 : Nat → Int) (L : List Nat) (T : Nat → Int) (k : Nat) : Prop := ∀ j, j < k → ∀ l, L[j]? = some l → ∀ d, canD fls D0 l d → 0 ≤ T d
theorem TrP.len {fls : List Flaw} {D0 D : Nat → Int} {x : Nat} {L : List Nat} {T : Nat → Int} (h : TrP fls D0 D x L T) : L.length ≤ fls.length := by
  have := nodup_len L (List.range fls.length) h.tr.nodup (fun l hl => List.mem_range.2 (h.lt l hl))
  rwa [List.length_range] at this
theorem TrP.first {fls : List Flaw} {D0 D : Nat → Int} {x : Nat} (hx : x < fls.length) : TrP fls D0 D x [x] (fun _ => -1) :=
  ⟨Trail.first, fun d h => by omega, fun l hl => by rw [List.mem_singleton] at hl; rw [hl]; exact hx⟩
theorem TrP.more {fls : List Flaw} {D0 D : Nat → Int} {x : Nat} {L : List Nat} {T : Nat → Int} (h : TrP fls D0 D x L T) (hp : PlanD fls D0 D) (hx : ¬ Has D x) {j l d g : Nat} (hj : L[j]? = some l) (hd : canD fls D0 l d) (ht : T d = -1) (hg : D d = (g : Int)) : TrP fls D0 D x (L ++ [g]) (putI T d l) := by
  refine ⟨h.tr.more hp.mat hx hj hd ht hg, fun e he => ?_, fun i hi => ?_⟩
  · by_cases hed : e = d
    · subst hed; exact ⟨g, hg⟩
    · rw [putI_ne hed] at he; exact h.held e he
  · rcases List.mem_append.1 hi with hi | hi
    · exact h.lt i hi
    · rw [List.mem_singleton] at hi
      subst hi
      exact (hp.mat.ok d i hg).1
theorem TrP.full {fls : List Flaw} {D0 D : Nat → Int} {x : Nat} {L : List Nat} {T : Nat → Int} (h : TrP fls D0 D x L T) (hd : DoneTo fls D0 L T L.length) : Full (canD fls D0) D L := by
  refine ⟨fun i hi d hc => ?_⟩
  obtain ⟨j, hj, rfl⟩ := List.mem_iff_getElem.1 hi
  have h0 := hd j hj _ (List.getElem?_eq_getElem hj) d hc
  obtain ⟨g, hg⟩ := h.held d h0
  rcases h.tr.tkr d with h1 | ⟨k, h1⟩
  · omega
  · obtain ⟨-, j2, -, h2⟩ := h.tr.take d k h1
    obtain ⟨j3, -, h3⟩ := h2 g hg
    exact ⟨g, hg, List.mem_of_getElem? h3⟩
def TrEnd (fls : List Flaw) (D0 D : Nat → Int) (x : Nat) (L : List Nat) (T : Nat → Int) (fr : Int) : Prop :=
  Trail (canD fls D0) D x L T ∧ (∀ l, l ∈ L → l < fls.length) ∧ ((fr = -1 ∧ Full (canD fls D0) D L) ∨ ∃ d l : Nat, fr = (d : Int) ∧ d < 120 ∧ T d = (l : Int) ∧ D d = -1)
theorem TrP.free {fls : List Flaw} {D0 D : Nat → Int} {x : Nat} {L : List Nat} {T : Nat → Int} (h : TrP fls D0 D x L T) {j l d : Nat} (hj : L[j]? = some l) (hd : canD fls D0 l d) (hg : D d = -1) : TrEnd fls D0 D x L (putI T d l) d :=
  ⟨h.tr.free hj hd hg, h.lt, .inr ⟨d, l, rfl, hd.2.1, putI_same, hg⟩⟩
end Go.Proofs.Try
namespace Go.Proofs.Try
open Go Go.Am Go.RowKit
set_option maxRecDepth 100000


structure TrEnv (H : AHeap) (p b w q : Nat) (pl : List Value) (k : Nat) : Prop where
  gp : H.get p = .row pl 84
  gb : H.get b = .row [.pointer (some ⟨p, 0, none⟩)] 100
  gw : H.get w = .row [.func (.func 95) #[] #[.pointer (some ⟨b, 0, none⟩)]] 137
  gq : H.get q = .row [.int .i64 k] 3
def isBlk (lv : Value) (i : Nat) : Prop := ∃ n, lv = .slice (some ⟨i, 0, none⟩) n n ∧ 0 < n

def TrS (fls : List Flaw) (D0 D : Nat → Int) (x : Nat) (pl : List Value) (bs p b w q s l k fl : Nat) (L : List Value) (Dn : Nat → Prop) (H : AHeap) : Prop :=
  ∃ (lv : Value) (Ls : List Nat) (T : Nat → Int), TrP fls D0 D x Ls T ∧ DoneTo fls D0 Ls T k ∧ Ls[k]? = some fl ∧ (∀ d : Nat, Value.int .i64 (d : Int) ∈ L → 0 ≤ T d) ∧
    s < l ∧ l < H.n ∧ bs ≤ s ∧ H.get l = .loop .ready none ∧ H.get s = .row (trCells lv T (-1)) 124 ∧ Own H bs lv 3 1 ((Ls.map fun i : Nat => (i : Int)).map (Value.int .i64)) ∧ TrEnv H p b w q pl k ∧ ¬ isBlk lv q ∧
    ∀ i, Dn i ↔ i = l ∨ i = s ∨ isBlk lv i
def TrE (fls : List Flaw) (D0 D : Nat → Int) (x : Nat) (bs s l : Nat) (Dn : Nat → Prop) (H : AHeap) : Prop :=
  ∃ (lv : Value) (Ls : List Nat) (T : Nat → Int) (fr : Int), TrEnd fls D0 D x Ls T fr ∧ H.get l = .loop .done (some (some 2)) ∧ H.get s = .row (trCells lv T fr) 124 ∧ Own H bs lv 3 1 ((Ls.map fun i : Nat => (i : Int)).map (Value.int .i64)) ∧ ∀ i, Dn i ↔ i = l ∨ i = s ∨ isBlk lv i

theorem isBlk_own {H : AHeap} {bs : Nat} {lv : Value} {e : TypeId} {size : Nat} {cells : List Value} (h : Own H bs lv e size cells) {i : Nat} (hi : isBlk lv i) : bs ≤ i ∧ i < H.n ∧ H.get i = .row cells e := by
  obtain ⟨n, h1, h2⟩ := hi
  exact own_block h h1 h2

theorem TrS.keep {fls : List Flaw} {D0 D : Nat → Int} {x : Nat} {pl : List Value} {bs p b w q s l k fl : Nat} {L : List Value} {Dn : Nat → Prop} {H H' : AHeap} (h : TrS fls D0 D x pl bs p b w q s l k fl L Dn H) (hn : H.n ≤ H'.n) (hk : ∀ i, Dn i ∨ (i = p ∨ i = b ∨ i = w ∨ i = q) → H'.get i = H.get i) : TrS fls D0 D x pl bs p b w q s l k fl L Dn H' := by
  obtain ⟨lv, Ls, T, h1, h2, h3, h4, h5, h6, hbs, h7, h8, h9, ⟨e1, e2, e3, e4⟩, h11, h12⟩ := h
  refine ⟨lv, Ls, T, h1, h2, h3, h4, h5, Nat.lt_of_lt_of_le h6 hn, hbs, (hk l (.inl ((h12 l).2 (.inl rfl)))).trans h7, (hk s (.inl ((h12 s).2 (.inr (.inl rfl))))).trans h8, own_at h9 hn fun i n hv hn => hk i (.inl ((h12 i).2 (.inr (.inr ⟨n, hv, hn⟩)))), ⟨(hk p (.inr (.inl rfl))).trans e1, (hk b (.inr (.inr (.inl rfl)))).trans e2, (hk w (.inr (.inr (.inr (.inl rfl))))).trans e3, (hk q (.inr (.inr (.inr (.inr rfl))))).trans e4⟩, h11, h12⟩

theorem openGo_mem2 (D : Nat → Int) : ∀ (r i : Nat) (v : Value), v ∈ openGo D r i → ∃ j, i ≤ j ∧ j < i + r ∧ D j ≠ -2 ∧ v = .int .i64 (j : Int)
  | 0, _, v, h => by simp [openGo] at h
  | r + 1, i, v, h => by
    rw [openGo] at h
    split at h
    · obtain ⟨j, h1, h2, h3, h4⟩ := openGo_mem2 D r (i + 1) v h
      exact ⟨j, by omega, by omega, h3, h4⟩
    · rename_i hD
      rcases List.mem_cons.1 h with rfl | h
      · exact ⟨i, Nat.le_refl _, by omega, hD, rfl⟩
      · obtain ⟨j, h1, h2, h3, h4⟩ := openGo_mem2 D r (i + 1) v h
        exact ⟨j, by omega, by omega, h3, h4⟩
theorem canD_open {fls : List Flaw} {D0 D : Nat → Int} (hp : PlanD fls D0 D) {l d lo hi : Nat} (hlo : (fls.getD l nowhere).lo = (lo : Int)) (hhi : (fls.getD l nowhere).hi = (hi : Int)) (h60 : hi < 60) (h : canD fls D0 l d) : Value.int .i64 (d : Int) ∈ openFrom D (hi + 1 - lo) lo 0 := by
  obtain ⟨-, h1, h2, h3, h4⟩ := h
  have hD : D d ≠ -2 := fun e => h2 ((hp.closed d).1 e)
  rw [hlo] at h3
  rw [hhi] at h4
  simp only [openFrom, List.mem_append]
  rcases Nat.lt_or_ge d 60 with h5 | h5
  · exact .inl (openGo_mem D _ _ d (by omega) (by omega) hD)
  · exact .inr (openGo_mem D _ _ d (by omega) (by omega) hD)
end Go.Proofs.Try
