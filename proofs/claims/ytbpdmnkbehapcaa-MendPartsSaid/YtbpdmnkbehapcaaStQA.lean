/- Contracts of functions, walked. -/
import Derived.Test.YtbpdmnkbehapcaaStQ5
set_option linter.all false
namespace Go.Proofs.Try
open Go Go.Am Go.RowKit
set_option maxRecDepth 100000


theorem own_len {H : AHeap} {bs : Nat} {v : Value} {e : TypeId} {cells : List Value} (h : Own H bs v e 1 cells) : ∃ a, v = .slice a cells.length cells.length := by
  rcases h with ⟨rfl, rfl⟩ | ⟨b, m, h1, _, _, _, h5, _⟩
  · exact ⟨none, rfl⟩
  · rw [Nat.mul_one] at h5
    exact ⟨_, by rw [h1, h5]⟩
theorem genC {P : Program} {cx : Cx} {c : Code} {f : AF} {H : AHeap} {Q : Post} (I : AF → AHeap → Prop) (hp : I f H) (h : ∀ f H, I f H → CodeS P cx c f H Q) : CodeS P cx c f H Q := h f H hp
@[go_sem] theorem aIndexAddr_82b {H : AHeap} {β : Type} {kk : K β} {q : IntKind} {i : Nat} {b o : Nat} (h1 : i < 120) : aIndexAddr Try.prog 82 (.pointer (some ⟨b, o, none⟩)) (.int q (i : Int)) H kk = kk (.pointer (some ⟨b, o + i, none⟩)) H := by
  rw [aIndexAddr_82 (by omega) (by omega), Int.toNat_natCast]

theorem oneV_ints (l : List Int) : (l.map (Value.int .i64)).all oneV = true := by
  rw [List.all_eq_true]
  intro v hv
  obtain ⟨z, _, rfl⟩ := List.mem_map.1 hv
  rfl
theorem tr_fin {loops : List (Nat × LInfo)} {H K : AHeap} {rs : List Nat} {f : AF} {fls : List Flaw} {D0 D : Nat → Int} {x : Nat} {lv : Value} {Ls : List Nat} {T : Nat → Int} {fr : Int} (hd : f.defers = rs.map markOf) (f4 : f.tmp 4 = .pointer (some ⟨H.n + 1, 0, none⟩))
    (ho : Own K (H.n + 2) lv 3 1 ((Ls.map fun i : Nat => (i : Int)).map (Value.int .i64))) (hE : TrEnd fls D0 D x Ls T fr) (hx : Ext H K) (hn : H.n + 1 < K.n) (hr : rs.Nodup ∧ ∀ r, r ∈ rs → r < K.n ∧ K.get r = .defs false ∧ H.n + 2 < r) :
    bodyS Try.prog loops Try.f78 (fun r H' => (∃ (lv : Value) (Ls : List Nat) (T : Nat → Int) (fr : Int), r = .agg (trCells lv T fr).toArray ∧ TrEnd fls D0 D x Ls T fr ∧ Own H' H.n lv 3 1 ((Ls.map fun i : Nat => (i : Int)).map (Value.int .i64))) ∧ Ext H H') .ret f (K.upd (H.n + 1) (.row (trCells lv T fr) 124)) := by
  refine Post.body_marks rs hd hr.1 (fun r hm => ?_) fun K2 hk2 hk3 K9 hK9 => ?_
  · obtain ⟨h1, h2, h3⟩ := hr.2 r hm
    rw [AHeap.get_upd_ne (by omega)]; exact h2
  have hno : ∀ i, i ∈ rs → H.n + 2 < i := fun i hi => (hr.2 i hi).2.2
  have hg1 : K2.get (H.n + 1) = .row (trCells lv T fr) 124 := by
    rw [hk3 _ (fun h => by have := hno _ h; omega), AHeap.get_upd_same]
  obtain ⟨a, n, rfl⟩ := own_slice ho
  have hcr : cellsAt K2 (H.n + 1) 0 122 = some (trCells (.slice a n n) T fr) := by simp [cellsAt, hg1, trCells_length, trCells_take]
  have hkn : K2.n = K.n := by rw [hk2, AHeap.n_upd]
  have HH : Hid ((∃ (lv : Value) (Ls : List Nat) (T' : Nat → Int) (fr' : Int), (.agg (trCells (.slice a n n) T fr).toArray : Value) = .agg (trCells lv T' fr').toArray ∧ TrEnd fls D0 D x Ls T' fr' ∧ Own K2 H.n lv 3 1 ((Ls.map fun i : Nat => (i : Int)).map (Value.int .i64))) ∧ Ext H K2) := Lib.hid (by
    refine ⟨⟨_, Ls, T, fr, rfl, hE, (own_at ho (Nat.le_of_eq hkn.symm) fun i m hv hm => ?_).mono (by omega)⟩, by rw [hkn]; exact hx.n, fun i hi => ?_⟩
    · have h1 := own_block ho hv hm
      rw [hk3 i (fun h => by rw [(hr.2 i h).2.1] at h1; cases h1.2.2), AHeap.get_upd_ne (by omega)]
    · rw [hk3 i (fun h => by have := hno _ h; omega), AHeap.get_upd_ne (by omega)]
      exact hx.get i hi)
  clear hg1 hk2 hk3 ho hE hx hr hno hkn hd
  go_simp
  exact hK9 _ _ HH.out

set_option maxHeartbeats 4000000 in
theorem trailOf_e {loops : List (Nat × LInfo)} {H : AHeap} {p x : Nat} {fa : Option Addr} {fc : Nat} {fls : List Flaw} {D0 D : Nat → Int} (hp : p < H.n) (gp : H.get p = .row (planCells (.slice fa fls.length fc) D) 84) (hf : Flaws H (.slice fa fls.length fc) fls) (hok : ∀ a, a ∈ fls → FOk a) (hpl : PlanD fls D0 D) (hx : x < fls.length) (hnx : ¬ Has D x) (hfl : fls.length ≤ 1000) :
    CallS Try.prog loops 78 [.pointer (some ⟨p, 0, none⟩), .int .i64 x] H fun r H' => (∃ (lv : Value) (Ls : List Nat) (T : Nat → Int) (fr : Int), r = .agg (trCells lv T fr).toArray ∧ TrEnd fls D0 D x Ls T fr ∧ Own H' H.n lv 3 1 ((Ls.map fun i : Nat => (i : Int)).map (Value.int .i64))) ∧ Ext H H' := by
  have HF := Lib.hid hf
  have HOK := Lib.hid hok
  have HPL := Lib.hid hpl
  have HNX := Lib.hid hnx
  have GP := Lib.hid gp
  clear gp hf hok hpl hnx
  refine CallS.enter' Try.func78 rfl Try.ntmps78 (by simp) fun f hd hf => ?_
  have f0 := hf 0
  have f1 := hf 1
  simp at f0 f1
  clear hf
  repeat' (first|(with_reducible first|refine zA ?_|refine zB fun K hK=>?_|refine zC fun K2 hK2=>?_|refine zD ?_|refine zE ?_|refine zF ?_|refine zG ?_|refine zH ?_|refine zI ?_|refine zJ ?_|refine zK ?_|refine zL ?_|refine zM ?_|refine zN ?_|refine zO ?_|refine zP ?_|refine zQ ?_|refine zR ?_|refine zS ?_|refine zT ?_)|((with_reducible refine zU (hK _ _ ?_));clear hK K)|((with_reducible refine zV ?_ ?_ fun K1 K3 d hdst h1 h3=>?_);rfl;exact yB rfl;cases hdst;go_simp)|((with_reducible refine zW fun K1 K3 h1 h3=>?_);go_simp)|((first|refine h1 ?_|refine h3 ?_);clear h1 h3 K1 K3)|((first|refine zX (fun hb=>h1 ?_) (fun hb=>h3 ?_)|refine zX (fun hb=>h3 ?_) (fun hb=>h1 ?_))<;>(clear h1 h3 K1 K3;(try have hb2:=yC hb);(try have hb2:=yD hb);(try have hb2:=yE hb);(try have hb2:=yF hb);(try have hb2:=yG hb)))|(refine fun (K2:_→AHeap→Prop) hK2=>?_)|((with_reducible refine zY ?_ ?_);decide)|((with_reducible first|refine zZ ?_ (fun K hK=>?_)|refine yA ?_ (fun K hK=>?_));(focus go_simp;done);go_simp;refine hK _ _ ?_;clear hK K)|(go_simp;(try go_bits);(try first | ((refine one_k el22 sz3 ze3 rfl (by decide) (by decide) rfl rfl ?_); go_simp) | ((rw [aBuild_struct st124 ze124]); go_simp));refine hK2 _ _ ?_;clear hK2 K2))
  obtain ⟨G3, hG3⟩ : ∃ G3, G3 = ((H.push (.row [.pointer (some ⟨p, 0, none⟩)] 100)).push (.row (trCells (.slice none 0 0) (fun _ => 0) 0) 124)).push (.row [.int .i64 x] 3) := ⟨_, rfl⟩
  have hn3 : G3.n = H.n + 3 := by rw [hG3]; simp only [AHeap.n_push]
  have hg0 : G3.get H.n = .row [.pointer (some ⟨p, 0, none⟩)] 100 := by
    rw [hG3, AHeap.get_push_old (by simp only [AHeap.n_push]; omega), AHeap.get_push_old (by simp only [AHeap.n_push]; omega), AHeap.get_push_new]
  have hg1 : G3.get (H.n + 1) = .row (trCells (.slice none 0 0) (fun _ => 0) 0) 124 := by
    rw [hG3, AHeap.get_push_old (by simp only [AHeap.n_push]; omega), show H.n + 1 = (H.push (.row [.pointer (some ⟨p, 0, none⟩)] 100)).n from rfl, AHeap.get_push_new]
  have hg2 : G3.get (H.n + 2) = .row [.int .i64 x] 3 := by
    rw [hG3, show H.n + 2 = ((H.push (.row [.pointer (some ⟨p, 0, none⟩)] 100)).push (.row (trCells (.slice none 0 0) (fun _ => 0) 0) 124)).n from rfl, AHeap.get_push_new]
  have hx3 : Ext H G3 := by rw [hG3]; exact (((Ext.refl _).push' _).push' _).push' _
  have HN3 := Lib.hid hn3
  have HG0 := Lib.hid hg0
  have HG1 := Lib.hid hg1
  have HG2 := Lib.hid hg2
  have HX3 := Lib.hid hx3
  rw [← hG3]
  clear hG3 hn3 hg0 hg1 hg2 hx3
  refine CodeS.loop (fun m f H' => ∃ (k : Nat) (T : Nat → Int), k ≤ 120 ∧ m = 120 - k ∧ f.tmp 15 = .int .i64 k ∧ f.tmp 2 = .pointer (some ⟨H.n, 0, none⟩) ∧ f.tmp 4 = .pointer (some ⟨H.n + 1, 0, none⟩) ∧ f.tmp 5 = .pointer (some ⟨G3.n, 0, none⟩) ∧ f.defers = [] ∧ Hid (∀ i, i < k → T i = -1) ∧ H' = G3.push (.row (trCells (.slice (some ⟨H.n + 2, 0, none⟩) 1 1) T (-1)) 124)) 120 ?_ ?_
  · have h3 := HN3.out
    exact ⟨0, fun _ => 0, by omega, rfl, (by first|go_simp<;>go_num|assumption), (by first|go_simp<;>go_num|assumption), (by first|go_simp<;>go_num|assumption), by rw [h3]; go_simp, (by first|go_simp<;>go_num|assumption), Lib.hid (fun i hi => absurd hi (Nat.not_lt_zero i)), rfl⟩
  clear f0 f1 hd f
  rintro m f H' ⟨k, T, hk, rfl, f15, f2, f4, f5, hd, HT, rfl⟩
  by_cases hlt : k < 120
  · have hki : (k : Int) < 120 := by omega
    repeat' (first|(with_reducible first|refine zA ?_|refine zB fun K hK=>?_|refine zC fun K2 hK2=>?_|refine zD ?_|refine zE ?_|refine zF ?_|refine zG ?_|refine zH ?_|refine zI ?_|refine zJ ?_|refine zK ?_|refine zL ?_|refine zM ?_|refine zN ?_|refine zO ?_|refine zP ?_|refine zQ ?_|refine zR ?_|refine zS ?_|refine zT ?_)|((with_reducible refine zU (hK _ _ ?_));clear hK K)|((with_reducible refine zV ?_ ?_ fun K1 K3 d hdst h1 h3=>?_);rfl;exact yB rfl;cases hdst;go_simp)|((with_reducible refine zW fun K1 K3 h1 h3=>?_);go_simp)|((first|refine h1 ?_|refine h3 ?_);clear h1 h3 K1 K3)|((first|refine zX (fun hb=>h1 ?_) (fun hb=>h3 ?_)|refine zX (fun hb=>h3 ?_) (fun hb=>h1 ?_))<;>(clear h1 h3 K1 K3;(try have hb2:=yC hb);(try have hb2:=yD hb);(try have hb2:=yE hb);(try have hb2:=yF hb);(try have hb2:=yG hb)))|(refine fun (K2:_→AHeap→Prop) hK2=>?_)|((with_reducible refine zY ?_ ?_);decide)|((with_reducible first|refine zZ ?_ (fun K hK=>?_)|refine yA ?_ (fun K hK=>?_));(focus go_simp;done);go_simp;refine hK _ _ ?_;clear hK K)|(go_simp;(try go_bits);refine hK2 _ _ ?_;clear hK2 K2))
    refine Post.round_normal ⟨120 - (k + 1), by omega, k + 1, putI T k (-1), by omega, rfl, (by first|go_simp<;>go_num|assumption), (by first|go_simp<;>go_num|assumption), (by first|go_simp<;>go_num|assumption), (by first|go_simp<;>go_num|assumption), (by first|go_simp<;>go_num|assumption), Lib.hid ?_, rfl⟩
    intro i hi
    by_cases h : i = k
    · rw [h, putI_same]
    · rw [putI_ne h]; exact HT.out i (by omega)
  have hki : ¬ (k : Int) < 120 := by omega
  have hrow : AObj.row (trCells (.slice (some ⟨H.n + 2, 0, none⟩) 1 1) T (-1)) 124 = .row (trCells (.slice (some ⟨H.n + 2, 0, none⟩) 1 1) (fun _ => -1) (-1)) 124 := by
    rw [trCells_congr fun i hi => HT.out i (by omega)]
  rw [hrow]
  clear hrow HT hlt
  repeat' (first|(with_reducible first|refine zA ?_|refine zB fun K hK=>?_|refine zC fun K2 hK2=>?_|refine zD ?_|refine zE ?_|refine zF ?_|refine zG ?_|refine zH ?_|refine zI ?_|refine zJ ?_|refine zK ?_|refine zL ?_|refine zM ?_|refine zN ?_|refine zO ?_|refine zP ?_|refine zQ ?_|refine zR ?_|refine zS ?_|refine zT ?_)|((with_reducible refine zU (hK _ _ ?_));clear hK K)|((with_reducible refine zV ?_ ?_ fun K1 K3 d hdst h1 h3=>?_);rfl;exact yB rfl;cases hdst;go_simp)|((with_reducible refine zW fun K1 K3 h1 h3=>?_);go_simp)|((first|refine h1 ?_|refine h3 ?_);clear h1 h3 K1 K3)|((first|refine zX (fun hb=>h1 ?_) (fun hb=>h3 ?_)|refine zX (fun hb=>h3 ?_) (fun hb=>h1 ?_))<;>(clear h1 h3 K1 K3;(try have hb2:=yC hb);(try have hb2:=yD hb);(try have hb2:=yE hb);(try have hb2:=yF hb);(try have hb2:=yG hb)))|(refine fun (K2:_→AHeap→Prop) hK2=>?_)|((with_reducible refine zY ?_ ?_);decide)|((with_reducible first|refine zZ ?_ (fun K hK=>?_)|refine yA ?_ (fun K hK=>?_));(focus go_simp;done);go_simp;refine hK _ _ ?_;clear hK K)|(go_simp;(try go_bits);refine hK2 _ _ ?_;clear hK2 K2))
  obtain ⟨G, hG⟩ : ∃ G, G = ((G3.push (.row (trCells (.slice (some ⟨H.n + 2, 0, none⟩) 1 1) (fun _ => -1) (-1)) 124)).push (.row [.func (.func 95) #[] #[.pointer (some ⟨H.n, 0, none⟩)]] 137)).push (.row [.int .i64 0] 3) := ⟨_, rfl⟩
  have hGn : G.n = G3.n + 3 := by rw [hG]; simp only [AHeap.n_push]
  have hgs : G.get G3.n = .row (trCells (.slice (some ⟨H.n + 2, 0, none⟩) 1 1) (fun _ => -1) (-1)) 124 := by
    rw [hG, AHeap.get_push_old (by simp only [AHeap.n_push]; omega), AHeap.get_push_old (by simp only [AHeap.n_push]; omega), AHeap.get_push_new]
  have hgw : G.get (G3.n + 1) = .row [.func (.func 95) #[] #[.pointer (some ⟨H.n, 0, none⟩)]] 137 := by
    rw [hG, AHeap.get_push_old (by simp only [AHeap.n_push]; omega), show G3.n + 1 = (G3.push (.row (trCells (.slice (some ⟨H.n + 2, 0, none⟩) 1 1) (fun _ => -1) (-1)) 124)).n from rfl, AHeap.get_push_new]
  have hgq : G.get (G3.n + 2) = .row [.int .i64 0] 3 := by
    rw [hG, show G3.n + 2 = ((G3.push (.row (trCells (.slice (some ⟨H.n + 2, 0, none⟩) 1 1) (fun _ => -1) (-1)) 124)).push (.row [.func (.func 95) #[] #[.pointer (some ⟨H.n, 0, none⟩)]] 137)).n from rfl, AHeap.get_push_new]
  have hgk : ∀ i, i < G3.n → G.get i = G3.get i := fun i hi => by rw [hG]; exact ((((Ext.refl _).push' _).push' _).push' _).get i hi
  have hown : Own G (H.n + 2) (.slice (some ⟨H.n + 2, 0, none⟩) 1 1) 3 1 (([x].map fun i : Nat => (i : Int)).map (Value.int .i64)) :=
    .inr ⟨H.n + 2, 1, rfl, Nat.le_refl _, by have := HN3.out; omega, by rw [hgk _ (by have := HN3.out; omega)]; exact HG2.out, rfl, by decide⟩
  have hq0 : ¬ isBlk (.slice (some ⟨H.n + 2, 0, none⟩) 1 1) (G3.n + 2) := by
    rintro ⟨n, h1, -⟩
    simp only [Value.slice.injEq, Option.some.injEq, Addr.mk.injEq] at h1
    have := HN3.out; omega
  have HOWN := Lib.hid hown
  have HQ0 := Lib.hid hq0
  have HGS := Lib.hid hgs
  have HGW := Lib.hid hgw
  have HGQ := Lib.hid hgq
  have HGK := Lib.hid hgk
  have HGN := Lib.hid hGn
  rw [← hG]
  clear hG hGn hgs hgw hgq hgk hown hq0
  refine CodeS.loop (fun m f H' => ∃ (k : Nat) (lv : Value) (Ls : List Nat) (T : Nat → Int) (q : Nat) (rs : List Nat), k ≤ Ls.length ∧ m = fls.length - k ∧ f.tmp 8 = .pointer (some ⟨q, 0, none⟩) ∧ f.tmp 2 = .pointer (some ⟨H.n, 0, none⟩) ∧ f.tmp 4 = .pointer (some ⟨H.n + 1, 0, none⟩) ∧ f.tmp 5 = .pointer (some ⟨G3.n, 0, none⟩) ∧ f.tmp 7 = .pointer (some ⟨G3.n + 1, 0, none⟩) ∧ f.defers = rs.map markOf ∧
    Hid (TrP fls D0 D x Ls T) ∧ Hid (DoneTo fls D0 Ls T k) ∧ Hid (Own H' (H.n + 2) lv 3 1 ((Ls.map fun i : Nat => (i : Int)).map (Value.int .i64))) ∧ Hid (¬ isBlk lv q) ∧ G3.n + 1 < q ∧ q < H'.n ∧ Hid (H'.get G3.n = .row (trCells lv T (-1)) 124) ∧ Hid (H'.get q = .row [.int .i64 k] 3) ∧ Hid (H'.get (G3.n + 1) = .row [.func (.func 95) #[] #[.pointer (some ⟨H.n, 0, none⟩)]] 137) ∧ Hid (∀ i, i < H.n + 2 → H'.get i = G3.get i) ∧ Hid (rs.Nodup ∧ ∀ r, r ∈ rs → r < H'.n ∧ H'.get r = .defs false ∧ H.n + 2 < r)) fls.length ?_ ?_
  · have h3 := HN3.out
    have h4 := HGN.out
    exact ⟨0, .slice (some ⟨H.n + 2, 0, none⟩) 1 1, [x], fun _ => -1, G3.n + 2, [], by simp, by omega, (by first|go_simp<;>go_num|assumption), (by first|go_simp<;>go_num|assumption), (by first|go_simp<;>go_num|assumption), (by first|go_simp<;>go_num|assumption), (by first|go_simp<;>go_num|assumption), (by first|go_simp<;>go_num|assumption), Lib.hid (TrP.first hx), Lib.hid (fun j hj => absurd hj (Nat.not_lt_zero j)), HOWN, HQ0, by omega, by omega, HGS, HGQ, HGW, Lib.hid (fun i hi => HGK.out i (by omega)), Lib.hid ⟨.nil, fun r hr => by cases hr⟩⟩
  clear f15 f2 f4 f5 hd f HOWN HQ0 HGS HGQ HGW HGK hki hk T k
  rintro m f H' ⟨k, lv, Ls, T, q, rs, hk, rfl, f8, f2, f4, f5, f7, hd, HTR, HDN, HOW, HNB, hq1, hq2, HS, HQ, HW, HLO, HRS⟩
  have hn3 := HN3.out
  have hXH : Ext H H' := ⟨by omega, fun i hi => (HLO.out i (by omega)).trans (HX3.out.get i hi)⟩
  obtain ⟨la, hla⟩ := own_len HOW.out
  rw [List.length_map, List.length_map] at hla
  have hcq : cellAt H' q 0 = some (.int .i64 k) := by simp [cellAt, HQ.out]
  have hcs : cellAt H' G3.n 0 = some (.slice la Ls.length Ls.length) := by rw [cellAt, HS.out, hla]; rfl
  have hLn := HTR.out.len
  by_cases hlt : k < Ls.length
  · obtain ⟨b, n, hlv, hb1, hb2, gb, hn, hn0⟩ : ∃ b n, lv = .slice (some ⟨b, 0, none⟩) n n ∧ H.n + 2 ≤ b ∧ b < H'.n ∧ H'.get b = .row ((Ls.map fun i : Nat => (i : Int)).map (Value.int .i64)) 3 ∧ ((Ls.map fun i : Nat => (i : Int)).map (Value.int .i64)).length = n * 1 ∧ 0 < n := by
      rcases HOW.out with ⟨-, h⟩ | h
      · exfalso
        have := congrArg List.length h
        simp at this
        rw [this] at hlt; exact absurd hlt (Nat.not_lt_zero k)
      · exact h
    have hnl : n = Ls.length := by simp at hn; omega
    subst hnl
    rw [hlv] at hla
    cases hla
    have hFL := List.getElem?_eq_getElem hlt
    have hflt := HTR.out.lt _ (List.getElem_mem hlt)
    have hcL : cellAt H' b k = some (.int .i64 (Ls[k] : Nat)) := by simp [cellAt, gb, hlt]
    generalize Ls[k] = fl at hFL hflt hcL
    obtain ⟨fb, fo, fsp, rfl, hfb, -, hx5⟩ := (HF.out.ext hXH).at_ hflt
    have hds := Flaws.days_ hx5
    have hfok := HOK.out _ (List.getElem_mem hflt)
    have HGD : Hid (fls.getD fl nowhere = fls[fl]) := Lib.hid (by rw [List.getD_eq_getElem?_getD, List.getElem?_eq_getElem hflt]; rfl)
    have hlo := hfok.lo
    have hle := hfok.le
    have hhi := hfok.hi
    generalize fls[fl] = a at hds HGD hlo hle hhi
    obtain ⟨lo, hlo'⟩ := Int.eq_ofNat_of_zero_le hlo
    obtain ⟨hi, hhi'⟩ := Int.eq_ofNat_of_zero_le (show 0 ≤ a.hi by omega)
    rw [hlo', hhi'] at hds
    have hlh : lo ≤ hi := by omega
    have hh60 : hi < 60 := by omega
    have HLO9 : Hid ((fls.getD fl nowhere).lo = (lo : Int) ∧ (fls.getD fl nowhere).hi = (hi : Int)) := Lib.hid ⟨by rw [HGD.out]; exact hlo', by rw [HGD.out]; exact hhi'⟩
    have hgp : H'.get p = .row (planCells (.slice (some ⟨fb, fo, fsp⟩) fls.length fc) D) 84 := (hXH.get p hp).trans GP.out
    have hgb : H'.get H.n = .row [.pointer (some ⟨p, 0, none⟩)] 100 := (HLO.out _ (by omega)).trans HG0.out
    have hcb : cellAt H' H.n 0 = some (.pointer (some ⟨p, 0, none⟩)) := by simp [cellAt, hgb]
    have hcp : cellAt H' p 0 = some (.slice (some ⟨fb, fo, fsp⟩) fls.length fc) := by rw [cellAt, hgp]; exact planCells_get0
    have hfi : (fl : Int) < (fls.length : Int) := by omega
    have hki : (k : Int) < (Ls.length : Int) := by omega
    have HGP := Lib.hid hgp
    have HGB := Lib.hid hgb
    have HGBL := Lib.hid gb
    have HFLT := Lib.hid hFL
    have hpH : p < H'.n := Nat.lt_of_lt_of_le hp hXH.n
    have HXH := Lib.hid hXH
    clear hgp hgb gb hx5 hfok hlo hle hhi hlo' hhi' HGD hn hXH hFL hn3
    repeat' (first|(with_reducible first|refine zA ?_|refine zB fun K hK=>?_|refine zC fun K2 hK2=>?_|refine zD ?_|refine zE ?_|refine zF ?_|refine zG ?_|refine zH ?_|refine zI ?_|refine zJ ?_|refine zK ?_|refine zL ?_|refine zM ?_|refine zN ?_|refine zO ?_|refine zP ?_|refine zQ ?_|refine zR ?_|refine zS ?_|refine zT ?_)|((with_reducible refine zU (hK _ _ ?_));clear hK K)|((with_reducible refine zV ?_ ?_ fun K1 K3 d hdst h1 h3=>?_);rfl;exact yB rfl;cases hdst;go_simp)|((with_reducible refine zW fun K1 K3 h1 h3=>?_);go_simp)|((first|refine h1 ?_|refine h3 ?_);clear h1 h3 K1 K3)|((first|refine zX (fun hb=>h1 ?_) (fun hb=>h3 ?_)|refine zX (fun hb=>h3 ?_) (fun hb=>h1 ?_))<;>(clear h1 h3 K1 K3;(try have hb2:=yC hb);(try have hb2:=yD hb);(try have hb2:=yE hb);(try have hb2:=yF hb);(try have hb2:=yG hb)))|(refine fun (K2:_→AHeap→Prop) hK2=>?_)|((with_reducible refine zY ?_ ?_);decide)|((with_reducible first|refine zZ ?_ (fun K hK=>?_)|refine yA ?_ (fun K hK=>?_));(focus go_simp;done);go_simp;refine hK _ _ ?_;clear hK K)|((with_reducible refine yH mixed rfl ?_ 20 fun K0 hK0=>?_);kernel_rfl)|(with_reducible first|exact yI|exact yJ|refine yK ?_|refine yL ?_|refine yM ?_)|((with_reducible first|refine yN ?_ ?_|refine yO ?_ ?_|refine yP ?_ ?_);rfl)|((with_reducible refine yQ ?_ ?_);rfl;refine hK0 _ _ ?_;clear hK0 K0)|((with_reducible refine yR ?_ ?_ ?_ ?_);rfl;rfl;rfl)|((with_reducible refine yS ?_ ?_ ?_ fun K2 hK2=>?_);rfl;rfl;exact yB rfl)|((with_reducible refine yT ?_ ?_ ?_ ?_ fun K1 K3 d hdst h1 h3=>?_);rfl;rfl;rfl;exact yB rfl;cases hdst;go_simp)|((with_reducible refine yU ?_ ?_ ?_ ?_ fun K1 K3 d hdst h1 h3=>?_);rfl;rfl;rfl;exact yB rfl;cases hdst;go_simp)|((with_reducible refine yV ?_ ?_ (fun K2 hK2=>?_) ?_);rfl;exact yB rfl)|((with_reducible refine yW ?_ ?_ ?_ ?_ (fun K2 hK2=>?_) ?_);rfl;exact yB rfl;rfl;(focus go_simp;done))|((with_reducible refine yX ?_ ?_ ?_ (fun K2 hK2=>?_) ?_);rfl;rfl;exact yB rfl)|((with_reducible refine yY ?_ ?_ (fun K2 hK2=>?_) ?_);rfl;rfl)|((with_reducible refine yZ ?_ ?_);(first|rfl|(dsimp only;decide +kernel)))|((with_reducible refine xA ?_ ?_);(focus go_simp;done))|(go_simp;(try go_bits);(try first | ((with_reducible show CallS _ _ _ _ _ _);refine CallS.mono open_e ?_; rintro _ _ ⟨rfl, rfl⟩; go_simp));(first|(refine hK2 _ _ ?_ ?_<;>clear hK2 K2)|(refine hK2 _ _ ?_;clear hK2 K2))))
    obtain ⟨G2, hG2⟩ : ∃ G2, G2 = (H'.push (.row [.pointer (some ⟨p, 0, none⟩)] 100)).push (.row [.int .i64 lo, .int .i64 hi] 30) := ⟨_, rfl⟩
    have hq9 := openV_givesS (It := fun v => ∃ d : Nat, v = .int .i64 (d : Int) ∧ canD fls D0 fl d) hG2 hpH HGP.out hlh hh60 (fun i h1 h2 h3 h4 => ⟨i, rfl, hflt, h1, fun e => h4 ((HPL.out.closed i).2 e), by rw [HLO9.out.1]; omega, by rw [HLO9.out.2]; omega⟩)
    have hG2n : G2.n = H'.n + 2 := by rw [hG2]; simp only [AHeap.n_push]
    have hG2x : Ext H' G2 := by rw [hG2]; exact ((Ext.refl _).push' _).push' _
    have HQ9 := Lib.hid hq9
    have HG2N := Lib.hid hG2n
    have HG2X := Lib.hid hG2x
    rw [← hG2]
    clear hG2 hq9 hG2n hG2x hcs hcq hcL hcb hcp hds
    refine genC (fun f K => f.tmp 43 = openV H' ∧ f.tmp 8 = .pointer (some ⟨q, 0, none⟩) ∧ f.tmp 2 = .pointer (some ⟨H.n, 0, none⟩) ∧ f.tmp 4 = .pointer (some ⟨H.n + 1, 0, none⟩) ∧ f.tmp 5 = .pointer (some ⟨G3.n, 0, none⟩) ∧ f.tmp 7 = .pointer (some ⟨G3.n + 1, 0, none⟩) ∧ f.defers = rs.map markOf ∧ K = G2) ⟨(by first|go_simp<;>go_num|assumption), (by first|go_simp<;>go_num|assumption), (by first|go_simp<;>go_num|assumption), (by first|go_simp<;>go_num|assumption), (by first|go_simp<;>go_num|assumption), (by first|go_simp<;>go_num|assumption), (by first|go_simp<;>go_num|assumption), rfl⟩ ?_
    clear f8 f2 f4 f5 f7 hd f
    rintro f K ⟨f43, f8, f2, f4, f5, f7, hd, e9⟩
    have e9 := e9.symm
    subst e9
    refine CodeS.range_givesS (ls := []) (H0 := G2) (Rd := fun i => i = p ∨ i = H.n ∨ i = G3.n + 1 ∨ i = q) (room := 1000) (S := TrS fls D0 D x (planCells (.slice (some ⟨fb, fo, fsp⟩) fls.length fc) D) (H.n + 2) p H.n (G3.n + 1) q G3.n (G2.n + 1) k fl) (E := TrE fls D0 D x (H.n + 2) G3.n (G2.n + 1)) (D := fun i => i = G2.n + 1 ∨ i = G3.n ∨ isBlk lv i) rfl (LExt.nil _) HQ9.out (by first|go_simp<;>go_num|assumption) (Ext.refl _) (by omega) ?gen ?hS ?hRD ?hnd ?hend ?hstop
    case hRD =>
      have hn3 := HN3.out
      have hn2 := HG2N.out
      rintro i (rfl | rfl | rfl) (h | h | h)
      · omega
      · omega
      · have := (isBlk_own HOW.out h).1; omega
      · omega
      · omega
      · have := (isBlk_own HOW.out h).2.1; omega
      · omega
      · omega
      · have := (isBlk_own HOW.out h).2.1; omega
    case hnd =>
      have hn3 := HN3.out
      have hn2 := HG2N.out
      rintro (h | h | h)
      · omega
      · omega
      · have := (isBlk_own HOW.out h).2.1; omega
    case hS =>
      have hn3 := HN3.out
      have hn2 := HG2N.out
      have hxx : Ext H' ((G2.push (.defs false)).push (.loop .ready none)) := (HG2X.out.push' _).push' _
      refine ⟨lv, Ls, T, HTR.out, HDN.out, HFLT.out, (fun d hd => by cases hd), by omega, by simp only [AHeap.n_push]; omega, by omega, ?_, (hxx.get _ (by omega)).trans HS.out, HOW.out.ext hxx, ⟨(hxx.get _ (by omega)).trans HGP.out, (hxx.get _ (by omega)).trans HGB.out, (hxx.get _ (by omega)).trans HW.out, (hxx.get _ hq2).trans HQ.out⟩, HNB.out, fun i => Iff.rfl⟩
      rw [show G2.n + 1 = (G2.push (AObj.defs false)).n from rfl, AHeap.get_push_new]
    case hend =>
      rintro fz D' H5 ht hd2 ⟨lv2, Ls2, T2, t1, t2, t3, t4, t5, t6, -, t7, t8, t9, ⟨e1, e2, e3, e4⟩, t11, t12⟩ hst hdf
      have hn3 := HN3.out
      have hn2 := HG2N.out
      have w2 := ht 2
      have w4 := ht 4
      have w5 := ht 5
      have w7 := ht 7
      have w8 := ht 8
      rw [f2] at w2
      rw [f4] at w4
      rw [f5] at w5
      rw [f7] at w7
      rw [f8] at w8
      have hdd : fz.defers = (G2.n :: rs).map markOf := by rw [hd2, hd]; rfl
      have hst5 : ∀ i, i < H'.n → i ≠ G3.n → ¬ isBlk lv i → H5.get i = H'.get i := fun i hi h1 h2 => by
        rw [hst.get i (by simp only [AHeap.n_push]; omega) (by rintro (h | h | h); omega; exact h1 h; exact h2 h)]
        exact ((HG2X.out.push' _).push' _).get i hi
      have hn5 : G2.n + 2 ≤ H5.n := by have := hst.n; simp only [AHeap.n_push] at this; omega
      have hdn : DoneTo fls D0 Ls2 T2 (k + 1) := by
        intro j hj l hl d hc
        rcases Nat.lt_or_ge j k with h | h
        · exact t2 j h l hl d hc
        · have : j = k := by omega
          subst this
          rw [t3] at hl
          cases hl
          exact t4 d (canD_open HPL.out HLO9.out.1 HLO9.out.2 hh60 hc)
      have hkl : k + 1 ≤ Ls2.length := (List.getElem?_eq_some_iff.1 t3).1
      obtain ⟨H6, hH6⟩ : ∃ H6, H6 = H5.upd (G2.n + 1) (.loop .exhausted none) := ⟨_, rfl⟩
      have hn6 : H6.n = H5.n := by rw [hH6, AHeap.n_upd]
      have hg6 : ∀ i, i ≠ G2.n + 1 → H6.get i = H5.get i := fun i hi => by rw [hH6, AHeap.get_upd_ne hi]
      rw [← hH6]
      have hcq : cellAt H6 q 0 = some (.int .i64 k) := by rw [cellAt, hg6 q (by omega), e4]; rfl
      have hki2 : (k : Int) < 1000 := by have := t1.len; omega
      have T1 := Lib.hid t1
      have TDN := Lib.hid hdn
      have T8 : Hid (H6.get G3.n = .row (trCells lv2 T2 (-1)) 124) := Lib.hid (by rw [hg6 _ (by omega)]; exact t8)
      have T9 : Hid (Own H6 (H.n + 2) lv2 3 1 ((Ls2.map fun i : Nat => (i : Int)).map (Value.int .i64))) := Lib.hid (own_at t9 (by omega) fun i n hv hn => hg6 i (by
        intro e
        have := (own_block t9 hv hn).2.2
        rw [e, t7] at this
        cases this))
      have TE3 : Hid (H6.get (G3.n + 1) = .row [.func (.func 95) #[] #[.pointer (some ⟨H.n, 0, none⟩)]] 137) := Lib.hid (by rw [hg6 _ (by omega)]; exact e3)
      have TLO : Hid (∀ i, i < H.n + 2 → H6.get i = G3.get i) := Lib.hid (fun i hi => by
        rw [hg6 i (by omega), hst5 i (by omega) (by omega) (fun h => by have := (isBlk_own HOW.out h).1; omega)]
        exact HLO.out i hi)
      have TRS : Hid ((G2.n :: rs).Nodup ∧ ∀ r, r ∈ G2.n :: rs → r < H6.n ∧ H6.get r = .defs false ∧ H.n + 2 < r) := Lib.hid (by
        refine ⟨List.nodup_cons.2 ⟨fun h => by have := (HRS.out.2 _ h).1; omega, HRS.out.1⟩, fun r hr => ?_⟩
        rcases List.mem_cons.1 hr with rfl | hr
        · exact ⟨by omega, by rw [hg6 _ (by omega)]; exact hdf, by omega⟩
        · obtain ⟨r1, r2, r3⟩ := HRS.out.2 r hr
          refine ⟨by omega, ?_, r3⟩
          rw [hg6 r (by omega), hst5 r r1 (fun e => by rw [e, HS.out] at r2; cases r2) (fun h => by rw [(isBlk_own HOW.out h).2.2] at r2; cases r2)]
          exact r2)
      have TN5 := Lib.hid hn5
      have TN6 := Lib.hid hn6
      clear t1 t2 t3 t4 t5 t6 t7 t8 t9 t11 t12 e1 e2 e3 e4 hst hdf hd2 ht hdn hst5 hg6 hH6 hn5 hn6 hd f8 f2 f4 f5 f7 f43 hn3 hn2
      repeat' (first|(with_reducible first|refine zA ?_|refine zB fun K hK=>?_|refine zC fun K2 hK2=>?_|refine zD ?_|refine zE ?_|refine zF ?_|refine zG ?_|refine zH ?_|refine zI ?_|refine zJ ?_|refine zK ?_|refine zL ?_|refine zM ?_|refine zN ?_|refine zO ?_|refine zP ?_|refine zQ ?_|refine zR ?_|refine zS ?_|refine zT ?_)|((with_reducible refine zU (hK _ _ ?_));clear hK K)|((with_reducible refine zV ?_ ?_ fun K1 K3 d hdst h1 h3=>?_);rfl;exact yB rfl;cases hdst;go_simp)|((with_reducible refine zW fun K1 K3 h1 h3=>?_);go_simp)|((first|refine h1 ?_|refine h3 ?_);clear h1 h3 K1 K3)|((first|refine zX (fun hb=>h1 ?_) (fun hb=>h3 ?_)|refine zX (fun hb=>h3 ?_) (fun hb=>h1 ?_))<;>(clear h1 h3 K1 K3;(try have hb2:=yC hb);(try have hb2:=yD hb);(try have hb2:=yE hb);(try have hb2:=yF hb);(try have hb2:=yG hb)))|(refine fun (K2:_→AHeap→Prop) hK2=>?_)|((with_reducible refine zY ?_ ?_);decide)|((with_reducible first|refine zZ ?_ (fun K hK=>?_)|refine yA ?_ (fun K hK=>?_));(focus go_simp;done);go_simp;refine hK _ _ ?_;clear hK K)|(go_simp;(try go_bits);refine hK2 _ _ ?_;clear hK2 K2))
      refine Post.round_normal ⟨fls.length - (k + 1), by have := T1.out.len; omega, k + 1, lv2, Ls2, T2, H6.n, G2.n :: rs, hkl, rfl, (by first|go_simp<;>go_num|assumption), (by first|go_simp<;>go_num|assumption), (by first|go_simp<;>go_num|assumption), (by first|go_simp<;>go_num|assumption), (by first|go_simp<;>go_num|assumption), (by first|go_simp<;>go_num|assumption), T1, TDN, Lib.hid (T9.out.ext (Ext.push _)), Lib.hid (fun h => by have := (isBlk_own T9.out h).2.1; omega), ?_, ?_, Lib.hid ?_, Lib.hid ?_, Lib.hid ?_, Lib.hid ?_, Lib.hid ?_⟩
      · have := TN5.out; have := TN6.out; have := HG2N.out; omega
      · rw [AHeap.n_push]; omega
      · rw [AHeap.get_push_old (by have := TN5.out; have := TN6.out; have := HG2N.out; omega)]; exact T8.out
      · rw [AHeap.get_push_new]; rfl
      · rw [AHeap.get_push_old (by have := TN5.out; have := TN6.out; have := HG2N.out; omega)]; exact TE3.out
      · intro i hi
        rw [AHeap.get_push_old (by have := TN5.out; have := TN6.out; have := HG2N.out; have := HN3.out; omega)]; exact TLO.out i hi
      · refine ⟨TRS.out.1, fun r hr => ?_⟩
        obtain ⟨r1, r2, r3⟩ := TRS.out.2 r hr
        exact ⟨by rw [AHeap.n_push]; omega, by rw [AHeap.get_push_old r1]; exact r2, r3⟩
    case hstop =>
      rintro fz D' H5 j ht hd2 ⟨lv2, Ls2, T2, fr, t1, t2, t3, t4, t5⟩ hj hst hdf
      have hjj : j = some 2 := by rw [t2] at hj; cases hj; rfl
      subst hjj
      have hn3 := HN3.out
      have hn2 := HG2N.out
      have w4 := ht 4
      have w5 := ht 5
      rw [f4] at w4
      rw [f5] at w5
      have hdd : fz.defers = (G2.n :: rs).map markOf := by rw [hd2, hd]; rfl
      have hst5 : ∀ i, i < H'.n → i ≠ G3.n → ¬ isBlk lv i → H5.get i = H'.get i := fun i hi h1 h2 => by
        rw [hst.get i (by simp only [AHeap.n_push]; omega) (by rintro (h | h | h); omega; exact h1 h; exact h2 h)]
        exact ((HG2X.out.push' _).push' _).get i hi
      have hn5 : G2.n + 2 ≤ H5.n := by have := hst.n; simp only [AHeap.n_push] at this; omega
      obtain ⟨H6, hH6⟩ : ∃ H6, H6 = H5.upd (G2.n + 1) (.loop .exhausted (some (some 2))) := ⟨_, rfl⟩
      have hn6 : H6.n = H5.n := by rw [hH6, AHeap.n_upd]
      have hg6 : ∀ i, i ≠ G2.n + 1 → H6.get i = H5.get i := fun i hi => by rw [hH6, AHeap.get_upd_ne hi]
      rw [← hH6]
      obtain ⟨a2, n2, rfl⟩ := own_slice t4
      have T8 : Hid (H6.get G3.n = .row (trCells (.slice a2 n2 n2) T2 fr) 124) := Lib.hid (by rw [hg6 _ (by omega)]; exact t3)
      have T9 : Hid (Own H6 (H.n + 2) (.slice a2 n2 n2) 3 1 ((Ls2.map fun i : Nat => (i : Int)).map (Value.int .i64))) := Lib.hid (own_at t4 (by omega) fun i n hv hn => hg6 i (by
        intro e
        have := (own_block t4 hv hn).2.2
        rw [e, t2] at this
        cases this))
      have TLO : Hid (∀ i, i < H.n + 2 → H6.get i = G3.get i) := Lib.hid (fun i hi => by
        rw [hg6 i (by omega), hst5 i (by omega) (by omega) (fun h => by have := (isBlk_own HOW.out h).1; omega)]
        exact HLO.out i hi)
      have TRS : Hid ((G2.n :: rs).Nodup ∧ ∀ r, r ∈ G2.n :: rs → r < H6.n ∧ H6.get r = .defs false ∧ H.n + 2 < r) := Lib.hid (by
        refine ⟨List.nodup_cons.2 ⟨fun h => by have := (HRS.out.2 _ h).1; omega, HRS.out.1⟩, fun r hr => ?_⟩
        rcases List.mem_cons.1 hr with rfl | hr
        · exact ⟨by omega, by rw [hg6 _ (by omega)]; exact hdf, by omega⟩
        · obtain ⟨r1, r2, r3⟩ := HRS.out.2 r hr
          refine ⟨by omega, ?_, r3⟩
          rw [hg6 r (by omega), hst5 r r1 (fun e => by rw [e, HS.out] at r2; cases r2) (fun h => by rw [(isBlk_own HOW.out h).2.2] at r2; cases r2)]
          exact r2)
      have hxH : Ext H H6 := ⟨by omega, fun i hi => (TLO.out i (by omega)).trans (HX3.out.get i hi)⟩
      have hcs : cellsAt H6 G3.n 0 122 = some (trCells (.slice a2 n2 n2) T2 fr) := by simp [cellsAt, T8.out, trCells_length, trCells_take]
      have hg1 : H6.get (H.n + 1) = .row (trCells (.slice none 0 0) (fun _ => 0) 0) 124 := (TLO.out _ (by omega)).trans HG1.out
      have TEND := Lib.hid t1
      have TXH := Lib.hid hxH
      have TN5 := Lib.hid hn5
      have TN6 := Lib.hid hn6
      clear t1 t2 t3 t4 t5 hst hdf hd2 ht hst5 hg6 hH6 hn5 hn6 hd f8 f2 f4 f5 f7 f43 hn3 hn2 hj
      dsimp only [jumpOf]
      repeat' (first|(with_reducible first|refine zA ?_|refine zB fun K hK=>?_|refine zC fun K2 hK2=>?_|refine zD ?_|refine zE ?_|refine zF ?_|refine zG ?_|refine zH ?_|refine zI ?_|refine zJ ?_|refine zK ?_|refine zL ?_|refine zM ?_|refine zN ?_|refine zO ?_|refine zP ?_|refine zQ ?_|refine zR ?_|refine zS ?_|refine zT ?_)|((with_reducible refine zU (hK _ _ ?_));clear hK K)|((with_reducible refine zV ?_ ?_ fun K1 K3 d hdst h1 h3=>?_);rfl;exact yB rfl;cases hdst;go_simp)|((with_reducible refine zW fun K1 K3 h1 h3=>?_);go_simp)|((first|refine h1 ?_|refine h3 ?_);clear h1 h3 K1 K3)|((first|refine zX (fun hb=>h1 ?_) (fun hb=>h3 ?_)|refine zX (fun hb=>h3 ?_) (fun hb=>h1 ?_))<;>(clear h1 h3 K1 K3;(try have hb2:=yC hb);(try have hb2:=yD hb);(try have hb2:=yE hb);(try have hb2:=yF hb);(try have hb2:=yG hb)))|(refine fun (K2:_→AHeap→Prop) hK2=>?_)|((with_reducible refine zY ?_ ?_);decide)|((with_reducible first|refine zZ ?_ (fun K hK=>?_)|refine yA ?_ (fun K hK=>?_));(focus go_simp;done);go_simp;refine hK _ _ ?_;clear hK K)|(go_simp;(try go_bits);refine hK2 _ _ ?_;clear hK2 K2))
      refine tr_fin (by go_simp) (by go_simp) T9.out TEND.out TXH.out (by have := TN5.out; have := TN6.out; have := HG2N.out; have := HN3.out; omega) TRS.out
    case gen =>
      refine ⟨?own, ?lt, ?rd, ?ready, ?keep, ?round, ?stop⟩
      case own => rintro L Dn K ⟨lv1, Ls1, T1, t1, t2, t3, t4, t5, t6, tbs, t7, t8, t9, te, t11, t12⟩; exact (t12 _).2 (.inl rfl)
      case lt =>
        rintro L Dn K i ⟨lv1, Ls1, T1, t1, t2, t3, t4, t5, t6, tbs, t7, t8, t9, te, t11, t12⟩ hi
        rcases (t12 i).1 hi with rfl | rfl | h
        · exact t6
        · omega
        · exact (isBlk_own t9 h).2.1
      case rd =>
        have hn3 := HN3.out
        have hn2 := HG2N.out
        rintro L Dn K i ⟨lv1, Ls1, T1, t1, t2, t3, t4, t5, t6, tbs, t7, t8, t9, te, t11, t12⟩ (rfl | rfl | rfl | rfl) <;> omega
      case ready => rintro L Dn K ⟨lv1, Ls1, T1, t1, t2, t3, t4, t5, t6, tbs, t7, t8, t9, te, t11, t12⟩; exact t7
      case keep => rintro L Dn K K' h hn hk; exact h.keep hn hk
      case stop => rintro Dn K ⟨lv1, Ls1, T1, fr, t1, t2, t3⟩; exact ⟨_, t2⟩
      case round =>
        rintro loops L Dn K v hfl' hroom ⟨d, rfl, hcan⟩ ⟨lv1, Ls1, T1, t1, t2, t3, t4, t5, t6, tbs, t7, t8, t9, ⟨e1, e2, e3, e4⟩, t11, t12⟩
        have hfl2 := hfl' _ _ findLoop_head
        refine RoundS.enter hfl2 rfl (by simp) t7 fun f' hd' hf' => ?_
        have g2 := hf' 2
        have g5 := hf' 5
        have g7 := hf' 7
        have g8 := hf' 8
        have g44 := hf' 44
        simp [paramsAt, AF.tmp_mk, f2, f5, f7, f8] at g2 g5 g7 g8 g44
        dsimp only
        have hn3 := HN3.out
        have hn2 := HG2N.out
        have hd1 := hcan.2.1
        have TR1 := Lib.hid t1
        have TDN := Lib.hid t2
        have TFL := Lib.hid t3
        have TL := Lib.hid t4
        have T7 := Lib.hid t7
        have T9 := Lib.hid t9
        have T11 := Lib.hid t11
        have T12 := Lib.hid t12
        have TC := Lib.hid hcan
        obtain ⟨b1, n1, hlv1, hb1, hb2, gb1, hbn, hbn0⟩ : ∃ b n, lv1 = .slice (some ⟨b, 0, none⟩) n n ∧ H.n + 2 ≤ b ∧ b < K.n ∧ K.get b = .row ((Ls1.map fun i : Nat => (i : Int)).map (Value.int .i64)) 3 ∧ ((Ls1.map fun i : Nat => (i : Int)).map (Value.int .i64)).length = n * 1 ∧ 0 < n := by
          rcases t9 with ⟨-, h⟩ | h
          · exfalso
            have h1 := congrArg List.length h
            have h2 := (List.getElem?_eq_some_iff.1 t3).1
            simp at h1
            rw [h1] at h2; exact absurd h2 (Nat.not_lt_zero k)
          · exact h
        have hnl : n1 = Ls1.length := by simp at hbn; omega
        subst hnl
        have hk1 := (List.getElem?_eq_some_iff.1 t3).1
        have hcL : cellAt K b1 k = some (.int .i64 (fl : Nat)) := by
          simp only [cellAt, gb1, List.getElem?_map, t3, Option.map_some]
        have hbl : b1 ≠ G2.n + 1 := by rintro rfl; rw [gb1] at t7; cases t7
        have hbs : b1 ≠ G3.n := by rintro rfl; rw [gb1] at t8; injection t8 with _ h9; exact absurd h9 (by decide)
        obtain ⟨K3, hK3⟩ : ∃ K3, K3 = K.upd (G2.n + 1) (.loop .busy none) := ⟨_, rfl⟩
        have hk3 : ∀ i, i ≠ G2.n + 1 → K3.get i = K.get i := fun i hi => by rw [hK3, AHeap.get_upd_ne hi]
        have hk3l : K3.get (G2.n + 1) = .loop .busy none := by rw [hK3, AHeap.get_upd_same]
        have hk3n : K3.n = K.n := by rw [hK3, AHeap.n_upd]
        have hs3 : K3.get G3.n = .row (trCells lv1 T1 (-1)) 124 := (hk3 _ (by omega)).trans t8
        have hb3 : K3.get H.n = .row [.pointer (some ⟨p, 0, none⟩)] 100 := (hk3 _ (by omega)).trans e2
        have hp3 : K3.get p = .row (planCells (.slice (some ⟨fb, fo, fsp⟩) fls.length fc) D) 84 := (hk3 _ (by omega)).trans e1
        have hw3 : K3.get (G3.n + 1) = .row [.func (.func 95) #[] #[.pointer (some ⟨H.n, 0, none⟩)]] 137 := (hk3 _ (by omega)).trans e3
        have hq3 : K3.get q = .row [.int .i64 k] 3 := (hk3 _ (by omega)).trans e4
        have hct : cellAt K3 G3.n (1 + d) = some (.int .i64 (T1 d)) := by rw [cellAt, hs3]; exact trCells_get hd1
        have hcl3 : cellAt K3 G3.n 0 = some lv1 := by rw [cellAt, hs3]; rfl
        have hcL3 : cellAt K3 b1 k = some (.int .i64 (fl : Nat)) := by rw [cellAt, hk3 b1 hbl]; exact hcL
        have hcq3 : cellAt K3 q 0 = some (.int .i64 k) := by rw [cellAt, hq3]; rfl
        have hcw3 : cellAt K3 (G3.n + 1) 0 = some (.func (.func 95) #[] #[.pointer (some ⟨H.n, 0, none⟩)]) := by rw [cellAt, hw3]; rfl
        have HWHO := Lib.hid (fun (loops : List (Nat × LInfo)) (K4 : AHeap) (h1 : K4.n = K3.n) (h2 : K4.get H.n = K3.get H.n) (h3 : K4.get p = K3.get p) => cl95_s (loops := loops) (H := K4) (p := p) (b := H.n) (by omega) (h2.trans hb3) (by omega) (h3.trans hp3) hd1)
        have hne0 : H.n ≠ G3.n := by omega
        have hne1 : p ≠ G3.n := by omega
        have hdi : (d : Int) < 120 := by omega
        have hki3 : (k : Int) < (Ls1.length : Int) := by omega
        have HK3 := Lib.hid hk3
        have HK3L := Lib.hid hk3l
        have HK3N := Lib.hid hk3n
        have HS3 := Lib.hid hs3
        have HB1 := Lib.hid (⟨hb1, hb2, gb1, hbl, hbs⟩ : H.n + 2 ≤ b1 ∧ b1 < K.n ∧ K.get b1 = .row ((Ls1.map fun i : Nat => (i : Int)).map (Value.int .i64)) 3 ∧ b1 ≠ G2.n + 1 ∧ b1 ≠ G3.n)
        have HB3 := Lib.hid hb3
        have HP3 := Lib.hid hp3
        have HW3 := Lib.hid hw3
        have HQ3 := Lib.hid hq3
        have HT0 : Hid (∀ L2, (∀ d : Nat, Value.int .i64 (d : Int) ∈ L2 → 0 ≤ T1 d) → TrS fls D0 D x (planCells (.slice (some ⟨fb, fo, fsp⟩) fls.length fc) D) (H.n + 2) p H.n (G3.n + 1) q G3.n (G2.n + 1) k fl L2 Dn K) := Lib.hid (fun L2 h => ⟨lv1, Ls1, T1, t1, t2, t3, h, t5, t6, tbs, t7, t8, t9, ⟨e1, e2, e3, e4⟩, t11, t12⟩)
        have HT5 := Lib.hid t5
        have HT6 := Lib.hid t6
        have HTBS := Lib.hid tbs
        have HNE := Lib.hid (⟨by omega, by omega, by omega, by omega, by omega⟩ : p ≠ G2.n + 1 ∧ H.n ≠ G2.n + 1 ∧ G3.n + 1 ≠ G2.n + 1 ∧ q ≠ G2.n + 1 ∧ G3.n ≠ G2.n + 1)
        have HBSN := Lib.hid (⟨by omega, by omega⟩ : H.n + 2 < G3.n ∧ q < K.n)
        have hk3lt : b1 < K3.n := by omega
        have hgn3 : G3.n < K3.n := by omega
        have hne2 : b1 ≠ G3.n := hbs
        have hne3 : q ≠ G3.n := by omega
        have hne4 : G3.n + 1 ≠ G3.n := by omega
        subst hlv1
        clear t1 t2 t3 t4 t5 t6 tbs t7 t8 t9 e1 e2 e3 e4 t11 t12 hcan hfl2 hf' gb1 hbn hbn0 hcL hk3 hk3l hk3n hs3 hb3 hp3 hw3 hq3 hn3 hn2 hb1 hb2 hbl hbs
        repeat' (first|(with_reducible first|refine zA ?_|refine zB fun K hK=>?_|refine zC fun K2 hK2=>?_|refine zD ?_|refine zE ?_|refine zF ?_|refine zG ?_|refine zH ?_|refine zI ?_|refine zJ ?_|refine zK ?_|refine zL ?_|refine zM ?_|refine zN ?_|refine zO ?_|refine zP ?_|refine zQ ?_|refine zR ?_|refine zS ?_|refine zT ?_)|((with_reducible refine zU (hK _ _ ?_));clear hK K)|((with_reducible refine zV ?_ ?_ fun K1 K3 d hdst h1 h3=>?_);rfl;exact yB rfl;cases hdst;go_simp)|((with_reducible refine zW fun K1 K3 h1 h3=>?_);go_simp)|((first|refine h1 ?_|refine h3 ?_);clear h1 h3 K1 K3)|((first|refine zX (fun hb=>h1 ?_) (fun hb=>h3 ?_)|refine zX (fun hb=>h3 ?_) (fun hb=>h1 ?_))<;>(clear h1 h3 K1 K3;(try have hb2:=yC hb);(try have hb2:=yD hb);(try have hb2:=yE hb);(try have hb2:=yF hb);(try have hb2:=yG hb)))|(refine fun (K2:_→AHeap→Prop) hK2=>?_)|((with_reducible refine zY ?_ ?_);decide)|((with_reducible first|refine zZ ?_ (fun K hK=>?_)|refine yA ?_ (fun K hK=>?_));(focus go_simp;done);go_simp;refine hK _ _ ?_;clear hK K)|(go_simp;(try go_bits);refine hK2 _ _ ?_;clear hK2 K2))
        refine ⟨T7.out, ?_⟩
        rw [← hK3]
        clear hK3
        rcases TR1.out.tr.tkr d with hTd | ⟨i, hTd⟩
        case inr =>
          rw [hTd] at hct
          have hib : ((i : Int) != -1) = true := by simp
          repeat' (first|(with_reducible first|refine zA ?_|refine zB fun K hK=>?_|refine zC fun K2 hK2=>?_|refine zD ?_|refine zE ?_|refine zF ?_|refine zG ?_|refine zH ?_|refine zI ?_|refine zJ ?_|refine zK ?_|refine zL ?_|refine zM ?_|refine zN ?_|refine zO ?_|refine zP ?_|refine zQ ?_|refine zR ?_|refine zS ?_|refine zT ?_)|((with_reducible refine zU (hK _ _ ?_));clear hK K)|((with_reducible refine zV ?_ ?_ fun K1 K3 d hdst h1 h3=>?_);rfl;exact yB rfl;cases hdst;go_simp)|((with_reducible refine zW fun K1 K3 h1 h3=>?_);go_simp)|((first|refine h1 ?_|refine h3 ?_);clear h1 h3 K1 K3)|((first|refine zX (fun hb=>h1 ?_) (fun hb=>h3 ?_)|refine zX (fun hb=>h3 ?_) (fun hb=>h1 ?_))<;>(clear h1 h3 K1 K3;(try have hb2:=yC hb);(try have hb2:=yD hb);(try have hb2:=yE hb);(try have hb2:=yF hb);(try have hb2:=yG hb)))|(refine fun (K2:_→AHeap→Prop) hK2=>?_)|((with_reducible refine zY ?_ ?_);decide)|((with_reducible first|refine zZ ?_ (fun K hK=>?_)|refine yA ?_ (fun K hK=>?_));(focus go_simp;done);go_simp;refine hK _ _ ?_;clear hK K)|(go_simp;(try go_bits);refine hK2 _ _ ?_;clear hK2 K2))
          have hsame : ∀ i, (K3.upd (G2.n + 1) (.loop .ready none)).get i = K.get i := fun i => by
            by_cases h : i = G2.n + 1
            · rw [h, AHeap.get_upd_same, T7.out]
            · rw [AHeap.get_upd_ne h, HK3.out i h]
          have hsn : (K3.upd (G2.n + 1) (.loop .ready none)).n = K.n := by rw [AHeap.n_upd, HK3N.out]
          refine ⟨⟨.busy, none, HK3L.out⟩, Dn, ⟨Nat.le_of_eq hsn.symm, fun i _ _ => hsame i, fun i h => .inl h⟩, .inl ⟨rfl, (HT0.out (L ++ [.int .i64 (d : Int)]) fun e he => ?_).keep (Nat.le_of_eq hsn.symm) fun i _ => hsame i⟩⟩
          rcases List.mem_append.1 he with he | he
          · exact TL.out e he
          · rw [List.mem_singleton] at he
            have : e = d := by injection he with _ h9; omega
            rw [this, hTd]; omega
        rw [hTd] at hct
        have hDd : D d = -1 ∨ ∃ h : Nat, D d = (h : Int) ∧ h < fls.length := by
          rcases HPL.out.val d hd1 with h | h
          · exact absurd ((HPL.out.closed d).1 h) TC.out.2.2.1
          · exact h
        rcases hDd with hDd | ⟨h, hDd, hlf⟩
        · rw [hDd] at HWHO
          have TEND := Lib.hid (TR1.out.free TFL.out TC.out hDd)
          clear hDd
          have hs3 := HS3.out
          repeat' (first|(with_reducible first|refine zA ?_|refine zB fun K hK=>?_|refine zC fun K2 hK2=>?_|refine zD ?_|refine zE ?_|refine zF ?_|refine zG ?_|refine zH ?_|refine zI ?_|refine zJ ?_|refine zK ?_|refine zL ?_|refine zM ?_|refine zN ?_|refine zO ?_|refine zP ?_|refine zQ ?_|refine zR ?_|refine zS ?_|refine zT ?_)|((with_reducible refine zU (hK _ _ ?_));clear hK K)|((with_reducible refine zV ?_ ?_ fun K1 K3 d hdst h1 h3=>?_);rfl;exact yB rfl;cases hdst;go_simp)|((with_reducible refine zW fun K1 K3 h1 h3=>?_);go_simp)|((first|refine h1 ?_|refine h3 ?_);clear h1 h3 K1 K3)|((first|refine zX (fun hb=>h1 ?_) (fun hb=>h3 ?_)|refine zX (fun hb=>h3 ?_) (fun hb=>h1 ?_))<;>(clear h1 h3 K1 K3;(try have hb2:=yC hb);(try have hb2:=yD hb);(try have hb2:=yE hb);(try have hb2:=yF hb);(try have hb2:=yG hb)))|(refine fun (K2:_→AHeap→Prop) hK2=>?_)|((with_reducible refine zY ?_ ?_);decide)|((with_reducible first|refine zZ ?_ (fun K hK=>?_)|refine yA ?_ (fun K hK=>?_));(focus go_simp;done);go_simp;refine hK _ _ ?_;clear hK K)|(go_simp;(try go_bits);(try first | ((with_reducible show CallS _ _ _ _ _ _);refine CallS.mono (HWHO.out _ _ (AHeap.n_upd ..) (AHeap.get_upd_ne hne0) (AHeap.get_upd_ne hne1)) ?_; rintro _ _ ⟨rfl, rfl⟩; go_simp));refine hK2 _ _ ?_;clear hK2 K2))
          have hsx : ∀ (x : AObj) i, i ≠ G2.n + 1 → i ≠ G3.n → ((K3.upd G3.n x).upd (G2.n + 1) (.loop .done (some (some 2)))).get i = K.get i := fun x i h1 h2 => by
            rw [AHeap.get_upd_ne h1, AHeap.get_upd_ne h2, HK3.out i h1]
          have hsn : ∀ (x z : AObj), ((K3.upd G3.n x).upd (G2.n + 1) z).n = K.n := fun x z => by rw [AHeap.n_upd, AHeap.n_upd, HK3N.out]
          refine ⟨⟨.busy, none, ?_⟩, Dn, ⟨Nat.le_of_eq (hsn _ _).symm, fun i _ hd => hsx _ i (fun e => hd ((T12.out i).2 (.inl e))) (fun e => hd ((T12.out i).2 (.inr (.inl e)))), fun i h => .inl h⟩, .inr ⟨rfl, _, Ls1, _, d, TEND.out, AHeap.get_upd_same, ?_, own_at T9.out (Nat.le_of_eq (hsn _ _).symm) fun i n hv hn => ?_, T12.out⟩⟩
          · rw [AHeap.get_upd_ne HNE.out.2.2.2.2.symm]; exact HK3L.out
          · rw [AHeap.get_upd_ne HNE.out.2.2.2.2, AHeap.get_upd_same]
          · cases hv
            exact hsx _ _ HB1.out.2.2.2.1 HB1.out.2.2.2.2
        · rw [hDd] at HWHO
          have hhb : ((h : Int) != -1) = true := by simp
          rw [hhb] at HWHO
          have HMORE := Lib.hid (TR1.out.more HPL.out HNX.out TFL.out TC.out hTd hDd)
          have HO3 : Hid (Own (K3.upd G3.n (.row (trCells (.slice (some ⟨b1, 0, none⟩) Ls1.length Ls1.length) (putI T1 d fl) (-1)) 124)) (H.n + 2) (.slice (some ⟨b1, 0, none⟩) Ls1.length Ls1.length) 3 1 ((Ls1.map fun i : Nat => (i : Int)).map (Value.int .i64))) := Lib.hid (own_at T9.out (by rw [AHeap.n_upd, HK3N.out]; exact Nat.le_refl _) fun i n hv hn => by
            cases hv
            rw [AHeap.get_upd_ne HB1.out.2.2.2.2, HK3.out _ HB1.out.2.2.2.1])
          have hs3 := HS3.out
          have hbig : (((Ls1.map fun i : Nat => (i : Int)).map (Value.int .i64)).length + 1) * max 8 1 ≤ 1073741824 := by
            have := TR1.out.len
            simp only [List.length_map]; simp; omega
          have HBIG := Lib.hid hbig
          clear hDd hhb hbig
          repeat' (first|(with_reducible first|refine zA ?_|refine zB fun K hK=>?_|refine zC fun K2 hK2=>?_|refine zD ?_|refine zE ?_|refine zF ?_|refine zG ?_|refine zH ?_|refine zI ?_|refine zJ ?_|refine zK ?_|refine zL ?_|refine zM ?_|refine zN ?_|refine zO ?_|refine zP ?_|refine zQ ?_|refine zR ?_|refine zS ?_|refine zT ?_)|((with_reducible refine zU (hK _ _ ?_));clear hK K)|((with_reducible refine zV ?_ ?_ fun K1 K3 d hdst h1 h3=>?_);rfl;exact yB rfl;cases hdst;go_simp)|((with_reducible refine zW fun K1 K3 h1 h3=>?_);go_simp)|((first|refine h1 ?_|refine h3 ?_);clear h1 h3 K1 K3)|((first|refine zX (fun hb=>h1 ?_) (fun hb=>h3 ?_)|refine zX (fun hb=>h3 ?_) (fun hb=>h1 ?_))<;>(clear h1 h3 K1 K3;(try have hb2:=yC hb);(try have hb2:=yD hb);(try have hb2:=yE hb);(try have hb2:=yF hb);(try have hb2:=yG hb)))|(refine fun (K2:_→AHeap→Prop) hK2=>?_)|((with_reducible refine zY ?_ ?_);decide)|((with_reducible first|refine zZ ?_ (fun K hK=>?_)|refine yA ?_ (fun K hK=>?_));(focus go_simp;done);go_simp;refine hK _ _ ?_;clear hK K)|(go_simp;(try go_bits);(try first | ((with_reducible show CallS _ _ _ _ _ _);refine CallS.mono (HWHO.out _ _ (AHeap.n_upd ..) (AHeap.get_upd_ne hne0) (AHeap.get_upd_ne hne1)) ?_; rintro _ _ ⟨rfl, rfl⟩; go_simp) | ((refine one_k el22 sz3 ze3 rfl (by decide) (by decide) rfl rfl ?_); go_simp) | ((refine append_k2 el22 sz3 by3 ze3 rfl (by decide) (HO3.out.ext (Ext.push _)) (srcCells_new rfl) (by decide) rfl (by rw [List.all_append, oneV_ints]; rfl) HBIG.out (by rw [AHeap.n_push, AHeap.n_upd, HK3N.out]; have := HBSN.out; have := HT6.out; have := HT5.out; omega) fun v2 H4 ho4 hg4 => ?_); (obtain ⟨a2, n2, rfl⟩ := own_slice ho4); (have HO4 := Lib.hid ho4); (have HG4 := Lib.hid hg4); (have hs4 : H4.get G3.n = .row (trCells (.slice (some ⟨b1, 0, none⟩) Ls1.length Ls1.length) (putI T1 d fl) (-1)) 124 := (hg4.2 G3.n (by rw [AHeap.n_push, AHeap.n_upd]; omega) (fun b n hv hn => by cases hv; exact hne2.symm)).trans ((AHeap.get_push_old (by rw [AHeap.n_upd]; exact hgn3)).trans AHeap.get_upd_same)); clear ho4 hg4; go_simp));refine hK2 _ _ ?_;clear hK2 K2))
          have hx1 := HNE.out
          have hx2 := HBSN.out
          have hx3 := HT5.out
          have hx4 := HT6.out
          have hx5 := HG4.out.1
          have hx6 := HK3N.out
          rw [AHeap.n_push, AHeap.n_upd, hx6] at hx5
          have hx7 : ∀ i, isBlk (.slice a2 n2 n2) i → K.n + 1 ≤ i ∧ i < H4.n := fun i hi => by
            have := isBlk_own HO4.out hi
            rw [AHeap.n_push, AHeap.n_upd, hx6] at this
            exact ⟨this.1, this.2.1⟩
          have hx8 : ∀ (x : AObj) i, i < K.n → i ≠ G2.n + 1 → i ≠ G3.n → i ≠ b1 → ((H4.upd G3.n x).upd (G2.n + 1) (.loop .ready none)).get i = K.get i := fun x i h1 h2 h3 h4 => by
            rw [AHeap.get_upd_ne h2, AHeap.get_upd_ne h3, HG4.out.2 i (by rw [AHeap.n_push, AHeap.n_upd]; omega) (fun b n hv hn => by cases hv; exact h4), AHeap.get_push_old (by rw [AHeap.n_upd]; omega), AHeap.get_upd_ne h3, HK3.out i h2]
          have hx9 : isBlk (.slice (some ⟨b1, 0, none⟩) Ls1.length Ls1.length) b1 := ⟨_, rfl, by have := (List.getElem?_eq_some_iff.1 TFL.out).1; omega⟩
          have hT0 : ∀ e : Nat, 0 ≤ T1 e → 0 ≤ putI T1 d fl e := fun e he => by
            by_cases h : e = d
            · rw [h, putI_same]; omega
            · rw [putI_ne h]; exact he
          have hTd0 : 0 ≤ putI T1 d fl d := by rw [putI_same]; omega
          have hg4l : H4.get (G2.n + 1) = .loop .busy none := by
            rw [HG4.out.2 _ (by rw [AHeap.n_push, AHeap.n_upd]; omega) (fun b n hv hn => by cases hv; exact HB1.out.2.2.2.1.symm), AHeap.get_push_old (by rw [AHeap.n_upd]; omega), AHeap.get_upd_ne hx1.2.2.2.2.symm]; exact HK3L.out
          refine ⟨⟨.busy, none, ?_⟩, fun i => i = G2.n + 1 ∨ i = G3.n ∨ isBlk (.slice a2 n2 n2) i, ⟨?_, fun i hi hd => ?_, fun i hi => ?_⟩, .inl ⟨rfl, .slice a2 n2 n2, Ls1 ++ [h], putI T1 d fl, HMORE.out, fun j hj l hl e hc => hT0 e (TDN.out j hj l (by rw [← hl, List.getElem?_append_left (by have := (List.getElem?_eq_some_iff.1 TFL.out).1; omega)]) e hc), ?_, fun e he => ?_, hx3, ?_, HTBS.out, AHeap.get_upd_same, ?_, ?_, ⟨?_, ?_, ?_, ?_⟩, fun hi => ?_, fun i => Iff.rfl⟩⟩
          · rw [AHeap.get_upd_ne hx1.2.2.2.2.symm]; exact hg4l
          · rw [AHeap.n_upd, AHeap.n_upd]; omega
          · exact hx8 _ i hi (fun e => hd ((T12.out i).2 (.inl e))) (fun e => hd ((T12.out i).2 (.inr (.inl e)))) (fun e => hd ((T12.out i).2 (.inr (.inr (e ▸ hx9)))))
          · rcases hi with h1 | h1 | h1
            · exact .inl ((T12.out i).2 (.inl h1))
            · exact .inl ((T12.out i).2 (.inr (.inl h1)))
            · exact .inr (by have := hx7 i h1; omega)
          · rw [List.getElem?_append_left (List.getElem?_eq_some_iff.1 TFL.out).1]; exact TFL.out
          · rcases List.mem_append.1 he with he | he
            · exact hT0 e (TL.out e he)
            · rw [List.mem_singleton] at he
              have : e = d := by injection he with _ h9; omega
              rw [this]; exact hTd0
          · rw [AHeap.n_upd, AHeap.n_upd]; omega
          · rw [AHeap.get_upd_ne hx1.2.2.2.2, AHeap.get_upd_same]; rfl
          · rw [List.map_append, List.map_append]
            refine (own_at HO4.out (by rw [AHeap.n_upd, AHeap.n_upd]; exact Nat.le_refl _) fun i n hv hn => ?_).mono (by rw [AHeap.n_push, AHeap.n_upd]; omega)
            have := hx7 i ⟨n, hv, hn⟩
            rw [AHeap.get_upd_ne (by omega), AHeap.get_upd_ne (by omega)]
          · rw [hx8 _ p (by omega) hx1.1 hne1 (by have := HB1.out.1; omega), ← HK3.out p hx1.1]; exact HP3.out
          · rw [hx8 _ H.n (by omega) hx1.2.1 hne0 (by have := HB1.out.1; omega), ← HK3.out _ hx1.2.1]; exact HB3.out
          · rw [hx8 _ (G3.n + 1) (by omega) hx1.2.2.1 hne4 (fun e => by have h9 := HW3.out; rw [e, HK3.out _ HB1.out.2.2.2.1, HB1.out.2.2.1] at h9; injection h9 with _ h10; exact absurd h10 (by decide)), ← HK3.out _ hx1.2.2.1]; exact HW3.out
          · rw [hx8 _ q hx2.2 hx1.2.2.2.1 hne3 (fun e => T11.out (e ▸ hx9)), ← HK3.out _ hx1.2.2.2.1]; exact HQ3.out
          · have := hx7 q hi; omega
  · have hke : k = Ls.length := by omega
    have hki : ¬ (k : Int) < (Ls.length : Int) := by omega
    subst hla
    have hcs2 : cellsAt H' G3.n 0 122 = some (trCells (.slice la Ls.length Ls.length) T (-1)) := by simp [cellsAt, HS.out, trCells_length, trCells_take]
    have hg1 : H'.get (H.n + 1) = .row (trCells (.slice none 0 0) (fun _ => 0) 0) 124 := (HLO.out _ (by omega)).trans HG1.out
    have TEND : Hid (TrEnd fls D0 D x Ls T (-1)) := Lib.hid ⟨HTR.out.tr, HTR.out.lt, .inl ⟨rfl, HTR.out.full (hke ▸ HDN.out)⟩⟩
    have TXH := Lib.hid hXH
    have TQ2 := Lib.hid hq2
    have TQ1 := Lib.hid hq1
    clear hn3 hXH hke hlt hLn
    repeat' (first|(with_reducible first|refine zA ?_|refine zB fun K hK=>?_|refine zC fun K2 hK2=>?_|refine zD ?_|refine zE ?_|refine zF ?_|refine zG ?_|refine zH ?_|refine zI ?_|refine zJ ?_|refine zK ?_|refine zL ?_|refine zM ?_|refine zN ?_|refine zO ?_|refine zP ?_|refine zQ ?_|refine zR ?_|refine zS ?_|refine zT ?_)|((with_reducible refine zU (hK _ _ ?_));clear hK K)|((with_reducible refine zV ?_ ?_ fun K1 K3 d hdst h1 h3=>?_);rfl;exact yB rfl;cases hdst;go_simp)|((with_reducible refine zW fun K1 K3 h1 h3=>?_);go_simp)|((first|refine h1 ?_|refine h3 ?_);clear h1 h3 K1 K3)|((first|refine zX (fun hb=>h1 ?_) (fun hb=>h3 ?_)|refine zX (fun hb=>h3 ?_) (fun hb=>h1 ?_))<;>(clear h1 h3 K1 K3;(try have hb2:=yC hb);(try have hb2:=yD hb);(try have hb2:=yE hb);(try have hb2:=yF hb);(try have hb2:=yG hb)))|(refine fun (K2:_→AHeap→Prop) hK2=>?_)|((with_reducible refine zY ?_ ?_);decide)|((with_reducible first|refine zZ ?_ (fun K hK=>?_)|refine yA ?_ (fun K hK=>?_));(focus go_simp;done);go_simp;refine hK _ _ ?_;clear hK K)|(go_simp;(try go_bits);refine hK2 _ _ ?_;clear hK2 K2))
    exact tr_fin (by go_simp) (by go_simp) HOW.out TEND.out TXH.out (by have := TQ2.out; have := TQ1.out; have := HN3.out; omega) HRS.out
end Go.Proofs.Try
namespace Go.Proofs.Try
open Go Go.Am Go.RowKit
set_option maxRecDepth 100000


def meritN (fls : List Flaw) (i : Nat) : Int := (fls.getD i nowhere).merit
structure Shape (fls : List Flaw) (D0 D : Nat → Int) : Prop where
  closed : ∀ d, D d = -2 ↔ D0 d = -2
  val : ∀ d, d < 120 → D d = -2 ∨ D d = -1 ∨ ∃ i : Nat, D d = (i : Int) ∧ i < fls.length
  out : ∀ d, 120 ≤ d → D d = -2
theorem PlanD.shape {fls : List Flaw} {D0 D : Nat → Int} (h : PlanD fls D0 D) : Shape fls D0 D := ⟨h.closed, h.val, h.out⟩
theorem Shape.plan {fls : List Flaw} {D0 D : Nat → Int} (h : Shape fls D0 D) (hm : Mat (canD fls D0) D) : PlanD fls D0 D := ⟨h.closed, h.val, h.out, hm⟩
theorem Shape.put {fls : List Flaw} {D0 D : Nat → Int} (h : Shape fls D0 D) {d l : Nat} (hc : canD fls D0 l d) : Shape fls D0 (putI D d l) := by
  refine ⟨fun e => ?_, fun e he => ?_, fun e he => ?_⟩
  · by_cases hed : e = d
    · subst hed
      rw [putI_same]
      constructor
      · intro h; omega
      · intro h; exact absurd h hc.2.2.1
    · rw [putI_ne hed]; exact h.closed e
  · by_cases hed : e = d
    · subst hed
      rw [putI_same]
      exact .inr (.inr ⟨l, rfl, hc.1⟩)
    · rw [putI_ne hed]; exact h.val e he
  · have : e ≠ d := by have := hc.2.1; omega
    rw [putI_ne this]; exact h.out e he

structure Added (fls : List Flaw) (D0 D : Nat → Int) (x : Nat) (C : Nat → Int) : Prop where
  plan : PlanD fls D0 C
  best : BestOf (canD fls D0) (meritN fls) C (x + 1)
  has : ∀ i, Has C i → Has D i ∨ i = x
structure Moving (fls : List Flaw) (D0 D : Nat → Int) (x : Nat) (L : List Nat) (T : Nat → Int) (C : Nat → Int) (day j : Nat) : Prop where
  shape : Shape fls D0 C
  lt : day < 120
  hole : ∃ Y : Nat → Prop, Hole (canD fls D0) D x L T Y C day j ∧ ¬ Y x ∧ ∀ C', Moved (canD fls D0) D x L Y C' → BestOf (canD fls D0) (meritN fls) C' (x + 1)
theorem Moving.idx {fls : List Flaw} {D0 D : Nat → Int} {x : Nat} {L : List Nat} {T C : Nat → Int} {day j : Nat} (h : Moving fls D0 D x L T C day j) : ∃ l : Nat, T day = (l : Int) := by
  obtain ⟨Y, h1, -⟩ := h.hole
  obtain ⟨l, -, h2⟩ := h1.idx
  exact ⟨l, h2⟩
theorem Moving.next {fls : List Flaw} {D0 D : Nat → Int} {x : Nat} {L : List Nat} {T C : Nat → Int} {day j l was : Nat} (h : Moving fls D0 D x L T C day j) (ht : Trail (canD fls D0) D x L T) (hp : PlanD fls D0 D) (hx : ¬ Has D x) (hl : T day = (l : Int)) (hw : C was = (l : Int)) (h120 : was < 120) :
    ∃ j', j' < j ∧ Moving fls D0 D x L T (putI C day l) was j' := by
  obtain ⟨Y, h1, h2, h3⟩ := h.hole
  obtain ⟨j', h4, h5, -⟩ := h1.next ht hp.mat hl hw hx
  exact ⟨j', h4, h.shape.put (ht.take day l hl).1, h120, Y, h5, h2, h3⟩
theorem Moving.last {fls : List Flaw} {D0 D : Nat → Int} {x : Nat} {L : List Nat} {T C : Nat → Int} {day j l : Nat} (h : Moving fls D0 D x L T C day j) (ht : Trail (canD fls D0) D x L T) (hl : T day = (l : Int)) (hw : ∀ d, d < 120 → C d ≠ (l : Int)) : Added fls D0 D x (putI C day l) := by
  obtain ⟨Y, h1, h2, h3⟩ := h.hole
  have hw2 : ∀ d, C d ≠ (l : Int) := fun d => by
    rcases Nat.lt_or_ge d 120 with h9 | h9
    · exact hw d h9
    · rw [h.shape.out d h9]; omega
  obtain ⟨-, h5⟩ := h1.last ht hl hw2 h2
  refine ⟨(h.shape.put (ht.take day l hl).1).plan h5.mat, h3 _ h5, fun i hi => ?_⟩
  rcases (h5.has i).1 hi with h6 | h6
  · exact .inl h6.1
  · exact .inr h6
theorem Moving.free {fls : List Flaw} {D0 D : Nat → Int} {x d l : Nat} {L : List Nat} {T : Nat → Int} (ht : Trail (canD fls D0) D x L T) (hp : PlanD fls D0 D) (hb : BestOf (canD fls D0) (meritN fls) D x) (hd : d < 120) (hl : T d = (l : Int)) (hf : D d = -1) : ∃ j, Moving fls D0 D x L T D d j := by
  obtain ⟨j, h⟩ := Hole.start (Y := fun _ => False) ht hp.mat hl (fun i => ⟨fun h => h.elim, fun h => by omega⟩) (.inl hf)
  exact ⟨j, hp.shape, hd, _, h, fun h => h, fun C' hm => best_free hb hm⟩
theorem Moving.other {fls : List Flaw} {D0 D : Nat → Int} {x y d : Nat} {L : List Nat} {T : Nat → Int} (ht : Trail (canD fls D0) D x L T) (hp : PlanD fls D0 D) (hb : BestOf (canD fls D0) (meritN fls) D x) (hfu : Full (canD fls D0) D L) (hx : ¬ Has D x) (hy : y ∈ L) (hmin : ∀ i, i ∈ L → meritN fls y ≤ meritN fls i) (hd : D d = (y : Int)) : ∃ j, Moving fls D0 D x L T D d j := by
  have hyx : y ≠ x := fun e => hx ⟨d, by rw [hd, e]⟩
  have hT : ∃ l : Nat, T d = (l : Int) := by
    rcases ht.src y hy with e | ⟨e, h1, h2⟩
    · exact absurd e hyx
    · have := hp.mat.one e d y h1 hd
      subst this
      rcases ht.tkr e with h3 | h3
      · omega
      · exact h3
  obtain ⟨l, hl⟩ := hT
  have hlt : d < 120 := by
    rcases Nat.lt_or_ge d 120 with h9 | h9
    · exact h9
    · have := hp.out d h9; omega
  obtain ⟨j, h⟩ := Hole.start (Y := fun i => i = y) ht hp.mat hl (fun i => ⟨fun h => by rw [h, hd], fun h => by omega⟩) (.inr ⟨y, hd⟩)
  exact ⟨j, hp.shape, hlt, _, h, fun h => hyx h.symm, fun C' hm => best_other hb ht hfu hx hmin hy hyx hm⟩
theorem Added.self {fls : List Flaw} {D0 D : Nat → Int} {x : Nat} {L : List Nat} {T : Nat → Int} (ht : Trail (canD fls D0) D x L T) (hp : PlanD fls D0 D) (hb : BestOf (canD fls D0) (meritN fls) D x) (hfu : Full (canD fls D0) D L) (hx : ¬ Has D x) (hmin : ∀ i, i ∈ L → meritN fls x ≤ meritN fls i) : Added fls D0 D x D :=
  ⟨hp, best_self hb ht hfu hx hmin, fun i hi => .inl hi⟩
end Go.Proofs.Try
namespace Go.Proofs.Try
open Go Go.Am Go.RowKit
set_option maxRecDepth 100000


structure But (p : Nat) (H H' : AHeap) : Prop where
  n : H.n ≤ H'.n
  get : ∀ i, i < H.n → i ≠ p → H'.get i = H.get i
theorem But.of_ext {p : Nat} {H H' : AHeap} (h : Ext H H') : But p H H' := ⟨h.n, fun i hi _ => h.get i hi⟩
theorem But.trans {p : Nat} {H H' H'' : AHeap} (h : But p H H') (h2 : But p H' H'') : But p H H'' := ⟨Nat.le_trans h.n h2.n, fun i hi hne => (h2.get i (Nat.lt_of_lt_of_le hi h.n) hne).trans (h.get i hi hne)⟩

set_option maxHeartbeats 4000000 in
theorem add_e {loops : List (Nat × LInfo)} {H : AHeap} {p x : Nat} {fa : Option Addr} {fc : Nat} {fls : List Flaw} {D0 D : Nat → Int} (hp : p < H.n) (gp : H.get p = .row (planCells (.slice fa fls.length fc) D) 84) (hf : Flaws H (.slice fa fls.length fc) fls) (hok : ∀ a, a ∈ fls → FOk a) (hpl : PlanD fls D0 D) (hx : x < fls.length) (hnx : ¬ Has D x) (hfl : fls.length ≤ 1000)
    (hfa : ∀ b, fa = some b → b.block ≠ p) (hb : BestOf (canD fls D0) (meritN fls) D x) :
    CallS Try.prog loops 49 [.pointer (some ⟨p, 0, none⟩), .int .i64 x] H fun _ H' => ∃ C, Added fls D0 D x C ∧ H'.get p = .row (planCells (.slice fa fls.length fc) C) 84 ∧ But p H H' := by
  have HF := Lib.hid hf
  have HOK := Lib.hid hok
  have HPL := Lib.hid hpl
  have HNX := Lib.hid hnx
  have GP := Lib.hid gp
  have HB := Lib.hid hb
  have HT := Lib.hid (fun (loops : List (Nat × LInfo)) (H2 : AHeap) (hx2 : Ext H H2) => trailOf_e (loops := loops) (H := H2) (p := p) (x := x) (Nat.lt_of_lt_of_le hp hx2.n) ((hx2.get p hp).trans gp) (hf.ext hx2) hok hpl hx hnx hfl)
  clear gp hf hok hpl hnx hb hfa
  refine CallS.enter' Try.func49 rfl Try.ntmps49 (by simp) fun f hd hf => ?_
  have f0 := hf 0
  have f1 := hf 1
  simp at f0 f1
  clear hf
  repeat' (first|((with_reducible refine stop_if (n := 3) ?_))|(with_reducible first|refine zA ?_|refine zB fun K hK=>?_|refine zC fun K2 hK2=>?_|refine zD ?_|refine zE ?_|refine zF ?_|refine zG ?_|refine zH ?_|refine zI ?_|refine zM ?_|refine zN ?_|refine zO ?_|refine zP ?_|refine zQ ?_|refine zR ?_)|((with_reducible refine zU (hK _ _ ?_));clear hK K)|((with_reducible refine zV ?_ ?_ fun K1 K3 d hdst h1 h3=>?_);rfl;exact yB rfl;cases hdst;go_simp)|((with_reducible refine zW fun K1 K3 h1 h3=>?_);go_simp)|((first|refine h1 ?_|refine h3 ?_);clear h1 h3 K1 K3)|((first|refine zX (fun hb=>h1 ?_) (fun hb=>h3 ?_)|refine zX (fun hb=>h3 ?_) (fun hb=>h1 ?_))<;>(clear h1 h3 K1 K3;(try have hb2:=yC hb);(try have hb2:=yD hb);(try have hb2:=yE hb);(try have hb2:=yF hb);(try have hb2:=yG hb)))|(refine fun (K2:_→AHeap→Prop) hK2=>?_)|((with_reducible refine zY ?_ ?_);decide)|((with_reducible first|refine zZ ?_ (fun K hK=>?_)|refine yA ?_ (fun K hK=>?_));(focus go_simp;done);go_simp;refine hK _ _ ?_;clear hK K)|(go_simp;(try go_bits);(try first | ((with_reducible show CallS _ _ _ _ _ _);refine CallS.mono (HT.out _ _ (Ext.push _)) ?_; rintro _ H2 ⟨⟨lv, Ls, T, fr, rfl, he, ho⟩, hx2⟩; (have HE := Lib.hid he); (have HO := Lib.hid ho); (have HX2 := Lib.hid hx2); clear he ho hx2; (obtain ⟨la, ln, rfl⟩ := own_slice HO.out)));refine hK2 _ _ ?_;clear hK2 K2))
  have hn2 : H.n < H2.n := by have := HX2.out.n; rw [AHeap.n_push] at this; omega
  have hxK : Ext H (H2.push (.row (trCells (.slice la ln ln) T fr) 124)) := ((Ext.push _).trans HX2.out).push' _
  have hgb : (H2.push (.row (trCells (.slice la ln ln) T fr) 124)).get H.n = .row [.pointer (some ⟨p, 0, none⟩)] 100 := by
    rw [AHeap.get_push_old hn2, HX2.out.get _ (by rw [AHeap.n_push]; exact Nat.lt_succ_self _), AHeap.get_push_new]
  have hgs : (H2.push (.row (trCells (.slice la ln ln) T fr) 124)).get H2.n = .row (trCells (.slice la ln ln) T fr) 124 := AHeap.get_push_new
  have hgp : (H2.push (.row (trCells (.slice la ln ln) T fr) 124)).get p = .row (planCells (.slice fa fls.length fc) D) 84 := (hxK.get p hp).trans GP.out
  have hoK : Own (H2.push (.row (trCells (.slice la ln ln) T fr) 124)) H.n (.slice la ln ln) 3 1 ((Ls.map fun i : Nat => (i : Int)).map (Value.int .i64)) := (HO.out.mono (by rw [AHeap.n_push]; omega)).ext (Ext.push _)
  have hnK : (H2.push (.row (trCells (.slice la ln ln) T fr) 124)).n = H2.n + 1 := AHeap.n_push _ _
  generalize hK : H2.push (.row (trCells (.slice la ln ln) T fr) 124) = K at hxK hgb hgs hgp hoK hnK ⊢
  have HXK := Lib.hid hxK
  have HGB := Lib.hid hgb
  have HGS := Lib.hid hgs
  have HGP := Lib.hid hgp
  have HOK2 := Lib.hid hoK
  have HNK := Lib.hid hnK
  refine ⟨genC (fun f K' => f.tmp 2 = .pointer (some ⟨H.n, 0, none⟩) ∧ f.tmp 4 = .pointer (some ⟨H2.n, 0, none⟩) ∧ f.tmp 5 = .int .i64 fr ∧ f.defers = [] ∧ K' = K) ⟨(by first|go_simp<;>go_num|assumption), (by first|go_simp<;>go_num|assumption), (by first|go_simp<;>go_num|assumption), (by first|go_simp<;>go_num|assumption), rfl⟩ ?_⟩
  clear f0 f1 hd f hxK hgb hgs hgp hoK hnK HO HX2 HT hK
  rintro f K' ⟨f2, f4, f5, hd, e9⟩
  have e9 := e9.symm
  subst e9
  refine CodeS.cut (fun f K' => f.tmp 2 = .pointer (some ⟨H.n, 0, none⟩) ∧ f.tmp 4 = .pointer (some ⟨H2.n, 0, none⟩) ∧ (∃ v : Int, f.tmp 5 = .int .i64 v ∧ ((v = -1 ∧ Added fls D0 D x D) ∨ ∃ day j : Nat, v = (day : Int) ∧ Moving fls D0 D x Ls T D day j)) ∧ f.defers = [] ∧ K' = K) ?_ ?_
  · rcases HE.out with ⟨htr, hlt, ⟨hfr, hfull⟩ | ⟨d, l, hfr, hd1, hTd, hDd⟩⟩
    · subst hfr
      have hL0 : 0 < ((Ls.map fun i : Nat => (i : Int))).length := by
        rw [List.length_map]
        have := htr.head
        exact (List.getElem?_eq_some_iff.1 this).1
      have hLn : ((Ls.map fun i : Nat => (i : Int))).length ≤ 1000 := by
        rw [List.length_map]
        have := nodup_len Ls (List.range fls.length) htr.nodup (fun l hl => List.mem_range.2 (hlt l hl))
        rw [List.length_range] at this; omega
      have hHK : H.n < K.n := by have := HNK.out; omega
      have hpK : p < K.n := by omega
      have HBO := Lib.hid (fun (loops : List (Nat × LInfo)) => bestOf_s (loops := loops) (g := 80) (cb := H.n) (w := fun z => -(meritN fls z.toNat)) HOK2.out hL0 hLn (by kernel_rfl) (fun loops z hz => by
        obtain ⟨i, hi, rfl⟩ := List.mem_map.1 hz
        have hif := hlt i hi
        have h9 := cl80_s (loops := loops) hHK HGB.out hpK HGP.out (HF.out.ext HXK.out) hif (HOK.out _ (List.getElem_mem hif))
        have hm : meritN fls ((i : Int).toNat) = (fls[i]).merit := by
          rw [Int.toNat_natCast, meritN, List.getD_eq_getElem?_getD, List.getElem?_eq_getElem hif]; rfl
        rw [hm]; exact h9))
      obtain ⟨hy1, hy2⟩ := bestL_spec (w := fun z => -(meritN fls z.toNat)) hL0
      obtain ⟨y, hyL, hye⟩ := List.mem_map.1 hy1
      have hmin : ∀ i, i ∈ Ls → meritN fls y ≤ meritN fls i := fun i hi => by
        have h9 := hy2 (i : Int) (List.mem_map.2 ⟨i, hi, rfl⟩)
        rw [← hye] at h9
        simp only [Int.toNat_natCast] at h9
        omega
      rw [← hye] at HBO
      have HDO := Lib.hid (fun (loops : List (Nat × LInfo)) => dayOf_s (loops := loops) (x := (y : Int)) hpK HGP.out)
      have HM : Hid ((dayI D y = -1 ∧ Added fls D0 D x D) ∨ ∃ day j : Nat, dayI D y = (day : Int) ∧ Moving fls D0 D x Ls T D day j) := Lib.hid (by
        rcases dayI_spec D (y : Int) with ⟨h1, h2⟩ | ⟨d, h1, h2, h3⟩
        · have hyx : y = x := by
            rcases htr.src y hyL with e | ⟨d, h3, -⟩
            · exact e
            · rcases Nat.lt_or_ge d 120 with h9 | h9
              · exact absurd h3 (h2 d h9)
              · have := HPL.out.out d h9; omega
          subst hyx
          exact .inl ⟨h1, Added.self htr HPL.out HB.out hfull HNX.out hmin⟩
        · obtain ⟨j, hj⟩ := Moving.other htr HPL.out HB.out hfull HNX.out hyL hmin h3
          exact .inr ⟨d, j, h2, hj⟩)
      generalize dayI D (y : Int) = v at HDO HM
      have hcb : cellAt K H.n 0 = some (.pointer (some ⟨p, 0, none⟩)) := by simp [cellAt, HGB.out]
      have hcs : cellAt K H2.n 0 = some (.slice la ln ln) := by rw [cellAt, HGS.out]; rfl
      clear htr hlt hfull hL0 hLn hy1 hy2 hyL hye hmin
      repeat' (first|(with_reducible first|refine zA ?_|refine zB fun K hK=>?_|refine zC fun K2 hK2=>?_|refine zD ?_|refine zE ?_|refine zF ?_|refine zG ?_|refine zH ?_|refine zI ?_|refine zM ?_|refine zN ?_|refine zO ?_|refine zP ?_|refine zQ ?_|refine zR ?_)|((with_reducible refine zU (hK _ _ ?_));clear hK K)|((with_reducible refine zV ?_ ?_ fun K1 K3 d hdst h1 h3=>?_);rfl;exact yB rfl;cases hdst;go_simp)|((with_reducible refine zW fun K1 K3 h1 h3=>?_);go_simp)|((first|refine h1 ?_|refine h3 ?_);clear h1 h3 K1 K3)|((first|refine zX (fun hb=>h1 ?_) (fun hb=>h3 ?_)|refine zX (fun hb=>h3 ?_) (fun hb=>h1 ?_))<;>(clear h1 h3 K1 K3;(try have hb2:=yC hb);(try have hb2:=yD hb);(try have hb2:=yE hb);(try have hb2:=yF hb);(try have hb2:=yG hb)))|(refine fun (K2:_→AHeap→Prop) hK2=>?_)|((with_reducible refine zY ?_ ?_);decide)|((with_reducible first|refine zZ ?_ (fun K hK=>?_)|refine yA ?_ (fun K hK=>?_));(focus go_simp;done);go_simp;refine hK _ _ ?_;clear hK K)|((with_reducible refine yH mixed rfl ?_ 20 fun K0 hK0=>?_);kernel_rfl)|(with_reducible first|exact yI|exact yJ|refine yK ?_|refine yL ?_|refine yM ?_)|((with_reducible first|refine yN ?_ ?_|refine yO ?_ ?_|refine yP ?_ ?_);rfl)|((with_reducible refine yQ ?_ ?_);rfl;refine hK0 _ _ ?_;clear hK0 K0)|((with_reducible refine yR ?_ ?_ ?_ ?_);rfl;rfl;rfl)|((with_reducible refine yS ?_ ?_ ?_ fun K2 hK2=>?_);rfl;rfl;exact yB rfl)|((with_reducible refine yT ?_ ?_ ?_ ?_ fun K1 K3 d hdst h1 h3=>?_);rfl;rfl;rfl;exact yB rfl;cases hdst;go_simp)|((with_reducible refine yU ?_ ?_ ?_ ?_ fun K1 K3 d hdst h1 h3=>?_);rfl;rfl;rfl;exact yB rfl;cases hdst;go_simp)|((with_reducible refine yV ?_ ?_ (fun K2 hK2=>?_) ?_);rfl;exact yB rfl)|((with_reducible refine yW ?_ ?_ ?_ ?_ (fun K2 hK2=>?_) ?_);rfl;exact yB rfl;rfl;(focus go_simp;done))|((with_reducible refine yX ?_ ?_ ?_ (fun K2 hK2=>?_) ?_);rfl;rfl;exact yB rfl)|((with_reducible refine yY ?_ ?_ (fun K2 hK2=>?_) ?_);rfl;rfl)|((with_reducible refine yZ ?_ ?_);(first|rfl|(dsimp only;decide +kernel)))|((with_reducible refine xA ?_ ?_);(focus go_simp;done))|(go_simp;(try go_bits);(try first |((with_reducible show CallS _ _ _ _ _ _);first|(refine CallS.mono (HBO.out _) ?_; rintro _ _ ⟨rfl, rfl⟩)|(refine CallS.mono (HDO.out _) ?_; rintro _ _ ⟨rfl, rfl⟩)));(first|(refine hK2 _ _ ?_ ?_<;>clear hK2 K2)|(refine hK2 _ _ ?_;clear hK2 K2))))
      all_goals exact ⟨(by first|go_simp<;>go_num|assumption), (by first|go_simp<;>go_num|assumption), ⟨v, (by first|go_simp<;>go_num|assumption), HM.out⟩, (by first|go_simp<;>go_num|assumption), rfl⟩
    · subst hfr
      have hdb : ((d : Int) == -1) = false := by simp
      have HM := Lib.hid (Moving.free htr HPL.out HB.out hd1 hTd hDd)
      clear htr hlt hTd hDd
      repeat' (first|(with_reducible first|refine zA ?_|refine zB fun K hK=>?_|refine zC fun K2 hK2=>?_|refine zD ?_|refine zE ?_|refine zF ?_|refine zG ?_|refine zH ?_|refine zI ?_|refine zM ?_|refine zN ?_|refine zO ?_|refine zP ?_|refine zQ ?_|refine zR ?_)|((with_reducible refine zU (hK _ _ ?_));clear hK K)|((with_reducible refine zV ?_ ?_ fun K1 K3 d hdst h1 h3=>?_);rfl;exact yB rfl;cases hdst;go_simp)|((with_reducible refine zW fun K1 K3 h1 h3=>?_);go_simp)|((first|refine h1 ?_|refine h3 ?_);clear h1 h3 K1 K3)|((first|refine zX (fun hb=>h1 ?_) (fun hb=>h3 ?_)|refine zX (fun hb=>h3 ?_) (fun hb=>h1 ?_))<;>(clear h1 h3 K1 K3;(try have hb2:=yC hb);(try have hb2:=yD hb);(try have hb2:=yE hb);(try have hb2:=yF hb);(try have hb2:=yG hb)))|(refine fun (K2:_→AHeap→Prop) hK2=>?_)|((with_reducible refine zY ?_ ?_);decide)|((with_reducible first|refine zZ ?_ (fun K hK=>?_)|refine yA ?_ (fun K hK=>?_));(focus go_simp;done);go_simp;refine hK _ _ ?_;clear hK K)|(go_simp;(try go_bits);refine hK2 _ _ ?_;clear hK2 K2))
      obtain ⟨j, hj⟩ := HM.out
      exact ⟨(by first|go_simp<;>go_num|assumption), (by first|go_simp<;>go_num|assumption), ⟨d, (by first|go_simp<;>go_num|assumption), .inr ⟨d, j, rfl, hj⟩⟩, (by first|go_simp<;>go_num|assumption), rfl⟩
  · clear f2 f4 f5 hd f
    rintro f K' ⟨f2, f4, ⟨v, f5, hv⟩, hd, e9⟩
    have e9 := e9.symm
    subst e9
    obtain ⟨N, hN⟩ : ∃ N, (v = -1 ∧ N = 0 ∧ Added fls D0 D x D) ∨ ∃ day j : Nat, v = (day : Int) ∧ N = j + 1 ∧ Moving fls D0 D x Ls T D day j := by
      rcases hv with ⟨h1, h2⟩ | ⟨day, j, h1, h2⟩
      · exact ⟨0, .inl ⟨h1, rfl, h2⟩⟩
      · exact ⟨j + 1, .inr ⟨day, j, h1, rfl, h2⟩⟩
    have HTR := Lib.hid HE.out.1
    clear hv
    repeat' (first|(with_reducible first|refine zA ?_|refine zB fun K hK=>?_|refine zC fun K2 hK2=>?_|refine zD ?_|refine zE ?_|refine zF ?_|refine zG ?_|refine zH ?_|refine zI ?_|refine zM ?_|refine zN ?_|refine zO ?_|refine zP ?_|refine zQ ?_|refine zR ?_)|((with_reducible refine zU (hK _ _ ?_));clear hK K)|((with_reducible refine zV ?_ ?_ fun K1 K3 d hdst h1 h3=>?_);rfl;exact yB rfl;cases hdst;go_simp)|((with_reducible refine zW fun K1 K3 h1 h3=>?_);go_simp)|((first|refine h1 ?_|refine h3 ?_);clear h1 h3 K1 K3)|((first|refine zX (fun hb=>h1 ?_) (fun hb=>h3 ?_)|refine zX (fun hb=>h3 ?_) (fun hb=>h1 ?_))<;>(clear h1 h3 K1 K3;(try have hb2:=yC hb);(try have hb2:=yD hb);(try have hb2:=yE hb);(try have hb2:=yF hb);(try have hb2:=yG hb)))|(refine fun (K2:_→AHeap→Prop) hK2=>?_)|((with_reducible refine zY ?_ ?_);decide)|((with_reducible first|refine zZ ?_ (fun K hK=>?_)|refine yA ?_ (fun K hK=>?_));(focus go_simp;done);go_simp;refine hK _ _ ?_;clear hK K)|(go_simp;(try go_bits);refine hK2 _ _ ?_;clear hK2 K2))
    refine CodeS.loop (fun m f K' => ∃ (C : Nat → Int) (v : Int), f.tmp 2 = .pointer (some ⟨H.n, 0, none⟩) ∧ f.tmp 4 = .pointer (some ⟨H2.n, 0, none⟩) ∧ f.tmp 5 = .int .i64 v ∧ f.defers = [] ∧ Hid (K'.get p = .row (planCells (.slice fa fls.length fc) C) 84) ∧ Hid (K'.n = K.n ∧ ∀ i, i ≠ p → K'.get i = K.get i) ∧ Hid ((v = -1 ∧ m = 0 ∧ Added fls D0 D x C) ∨ ∃ day j : Nat, v = (day : Int) ∧ m = j + 1 ∧ Moving fls D0 D x Ls T C day j)) N ?_ ?_
    · exact ⟨D, v, (by first|go_simp<;>go_num|assumption), (by first|go_simp<;>go_num|assumption), (by first|go_simp<;>go_num|assumption), (by first|go_simp<;>go_num|assumption), HGP, Lib.hid ⟨rfl, fun _ _ => rfl⟩, Lib.hid hN⟩
    clear f2 f4 f5 hd f hN v N
    rintro m f K' ⟨C, v, f2, f4, f5, hd, HGC, HKK, HM⟩
    have hnn : H2.n ≠ p := by omega
    have hnm : H.n ≠ p := by omega
    rcases HM.out with ⟨rfl, rfl, ha⟩ | ⟨day, j, rfl, rfl, hmv⟩
    · have HA := Lib.hid ha
      clear ha HM
      repeat' (first|(with_reducible first|refine zA ?_|refine zB fun K hK=>?_|refine zC fun K2 hK2=>?_|refine zD ?_|refine zE ?_|refine zF ?_|refine zG ?_|refine zH ?_|refine zI ?_|refine zM ?_|refine zN ?_|refine zO ?_|refine zP ?_|refine zQ ?_|refine zR ?_)|((with_reducible refine zU (hK _ _ ?_));clear hK K)|((with_reducible refine zV ?_ ?_ fun K1 K3 d hdst h1 h3=>?_);rfl;exact yB rfl;cases hdst;go_simp)|((with_reducible refine zW fun K1 K3 h1 h3=>?_);go_simp)|((first|refine h1 ?_|refine h3 ?_);clear h1 h3 K1 K3)|((first|refine zX (fun hb=>h1 ?_) (fun hb=>h3 ?_)|refine zX (fun hb=>h3 ?_) (fun hb=>h1 ?_))<;>(clear h1 h3 K1 K3;(try have hb2:=yC hb);(try have hb2:=yD hb);(try have hb2:=yE hb);(try have hb2:=yF hb);(try have hb2:=yG hb)))|(refine fun (K2:_→AHeap→Prop) hK2=>?_)|((with_reducible refine zY ?_ ?_);decide)|((with_reducible first|refine zZ ?_ (fun K hK=>?_)|refine yA ?_ (fun K hK=>?_));(focus go_simp;done);go_simp;refine hK _ _ ?_;clear hK K)|(go_simp;(try go_bits);refine hK2 _ _ ?_;clear hK2 K2))
      exact ⟨C, HA.out, HGC.out, by rw [HKK.out.1]; exact HXK.out.n, fun i hi hne => (HKK.out.2 i hne).trans (HXK.out.get i hi)⟩
    · obtain ⟨l, hl⟩ := hmv.idx
      have hd1 := hmv.lt
      have hdb : ((day : Int) != -1) = true := by simp
      have hpK : p < K'.n := by have := HKK.out.1; have := HNK.out; omega
      have hct : cellAt K' H2.n (1 + day) = some (.int .i64 (l : Int)) := by rw [cellAt, HKK.out.2 _ hnn, HGS.out, ← hl]; exact trCells_get hd1
      have hcb : cellAt K' H.n 0 = some (.pointer (some ⟨p, 0, none⟩)) := by rw [cellAt, HKK.out.2 _ hnm, HGB.out]; rfl
      have HDO := Lib.hid (fun (loops : List (Nat × LInfo)) => dayOf_s (loops := loops) (x := (l : Int)) hpK HGC.out)
      have HM2 : Hid ((dayI C l = -1 ∧ Added fls D0 D x (putI C day l)) ∨ ∃ was j' : Nat, j' < j ∧ dayI C l = (was : Int) ∧ Moving fls D0 D x Ls T (putI C day l) was j') := Lib.hid (by
        rcases dayI_spec C (l : Int) with ⟨h1, h2⟩ | ⟨d, h1, h2, h3⟩
        · exact .inl ⟨h1, hmv.last HTR.out hl h2⟩
        · obtain ⟨j', hj, h4⟩ := hmv.next HTR.out HPL.out HNX.out hl h3 h1
          exact .inr ⟨d, j', hj, h2, h4⟩)
      generalize dayI C (l : Int) = v2 at HDO HM2
      have hgc := HGC.out
      have hdi : (day : Int) < 120 := by omega
      clear hmv HM hl
      repeat' (first|(with_reducible first|refine zA ?_|refine zB fun K hK=>?_|refine zC fun K2 hK2=>?_|refine zD ?_|refine zE ?_|refine zF ?_|refine zG ?_|refine zH ?_|refine zI ?_|refine zM ?_|refine zN ?_|refine zO ?_|refine zP ?_|refine zQ ?_|refine zR ?_)|((with_reducible refine zU (hK _ _ ?_));clear hK K)|((with_reducible refine zV ?_ ?_ fun K1 K3 d hdst h1 h3=>?_);rfl;exact yB rfl;cases hdst;go_simp)|((with_reducible refine zW fun K1 K3 h1 h3=>?_);go_simp)|((first|refine h1 ?_|refine h3 ?_);clear h1 h3 K1 K3)|((first|refine zX (fun hb=>h1 ?_) (fun hb=>h3 ?_)|refine zX (fun hb=>h3 ?_) (fun hb=>h1 ?_))<;>(clear h1 h3 K1 K3;(try have hb2:=yC hb);(try have hb2:=yD hb);(try have hb2:=yE hb);(try have hb2:=yF hb);(try have hb2:=yG hb)))|(refine fun (K2:_→AHeap→Prop) hK2=>?_)|((with_reducible refine zY ?_ ?_);decide)|((with_reducible first|refine zZ ?_ (fun K hK=>?_)|refine yA ?_ (fun K hK=>?_));(focus go_simp;done);go_simp;refine hK _ _ ?_;clear hK K)|(go_simp;(try go_bits);(try first | ((with_reducible show CallS _ _ _ _ _ _);refine CallS.mono (HDO.out _) ?_; rintro _ _ ⟨rfl, h9⟩; rw [h9]; clear h9; go_simp));refine hK2 _ _ ?_;clear hK2 K2))
      have hkk : Hid ((K'.upd p (.row (planCells (.slice fa fls.length fc) (putD C day l)) 84)).n = K.n ∧ ∀ i, i ≠ p → (K'.upd p (.row (planCells (.slice fa fls.length fc) (putD C day l)) 84)).get i = K.get i) := Lib.hid ⟨by rw [AHeap.n_upd]; exact HKK.out.1, fun i hi => by rw [AHeap.get_upd_ne hi]; exact HKK.out.2 i hi⟩
      rcases HM2.out with ⟨h1, h2⟩ | ⟨was, j', h1, h2, h3⟩
      · refine Post.round_normal ⟨0, by omega, putD C day l, v2, (by first|go_simp<;>go_num|assumption), (by first|go_simp<;>go_num|assumption), (by first|go_simp<;>go_num|assumption), (by first|go_simp<;>go_num|assumption), Lib.hid AHeap.get_upd_same, hkk, Lib.hid (.inl ⟨h1, rfl, h2⟩)⟩
      · refine Post.round_normal ⟨j' + 1, by omega, putD C day l, v2, (by first|go_simp<;>go_num|assumption), (by first|go_simp<;>go_num|assumption), (by first|go_simp<;>go_num|assumption), (by first|go_simp<;>go_num|assumption), Lib.hid AHeap.get_upd_same, hkk, Lib.hid (.inr ⟨was, j', h2, rfl, h3⟩)⟩
end Go.Proofs.Try
namespace Go.Proofs.Try
open Go Go.Am Go.RowKit
set_option maxRecDepth 100000


theorem best_none {fls : List Flaw} {D0 D : Nat → Int} (hp : PlanD fls D0 D) : BestOf (canD fls D0) (meritN fls) D 0 := ⟨hp.mat, fun u hu => absurd hu (Nat.not_lt_zero u)⟩

set_option maxHeartbeats 2000000 in
theorem mend_e {loops : List (Nat × LInfo)} {H : AHeap} {p : Nat} {fa : Option Addr} {fc : Nat} {fls : List Flaw} {D0 D : Nat → Int} (hp : p < H.n) (gp : H.get p = .row (planCells (.slice fa fls.length fc) D) 84) (hf : Flaws H (.slice fa fls.length fc) fls) (hok : ∀ a, a ∈ fls → FOk a) (hpl : PlanD fls D0 D) (hfl : fls.length ≤ 1000)
    (hfa : ∀ b, fa = some b → b.block ≠ p) (hno : ∀ i, ¬ Has D i) :
    CallS Try.prog loops 40 [.pointer (some ⟨p, 0, none⟩)] H fun _ H' => ∃ C, PlanD fls D0 C ∧ BestOf (canD fls D0) (meritN fls) C fls.length ∧ H'.get p = .row (planCells (.slice fa fls.length fc) C) 84 ∧ But p H H' := by
  have HF := Lib.hid hf
  have HOK := Lib.hid hok
  have HPL := Lib.hid hpl
  have HNO := Lib.hid hno
  have HFA := Lib.hid hfa
  have GP := Lib.hid gp
  have hc0 : cellAt H p 0 = some (.slice fa fls.length fc) := by rw [cellAt, gp]; rfl
  clear gp hf hok hpl hno hfa
  refine CallS.enter' Try.func40 rfl Try.ntmps40 (by simp) fun f hd hf => ?_
  have f0 := hf 0
  simp at f0
  clear hf
  repeat' (first|(with_reducible first|refine zA ?_|refine zB fun K hK=>?_|refine zC fun K2 hK2=>?_|refine zD ?_|refine zE ?_|refine zF ?_|refine zG ?_|refine zH ?_|refine zI ?_|refine zM ?_|refine zN ?_|refine zO ?_|refine zP ?_|refine zQ ?_|refine zR ?_)|((with_reducible refine zU (hK _ _ ?_));clear hK K)|((with_reducible refine zV ?_ ?_ fun K1 K3 d hdst h1 h3=>?_);rfl;exact yB rfl;cases hdst;go_simp)|((with_reducible refine zW fun K1 K3 h1 h3=>?_);go_simp)|((first|refine h1 ?_|refine h3 ?_);clear h1 h3 K1 K3)|((first|refine zX (fun hb=>h1 ?_) (fun hb=>h3 ?_)|refine zX (fun hb=>h3 ?_) (fun hb=>h1 ?_))<;>(clear h1 h3 K1 K3;(try have hb2:=yC hb);(try have hb2:=yD hb);(try have hb2:=yE hb);(try have hb2:=yF hb);(try have hb2:=yG hb)))|(refine fun (K2:_→AHeap→Prop) hK2=>?_)|((with_reducible refine zY ?_ ?_);decide)|((with_reducible first|refine zZ ?_ (fun K hK=>?_)|refine yA ?_ (fun K hK=>?_));(focus go_simp;done);go_simp;refine hK _ _ ?_;clear hK K)|(go_simp;(try go_bits);refine hK2 _ _ ?_;clear hK2 K2))
  refine CodeS.loop (fun m f H' => ∃ (k : Nat) (C : Nat → Int), k ≤ fls.length ∧ m = fls.length - k ∧ f.tmp 8 = .int .i64 k ∧ f.tmp 0 = .pointer (some ⟨p, 0, none⟩) ∧ f.tmp 7 = .int .i64 fls.length ∧ f.defers = [] ∧ Hid (PlanD fls D0 C) ∧ Hid (BestOf (canD fls D0) (meritN fls) C k) ∧ Hid (∀ i, Has C i → i < k) ∧ Hid (H'.get p = .row (planCells (.slice fa fls.length fc) C) 84) ∧ Hid (But p H H')) fls.length ?_ ?_
  · exact ⟨0, D, by omega, by omega, (by first|go_simp<;>go_num|assumption), (by first|go_simp<;>go_num|assumption), (by first|go_simp<;>go_num|assumption), (by first|go_simp<;>go_num|assumption), HPL, Lib.hid (best_none HPL.out), Lib.hid (fun i hi => absurd hi (HNO.out i)), GP, Lib.hid (But.of_ext (Ext.refl _))⟩
  clear f0 hd f
  rintro m f H' ⟨k, C, hk, rfl, f8, f0, f7, hd, HPC, HBC, HLT, HGC, HBU⟩
  by_cases hlt : k < fls.length
  · have hki : (k : Int) < (fls.length : Int) := by omega
    have hpH : p < H'.n := Nat.lt_of_lt_of_le hp HBU.out.n
    have hfH : Flaws H' (.slice fa fls.length fc) fls := HF.out.keep HBU.out.n fun b hb hlt => HBU.out.get _ hlt (HFA.out b hb)
    have HAD := Lib.hid (fun (loops : List (Nat × LInfo)) => add_e (loops := loops) hpH HGC.out hfH HOK.out HPC.out hlt (fun h => absurd (HLT.out k h) (Nat.lt_irrefl k)) hfl HFA.out HBC.out)
    clear hfH
    repeat' (first|(with_reducible first|refine zA ?_|refine zB fun K hK=>?_|refine zC fun K2 hK2=>?_|refine zD ?_|refine zE ?_|refine zF ?_|refine zG ?_|refine zH ?_|refine zI ?_|refine zM ?_|refine zN ?_|refine zO ?_|refine zP ?_|refine zQ ?_|refine zR ?_)|((with_reducible refine zU (hK _ _ ?_));clear hK K)|((with_reducible refine zV ?_ ?_ fun K1 K3 d hdst h1 h3=>?_);rfl;exact yB rfl;cases hdst;go_simp)|((with_reducible refine zW fun K1 K3 h1 h3=>?_);go_simp)|((first|refine h1 ?_|refine h3 ?_);clear h1 h3 K1 K3)|((first|refine zX (fun hb=>h1 ?_) (fun hb=>h3 ?_)|refine zX (fun hb=>h3 ?_) (fun hb=>h1 ?_))<;>(clear h1 h3 K1 K3;(try have hb2:=yC hb);(try have hb2:=yD hb);(try have hb2:=yE hb);(try have hb2:=yF hb);(try have hb2:=yG hb)))|(refine fun (K2:_→AHeap→Prop) hK2=>?_)|((with_reducible refine zY ?_ ?_);decide)|((with_reducible first|refine zZ ?_ (fun K hK=>?_)|refine yA ?_ (fun K hK=>?_));(focus go_simp;done);go_simp;refine hK _ _ ?_;clear hK K)|(go_simp;(try go_bits);(try first | ((with_reducible show CallS _ _ _ _ _ _);refine CallS.mono (HAD.out _) ?_; rintro _ H3 ⟨C3, ha, hg, hbu⟩; (have HA := Lib.hid ha); (have HG := Lib.hid hg); (have HU := Lib.hid hbu); clear ha hg hbu; go_simp));refine hK2 _ _ ?_;clear hK2 K2))
    refine Post.round_normal ⟨fls.length - (k + 1), by omega, k + 1, C3, by omega, rfl, (by first|go_simp<;>go_num|assumption), (by first|go_simp<;>go_num|assumption), (by first|go_simp<;>go_num|assumption), (by first|go_simp<;>go_num|assumption), Lib.hid HA.out.plan, Lib.hid HA.out.best, Lib.hid (fun i hi => ?_), HG, Lib.hid (HBU.out.trans HU.out)⟩
    rcases HA.out.has i hi with h | h
    · exact Nat.lt_succ_of_lt (HLT.out i h)
    · omega
  · have hki : ¬ (k : Int) < (fls.length : Int) := by omega
    have hke : k = fls.length := by omega
    subst hke
    clear hlt
    repeat' (first|(with_reducible first|refine zA ?_|refine zB fun K hK=>?_|refine zC fun K2 hK2=>?_|refine zD ?_|refine zE ?_|refine zF ?_|refine zG ?_|refine zH ?_|refine zI ?_|refine zM ?_|refine zN ?_|refine zO ?_|refine zP ?_|refine zQ ?_|refine zR ?_)|((with_reducible refine zU (hK _ _ ?_));clear hK K)|((with_reducible refine zV ?_ ?_ fun K1 K3 d hdst h1 h3=>?_);rfl;exact yB rfl;cases hdst;go_simp)|((with_reducible refine zW fun K1 K3 h1 h3=>?_);go_simp)|((first|refine h1 ?_|refine h3 ?_);clear h1 h3 K1 K3)|((first|refine zX (fun hb=>h1 ?_) (fun hb=>h3 ?_)|refine zX (fun hb=>h3 ?_) (fun hb=>h1 ?_))<;>(clear h1 h3 K1 K3;(try have hb2:=yC hb);(try have hb2:=yD hb);(try have hb2:=yE hb);(try have hb2:=yF hb);(try have hb2:=yG hb)))|(refine fun (K2:_→AHeap→Prop) hK2=>?_)|((with_reducible refine zY ?_ ?_);decide)|((with_reducible first|refine zZ ?_ (fun K hK=>?_)|refine yA ?_ (fun K hK=>?_));(focus go_simp;done);go_simp;refine hK _ _ ?_;clear hK K)|(go_simp;(try go_bits);refine hK2 _ _ ?_;clear hK2 K2))
    exact ⟨C, HPC.out, HBC.out, HGC.out, HBU.out⟩

def dayCells (D : Nat → Int) : List Value := (List.range 120).map fun i => Value.int .i64 (D i)
theorem dayCells_get {D : Nat → Int} {i : Nat} (h : i < 120) : (dayCells D)[i]? = some (.int .i64 (D i)) := by simp [dayCells, h]
theorem dayCells_length {D : Nat → Int} : (dayCells D).length = 120 := by simp [dayCells]
theorem plan_cells {H : AHeap} {p : Nat} {fv : Value} {D : Nat → Int} (gp : H.get p = .row (planCells fv D) 84) : cellsAt H p 1 120 = some (dayCells D) := by
  have hl : ((dayCells D).take 120) = dayCells D := List.take_of_length_le (by rw [dayCells_length]; exact Nat.le_refl _)
  have h2 : (planCells fv D).drop 1 = dayCells D := rfl
  have hpl : (planCells fv D).length = 121 := planCells_length
  simp only [cellsAt, gp, h2, hl, hpl]
  rfl
theorem plain_days {D : Nat → Int} : plainV 6 (.agg (dayCells D).toArray) = true := by
  show (dayCells D).toArray.toList.all (plainV 5) = true
  rw [List.toList_toArray, List.all_eq_true]
  intro v hv
  obtain ⟨i, -, rfl⟩ := List.mem_map.1 hv
  rfl
theorem index_days {D : Nat → Int} {i : Nat} (h : i < 120) : pureOf Try.prog (Instr.index 82 (.agg (dayCells D).toArray) (.int .i64 (i : Int))) = some (.int .i64 (D i)) := by
  unfold Instr.index
  rw [pureOf_bind, show pureOf Try.prog (asIntOf (.int .i64 (i : Int))) = some (.i64, (i : Int)) from rfl]
  dsimp only [Option.bind]
  rw [pureOf_bind, show pureOf Try.prog (underlying 82) = some (.array 120 3) by kernel_rfl]
  dsimp only [Option.bind]
  rw [if_pos ⟨by omega, by omega⟩, pureOf_bind, show pureOf Try.prog (sizeOf 3) = some 1 by kernel_rfl]
  dsimp only [Option.bind]
  rw [Int.toNat_natCast, Nat.mul_one]
  unfold part
  rw [pureOf_bind, show pureOf Try.prog (isAgg 3) = some false by kernel_rfl]
  dsimp only [Option.bind]
  rw [if_neg (by simp), List.getElem?_toArray, dayCells_get h]
  rfl
section
variable {H : AHeap} {kp : Value → AHeap → Option Prop} {ev : Operand → Value} {dst : Option Tmp} {ty : TypeId} {src : String} {af : Array Edge} {g : Option (Nat × Bool)} {x y : Operand}
theorem ix82_k {D : Nat → Int} {i : Nat} (hi : i < 120) (hx : ev x = .agg (dayCells D).toArray) (hy : ev y = .int .i64 (i : Int)) (h : Holds (kp (.int .i64 (D i)) H)) : Holds (aPlain Try.prog ⟨dst, .index 82 x y, ty, src, af, g⟩ ev H kp) := by
  have hr : pureOf Try.prog (execOp ev ⟨dst, .index 82 x y, ty, src, af, g⟩) = some (.value (.int .i64 (D i))) := by
    have h0 : execOp ev ⟨dst, .index 82 x y, ty, src, af, g⟩ = (do pure (.value (← Instr.index 82 (ev x) (ev y)))) := rfl
    rw [h0, hx, hy, pureOf_bind, index_days hi]; rfl
  rw [plain_of rfl, hr]
  have ho : (Op.index 82 x y).operands.toList.all (fun x => plainV 6 (ev x)) = true := by
    show (#[x, y].toList.all fun x => plainV 6 (ev x)) = _
    simp only [List.all_cons, List.all_nil, hx, hy, plain_days]; rfl
  rw [if_pos ho]; exact h
end
end Go.Proofs.Try
namespace Go.Proofs.Try
open Go Go.Am Go.RowKit
set_option maxRecDepth 100000


theorem worthD_bound {fls : List Flaw} {D : Nat → Int} (hok : ∀ a, a ∈ fls → FOk a) (hv : ∀ d, d < 120 → D d = -2 ∨ D d = -1 ∨ ∃ i : Nat, D d = (i : Int) ∧ i < fls.length) : ∀ n, n ≤ 120 → 0 ≤ worthD (meritN fls) D n ∧ worthD (meritN fls) D n ≤ n * 1000000
  | 0, _ => by simp [worthD]
  | n + 1, h => by
    have ih := worthD_bound hok hv n (by omega)
    rw [worthD]
    rcases hv n (by omega) with h1 | h1 | ⟨i, h1, h2⟩
    · rw [if_neg (by omega)]; omega
    · rw [if_neg (by omega)]; omega
    · have h3 := hok _ (List.getElem_mem h2)
      have hm : meritN fls i = (fls[i]).merit := by rw [meritN, List.getD_eq_getElem?_getD, List.getElem?_eq_getElem h2]; rfl
      rw [if_pos (by omega), h1, Int.toNat_natCast, hm]
      have := h3.m0
      have := h3.m1
      omega

set_option maxHeartbeats 2000000 in
theorem worth_s {loops : List (Nat × LInfo)} {H : AHeap} {p : Nat} {fa : Option Addr} {fc : Nat} {fls : List Flaw} {D : Nat → Int} (hp : p < H.n) (gp : H.get p = .row (planCells (.slice fa fls.length fc) D) 84) (hf : Flaws H (.slice fa fls.length fc) fls) (hok : ∀ a, a ∈ fls → FOk a) (hv : ∀ d, d < 120 → D d = -2 ∨ D d = -1 ∨ ∃ i : Nat, D d = (i : Int) ∧ i < fls.length) :
    CallS Try.prog loops 43 [.pointer (some ⟨p, 0, none⟩)] H fun r H' => r = .int .i64 (worthD (meritN fls) D 120) ∧ H' = H := by
  have HF := Lib.hid hf
  have HOK := Lib.hid hok
  have HV := Lib.hid hv
  have HW := Lib.hid (worthD_bound hok hv)
  have hc0 : cellAt H p 0 = some (.slice fa fls.length fc) := by rw [cellAt, gp]; rfl
  have hcd : cellsAt H p 1 120 = some (dayCells D) := plan_cells gp
  clear gp hf hok hv
  refine CallS.enter' Try.func43 rfl Try.ntmps43 (by simp) fun f hd hf => ?_
  have f0 := hf 0
  simp at f0
  clear hf
  repeat' (first|(with_reducible first|refine zA ?_|refine zB fun K hK=>?_|refine zC fun K2 hK2=>?_|refine zD ?_|refine zE ?_|refine zF ?_|refine zG ?_|refine zH ?_|refine zI ?_|refine zM ?_|refine zN ?_|refine zO ?_|refine zP ?_|refine zQ ?_|refine zR ?_)|((with_reducible refine zU (hK _ _ ?_));clear hK K)|((with_reducible refine zV ?_ ?_ fun K1 K3 d hdst h1 h3=>?_);rfl;exact yB rfl;cases hdst;go_simp)|((with_reducible refine zW fun K1 K3 h1 h3=>?_);go_simp)|((first|refine h1 ?_|refine h3 ?_);clear h1 h3 K1 K3)|((first|refine zX (fun hb=>h1 ?_) (fun hb=>h3 ?_)|refine zX (fun hb=>h3 ?_) (fun hb=>h1 ?_))<;>(clear h1 h3 K1 K3;(try have hb2:=yC hb);(try have hb2:=yD hb);(try have hb2:=yE hb);(try have hb2:=yF hb);(try have hb2:=yG hb)))|(refine fun (K2:_→AHeap→Prop) hK2=>?_)|((with_reducible refine zY ?_ ?_);decide)|((with_reducible first|refine zZ ?_ (fun K hK=>?_)|refine yA ?_ (fun K hK=>?_));(focus go_simp;done);go_simp;refine hK _ _ ?_;clear hK K)|(go_simp;(try go_bits);refine hK2 _ _ ?_;clear hK2 K2))
  refine CodeS.loop (fun m f H' => ∃ (k : Nat), k ≤ 120 ∧ m = 120 - k ∧ f.tmp 10 = .int .i64 k ∧ f.tmp 9 = .agg (dayCells D).toArray ∧ f.tmp 3 = .int .i64 (worthD (meritN fls) D k) ∧ f.tmp 0 = .pointer (some ⟨p, 0, none⟩) ∧ f.defers = [] ∧ H' = H) 120 ?_ ?_
  · exact ⟨0, by omega, by omega, (by first|go_simp<;>go_num|assumption), (by first|go_simp<;>go_num|assumption), (by first|go_simp<;>go_num|assumption), (by first|go_simp<;>go_num|assumption), (by first|go_simp<;>go_num|assumption), rfl⟩
  clear f0 hd f
  rintro m f H' ⟨k, hk, rfl, f10, f9, f3, f0, hd, e9⟩
  have e9 := e9.symm
  subst e9
  by_cases hlt : k < 120
  · have hki : (k : Int) < 120 := by omega
    have HS : Hid (worthD (meritN fls) D (k + 1) = worthD (meritN fls) D k + if 0 ≤ D k then meritN fls (D k).toNat else 0) := Lib.hid rfl
    obtain ⟨hb1, hb2⟩ := HW.out k hk
    generalize hs : worthD (meritN fls) D k = s at f3 HS hb1 hb2
    have HX := Lib.hid (HV.out k hlt)
    generalize hx : D k = v at HX HS
    have HXX := Lib.hid hx
    clear hx hs
    by_cases hv0 : 0 ≤ v
    · obtain ⟨i, hi, hil⟩ : ∃ i : Nat, v = (i : Int) ∧ i < fls.length := by
        rcases HX.out with h | h | h
        · omega
        · omega
        · exact h
      subst hi
      rw [if_pos hv0, Int.toNat_natCast] at HS
      obtain ⟨fb, fo, fsp, rfl, hfb, -, hcx⟩ := HF.out.at_ hil
      have hx0 := hcx 3 _ rfl
      have hfk := HOK.out _ (List.getElem_mem hil)
      have hm : meritN fls i = (fls[i]).merit := by rw [meritN, List.getD_eq_getElem?_getD, List.getElem?_eq_getElem hil]; rfl
      rw [hm] at HS
      have h1 := hfk.m0
      have h2 := hfk.m1
      generalize (fls[i]).merit = me at hx0 HS h1 h2
      have hii : (i : Int) < (fls.length : Int) := by omega
      have hwr : IntKind.i64.wrap (s + me) = s + me := by rw [IntKind.wrap_i64]; omega
      clear hcx hfk hm
      repeat' (first|(with_reducible first|refine zA ?_|refine zB fun K hK=>?_|refine zC fun K2 hK2=>?_|refine zD ?_|refine zE ?_|refine zF ?_|refine zG ?_|refine zH ?_|refine zI ?_|refine zM ?_|refine zN ?_|refine zO ?_|refine zP ?_|refine zQ ?_|refine zR ?_)|((with_reducible refine zU (hK _ _ ?_));clear hK K)|((with_reducible refine zV ?_ ?_ fun K1 K3 d hdst h1 h3=>?_);rfl;exact yB rfl;cases hdst;go_simp)|((with_reducible refine zW fun K1 K3 h1 h3=>?_);go_simp)|((first|refine h1 ?_|refine h3 ?_);clear h1 h3 K1 K3)|((first|refine zX (fun hb=>h1 ?_) (fun hb=>h3 ?_)|refine zX (fun hb=>h3 ?_) (fun hb=>h1 ?_))<;>(clear h1 h3 K1 K3;(try have hb2:=yC hb);(try have hb2:=yD hb);(try have hb2:=yE hb);(try have hb2:=yF hb);(try have hb2:=yG hb)))|(refine fun (K2:_→AHeap→Prop) hK2=>?_)|((with_reducible refine zY ?_ ?_);decide)|((with_reducible first|refine zZ ?_ (fun K hK=>?_)|refine yA ?_ (fun K hK=>?_));(focus go_simp;done);go_simp;refine hK _ _ ?_;clear hK K)|(go_simp;(try go_bits);(try first | ((refine ix82_k (D := D) (i := k) hlt (by go_simp) (by go_simp) ?_); rw [HXX.out]; go_simp));refine hK2 _ _ ?_;clear hK2 K2))
      refine Post.round_normal ⟨120 - (k + 1), by omega, k + 1, by omega, rfl, (by first|go_simp<;>go_num|assumption), (by first|go_simp<;>go_num|assumption), by rw [HS.out]; go_simp, (by first|go_simp<;>go_num|assumption), (by first|go_simp<;>go_num|assumption), rfl⟩
    · rw [if_neg hv0, Int.add_zero] at HS
      repeat' (first|(with_reducible first|refine zA ?_|refine zB fun K hK=>?_|refine zC fun K2 hK2=>?_|refine zD ?_|refine zE ?_|refine zF ?_|refine zG ?_|refine zH ?_|refine zI ?_|refine zM ?_|refine zN ?_|refine zO ?_|refine zP ?_|refine zQ ?_|refine zR ?_)|((with_reducible refine zU (hK _ _ ?_));clear hK K)|((with_reducible refine zV ?_ ?_ fun K1 K3 d hdst h1 h3=>?_);rfl;exact yB rfl;cases hdst;go_simp)|((with_reducible refine zW fun K1 K3 h1 h3=>?_);go_simp)|((first|refine h1 ?_|refine h3 ?_);clear h1 h3 K1 K3)|((first|refine zX (fun hb=>h1 ?_) (fun hb=>h3 ?_)|refine zX (fun hb=>h3 ?_) (fun hb=>h1 ?_))<;>(clear h1 h3 K1 K3;(try have hb2:=yC hb);(try have hb2:=yD hb);(try have hb2:=yE hb);(try have hb2:=yF hb);(try have hb2:=yG hb)))|(refine fun (K2:_→AHeap→Prop) hK2=>?_)|((with_reducible refine zY ?_ ?_);decide)|((with_reducible first|refine zZ ?_ (fun K hK=>?_)|refine yA ?_ (fun K hK=>?_));(focus go_simp;done);go_simp;refine hK _ _ ?_;clear hK K)|(go_simp;(try go_bits);(try first | ((refine ix82_k (D := D) (i := k) hlt (by go_simp) (by go_simp) ?_); rw [HXX.out]; go_simp));refine hK2 _ _ ?_;clear hK2 K2))
      refine Post.round_normal ⟨120 - (k + 1), by omega, k + 1, by omega, rfl, (by first|go_simp<;>go_num|assumption), (by first|go_simp<;>go_num|assumption), by rw [HS.out]; go_simp, (by first|go_simp<;>go_num|assumption), (by first|go_simp<;>go_num|assumption), rfl⟩
  · have hki : ¬ (k : Int) < 120 := by omega
    have hke : k = 120 := by omega
    subst hke
    clear hlt
    repeat' (first|(with_reducible first|refine zA ?_|refine zB fun K hK=>?_|refine zC fun K2 hK2=>?_|refine zD ?_|refine zE ?_|refine zF ?_|refine zG ?_|refine zH ?_|refine zI ?_|refine zM ?_|refine zN ?_|refine zO ?_|refine zP ?_|refine zQ ?_|refine zR ?_)|((with_reducible refine zU (hK _ _ ?_));clear hK K)|((with_reducible refine zV ?_ ?_ fun K1 K3 d hdst h1 h3=>?_);rfl;exact yB rfl;cases hdst;go_simp)|((with_reducible refine zW fun K1 K3 h1 h3=>?_);go_simp)|((first|refine h1 ?_|refine h3 ?_);clear h1 h3 K1 K3)|((first|refine zX (fun hb=>h1 ?_) (fun hb=>h3 ?_)|refine zX (fun hb=>h3 ?_) (fun hb=>h1 ?_))<;>(clear h1 h3 K1 K3;(try have hb2:=yC hb);(try have hb2:=yD hb);(try have hb2:=yE hb);(try have hb2:=yF hb);(try have hb2:=yG hb)))|(refine fun (K2:_→AHeap→Prop) hK2=>?_)|((with_reducible refine zY ?_ ?_);decide)|((with_reducible first|refine zZ ?_ (fun K hK=>?_)|refine yA ?_ (fun K hK=>?_));(focus go_simp;done);go_simp;refine hK _ _ ?_;clear hK K)|(go_simp;(try go_bits);refine hK2 _ _ ?_;clear hK2 K2))
    exact ⟨rfl, rfl⟩
end Go.Proofs.Try
