/- Contracts of functions, walked. -/
import Derived.Test.YtbpdmnkbehapcaaStM5
import Derived.Test.YtbpdmnkbehapcaaAwB
set_option linter.all false
namespace Go.Proofs.Try
open Go Go.Am Go.RowKit
set_option maxRecDepth 100000


@[go_sem] theorem aIndexAddr_82 {H : AHeap} {β : Type} {kk : K β} {q : IntKind} {i : Int} {b o : Nat} (h0 : 0 ≤ i) (h1 : i < 120) : aIndexAddr Try.prog 82 (.pointer (some ⟨b, o, none⟩)) (.int q i) H kk = kk (.pointer (some ⟨b, o + i.toNat, none⟩)) H := by
  obtain ⟨j, rfl⟩ := Int.eq_ofNat_of_zero_le h0
  show aIndexAddr Try.prog 82 (.pointer (some ⟨b, o, none⟩)) (.int q (Int.ofNat j)) H kk = _
  simp only [aIndexAddr, ar82, sz3]
  rw [if_pos (by omega), if_neg (by simp)]
  simp
def IntsL (H : AHeap) (v : Value) (sh : List (List Int)) : Prop := ∃ vs : List Value, vs.length = sh.length ∧ Cells H v 1 sh.length vs ∧ ∀ i (h : i < sh.length) (u : Value), vs[i]? = some u → Ints H u sh[i]
theorem IntsL.slice {H : AHeap} {v : Value} {sh : List (List Int)} (h : IntsL H v sh) : sh.length ≤ 9223372036854775807 ∧ ∃ a c, v = .slice a sh.length c := by
  obtain ⟨vs, h0, ⟨h1, h2, a, c, h3, h4⟩, h5⟩ := h
  exact ⟨h2, a, c, h3⟩
theorem IntsL.at_ {H : AHeap} {a : Option Addr} {n c : Nat} {sh : List (List Int)} (h : IntsL H (.slice a n c) sh) {k : Nat} (hk : k < sh.length) : ∃ b o sp u, a = some ⟨b, o, sp⟩ ∧ b < H.n ∧ cellAt H b (o + k) = some u ∧ Ints H u sh[k] := by
  obtain ⟨vs, h0, ⟨h1, h2, a', c', h3, h6, h4⟩, h5⟩ := h
  cases h3
  obtain ⟨b, o, sp, h7, h8, h9⟩ := h4 (by omega)
  have hv : vs[k]? = some (vs[k]'(by omega)) := List.getElem?_eq_getElem (by omega)
  exact ⟨b, o, sp, _, h7, h8, h9 k _ hv, h5 k hk _ hv⟩
theorem IntsL.ext {H H' : AHeap} {v : Value} {sh : List (List Int)} (h : IntsL H v sh) (hx : Ext H H') : IntsL H' v sh := by
  obtain ⟨vs, h0, h1, h2⟩ := h
  exact ⟨vs, h0, h1.ext hx, fun i hi u hu => (h2 i hi u hu).ext hx⟩

def dayD (days : Int) (sh : List (List Int)) (i : Nat) : Int := if i / 60 < sh.length ∧ ((i % 60 : Nat) : Int) < days ∧ ((i % 60 : Nat) : Int) ∉ sh.getD (i / 60) [] then -1 else -2
theorem dayD_take (days : Int) (sh : List (List Int)) (k i : Nat) : dayD days (sh.take k) i = if i / 60 < k then dayD days sh i else -2 := by
  unfold dayD
  by_cases h : i / 60 < k
  · rw [if_pos h]
    have e : (sh.take k).getD (i / 60) [] = sh.getD (i / 60) [] := by
      rw [List.getD_eq_getElem?_getD, List.getD_eq_getElem?_getD, List.getElem?_take, if_pos h]
    rw [e, List.length_take]
    by_cases h2 : i / 60 < sh.length
    · simp [h2, show i / 60 < min k sh.length by omega]
    · simp [h2, show ¬ i / 60 < min k sh.length by omega]
  · rw [if_neg h, if_neg]
    intro h2
    rw [List.length_take] at h2
    omega

set_option maxHeartbeats 4000000 in
theorem planOf_e {loops : List (Nat × LInfo)} {H : AHeap} {v sv : Value} {t : Tour} {sh : List (List Int)} (hv : TourV H v t) (hs : IntsL H sv sh) (hd1 : win 1 60 t.days = true) (hsh : sh.length ≤ 2) (hfl : t.flaws.length ≤ 1000) :
    CallS Try.prog loops 39 [v, sv] H fun r H' => (∃ a c, r = .agg (planCells (.slice a t.flaws.length c) (dayD t.days sh)).toArray ∧ Flaws H' (.slice a t.flaws.length c) t.flaws ∧ ∀ x, a = some x → H.n ≤ x.block ∧ x.block < H'.n) ∧ Ext H H' := by
  obtain ⟨cv, fv, rfl, hc, hf⟩ := hv
  obtain ⟨hcl, ca, cc, rfl⟩ := hc.slice
  obtain ⟨hfl', fa, fc, rfl⟩ := hf.slice
  obtain ⟨hsl, sa, sc, rfl⟩ := hs.slice
  rw [win_iff] at hd1
  obtain ⟨hd1, hd2⟩ := hd1
  have HC := Lib.hid hc
  have HF := Lib.hid hf
  have HS := Lib.hid hs
  generalize hdays : t.days = days at hd1 hd2 ⊢
  have HCL := Lib.hid (fun (loops : List (Nat × LInfo)) (H' : AHeap) (hx : Ext H H') => clone_e (loops := loops) (HF.out.ext hx) hfl)
  generalize t.flaws.length = fl at HF HCL hfl ⊢
  generalize t.flaws = fls at HF HCL ⊢
  clear hc hf hs hdays hfl'
  refine CallS.enter' Try.func39 rfl Try.ntmps39 (by simp) fun f hd hf => ?_
  have f0 := hf 0
  have f1 := hf 1
  simp at f0 f1
  clear hf
  repeat' (first|(with_reducible first|refine zA ?_|refine zB fun K hK=>?_|refine zC fun K2 hK2=>?_|refine zD ?_|refine zE ?_|refine zF ?_|refine zG ?_|refine zH ?_|refine zI ?_|refine zM ?_|refine zN ?_|refine zO ?_|refine zP ?_|refine zQ ?_|refine zR ?_)|((with_reducible refine zU (hK _ _ ?_));clear hK K)|((with_reducible refine zV ?_ ?_ fun K1 K3 d hdst h1 h3=>?_);rfl;exact yB rfl;cases hdst;go_simp)|((with_reducible refine zW fun K1 K3 h1 h3=>?_);go_simp)|((first|refine h1 ?_|refine h3 ?_);clear h1 h3 K1 K3)|((first|refine zX (fun hb=>h1 ?_) (fun hb=>h3 ?_)|refine zX (fun hb=>h3 ?_) (fun hb=>h1 ?_))<;>(clear h1 h3 K1 K3;(try have hb2:=yC hb);(try have hb2:=yD hb);(try have hb2:=yE hb);(try have hb2:=yF hb);(try have hb2:=yG hb)))|(refine fun (K2:_→AHeap→Prop) hK2=>?_)|((with_reducible refine zY ?_ ?_);decide)|((with_reducible first|refine zZ ?_ (fun K hK=>?_)|refine yA ?_ (fun K hK=>?_));(focus go_simp;done);go_simp;refine hK _ _ ?_;clear hK K)|(go_simp;(try go_bits);(try first | ((with_reducible show CallS _ _ _ _ _ _);refine CallS.mono (HCL.out _ _ (((Ext.refl _).push' _).push' _)) ?_; rintro _ H2 ⟨⟨hF2, ga, gc, rfl, hfr⟩, hx2⟩; (have HFR := Lib.hid hfr); clear hfr; (have HF2 := Lib.hid hF2); (have HX2 := Lib.hid hx2); clear hF2 hx2) | ((rw [aBuild_struct st84 ze84]); go_simp));refine hK2 _ _ ?_;clear hK2 K2))
  refine CodeS.loop (fun m f H' => ∃ (k : Nat) (D : Nat → Int), k ≤ 120 ∧ m = 120 - k ∧ f.tmp 14 = .int .i64 k ∧ f.tmp 1 = .slice sa sh.length sc ∧ f.tmp 2 = .pointer (some ⟨H.n, 0, none⟩) ∧ f.tmp 4 = .pointer (some ⟨H.n + 1, 0, none⟩) ∧ f.tmp 5 = .pointer (some ⟨H2.n, 0, none⟩) ∧ f.defers = [] ∧ Hid (∀ i, i < k → D i = -2) ∧ H' = H2.push (.row (planCells (.slice ga fl gc) D) 84)) 120 ?_ ?_
  · exact ⟨0, fun _ => 0, by simp, by simp, (by first|go_simp<;>go_num|assumption), (by first|go_simp<;>go_num|assumption), (by first|go_simp<;>go_num|assumption), (by first|go_simp<;>go_num|assumption), (by first|go_simp<;>go_num|assumption), (by first|go_simp<;>go_num|assumption), Lib.hid (fun i hi => absurd hi (Nat.not_lt_zero i)), rfl⟩
  clear f0 f1 hd f
  rintro m f H' ⟨k, D, hk, rfl, f14, f1, f2, f4, f5, hd, HD, rfl⟩
  by_cases hlt : k < 120
  · have hlt' : (k : Int) < 120 := by omega
    repeat' (first|(with_reducible first|refine zA ?_|refine zB fun K hK=>?_|refine zC fun K2 hK2=>?_|refine zD ?_|refine zE ?_|refine zF ?_|refine zG ?_|refine zH ?_|refine zI ?_|refine zM ?_|refine zN ?_|refine zO ?_|refine zP ?_|refine zQ ?_|refine zR ?_)|((with_reducible refine zU (hK _ _ ?_));clear hK K)|((with_reducible refine zV ?_ ?_ fun K1 K3 d hdst h1 h3=>?_);rfl;exact yB rfl;cases hdst;go_simp)|((with_reducible refine zW fun K1 K3 h1 h3=>?_);go_simp)|((first|refine h1 ?_|refine h3 ?_);clear h1 h3 K1 K3)|((first|refine zX (fun hb=>h1 ?_) (fun hb=>h3 ?_)|refine zX (fun hb=>h3 ?_) (fun hb=>h1 ?_))<;>(clear h1 h3 K1 K3;(try have hb2:=yC hb);(try have hb2:=yD hb);(try have hb2:=yE hb);(try have hb2:=yF hb);(try have hb2:=yG hb)))|(refine fun (K2:_→AHeap→Prop) hK2=>?_)|((with_reducible refine zY ?_ ?_);decide)|((with_reducible first|refine zZ ?_ (fun K hK=>?_)|refine yA ?_ (fun K hK=>?_));(focus go_simp;done);go_simp;refine hK _ _ ?_;clear hK K)|(go_simp;(try go_bits);refine hK2 _ _ ?_;clear hK2 K2))
    refine Post.round_normal ⟨120 - (k + 1), by omega, k + 1, putD D k (-2), by omega, rfl, (by first|go_simp<;>go_num|assumption), (by first|go_simp<;>go_num|assumption), (by first|go_simp<;>go_num|assumption), (by first|go_simp<;>go_num|assumption), (by first|go_simp<;>go_num|assumption), (by first|go_simp<;>go_num|assumption), Lib.hid (fun i hi => ?_), rfl⟩
    unfold putD
    split
    · rfl
    · exact HD.out i (by omega)
  have hlt' : ¬ (k : Int) < 120 := by omega
  have hD0 : ∀ i, i < 120 → D i = dayD days (sh.take 0) i := fun i hi => by
    rw [dayD_take, if_neg (Nat.not_lt_zero _)]
    exact HD.out i (by omega)
  have HD0 := Lib.hid hD0
  have hT : cellAt H2 H.n 0 = some (.int .i64 days) := by
    rw [cellAt_get (HX2.out.get _ (by simp only [AHeap.n_push]; omega)), cellAt_get (AHeap.get_push_old (by simp only [AHeap.n_push]; omega)), cellAt_new]; rfl
  have hnn : H.n + 1 < H2.n := by have := HX2.out.n; simp only [AHeap.n_push] at this; omega
  have hR : H2.get (H.n + 1) = .row (planCells (.slice none 0 0) fun _ => 0) 84 := by
    rw [HX2.out.get _ (by simp only [AHeap.n_push]; omega), show H.n + 1 = (H.push (.row [.int .i64 days, .slice ca t.closed.length cc, .slice fa fl fc] 25)).n from rfl, AHeap.get_push_new]
  have HR := Lib.hid hR
  have hn0 : H.n < H2.n := by omega
  have HX := Lib.hid ((((Ext.refl H).push' _).push' _).trans HX2.out)
  clear hD0 HD hR HX2 hk hlt
  repeat' (first|(with_reducible first|refine zA ?_|refine zB fun K hK=>?_|refine zC fun K2 hK2=>?_|refine zD ?_|refine zE ?_|refine zF ?_|refine zG ?_|refine zH ?_|refine zI ?_|refine zM ?_|refine zN ?_|refine zO ?_|refine zP ?_|refine zQ ?_|refine zR ?_)|((with_reducible refine zU (hK _ _ ?_));clear hK K)|((with_reducible refine zV ?_ ?_ fun K1 K3 d hdst h1 h3=>?_);rfl;exact yB rfl;cases hdst;go_simp)|((with_reducible refine zW fun K1 K3 h1 h3=>?_);go_simp)|((first|refine h1 ?_|refine h3 ?_);clear h1 h3 K1 K3)|((first|refine zX (fun hb=>h1 ?_) (fun hb=>h3 ?_)|refine zX (fun hb=>h3 ?_) (fun hb=>h1 ?_))<;>(clear h1 h3 K1 K3;(try have hb2:=yC hb);(try have hb2:=yD hb);(try have hb2:=yE hb);(try have hb2:=yF hb);(try have hb2:=yG hb)))|(refine fun (K2:_→AHeap→Prop) hK2=>?_)|((with_reducible refine zY ?_ ?_);decide)|((with_reducible first|refine zZ ?_ (fun K hK=>?_)|refine yA ?_ (fun K hK=>?_));(focus go_simp;done);go_simp;refine hK _ _ ?_;clear hK K)|(go_simp;(try go_bits);refine hK2 _ _ ?_;clear hK2 K2))
  refine CodeS.loop (fun m f H' => ∃ (k : Nat) (D : Nat → Int), k ≤ sh.length ∧ m = sh.length - k ∧ f.tmp 23 = .int .i64 k ∧ f.tmp 22 = .int .i64 sh.length ∧ f.tmp 21 = .slice sa sh.length sc ∧ f.tmp 2 = .pointer (some ⟨H.n, 0, none⟩) ∧ f.tmp 4 = .pointer (some ⟨H.n + 1, 0, none⟩) ∧ f.tmp 5 = .pointer (some ⟨H2.n, 0, none⟩) ∧ f.defers = [] ∧ Hid (∀ i, i < 120 → D i = dayD days (sh.take k) i) ∧ H' = H2.push (.row (planCells (.slice ga fl gc) D) 84)) sh.length ?_ ?_
  · exact ⟨0, D, by simp, by simp, (by first|go_simp<;>go_num|assumption), (by first|go_simp<;>go_num|assumption), (by first|go_simp<;>go_num|assumption), (by first|go_simp<;>go_num|assumption), (by first|go_simp<;>go_num|assumption), (by first|go_simp<;>go_num|assumption), (by first|go_simp<;>go_num|assumption), HD0, rfl⟩
  clear f14 f1 f2 f4 f5 hd f HD0 D hlt' k
  rintro m f H' ⟨k, D, hk, rfl, f23, f22, f21, f2, f4, f5, hd, HD, rfl⟩
  by_cases hlt : k < sh.length
  · obtain ⟨b, o, sp, u, rfl, hb, hxu, hiu⟩ := (HS.out.ext HX.out).at_ hlt
    obtain ⟨hll, la, lc, rfl⟩ := hiu.slice
    have HU := Lib.hid hiu
    have HTK : Hid (∀ i, dayD days (sh.take (k + 1)) i = if i / 60 = k then (if ((i % 60 : Nat) : Int) < days ∧ ((i % 60 : Nat) : Int) ∉ sh[k] then -1 else -2) else dayD days (sh.take k) i) := Lib.hid (fun i => by
      rw [dayD_take, dayD_take]
      by_cases h : i / 60 = k
      · rw [if_pos h, if_pos (by omega), dayD, h]
        simp [hlt]
      · rw [if_neg h]
        by_cases h2 : i / 60 < k
        · rw [if_pos h2, if_pos (by omega)]
        · rw [if_neg h2, if_neg (by omega)])
    generalize sh[k] = l at hxu hll HU HTK
    clear hiu
    repeat' (first|(with_reducible first|refine zA ?_|refine zB fun K hK=>?_|refine zC fun K2 hK2=>?_|refine zD ?_|refine zE ?_|refine zF ?_|refine zG ?_|refine zH ?_|refine zI ?_|refine zM ?_|refine zN ?_|refine zO ?_|refine zP ?_|refine zQ ?_|refine zR ?_)|((with_reducible refine zU (hK _ _ ?_));clear hK K)|((with_reducible refine zV ?_ ?_ fun K1 K3 d hdst h1 h3=>?_);rfl;exact yB rfl;cases hdst;go_simp)|((with_reducible refine zW fun K1 K3 h1 h3=>?_);go_simp)|((first|refine h1 ?_|refine h3 ?_);clear h1 h3 K1 K3)|((first|refine zX (fun hb=>h1 ?_) (fun hb=>h3 ?_)|refine zX (fun hb=>h3 ?_) (fun hb=>h1 ?_))<;>(clear h1 h3 K1 K3;(try have hb2:=yC hb);(try have hb2:=yD hb);(try have hb2:=yE hb);(try have hb2:=yF hb);(try have hb2:=yG hb)))|(refine fun (K2:_→AHeap→Prop) hK2=>?_)|((with_reducible refine zY ?_ ?_);decide)|((with_reducible first|refine zZ ?_ (fun K hK=>?_)|refine yA ?_ (fun K hK=>?_));(focus go_simp;done);go_simp;refine hK _ _ ?_;clear hK K)|(go_simp;(try go_bits);refine hK2 _ _ ?_;clear hK2 K2))
    refine CodeS.loop (fun m f H' => ∃ (d : Nat) (E : Nat → Int), (d : Int) ≤ days ∧ m = days.toNat - d ∧ f.tmp 30 = .int .i64 d ∧ f.tmp 29 = .int .i64 days ∧ f.tmp 8 = .slice la l.length lc ∧ f.tmp 7 = .int .i64 k ∧ f.tmp 23 = .int .i64 k ∧ f.tmp 22 = .int .i64 sh.length ∧ f.tmp 21 = .slice (some ⟨b, o, sp⟩) sh.length sc ∧ f.tmp 2 = .pointer (some ⟨H.n, 0, none⟩) ∧ f.tmp 4 = .pointer (some ⟨H.n + 1, 0, none⟩) ∧ f.tmp 5 = .pointer (some ⟨H2.n, 0, none⟩) ∧ f.defers = [] ∧ Hid (∀ i, i < 120 → E i = if i / 60 = k ∧ d ≤ i % 60 then -2 else dayD days (sh.take (k + 1)) i) ∧ H' = H2.push (.row (planCells (.slice ga fl gc) E) 84)) days.toNat ?_ ?_
    · refine ⟨0, D, by omega, by simp, (by first|go_simp<;>go_num|assumption), (by first|go_simp<;>go_num|assumption), (by first|go_simp<;>go_num|assumption), (by first|go_simp<;>go_num|assumption), (by first|go_simp<;>go_num|assumption), (by first|go_simp<;>go_num|assumption), (by first|go_simp<;>go_num|assumption), (by first|go_simp<;>go_num|assumption), (by first|go_simp<;>go_num|assumption), (by first|go_simp<;>go_num|assumption), (by first|go_simp<;>go_num|assumption), Lib.hid (fun i hi => ?_), rfl⟩
      rw [HD.out i hi, HTK.out]
      by_cases h : i / 60 = k
      · rw [if_pos ⟨h, Nat.zero_le _⟩, dayD_take, if_neg (by omega)]
      · rw [if_neg (fun h2 => h h2.1), if_neg h]
    clear f23 f22 f21 f2 f4 f5 hd f HD D
    rintro m f H' ⟨d, E, hdd, rfl, f30, f29, f8, f7, f23, f22, f21, f2, f4, f5, hd, HE, rfl⟩
    by_cases hlt2 : (d : Int) < days
    · have hk1 : k < 2 := by omega
      have hd9 : d < 60 := by omega
      have e60 : ((k : Int) * 60 + (d : Int)).toNat = k * 60 + d := by omega
      have h0 : (0 : Int) ≤ (k : Int) * 60 + (d : Int) := by omega
      have h9 : (k : Int) * 60 + (d : Int) < 120 := by omega
      have h8 : k * 60 + d < 120 := by omega
      clear hlt hk hdd
      repeat' (first|(with_reducible first|refine zA ?_|refine zB fun K hK=>?_|refine zC fun K2 hK2=>?_|refine zD ?_|refine zE ?_|refine zF ?_|refine zG ?_|refine zH ?_|refine zI ?_|refine zM ?_|refine zN ?_|refine zO ?_|refine zP ?_|refine zQ ?_|refine zR ?_)|((with_reducible refine zU (hK _ _ ?_));clear hK K)|((with_reducible refine zV ?_ ?_ fun K1 K3 d hdst h1 h3=>?_);rfl;exact yB rfl;cases hdst;go_simp)|((with_reducible refine zW fun K1 K3 h1 h3=>?_);go_simp)|((first|refine h1 ?_|refine h3 ?_);clear h1 h3 K1 K3)|((first|refine zX (fun hb=>h1 ?_) (fun hb=>h3 ?_)|refine zX (fun hb=>h3 ?_) (fun hb=>h1 ?_))<;>(clear h1 h3 K1 K3;(try have hb2:=yC hb);(try have hb2:=yD hb);(try have hb2:=yE hb);(try have hb2:=yF hb);(try have hb2:=yG hb)))|(refine fun (K2:_→AHeap→Prop) hK2=>?_)|((with_reducible refine zY ?_ ?_);decide)|((with_reducible first|refine zZ ?_ (fun K hK=>?_)|refine yA ?_ (fun K hK=>?_));(focus go_simp;done);go_simp;refine hK _ _ ?_;clear hK K)|(go_simp;(try go_bits);(try first | ((with_reducible show CallS _ _ _ _ _ _);refine CallS.mono (contains_s (HU.out.ext (Ext.push _))) ?_; rintro _ _ ⟨rfl, rfl⟩));refine hK2 _ _ ?_;clear hK2 K2))
      · have hnl : (d : Int) ∉ l := by simpa using hb
        refine Post.round_normal ⟨days.toNat - (d + 1), by omega, d + 1, putD E (k * 60 + d) (-1), by omega, rfl, (by first|go_simp<;>go_num|assumption), (by first|go_simp<;>go_num|assumption), (by first|go_simp<;>go_num|assumption), (by first|go_simp<;>go_num|assumption), (by first|go_simp<;>go_num|assumption), (by first|go_simp<;>go_num|assumption), (by first|go_simp<;>go_num|assumption), (by first|go_simp<;>go_num|assumption), (by first|go_simp<;>go_num|assumption), (by first|go_simp<;>go_num|assumption), (by first|go_simp<;>go_num|assumption), Lib.hid (fun i hi => ?_), rfl⟩
        unfold putD
        rw [HTK.out]
        by_cases h : i = k * 60 + d
        · subst h
          have e1 : (k * 60 + d) / 60 = k := by omega
          have e2 : (k * 60 + d) % 60 = d := by omega
          rw [if_pos rfl, e1, e2, if_neg (by omega), if_pos rfl, if_pos ⟨hlt2, hnl⟩]
        · rw [if_neg h, HE.out i hi, HTK.out]
          by_cases h2 : i / 60 = k ∧ d ≤ i % 60
          · rw [if_pos h2, if_pos ⟨h2.1, by omega⟩]
          · rw [if_neg h2, if_neg (c := i / 60 = k ∧ d + 1 ≤ i % 60) (fun h3 => h2 ⟨h3.1, by omega⟩)]
      · have hnl : (d : Int) ∈ l := by simpa using hb
        refine Post.round_normal ⟨days.toNat - (d + 1), by omega, d + 1, E, by omega, rfl, (by first|go_simp<;>go_num|assumption), (by first|go_simp<;>go_num|assumption), (by first|go_simp<;>go_num|assumption), (by first|go_simp<;>go_num|assumption), (by first|go_simp<;>go_num|assumption), (by first|go_simp<;>go_num|assumption), (by first|go_simp<;>go_num|assumption), (by first|go_simp<;>go_num|assumption), (by first|go_simp<;>go_num|assumption), (by first|go_simp<;>go_num|assumption), (by first|go_simp<;>go_num|assumption), Lib.hid (fun i hi => ?_), rfl⟩
        rw [HE.out i hi, HTK.out]
        by_cases h2 : i / 60 = k ∧ d ≤ i % 60
        · rw [if_pos h2]
          by_cases h3 : i / 60 = k ∧ d + 1 ≤ i % 60
          · rw [if_pos h3]
          · have e2 : i % 60 = d := by omega
            rw [if_neg h3, if_pos h2.1, e2, if_neg (fun h4 => h4.2 hnl)]
        · rw [if_neg h2, if_neg (c := i / 60 = k ∧ d + 1 ≤ i % 60) (fun h3 => h2 ⟨h3.1, by omega⟩)]
    · repeat' (first|(with_reducible first|refine zA ?_|refine zB fun K hK=>?_|refine zC fun K2 hK2=>?_|refine zD ?_|refine zE ?_|refine zF ?_|refine zG ?_|refine zH ?_|refine zI ?_|refine zM ?_|refine zN ?_|refine zO ?_|refine zP ?_|refine zQ ?_|refine zR ?_)|((with_reducible refine zU (hK _ _ ?_));clear hK K)|((with_reducible refine zV ?_ ?_ fun K1 K3 d hdst h1 h3=>?_);rfl;exact yB rfl;cases hdst;go_simp)|((with_reducible refine zW fun K1 K3 h1 h3=>?_);go_simp)|((first|refine h1 ?_|refine h3 ?_);clear h1 h3 K1 K3)|((first|refine zX (fun hb=>h1 ?_) (fun hb=>h3 ?_)|refine zX (fun hb=>h3 ?_) (fun hb=>h1 ?_))<;>(clear h1 h3 K1 K3;(try have hb2:=yC hb);(try have hb2:=yD hb);(try have hb2:=yE hb);(try have hb2:=yF hb);(try have hb2:=yG hb)))|(refine fun (K2:_→AHeap→Prop) hK2=>?_)|((with_reducible refine zY ?_ ?_);decide)|((with_reducible first|refine zZ ?_ (fun K hK=>?_)|refine yA ?_ (fun K hK=>?_));(focus go_simp;done);go_simp;refine hK _ _ ?_;clear hK K)|(go_simp;(try go_bits);refine hK2 _ _ ?_;clear hK2 K2))
      refine Post.round_normal ⟨sh.length - (k + 1), by omega, k + 1, E, by omega, rfl, (by first|go_simp<;>go_num|assumption), (by first|go_simp<;>go_num|assumption), (by first|go_simp<;>go_num|assumption), (by first|go_simp<;>go_num|assumption), (by first|go_simp<;>go_num|assumption), (by first|go_simp<;>go_num|assumption), (by first|go_simp<;>go_num|assumption), Lib.hid (fun i hi => ?_), rfl⟩
      rw [HE.out i hi]
      by_cases h2 : i / 60 = k ∧ d ≤ i % 60
      · rw [if_pos h2, HTK.out, if_pos h2.1, if_neg (fun h4 => by omega)]
      · rw [if_neg h2]
  · have hkk : k = sh.length := by omega
    have HD2 : Hid (planCells (.slice ga fl gc) D = planCells (.slice ga fl gc) (dayD days sh)) := Lib.hid (planCells_congr fun i hi => by rw [HD.out i hi, hkk, List.take_length])
    have hd2 := HD2.out
    clear HD hkk
    rw [hd2]
    clear HD2 hd2 D
    have hr : (H2.push (.row (planCells (.slice ga fl gc) (dayD days sh)) 84)).get (H.n + 1) = .row (planCells (.slice none 0 0) fun _ => 0) 84 := (AHeap.get_push_old hnn).trans HR.out
    repeat' (first|(with_reducible first|refine zA ?_|refine zB fun K hK=>?_|refine zC fun K2 hK2=>?_|refine zD ?_|refine zE ?_|refine zF ?_|refine zG ?_|refine zH ?_|refine zI ?_|refine zM ?_|refine zN ?_|refine zO ?_|refine zP ?_|refine zQ ?_|refine zR ?_)|((with_reducible refine zU (hK _ _ ?_));clear hK K)|((with_reducible refine zV ?_ ?_ fun K1 K3 d hdst h1 h3=>?_);rfl;exact yB rfl;cases hdst;go_simp)|((with_reducible refine zW fun K1 K3 h1 h3=>?_);go_simp)|((first|refine h1 ?_|refine h3 ?_);clear h1 h3 K1 K3)|((first|refine zX (fun hb=>h1 ?_) (fun hb=>h3 ?_)|refine zX (fun hb=>h3 ?_) (fun hb=>h1 ?_))<;>(clear h1 h3 K1 K3;(try have hb2:=yC hb);(try have hb2:=yD hb);(try have hb2:=yE hb);(try have hb2:=yF hb);(try have hb2:=yG hb)))|(refine fun (K2:_→AHeap→Prop) hK2=>?_)|((with_reducible refine zY ?_ ?_);decide)|((with_reducible first|refine zZ ?_ (fun K hK=>?_)|refine yA ?_ (fun K hK=>?_));(focus go_simp;done);go_simp;refine hK _ _ ?_;clear hK K)|(go_simp;(try go_bits);refine hK2 _ _ ?_;clear hK2 K2))
    refine ⟨⟨ga, gc, rfl, ?_, fun x hx => ?_⟩, (HX.out.upd (by omega) _).push' _⟩
    · exact (HF2.out.keep (by rw [AHeap.n_upd]; exact Nat.le_refl _) (fun x hx hlt => AHeap.get_upd_ne (by have := (HFR.out x hx).1; simp only [AHeap.n_push] at this; omega))).ext (Ext.push _)
    · have := HFR.out x hx
      simp only [AHeap.n_push, AHeap.n_upd] at this ⊢
      omega
end Go.Proofs.Try
namespace Go.Proofs.Try
open Go Go.Am Go.RowKit
set_option maxRecDepth 100000


def openGo (D : Nat → Int) : Nat → Nat → List Value
  | 0, _ => []
  | r + 1, i => if D i = -2 then openGo D r (i + 1) else .int .i64 i :: openGo D r (i + 1)
def openFrom (D : Nat → Int) (n lo : Nat) : Nat → List Value
  | 0 => openGo D n lo ++ openGo D n (60 + lo)
  | 1 => openGo D n (60 + lo)
  | _ => []
theorem openFrom_step (D : Nat → Int) (n lo k : Nat) (hk : k < 2) : openFrom D n lo k = openGo D n (k * 60 + lo) ++ openFrom D n lo (k + 1) := by
  match k, hk with
  | 0, _ => simp [openFrom]
  | 1, _ => simp [openFrom]

def openV (H : AHeap) : Value := .func (.func 109) #[] #[.pointer (some ⟨H.n + 1, 0, none⟩), .pointer (some ⟨H.n, 0, none⟩)]
theorem open_e {loops : List (Nat × LInfo)} {H : AHeap} {p : Nat} {lo hi : Int} : CallS Try.prog loops 89 [.pointer (some ⟨p, 0, none⟩), .agg #[.int .i64 lo, .int .i64 hi]] H fun v H' => v = openV H ∧ H' = (H.push (.row [.pointer (some ⟨p, 0, none⟩)] 100)).push (.row [.int .i64 lo, .int .i64 hi] 30) := by
  refine CallS.enter' Try.func89 rfl Try.ntmps89 (by simp) fun f hd hf => ?_
  have f0 := hf 0
  have f1 := hf 1
  simp at f0 f1
  clear hf
  repeat' (first|(with_reducible first|refine zA ?_|refine zB fun K hK=>?_|refine zC fun K2 hK2=>?_|refine zD ?_|refine zE ?_|refine zF ?_|refine zG ?_|refine zH ?_|refine zI ?_|refine zM ?_|refine zN ?_|refine zO ?_|refine zP ?_|refine zQ ?_|refine zR ?_)|((with_reducible refine zU (hK _ _ ?_));clear hK K)|((with_reducible refine zV ?_ ?_ fun K1 K3 d hdst h1 h3=>?_);rfl;exact yB rfl;cases hdst;go_simp)|((with_reducible refine zW fun K1 K3 h1 h3=>?_);go_simp)|((first|refine h1 ?_|refine h3 ?_);clear h1 h3 K1 K3)|((first|refine zX (fun hb=>h1 ?_) (fun hb=>h3 ?_)|refine zX (fun hb=>h3 ?_) (fun hb=>h1 ?_))<;>(clear h1 h3 K1 K3;(try have hb2:=yC hb);(try have hb2:=yD hb);(try have hb2:=yE hb);(try have hb2:=yF hb);(try have hb2:=yG hb)))|(refine fun (K2:_→AHeap→Prop) hK2=>?_)|((with_reducible refine zY ?_ ?_);decide)|((with_reducible first|refine zZ ?_ (fun K hK=>?_)|refine yA ?_ (fun K hK=>?_));(focus go_simp;done);go_simp;refine hK _ _ ?_;clear hK K)|(go_simp;(try go_bits);refine hK2 _ _ ?_;clear hK2 K2))
  exact ⟨rfl, rfl⟩

end Go.Proofs.Try
namespace Go.Am
open Go

structure GenS (P : Program) (l : Nat) (ls : List (Nat × LInfo)) (Rd : Nat → Prop) (room : Nat) (It : Value → Prop) (S : List Value → (Nat → Prop) → AHeap → Prop) (E : (Nat → Prop) → AHeap → Prop) : Prop where
  own : ∀ {L D H}, S L D H → D l
  lt : ∀ {L D H i}, S L D H → D i → i < H.n
  rd : ∀ {L D H i}, S L D H → Rd i → i < H.n
  ready : ∀ {L D H}, S L D H → H.get l = .loop .ready none
  keep : ∀ {L D H H'}, S L D H → H.n ≤ H'.n → (∀ i, D i ∨ Rd i → H'.get i = H.get i) → S L D H'
  round : ∀ {loops L D H v}, LExt ls loops → L.length < room → It v → S L D H → RoundS P loops l [v] H fun r H' => ∃ D', Step D H D' H' ∧ (r = .bool true ∧ S (L ++ [v]) D' H' ∨ r = .bool false ∧ E D' H')
  stop : ∀ {D H}, E D H → ∃ j, H.get l = .loop .done (some j)

def GivesS (P : Program) (H0 : AHeap) (R : Nat → Prop) (N : Nat) (v : Value) (It : Value → Prop) (items : List Value) : Prop := ∃ (g : FuncId) (cap : Array Value), v = .func (.func g) #[] cap ∧ okFn P g = true ∧ (∀ i, R i → i < H0.n) ∧
  ∀ (loops ls : List (Nat × LInfo)) (H : AHeap) (l : Nat) (Rd : Nat → Prop) (room : Nat) (S : List Value → (Nat → Prop) → AHeap → Prop) (E : (Nat → Prop) → AHeap → Prop) (L : List Value) (D : Nat → Prop), LExt ls loops → GenS P l ls Rd room It S E → S L D H → H0.n ≤ H.n → (∀ i, R i → H.get i = H0.get i ∧ ¬ D i) → L.length + N ≤ room →
    CallS P loops g ([.func (.yield l) #[] #[]] ++ cap.toList) H fun _ H' => ∃ D', Step D H D' H' ∧ (S (L ++ items) D' H' ∨ E D' H')
theorem GivesS.ext {P : Program} {H H' : AHeap} {R : Nat → Prop} {N : Nat} {v : Value} {It : Value → Prop} {items : List Value} (h : GivesS P H R N v It items) (hx : Ext H H') : GivesS P H' R N v It items := by
  obtain ⟨g, cap, h1, h2, h3, h4⟩ := h
  exact ⟨g, cap, h1, h2, fun i hi => Nat.lt_of_lt_of_le (h3 i hi) hx.n, fun loops ls H2 l Rd room S E L D a b c d e => h4 loops ls H2 l Rd room S E L D a b c (Nat.le_trans hx.n d) (fun i hi => ⟨(e i hi).1.trans (hx.get i (h3 i hi)), (e i hi).2⟩)⟩
theorem GivesS.lt {P : Program} {H : AHeap} {R : Nat → Prop} {N : Nat} {v : Value} {It : Value → Prop} {items : List Value} (h : GivesS P H R N v It items) {i : Nat} (hi : R i) : i < H.n := by
  obtain ⟨g, cap, h1, h2, h3, h4⟩ := h
  exact h3 i hi

theorem CodeS.range_givesS {P : Program} {H H0 : AHeap} {f : AF} {cx : Cx} {Q : Post} {ls : List (Nat × LInfo)} {qv : Value} {N : Nat} {R Rd : Nat → Prop} {It : Value → Prop} {items : List Value} {gop : Operand} {ps : Array Tmp} {assign body : Code} {room : Nat} {S : List Value → (Nat → Prop) → AHeap → Prop} {E : (Nat → Prop) → AHeap → Prop} {D : Nat → Prop} (hround : cx.round = none) (hls : LExt ls cx.loops) (hq : GivesS P H0 R N qv It items) (hg : f.eval gop = qv) (hx : Ext H0 H) (hr : N ≤ room)
    (hgen : GenS P (H.n + 1) ((H.n + 1, ⟨cx.fn, cx.sz, f.env, ps, assign, body, H.n⟩) :: ls) Rd room It S E) (hS : S [] D ((H.push (.defs false)).push (.loop .ready none))) (hRD : ∀ i, R i → ¬ D i) (hnd : ¬ D H.n)
    (hend : ∀ f2 D' H', (∀ t, f2.tmp t = f.tmp t) → f2.defers = { target := .collected H.n, args := #[] } :: f.defers → S items D' H' → Step D ((H.push (.defs false)).push (.loop .ready none)) D' H' → H'.get H.n = .defs false → Q .normal f2 (H'.upd (H.n + 1) (.loop .exhausted none)))
    (hstop : ∀ f2 D' H' j, (∀ t, f2.tmp t = f.tmp t) → f2.defers = { target := .collected H.n, args := #[] } :: f.defers → E D' H' → H'.get (H.n + 1) = .loop .done (some j) → Step D ((H.push (.defs false)).push (.loop .ready none)) D' H' → H'.get H.n = .defs false → Q (jumpOf (some j)) f2 (H'.upd (H.n + 1) (.loop .exhausted (some j)))) : CodeS P cx (.rangeFunc gop ps assign body) f H Q := by
  obtain ⟨g, cap, rfl, hok, hlt, hcall⟩ := hq
  refine CodeS.range hround hg hok ?_
  have hx2 : Ext H0 ((H.push (.defs false)).push (.loop .ready none)) := (hx.push' _).push' _
  have h := hcall ((H.n + 1, ⟨cx.fn, cx.sz, f.env, ps, assign, body, H.n⟩) :: cx.loops) _ _ (H.n + 1) Rd room S E [] D (hls.cons _ _) hgen hS hx2.n (fun i hi => ⟨hx2.get i (hlt i hi), hRD i hi⟩) (by simpa using hr)
  refine CallS.mono (by simpa using h) ?_
  rintro _ H' ⟨D', hst, hS'⟩
  have hn : H'.get H.n = .defs false := by
    rw [hst.get H.n (by rw [AHeap.n_push, AHeap.n_push]; omega) hnd, AHeap.get_push_old (by rw [AHeap.n_push]; omega), AHeap.get_push_new]
  rcases hS' with hS' | hS'
  · refine ⟨.ready, none, hgen.ready hS', (fun h => nomatch h), ?_⟩
    exact hend ⟨f.env, _⟩ D' H' (fun _ => rfl) rfl hS' hst hn
  · obtain ⟨j, hj⟩ := hgen.stop hS'
    refine ⟨.done, some j, hj, (fun h => nomatch h), ?_⟩
    exact hstop ⟨f.env, _⟩ D' H' j (fun _ => rfl) rfl hS' hj hst hn

section
variable {P : Program} {H : AHeap} {β : Type} {kk : K β} {dst : Option Tmp} {ty : TypeId} {src : String} {af : Array Edge} {g : Option (Nat × Bool)} {cx : Cx} {f : AF} {k : AF → AHeap → Prop}
def negV (v : Value) (H : AHeap) (kk : K β) (other : Unit → Option β) : Option β := match v with
  | .int .i64 a => kk (.int .i64 (IntKind.i64.wrap (0 - a))) H
  | _ => other ()
@[go_sem] theorem negV_int {a : Int} {other : Unit → Option β} : negV (.int .i64 a) H kk other = kk (.int .i64 (IntKind.i64.wrap (0 - a))) H := rfl
theorem aPlain_neg {t : TypeId} {x : Operand} {ev : Operand → Value} : aPlain P ⟨dst, .unOp .neg t x, ty, src, af, g⟩ ev H kk = negV (ev x) H kk fun _ => aPlain P ⟨dst, .unOp .neg t x, ty, src, af, g⟩ ev H kk := by
  unfold negV
  split
  · rename_i a hx
    rw [plain_of rfl]
    have ho : (Op.unOp .neg t x).operands.toList.all (fun x => plainV 6 (ev x)) = true := by
      show (#[x].toList.all fun x => plainV 6 (ev x)) = _
      simp [hx]
      rfl
    have hr : pureOf P (execOp ev ⟨dst, .unOp .neg t x, ty, src, af, g⟩) = some (.value (.int .i64 (IntKind.i64.wrap (0 - a)))) := by
      have h0 : pureOf P (execOp ev ⟨dst, .unOp .neg t x, ty, src, af, g⟩) = (pureOf P (Op.unary .neg (ev x))).map Next.value := by
        simp only [execOp]
        rw [pureOf_bind]
        cases pureOf P (Op.unary .neg (ev x)) <;> rfl
      rw [h0, hx]
      rfl
    rw [if_pos ho, hr]
    rfl
  · rfl
@[go_sem] theorem opP_neg {t : TypeId} {x : Operand} : opP P cx ⟨dst, .unOp .neg t x, ty, src, af, g⟩ f H k = Holds (negV (f.eval x) H (fun v H' => some (putP cx.sz f dst v fun f' => k f' H')) fun _ => aPlain P ⟨dst, .unOp .neg t x, ty, src, af, g⟩ f.eval H fun v H' => some (putP cx.sz f dst v fun f' => k f' H')) :=
  (show opP P cx ⟨dst, .unOp .neg t x, ty, src, af, g⟩ f H k = Holds (aPlain P ⟨dst, .unOp .neg t x, ty, src, af, g⟩ f.eval H fun v H' => some (putP cx.sz f dst v fun f' => k f' H')) from rfl).trans (congrArg Holds aPlain_neg)
@[go_sem] theorem vA_nilCheck {x : Operand} : valA P ⟨dst, .nilCheck x, ty, src, af, g⟩ (decode (.nilCheck x)) (evR (opReads ⟨dst, .nilCheck x, ty, src, af, g⟩) f) H kk = aNilCheck (f.eval x) H kk fun _ => aPlain P ⟨dst, .nilCheck x, ty, src, af, g⟩ (evR (opReads ⟨dst, .nilCheck x, ty, src, af, g⟩) f) H kk := by
  rw [← evR_self (o := ⟨dst, .nilCheck x, ty, src, af, g⟩) (f := f) (x := x) (by simp [Op.operands])]; rfl
@[go_sem] theorem vA_makeFunc {g0 : FuncId} {first captured : List Operand} : valA P ⟨dst, .makeFunc (.func g0) first.toArray captured.toArray, ty, src, af, g⟩ (decode (.makeFunc (.func g0) first.toArray captured.toArray)) (evR (opReads ⟨dst, .makeFunc (.func g0) first.toArray captured.toArray, ty, src, af, g⟩) f) H kk = kk (.func (.func g0) (first.map f.eval).toArray (captured.map f.eval).toArray) H := by
  have h1 : first.map f.eval = first.map fun x => evR (opReads ⟨dst, .makeFunc (.func g0) first.toArray captured.toArray, ty, src, af, g⟩) f x := by
    apply List.map_congr_left
    intro x hx
    rw [evR_self (by simp [Op.operands]; exact .inl hx)]
  have h2 : captured.map f.eval = captured.map fun x => evR (opReads ⟨dst, .makeFunc (.func g0) first.toArray captured.toArray, ty, src, af, g⟩) f x := by
    apply List.map_congr_left
    intro x hx
    rw [evR_self (by simp [Op.operands]; exact .inr hx)]
  rw [h1, h2]; rfl
end
end Go.Am
namespace Go.Proofs.Try
open Go Go.Am Go.RowKit
set_option maxRecDepth 100000


set_option maxHeartbeats 4000000 in
theorem open_givesS {loops ls : List (Nat × LInfo)} {H : AHeap} {l room : Nat} {Rd : Nat → Prop} {It : Value → Prop} {S : List Value → (Nat → Prop) → AHeap → Prop} {E : (Nat → Prop) → AHeap → Prop} {L : List Value} {Dn : Nat → Prop} {sb pb p lo hi : Nat} {fv : Value} {D : Nat → Int}
    (hfl : LExt ls loops) (hg : GenS Try.prog l ls Rd room It S E) (hS : S L Dn H) (hsb : sb < H.n) (hpb : pb < H.n) (hp : p < H.n) (dsb : ¬ Dn sb) (dpb : ¬ Dn pb) (dp : ¬ Dn p)
    (gsb : H.get sb = .row [.int .i64 lo, .int .i64 hi] 30) (gpb : H.get pb = .row [.pointer (some ⟨p, 0, none⟩)] 100) (gp : H.get p = .row (planCells fv D) 84) (h1 : lo ≤ hi) (h2 : hi < 60)
    (hit : ∀ i : Nat, i < 120 → lo ≤ i % 60 → i % 60 ≤ hi → D i ≠ -2 → It (.int .i64 i)) (hro : L.length + 2 * (hi + 1 - lo) ≤ room) :
    CallS Try.prog loops 109 [.func (.yield l) #[] #[], .pointer (some ⟨sb, 0, none⟩), .pointer (some ⟨pb, 0, none⟩)] H fun _ H' => ∃ D', Step Dn H D' H' ∧ (S (L ++ openFrom D (hi + 1 - lo) lo 0) D' H' ∨ E D' H') := by
  have HFL := Lib.hid hfl
  have HG := Lib.hid hg
  have HS := Lib.hid hS
  have HIT := Lib.hid hit
  have HRO := Lib.hid hro
  have GSB := Lib.hid gsb
  have GPB := Lib.hid gpb
  have GP := Lib.hid gp
  have DSB := Lib.hid dsb
  have DPB := Lib.hid dpb
  have DP := Lib.hid dp
  generalize hn : hi + 1 - lo = n
  have HN := Lib.hid hn
  generalize hitems : openFrom D n lo 0 = items
  have HITS := Lib.hid hitems
  clear hfl hg hS hit hro gsb gpb gp dsb dpb dp hitems hn
  refine CallS.enter' Try.func109 rfl Try.ntmps109 (by simp) fun f hd hf => ?_
  have f0 := hf 0
  have f1 := hf 1
  have f2 := hf 2
  simp at f0 f1 f2
  clear hf
  repeat' (first|(with_reducible first|refine zA ?_|refine zB fun K hK=>?_|refine zC fun K2 hK2=>?_|refine zD ?_|refine zE ?_|refine zF ?_|refine zG ?_|refine zH ?_|refine zI ?_|refine zM ?_|refine zN ?_|refine zO ?_|refine zP ?_|refine zQ ?_|refine zR ?_)|((with_reducible refine zU (hK _ _ ?_));clear hK K)|((with_reducible refine zV ?_ ?_ fun K1 K3 d hdst h1 h3=>?_);rfl;exact yB rfl;cases hdst;go_simp)|((with_reducible refine zW fun K1 K3 h1 h3=>?_);go_simp)|((first|refine h1 ?_|refine h3 ?_);clear h1 h3 K1 K3)|((first|refine zX (fun hb=>h1 ?_) (fun hb=>h3 ?_)|refine zX (fun hb=>h3 ?_) (fun hb=>h1 ?_))<;>(clear h1 h3 K1 K3;(try have hb2:=yC hb);(try have hb2:=yD hb);(try have hb2:=yE hb);(try have hb2:=yF hb);(try have hb2:=yG hb)))|(refine fun (K2:_→AHeap→Prop) hK2=>?_)|((with_reducible refine zY ?_ ?_);decide)|((with_reducible first|refine zZ ?_ (fun K hK=>?_)|refine yA ?_ (fun K hK=>?_));(focus go_simp;done);go_simp;refine hK _ _ ?_;clear hK K)|(go_simp;(try go_bits);refine hK2 _ _ ?_;clear hK2 K2))
  refine CodeS.loop (fun m f H' => ∃ (k : Nat) (D' : Nat → Prop) (L' : List Value), k ≤ 2 ∧ m = 2 - k ∧ f.tmp 6 = .int .i64 k ∧ f.tmp 0 = .func (.yield l) #[] #[] ∧ f.tmp 1 = .pointer (some ⟨sb, 0, none⟩) ∧ f.tmp 2 = .pointer (some ⟨pb, 0, none⟩) ∧ f.defers = [] ∧ Hid (S L' D' H') ∧ Hid (Step Dn H D' H') ∧ Hid (L' ++ openFrom D n lo k = L ++ items) ∧ Hid (L'.length ≤ L.length + k * n)) 2 ?_ ?_
  · exact ⟨0, Dn, L, by omega, rfl, (by first|go_simp<;>go_num|assumption), (by first|go_simp<;>go_num|assumption), (by first|go_simp<;>go_num|assumption), (by first|go_simp<;>go_num|assumption), (by first|go_simp<;>go_num|assumption), HS, Lib.hid (Step.refl _ _), Lib.hid (by rw [HITS.out]), Lib.hid (by simp)⟩
  clear f0 f1 f2 hd f HS
  rintro m f H' ⟨k, D', L', hk, rfl, f6, f0, f1, f2, hd, HS, HST, HL, HLN⟩
  have hc1 : cellAt H' sb 0 = some (.int .i64 lo) := by rw [cellAt_get ((HST.out.get sb hsb DSB.out))]; simp [cellAt, GSB.out]
  by_cases hlt : k < 2
  · have hlt' : (k : Int) < 2 := by omega
    repeat' (first|(with_reducible first|refine zA ?_|refine zB fun K hK=>?_|refine zC fun K2 hK2=>?_|refine zD ?_|refine zE ?_|refine zF ?_|refine zG ?_|refine zH ?_|refine zI ?_|refine zM ?_|refine zN ?_|refine zO ?_|refine zP ?_|refine zQ ?_|refine zR ?_)|((with_reducible refine zU (hK _ _ ?_));clear hK K)|((with_reducible refine zV ?_ ?_ fun K1 K3 d hdst h1 h3=>?_);rfl;exact yB rfl;cases hdst;go_simp)|((with_reducible refine zW fun K1 K3 h1 h3=>?_);go_simp)|((first|refine h1 ?_|refine h3 ?_);clear h1 h3 K1 K3)|((first|refine zX (fun hb=>h1 ?_) (fun hb=>h3 ?_)|refine zX (fun hb=>h3 ?_) (fun hb=>h1 ?_))<;>(clear h1 h3 K1 K3;(try have hb2:=yC hb);(try have hb2:=yD hb);(try have hb2:=yE hb);(try have hb2:=yF hb);(try have hb2:=yG hb)))|(refine fun (K2:_→AHeap→Prop) hK2=>?_)|((with_reducible refine zY ?_ ?_);decide)|((with_reducible first|refine zZ ?_ (fun K hK=>?_)|refine yA ?_ (fun K hK=>?_));(focus go_simp;done);go_simp;refine hK _ _ ?_;clear hK K)|(go_simp;(try go_bits);refine hK2 _ _ ?_;clear hK2 K2))
    refine CodeS.loop (fun m f H' => ∃ (r : Nat) (D' : Nat → Prop) (L' : List Value), r ≤ n ∧ m = r ∧ f.tmp 5 = .int .i64 ((k * 60 + lo + (n - r) : Nat) : Int) ∧ f.tmp 4 = .int .i64 k ∧ f.tmp 6 = .int .i64 k ∧ f.tmp 0 = .func (.yield l) #[] #[] ∧ f.tmp 1 = .pointer (some ⟨sb, 0, none⟩) ∧ f.tmp 2 = .pointer (some ⟨pb, 0, none⟩) ∧ f.defers = [] ∧ Hid (S L' D' H') ∧ Hid (Step Dn H D' H') ∧ Hid (L' ++ (openGo D r (k * 60 + lo + (n - r)) ++ openFrom D n lo (k + 1)) = L ++ items) ∧ Hid (L'.length ≤ L.length + k * n + (n - r))) n ?_ ?_
    · refine ⟨n, D', L', Nat.le_refl _, rfl, ?_, (by first|go_simp<;>go_num|assumption), (by first|go_simp<;>go_num|assumption), (by first|go_simp<;>go_num|assumption), (by first|go_simp<;>go_num|assumption), (by first|go_simp<;>go_num|assumption), (by first|go_simp<;>go_num|assumption), HS, HST, Lib.hid ?_, Lib.hid (by have := HLN.out; omega)⟩
      · rw [Nat.sub_self, Nat.add_zero]
        go_simp
      · rw [Nat.sub_self, Nat.add_zero, ← HL.out, ← openFrom_step _ _ _ _ hlt]
    clear f6 f0 f1 f2 hd f HS HST HL HLN hc1 D' L'
    rintro m f H' ⟨r, D', L', hr, hmr, f5, f4, f6, f0, f1, f2, hd, HS, HST, HL, HLN⟩
    have hc1 : cellAt H' sb 1 = some (.int .i64 hi) := by rw [cellAt_get ((HST.out.get sb hsb DSB.out))]; simp [cellAt, GSB.out]
    have hc2 : cellAt H' pb 0 = some (.pointer (some ⟨p, 0, none⟩)) := by rw [cellAt_get ((HST.out.get pb hpb DPB.out))]; simp [cellAt, GPB.out]
    have hn := HN.out
    rcases Nat.eq_zero_or_pos r with hr0 | hr0
    · generalize hi' : k * 60 + lo + (n - r) = i at f5 HL
      have hgt : ¬ (i : Int) ≤ (k : Int) * 60 + (hi : Int) := by omega
      clear hn hi'
      repeat' (first|(with_reducible first|refine zA ?_|refine zB fun K hK=>?_|refine zC fun K2 hK2=>?_|refine zD ?_|refine zE ?_|refine zF ?_|refine zG ?_|refine zH ?_|refine zI ?_|refine zM ?_|refine zN ?_|refine zO ?_|refine zP ?_|refine zQ ?_|refine zR ?_)|((with_reducible refine zU (hK _ _ ?_));clear hK K)|((with_reducible refine zV ?_ ?_ fun K1 K3 d hdst h1 h3=>?_);rfl;exact yB rfl;cases hdst;go_simp)|((with_reducible refine zW fun K1 K3 h1 h3=>?_);go_simp)|((first|refine h1 ?_|refine h3 ?_);clear h1 h3 K1 K3)|((first|refine zX (fun hb=>h1 ?_) (fun hb=>h3 ?_)|refine zX (fun hb=>h3 ?_) (fun hb=>h1 ?_))<;>(clear h1 h3 K1 K3;(try have hb2:=yC hb);(try have hb2:=yD hb);(try have hb2:=yE hb);(try have hb2:=yF hb);(try have hb2:=yG hb)))|(refine fun (K2:_→AHeap→Prop) hK2=>?_)|((with_reducible refine zY ?_ ?_);decide)|((with_reducible first|refine zZ ?_ (fun K hK=>?_)|refine yA ?_ (fun K hK=>?_));(focus go_simp;done);go_simp;refine hK _ _ ?_;clear hK K)|(go_simp;(try go_bits);refine hK2 _ _ ?_;clear hK2 K2))
      refine Post.round_normal ⟨2 - (k + 1), by omega, k + 1, D', L', by omega, rfl, ?_, (by first|go_simp<;>go_num|assumption), (by first|go_simp<;>go_num|assumption), (by first|go_simp<;>go_num|assumption), (by first|go_simp<;>go_num|assumption), HS, HST, Lib.hid ?_, Lib.hid ?_⟩
      · go_simp
      · rw [← HL.out, hr0]; rfl
      · have := HLN.out
        have h9 := HN.out
        rw [Nat.add_mul]; omega
    · have HE : Hid (openGo D r (k * 60 + lo + (n - r)) = if D (k * 60 + lo + (n - r)) = -2 then openGo D (r - 1) (k * 60 + lo + (n - (r - 1))) else .int .i64 ((k * 60 + lo + (n - r) : Nat) : Int) :: openGo D (r - 1) (k * 60 + lo + (n - (r - 1)))) := Lib.hid (by
        conv => lhs; rw [show r = (r - 1) + 1 by omega, openGo]
        rw [show k * 60 + lo + (n - (r - 1 + 1)) + 1 = k * 60 + lo + (n - (r - 1)) by omega, show n - (r - 1 + 1) = n - r by omega])
      have hit := HIT.out (k * 60 + lo + (n - r)) (by omega) (by omega) (by omega)
      have HNX : Hid (((k * 60 + lo + (n - (r - 1)) : Nat) : Int) = ((k * 60 + lo + (n - r) : Nat) : Int) + 1) := Lib.hid (by omega)
      have HI2 : ∃ i2, Hid (k * 60 + lo + (n - (r - 1)) = i2) := ⟨_, Lib.hid rfl⟩
      obtain ⟨i2, HI2⟩ := HI2
      rw [HI2.out] at HE HNX
      generalize hi' : k * 60 + lo + (n - r) = i at f5 HL HE hit HNX
      have hle : (i : Int) ≤ (k : Int) * 60 + (hi : Int) := by omega
      have hi1 : (i : Int) < 120 := by omega
      have hi2 : i < 120 := by omega
      have hcD : cellAt H' p (1 + i) = some (.int .i64 (D i)) := by rw [cellAt_get ((HST.out.get p hp DP.out))]; simp only [cellAt, GP.out]; exact planCells_get hi2
      have hroom : L'.length < room := by have := HLN.out; have h8 := HRO.out; have : k * n ≤ 1 * n := Nat.mul_le_mul_right _ (by omega); omega
      generalize D i = x at hcD HE hit
      clear hn hi'
      by_cases hx : x = -2
      · subst hx
        clear hit
        repeat' (first|(with_reducible first|refine zA ?_|refine zB fun K hK=>?_|refine zC fun K2 hK2=>?_|refine zD ?_|refine zE ?_|refine zF ?_|refine zG ?_|refine zH ?_|refine zI ?_|refine zM ?_|refine zN ?_|refine zO ?_|refine zP ?_|refine zQ ?_|refine zR ?_)|((with_reducible refine zU (hK _ _ ?_));clear hK K)|((with_reducible refine zV ?_ ?_ fun K1 K3 d hdst h1 h3=>?_);rfl;exact yB rfl;cases hdst;go_simp)|((with_reducible refine zW fun K1 K3 h1 h3=>?_);go_simp)|((first|refine h1 ?_|refine h3 ?_);clear h1 h3 K1 K3)|((first|refine zX (fun hb=>h1 ?_) (fun hb=>h3 ?_)|refine zX (fun hb=>h3 ?_) (fun hb=>h1 ?_))<;>(clear h1 h3 K1 K3;(try have hb2:=yC hb);(try have hb2:=yD hb);(try have hb2:=yE hb);(try have hb2:=yF hb);(try have hb2:=yG hb)))|(refine fun (K2:_→AHeap→Prop) hK2=>?_)|((with_reducible refine zY ?_ ?_);decide)|((with_reducible first|refine zZ ?_ (fun K hK=>?_)|refine yA ?_ (fun K hK=>?_));(focus go_simp;done);go_simp;refine hK _ _ ?_;clear hK K)|(go_simp;(try go_bits);refine hK2 _ _ ?_;clear hK2 K2))
        refine Post.round_normal ⟨r - 1, by omega, r - 1, D', L', by omega, rfl, ?_, (by first|go_simp<;>go_num|assumption), (by first|go_simp<;>go_num|assumption), (by first|go_simp<;>go_num|assumption), (by first|go_simp<;>go_num|assumption), (by first|go_simp<;>go_num|assumption), (by first|go_simp<;>go_num|assumption), HS, HST, Lib.hid ?_, Lib.hid ?_⟩
        · rw [HI2.out, HNX.out]
          go_simp
        · rw [← HL.out, HE.out, if_pos rfl, HI2.out]
        · have := HLN.out; omega
      · have HX := Lib.hid (hit hx)
        have HE2 : Hid (openGo D r i = .int .i64 (i : Int) :: openGo D (r - 1) i2) := Lib.hid (by rw [HE.out, if_neg hx])
        have hxb : (x != -2) = true := by simpa using hx
        clear hit HE hx
        repeat' (first|(with_reducible first|refine zA ?_|refine zB fun K hK=>?_|refine zC fun K2 hK2=>?_|refine zD ?_|refine zE ?_|refine zF ?_|refine zG ?_|refine zH ?_|refine zI ?_|refine zM ?_|refine zN ?_|refine zO ?_|refine zP ?_|refine zQ ?_|refine zR ?_)|((with_reducible refine zU (hK _ _ ?_));clear hK K)|((with_reducible refine zV ?_ ?_ fun K1 K3 d hdst h1 h3=>?_);rfl;exact yB rfl;cases hdst;go_simp)|((with_reducible refine zW fun K1 K3 h1 h3=>?_);go_simp)|((first|refine h1 ?_|refine h3 ?_);clear h1 h3 K1 K3)|((first|refine zX (fun hb=>h1 ?_) (fun hb=>h3 ?_)|refine zX (fun hb=>h3 ?_) (fun hb=>h1 ?_))<;>(clear h1 h3 K1 K3;(try have hb2:=yC hb);(try have hb2:=yD hb);(try have hb2:=yE hb);(try have hb2:=yF hb);(try have hb2:=yG hb)))|(refine fun (K2:_→AHeap→Prop) hK2=>?_)|((with_reducible refine zY ?_ ?_);decide)|((with_reducible first|refine zZ ?_ (fun K hK=>?_)|refine yA ?_ (fun K hK=>?_));(focus go_simp;done);go_simp;refine hK _ _ ?_;clear hK K)|(go_simp;(try go_bits);(try first | ((refine RoundS.mono (HG.out.round (v := .int .i64 (i : Int)) HFL.out hroom HX.out HS.out) ?_); rintro _ H3 ⟨D3, hst3, ⟨rfl, hS3⟩ | ⟨rfl, hS3⟩⟩ <;> ((have HS3 := Lib.hid hS3); (have HST3 := Lib.hid hst3); clear hS3 hst3; go_simp)));refine hK2 _ _ ?_;clear hK2 K2))
        · refine Post.round_normal ⟨r - 1, by omega, r - 1, D3, L' ++ [.int .i64 (i : Int)], by omega, rfl, ?_, (by first|go_simp<;>go_num|assumption), (by first|go_simp<;>go_num|assumption), (by first|go_simp<;>go_num|assumption), (by first|go_simp<;>go_num|assumption), (by first|go_simp<;>go_num|assumption), (by first|go_simp<;>go_num|assumption), HS3, Lib.hid (HST.out.trans HST3.out), Lib.hid ?_, Lib.hid ?_⟩
          · rw [HI2.out, HNX.out]
            go_simp
          · rw [← HL.out, HE2.out, HI2.out]; simp
          · have := HLN.out; simp; omega
        · exact ⟨D3, HST.out.trans HST3.out, .inr HS3.out⟩
  · have hlt' : ¬ (k : Int) < 2 := by omega
    repeat' (first|(with_reducible first|refine zA ?_|refine zB fun K hK=>?_|refine zC fun K2 hK2=>?_|refine zD ?_|refine zE ?_|refine zF ?_|refine zG ?_|refine zH ?_|refine zI ?_|refine zM ?_|refine zN ?_|refine zO ?_|refine zP ?_|refine zQ ?_|refine zR ?_)|((with_reducible refine zU (hK _ _ ?_));clear hK K)|((with_reducible refine zV ?_ ?_ fun K1 K3 d hdst h1 h3=>?_);rfl;exact yB rfl;cases hdst;go_simp)|((with_reducible refine zW fun K1 K3 h1 h3=>?_);go_simp)|((first|refine h1 ?_|refine h3 ?_);clear h1 h3 K1 K3)|((first|refine zX (fun hb=>h1 ?_) (fun hb=>h3 ?_)|refine zX (fun hb=>h3 ?_) (fun hb=>h1 ?_))<;>(clear h1 h3 K1 K3;(try have hb2:=yC hb);(try have hb2:=yD hb);(try have hb2:=yE hb);(try have hb2:=yF hb);(try have hb2:=yG hb)))|(refine fun (K2:_→AHeap→Prop) hK2=>?_)|((with_reducible refine zY ?_ ?_);decide)|((with_reducible first|refine zZ ?_ (fun K hK=>?_)|refine yA ?_ (fun K hK=>?_));(focus go_simp;done);go_simp;refine hK _ _ ?_;clear hK K)|(go_simp;(try go_bits);refine hK2 _ _ ?_;clear hK2 K2))
    refine ⟨D', HST.out, .inl ?_⟩
    have h5 := HL.out
    rw [show k = 2 by omega] at h5
    rw [← h5]; simpa [openFrom] using HS.out

theorem openV_givesS {H G : AHeap} {p lo hi : Nat} {fv : Value} {D : Nat → Int} {It : Value → Prop} (hG : G = (H.push (.row [.pointer (some ⟨p, 0, none⟩)] 100)).push (.row [.int .i64 lo, .int .i64 hi] 30)) (hp : p < H.n) (gp : H.get p = .row (planCells fv D) 84) (h1 : lo ≤ hi) (h2 : hi < 60)
    (hit : ∀ i : Nat, i < 120 → lo ≤ i % 60 → i % 60 ≤ hi → D i ≠ -2 → It (.int .i64 i)) : GivesS Try.prog G (fun i => i = p ∨ i = H.n ∨ i = H.n + 1) (2 * (hi + 1 - lo)) (openV H) It (openFrom D (hi + 1 - lo) lo 0) := by
  have hn : G.n = H.n + 2 := by rw [hG, AHeap.n_push, AHeap.n_push]
  refine ⟨109, _, rfl, by kernel_rfl, ?_, fun loops ls H' l Rd room S E L D' hf hg hS hn' hR hr => ?_⟩
  · rintro i (rfl | rfl | rfl) <;> omega
  · refine open_givesS hf hg hS (p := p) (fv := fv) (by omega) (by omega) (by omega) (hR _ (.inr (.inr rfl))).2 (hR _ (.inr (.inl rfl))).2 (hR _ (.inl rfl)).2 ?_ ?_ ?_ h1 h2 hit hr
    · rw [(hR _ (.inr (.inr rfl))).1, hG, show H.n + 1 = (H.push (.row [.pointer (some ⟨p, 0, none⟩)] 100)).n from rfl, AHeap.get_push_new]
    · rw [(hR _ (.inr (.inl rfl))).1, hG, AHeap.get_push_old (by rw [AHeap.n_push]; omega), AHeap.get_push_new]
    · rw [(hR _ (.inl rfl)).1, hG, AHeap.get_push_old (by rw [AHeap.n_push]; omega), AHeap.get_push_old hp]; exact gp
end Go.Proofs.Try
namespace Go.Proofs.Try
open Go Go.Am Go.RowKit
set_option maxRecDepth 100000


def nowhere : Flaw := ⟨0, 0, 0, 0⟩
def Tour.flawOf (t : Tour) (x : Int) : Flaw := t.flaws.getD (atOf t.flaws x) nowhere
def Tour.inSpan (t : Tour) (lo hi : Int) : List Int → Nat
  | [] => 0
  | x :: l => (if lies (t.flawOf x).lo (t.flawOf x).hi lo hi = true then 1 else 0) + t.inSpan lo hi l
def Tour.room (t : Tour) (lo hi : Int) : Nat := (openFrom (dayD t.days [t.closed]) (hi.toNat + 1 - lo.toNat) lo.toNat 0).length
def Tour.isJam (t : Tour) (ids : List Int) (lo hi : Int) : Bool := t.isSpan lo hi && decide (t.room lo hi < t.inSpan lo hi ids)

theorem atOf_lt {l : List Flaw} {x : Int} (h : x ∈ l.map (·.id)) : atOf l x < l.length := by
  unfold atOf
  apply List.findIdx_lt_length_of_exists
  obtain ⟨a, ha, rfl⟩ := List.mem_map.1 h
  exact ⟨a, ha, by simp⟩

structure JamAt (H : AHeap) (a b c p : Nat) (t : Tour) (ids : List Int) : Prop where
  alt : a < H.n
  blt : b < H.n
  clt : c < H.n
  plt : p < H.n
  tour : ∃ cv fv, H.get a = .row [.int .i64 t.days, cv, fv] 25 ∧ Ints H cv t.closed ∧ Flaws H fv t.flaws
  ids : ∃ lv, H.get b = .row [lv] 22 ∧ Ints H lv ids
  map : ∃ r, H.get c = .row [.map (some r)] 110 ∧ r < H.n ∧ MapIs H r (idxL t.flaws 0)
  plan : ∃ fv, H.get p = .row (planCells fv (dayD t.days [t.closed])) 84
theorem JamAt.ext {H H' : AHeap} {a b c p : Nat} {t : Tour} {ids : List Int} (h : JamAt H a b c p t ids) (hx : Ext H H') : JamAt H' a b c p t ids := by
  obtain ⟨h1, h2, h3, h4, ⟨cv, fv, h5, h6, h7⟩, ⟨lv, h8, h9⟩, ⟨r, h10, h11, h12⟩, ⟨gv, h13⟩⟩ := h
  have hn := hx.n
  exact ⟨by omega, by omega, by omega, by omega, ⟨cv, fv, (hx.get _ h1).trans h5, h6.ext hx, h7.ext hx⟩, ⟨lv, (hx.get _ h2).trans h8, h9.ext hx⟩, ⟨r, (hx.get _ h3).trans h10, by omega, h12.ext h11 hx⟩, ⟨gv, (hx.get _ h4).trans h13⟩⟩
def jamV (a b c p : Nat) : Value := .func (.func 82) #[] #[.pointer (some ⟨a, 0, none⟩), .pointer (some ⟨b, 0, none⟩), .pointer (some ⟨c, 0, none⟩), .pointer (some ⟨p, 0, none⟩)]

theorem listed_mem {t : Tour} {ids : List Int} (h : t.listed ids = true) {x : Int} (hx : x ∈ ids) : x ∈ t.flaws.map (·.id) := by
  simp only [Tour.listed, Bool.and_eq_true, List.all_eq_true] at h
  exact of_decide_eq_true (h.2 x hx)

end Go.Proofs.Try
