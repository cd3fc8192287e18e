/- Contracts of functions, walked. -/
import Derived.Test.YtgddlpegljkgpaaStTA
import Derived.Test.YtgddlpegljkgpaaStS8
import Derived.Test.YtgddlpegljkgpaaStSN
import Derived.Test.YtgddlpegljkgpaaAwB
set_option linter.all false
namespace Go.Proofs.Try
open Go Go.Am Go.RowKit Go.Co
set_option maxRecDepth 100000

/-! Whether a course can hold floors. -/
def holdGo (x : Course) (p : Nat) (fl : List Int) : Nat → Nat → Bool
  | 0, _ => true
  | r + 1, i => if x.nx i (lowL p fl i) < fl.getD i 0 then false else holdGo x p fl r (i + 1)
theorem holdGo_iff {x : Course} {p : Nat} {fl : List Int} : ∀ (r i : Nat), holdGo x p fl r i = true ↔ ∀ j, i ≤ j → j < i + r → fl.getD j 0 ≤ x.nx j (lowL p fl j)
  | 0, i => by simp [holdGo]; intro j h1 h2; omega
  | r + 1, i => by
    rw [holdGo]
    split
    · rename_i h
      simp only [Bool.false_eq_true, false_iff]
      exact fun h2 => by have := h2 i (Nat.le_refl _) (by omega); omega
    · rename_i h
      rw [holdGo_iff r (i + 1)]
      constructor
      · intro h2 j h3 h4
        rcases Nat.eq_or_lt_of_le h3 with rfl | h5
        · omega
        · exact h2 j h5 (by omega)
      · exact fun h2 j h3 h4 => h2 j (by omega) (by omega)

theorem hold_s {loops : List (Nat × LInfo)} {H : AHeap} {v lv : Value} {x : Course} {xs : List Int} {p : Nat} (hv : CourseV H v x) (hd : Ints H lv xs) (hk : xs.length ≤ x.open_.length) (hp : x.per = p) (hp1 : 1 ≤ p) (hn : xs.length ≤ 1000) : CallS Try.prog loops 93 [v, lv] H fun r H' => r = .bool (holdGo x p (clampL xs) xs.length 0) ∧ H' = H := by
  refine CallS.forget (R := fun v => v = .bool (holdGo x p (clampL xs) xs.length 0)) (by rintro v rfl; rfl) ?_
  have HV := Lib.hid hv
  have HI := Lib.hid hd
  obtain ⟨ov, rfl, hov⟩ := hv
  obtain ⟨hol, oa, oc, rfl⟩ := hov.slice
  obtain ⟨-, la, lc, rfl⟩ := hd.slice
  have HP := Lib.hid hp
  generalize hr : holdGo x p (clampL xs) xs.length 0 = res
  have HE := Lib.hid hr
  clear hov hr hp hd
  refine CallS.enter' Try.func93 rfl Try.ntmps93 (by simp) fun f hd hf => ?_
  have f0 := hf 0
  have f1 := hf 1
  simp at f0 f1
  clear hf
  generalize hper : x.per = per at f0 HV
  have HPER := Lib.hid hper
  clear hper
  repeat' (first|(with_reducible first|refine zA ?_|refine zB fun K hK=>?_|refine zC fun K2 hK2=>?_|refine zD ?_|refine zE ?_|refine zF ?_|refine zG ?_|refine zH ?_|refine zI ?_|refine zJ ?_|refine zK ?_|refine zL ?_|refine zM ?_|refine zN ?_|refine zO ?_|refine zP ?_|refine zQ ?_|refine zR ?_|refine zS ?_|refine zT ?_)|((with_reducible refine zU (hK _ _ ?_));clear hK K)|((with_reducible refine zV ?_ ?_ fun K1 K3 d hdst h1 h3=>?_);rfl;exact yB rfl;cases hdst;go_simp)|((with_reducible refine zW fun K1 K3 h1 h3=>?_);go_simp)|((first|refine h1 ?_|refine h3 ?_);clear h1 h3 K1 K3)|((first|refine zX (fun hb=>h1 ?_) (fun hb=>h3 ?_)|refine zX (fun hb=>h3 ?_) (fun hb=>h1 ?_))<;>(clear h1 h3 K1 K3;(try have hb2:=yC hb);(try have hb2:=yD hb);(try have hb2:=yE hb);(try have hb2:=yF hb);(try have hb2:=yG hb)))|(refine fun (K2:_→AHeap→Prop) hK2=>?_)|((with_reducible refine zY ?_ ?_);decide)|((with_reducible first|refine zZ ?_ (fun K hK=>?_)|refine yA ?_ (fun K hK=>?_));(focus go_simp;done);go_simp;refine hK _ _ ?_;clear hK K)|((with_reducible refine yH mixed rfl ?_ 20 fun K0 hK0=>?_);kernel_rfl)|(with_reducible first|exact yI|exact yJ|refine yK ?_|refine yL ?_|refine yM ?_)|((with_reducible first|refine yN ?_ ?_|refine yO ?_ ?_|refine yP ?_ ?_);rfl)|((with_reducible refine yQ ?_ ?_);rfl;refine hK0 _ _ ?_;clear hK0 K0)|((with_reducible refine yR ?_ ?_ ?_ ?_);rfl;rfl;rfl)|((with_reducible refine yS ?_ ?_ ?_ fun K2 hK2=>?_);rfl;rfl;exact yB rfl)|((with_reducible first|refine yT ?_ ?_ ?_ ?_ fun K1 K3 d hdst h1 h3=>?_|refine yU ?_ ?_ ?_ ?_ fun K1 K3 d hdst h1 h3=>?_);rfl;rfl;rfl;exact yB rfl;cases hdst;go_simp)|((with_reducible refine yV ?_ ?_ (fun K2 hK2=>?_) ?_);rfl;exact yB rfl)|((with_reducible refine yW ?_ ?_ ?_ ?_ (fun K2 hK2=>?_) ?_);rfl;exact yB rfl;rfl;(focus go_simp;done))|((with_reducible refine yX ?_ ?_ ?_ (fun K2 hK2=>?_) ?_);rfl;rfl;exact yB rfl)|((with_reducible refine yY ?_ ?_ (fun K2 hK2=>?_) ?_);rfl;rfl)|((with_reducible refine yZ ?_ ?_);(first|rfl|(dsimp only;decide +kernel)))|((with_reducible refine xA ?_ ?_);(focus go_simp;done))|(go_simp;(try go_bits);(try first | ((with_reducible show CallS _ _ _ _ _ _);refine CallS.mono (clamped_e (Ints.ext HI.out (Ext.push _)) hn) ?_; rintro cv H1 ⟨ho, hx⟩; (have HO := Lib.hid ho); (have HX := Lib.hid ((Ext.push (.row [.slice oa x.open_.length oc, .int .i64 per] 118)).trans hx)); (have HG0 : Hid (H1.get H.n = .row [.slice oa x.open_.length oc, .int .i64 per] 118) := Lib.hid ((hx.get H.n (by rw [AHeap.n_push]; omega)).trans (by rw [AHeap.get_push_new]))); (have hn1 : H.n < H1.n := by have := hx.n; rw [AHeap.n_push] at this; omega); (have HCI : Hid (Ints H1 cv (clampL xs)) := Lib.hid (ints_of_own ho (by rw [clampL_length]; omega))); clear ho hx; (obtain ⟨-, ca, cc, rfl⟩ := HCI.out.slice); rw [clampL_length] at HCI HO ⊢));(first|(refine hK2 _ _ ?_ ?_<;>clear hK2 K2)|(refine hK2 _ _ ?_;clear hK2 K2))))
  have HB : Hid (∀ y, y ∈ clampL xs → -1 ≤ y ∧ y ≤ 731) := Lib.hid clampL_in
  have HCL := Lib.hid (clampL_length xs)
  generalize clampL xs = ys at HCI HO HB HE HCL
  have hg0 := HG0.out
  have hc2 : cellsAt H1 H.n 0 2 = some [Value.slice oa x.open_.length oc, .int .i64 per] := by simp [cellsAt, hg0]
  clear hg0
  refine CodeS.loop (fun m f H' => ∃ (k : Nat), k ≤ xs.length ∧ m = xs.length - k ∧ H' = H1 ∧ f.tmp 11 = .int .i64 k ∧ f.tmp 10 = .int .i64 xs.length ∧ f.tmp 9 = .slice ca xs.length cc ∧ f.tmp 1 = .slice ca xs.length cc ∧ f.tmp 2 = .pointer (some ⟨H.n, 0, none⟩) ∧ f.tmp 4 = .bool false ∧ f.defers = [] ∧ Hid (holdGo x p ys (xs.length - k) k = res)) xs.length ?_ ?_
  · exact ⟨0, by simp, by simp, rfl, (by first|(go_simp;done)|(go_simp;go_num;done)|assumption), (by first|(go_simp;done)|(go_simp;go_num;done)|assumption), (by first|(go_simp;done)|(go_simp;go_num;done)|assumption), (by first|(go_simp;done)|(go_simp;go_num;done)|assumption), (by first|(go_simp;done)|(go_simp;go_num;done)|assumption), (by first|(go_simp;done)|(go_simp;go_num;done)|assumption), (by first|(go_simp;done)|(go_simp;go_num;done)|assumption), HE⟩
  clear f0 f1 hd f HE
  rintro m f H' ⟨k, hk2, rfl, rfl, f11, f10, f9, f1, f2, f4, hd, HG⟩
  by_cases hlt : k < xs.length
  · have hlt2 : k < ys.length := by rw [HCL.out]; exact hlt
    obtain ⟨b, o, sp, rfl, hb, hx⟩ := HCI.out.at_ hlt2
    have hgd : ys.getD k 0 = ys[k] := by simp [List.getD_eq_getElem?_getD, hlt2]
    have HLW := Lib.hid (fun (loops : List (Nat × LInfo)) => lowest_s (loops := loops) (k := k) (HV.out.ext HX.out) HCI.out (by omega) HP.out hp1 (fun j hj => by have hjl : j < ys.length := (by omega); rw [List.getD_eq_getElem?_getD, List.getElem?_eq_getElem hjl]; exact HB.out _ (List.getElem_mem hjl)))
    have HNX := Lib.hid (fun (loops : List (Nat × LInfo)) (d : Int) => next_s (loops := loops) (d := d) (HV.out.ext HX.out) (k := k) (by omega))
    have HST : Hid (holdGo x p ys (xs.length - k) k = if nextS (x.at_ k) (lowL p ys k) < ys[k] then false else holdGo x p ys (xs.length - (k + 1)) (k + 1)) := Lib.hid (by
      rw [show xs.length - k = (xs.length - (k + 1)) + 1 by omega, holdGo, hgd]; rfl)
    generalize lowL p ys k = lw at HLW HST
    generalize ys[k] = y at hx HST
    generalize hdd : nextS (x.at_ k) lw = d at HST
    have HDD : Hid (nextS (x.at_ k) lw = d) := Lib.hid hdd
    clear hdd hgd
    repeat' (first|(with_reducible first|refine zA ?_|refine zB fun K hK=>?_|refine zC fun K2 hK2=>?_|refine zD ?_|refine zE ?_|refine zF ?_|refine zG ?_|refine zH ?_|refine zI ?_|refine zJ ?_|refine zK ?_|refine zL ?_|refine zM ?_|refine zN ?_|refine zO ?_|refine zP ?_|refine zQ ?_|refine zR ?_|refine zS ?_|refine zT ?_)|((with_reducible refine zU (hK _ _ ?_));clear hK K)|((with_reducible refine zV ?_ ?_ fun K1 K3 d hdst h1 h3=>?_);rfl;exact yB rfl;cases hdst;go_simp)|((with_reducible refine zW fun K1 K3 h1 h3=>?_);go_simp)|((first|refine h1 ?_|refine h3 ?_);clear h1 h3 K1 K3)|((first|refine zX (fun hb=>h1 ?_) (fun hb=>h3 ?_)|refine zX (fun hb=>h3 ?_) (fun hb=>h1 ?_))<;>(clear h1 h3 K1 K3;(try have hb2:=yC hb);(try have hb2:=yD hb);(try have hb2:=yE hb);(try have hb2:=yF hb);(try have hb2:=yG hb)))|(refine fun (K2:_→AHeap→Prop) hK2=>?_)|((with_reducible refine zY ?_ ?_);decide)|((with_reducible first|refine zZ ?_ (fun K hK=>?_)|refine yA ?_ (fun K hK=>?_));(focus go_simp;done);go_simp;refine hK _ _ ?_;clear hK K)|((with_reducible refine yH mixed rfl ?_ 20 fun K0 hK0=>?_);kernel_rfl)|(with_reducible first|exact yI|exact yJ|refine yK ?_|refine yL ?_|refine yM ?_)|((with_reducible first|refine yN ?_ ?_|refine yO ?_ ?_|refine yP ?_ ?_);rfl)|((with_reducible refine yQ ?_ ?_);rfl;refine hK0 _ _ ?_;clear hK0 K0)|((with_reducible refine yR ?_ ?_ ?_ ?_);rfl;rfl;rfl)|((with_reducible refine yS ?_ ?_ ?_ fun K2 hK2=>?_);rfl;rfl;exact yB rfl)|((with_reducible first|refine yT ?_ ?_ ?_ ?_ fun K1 K3 d hdst h1 h3=>?_|refine yU ?_ ?_ ?_ ?_ fun K1 K3 d hdst h1 h3=>?_);rfl;rfl;rfl;exact yB rfl;cases hdst;go_simp)|((with_reducible refine yV ?_ ?_ (fun K2 hK2=>?_) ?_);rfl;exact yB rfl)|((with_reducible refine yW ?_ ?_ ?_ ?_ (fun K2 hK2=>?_) ?_);rfl;exact yB rfl;rfl;(focus go_simp;done))|((with_reducible refine yX ?_ ?_ ?_ (fun K2 hK2=>?_) ?_);rfl;rfl;exact yB rfl)|((with_reducible refine yY ?_ ?_ (fun K2 hK2=>?_) ?_);rfl;rfl)|((with_reducible refine yZ ?_ ?_);(first|rfl|(dsimp only;decide +kernel)))|((with_reducible refine xA ?_ ?_);(focus go_simp;done))|(go_simp;(try go_bits);(try first | ((with_reducible show CallS _ _ _ _ _ _);refine CallS.mono (HLW.out _) ?_; rintro _ _ ⟨rfl, rfl⟩) | ((with_reducible show CallS _ _ _ _ _ _);refine CallS.mono (HNX.out _ lw) ?_; rintro _ _ ⟨rfl, rfl⟩; rw [HDD.out]));(first|(refine hK2 _ _ ?_ ?_<;>clear hK2 K2)|(refine hK2 _ _ ?_;clear hK2 K2))))
    · refine ⟨?_, HX.out⟩
      rw [← HG.out, HST.out, if_pos hb2]
    · refine Post.round_normal ⟨xs.length - (k + 1), by omega, k + 1, by omega, rfl, rfl, (by first|(go_simp;done)|(go_simp;go_num;done)|assumption), (by first|(go_simp;done)|(go_simp;go_num;done)|assumption), (by first|(go_simp;done)|(go_simp;go_num;done)|assumption), (by first|(go_simp;done)|(go_simp;go_num;done)|assumption), (by first|(go_simp;done)|(go_simp;go_num;done)|assumption), (by first|(go_simp;done)|(go_simp;go_num;done)|assumption), (by first|(go_simp;done)|(go_simp;go_num;done)|assumption), Lib.hid ?_⟩
      rw [← HG.out, HST.out, if_neg (by omega)]
  · repeat' (first|(with_reducible first|refine zA ?_|refine zB fun K hK=>?_|refine zC fun K2 hK2=>?_|refine zD ?_|refine zE ?_|refine zF ?_|refine zG ?_|refine zH ?_|refine zI ?_|refine zJ ?_|refine zK ?_|refine zL ?_|refine zM ?_|refine zN ?_|refine zO ?_|refine zP ?_|refine zQ ?_|refine zR ?_|refine zS ?_|refine zT ?_)|((with_reducible refine zU (hK _ _ ?_));clear hK K)|((with_reducible refine zV ?_ ?_ fun K1 K3 d hdst h1 h3=>?_);rfl;exact yB rfl;cases hdst;go_simp)|((with_reducible refine zW fun K1 K3 h1 h3=>?_);go_simp)|((first|refine h1 ?_|refine h3 ?_);clear h1 h3 K1 K3)|((first|refine zX (fun hb=>h1 ?_) (fun hb=>h3 ?_)|refine zX (fun hb=>h3 ?_) (fun hb=>h1 ?_))<;>(clear h1 h3 K1 K3;(try have hb2:=yC hb);(try have hb2:=yD hb);(try have hb2:=yE hb);(try have hb2:=yF hb);(try have hb2:=yG hb)))|(refine fun (K2:_→AHeap→Prop) hK2=>?_)|((with_reducible refine zY ?_ ?_);decide)|((with_reducible first|refine zZ ?_ (fun K hK=>?_)|refine yA ?_ (fun K hK=>?_));(focus go_simp;done);go_simp;refine hK _ _ ?_;clear hK K)|((with_reducible refine yH mixed rfl ?_ 20 fun K0 hK0=>?_);kernel_rfl)|(with_reducible first|exact yI|exact yJ|refine yK ?_|refine yL ?_|refine yM ?_)|((with_reducible first|refine yN ?_ ?_|refine yO ?_ ?_|refine yP ?_ ?_);rfl)|((with_reducible refine yQ ?_ ?_);rfl;refine hK0 _ _ ?_;clear hK0 K0)|((with_reducible refine yR ?_ ?_ ?_ ?_);rfl;rfl;rfl)|((with_reducible refine yS ?_ ?_ ?_ fun K2 hK2=>?_);rfl;rfl;exact yB rfl)|((with_reducible first|refine yT ?_ ?_ ?_ ?_ fun K1 K3 d hdst h1 h3=>?_|refine yU ?_ ?_ ?_ ?_ fun K1 K3 d hdst h1 h3=>?_);rfl;rfl;rfl;exact yB rfl;cases hdst;go_simp)|((with_reducible refine yV ?_ ?_ (fun K2 hK2=>?_) ?_);rfl;exact yB rfl)|((with_reducible refine yW ?_ ?_ ?_ ?_ (fun K2 hK2=>?_) ?_);rfl;exact yB rfl;rfl;(focus go_simp;done))|((with_reducible refine yX ?_ ?_ ?_ (fun K2 hK2=>?_) ?_);rfl;rfl;exact yB rfl)|((with_reducible refine yY ?_ ?_ (fun K2 hK2=>?_) ?_);rfl;rfl)|((with_reducible refine yZ ?_ ?_);(first|rfl|(dsimp only;decide +kernel)))|((with_reducible refine xA ?_ ?_);(focus go_simp;done))|(go_simp;(try go_bits);(first|(refine hK2 _ _ ?_ ?_<;>clear hK2 K2)|(refine hK2 _ _ ?_;clear hK2 K2))))
    refine ⟨?_, HX.out⟩
    have hr : true = res := by rw [← HG.out, show xs.length - k = 0 by omega]; rfl
    rw [hr]
end Go.Proofs.Try
namespace Go.Proofs.Try
open Go Go.Am Go.RowKit Go.Co
/-! Floors and ceilings. -/
theorem clampL_get (xs : List Int) {i : Nat} (hi : i < xs.length) : (clampL xs).getD i 0 = clampI (xs.getD i 0) := by
  simp [clampL, List.getD_eq_getElem?_getD, hi]
def Course.holds (x : Course) (p : Nat) (fl : List Int) : Bool := holdGo x p (clampL fl) fl.length 0
theorem Course.holds_le {x : Course} {p : Nat} {fl g : List Int} (h : x.ord) (hp : 1 ≤ p) (hf : x.holds p fl = true) (hl : fl.length ≤ g.length) (hg : x.fit p g) : ∀ i, i < fl.length → fl.getD i 0 ≤ g.getD i 0 := by
  intro i hi
  have h1 := floors_ok (op := x.op) hp (fun i f => x.nx_ok h i f) (clampL fl) g fl.length (fun j hj => (holdGo_iff _ _).1 hf j (Nat.zero_le _) (by omega)) (fun j hj => hg.2 j (by omega)) i hi
  rw [clampL_get fl hi] at h1
  have := x.fit_in h hg i (by omega)
  simp only [clampI] at h1
  omega
theorem clampL_id {g : List Int} (h : ∀ i, i < g.length → -1 ≤ g.getD i 0 ∧ g.getD i 0 ≤ 731) : clampL g = g := by
  refine List.ext_getElem (by rw [clampL_length]) fun i h1 h2 => ?_
  have := h i h2
  have h3 := clampL_get g h2
  rw [List.getD_eq_getElem?_getD, List.getElem?_eq_getElem h1, List.getD_eq_getElem?_getD, List.getElem?_eq_getElem h2] at h3
  rw [List.getD_eq_getElem?_getD, List.getElem?_eq_getElem h2] at this
  simp only [Option.getD_some] at h3 this
  rw [h3]; simp only [clampI]; omega
theorem Course.early_to {x : Course} {p : Nat} (h : x.ord) (hp : 1 ≤ p) : FitTo x.op p (x.early p 0) (x.early p 0).length ∧ (x.early p 0).length ≤ x.open_.length :=
  ⟨(early_ok (op := x.op) hp (fun i f => x.nx_ok h i f) x.open_.length (frm := 0)).2.1, (early_ok (op := x.op) hp (fun i f => x.nx_ok h i f) x.open_.length (frm := 0)).1⟩
theorem Course.early_in0 {x : Course} {p : Nat} (h : x.ord) (hp : 1 ≤ p) : ∀ i, i < (x.early p 0).length → 0 ≤ (x.early p 0).getD i 0 ∧ (x.early p 0).getD i 0 ≤ 730 := fun i hi => x.op_in h i _ ((x.early_to h hp).1 i hi).1
theorem Course.early_nx {x : Course} {p : Nat} (h : x.ord) (hp : 1 ≤ p) {j : Nat} (hj : j < (x.early p 0).length) : (x.early p 0).getD j 0 ≤ x.nx j (lowL p (x.early p 0) j) := by
  obtain ⟨hft, hl⟩ := x.early_to h hp
  have hin := x.early_in0 (p := p) h hp
  have hE := early_ok (op := x.op) hp (fun i f => x.nx_ok h i f) x.open_.length (frm := 0)
  generalize hd : x.nx j (lowL p (x.early p 0) j) = d
  rcases x.nx_ok h j (lowL p (x.early p 0) j) with ⟨h1, _⟩ | ⟨h1, h2, h3, h4⟩
  · have := (hin j hj).2; omega
  · rw [hd] at h1 h2 h3
    have htl : ((x.early p 0).take j).length = j := by simp; omega
    have e0 : ((x.early p 0).take j ++ [d]).getD j 0 = d := by
      have := @getD_snoc ((x.early p 0).take j) d
      rw [htl] at this; exact this
    have hfit : FitTo x.op p ((x.early p 0).take j ++ [d]) (j + 1) := by
      intro i hi
      have hlow : lowL p ((x.early p 0).take j ++ [d]) i = lowL p (x.early p 0) i := lowL_same hp fun k hk => by
        rw [getD_app (by omega)]
        simp [List.getD_eq_getElem?_getD, show k < j by omega]
      rw [hlow]
      by_cases hij : i = j
      · subst hij
        rw [e0]; exact ⟨h3, h2⟩
      · have e : ((x.early p 0).take j ++ [d]).getD i 0 = (x.early p 0).getD i 0 := by
          rw [getD_app (by omega)]
          simp [List.getD_eq_getElem?_getD, show i < j by omega]
        rw [e]; exact hft i (by omega)
    have := (hE.2.2.2 ((x.early p 0).take j ++ [d]) (j + 1) (by omega) hfit (fun i hi => (x.op_in h i _ (hfit i hi).1).1)).2 j (by omega)
    rw [e0] at this
    exact this
theorem Course.early_holds {x : Course} {p : Nat} (h : x.ord) (hp : 1 ≤ p) : x.holds p (x.early p 0) = true := by
  have hin := x.early_in0 (p := p) h hp
  rw [Course.holds, clampL_id (fun i hi => by have := hin i hi; omega), holdGo_iff]
  exact fun j _ hj => x.early_nx h hp (by omega)
theorem early_stop {nx : Nat → Int → Int} {p : Nat} {frm : Int} : ∀ (k : Nat) (days : List Int), (Co.early nx p frm k days).length < days.length + k → nx (Co.early nx p frm k days).length (max frm (lowL p (Co.early nx p frm k days) (Co.early nx p frm k days).length)) = 731
  | 0, days, h => by simp [Co.early] at h
  | k + 1, days, h => by
    rw [Co.early] at h ⊢
    split
    · assumption
    · rename_i h1
      rw [if_neg h1] at h
      exact early_stop k _ (by simp; omega)
/-- What shows that nothing fits. -/
theorem Course.clash_holds {x : Course} {p : Nat} {fin : Int} (h : x.ord) (hp : 1 ≤ p) (hm : x.made p = false) (hf : 0 ≤ fin ∧ fin ≤ 730) : x.holds p (x.early p 0 ++ [fin + 1]) = true ∧ (x.early p 0 ++ [fin + 1]).length ≤ x.open_.length := by
  obtain ⟨hft, hl⟩ := x.early_to h hp
  have hin := x.early_in0 (p := p) h hp
  have hlt : (x.early p 0).length < x.open_.length := by
    have : (x.early p 0).length ≠ x.open_.length := by simpa [Course.made] using hm
    omega
  refine ⟨?_, by simp; omega⟩
  have hlen : (x.early p 0 ++ [fin + 1]).length = (x.early p 0).length + 1 := by simp
  rw [Course.holds, clampL_id, holdGo_iff]
  · intro j _ hj
    rw [lowL_app hp (by omega)]
    rcases Nat.lt_or_ge j (x.early p 0).length with h1 | h1
    · rw [getD_app h1]; exact x.early_nx h hp h1
    · have : j = (x.early p 0).length := by omega
      subst this
      rw [getD_snoc]
      have hs := early_stop (nx := x.nx) (p := p) (frm := 0) x.open_.length [] (by rw [List.length_nil, Nat.zero_add]; exact hlt)
      have h0 : 0 ≤ lowL p (x.early p 0) (x.early p 0).length := by
        unfold lowL
        split
        · split
          · have := hin ((x.early p 0).length - 1) (by omega); omega
          · have := hin ((x.early p 0).length - p)
            by_cases h9 : (x.early p 0).length = 0
            · omega
            · omega
        · split
          · exact (hin ((x.early p 0).length - 1) (by omega)).1
          · exact Int.le_refl 0
      change x.nx (x.early p 0).length (max 0 (lowL p (x.early p 0) (x.early p 0).length)) = 731 at hs
      rw [show max 0 (lowL p (x.early p 0) (x.early p 0).length) = lowL p (x.early p 0) (x.early p 0).length by omega] at hs
      omega
  · intro i hi
    rcases Nat.lt_or_ge i (x.early p 0).length with h1 | h1
    · rw [getD_app h1]; have := hin i h1; omega
    · have : i = (x.early p 0).length := by omega
      subst this
      rw [getD_snoc]; omega
/-- Floors that are held, the last one behind the end: nothing fits. -/
theorem Course.not_made {x : Course} {p : Nat} {fin : Int} {fl : List Int} (h : x.ord) (hp : 1 ≤ p) (hf : x.holds p fl = true) (hl : fl.length ≤ x.open_.length) (h1 : 1 ≤ fl.length) (hop : ∀ i d, i < x.open_.length → x.op i d = true → d ≤ fin) (hg : fin < fl.getD (fl.length - 1) 0) : x.made p = false := by
  rw [Bool.eq_false_iff]
  intro hm
  have hfit := x.early_fit h hp hm
  have h2 := x.holds_le h hp hf (by rw [hfit.1]; exact hl) hfit (fl.length - 1) (by omega)
  have h3 := hop _ _ (by omega) (hfit.2 (fl.length - 1) (by rw [hfit.1]; omega)).1
  omega
def Course.ceils (x : Course) (p : Nat) (ce : List Int) : Bool := x.mir.holds p (flipD (clampL ce))
theorem Course.ceils_le {x : Course} {p : Nat} {ce g : List Int} (h : x.ord) (hp : 1 ≤ p) (hf : x.ceils p ce = true) (hl : ce.length = g.length) (hg : x.fit p g) : ∀ i, i < g.length → g.getD i 0 ≤ ce.getD i 0 := by
  intro i hi
  have hcl : (flipD (clampL ce)).length = g.length := by rw [flipD_len, clampL_length]; exact hl
  have h1 := x.mir.holds_le (Course.mir_ord h) hp hf (by rw [hcl, flipD_len]; omega) (x.mir_fit h hp hg)
  have h2 := flip_le (a := flipD (clampL ce)) hcl (fun j hj => h1 j (by omega)) i hi
  rw [flipD_flip, clampL_get ce (by omega)] at h2
  have := x.fit_in h hg i hi
  simp only [clampI] at h2
  omega
theorem Course.late_ceils {x : Course} {p : Nat} (h : x.ord) (hp : 1 ≤ p) (hm : x.made p = true) : x.ceils p (x.late p) = true := by
  have hf := x.late_fit h hp hm
  have h1 := clampL_id (fun i hi => by have := x.fit_in h hf i hi; omega)
  rw [Course.ceils, h1, Course.late, flipD_flip]
  exact x.mir.early_holds (Course.mir_ord h) hp
end Go.Proofs.Try
namespace Go.Proofs.Try
open Go Go.Am Go.RowKit Go.Co

/-! The latest days, line by line from the last one: pure. -/
theorem Course.late_len_made {x : Course} {p : Nat} (h : x.ord) (hp : 1 ≤ p) (hm : x.made p = true) : (x.late p).length = x.open_.length := (x.late_fit h hp hm).1
theorem Course.late_get {x : Course} {p : Nat} (h : x.ord) (hp : 1 ≤ p) (hm : x.made p = true) {i : Nat} (hi : i < x.open_.length) : (x.late p).getD i 0 = 730 - (x.mir.early p 0).getD (x.open_.length - 1 - i) 0 := by
  have hl : (x.mir.early p 0).length = x.open_.length := by rw [← flipD_len, ← Course.late, x.late_len_made h hp hm]
  rw [Course.late, flipD_get (by omega), hl]
theorem Course.late_top {x : Course} {p : Nat} (h : x.ord) (hp : 1 ≤ p) (hm : x.made p = true) {i : Nat} (hi : i < x.open_.length) {e : Int} (ho : x.op i e = true) (h1 : i + 1 < x.open_.length → e ≤ (x.late p).getD (i + 1) 0) (h2 : i + p < x.open_.length → e + 1 ≤ (x.late p).getD (i + p) 0) : e ≤ (x.late p).getD i 0 := by
  have hl : (x.mir.early p 0).length = x.open_.length := by rw [← flipD_len, ← Course.late, x.late_len_made h hp hm]
  have hin := x.op_in h i e ho
  have hmo : x.mir.op (x.open_.length - 1 - i) (730 - e) = true := by
    rw [x.mir_op (by omega), show x.open_.length - 1 - (x.open_.length - 1 - i) = i by omega, show (730 : Int) - (730 - e) = e by omega]; exact ho
  have hlow : lowL p (x.mir.early p 0) (x.open_.length - 1 - i) ≤ 730 - e := by
    have g1 : 1 ≤ x.open_.length - 1 - i → (x.mir.early p 0).getD (x.open_.length - 1 - i - 1) 0 ≤ 730 - e := fun hh => by
      have := h1 (by omega)
      rw [x.late_get h hp hm (by omega), show x.open_.length - 1 - (i + 1) = x.open_.length - 1 - i - 1 by omega] at this
      omega
    have g2 : p ≤ x.open_.length - 1 - i → (x.mir.early p 0).getD (x.open_.length - 1 - i - p) 0 + 1 ≤ 730 - e := fun hh => by
      have := h2 (by omega)
      rw [x.late_get h hp hm (by omega), show x.open_.length - 1 - (i + p) = x.open_.length - 1 - i - p by omega] at this
      omega
    unfold lowL
    split
    · rename_i g
      have := g2 g
      split
      · rename_i g'; have := g1 g'; omega
      · omega
    · split
      · rename_i g'; exact g1 g'
      · omega
  have hnx := x.mir.early_nx (Course.mir_ord h) hp (j := x.open_.length - 1 - i) (by omega)
  rw [x.late_get h hp hm hi]
  rcases x.mir.nx_ok (Course.mir_ord h) (x.open_.length - 1 - i) (lowL p (x.mir.early p 0) (x.open_.length - 1 - i)) with ⟨_, g⟩ | ⟨_, _, _, g⟩
  · have := g (730 - e) hlow
    rw [Course.op] at hmo; rw [hmo] at this; cases this
  · have := g (730 - e) hlow (by rw [Course.op] at hmo; exact hmo)
    omega
/-- What the latest days are bounded by. -/
theorem Course.late_bound {x : Course} {p : Nat} (h : x.ord) (hp : 1 ≤ p) (hm : x.made p = true) {i : Nat} (hi : i < x.open_.length) : x.op i ((x.late p).getD i 0) = true ∧ (i + 1 < x.open_.length → (x.late p).getD i 0 ≤ (x.late p).getD (i + 1) 0) ∧ (i + p < x.open_.length → (x.late p).getD i 0 + 1 ≤ (x.late p).getD (i + p) 0) := by
  have hf := x.late_fit h hp hm
  have hin := x.fit_in h hf
  refine ⟨(hf.2 i (by rw [hf.1]; exact hi)).1, fun hh => ?_, fun hh => ?_⟩
  · have := (lowL_iff (by have := hin (i + 1) (by rw [hf.1]; exact hh); omega)).1 (hf.2 (i + 1) (by rw [hf.1]; exact hh)).2
    have := this.1 (by omega)
    simpa using this
  · have := (lowL_iff (by have := hin (i + p) (by rw [hf.1]; exact hh); omega)).1 (hf.2 (i + p) (by rw [hf.1]; exact hh)).2
    have := this.2 (by omega)
    simpa using this
theorem rowCell {H : AHeap} {b : Nat} {L : List Int} {k : Nat} (h : H.get b = .row (L.map (Value.int .i64)) 3) (hk : k < L.length) : cellAt H b k = some (.int .i64 (L.getD k 0)) := by
  simp [cellAt, h, List.getD_eq_getElem?_getD, hk]
/-- What the latest days of a copy that can have been made are. -/
structure LateOk (s : Sheet) (c : Copy) (lt : List Int) (n p : Nat) : Prop where
  len : lt.length = n
  at_ : ∀ i, i < n → (hasOn s i (lt.getD i 0)).offers (c.words.getD i 0) = true ∧ c.beg ≤ lt.getD i 0 ∧ lt.getD i 0 ≤ c.fin
  next : ∀ i, i + 1 < n → lt.getD i 0 ≤ lt.getD (i + 1) 0
  per : ∀ i, i + p < n → lt.getD i 0 + 1 ≤ lt.getD (i + p) 0
  top : ∀ i e, i < n → c.beg ≤ e → e ≤ c.fin → (hasOn s i e).offers (c.words.getD i 0) = true → (i + 1 < n → e ≤ lt.getD (i + 1) 0) → (i + p < n → e + 1 ≤ lt.getD (i + p) 0) → e ≤ lt.getD i 0
theorem late_ok {s : Sheet} {c : Copy} (he : errCopy s c = 0) (hm : (courseOf s c).made c.per.toNat = true) : LateOk s c ((courseOf s c).late c.per.toNat) c.words.length c.per.toNat := by
  have hor := courseOf_ord he
  have hp : 1 ≤ c.per.toNat := by have := (errCopy_ok he).2.2.2.2.2.2.1; omega
  have hl := courseOf_len s c
  have hop : ∀ i d, i < c.words.length → ((courseOf s c).op i d = true ↔ (c.beg ≤ d ∧ d ≤ c.fin) ∧ (hasOn s i d).offers (c.words.getD i 0) = true) := fun i d hi => by
    rw [Course.op, courseOf_ins he hi]; simp
  refine ⟨by rw [(courseOf s c).late_len_made hor hp hm, hl], fun i hi => ?_, fun i hi => ?_, fun i hi => ?_, fun i e hi h1 h2 h3 h4 h5 => ?_⟩
  · have h := ((courseOf s c).late_bound hor hp hm (i := i) (by omega)).1
    rw [hop _ _ hi] at h
    exact ⟨h.2, h.1.1, h.1.2⟩
  · exact ((courseOf s c).late_bound hor hp hm (i := i) (by omega)).2.1 (by omega)
  · exact ((courseOf s c).late_bound hor hp hm (i := i) (by omega)).2.2 (by omega)
  · refine (courseOf s c).late_top hor hp hm (i := i) (by omega) ((hop i e hi).2 ⟨⟨h1, h2⟩, h3⟩) (fun h => h4 (by omega)) (fun h => h5 (by omega))
theorem own_posn {H : AHeap} {base : Nat} {v : Value} {L : List Int} {n : Nat} (h : Own H base v 3 1 (L.map (Value.int .i64))) (hn : L.length = n) (h0 : 0 < n) : ∃ b, v = .slice (some ⟨b, 0, none⟩) n n ∧ base ≤ b ∧ b < H.n ∧ H.get b = .row (L.map (Value.int .i64)) 3 := by
  rcases h with ⟨_, h2⟩ | ⟨b, m, h1, h2, h3, h4, h5, h6⟩
  · have : L = [] := by simpa using h2
    rw [this] at hn; simp at hn; omega
  · have : m = n := by simp at h5; omega
    subst this
    exact ⟨b, h1, h2, h3, h4⟩
theorem ends_n {s : Sheet} {c : Copy} (h : errExt s c = 0) : errCopy s c = 0 ∧ (courseOf s c).made c.per.toNat = true ∧ firstL s c = (courseOf s c).early c.per.toNat 0 ∧ lastL s c = (courseOf s c).late c.per.toNat ∧ (firstL s c).length = s.words.length ∧ (lastL s c).length = s.words.length ∧ 1 ≤ s.words.length ∧ s.words.length ≤ 40 := by
  have h0 : errCopy s c = 0 := by
    unfold errExt at h
    split at h
    · rename_i h1; exact absurd h h1
    · rename_i h1; simpa using h1
  have hm : (courseOf s c).made c.per.toNat = true := by
    rw [errExt, if_neg (by simp [h0])] at h
    split at h
    · rename_i h1; exact h1
    · cases h
  obtain ⟨he0, hlen, -, -, -, -, hp1, -⟩ := errCopy_ok h0
  have hw := win_iff.1 (err_ok he0).2.1
  have hl := courseOf_len s c
  have e1 : firstL s c = (courseOf s c).early c.per.toNat 0 := by rw [firstL, if_pos h]
  have e2 : lastL s c = (courseOf s c).late c.per.toNat := by rw [lastL, if_pos h]
  refine ⟨h0, hm, e1, e2, ?_, ?_, by omega, by omega⟩
  · rw [e1, ((courseOf s c).early_fit (courseOf_ord h0) (by omega) hm).1]; omega
  · rw [e2, (courseOf s c).late_len_made (courseOf_ord h0) (by omega) hm]; omega
end Go.Proofs.Try
namespace Go.Proofs.Try
open Go Go.Am Go.RowKit Go.Co
set_option maxRecDepth 100000

/-! The changes that a closure accepts, by their IDs. -/
def idsL (s : Sheet) (acc : Alt → Bool) : List Int := sortL ((s.alts.filter acc).map Alt.id)

set_option maxHeartbeats 2000000 in
theorem idsOf_o {loops : List (Nat × LInfo)} {H : AHeap} {sv : Value} {s : Sheet} {g : FuncId} {caps : Array Value} {acc : Alt → Bool} (hs : SheetV H sv s) (hn : s.alts.length ≤ 12) (hok : okFn Try.prog g = true) (hacc : ∀ (loops : List (Nat × LInfo)) (H' : AHeap) (a : Alt), Ext H H' → a ∈ s.alts → CallS Try.prog loops g (a.val :: caps.toList) H' fun r H'' => r = .bool (acc a) ∧ H'' = H') : CallS Try.prog loops 72 [sv, .func (.func g) #[] caps] H fun r H' => Own H' H.n r 3 1 ((idsL s acc).map (Value.int .i64)) ∧ Ext H H' := by
  obtain ⟨wv, av, rfl, hw, ha⟩ := hs
  obtain ⟨hwl, wa, wc, rfl⟩ := hw.slice
  obtain ⟨hal, aa, ac, rfl⟩ := ha.slice
  have HA := Lib.hid ha
  have HACC := Lib.hid hacc
  clear hw ha hacc
  refine CallS.enter' Try.func72 rfl Try.ntmps72 (by simp) fun f hd hf => ?_
  have f0 := hf 0
  have f1 := hf 1
  simp at f0 f1
  clear hf
  have HRES : Hid (((s.alts.take 0).filter acc).map Alt.id = []) := Lib.hid rfl
  repeat' (first|(with_reducible first|refine zA ?_|refine zB fun K hK=>?_|refine zC fun K2 hK2=>?_|refine zD ?_|refine zE ?_|refine zF ?_|refine zG ?_|refine zH ?_|refine zI ?_|refine zJ ?_|refine zK ?_|refine zL ?_|refine zM ?_|refine zN ?_|refine zO ?_|refine zP ?_|refine zQ ?_|refine zR ?_|refine zS ?_|refine zT ?_)|((with_reducible refine zU (hK _ _ ?_));clear hK K)|((with_reducible refine zV ?_ ?_ fun K1 K3 d hdst h1 h3=>?_);rfl;exact yB rfl;cases hdst;go_simp)|((with_reducible refine zW fun K1 K3 h1 h3=>?_);go_simp)|((first|refine h1 ?_|refine h3 ?_);clear h1 h3 K1 K3)|((first|refine zX (fun hb=>h1 ?_) (fun hb=>h3 ?_)|refine zX (fun hb=>h3 ?_) (fun hb=>h1 ?_))<;>(clear h1 h3 K1 K3;(try have hb2:=yC hb);(try have hb2:=yD hb);(try have hb2:=yE hb);(try have hb2:=yF hb);(try have hb2:=yG hb)))|(refine fun (K2:_→AHeap→Prop) hK2=>?_)|((with_reducible refine zY ?_ ?_);decide)|((with_reducible first|refine zZ ?_ (fun K hK=>?_)|refine yA ?_ (fun K hK=>?_));(focus go_simp;done);go_simp;refine hK _ _ ?_;clear hK K)|(go_simp;(try go_bits);refine hK2 _ _ ?_;clear hK2 K2))
  refine CodeS.loop (fun m f H' => ∃ (k : Nat) (v : Value) (l : List Int), k ≤ s.alts.length ∧ m = s.alts.length - k ∧ f.tmp 11 = .int .i64 k ∧ f.tmp 10 = .int .i64 (s.alts.length : Nat) ∧ f.tmp 9 = .slice aa s.alts.length ac ∧ f.tmp 1 = .func (.func g) #[] caps ∧ f.tmp 5 = v ∧ f.defers = [] ∧ Hid (((s.alts.take k).filter acc).map Alt.id = l) ∧ Hid (l.length ≤ k) ∧ H.n < H'.n ∧ Hid (Ext H H') ∧ Hid (Own H' (H.n + 1) v 3 1 (l.map (Value.int .i64)))) s.alts.length ?_ ?_
  · exact ⟨0, .slice none 0 0, [], by simp, by simp, (by first|(go_simp;done)|(go_simp;go_num;done)|assumption), (by first|(go_simp;done)|(go_simp;go_num;done)|assumption), (by first|(go_simp;done)|(go_simp;go_num;done)|assumption), (by first|(go_simp;done)|(go_simp;go_num;done)|assumption), (by first|(go_simp;done)|(go_simp;go_num;done)|assumption), (by first|(go_simp;done)|(go_simp;go_num;done)|assumption), Lib.hid rfl, Lib.hid (by simp), by rw [AHeap.n_push]; omega, Lib.hid (Ext.push _), Lib.hid Own.nil⟩
  clear f0 f1 hd f HRES
  rintro m f H' ⟨k, v, l, hk, rfl, f11, f10, f9, f1, f5, hd, HG, HLE, hn1, HX, HO⟩
  by_cases hlt : k < s.alts.length
  · obtain ⟨b, o, sp, rfl, hb, hx6, -⟩ := (HA.out.ext HX.out).at_ hlt
    have hm : s.alts[k] ∈ s.alts := List.getElem_mem hlt
    have hac := fun (loops : List (Nat × LInfo)) (H2 : AHeap) (hx : Ext H H2) => HACC.out loops H2 s.alts[k] hx hm
    have HT : Hid (((s.alts.take (k + 1)).filter acc).map Alt.id = l ++ if acc s.alts[k] then [s.alts[k].id] else []) := Lib.hid (by
      rw [List.take_succ_eq_append_getElem hlt, List.filter_append, List.map_append, HG.out]
      cases hcc : acc s.alts[k] <;> simp [List.filter, hcc])
    generalize acc s.alts[k] = bb at hac HT
    generalize s.alts[k] = a at hac HT hx6 hm
    have HAC := Lib.hid hac
    clear hac hm
    obtain ⟨i1, i2, i3, i4, i5, i6⟩ := a
    have hx6' : cellsAt H' b (o + k * 6) 6 = some [.int .i64 i1, .int .i64 i2, .int .i64 i3, .int .i64 i4, .int .i64 i5, .int .i64 i6] := hx6
    clear hx6
    have hbig : ((l.map (Value.int .i64)).length + 1) * max 8 1 ≤ 1073741824 := by have := HLE.out; simp; omega
    have HBIG := Lib.hid hbig
    clear hbig
    have hv := HO.out
    repeat' (first|(with_reducible first|refine zA ?_|refine zB fun K hK=>?_|refine zC fun K2 hK2=>?_|refine zD ?_|refine zE ?_|refine zF ?_|refine zG ?_|refine zH ?_|refine zI ?_|refine zJ ?_|refine zK ?_|refine zL ?_|refine zM ?_|refine zN ?_|refine zO ?_|refine zP ?_|refine zQ ?_|refine zR ?_|refine zS ?_|refine zT ?_)|((with_reducible refine zU (hK _ _ ?_));clear hK K)|((with_reducible refine zV ?_ ?_ fun K1 K3 d hdst h1 h3=>?_);rfl;exact yB rfl;cases hdst;go_simp)|((with_reducible refine zW fun K1 K3 h1 h3=>?_);go_simp)|((first|refine h1 ?_|refine h3 ?_);clear h1 h3 K1 K3)|((first|refine zX (fun hb=>h1 ?_) (fun hb=>h3 ?_)|refine zX (fun hb=>h3 ?_) (fun hb=>h1 ?_))<;>(clear h1 h3 K1 K3;(try have hb2:=yC hb);(try have hb2:=yD hb);(try have hb2:=yE hb);(try have hb2:=yF hb);(try have hb2:=yG hb)))|(refine fun (K2:_→AHeap→Prop) hK2=>?_)|((with_reducible refine zY ?_ ?_);decide)|((with_reducible first|refine zZ ?_ (fun K hK=>?_)|refine yA ?_ (fun K hK=>?_));(focus go_simp;done);go_simp;refine hK _ _ ?_;clear hK K)|(go_simp;(try go_bits);(try first | ((with_reducible show CallS _ _ _ _ _ _);refine CallS.mono (HAC.out _ _ (HX.out.push' _)) ?_; rintro _ _ ⟨rfl, h9⟩; rw [h9]; clear h9) | ((refine one_k el22 sz3 ze3 rfl (by decide) (by decide) rfl rfl ?_); go_simp) | ((refine append_k2 el22 sz3 by3 ze3 rfl (by decide) (HO.out.ext ((Ext.push _).push' _)) (srcCells_new rfl) (by decide) rfl (by rw [List.all_append, oneV_list_int]; rfl) HBIG.out (by simp only [AHeap.n_push]; omega) fun v2 H4 ho4 hg4 => ?_); (have HO4 := Lib.hid ho4); (have HG4 := Lib.hid hg4); clear ho4 hg4; go_simp));refine hK2 _ _ ?_;clear hK2 K2))
    · have hcc : bb = true := hb
      have hx4 := HG4.out.ext (HO.out.ext ((Ext.push _).push' _)) (by omega) ((HX.out.push' _).push' _)
      refine Post.round_normal ⟨s.alts.length - (k + 1), by omega, k + 1, v2, l ++ [i1], by omega, rfl, (by first|(go_simp;done)|(go_simp;go_num;done)|assumption), (by first|(go_simp;done)|(go_simp;go_num;done)|assumption), (by first|(go_simp;done)|(go_simp;go_num;done)|assumption), (by first|(go_simp;done)|(go_simp;go_num;done)|assumption), (by first|(go_simp;done)|(go_simp;go_num;done)|assumption), (by first|(go_simp;done)|(go_simp;go_num;done)|assumption), Lib.hid (by rw [HT.out, if_pos hcc]), Lib.hid (by have := HLE.out; simp; omega), ?_, Lib.hid hx4, Lib.hid ?_⟩
      · have := HG4.out.1; simp only [AHeap.n_push] at this; omega
      · rw [List.map_append]; exact HO4.out.mono (by simp only [AHeap.n_push]; omega)
    · have hcc : bb = false := hb
      exact Post.round_normal ⟨s.alts.length - (k + 1), by omega, k + 1, v, l, by omega, rfl, (by first|(go_simp;done)|(go_simp;go_num;done)|assumption), (by first|(go_simp;done)|(go_simp;go_num;done)|assumption), (by first|(go_simp;done)|(go_simp;go_num;done)|assumption), (by first|(go_simp;done)|(go_simp;go_num;done)|assumption), (by first|(go_simp;done)|(go_simp;go_num;done)|assumption), (by first|(go_simp;done)|(go_simp;go_num;done)|assumption), Lib.hid (by rw [HT.out, hcc]; simp), Lib.hid (by have := HLE.out; omega), by rw [AHeap.n_push]; omega, Lib.hid (HX.out.push' _), Lib.hid (HO.out.ext (Ext.push _))⟩
  · have hke : k = s.alts.length := by omega
    have HR : Hid ((s.alts.filter acc).map Alt.id = l) := Lib.hid (by rw [← HG.out, hke, List.take_length])
    have hl12 : l.length ≤ 12 := by have := HLE.out; omega
    repeat' (first|(with_reducible first|refine zA ?_|refine zB fun K hK=>?_|refine zC fun K2 hK2=>?_|refine zD ?_|refine zE ?_|refine zF ?_|refine zG ?_|refine zH ?_|refine zI ?_|refine zJ ?_|refine zK ?_|refine zL ?_|refine zM ?_|refine zN ?_|refine zO ?_|refine zP ?_|refine zQ ?_|refine zR ?_|refine zS ?_|refine zT ?_)|((with_reducible refine zU (hK _ _ ?_));clear hK K)|((with_reducible refine zV ?_ ?_ fun K1 K3 d hdst h1 h3=>?_);rfl;exact yB rfl;cases hdst;go_simp)|((with_reducible refine zW fun K1 K3 h1 h3=>?_);go_simp)|((first|refine h1 ?_|refine h3 ?_);clear h1 h3 K1 K3)|((first|refine zX (fun hb=>h1 ?_) (fun hb=>h3 ?_)|refine zX (fun hb=>h3 ?_) (fun hb=>h1 ?_))<;>(clear h1 h3 K1 K3;(try have hb2:=yC hb);(try have hb2:=yD hb);(try have hb2:=yE hb);(try have hb2:=yF hb);(try have hb2:=yG hb)))|(refine fun (K2:_→AHeap→Prop) hK2=>?_)|((with_reducible refine zY ?_ ?_);decide)|((with_reducible first|refine zZ ?_ (fun K hK=>?_)|refine yA ?_ (fun K hK=>?_));(focus go_simp;done);go_simp;refine hK _ _ ?_;clear hK K)|(go_simp;(try go_bits);(try first | ((with_reducible show CallS _ _ _ _ _ _);refine CallS.mono (sort_o HO.out hl12) ?_; rintro _ H1 ⟨rfl, h1, h2, h3⟩; (have HO1 := Lib.hid h2); (have HX1 := Lib.hid (show Ext H H1 from ⟨by have := HX.out.n; omega, fun i hi => (h3 i (by omega)).trans (HX.out.get i hi)⟩)); clear h1 h2 h3));refine hK2 _ _ ?_;clear hK2 K2))
    refine ⟨?_, HX1.out⟩
    rw [idsL, HR.out]
    exact HO1.out.mono (by omega)
end Go.Proofs.Try
namespace Go.Proofs.Try
open Go Go.Am Go.RowKit Go.Co
set_option maxRecDepth 100000

/-! The extents of two copies. -/
def ExtO (H : AHeap) (base : Nat) (v : Value) (s : Sheet) (c : Copy) : Prop := ∃ oa on oc pi fa fn la ln, v = .agg #[.slice oa on oc, .int .i64 pi, .slice fa fn fn, .slice la ln ln] ∧ Own H base (.slice fa fn fn) 3 1 ((firstL s c).map (Value.int .i64)) ∧ Own H base (.slice la ln ln) 3 1 ((lastL s c).map (Value.int .i64))
theorem ExtO.ext {H H' : AHeap} {base : Nat} {v : Value} {s : Sheet} {c : Copy} (h : ExtO H base v s c) (hx : Ext H H') : ExtO H' base v s c := by
  obtain ⟨oa, on, oc, pi, fa, fn, la, ln, rfl, h1, h2⟩ := h
  exact ⟨oa, on, oc, pi, fa, fn, la, ln, rfl, h1.ext hx, h2.ext hx⟩
theorem extentOf_x {loops : List (Nat × LInfo)} {H : AHeap} {sv cv : Value} {s : Sheet} {c : Copy} (hs : SheetV H sv s) (hc : CopyV H cv c) : CallS Try.prog loops 71 [sv, cv] H fun r H' => (∃ ev, r = .tuple #[ev, .int .i64 (errExt s c)] ∧ ExtO H' H.n ev s c) ∧ Ext H H' :=
  CallS.mono (extentOf_o hs hc) fun _ _ ⟨⟨oa, on, oc, pi, fv, lv, h1, h2, h3, _⟩, h5⟩ => by
    obtain ⟨fa, fn, rfl⟩ := own_slice h2
    obtain ⟨la, ln, rfl⟩ := own_slice h3
    exact ⟨⟨_, h1, oa, on, oc, pi, fa, fn, la, ln, rfl, h2, h3⟩, h5⟩
def errExts (s : Sheet) (c d : Copy) : Int := if errCopy s c ≠ 0 then errCopy s c else if errCopy s d ≠ 0 then errCopy s d else if errExt s c ≠ 0 then errExt s c else errExt s d

theorem errExts_ok {s : Sheet} {c d : Copy} (h : errExts s c d = 0) : errExt s c = 0 ∧ errExt s d = 0 := by
  unfold errExts at h
  split at h
  · rename_i h1; exact absurd h h1
  · split at h
    · rename_i h1; exact absurd h h1
    · split at h
      · rename_i h1; exact absurd h h1
      · rename_i h1; exact ⟨by simpa using h1, h⟩
set_option maxHeartbeats 2000000 in
theorem extentsOf_x {loops : List (Nat × LInfo)} {H : AHeap} {sv cv dv : Value} {s : Sheet} {c d : Copy} (hs : SheetV H sv s) (hc : CopyV H cv c) (hdv : CopyV H dv d) : CallS Try.prog loops 80 [sv, cv, dv] H fun r H' => (∃ oa on oc pi fa fn la ln oa' on' oc' pi' fa' fn' la' ln', r = .tuple #[.agg #[.slice oa on oc, .int .i64 pi, .slice fa fn fn, .slice la ln ln], .agg #[.slice oa' on' oc', .int .i64 pi', .slice fa' fn' fn', .slice la' ln' ln'], .int .i64 (errExts s c d)] ∧ (errExts s c d = 0 → Own H' H.n (.slice fa fn fn) 3 1 ((firstL s c).map (Value.int .i64)) ∧ Own H' H.n (.slice la ln ln) 3 1 ((lastL s c).map (Value.int .i64)) ∧ Own H' H.n (.slice fa' fn' fn') 3 1 ((firstL s d).map (Value.int .i64)) ∧ Own H' H.n (.slice la' ln' ln') 3 1 ((lastL s d).map (Value.int .i64)))) ∧ Ext H H' := by
  have HS := Lib.hid hs
  have HC := Lib.hid hc
  have HD := Lib.hid hdv
  obtain ⟨wv, av, rfl, hw, ha⟩ := hs
  obtain ⟨hwl, wa, wc, rfl⟩ := hw.slice
  obtain ⟨hal, aa, ac, rfl⟩ := ha.slice
  obtain ⟨cv, rfl, hcw⟩ := hc
  obtain ⟨hcl, ca, cc, rfl⟩ := hcw.slice
  obtain ⟨dv, rfl, hdw⟩ := hdv
  obtain ⟨hdl, da, dc, rfl⟩ := hdw.slice
  clear hw ha hcw hdw
  have HEX : Hid (errExts s c d = if errCopy s c ≠ 0 then errCopy s c else if errCopy s d ≠ 0 then errCopy s d else if errExt s c ≠ 0 then errExt s c else errExt s d) := Lib.hid rfl
  have HK1 := Lib.hid (fun (loops : List (Nat × LInfo)) (H' : AHeap) (hx : Ext H H') => checkCopy_s (loops := loops) (HS.out.ext hx) (HC.out.ext hx))
  have HK2 := Lib.hid (fun (loops : List (Nat × LInfo)) (H' : AHeap) (hx : Ext H H') => checkCopy_s (loops := loops) (HS.out.ext hx) (HD.out.ext hx))
  have HE1 := Lib.hid (fun (loops : List (Nat × LInfo)) (H' : AHeap) (hx : Ext H H') => extentOf_x (loops := loops) (HS.out.ext hx) (HC.out.ext hx))
  have HE2 := Lib.hid (fun (loops : List (Nat × LInfo)) (H' : AHeap) (hx : Ext H H') => extentOf_x (loops := loops) (HS.out.ext hx) (HD.out.ext hx))
  generalize errExts s c d = er at HEX
  generalize errCopy s c = k1 at HEX HK1
  generalize errCopy s d = k2 at HEX HK2
  generalize errExt s c = e1 at HEX HE1
  generalize errExt s d = e2 at HEX HE2
  refine CallS.enter' Try.func80 rfl Try.ntmps80 (by simp) fun f hd hf => ?_
  have f0 := hf 0
  have f1 := hf 1
  have f2 := hf 2
  simp at f0 f1 f2
  clear hf
  repeat' (first|(with_reducible first|refine zA ?_|refine zB fun K hK=>?_|refine zC fun K2 hK2=>?_|refine zD ?_|refine zE ?_|refine zF ?_|refine zG ?_|refine zH ?_|refine zI ?_|refine zJ ?_|refine zK ?_|refine zL ?_|refine zM ?_|refine zN ?_|refine zO ?_|refine zP ?_|refine zQ ?_|refine zR ?_|refine zS ?_|refine zT ?_)|((with_reducible refine zU (hK _ _ ?_));clear hK K)|((with_reducible refine zV ?_ ?_ fun K1 K3 d hdst h1 h3=>?_);rfl;exact yB rfl;cases hdst;go_simp)|((with_reducible refine zW fun K1 K3 h1 h3=>?_);go_simp)|((first|refine h1 ?_|refine h3 ?_);clear h1 h3 K1 K3)|((first|refine zX (fun hb=>h1 ?_) (fun hb=>h3 ?_)|refine zX (fun hb=>h3 ?_) (fun hb=>h1 ?_))<;>(clear h1 h3 K1 K3;(try have hb2:=yC hb);(try have hb2:=yD hb);(try have hb2:=yE hb);(try have hb2:=yF hb);(try have hb2:=yG hb)))|(refine fun (K2:_→AHeap→Prop) hK2=>?_)|((with_reducible refine zY ?_ ?_);decide)|((with_reducible first|refine zZ ?_ (fun K hK=>?_)|refine yA ?_ (fun K hK=>?_));(focus go_simp;done);go_simp;refine hK _ _ ?_;clear hK K)|(go_simp;(try go_bits);(try first | ((refine two_k el159 sz27 ze27 rfl (by decide) (by decide) rfl rfl rfl rfl ?_); go_simp));refine hK2 _ _ ?_;clear hK2 K2))
  refine CodeS.loop (fun m f H' => ∃ k : Nat, k ≤ 2 ∧ m = 2 - k ∧ f.tmp 19 = .int .i64 k ∧ f.tmp 18 = .int .i64 2 ∧ f.tmp 17 = .slice (some ⟨H.n + 5, 0, none⟩) 2 2 ∧ f.tmp 3 = .pointer (some ⟨H.n, 0, none⟩) ∧ f.tmp 4 = .pointer (some ⟨H.n + 1, 0, none⟩) ∧ f.tmp 5 = .pointer (some ⟨H.n + 2, 0, none⟩) ∧ f.tmp 6 = .pointer (some ⟨H.n + 3, 0, none⟩) ∧ f.tmp 7 = .pointer (some ⟨H.n + 4, 0, none⟩) ∧ f.defers = [] ∧ Hid (1 ≤ k → k1 = 0) ∧ Hid (2 ≤ k → k2 = 0) ∧ H.n + 5 < H'.n ∧ Hid (Ext H H') ∧ Hid (H'.get H.n = .row [Value.slice wa s.words.length wc, Value.slice aa s.alts.length ac] 25) ∧ Hid (H'.get (H.n + 1) = .row [Value.slice ca c.words.length cc, .int .i64 c.beg, .int .i64 c.fin, .int .i64 c.per] 27) ∧ Hid (H'.get (H.n + 2) = .row [Value.slice da d.words.length dc, .int .i64 d.beg, .int .i64 d.fin, .int .i64 d.per] 27) ∧ Hid (H'.get (H.n + 3) = .row [Value.slice none 0 0, .int .i64 0, Value.slice none 0 0, Value.slice none 0 0] 120) ∧ Hid (H'.get (H.n + 4) = .row [Value.slice none 0 0, .int .i64 0, Value.slice none 0 0, Value.slice none 0 0] 120) ∧ Hid (H'.get (H.n + 5) = .row ([Value.slice ca c.words.length cc, .int .i64 c.beg, .int .i64 c.fin, .int .i64 c.per] ++ [Value.slice da d.words.length dc, .int .i64 d.beg, .int .i64 d.fin, .int .i64 d.per]) 27)) 2 ?_ ?_
  · refine ⟨0, by omega, rfl, (by first|(go_simp;done)|(go_simp;go_num;done)|assumption), (by first|(go_simp;done)|(go_simp;go_num;done)|assumption), (by first|(go_simp;done)|(go_simp;go_num;done)|assumption), (by first|(go_simp;done)|(go_simp;go_num;done)|assumption), (by first|(go_simp;done)|(go_simp;go_num;done)|assumption), (by first|(go_simp;done)|(go_simp;go_num;done)|assumption), (by first|(go_simp;done)|(go_simp;go_num;done)|assumption), (by first|(go_simp;done)|(go_simp;go_num;done)|assumption), (by first|(go_simp;done)|(go_simp;go_num;done)|assumption), Lib.hid (fun h => by omega), Lib.hid (fun h => by omega), by simp only [AHeap.n_push]; omega, Lib.hid ((((((Ext.refl _).push' _).push' _).push' _).push' _).push' _ |>.push' _), Lib.hid ?_, Lib.hid ?_, Lib.hid ?_, Lib.hid ?_, Lib.hid ?_, Lib.hid ?_⟩
    all_goals simp only [AHeap.get_push, AHeap.n_push, Nat.add_assoc, Nat.reduceAdd]
    all_goals simp
  clear f0 f1 f2 hd f
  rintro m f H' ⟨k, hk, rfl, f19, f18, f17, f3, f4, f5, f6, f7, hd, HK1', HK2', hn5, HX, HG0, HG1, HG2, HG3, HG4, HG5⟩
  have hg0 := HG0.out
  have hg1 := HG1.out
  have hg2 := HG2.out
  have hg3 := HG3.out
  have hg4 := HG4.out
  have hg5 := HG5.out
  have hc0 : cellsAt H' H.n 0 2 = some [Value.slice wa s.words.length wc, Value.slice aa s.alts.length ac] := by simp [cellsAt, hg0]
  have hc1 : cellsAt H' (H.n + 1) 0 4 = some [Value.slice ca c.words.length cc, .int .i64 c.beg, .int .i64 c.fin, .int .i64 c.per] := by simp [cellsAt, hg1]
  have hc2 : cellsAt H' (H.n + 2) 0 4 = some [Value.slice da d.words.length dc, .int .i64 d.beg, .int .i64 d.fin, .int .i64 d.per] := by simp [cellsAt, hg2]
  have hc5 : cellsAt H' (H.n + 5) 0 4 = some [Value.slice ca c.words.length cc, .int .i64 c.beg, .int .i64 c.fin, .int .i64 c.per] := by simp [cellsAt, hg5]
  have hc54 : cellsAt H' (H.n + 5) 4 4 = some [Value.slice da d.words.length dc, .int .i64 d.beg, .int .i64 d.fin, .int .i64 d.per] := by simp [cellsAt, hg5]
  have hl0 : H.n < H'.n := by omega
  have hl1 : H.n + 1 < H'.n := by omega
  have hl2 : H.n + 2 < H'.n := by omega
  have hl3 : H.n + 3 < H'.n := by omega
  have hl4 : H.n + 4 < H'.n := by omega
  have hgp3 : ∀ o, (H'.push o).get (H.n + 3) = .row [Value.slice none 0 0, .int .i64 0, Value.slice none 0 0, Value.slice none 0 0] 120 := fun o => (AHeap.get_push_old hl3).trans hg3
  have hgp4 : ∀ o, (H'.push o).get (H.n + 4) = .row [Value.slice none 0 0, .int .i64 0, Value.slice none 0 0, Value.slice none 0 0] 120 := fun o => (AHeap.get_push_old hl4).trans hg4
  have hgq4 : ∀ o o', ((H'.upd (H.n + 3) o).push o').get (H.n + 4) = .row [Value.slice none 0 0, .int .i64 0, Value.slice none 0 0, Value.slice none 0 0] 120 := fun o o' => (AHeap.get_push_old (by rw [AHeap.n_upd]; exact hl4)).trans ((AHeap.get_upd_ne (by omega)).trans hg4)
  rcases Nat.eq_zero_or_pos k with hk0 | hk0
  · subst hk0
    repeat' (first|(with_reducible first|refine zA ?_|refine zB fun K hK=>?_|refine zC fun K2 hK2=>?_|refine zD ?_|refine zE ?_|refine zF ?_|refine zG ?_|refine zH ?_|refine zI ?_|refine zJ ?_|refine zK ?_|refine zL ?_|refine zM ?_|refine zN ?_|refine zO ?_|refine zP ?_|refine zQ ?_|refine zR ?_|refine zS ?_|refine zT ?_)|((with_reducible refine zU (hK _ _ ?_));clear hK K)|((with_reducible refine zV ?_ ?_ fun K1 K3 d hdst h1 h3=>?_);rfl;exact yB rfl;cases hdst;go_simp)|((with_reducible refine zW fun K1 K3 h1 h3=>?_);go_simp)|((first|refine h1 ?_|refine h3 ?_);clear h1 h3 K1 K3)|((first|refine zX (fun hb=>h1 ?_) (fun hb=>h3 ?_)|refine zX (fun hb=>h3 ?_) (fun hb=>h1 ?_))<;>(clear h1 h3 K1 K3;(try have hb2:=yC hb);(try have hb2:=yD hb);(try have hb2:=yE hb);(try have hb2:=yF hb);(try have hb2:=yG hb)))|(refine fun (K2:_→AHeap→Prop) hK2=>?_)|((with_reducible refine zY ?_ ?_);decide)|((with_reducible first|refine zZ ?_ (fun K hK=>?_)|refine yA ?_ (fun K hK=>?_));(focus go_simp;done);go_simp;refine hK _ _ ?_;clear hK K)|(go_simp;(try go_bits);(try first | ((with_reducible show CallS _ _ _ _ _ _);refine CallS.mono (HK1.out _ _ (HX.out.push' _)) ?_; rintro _ _ ⟨rfl, h9⟩; rw [h9]; clear h9));refine hK2 _ _ ?_;clear hK2 K2))
    · have hz : ¬ k1 = 0 := by simpa using hb
      have hr : er = k1 := by rw [HEX.out, if_pos hz]
      exact ⟨⟨_, _, _, _, _, _, _, _, _, _, _, _, _, _, _, _, by rw [hr], fun h0 => absurd h0 (by rw [hr]; exact hz)⟩, ((HX.out.upd (by omega) _).upd (by omega) _).push' _⟩
    have HZ : k1 = 0 := by simpa using hb
    · refine Post.round_normal ⟨1, by omega, 1, by omega, rfl, (by first|(go_simp;done)|(go_simp;go_num;done)|assumption), (by first|(go_simp;done)|(go_simp;go_num;done)|assumption), (by first|(go_simp;done)|(go_simp;go_num;done)|assumption), (by first|(go_simp;done)|(go_simp;go_num;done)|assumption), (by first|(go_simp;done)|(go_simp;go_num;done)|assumption), (by first|(go_simp;done)|(go_simp;go_num;done)|assumption), (by first|(go_simp;done)|(go_simp;go_num;done)|assumption), (by first|(go_simp;done)|(go_simp;go_num;done)|assumption), (by first|(go_simp;done)|(go_simp;go_num;done)|assumption), Lib.hid (fun h => HZ), Lib.hid (fun h => by omega), by rw [AHeap.n_push]; omega, Lib.hid (HX.out.push' _), Lib.hid ?_, Lib.hid ?_, Lib.hid ?_, Lib.hid ?_, Lib.hid ?_, Lib.hid ?_⟩
      · rw [AHeap.get_push_old hl0]; exact HG0.out
      · rw [AHeap.get_push_old hl1]; exact HG1.out
      · rw [AHeap.get_push_old hl2]; exact HG2.out
      · rw [AHeap.get_push_old hl3]; exact HG3.out
      · rw [AHeap.get_push_old hl4]; exact HG4.out
      · rw [AHeap.get_push_old hn5]; exact HG5.out
  rcases Nat.eq_or_lt_of_le (show 1 ≤ k by omega) with hk1 | hk1
  · subst hk1
    have HZ0 := HK1'.out (Nat.le_refl _)
    clear hk0
    repeat' (first|(with_reducible first|refine zA ?_|refine zB fun K hK=>?_|refine zC fun K2 hK2=>?_|refine zD ?_|refine zE ?_|refine zF ?_|refine zG ?_|refine zH ?_|refine zI ?_|refine zJ ?_|refine zK ?_|refine zL ?_|refine zM ?_|refine zN ?_|refine zO ?_|refine zP ?_|refine zQ ?_|refine zR ?_|refine zS ?_|refine zT ?_)|((with_reducible refine zU (hK _ _ ?_));clear hK K)|((with_reducible refine zV ?_ ?_ fun K1 K3 d hdst h1 h3=>?_);rfl;exact yB rfl;cases hdst;go_simp)|((with_reducible refine zW fun K1 K3 h1 h3=>?_);go_simp)|((first|refine h1 ?_|refine h3 ?_);clear h1 h3 K1 K3)|((first|refine zX (fun hb=>h1 ?_) (fun hb=>h3 ?_)|refine zX (fun hb=>h3 ?_) (fun hb=>h1 ?_))<;>(clear h1 h3 K1 K3;(try have hb2:=yC hb);(try have hb2:=yD hb);(try have hb2:=yE hb);(try have hb2:=yF hb);(try have hb2:=yG hb)))|(refine fun (K2:_→AHeap→Prop) hK2=>?_)|((with_reducible refine zY ?_ ?_);decide)|((with_reducible first|refine zZ ?_ (fun K hK=>?_)|refine yA ?_ (fun K hK=>?_));(focus go_simp;done);go_simp;refine hK _ _ ?_;clear hK K)|(go_simp;(try go_bits);(try first | ((with_reducible show CallS _ _ _ _ _ _);refine CallS.mono (HK2.out _ _ (HX.out.push' _)) ?_; rintro _ _ ⟨rfl, h9⟩; rw [h9]; clear h9));refine hK2 _ _ ?_;clear hK2 K2))
    · have hz : ¬ k2 = 0 := by simpa using hb
      have hr : er = k2 := by rw [HEX.out, if_neg (by simp [HZ0]), if_pos hz]
      exact ⟨⟨_, _, _, _, _, _, _, _, _, _, _, _, _, _, _, _, by rw [hr], fun h0 => absurd h0 (by rw [hr]; exact hz)⟩, ((HX.out.upd (by omega) _).upd (by omega) _).push' _⟩
    have HZ : k2 = 0 := by simpa using hb
    · refine Post.round_normal ⟨0, by omega, 2, by omega, rfl, (by first|(go_simp;done)|(go_simp;go_num;done)|assumption), (by first|(go_simp;done)|(go_simp;go_num;done)|assumption), (by first|(go_simp;done)|(go_simp;go_num;done)|assumption), (by first|(go_simp;done)|(go_simp;go_num;done)|assumption), (by first|(go_simp;done)|(go_simp;go_num;done)|assumption), (by first|(go_simp;done)|(go_simp;go_num;done)|assumption), (by first|(go_simp;done)|(go_simp;go_num;done)|assumption), (by first|(go_simp;done)|(go_simp;go_num;done)|assumption), (by first|(go_simp;done)|(go_simp;go_num;done)|assumption), Lib.hid (fun h => HZ0), Lib.hid (fun h => HZ), by rw [AHeap.n_push]; omega, Lib.hid (HX.out.push' _), Lib.hid ?_, Lib.hid ?_, Lib.hid ?_, Lib.hid ?_, Lib.hid ?_, Lib.hid ?_⟩
      · rw [AHeap.get_push_old hl0]; exact HG0.out
      · rw [AHeap.get_push_old hl1]; exact HG1.out
      · rw [AHeap.get_push_old hl2]; exact HG2.out
      · rw [AHeap.get_push_old hl3]; exact HG3.out
      · rw [AHeap.get_push_old hl4]; exact HG4.out
      · rw [AHeap.get_push_old hn5]; exact HG5.out
  have hk2 : k = 2 := by omega
  subst hk2
  have HZ0 := HK1'.out (by omega)
  have HZ1 := HK2'.out (by omega)
  have HER : Hid (er = if e1 ≠ 0 then e1 else e2) := Lib.hid (by rw [HEX.out, if_neg (by simp [HZ0]), if_neg (by simp [HZ1])])
  clear hk0 hk1 hk HZ0 HZ1 HEX hgp3 hgp4 hgq4 hc5 hc54 hg5
  repeat' (first|(with_reducible first|refine zA ?_|refine zB fun K hK=>?_|refine zC fun K2 hK2=>?_|refine zD ?_|refine zE ?_|refine zF ?_|refine zG ?_|refine zH ?_|refine zI ?_|refine zJ ?_|refine zK ?_|refine zL ?_|refine zM ?_|refine zN ?_|refine zO ?_|refine zP ?_|refine zQ ?_|refine zR ?_|refine zS ?_|refine zT ?_)|((with_reducible refine zU (hK _ _ ?_));clear hK K)|((with_reducible refine zV ?_ ?_ fun K1 K3 d hdst h1 h3=>?_);rfl;exact yB rfl;cases hdst;go_simp)|((with_reducible refine zW fun K1 K3 h1 h3=>?_);go_simp)|((first|refine h1 ?_|refine h3 ?_);clear h1 h3 K1 K3)|((first|refine zX (fun hb=>h1 ?_) (fun hb=>h3 ?_)|refine zX (fun hb=>h3 ?_) (fun hb=>h1 ?_))<;>(clear h1 h3 K1 K3;(try have hb2:=yC hb);(try have hb2:=yD hb);(try have hb2:=yE hb);(try have hb2:=yF hb);(try have hb2:=yG hb)))|(refine fun (K2:_→AHeap→Prop) hK2=>?_)|((with_reducible refine zY ?_ ?_);decide)|((with_reducible first|refine zZ ?_ (fun K hK=>?_)|refine yA ?_ (fun K hK=>?_));(focus go_simp;done);go_simp;refine hK _ _ ?_;clear hK K)|(go_simp;(try go_bits);(try first | ((with_reducible show CallS _ _ _ _ _ _);refine CallS.mono (HE1.out _ _ HX.out) ?_; rintro _ H1 ⟨⟨ev, rfl, hev⟩, hx⟩; (obtain ⟨oa, on, oc, pi, fa, fn, la, ln, rfl, hi1, hi2⟩ := hev); (have HI1 := Lib.hid hi1); (have HI2 := Lib.hid hi2); (have HX1 := Lib.hid (HX.out.trans hx)); (have hn1 : H.n + 5 < H1.n := by have := hx.n; omega); (have hc01 : cellsAt H1 H.n 0 2 = some [Value.slice wa s.words.length wc, Value.slice aa s.alts.length ac] := by rw [hx.cellsAt (by omega)]; exact hc0); (have hc21 : cellsAt H1 (H.n + 2) 0 4 = some [Value.slice da d.words.length dc, .int .i64 d.beg, .int .i64 d.fin, .int .i64 d.per] := by rw [hx.cellsAt (by omega)]; exact hc2); (have hm0 : H.n < H1.n := by omega); (have hm2 : H.n + 2 < H1.n := by omega); (have hm3 : H.n + 3 < H1.n := by omega); (have hm4 : H.n + 4 < H1.n := by omega); (have hg31 : H1.get (H.n + 3) = .row [Value.slice none 0 0, .int .i64 0, Value.slice none 0 0, Value.slice none 0 0] 120 := (hx.get _ hl3).trans HG3.out); (have hg41 : H1.get (H.n + 4) = .row [Value.slice none 0 0, .int .i64 0, Value.slice none 0 0, Value.slice none 0 0] 120 := (hx.get _ hl4).trans HG4.out); (have hgp3 : ∀ o, (H1.push o).get (H.n + 3) = .row [Value.slice none 0 0, .int .i64 0, Value.slice none 0 0, Value.slice none 0 0] 120 := fun o => (AHeap.get_push_old hm3).trans hg31); (have hgq4 : ∀ o o', ((H1.upd (H.n + 3) o).push o').get (H.n + 4) = .row [Value.slice none 0 0, .int .i64 0, Value.slice none 0 0, Value.slice none 0 0] 120 := fun o o' => (AHeap.get_push_old (by rw [AHeap.n_upd]; exact hm4)).trans ((AHeap.get_upd_ne (by omega)).trans hg41)); clear hi1 hi2 hx hc0 hc1 hc2 hg0 hg1 hg2 hg3 hg4) | ((with_reducible show CallS _ _ _ _ _ _);refine CallS.mono (HE2.out _ _ (HX1.out.push' _)) ?_; rintro _ H2 ⟨⟨ev, rfl, hev⟩, hx⟩; (obtain ⟨oa', on', oc', pi', fa', fn', la', ln', rfl, hj1, hj2⟩ := hev); (have HJ1 := Lib.hid hj1); (have HJ2 := Lib.hid hj2); (have HX2 := Lib.hid ((HX1.out.push' _).trans hx)); (have HI12 := Lib.hid ((HI1.out.ext (Ext.push _)).ext hx)); (have HI22 := Lib.hid ((HI2.out.ext (Ext.push _)).ext hx)); (have HY2 := Lib.hid ((Ext.push _).trans hx)); (have hn2 : H1.n < H2.n := by have := hx.n; rw [AHeap.n_push] at this; omega); (have hcx : cellsAt H2 H1.n 0 4 = some [.slice oa on oc, .int .i64 pi, .slice fa fn fn, .slice la ln ln] := by rw [hx.cellsAt (by rw [AHeap.n_push]; omega)]; simp [cellsAt, get_at (H := H1) rfl]); (have ho3 : H.n + 3 < H2.n := by omega); (have ho4 : H.n + 4 < H2.n := by omega); (have hg32 : H2.get (H.n + 3) = .row [Value.slice none 0 0, .int .i64 0, Value.slice none 0 0, Value.slice none 0 0] 120 := (hx.get _ (by rw [AHeap.n_push]; omega)).trans (hgp3 _)); (have hg42 : H2.get (H.n + 4) = .row [Value.slice none 0 0, .int .i64 0, Value.slice none 0 0, Value.slice none 0 0] 120 := (hx.get _ (by rw [AHeap.n_push]; omega)).trans ((AHeap.get_push_old hm4).trans hg41)); (have hgp32 : ∀ o, (H2.push o).get (H.n + 3) = .row [Value.slice none 0 0, .int .i64 0, Value.slice none 0 0, Value.slice none 0 0] 120 := fun o => (AHeap.get_push_old ho3).trans hg32); (have hgq42 : ∀ o o', ((H2.upd (H.n + 3) o).push o').get (H.n + 4) = .row [Value.slice none 0 0, .int .i64 0, Value.slice none 0 0, Value.slice none 0 0] 120 := fun o o' => (AHeap.get_push_old (by rw [AHeap.n_upd]; exact ho4)).trans ((AHeap.get_upd_ne (by omega)).trans hg42)); clear hj1 hj2 hx));refine hK2 _ _ ?_;clear hK2 K2))
  · have hz : ¬ e1 = 0 := by simpa using hb
    have hr : er = e1 := by rw [HER.out, if_pos hz]
    exact ⟨⟨_, _, _, _, _, _, _, _, _, _, _, _, _, _, _, _, by rw [hr], fun h0 => absurd h0 (by rw [hr]; exact hz)⟩, ((HX1.out.upd (by omega) _).upd (by omega) _).push' _⟩
  have hz : e1 = 0 := by simpa using hb
  have hr : er = e2 := by rw [HER.out, if_neg (by simp [hz])]
  have hne1 : ¬ (H1.n = H.n + 3) := by omega
  have hne2 : ¬ (H1.n = H.n + 4) := by omega
  have hne3 : ¬ (H2.n = H.n + 3) := by omega
  have hne4 : ¬ (H2.n = H.n + 4) := by omega
  clear HER
  repeat' (first|(with_reducible first|refine zA ?_|refine zB fun K hK=>?_|refine zC fun K2 hK2=>?_|refine zD ?_|refine zE ?_|refine zF ?_|refine zG ?_|refine zH ?_|refine zI ?_|refine zJ ?_|refine zK ?_|refine zL ?_|refine zM ?_|refine zN ?_|refine zO ?_|refine zP ?_|refine zQ ?_|refine zR ?_|refine zS ?_|refine zT ?_)|((with_reducible refine zU (hK _ _ ?_));clear hK K)|((with_reducible refine zV ?_ ?_ fun K1 K3 d hdst h1 h3=>?_);rfl;exact yB rfl;cases hdst;go_simp)|((with_reducible refine zW fun K1 K3 h1 h3=>?_);go_simp)|((first|refine h1 ?_|refine h3 ?_);clear h1 h3 K1 K3)|((first|refine zX (fun hb=>h1 ?_) (fun hb=>h3 ?_)|refine zX (fun hb=>h3 ?_) (fun hb=>h1 ?_))<;>(clear h1 h3 K1 K3;(try have hb2:=yC hb);(try have hb2:=yD hb);(try have hb2:=yE hb);(try have hb2:=yF hb);(try have hb2:=yG hb)))|(refine fun (K2:_→AHeap→Prop) hK2=>?_)|((with_reducible refine zY ?_ ?_);decide)|((with_reducible first|refine zZ ?_ (fun K hK=>?_)|refine yA ?_ (fun K hK=>?_));(focus go_simp;done);go_simp;refine hK _ _ ?_;clear hK K)|((with_reducible refine yH mixed rfl ?_ 20 fun K0 hK0=>?_);kernel_rfl)|(with_reducible first|exact yI|exact yJ|refine yK ?_|refine yL ?_|refine yM ?_)|((with_reducible first|refine yN ?_ ?_|refine yO ?_ ?_|refine yP ?_ ?_);rfl)|((with_reducible refine yQ ?_ ?_);rfl;refine hK0 _ _ ?_;clear hK0 K0)|((with_reducible refine yR ?_ ?_ ?_ ?_);rfl;rfl;rfl)|((with_reducible refine yS ?_ ?_ ?_ fun K2 hK2=>?_);rfl;rfl;exact yB rfl)|((with_reducible refine yT ?_ ?_ ?_ ?_ fun K1 K3 d hdst h1 h3=>?_);rfl;rfl;rfl;exact yB rfl;cases hdst;go_simp)|((with_reducible refine yU ?_ ?_ ?_ ?_ fun K1 K3 d hdst h1 h3=>?_);rfl;rfl;rfl;exact yB rfl;cases hdst;go_simp)|((with_reducible refine yV ?_ ?_ (fun K2 hK2=>?_) ?_);rfl;exact yB rfl)|((with_reducible refine yW ?_ ?_ ?_ ?_ (fun K2 hK2=>?_) ?_);rfl;exact yB rfl;rfl;(focus go_simp;done))|((with_reducible refine yX ?_ ?_ ?_ (fun K2 hK2=>?_) ?_);rfl;rfl;exact yB rfl)|((with_reducible refine yY ?_ ?_ (fun K2 hK2=>?_) ?_);rfl;rfl)|((with_reducible refine yZ ?_ ?_);(first|rfl|(dsimp only;decide +kernel)))|((with_reducible refine xA ?_ ?_);(focus go_simp;done))|(go_simp;(try go_bits);(first|(refine hK2 _ _ ?_ ?_<;>clear hK2 K2)|(refine hK2 _ _ ?_;clear hK2 K2))))
  refine ⟨⟨_, _, _, _, _, _, _, _, _, _, _, _, _, _, _, _, by rw [hr], fun _ => ⟨?_, ?_, ?_, ?_⟩⟩, ((HX2.out.upd (by omega) _).upd (by omega) _).push' _⟩
  · exact ((own_upd (own_upd HI12.out (by omega)) (by omega)).ext (Ext.push _)).mono (by omega)
  · exact ((own_upd (own_upd HI22.out (by omega)) (by omega)).ext (Ext.push _)).mono (by omega)
  · exact ((own_upd (own_upd HJ1.out (by rw [AHeap.n_push]; omega)) (by rw [AHeap.n_push]; omega)).ext (Ext.push _)).mono (by rw [AHeap.n_push]; omega)
  · exact ((own_upd (own_upd HJ2.out (by rw [AHeap.n_push]; omega)) (by rw [AHeap.n_push]; omega)).ext (Ext.push _)).mono (by rw [AHeap.n_push]; omega)
end Go.Proofs.Try
namespace Go.Proofs.Try
open Go Go.Am Go.RowKit Go.Co
set_option maxRecDepth 100000

/-! Which changes were before a copy. -/
def bef (days : List Int) (a : Alt) : Bool := decide (a.day ≤ days.getD a.to.toNat 0)

theorem wasBefore_s {loops : List (Nat × LInfo)} {H : AHeap} {dv : Value} {days : List Int} {a : Alt} (hd : Ints H dv days) (h0 : 0 ≤ a.to) (h1 : a.to < days.length) : CallS Try.prog loops 74 [a.val, dv] H fun r H' => r = .bool (bef days a) ∧ H' = H := by
  refine CallS.forget (R := fun v => v = .bool (bef days a)) (by rintro v rfl; rfl) ?_
  obtain ⟨i1, i2, i3, i4, i5, i6⟩ := a
  obtain ⟨k, rfl⟩ : ∃ k : Nat, i5 = (k : Int) := ⟨i5.toNat, by simp only at h0; omega⟩
  have hk : k < days.length := by simp only at h1; omega
  obtain ⟨hdl, da, dc, rfl⟩ := hd.slice
  obtain ⟨b, o, sp, rfl, hb, hx⟩ := hd.at_ hk
  have HB : Hid (bef days ⟨i1, i2, i3, i4, (k : Int), i6⟩ = decide (i3 ≤ days[k])) := Lib.hid (by simp [bef, List.getD_eq_getElem?_getD, hk])
  generalize days[k] = y at hx HB
  have hk2 : (k : Int) < (days.length : Nat) := by omega
  clear hd h0 h1 hdl
  rw [HB.out]
  clear HB
  refine CallS.enter' Try.func74 rfl Try.ntmps74 (by simp) fun f hd hf => ?_
  have f0 := hf 0
  have f1 := hf 1
  simp [Alt.val] at f0 f1
  clear hf
  repeat' (first|(with_reducible first|refine zA ?_|refine zB fun K hK=>?_|refine zC fun K2 hK2=>?_|refine zD ?_|refine zE ?_|refine zF ?_|refine zG ?_|refine zH ?_|refine zI ?_|refine zJ ?_|refine zK ?_|refine zL ?_|refine zM ?_|refine zN ?_|refine zO ?_|refine zP ?_|refine zQ ?_|refine zR ?_|refine zS ?_|refine zT ?_)|((with_reducible refine zU (hK _ _ ?_));clear hK K)|((with_reducible refine zV ?_ ?_ fun K1 K3 d hdst h1 h3=>?_);rfl;exact yB rfl;cases hdst;go_simp)|((with_reducible refine zW fun K1 K3 h1 h3=>?_);go_simp)|((first|refine h1 ?_|refine h3 ?_);clear h1 h3 K1 K3)|((first|refine zX (fun hb=>h1 ?_) (fun hb=>h3 ?_)|refine zX (fun hb=>h3 ?_) (fun hb=>h1 ?_))<;>(clear h1 h3 K1 K3;(try have hb2:=yC hb);(try have hb2:=yD hb);(try have hb2:=yE hb);(try have hb2:=yF hb);(try have hb2:=yG hb)))|(refine fun (K2:_→AHeap→Prop) hK2=>?_)|((with_reducible refine zY ?_ ?_);decide)|((with_reducible first|refine zZ ?_ (fun K hK=>?_)|refine yA ?_ (fun K hK=>?_));(focus go_simp;done);go_simp;refine hK _ _ ?_;clear hK K)|((with_reducible refine yH mixed rfl ?_ 20 fun K0 hK0=>?_);kernel_rfl)|(with_reducible first|exact yI|exact yJ|refine yK ?_|refine yL ?_|refine yM ?_)|((with_reducible first|refine yN ?_ ?_|refine yO ?_ ?_|refine yP ?_ ?_);rfl)|((with_reducible refine yQ ?_ ?_);rfl;refine hK0 _ _ ?_;clear hK0 K0)|((with_reducible refine yR ?_ ?_ ?_ ?_);rfl;rfl;rfl)|((with_reducible refine yS ?_ ?_ ?_ fun K2 hK2=>?_);rfl;rfl;exact yB rfl)|((with_reducible refine yT ?_ ?_ ?_ ?_ fun K1 K3 d hdst h1 h3=>?_);rfl;rfl;rfl;exact yB rfl;cases hdst;go_simp)|((with_reducible refine yU ?_ ?_ ?_ ?_ fun K1 K3 d hdst h1 h3=>?_);rfl;rfl;rfl;exact yB rfl;cases hdst;go_simp)|((with_reducible refine yV ?_ ?_ (fun K2 hK2=>?_) ?_);rfl;exact yB rfl)|((with_reducible refine yW ?_ ?_ ?_ ?_ (fun K2 hK2=>?_) ?_);rfl;exact yB rfl;rfl;(focus go_simp;done))|((with_reducible refine yX ?_ ?_ ?_ (fun K2 hK2=>?_) ?_);rfl;rfl;exact yB rfl)|((with_reducible refine yY ?_ ?_ (fun K2 hK2=>?_) ?_);rfl;rfl)|((with_reducible refine yZ ?_ ?_);(first|rfl|(dsimp only;decide +kernel)))|((with_reducible refine xA ?_ ?_);(focus go_simp;done))|(go_simp;(try go_bits);(first|(refine hK2 _ _ ?_ ?_<;>clear hK2 K2)|(refine hK2 _ _ ?_;clear hK2 K2))))
  exact ⟨rfl, (Ext.refl _).push' _⟩
theorem seen1_s {loops : List (Nat × LInfo)} {H : AHeap} {q : Nat} {dv : Value} {days : List Int} {a : Alt} (hq : q < H.n) (hc : cellAt H q 2 = some dv) (hdy : Ints H dv days) (h0 : 0 ≤ a.to) (h1 : a.to < days.length) : CallS Try.prog loops 73 (a.val :: #[Value.pointer (some ⟨q, 0, none⟩)].toList) H fun r H' => r = .bool (bef days a) ∧ H' = H := by
  refine CallS.forget (R := fun v => v = .bool (bef days a)) (by rintro v rfl; rfl) ?_
  have HW := Lib.hid (fun (loops : List (Nat × LInfo)) (H' : AHeap) (hx : Ext H H') => wasBefore_s (loops := loops) (hdy.ext hx) h0 h1)
  obtain ⟨hdl, da, dc, rfl⟩ := hdy.slice
  generalize bef days a = bb at HW
  obtain ⟨i1, i2, i3, i4, i5, i6⟩ := a
  clear hdy h0 h1
  refine CallS.enter' Try.func73 rfl Try.ntmps73 (by simp) fun f hd hf => ?_
  have f0 := hf 0
  have f1 := hf 1
  simp [Alt.val] at f0 f1
  clear hf
  repeat' (first|(with_reducible first|refine zA ?_|refine zB fun K hK=>?_|refine zC fun K2 hK2=>?_|refine zD ?_|refine zE ?_|refine zF ?_|refine zG ?_|refine zH ?_|refine zI ?_|refine zJ ?_|refine zK ?_|refine zL ?_|refine zM ?_|refine zN ?_|refine zO ?_|refine zP ?_|refine zQ ?_|refine zR ?_|refine zS ?_|refine zT ?_)|((with_reducible refine zU (hK _ _ ?_));clear hK K)|((with_reducible refine zV ?_ ?_ fun K1 K3 d hdst h1 h3=>?_);rfl;exact yB rfl;cases hdst;go_simp)|((with_reducible refine zW fun K1 K3 h1 h3=>?_);go_simp)|((first|refine h1 ?_|refine h3 ?_);clear h1 h3 K1 K3)|((first|refine zX (fun hb=>h1 ?_) (fun hb=>h3 ?_)|refine zX (fun hb=>h3 ?_) (fun hb=>h1 ?_))<;>(clear h1 h3 K1 K3;(try have hb2:=yC hb);(try have hb2:=yD hb);(try have hb2:=yE hb);(try have hb2:=yF hb);(try have hb2:=yG hb)))|(refine fun (K2:_→AHeap→Prop) hK2=>?_)|((with_reducible refine zY ?_ ?_);decide)|((with_reducible first|refine zZ ?_ (fun K hK=>?_)|refine yA ?_ (fun K hK=>?_));(focus go_simp;done);go_simp;refine hK _ _ ?_;clear hK K)|(go_simp;(try go_bits);(try first | ((with_reducible show CallS _ _ _ _ _ _);refine CallS.mono (HW.out _ _ (Ext.push _)) ?_; rintro _ _ ⟨rfl, h9⟩; rw [h9]; clear h9));refine hK2 _ _ ?_;clear hK2 K2))
  exact ⟨rfl, (Ext.refl _).push' _⟩
theorem seen2_s {loops : List (Nat × LInfo)} {H : AHeap} {q : Nat} {dv : Value} {days : List Int} {a : Alt} (hq : q < H.n) (hc : cellAt H q 3 = some dv) (hdy : Ints H dv days) (h0 : 0 ≤ a.to) (h1 : a.to < days.length) : CallS Try.prog loops 75 (a.val :: #[Value.pointer (some ⟨q, 0, none⟩)].toList) H fun r H' => r = .bool (bef days a) ∧ H' = H := by
  refine CallS.forget (R := fun v => v = .bool (bef days a)) (by rintro v rfl; rfl) ?_
  have HW := Lib.hid (fun (loops : List (Nat × LInfo)) (H' : AHeap) (hx : Ext H H') => wasBefore_s (loops := loops) (hdy.ext hx) h0 h1)
  obtain ⟨hdl, da, dc, rfl⟩ := hdy.slice
  generalize bef days a = bb at HW
  obtain ⟨i1, i2, i3, i4, i5, i6⟩ := a
  clear hdy h0 h1
  refine CallS.enter' Try.func75 rfl Try.ntmps75 (by simp) fun f hd hf => ?_
  have f0 := hf 0
  have f1 := hf 1
  simp [Alt.val] at f0 f1
  clear hf
  repeat' (first|(with_reducible first|refine zA ?_|refine zB fun K hK=>?_|refine zC fun K2 hK2=>?_|refine zD ?_|refine zE ?_|refine zF ?_|refine zG ?_|refine zH ?_|refine zI ?_|refine zJ ?_|refine zK ?_|refine zL ?_|refine zM ?_|refine zN ?_|refine zO ?_|refine zP ?_|refine zQ ?_|refine zR ?_|refine zS ?_|refine zT ?_)|((with_reducible refine zU (hK _ _ ?_));clear hK K)|((with_reducible refine zV ?_ ?_ fun K1 K3 d hdst h1 h3=>?_);rfl;exact yB rfl;cases hdst;go_simp)|((with_reducible refine zW fun K1 K3 h1 h3=>?_);go_simp)|((first|refine h1 ?_|refine h3 ?_);clear h1 h3 K1 K3)|((first|refine zX (fun hb=>h1 ?_) (fun hb=>h3 ?_)|refine zX (fun hb=>h3 ?_) (fun hb=>h1 ?_))<;>(clear h1 h3 K1 K3;(try have hb2:=yC hb);(try have hb2:=yD hb);(try have hb2:=yE hb);(try have hb2:=yF hb);(try have hb2:=yG hb)))|(refine fun (K2:_→AHeap→Prop) hK2=>?_)|((with_reducible refine zY ?_ ?_);decide)|((with_reducible first|refine zZ ?_ (fun K hK=>?_)|refine yA ?_ (fun K hK=>?_));(focus go_simp;done);go_simp;refine hK _ _ ?_;clear hK K)|(go_simp;(try go_bits);(try first | ((with_reducible show CallS _ _ _ _ _ _);refine CallS.mono (HW.out _ _ (Ext.push _)) ?_; rintro _ _ ⟨rfl, h9⟩; rw [h9]; clear h9));refine hK2 _ _ ?_;clear hK2 K2))
  exact ⟨rfl, (Ext.refl _).push' _⟩
theorem betw1_s {loops : List (Nat × LInfo)} {H : AHeap} {q p : Nat} {dv ev : Value} {days mays : List Int} {a : Alt} (hq : q < H.n) (hp : p < H.n) (hc : cellAt H q 3 = some dv) (hc2 : cellAt H p 2 = some ev) (hdy : Ints H dv days) (hey : Ints H ev mays) (h0 : 0 ≤ a.to) (h1 : a.to < days.length) (h2 : a.to < mays.length) : CallS Try.prog loops 81 (a.val :: #[Value.pointer (some ⟨q, 0, none⟩), Value.pointer (some ⟨p, 0, none⟩)].toList) H fun r H' => r = .bool (!bef days a && bef mays a) ∧ H' = H := by
  refine CallS.forget (R := fun v => v = .bool (!bef days a && bef mays a)) (by rintro v rfl; rfl) ?_
  have HW := Lib.hid (fun (loops : List (Nat × LInfo)) (H' : AHeap) (hx : Ext H H') => wasBefore_s (loops := loops) (hdy.ext hx) h0 h1)
  have HV := Lib.hid (fun (loops : List (Nat × LInfo)) (H' : AHeap) (hx : Ext H H') => wasBefore_s (loops := loops) (hey.ext hx) h0 h2)
  obtain ⟨hdl, da, dc, rfl⟩ := hdy.slice
  obtain ⟨hel, ea, ec, rfl⟩ := hey.slice
  generalize bef days a = bb at HW
  generalize bef mays a = cc at HV
  obtain ⟨i1, i2, i3, i4, i5, i6⟩ := a
  clear hdy hey h0 h1 h2
  refine CallS.enter' Try.func81 rfl Try.ntmps81 (by simp) fun f hd hf => ?_
  have f0 := hf 0
  have f1 := hf 1
  have f2 := hf 2
  simp [Alt.val] at f0 f1 f2
  clear hf
  repeat' (first|(with_reducible first|refine zA ?_|refine zB fun K hK=>?_|refine zC fun K2 hK2=>?_|refine zD ?_|refine zE ?_|refine zF ?_|refine zG ?_|refine zH ?_|refine zI ?_|refine zJ ?_|refine zK ?_|refine zL ?_|refine zM ?_|refine zN ?_|refine zO ?_|refine zP ?_|refine zQ ?_|refine zR ?_|refine zS ?_|refine zT ?_)|((with_reducible refine zU (hK _ _ ?_));clear hK K)|((with_reducible refine zV ?_ ?_ fun K1 K3 d hdst h1 h3=>?_);rfl;exact yB rfl;cases hdst;go_simp)|((with_reducible refine zW fun K1 K3 h1 h3=>?_);go_simp)|((first|refine h1 ?_|refine h3 ?_);clear h1 h3 K1 K3)|((first|refine zX (fun hb=>h1 ?_) (fun hb=>h3 ?_)|refine zX (fun hb=>h3 ?_) (fun hb=>h1 ?_))<;>(clear h1 h3 K1 K3;(try have hb2:=yC hb);(try have hb2:=yD hb);(try have hb2:=yE hb);(try have hb2:=yF hb);(try have hb2:=yG hb)))|(refine fun (K2:_→AHeap→Prop) hK2=>?_)|((with_reducible refine zY ?_ ?_);decide)|((with_reducible first|refine zZ ?_ (fun K hK=>?_)|refine yA ?_ (fun K hK=>?_));(focus go_simp;done);go_simp;refine hK _ _ ?_;clear hK K)|(go_simp;(try go_bits);(try first | ((with_reducible show CallS _ _ _ _ _ _);refine CallS.mono (HW.out _ _ (Ext.push _)) ?_; rintro _ _ ⟨rfl, h9⟩; rw [h9]; clear h9) | ((with_reducible show CallS _ _ _ _ _ _);refine CallS.mono (HV.out _ _ (Ext.push _)) ?_; rintro _ _ ⟨rfl, h9⟩; rw [h9]; clear h9));refine hK2 _ _ ?_;clear hK2 K2))
  all_goals (refine ⟨?_, (Ext.refl _).push' _⟩; simp_all)
theorem betw2_s {loops : List (Nat × LInfo)} {H : AHeap} {q p : Nat} {dv ev : Value} {days mays : List Int} {a : Alt} (hq : q < H.n) (hp : p < H.n) (hc : cellAt H q 2 = some dv) (hc2 : cellAt H p 3 = some ev) (hdy : Ints H dv days) (hey : Ints H ev mays) (h0 : 0 ≤ a.to) (h1 : a.to < days.length) (h2 : a.to < mays.length) : CallS Try.prog loops 82 (a.val :: #[Value.pointer (some ⟨q, 0, none⟩), Value.pointer (some ⟨p, 0, none⟩)].toList) H fun r H' => r = .bool (!bef days a && bef mays a) ∧ H' = H := by
  refine CallS.forget (R := fun v => v = .bool (!bef days a && bef mays a)) (by rintro v rfl; rfl) ?_
  have HW := Lib.hid (fun (loops : List (Nat × LInfo)) (H' : AHeap) (hx : Ext H H') => wasBefore_s (loops := loops) (hdy.ext hx) h0 h1)
  have HV := Lib.hid (fun (loops : List (Nat × LInfo)) (H' : AHeap) (hx : Ext H H') => wasBefore_s (loops := loops) (hey.ext hx) h0 h2)
  obtain ⟨hdl, da, dc, rfl⟩ := hdy.slice
  obtain ⟨hel, ea, ec, rfl⟩ := hey.slice
  generalize bef days a = bb at HW
  generalize bef mays a = cc at HV
  obtain ⟨i1, i2, i3, i4, i5, i6⟩ := a
  clear hdy hey h0 h1 h2
  refine CallS.enter' Try.func82 rfl Try.ntmps82 (by simp) fun f hd hf => ?_
  have f0 := hf 0
  have f1 := hf 1
  have f2 := hf 2
  simp [Alt.val] at f0 f1 f2
  clear hf
  repeat' (first|(with_reducible first|refine zA ?_|refine zB fun K hK=>?_|refine zC fun K2 hK2=>?_|refine zD ?_|refine zE ?_|refine zF ?_|refine zG ?_|refine zH ?_|refine zI ?_|refine zJ ?_|refine zK ?_|refine zL ?_|refine zM ?_|refine zN ?_|refine zO ?_|refine zP ?_|refine zQ ?_|refine zR ?_|refine zS ?_|refine zT ?_)|((with_reducible refine zU (hK _ _ ?_));clear hK K)|((with_reducible refine zV ?_ ?_ fun K1 K3 d hdst h1 h3=>?_);rfl;exact yB rfl;cases hdst;go_simp)|((with_reducible refine zW fun K1 K3 h1 h3=>?_);go_simp)|((first|refine h1 ?_|refine h3 ?_);clear h1 h3 K1 K3)|((first|refine zX (fun hb=>h1 ?_) (fun hb=>h3 ?_)|refine zX (fun hb=>h3 ?_) (fun hb=>h1 ?_))<;>(clear h1 h3 K1 K3;(try have hb2:=yC hb);(try have hb2:=yD hb);(try have hb2:=yE hb);(try have hb2:=yF hb);(try have hb2:=yG hb)))|(refine fun (K2:_→AHeap→Prop) hK2=>?_)|((with_reducible refine zY ?_ ?_);decide)|((with_reducible first|refine zZ ?_ (fun K hK=>?_)|refine yA ?_ (fun K hK=>?_));(focus go_simp;done);go_simp;refine hK _ _ ?_;clear hK K)|(go_simp;(try go_bits);(try first | ((with_reducible show CallS _ _ _ _ _ _);refine CallS.mono (HW.out _ _ (Ext.push _)) ?_; rintro _ _ ⟨rfl, h9⟩; rw [h9]; clear h9) | ((with_reducible show CallS _ _ _ _ _ _);refine CallS.mono (HV.out _ _ (Ext.push _)) ?_; rintro _ _ ⟨rfl, h9⟩; rw [h9]; clear h9));refine hK2 _ _ ?_;clear hK2 K2))
  all_goals (refine ⟨?_, (Ext.refl _).push' _⟩; simp_all)
end Go.Proofs.Try
namespace Go.Proofs.Try
open Go Go.Am Go.RowKit Go.Co
set_option maxRecDepth 100000

/-! Seen and Between. -/
theorem errGo_all (n : Int) : ∀ (l : List Alt) (day : Int) (seen : List Int), errGo n day seen l = 0 → (∀ a, a ∈ l → a.right n = true) ∧ (l.map Alt.id).Nodup ∧ ∀ a, a ∈ l → ¬ a.id ∈ seen
  | [], _, _, _ => ⟨fun _ h => (by cases h), List.nodup_nil, fun _ h => (by cases h)⟩
  | a :: t, day, seen, h => by
    rw [errGo] at h
    split at h
    · cases h
    · rename_i h1
      split at h
      · cases h
      · rename_i h2
        obtain ⟨i1, i2, i3⟩ := errGo_all n t _ _ h
        refine ⟨fun b hb => ?_, ?_, fun b hb => ?_⟩
        · rcases List.mem_cons.1 hb with rfl | hb
          · simp at h1; exact h1.1
          · exact i1 b hb
        · rw [List.map_cons, List.nodup_cons]
          refine ⟨fun hm => ?_, i2⟩
          obtain ⟨b, hb, hbe⟩ := List.mem_map.1 hm
          exact i3 b hb (by rw [hbe]; simp)
        · rcases List.mem_cons.1 hb with rfl | hb
          · exact h2
          · intro hc; exact i3 b hb (by simp [hc])
theorem err_alts {s : Sheet} (h : err s = 0) : (∀ a, a ∈ s.alts → 0 ≤ a.frm ∧ a.frm ≤ a.to ∧ a.to < s.words.length ∧ 0 ≤ a.day ∧ a.day ≤ 730) ∧ (s.alts.map Alt.id).Nodup := by
  have hg : errGo s.words.length 0 [] s.alts = 0 := by
    unfold err at h
    split at h
    · cases h
    · split at h
      · cases h
      · exact h
  obtain ⟨h1, h2, -⟩ := errGo_all _ _ _ _ hg
  refine ⟨fun a ha => ?_, h2⟩
  have := h1 a ha
  simp only [Alt.right, Bool.and_eq_true, win_iff] at this
  omega

def sureL (s : Sheet) (c : Copy) : List Int := if errExt s c = 0 then idsL s (bef (firstL s c)) else []
def maybeL (s : Sheet) (c : Copy) : List Int := if errExt s c = 0 then idsL s (bef (lastL s c)) else []
theorem ids_own {H : AHeap} {bs : Nat} {v : Value} {s : Sheet} {acc : Alt → Bool} (h : Own H bs v 3 1 ((idsL s acc).map (Value.int .i64))) (hn : s.alts.length ≤ 12) : Ints H v (idsL s acc) :=
  ints_of_own h (by
    have := List.length_filter_le acc s.alts
    rw [idsL, sortL_len, List.length_map]; omega)
theorem ints_nil (H : AHeap) : Ints H (.slice none 0 0) [] := ⟨rfl, by simp, none, 0, rfl, by simp⟩

set_option maxHeartbeats 2000000 in
theorem seen_e {loops : List (Nat × LInfo)} {H : AHeap} {sv cv : Value} {s : Sheet} {c : Copy} (hs : SheetV H sv s) (hc : CopyV H cv c) (hn : errExt s c = 0 → s.alts.length ≤ 12) : CallS Try.prog loops 31 [sv, cv] H fun r H' => (∃ av bv, r = .tuple #[av, bv, .int .i64 (errExt s c)] ∧ Ints H' av (sureL s c) ∧ Ints H' bv (maybeL s c)) ∧ Ext H H' := by
  have HS := Lib.hid hs
  have HC := Lib.hid hc
  obtain ⟨wv, av, rfl, hw, ha⟩ := hs
  obtain ⟨hwl, wa, wc, rfl⟩ := hw.slice
  obtain ⟨hal, aa, ac, rfl⟩ := ha.slice
  obtain ⟨cv, rfl, hcw⟩ := hc
  obtain ⟨hcl, ca, cc, rfl⟩ := hcw.slice
  clear hw ha hcw
  have HE := Lib.hid (fun (loops : List (Nat × LInfo)) (H' : AHeap) (hx : Ext H H') => extentOf_x (loops := loops) (HS.out.ext hx) (HC.out.ext hx))
  have HSL : Hid (sureL s c = if errExt s c = 0 then idsL s (bef (firstL s c)) else []) := Lib.hid rfl
  have HML : Hid (maybeL s c = if errExt s c = 0 then idsL s (bef (lastL s c)) else []) := Lib.hid rfl
  have HB : Hid (errExt s c = 0 → ∀ a, a ∈ s.alts → 0 ≤ a.to ∧ a.to < (firstL s c).length ∧ a.to < (lastL s c).length) := Lib.hid (fun h a ha => by
    obtain ⟨g1, -, -, -, g2, g3, -⟩ := ends_n h
    have := (err_alts (errCopy_ok g1).1).1 a ha
    rw [g2, g3]; omega)
  have HI := Lib.hid (fun (loops : List (Nat × LInfo)) (H' : AHeap) (hx : Ext H H') (h12 : s.alts.length ≤ 12) (g : FuncId) (caps : Array Value) (acc : Alt → Bool) (hok : okFn Try.prog g = true) (hacc : ∀ (loops : List (Nat × LInfo)) (H2 : AHeap) (a : Alt), Ext H' H2 → a ∈ s.alts → CallS Try.prog loops g (a.val :: caps.toList) H2 fun r H'' => r = .bool (acc a) ∧ H'' = H2) => idsOf_o (loops := loops) (HS.out.ext hx) h12 hok hacc)
  have HN := Lib.hid hn
  clear hn
  generalize sureL s c = S1 at HSL
  generalize maybeL s c = S2 at HML
  generalize errExt s c = er at HE HSL HML HB HN
  have HX1 : Hid (Ext H ((H.push (.row [Value.slice wa s.words.length wc, Value.slice aa s.alts.length ac] 25)).push (.row [Value.slice ca c.words.length cc, .int .i64 c.beg, .int .i64 c.fin, .int .i64 c.per] 27))) := Lib.hid (((Ext.refl _).push' _).push' _)
  have ok73 : okFn Try.prog 73 = true := by kernel_rfl
  have ok75 : okFn Try.prog 75 = true := by kernel_rfl
  refine CallS.enter' Try.func31 rfl Try.ntmps31 (by simp) fun f hd hf => ?_
  have f0 := hf 0
  have f1 := hf 1
  simp at f0 f1
  clear hf
  repeat' (first|(with_reducible first|refine zA ?_|refine zB fun K hK=>?_|refine zC fun K2 hK2=>?_|refine zD ?_|refine zE ?_|refine zF ?_|refine zG ?_|refine zH ?_|refine zI ?_|refine zJ ?_|refine zK ?_|refine zL ?_|refine zM ?_|refine zN ?_|refine zO ?_|refine zP ?_|refine zQ ?_|refine zR ?_|refine zS ?_|refine zT ?_)|((with_reducible refine zU (hK _ _ ?_));clear hK K)|((with_reducible refine zV ?_ ?_ fun K1 K3 d hdst h1 h3=>?_);rfl;exact yB rfl;cases hdst;go_simp)|((with_reducible refine zW fun K1 K3 h1 h3=>?_);go_simp)|((first|refine h1 ?_|refine h3 ?_);clear h1 h3 K1 K3)|((first|refine zX (fun hb=>h1 ?_) (fun hb=>h3 ?_)|refine zX (fun hb=>h3 ?_) (fun hb=>h1 ?_))<;>(clear h1 h3 K1 K3;(try have hb2:=yC hb);(try have hb2:=yD hb);(try have hb2:=yE hb);(try have hb2:=yF hb);(try have hb2:=yG hb)))|(refine fun (K2:_→AHeap→Prop) hK2=>?_)|((with_reducible refine zY ?_ ?_);decide)|((with_reducible first|refine zZ ?_ (fun K hK=>?_)|refine yA ?_ (fun K hK=>?_));(focus go_simp;done);go_simp;refine hK _ _ ?_;clear hK K)|(go_simp;(try go_bits);(try first | ((with_reducible show CallS _ _ _ _ _ _);refine CallS.mono (HE.out _ _ HX1.out) ?_; rintro _ H1 ⟨⟨ev, rfl, hev⟩, hx⟩; (obtain ⟨oa, on, oc, pi, fa, fn, la, ln, rfl, hi1, hi2⟩ := hev); (have HI1 := Lib.hid hi1); (have HI2 := Lib.hid hi2); (have HX2 := Lib.hid (HX1.out.trans hx)); (have hn1 : H.n < H1.n := by have := hx.n; simp only [AHeap.n_push] at this; omega); (have hc01 : cellsAt H1 H.n 0 2 = some [Value.slice wa s.words.length wc, Value.slice aa s.alts.length ac] := by rw [hx.cellsAt (by simp only [AHeap.n_push]; omega), cellsAt_push, if_neg (by simp only [AHeap.n_push]; omega), cellsAt_push, if_pos rfl]; rfl); clear hi1 hi2 hx));refine hK2 _ _ ?_;clear hK2 K2))
  · have hz : ¬ er = 0 := by simpa using hb
    refine ⟨⟨_, _, rfl, ?_, ?_⟩, HX2.out.push' _⟩
    · rw [HSL.out, if_neg hz]; exact ints_nil _
    · rw [HML.out, if_neg hz]; exact ints_nil _
  have hz : er = 0 := by simpa using hb
  have h12 := HN.out hz
  have hI1 : Ints H1 (.slice fa fn fn) (firstL s c) := ints_of_own HI1.out (ends_len s c).1
  have hI2 : Ints H1 (.slice la ln ln) (lastL s c) := ints_of_own HI2.out (ends_len s c).2
  have HC1 := Lib.hid (fun (loops : List (Nat × LInfo)) (H3 : AHeap) (hx3 : Ext (H1.push (.row [.slice oa on oc, .int .i64 pi, .slice fa fn fn, .slice la ln ln] 120)) H3) => HI.out loops H3 ((HX2.out.push' _).trans hx3) h12 73 #[.pointer (some ⟨H1.n, 0, none⟩)] (bef (firstL s c)) ok73 (fun loops H2 a hx ha => seen1_s (by have h1 := hx3.n; have h2 := hx.n; rw [AHeap.n_push] at h1; omega) (by have h1 := hx3.n; rw [AHeap.n_push] at h1; rw [hx.cellAt (by omega), hx3.cellAt (by rw [AHeap.n_push]; omega), cellAt_new]; rfl) (((hI1.ext (Ext.push _)).ext hx3).ext hx) (HB.out hz a ha).1 (HB.out hz a ha).2.1))
  have HC2 := Lib.hid (fun (loops : List (Nat × LInfo)) (H3 : AHeap) (hx3 : Ext (H1.push (.row [.slice oa on oc, .int .i64 pi, .slice fa fn fn, .slice la ln ln] 120)) H3) => HI.out loops H3 ((HX2.out.push' _).trans hx3) h12 75 #[.pointer (some ⟨H1.n, 0, none⟩)] (bef (lastL s c)) ok75 (fun loops H2 a hx ha => seen2_s (by have h1 := hx3.n; have h2 := hx.n; rw [AHeap.n_push] at h1; omega) (by have h1 := hx3.n; rw [AHeap.n_push] at h1; rw [hx.cellAt (by omega), hx3.cellAt (by rw [AHeap.n_push]; omega), cellAt_new]; rfl) (((hI2.ext (Ext.push _)).ext hx3).ext hx) (HB.out hz a ha).1 (HB.out hz a ha).2.2))
  rw [if_pos hz] at HSL HML
  have HO1 := Lib.hid (fun (H' : AHeap) (bs : Nat) (v : Value) (h : Own H' bs v 3 1 ((idsL s (bef (firstL s c))).map (Value.int .i64))) => ids_own h h12)
  have HO2 := Lib.hid (fun (H' : AHeap) (bs : Nat) (v : Value) (h : Own H' bs v 3 1 ((idsL s (bef (lastL s c))).map (Value.int .i64))) => ids_own h h12)
  generalize idsL s (bef (firstL s c)) = I1 at HSL HC1 HO1
  generalize idsL s (bef (lastL s c)) = I2 at HML HC2 HO2
  have hnz : er = 0 := hz
  clear hI1 hI2 HI HE HB HN hb
  repeat' (first|(with_reducible first|refine zA ?_|refine zB fun K hK=>?_|refine zC fun K2 hK2=>?_|refine zD ?_|refine zE ?_|refine zF ?_|refine zG ?_|refine zH ?_|refine zI ?_|refine zJ ?_|refine zK ?_|refine zL ?_|refine zM ?_|refine zN ?_|refine zO ?_|refine zP ?_|refine zQ ?_|refine zR ?_|refine zS ?_|refine zT ?_)|((with_reducible refine zU (hK _ _ ?_));clear hK K)|((with_reducible refine zV ?_ ?_ fun K1 K3 d hdst h1 h3=>?_);rfl;exact yB rfl;cases hdst;go_simp)|((with_reducible refine zW fun K1 K3 h1 h3=>?_);go_simp)|((first|refine h1 ?_|refine h3 ?_);clear h1 h3 K1 K3)|((first|refine zX (fun hb=>h1 ?_) (fun hb=>h3 ?_)|refine zX (fun hb=>h3 ?_) (fun hb=>h1 ?_))<;>(clear h1 h3 K1 K3;(try have hb2:=yC hb);(try have hb2:=yD hb);(try have hb2:=yE hb);(try have hb2:=yF hb);(try have hb2:=yG hb)))|(refine fun (K2:_→AHeap→Prop) hK2=>?_)|((with_reducible refine zY ?_ ?_);decide)|((with_reducible first|refine zZ ?_ (fun K hK=>?_)|refine yA ?_ (fun K hK=>?_));(focus go_simp;done);go_simp;refine hK _ _ ?_;clear hK K)|(go_simp;(try go_bits);(try first | ((with_reducible show CallS _ _ _ _ _ _);refine CallS.mono (HC1.out _ _ (Ext.refl _)) ?_; rintro v1 H2 ⟨ho, hx⟩; (have HV1 := Lib.hid (HO1.out _ _ _ ho)); (have HX3 := Lib.hid hx); (have hc02 : cellsAt H2 H.n 0 2 = some [Value.slice wa s.words.length wc, Value.slice aa s.alts.length ac] := by rw [hx.cellsAt (by rw [AHeap.n_push]; omega), cellsAt_push, if_neg (by omega)]; exact hc01); (have hn2 : H1.n < H2.n := by have := hx.n; rw [AHeap.n_push] at this; omega); clear ho hx) | ((with_reducible show CallS _ _ _ _ _ _);refine CallS.mono (HC2.out _ _ HX3.out) ?_; rintro v2 H3 ⟨ho, hx⟩; (have HV2 := Lib.hid (HO2.out _ _ _ ho)); (have HV12 := Lib.hid (HV1.out.ext hx)); (have HX4 := Lib.hid (HX3.out.trans hx)); clear ho hx));refine hK2 _ _ ?_;clear hK2 K2))
  refine ⟨⟨_, _, by rw [hnz], ?_, ?_⟩, (HX2.out.push' _).trans HX4.out⟩
  · rw [HSL.out]; exact HV12.out
  · rw [HML.out]; exact HV2.out

def bSure (s : Sheet) (c d : Copy) : List Int := if errExts s c d = 0 then idsL s (fun a => !bef (lastL s c) a && bef (firstL s d) a) else []
def bMay (s : Sheet) (c d : Copy) : List Int := if errExts s c d = 0 then idsL s (fun a => !bef (firstL s c) a && bef (lastL s d) a) else []
set_option maxHeartbeats 2000000 in
theorem between_e {loops : List (Nat × LInfo)} {H : AHeap} {sv cv dv : Value} {s : Sheet} {c d : Copy} (hs : SheetV H sv s) (hc : CopyV H cv c) (hdv : CopyV H dv d) (hn : errExts s c d = 0 → s.alts.length ≤ 12) : CallS Try.prog loops 33 [sv, cv, dv] H fun r H' => (∃ av bv, r = .tuple #[av, bv, .int .i64 (errExts s c d)] ∧ Ints H' av (bSure s c d) ∧ Ints H' bv (bMay s c d)) ∧ Ext H H' := by
  have HS := Lib.hid hs
  have HC := Lib.hid hc
  have HD := Lib.hid hdv
  obtain ⟨wv, av, rfl, hw, ha⟩ := hs
  obtain ⟨hwl, wa, wc, rfl⟩ := hw.slice
  obtain ⟨hal, aa, ac, rfl⟩ := ha.slice
  obtain ⟨cv, rfl, hcw⟩ := hc
  obtain ⟨hcl, ca, cc, rfl⟩ := hcw.slice
  obtain ⟨dv, rfl, hdw⟩ := hdv
  obtain ⟨hdl, da, dc, rfl⟩ := hdw.slice
  clear hw ha hcw hdw
  have HE := Lib.hid (fun (loops : List (Nat × LInfo)) (H' : AHeap) (hx : Ext H H') => extentsOf_x (loops := loops) (HS.out.ext hx) (HC.out.ext hx) (HD.out.ext hx))
  have HSL : Hid (bSure s c d = if errExts s c d = 0 then idsL s (fun a => !bef (lastL s c) a && bef (firstL s d) a) else []) := Lib.hid rfl
  have HML : Hid (bMay s c d = if errExts s c d = 0 then idsL s (fun a => !bef (firstL s c) a && bef (lastL s d) a) else []) := Lib.hid rfl
  have HB : Hid (errExts s c d = 0 → ∀ a, a ∈ s.alts → 0 ≤ a.to ∧ a.to < (firstL s c).length ∧ a.to < (lastL s c).length ∧ a.to < (firstL s d).length ∧ a.to < (lastL s d).length) := Lib.hid (fun h a ha => by
    obtain ⟨h1, h2⟩ := errExts_ok h
    obtain ⟨g1, -, -, -, g2, g3, -⟩ := ends_n h1
    obtain ⟨-, -, -, -, g4, g5, -⟩ := ends_n h2
    have := (err_alts (errCopy_ok g1).1).1 a ha
    rw [g2, g3, g4, g5]; omega)
  have HI := Lib.hid (fun (loops : List (Nat × LInfo)) (H' : AHeap) (hx : Ext H H') (h12 : s.alts.length ≤ 12) (g : FuncId) (caps : Array Value) (acc : Alt → Bool) (hok : okFn Try.prog g = true) (hacc : ∀ (loops : List (Nat × LInfo)) (H2 : AHeap) (a : Alt), Ext H' H2 → a ∈ s.alts → CallS Try.prog loops g (a.val :: caps.toList) H2 fun r H'' => r = .bool (acc a) ∧ H'' = H2) => idsOf_o (loops := loops) (HS.out.ext hx) h12 hok hacc)
  have HN := Lib.hid hn
  clear hn
  generalize bSure s c d = S1 at HSL
  generalize bMay s c d = S2 at HML
  generalize errExts s c d = er at HE HSL HML HB HN
  have HX1 : Hid (Ext H (((H.push (.row [Value.slice wa s.words.length wc, Value.slice aa s.alts.length ac] 25)).push (.row [Value.slice ca c.words.length cc, .int .i64 c.beg, .int .i64 c.fin, .int .i64 c.per] 27)).push (.row [Value.slice da d.words.length dc, .int .i64 d.beg, .int .i64 d.fin, .int .i64 d.per] 27))) := Lib.hid ((((Ext.refl _).push' _).push' _).push' _)
  have ok81 : okFn Try.prog 81 = true := by kernel_rfl
  have ok82 : okFn Try.prog 82 = true := by kernel_rfl
  refine CallS.enter' Try.func33 rfl Try.ntmps33 (by simp) fun f hd hf => ?_
  have f0 := hf 0
  have f1 := hf 1
  have f2 := hf 2
  simp at f0 f1 f2
  clear hf
  repeat' (first|(with_reducible first|refine zA ?_|refine zB fun K hK=>?_|refine zC fun K2 hK2=>?_|refine zD ?_|refine zE ?_|refine zF ?_|refine zG ?_|refine zH ?_|refine zI ?_|refine zJ ?_|refine zK ?_|refine zL ?_|refine zM ?_|refine zN ?_|refine zO ?_|refine zP ?_|refine zQ ?_|refine zR ?_|refine zS ?_|refine zT ?_)|((with_reducible refine zU (hK _ _ ?_));clear hK K)|((with_reducible refine zV ?_ ?_ fun K1 K3 d hdst h1 h3=>?_);rfl;exact yB rfl;cases hdst;go_simp)|((with_reducible refine zW fun K1 K3 h1 h3=>?_);go_simp)|((first|refine h1 ?_|refine h3 ?_);clear h1 h3 K1 K3)|((first|refine zX (fun hb=>h1 ?_) (fun hb=>h3 ?_)|refine zX (fun hb=>h3 ?_) (fun hb=>h1 ?_))<;>(clear h1 h3 K1 K3;(try have hb2:=yC hb);(try have hb2:=yD hb);(try have hb2:=yE hb);(try have hb2:=yF hb);(try have hb2:=yG hb)))|(refine fun (K2:_→AHeap→Prop) hK2=>?_)|((with_reducible refine zY ?_ ?_);decide)|((with_reducible first|refine zZ ?_ (fun K hK=>?_)|refine yA ?_ (fun K hK=>?_));(focus go_simp;done);go_simp;refine hK _ _ ?_;clear hK K)|(go_simp;(try go_bits);(try first | ((with_reducible show CallS _ _ _ _ _ _);refine CallS.mono (HE.out _ _ HX1.out) ?_; rintro _ H1 ⟨⟨oa, on, oc, pi, fa, fn, la, ln, oa', on', oc', pi', fa', fn', la', ln', rfl, hres⟩, hx⟩; (have HR := Lib.hid hres); (have HX2 := Lib.hid (HX1.out.trans hx)); (have hn1 : H.n < H1.n := by have := hx.n; simp only [AHeap.n_push] at this; omega); (have hc01 : cellsAt H1 H.n 0 2 = some [Value.slice wa s.words.length wc, Value.slice aa s.alts.length ac] := by rw [hx.cellsAt (by simp only [AHeap.n_push]; omega), cellsAt_push, if_neg (by simp only [AHeap.n_push]; omega), cellsAt_push, if_neg (by simp only [AHeap.n_push]; omega), cellsAt_push, if_pos rfl]; rfl); clear hres hx));refine hK2 _ _ ?_;clear hK2 K2))
  · have hz : ¬ er = 0 := by simpa using hb
    refine ⟨⟨_, _, rfl, ?_, ?_⟩, (HX2.out.push' _).push' _⟩
    · rw [HSL.out, if_neg hz]; exact ints_nil _
    · rw [HML.out, if_neg hz]; exact ints_nil _
  have hz : er = 0 := by simpa using hb
  have h12 := HN.out hz
  obtain ⟨o1, o2, o3, o4⟩ := HR.out hz
  have hI1 : Ints H1 (.slice fa fn fn) (firstL s c) := ints_of_own o1 (ends_len s c).1
  have hI2 : Ints H1 (.slice la ln ln) (lastL s c) := ints_of_own o2 (ends_len s c).2
  have hI3 : Ints H1 (.slice fa' fn' fn') (firstL s d) := ints_of_own o3 (ends_len s d).1
  have hI4 : Ints H1 (.slice la' ln' ln') (lastL s d) := ints_of_own o4 (ends_len s d).2
  have HC1 := Lib.hid (fun (loops : List (Nat × LInfo)) (H3 : AHeap) (hx3 : Ext ((H1.push (.row [.slice oa on oc, .int .i64 pi, .slice fa fn fn, .slice la ln ln] 120)).push (.row [.slice oa' on' oc', .int .i64 pi', .slice fa' fn' fn', .slice la' ln' ln'] 120)) H3) => HI.out loops H3 (((HX2.out.push' _).push' _).trans hx3) h12 81 #[.pointer (some ⟨H1.n, 0, none⟩), .pointer (some ⟨H1.n + 1, 0, none⟩)] (fun a => !bef (lastL s c) a && bef (firstL s d) a) ok81 (fun loops H2 a hx ha => betw1_s (by have h1 := hx3.n; have h2 := hx.n; simp only [AHeap.n_push] at h1; omega) (by have h1 := hx3.n; have h2 := hx.n; simp only [AHeap.n_push] at h1; omega) (by have h1 := hx3.n; simp only [AHeap.n_push] at h1; rw [hx.cellAt (by omega), hx3.cellAt (by simp only [AHeap.n_push]; omega), cellAt_push, if_neg (by rw [AHeap.n_push]; omega), cellAt_new]; rfl) (by have h1 := hx3.n; simp only [AHeap.n_push] at h1; rw [hx.cellAt (by omega), hx3.cellAt (by simp only [AHeap.n_push]; omega), cellAt_push, if_pos (by rw [AHeap.n_push])]; rfl) ((((hI2.ext (Ext.push _)).ext (Ext.push _)).ext hx3).ext hx) ((((hI3.ext (Ext.push _)).ext (Ext.push _)).ext hx3).ext hx) (HB.out hz a ha).1 (HB.out hz a ha).2.2.1 (HB.out hz a ha).2.2.2.1))
  have HC2 := Lib.hid (fun (loops : List (Nat × LInfo)) (H3 : AHeap) (hx3 : Ext ((H1.push (.row [.slice oa on oc, .int .i64 pi, .slice fa fn fn, .slice la ln ln] 120)).push (.row [.slice oa' on' oc', .int .i64 pi', .slice fa' fn' fn', .slice la' ln' ln'] 120)) H3) => HI.out loops H3 (((HX2.out.push' _).push' _).trans hx3) h12 82 #[.pointer (some ⟨H1.n, 0, none⟩), .pointer (some ⟨H1.n + 1, 0, none⟩)] (fun a => !bef (firstL s c) a && bef (lastL s d) a) ok82 (fun loops H2 a hx ha => betw2_s (by have h1 := hx3.n; have h2 := hx.n; simp only [AHeap.n_push] at h1; omega) (by have h1 := hx3.n; have h2 := hx.n; simp only [AHeap.n_push] at h1; omega) (by have h1 := hx3.n; simp only [AHeap.n_push] at h1; rw [hx.cellAt (by omega), hx3.cellAt (by simp only [AHeap.n_push]; omega), cellAt_push, if_neg (by rw [AHeap.n_push]; omega), cellAt_new]; rfl) (by have h1 := hx3.n; simp only [AHeap.n_push] at h1; rw [hx.cellAt (by omega), hx3.cellAt (by simp only [AHeap.n_push]; omega), cellAt_push, if_pos (by rw [AHeap.n_push])]; rfl) ((((hI1.ext (Ext.push _)).ext (Ext.push _)).ext hx3).ext hx) ((((hI4.ext (Ext.push _)).ext (Ext.push _)).ext hx3).ext hx) (HB.out hz a ha).1 (HB.out hz a ha).2.1 (HB.out hz a ha).2.2.2.2))
  rw [if_pos hz] at HSL HML
  have HO1 := Lib.hid (fun (H' : AHeap) (bs : Nat) (v : Value) (h : Own H' bs v 3 1 ((idsL s (fun a => !bef (lastL s c) a && bef (firstL s d) a)).map (Value.int .i64))) => ids_own h h12)
  have HO2 := Lib.hid (fun (H' : AHeap) (bs : Nat) (v : Value) (h : Own H' bs v 3 1 ((idsL s (fun a => !bef (firstL s c) a && bef (lastL s d) a)).map (Value.int .i64))) => ids_own h h12)
  generalize idsL s (fun a => !bef (lastL s c) a && bef (firstL s d) a) = I1 at HSL HC1 HO1
  generalize idsL s (fun a => !bef (firstL s c) a && bef (lastL s d) a) = I2 at HML HC2 HO2
  have hnz : er = 0 := hz
  clear hI1 hI2 hI3 hI4 HI HE HB HN HR o1 o2 o3 o4 hb
  repeat' (first|(with_reducible first|refine zA ?_|refine zB fun K hK=>?_|refine zC fun K2 hK2=>?_|refine zD ?_|refine zE ?_|refine zF ?_|refine zG ?_|refine zH ?_|refine zI ?_|refine zJ ?_|refine zK ?_|refine zL ?_|refine zM ?_|refine zN ?_|refine zO ?_|refine zP ?_|refine zQ ?_|refine zR ?_|refine zS ?_|refine zT ?_)|((with_reducible refine zU (hK _ _ ?_));clear hK K)|((with_reducible refine zV ?_ ?_ fun K1 K3 d hdst h1 h3=>?_);rfl;exact yB rfl;cases hdst;go_simp)|((with_reducible refine zW fun K1 K3 h1 h3=>?_);go_simp)|((first|refine h1 ?_|refine h3 ?_);clear h1 h3 K1 K3)|((first|refine zX (fun hb=>h1 ?_) (fun hb=>h3 ?_)|refine zX (fun hb=>h3 ?_) (fun hb=>h1 ?_))<;>(clear h1 h3 K1 K3;(try have hb2:=yC hb);(try have hb2:=yD hb);(try have hb2:=yE hb);(try have hb2:=yF hb);(try have hb2:=yG hb)))|(refine fun (K2:_→AHeap→Prop) hK2=>?_)|((with_reducible refine zY ?_ ?_);decide)|((with_reducible first|refine zZ ?_ (fun K hK=>?_)|refine yA ?_ (fun K hK=>?_));(focus go_simp;done);go_simp;refine hK _ _ ?_;clear hK K)|(go_simp;(try go_bits);(try first | ((with_reducible show CallS _ _ _ _ _ _);refine CallS.mono (HC1.out _ _ (Ext.refl _)) ?_; rintro v1 H2 ⟨ho, hx⟩; (have HV1 := Lib.hid (HO1.out _ _ _ ho)); (have HX3 := Lib.hid hx); (have hc02 : cellsAt H2 H.n 0 2 = some [Value.slice wa s.words.length wc, Value.slice aa s.alts.length ac] := by rw [hx.cellsAt (by simp only [AHeap.n_push]; omega), cellsAt_push, if_neg (by simp only [AHeap.n_push]; omega), cellsAt_push, if_neg (by omega)]; exact hc01); (have hn2 : H1.n < H2.n := by have := hx.n; simp only [AHeap.n_push] at this; omega); clear ho hx) | ((with_reducible show CallS _ _ _ _ _ _);refine CallS.mono (HC2.out _ _ HX3.out) ?_; rintro v2 H3 ⟨ho, hx⟩; (have HV2 := Lib.hid (HO2.out _ _ _ ho)); (have HV12 := Lib.hid (HV1.out.ext hx)); (have HX4 := Lib.hid (HX3.out.trans hx)); clear ho hx));refine hK2 _ _ ?_;clear hK2 K2))
  refine ⟨⟨_, _, by rw [hnz], ?_, ?_⟩, ((HX2.out.push' _).push' _).trans HX4.out⟩
  · rw [HSL.out]; exact HV12.out
  · rw [HML.out]; exact HV2.out
end Go.Proofs.Try
