/- Contracts of functions, walked. -/
import Derived.Test.YtbpdmnkbehapcaaStQA
import Derived.Test.YtbpdmnkbehapcaaAwB
import Derived.Test.YtbpdmnkbehapcaaStQ5
set_option linter.all false
namespace Go.Proofs.Try
open Go Go.Am Go.RowKit
set_option maxRecDepth 100000


def loN (fls : List Flaw) (i : Nat) : Int := (fls.getD i nowhere).lo
def hiN (fls : List Flaw) (i : Nat) : Int := (fls.getD i nowhere).hi
theorem getD_in {fls : List Flaw} {i : Nat} (h : i < fls.length) : fls.getD i nowhere = fls[i] := by rw [List.getD_eq_getElem?_getD, List.getElem?_eq_getElem h]; rfl
structure FullFor (fls : List Flaw) (D0 D : Nat → Int) (u : Nat) (lo hi : Int) (L : List Nat) (T : Nat → Int) : Prop where
  tr : Trail (canD fls D0) D u L T
  lt : ∀ l, l ∈ L → l < fls.length
  full : Full (canD fls D0) D L
  lo1 : ∃ a, a ∈ L ∧ lo = loN fls a
  lo2 : ∀ l, l ∈ L → lo ≤ loN fls l
  hi1 : ∃ a, a ∈ L ∧ hi = hiN fls a
  hi2 : ∀ l, l ∈ L → hiN fls l ≤ hi

theorem st30q : structOk Try.prog 30 = true := by kernel_rfl
theorem stop_seq {P : Program} {cx : Cx} {f : AF} {H : AHeap} {Q : Post} {n : Nat} {ops : Array Oper} {b : Bool} {z : Code} (h : Stop (CodeS P cx (.seq (.region n ops b) z) f H Q)) : CodeS P cx (.seq (.region n ops b) z) f H Q := h.out
theorem trend_full {fls : List Flaw} {D0 D : Nat → Int} {u N : Nat} {L : List Nat} {T : Nat → Int} {fr : Int} (hb : BestOf (canD fls D0) (meritN fls) D N) (hu : u < N) (hn : ¬ Has D u) (h : TrEnd fls D0 D u L T fr) : Full (canD fls D0) D L := by
  obtain ⟨htr, hlt, ⟨-, hf⟩ | ⟨d, l, -, hd, hT, hD⟩⟩ := h
  · exact hf
  · exfalso
    obtain ⟨S, hS⟩ := hb.cert u hu hn
    obtain ⟨hc, j, hj, -⟩ := htr.take d l hT
    have h1 := trail_cert hS htr (j + 1) j l (Nat.lt_succ_self j) hj
    obtain ⟨g, hg, -⟩ := hS.days l h1 d hc
    omega

set_option maxHeartbeats 4000000 in
theorem fullFor_e {loops : List (Nat × LInfo)} {H : AHeap} {p x : Nat} {fa : Option Addr} {fc : Nat} {fls : List Flaw} {D0 D : Nat → Int} (hp : p < H.n) (gp : H.get p = .row (planCells (.slice fa fls.length fc) D) 84) (hf : Flaws H (.slice fa fls.length fc) fls) (hok : ∀ a, a ∈ fls → FOk a) (hpl : PlanD fls D0 D) (hx : x < fls.length) (hnx : ¬ Has D x) (hfl : fls.length ≤ 1000)
    (hb : BestOf (canD fls D0) (meritN fls) D fls.length) :
    CallS Try.prog loops 73 [.pointer (some ⟨p, 0, none⟩), .int .i64 x] H fun r H' => (∃ lo hi L T, r = .agg #[.int .i64 lo, .int .i64 hi] ∧ FullFor fls D0 D x lo hi L T) ∧ Ext H H' := by
  have HF := Lib.hid hf
  have HOK := Lib.hid hok
  have GP := Lib.hid gp
  have HT := Lib.hid (fun (loops : List (Nat × LInfo)) (H2 : AHeap) (hx2 : Ext H H2) => (trailOf_e (loops := loops) (H := H2) (p := p) (x := x) (Nat.lt_of_lt_of_le hp hx2.n) ((hx2.get p hp).trans gp) (hf.ext hx2) hok hpl hx hnx hfl).mono (fun r H' (h : (∃ (lv : Value) (Ls : List Nat) (T : Nat → Int) (fr : Int), r = .agg (trCells lv T fr).toArray ∧ TrEnd fls D0 D x Ls T fr ∧ Own H' H2.n lv 3 1 ((Ls.map fun i : Nat => (i : Int)).map (Value.int .i64))) ∧ Ext H2 H') =>
    (⟨let ⟨lv, Ls, T, fr, h1, h2, h3⟩ := h.1; ⟨lv, Ls, T, fr, h1, ⟨h2.1, h2.2.1, trend_full hb hx hnx h2⟩, h3⟩, h.2⟩ : (∃ (lv : Value) (Ls : List Nat) (T : Nat → Int) (fr : Int), r = .agg (trCells lv T fr).toArray ∧ (Trail (canD fls D0) D x Ls T ∧ (∀ l, l ∈ Ls → l < fls.length) ∧ Full (canD fls D0) D Ls) ∧ Own H' H2.n lv 3 1 ((Ls.map fun i : Nat => (i : Int)).map (Value.int .i64))) ∧ Ext H2 H')))
  clear gp hf hok hpl hnx hb
  refine CallS.enter' Try.func73 rfl Try.ntmps73 (by simp) fun f hd hf => ?_
  have f0 := hf 0
  have f1 := hf 1
  simp at f0 f1
  clear hf
  repeat' (first|((with_reducible refine stop_seq (n := 2) ?_))|(with_reducible first|refine zA ?_|refine zB fun K hK=>?_|refine zC fun K2 hK2=>?_|refine zD ?_|refine zE ?_|refine zF ?_|refine zG ?_|refine zH ?_|refine zI ?_|refine zM ?_|refine zN ?_|refine zO ?_|refine zP ?_|refine zQ ?_|refine zR ?_)|((with_reducible refine zU (hK _ _ ?_));clear hK K)|((with_reducible refine zV ?_ ?_ fun K1 K3 d hdst h1 h3=>?_);rfl;exact yB rfl;cases hdst;go_simp)|((with_reducible refine zW fun K1 K3 h1 h3=>?_);go_simp)|((first|refine h1 ?_|refine h3 ?_);clear h1 h3 K1 K3)|((first|refine zX (fun hb=>h1 ?_) (fun hb=>h3 ?_)|refine zX (fun hb=>h3 ?_) (fun hb=>h1 ?_))<;>(clear h1 h3 K1 K3;(try have hb2:=yC hb);(try have hb2:=yD hb);(try have hb2:=yE hb);(try have hb2:=yF hb);(try have hb2:=yG hb)))|(refine fun (K2:_→AHeap→Prop) hK2=>?_)|((with_reducible refine zY ?_ ?_);decide)|((with_reducible first|refine zZ ?_ (fun K hK=>?_)|refine yA ?_ (fun K hK=>?_));(focus go_simp;done);go_simp;refine hK _ _ ?_;clear hK K)|(go_simp;(try go_bits);(try first | ((with_reducible show CallS _ _ _ _ _ _);refine CallS.mono (HT.out _ _ (((Ext.refl _).push' _).push' _)) ?_; rintro _ H2 ⟨⟨lv, Ls, T, fr, rfl, he, ho⟩, hx2⟩; (have HE := Lib.hid he); (have HO := Lib.hid ho); (have HX2 := Lib.hid hx2); clear he ho hx2; (obtain ⟨la, ln, rfl⟩ := own_slice HO.out)));refine hK2 _ _ ?_;clear hK2 K2))
  have hn2 : H.n + 1 < H2.n := by have := HX2.out.n; simp only [AHeap.n_push] at this; omega
  have hxK : Ext H (H2.push (.row (trCells (.slice la ln ln) T fr) 124)) := ((((Ext.refl _).push' _).push' _).trans HX2.out).push' _
  have hgb : (H2.push (.row (trCells (.slice la ln ln) T fr) 124)).get H.n = .row [.pointer (some ⟨p, 0, none⟩)] 100 := by
    rw [AHeap.get_push_old (by omega), HX2.out.get _ (by simp only [AHeap.n_push]; omega), AHeap.get_push_old (by simp only [AHeap.n_push]; omega), AHeap.get_push_new]
  have hgr : (H2.push (.row (trCells (.slice la ln ln) T fr) 124)).get (H.n + 1) = .row [.int .i64 0, .int .i64 0] 30 := by
    rw [AHeap.get_push_old (by omega), HX2.out.get _ (by simp only [AHeap.n_push]; omega), show H.n + 1 = (H.push (.row [.pointer (some ⟨p, 0, none⟩)] 100)).n from rfl, AHeap.get_push_new]
  have hgs : (H2.push (.row (trCells (.slice la ln ln) T fr) 124)).get H2.n = .row (trCells (.slice la ln ln) T fr) 124 := AHeap.get_push_new
  have hgp : (H2.push (.row (trCells (.slice la ln ln) T fr) 124)).get p = .row (planCells (.slice fa fls.length fc) D) 84 := (hxK.get p hp).trans GP.out
  have hoK : Own (H2.push (.row (trCells (.slice la ln ln) T fr) 124)) H.n (.slice la ln ln) 3 1 ((Ls.map fun i : Nat => (i : Int)).map (Value.int .i64)) := (HO.out.mono (by simp only [AHeap.n_push]; omega)).ext (Ext.push _)
  have hnK : (H2.push (.row (trCells (.slice la ln ln) T fr) 124)).n = H2.n + 1 := AHeap.n_push _ _
  generalize hK : H2.push (.row (trCells (.slice la ln ln) T fr) 124) = K at hxK hgb hgr hgs hgp hoK hnK ⊢
  have HXK := Lib.hid hxK
  have HGB := Lib.hid hgb
  have HGS := Lib.hid hgs
  have HGP := Lib.hid hgp
  have HOK2 := Lib.hid hoK
  have HNK := Lib.hid hnK
  refine ⟨genC (fun f K' => f.tmp 2 = .pointer (some ⟨H.n, 0, none⟩) ∧ f.tmp 4 = .pointer (some ⟨H.n + 1, 0, none⟩) ∧ f.tmp 5 = .pointer (some ⟨H2.n, 0, none⟩) ∧ f.defers = [] ∧ K' = K) ⟨(by first|go_simp<;>go_num|assumption), (by first|go_simp<;>go_num|assumption), (by first|go_simp<;>go_num|assumption), (by first|go_simp<;>go_num|assumption), rfl⟩ ?_⟩
  clear f0 f1 hd f hxK hgs hoK hnK HO HX2 HT hK
  rintro f K' ⟨f2, f4, f5, hd, e9⟩
  have e9 := e9.symm
  subst e9
  obtain ⟨htr, hlt, hfull⟩ := HE.out
  have hL0 : 0 < ((Ls.map fun i : Nat => (i : Int))).length := by
    rw [List.length_map]
    exact (List.getElem?_eq_some_iff.1 htr.head).1
  have hLn : ((Ls.map fun i : Nat => (i : Int))).length ≤ 1000 := by
    rw [List.length_map]
    have := nodup_len Ls (List.range fls.length) htr.nodup (fun l hl => List.mem_range.2 (hlt l hl))
    rw [List.length_range] at this; omega
  have hHK : H.n < K.n := by have := HNK.out; omega
  have hpK : p < K.n := by omega
  have hFK := HF.out.ext HXK.out
  have HBA := Lib.hid (fun (loops : List (Nat × LInfo)) => bestOf_s (loops := loops) (g := 93) (cb := H.n) (w := fun z => -(loN fls z.toNat)) HOK2.out hL0 hLn (by kernel_rfl) (fun loops z hz => by
    obtain ⟨i, hi, rfl⟩ := List.mem_map.1 hz
    have hif := hlt i hi
    have h9 := cl93_s (loops := loops) hHK HGB.out hpK HGP.out hFK hif (HOK.out _ (List.getElem_mem hif))
    have hm : loN fls ((i : Int).toNat) = (fls[i]).lo := by rw [Int.toNat_natCast, loN, getD_in hif]
    rw [hm]; exact h9))
  have HBB := Lib.hid (fun (loops : List (Nat × LInfo)) => bestOf_s (loops := loops) (g := 94) (cb := H.n) (w := fun z => hiN fls z.toNat) HOK2.out hL0 hLn (by kernel_rfl) (fun loops z hz => by
    obtain ⟨i, hi, rfl⟩ := List.mem_map.1 hz
    have hif := hlt i hi
    have h9 := cl94_s (loops := loops) hHK HGB.out hpK HGP.out hFK hif
    have hm : hiN fls ((i : Int).toNat) = (fls[i]).hi := by rw [Int.toNat_natCast, hiN, getD_in hif]
    rw [hm]; exact h9))
  obtain ⟨hy1, hy2⟩ := bestL_spec (w := fun z => -(loN fls z.toNat)) hL0
  obtain ⟨y, hyL, hye⟩ := List.mem_map.1 hy1
  have hmin : ∀ i, i ∈ Ls → loN fls y ≤ loN fls i := fun i hi => by
    have h9 := hy2 (i : Int) (List.mem_map.2 ⟨i, hi, rfl⟩)
    rw [← hye] at h9
    simp only [Int.toNat_natCast] at h9
    omega
  obtain ⟨hz1, hz2⟩ := bestL_spec (w := fun z => hiN fls z.toNat) hL0
  obtain ⟨z, hzL, hze⟩ := List.mem_map.1 hz1
  have hmax : ∀ i, i ∈ Ls → hiN fls i ≤ hiN fls z := fun i hi => by
    have h9 := hz2 (i : Int) (List.mem_map.2 ⟨i, hi, rfl⟩)
    rw [← hze] at h9
    simpa only [Int.toNat_natCast] using h9
  rw [← hye] at HBA
  rw [← hze] at HBB
  have HFF : Hid (FullFor fls D0 D x (loN fls y) (hiN fls z) Ls T) := Lib.hid ⟨htr, hlt, hfull, ⟨y, hyL, rfl⟩, hmin, ⟨z, hzL, rfl⟩, hmax⟩
  have hyf := hlt y hyL
  have hzf := hlt z hzL
  obtain ⟨fb, fo, fsp, rfl, hfb, -, hcy⟩ := hFK.at_ hyf
  obtain ⟨fb2, fo2, fsp2, he2, -, -, hcz⟩ := hFK.at_ hzf
  cases he2
  have hy0 := hcy 1 _ rfl
  have hz0 := hcz 2 _ rfl
  have hcb : cellAt K H.n 0 = some (.pointer (some ⟨p, 0, none⟩)) := by simp [cellAt, HGB.out]
  have hcs : cellAt K H2.n 0 = some (.slice la ln ln) := by rw [cellAt, HGS.out]; rfl
  have hcp : cellAt K p 0 = some (.slice (some ⟨fb, fo, fsp⟩) fls.length fc) := by rw [cellAt, hgp]; rfl
  have hny : (y : Int) < (fls.length : Int) := by omega
  have hnz : (z : Int) < (fls.length : Int) := by omega
  rw [loN, getD_in hyf, hiN, getD_in hzf] at HFF
  generalize (fls[y]).lo = ylo at hy0 HFF
  generalize (fls[z]).hi = zhi at hz0 HFF
  clear htr hlt hfull hL0 hLn hy1 hy2 hyL hye hmin hz1 hz2 hzL hze hmax hgb hgp hcy hcz hFK
  repeat' (first|(with_reducible first|refine zA ?_|refine zB fun K hK=>?_|refine zC fun K2 hK2=>?_|refine zD ?_|refine zE ?_|refine zF ?_|refine zG ?_|refine zH ?_|refine zI ?_|refine zM ?_|refine zN ?_|refine zO ?_|refine zP ?_|refine zQ ?_|refine zR ?_)|((with_reducible refine zU (hK _ _ ?_));clear hK K)|((with_reducible refine zV ?_ ?_ fun K1 K3 d hdst h1 h3=>?_);rfl;exact yB rfl;cases hdst;go_simp)|((with_reducible refine zW fun K1 K3 h1 h3=>?_);go_simp)|((first|refine h1 ?_|refine h3 ?_);clear h1 h3 K1 K3)|((first|refine zX (fun hb=>h1 ?_) (fun hb=>h3 ?_)|refine zX (fun hb=>h3 ?_) (fun hb=>h1 ?_))<;>(clear h1 h3 K1 K3;(try have hb2:=yC hb);(try have hb2:=yD hb);(try have hb2:=yE hb);(try have hb2:=yF hb);(try have hb2:=yG hb)))|(refine fun (K2:_→AHeap→Prop) hK2=>?_)|((with_reducible refine zY ?_ ?_);decide)|((with_reducible first|refine zZ ?_ (fun K hK=>?_)|refine yA ?_ (fun K hK=>?_));(focus go_simp;done);go_simp;refine hK _ _ ?_;clear hK K)|((with_reducible refine yH mixed rfl ?_ 20 fun K0 hK0=>?_);kernel_rfl)|(with_reducible first|exact yI|exact yJ|refine yK ?_|refine yL ?_|refine yM ?_)|((with_reducible first|refine yN ?_ ?_|refine yO ?_ ?_|refine yP ?_ ?_);rfl)|((with_reducible refine yQ ?_ ?_);rfl;refine hK0 _ _ ?_;clear hK0 K0)|((with_reducible refine yR ?_ ?_ ?_ ?_);rfl;rfl;rfl)|((with_reducible refine yS ?_ ?_ ?_ fun K2 hK2=>?_);rfl;rfl;exact yB rfl)|((with_reducible refine yT ?_ ?_ ?_ ?_ fun K1 K3 d hdst h1 h3=>?_);rfl;rfl;rfl;exact yB rfl;cases hdst;go_simp)|((with_reducible refine yU ?_ ?_ ?_ ?_ fun K1 K3 d hdst h1 h3=>?_);rfl;rfl;rfl;exact yB rfl;cases hdst;go_simp)|((with_reducible refine yV ?_ ?_ (fun K2 hK2=>?_) ?_);rfl;exact yB rfl)|((with_reducible refine yW ?_ ?_ ?_ ?_ (fun K2 hK2=>?_) ?_);rfl;exact yB rfl;rfl;(focus go_simp;done))|((with_reducible refine yX ?_ ?_ ?_ (fun K2 hK2=>?_) ?_);rfl;rfl;exact yB rfl)|((with_reducible refine yY ?_ ?_ (fun K2 hK2=>?_) ?_);rfl;rfl)|((with_reducible refine yZ ?_ ?_);(first|rfl|(dsimp only;decide +kernel)))|((with_reducible refine xA ?_ ?_);(focus go_simp;done))|(go_simp;(try go_bits);(try first |((with_reducible show CallS _ _ _ _ _ _);first|(refine CallS.mono (HBA.out _) ?_; rintro _ _ ⟨rfl, h9⟩; rw [h9]; clear h9; go_simp)|(refine CallS.mono (HBB.out _) ?_; rintro _ _ ⟨rfl, h9⟩; rw [h9]; clear h9; go_simp))|((rw [aBuild_struct st30q ze30]); go_simp));(first|(refine hK2 _ _ ?_ ?_<;>clear hK2 K2)|(refine hK2 _ _ ?_;clear hK2 K2))))
  all_goals exact ⟨⟨ylo, zhi, Ls, T, rfl, HFF.out⟩, HXK.out.upd (by omega) _⟩
end Go.Proofs.Try
namespace Go.Proofs.Try
open Go Go.Am Go.RowKit
set_option maxRecDepth 100000


theorem st28q : structOk Try.prog 28 = true := by kernel_rfl
def spanCells (l : List (Int × Int)) : List Value := l.flatMap fun s => [.int .i64 s.1, .int .i64 s.2]
theorem spanCells_length : ∀ l : List (Int × Int), (spanCells l).length = l.length * 2
  | [] => rfl
  | s :: l => by
    have ih := spanCells_length l
    simp only [spanCells, List.flatMap_cons, List.length_append, List.length_cons, List.length_nil] at ih ⊢
    omega
theorem spanCells_one : ∀ l : List (Int × Int), (spanCells l).all oneV = true
  | [] => rfl
  | s :: l => by
    have ih := spanCells_one l
    simp only [spanCells, List.flatMap_cons, List.all_append] at ih ⊢
    rw [ih]; rfl
theorem spanCells_append {l m : List (Int × Int)} : spanCells (l ++ m) = spanCells l ++ spanCells m := by simp [spanCells]
def Spans (H : AHeap) (v : Value) (l : List (Int × Int)) : Prop := Cells H v 2 l.length (spanCells l)
theorem spans_own {H : AHeap} {base : Nat} {v : Value} {l : List (Int × Int)} (h : Own H base v 30 2 (spanCells l)) (hl : l.length ≤ 9223372036854775807) : Spans H v l := by
  rcases h with ⟨h1, h2⟩ | ⟨b, n, h1, h2, h3, h4, h5, h6⟩
  · subst h1
    have h3 := congrArg List.length h2
    rw [spanCells_length] at h3
    have h3 : l = [] := by
      cases l with
      | nil => rfl
      | cons a l => simp at h3
    subst h3
    exact ⟨rfl, hl, none, 0, rfl, fun _ => rfl, fun h => absurd h (Nat.lt_irrefl _)⟩
  · subst h1
    have hn : n = l.length := by rw [spanCells_length] at h5; omega
    subst hn
    refine ⟨spanCells_length l, hl, _, _, rfl, (fun h => by cases h), fun _ => ⟨b, 0, none, rfl, h3, fun j u hu => ?_⟩⟩
    simp only [cellAt, h4, Nat.zero_add]; exact hu

def onOf (C : Nat → Int) (n : Nat) : List Int := (List.range n).map fun i : Nat => dayI C (i : Int)
theorem onOf_succ {C : Nat → Int} {n : Nat} : onOf C (n + 1) = onOf C n ++ [dayI C (n : Int)] := by simp [onOf, List.range_succ]
structure FullsOf (fls : List Flaw) (D0 C : Nat → Int) (l : List (Int × Int)) : Prop where
  at_ : ∀ (i : Nat) (h : i < l.length), (dayI C (i : Int) ≠ -1 → l[i] = (0, 0)) ∧ (dayI C (i : Int) = -1 → ∃ L T, FullFor fls D0 C i (l[i]).1 (l[i]).2 L T)
theorem FullsOf.nil {fls : List Flaw} {D0 C : Nat → Int} : FullsOf fls D0 C [] := ⟨fun i h => absurd h (Nat.not_lt_zero i)⟩
theorem FullsOf.more {fls : List Flaw} {D0 C : Nat → Int} {l : List (Int × Int)} {s : Int × Int} (h : FullsOf fls D0 C l) (h1 : dayI C (l.length : Int) ≠ -1 → s = (0, 0)) (h2 : dayI C (l.length : Int) = -1 → ∃ L T, FullFor fls D0 C l.length s.1 s.2 L T) : FullsOf fls D0 C (l ++ [s]) := by
  refine ⟨fun i hi => ?_⟩
  rcases Nat.lt_or_ge i l.length with h3 | h3
  · rw [List.getElem_append_left h3]; exact h.at_ i h3
  · have : i = l.length := by simp at hi; omega
    subst this
    rw [List.getElem_append_right (Nat.le_refl _)]
    simp only [Nat.sub_self, List.getElem_cons_zero]
    exact ⟨h1, h2⟩

set_option maxHeartbeats 4000000 in
theorem mending_e {loops : List (Nat × LInfo)} {H : AHeap} {p : Nat} {fa : Option Addr} {fc : Nat} {fls : List Flaw} {D0 C : Nat → Int} (hp : p < H.n) (gp : H.get p = .row (planCells (.slice fa fls.length fc) C) 84) (hf : Flaws H (.slice fa fls.length fc) fls) (hok : ∀ a, a ∈ fls → FOk a) (hpl : PlanD fls D0 C) (hfl : fls.length ≤ 1000)
    (hb : BestOf (canD fls D0) (meritN fls) C fls.length) :
    CallS Try.prog loops 41 [.pointer (some ⟨p, 0, none⟩)] H fun r H' => (∃ ov fv l, r = .agg #[ov, .int .i64 (worthD (meritN fls) C 120), fv] ∧ Own H' H.n ov 3 1 ((onOf C fls.length).map (Value.int .i64)) ∧ Own H' H.n fv 30 2 (spanCells l) ∧ l.length = fls.length ∧ FullsOf fls D0 C l) ∧ Ext H H' := by
  have GP := Lib.hid gp
  have HWO := Lib.hid (fun (loops : List (Nat × LInfo)) (H2 : AHeap) (hx2 : Ext H H2) => worth_s (loops := loops) (H := H2) (p := p) (Nat.lt_of_lt_of_le hp hx2.n) ((hx2.get p hp).trans gp) (hf.ext hx2) hok hpl.val)
  have HDO := Lib.hid (fun (loops : List (Nat × LInfo)) (H2 : AHeap) (i : Nat) (hx2 : Ext H H2) => dayOf_s (loops := loops) (H := H2) (p := p) (x := (i : Int)) (Nat.lt_of_lt_of_le hp hx2.n) ((hx2.get p hp).trans gp))
  have HFU := Lib.hid (fun (loops : List (Nat × LInfo)) (H2 : AHeap) (i : Nat) (hi : i < fls.length) (hn : dayI C (i : Int) = -1) (hx2 : Ext H H2) => fullFor_e (loops := loops) (H := H2) (p := p) (x := i) (Nat.lt_of_lt_of_le hp hx2.n) ((hx2.get p hp).trans gp) (hf.ext hx2) hok hpl hi (fun ⟨d, hd⟩ => by
    rcases dayI_spec C (i : Int) with ⟨-, h2⟩ | ⟨e, -, h2, -⟩
    · rcases Nat.lt_or_ge d 120 with h9 | h9
      · exact h2 d h9 hd
      · have := hpl.out d h9; omega
    · omega) hfl hb)
  have hc0 : cellAt H p 0 = some (.slice fa fls.length fc) := by rw [cellAt, gp]; rfl
  clear gp hf hok hpl hb
  generalize worthD (meritN fls) C 120 = w at HWO ⊢
  refine CallS.enter' Try.func41 rfl Try.ntmps41 (by simp) fun f hd hf => ?_
  have f0 := hf 0
  simp at f0
  clear hf
  repeat' (first|(with_reducible first|refine zA ?_|refine zB fun K hK=>?_|refine zC fun K2 hK2=>?_|refine zD ?_|refine zE ?_|refine zF ?_|refine zG ?_|refine zH ?_|refine zI ?_|refine zM ?_|refine zN ?_|refine zO ?_|refine zP ?_|refine zQ ?_|refine zR ?_)|((with_reducible refine zU (hK _ _ ?_));clear hK K)|((with_reducible refine zV ?_ ?_ fun K1 K3 d hdst h1 h3=>?_);rfl;exact yB rfl;cases hdst;go_simp)|((with_reducible refine zW fun K1 K3 h1 h3=>?_);go_simp)|((first|refine h1 ?_|refine h3 ?_);clear h1 h3 K1 K3)|((first|refine zX (fun hb=>h1 ?_) (fun hb=>h3 ?_)|refine zX (fun hb=>h3 ?_) (fun hb=>h1 ?_))<;>(clear h1 h3 K1 K3;(try have hb2:=yC hb);(try have hb2:=yD hb);(try have hb2:=yE hb);(try have hb2:=yF hb);(try have hb2:=yG hb)))|(refine fun (K2:_→AHeap→Prop) hK2=>?_)|((with_reducible refine zY ?_ ?_);decide)|((with_reducible first|refine zZ ?_ (fun K hK=>?_)|refine yA ?_ (fun K hK=>?_));(focus go_simp;done);go_simp;refine hK _ _ ?_;clear hK K)|(go_simp;(try go_bits);(try first | ((with_reducible show CallS _ _ _ _ _ _);refine CallS.mono (HWO.out _ _ ((Ext.refl _).push' _)) ?_; rintro _ _ ⟨rfl, h9⟩; rw [h9]; clear h9; go_simp) | ((rw [aBuild_struct st28q ze28]); go_simp));refine hK2 _ _ ?_;clear hK2 K2))
  obtain ⟨G, hG⟩ : ∃ G, G = (H.push (.row [.slice none 0 0, .int .i64 0, .slice none 0 0] 28)).push (.row [.slice none 0 0, .int .i64 w, .slice none 0 0] 28) := ⟨_, rfl⟩
  have hgn : G.n = H.n + 2 := by rw [hG]; simp only [AHeap.n_push]
  have hg1 : G.get (H.n + 1) = .row [.slice none 0 0, .int .i64 w, .slice none 0 0] 28 := by
    rw [hG, show H.n + 1 = (H.push (.row [.slice none 0 0, .int .i64 0, .slice none 0 0] 28)).n from rfl, AHeap.get_push_new]
  have hg0 : G.get H.n = .row [.slice none 0 0, .int .i64 0, .slice none 0 0] 28 := by
    rw [hG, AHeap.get_push_old (by simp only [AHeap.n_push]; omega), AHeap.get_push_new]
  have HXG : Hid (Ext H G) := Lib.hid (by rw [hG]; exact ((Ext.refl _).push' _).push' _)
  have HGN := Lib.hid hgn
  have HG1 := Lib.hid hg1
  have HG0 := Lib.hid hg0
  rw [← hG]
  clear hG hgn hg1 hg0
  refine CodeS.loop (fun m f H' => ∃ (k : Nat) (ov fv : Value) (l : List (Int × Int)), k ≤ fls.length ∧ m = fls.length - k ∧ f.tmp 14 = .int .i64 k ∧ f.tmp 0 = .pointer (some ⟨p, 0, none⟩) ∧ f.tmp 13 = .int .i64 fls.length ∧ f.tmp 2 = .pointer (some ⟨H.n, 0, none⟩) ∧ f.tmp 3 = .pointer (some ⟨H.n + 1, 0, none⟩) ∧ f.defers = [] ∧ Hid (FullsOf fls D0 C l) ∧ l.length = k ∧ Hid (Own H' (H.n + 2) ov 3 1 ((onOf C k).map (Value.int .i64))) ∧ Hid (Own H' (H.n + 2) fv 30 2 (spanCells l)) ∧ Hid (H'.get (H.n + 1) = .row [ov, .int .i64 w, fv] 28) ∧ Hid (H'.get H.n = .row [.slice none 0 0, .int .i64 0, .slice none 0 0] 28) ∧ Hid (Ext H H') ∧ H.n + 2 ≤ H'.n) fls.length ?_ ?_
  · exact ⟨0, .slice none 0 0, .slice none 0 0, [], by omega, by omega, (by first|go_simp<;>go_num|assumption), (by first|go_simp<;>go_num|assumption), (by first|go_simp<;>go_num|assumption), (by first|go_simp<;>go_num|assumption), (by first|go_simp<;>go_num|assumption), (by first|go_simp<;>go_num|assumption), Lib.hid FullsOf.nil, rfl, Lib.hid Own.nil, Lib.hid Own.nil, HG1, HG0, HXG, Nat.le_of_eq HGN.out.symm⟩
  clear f0 hd f HXG HGN HG1 HG0 G
  rintro m f H' ⟨k, ov, fv, l, hk, rfl, f14, f0, f13, f2, f3, hd, HFS, hlk, HOO, HOF, HG1, HG0, HX, hn2⟩
  obtain ⟨oa, on, rfl⟩ := own_slice HOO.out
  obtain ⟨va, vn, rfl⟩ := own_slice HOF.out
  by_cases hlt : k < fls.length
  · have hki : (k : Int) < (fls.length : Int) := by omega
    have HDK := Lib.hid (fun (loops : List (Nat × LInfo)) => HDO.out loops H' k HX.out)
    have HFK := Lib.hid (fun (loops : List (Nat × LInfo)) (H2 : AHeap) => HFU.out loops H2 k hlt)
    have HON : Hid (onOf C (k + 1) = onOf C k ++ [dayI C (k : Int)]) := Lib.hid onOf_succ
    have HMO : Hid (∀ s : Int × Int, (dayI C (k : Int) ≠ -1 → s = (0, 0)) → (dayI C (k : Int) = -1 → ∃ L T, FullFor fls D0 C k s.1 s.2 L T) → FullsOf fls D0 C (l ++ [s])) := Lib.hid (fun s h1 h2 => HFS.out.more (by rw [hlk]; exact h1) (by rw [hlk]; exact h2))
    generalize dayI C (k : Int) = day at HDK HFK HON HMO
    have hc1 : cellAt H' (H.n + 1) 0 = some (.slice oa on on) := by simp [cellAt, HG1.out]
    have hbig : (((onOf C k).map (Value.int .i64)).length + 1) * max 8 1 ≤ 1073741824 := by
      simp only [onOf, List.length_map, List.length_range]; simp; omega
    have HBIG := Lib.hid hbig
    have hbig2 : ((spanCells l).length + 2) * max 16 1 ≤ 1073741824 := by rw [spanCells_length]; simp; omega
    have HBIG2 := Lib.hid hbig2
    have HN2 := Lib.hid hn2
    clear hbig hbig2
    repeat' (first|((with_reducible refine stop_seq (n := 7) ?_))|(with_reducible first|refine zA ?_|refine zB fun K hK=>?_|refine zC fun K2 hK2=>?_|refine zD ?_|refine zE ?_|refine zF ?_|refine zG ?_|refine zH ?_|refine zI ?_|refine zM ?_|refine zN ?_|refine zO ?_|refine zP ?_|refine zQ ?_|refine zR ?_)|((with_reducible refine zU (hK _ _ ?_));clear hK K)|((with_reducible refine zV ?_ ?_ fun K1 K3 d hdst h1 h3=>?_);rfl;exact yB rfl;cases hdst;go_simp)|((with_reducible refine zW fun K1 K3 h1 h3=>?_);go_simp)|((first|refine h1 ?_|refine h3 ?_);clear h1 h3 K1 K3)|((first|refine zX (fun hb=>h1 ?_) (fun hb=>h3 ?_)|refine zX (fun hb=>h3 ?_) (fun hb=>h1 ?_))<;>(clear h1 h3 K1 K3;(try have hb2:=yC hb);(try have hb2:=yD hb);(try have hb2:=yE hb);(try have hb2:=yF hb);(try have hb2:=yG hb)))|(refine fun (K2:_→AHeap→Prop) hK2=>?_)|((with_reducible refine zY ?_ ?_);decide)|((with_reducible first|refine zZ ?_ (fun K hK=>?_)|refine yA ?_ (fun K hK=>?_));(focus go_simp;done);go_simp;refine hK _ _ ?_;clear hK K)|(go_simp;(try go_bits);(try first | ((with_reducible show CallS _ _ _ _ _ _);refine CallS.mono (HDK.out _) ?_; rintro _ _ ⟨rfl, h9⟩; rw [h9]; clear h9; go_simp) | ((refine one_k el22 sz3 ze3 rfl (by decide) (by decide) rfl rfl ?_); go_simp) | ((refine append_k el22 sz3 by3 ze3 rfl (by decide) (HOO.out.ext (Ext.push _)) (srcCells_new rfl) (by decide) rfl (by rw [List.all_append, oneV_ints]; rfl) HBIG.out (by rw [AHeap.n_push]; have := HN2.out; omega) fun v2 H4 ho4 hg4 => ?_); (obtain ⟨a2, n2, rfl⟩ := own_slice ho4); (have HO4 := Lib.hid ho4); (have HG4 := Lib.hid hg4); (have hs4 : H4.get (H.n + 1) = .row [.slice oa on on, .int .i64 w, .slice va vn vn] 28 := (hg4.2 (H.n + 1) (by rw [AHeap.n_push]; have := HN2.out; omega) (fun b n hv hn => by have := (own_block HOO.out hv hn).1; omega)).trans ((AHeap.get_push_old (by have := HN2.out; omega)).trans HG1.out)); clear ho4 hg4; go_simp));refine hK2 _ _ ?_;clear hK2 K2))
    obtain ⟨K, hK⟩ : ∃ K, K = H4.upd (H.n + 1) (.row [.slice a2 n2 n2, .int .i64 w, .slice va vn vn] 28) := ⟨_, rfl⟩
    have hn4 : H'.n ≤ H4.n := by have := HG4.out.1; rw [AHeap.n_push] at this; omega
    have hx4 : Ext H H4 := HG4.out.ext (HOO.out.ext (Ext.push _)) (by omega) (HX.out.push' _)
    have hxK : Ext H K := by rw [hK]; exact hx4.upd (by omega) _
    have hKn : K.n = H4.n := by rw [hK, AHeap.n_upd]
    have hK1 : K.get (H.n + 1) = .row [.slice a2 n2 n2, .int .i64 w, .slice va vn vn] 28 := by rw [hK, AHeap.get_upd_same]
    have hK0 : K.get H.n = .row [.slice none 0 0, .int .i64 0, .slice none 0 0] 28 := by
      rw [hK, AHeap.get_upd_ne (by omega), HG4.out.2 _ (by rw [AHeap.n_push]; omega) (fun b n hv hn => by have := (own_block HOO.out hv hn).1; omega), AHeap.get_push_old (by omega)]
      exact HG0.out
    have hOK : Own K (H.n + 2) (.slice a2 n2 n2) 3 1 ((onOf C (k + 1)).map (Value.int .i64)) := by
      rw [HON.out, List.map_append]
      exact own_at HO4.out (Nat.le_of_eq hKn.symm) fun i n hv hn => by
        have := (own_block HO4.out hv hn).1
        rw [hK, AHeap.get_upd_ne (by omega)]
    have hFK : Own K (H.n + 2) (.slice va vn vn) 30 2 (spanCells l) := own_at HOF.out (by omega) fun i n hv hn => by
      have h9 := own_block HOF.out hv hn
      rw [hK, AHeap.get_upd_ne (by omega), HG4.out.2 _ (by rw [AHeap.n_push]; omega) (fun b m hv2 hm e => by
        have h8 := own_block HOO.out hv2 hm
        subst e
        rw [h9.2.2] at h8
        have h7 := h8.2.2
        injection h7 with _ h6
        exact absurd h6 (by decide)), AHeap.get_push_old (by omega)]
    rw [← hK]
    have HXK := Lib.hid hxK
    have HK1 := Lib.hid hK1
    have HK0 := Lib.hid hK0
    have HOK2 := Lib.hid hOK
    have HFK2 := Lib.hid hFK
    have hcn : H.n + 2 ≤ K.n := by omega
    have HCN := Lib.hid hcn
    refine ⟨genC (fun f K' => f.tmp 14 = .int .i64 k ∧ f.tmp 4 = .int .i64 k ∧ f.tmp 5 = .int .i64 day ∧ f.tmp 0 = .pointer (some ⟨p, 0, none⟩) ∧ f.tmp 13 = .int .i64 fls.length ∧ f.tmp 2 = .pointer (some ⟨H.n, 0, none⟩) ∧ f.tmp 3 = .pointer (some ⟨H.n + 1, 0, none⟩) ∧ f.defers = [] ∧ K' = K) ⟨(by first|go_simp<;>go_num|assumption), (by first|go_simp<;>go_num|assumption), (by first|go_simp<;>go_num|assumption), (by first|go_simp<;>go_num|assumption), (by first|go_simp<;>go_num|assumption), (by first|go_simp<;>go_num|assumption), (by first|go_simp<;>go_num|assumption), (by first|go_simp<;>go_num|assumption), rfl⟩ ?_⟩
    have hk1 : cellAt K (H.n + 1) 2 = some (.slice va vn vn) := by simp [cellAt, hK1]
    clear f14 f0 f13 f2 f3 hd f hK hn4 hx4 hxK hKn hK1 hK0 hOK hFK HOO HOF HG1 HG0 HX hn2 hc1 HO4 HG4 hs4 HN2 HDK
    rintro f K' ⟨f14, f4, f5, f0, f13, f2, f3, hd, e9⟩
    have e9 := e9.symm
    subst e9
    by_cases hdy : day = -1
    · subst hdy
      have HFX := Lib.hid (fun (loops : List (Nat × LInfo)) => HFK.out loops K rfl HXK.out)
      clear hk1
      have hk1 : cellAt K (H.n + 1) 2 = some (.slice va vn vn) := by simp [cellAt, HK1.out]
      have hk2 := HK1.out
      repeat' (first|(with_reducible first|refine zA ?_|refine zB fun K hK=>?_|refine zC fun K2 hK2=>?_|refine zD ?_|refine zE ?_|refine zF ?_|refine zG ?_|refine zH ?_|refine zI ?_|refine zM ?_|refine zN ?_|refine zO ?_|refine zP ?_|refine zQ ?_|refine zR ?_)|((with_reducible refine zU (hK _ _ ?_));clear hK K)|((with_reducible refine zV ?_ ?_ fun K1 K3 d hdst h1 h3=>?_);rfl;exact yB rfl;cases hdst;go_simp)|((with_reducible refine zW fun K1 K3 h1 h3=>?_);go_simp)|((first|refine h1 ?_|refine h3 ?_);clear h1 h3 K1 K3)|((first|refine zX (fun hb=>h1 ?_) (fun hb=>h3 ?_)|refine zX (fun hb=>h3 ?_) (fun hb=>h1 ?_))<;>(clear h1 h3 K1 K3;(try have hb2:=yC hb);(try have hb2:=yD hb);(try have hb2:=yE hb);(try have hb2:=yF hb);(try have hb2:=yG hb)))|(refine fun (K2:_→AHeap→Prop) hK2=>?_)|((with_reducible refine zY ?_ ?_);decide)|((with_reducible first|refine zZ ?_ (fun K hK=>?_)|refine yA ?_ (fun K hK=>?_));(focus go_simp;done);go_simp;refine hK _ _ ?_;clear hK K)|((with_reducible refine yH mixed rfl ?_ 20 fun K0 hK0=>?_);kernel_rfl)|(with_reducible first|exact yI|exact yJ|refine yK ?_|refine yL ?_|refine yM ?_)|((with_reducible first|refine yN ?_ ?_|refine yO ?_ ?_|refine yP ?_ ?_);rfl)|((with_reducible refine yQ ?_ ?_);rfl;refine hK0 _ _ ?_;clear hK0 K0)|((with_reducible refine yR ?_ ?_ ?_ ?_);rfl;rfl;rfl)|((with_reducible refine yS ?_ ?_ ?_ fun K2 hK2=>?_);rfl;rfl;exact yB rfl)|((with_reducible refine yT ?_ ?_ ?_ ?_ fun K1 K3 d hdst h1 h3=>?_);rfl;rfl;rfl;exact yB rfl;cases hdst;go_simp)|((with_reducible refine yU ?_ ?_ ?_ ?_ fun K1 K3 d hdst h1 h3=>?_);rfl;rfl;rfl;exact yB rfl;cases hdst;go_simp)|((with_reducible refine yV ?_ ?_ (fun K2 hK2=>?_) ?_);rfl;exact yB rfl)|((with_reducible refine yW ?_ ?_ ?_ ?_ (fun K2 hK2=>?_) ?_);rfl;exact yB rfl;rfl;(focus go_simp;done))|((with_reducible refine yX ?_ ?_ ?_ (fun K2 hK2=>?_) ?_);rfl;rfl;exact yB rfl)|((with_reducible refine yY ?_ ?_ (fun K2 hK2=>?_) ?_);rfl;rfl)|((with_reducible refine yZ ?_ ?_);(first|rfl|(dsimp only;decide +kernel)))|((with_reducible refine xA ?_ ?_);(focus go_simp;done))|(go_simp;(try go_bits);(try first | ((with_reducible show CallS _ _ _ _ _ _);refine CallS.mono (HFX.out _) ?_; rintro _ H6 ⟨⟨lo, hi, L6, T6, rfl, hff⟩, hx6⟩; (have HFF := Lib.hid hff); (have HX6 := Lib.hid hx6); (have hk6 : H6.get (H.n + 1) = .row [.slice a2 n2 n2, .int .i64 w, .slice va vn vn] 28 := (hx6.get _ (by have := HCN.out; omega)).trans HK1.out); (have hk6c : cellAt H6 (H.n + 1) 2 = some (.slice va vn vn) := by simp [cellAt, hk6]); (have hk6n : H.n + 1 < H6.n := by have := hx6.n; have := HCN.out; omega); clear hff hx6; go_simp) | ((refine one_v el26 sz30 ze30 rfl (by decide) (by decide) rfl rfl ?_); go_simp) | ((refine append_v el26 sz30 by30 ze30 rfl (by decide) ((HFK2.out.ext HX6.out).ext (Ext.push _)) (srcCells_new rfl) (by decide) rfl (by rw [List.all_append, spanCells_one]; rfl) HBIG2.out (by rw [AHeap.n_push]; have := HX6.out.n; have := HCN.out; omega) fun v2 H7 ho7 hg7 => ?_); (obtain ⟨a7, n7, rfl⟩ := own_slice ho7); (have HO7 := Lib.hid ho7); (have HG7 := Lib.hid hg7); (have hk7 : H7.get (H.n + 1) = .row [.slice a2 n2 n2, .int .i64 w, .slice va vn vn] 28 := (hg7.2 (H.n + 1) (by rw [AHeap.n_push]; have := HX6.out.n; have := HCN.out; omega) (fun b n hv hn => by have := (own_block HFK2.out hv hn).1; omega)).trans ((AHeap.get_push_old (by have := HX6.out.n; have := HCN.out; omega)).trans hk6)); (have hk7c : cellAt H7 (H.n + 1) 2 = some (.slice va vn vn) := by simp [cellAt, hk7]); clear ho7 hg7; go_simp));(first|(refine hK2 _ _ ?_ ?_<;>clear hK2 K2)|(refine hK2 _ _ ?_;clear hK2 K2))))
      have hn7 : H6.n + 1 ≤ H7.n := by have := HG7.out.1; rw [AHeap.n_push] at this; exact this
      have hn6 := HX6.out.n
      have hcn := HCN.out
      have hx7 : Ext H H7 := HG7.out.ext ((HFK2.out.ext HX6.out).ext (Ext.push _)) (by omega) ((HXK.out.trans HX6.out).push' _)
      have hkeep : ∀ i, i < K.n → ¬ isBlk (.slice va vn vn) i → H7.get i = K.get i := fun i hi hb => by
        rw [HG7.out.2 i (by rw [AHeap.n_push]; omega) (fun b n hv hn e => hb (by rw [e]; exact ⟨n, hv, hn⟩)), AHeap.get_push_old (by omega)]
        exact HX6.out.get i hi
      refine Post.round_normal ⟨fls.length - (k + 1), by omega, k + 1, .slice a2 n2 n2, .slice a7 n7 n7, l ++ [(lo, hi)], by omega, rfl, (by first|go_simp<;>go_num|assumption), (by first|go_simp<;>go_num|assumption), (by first|go_simp<;>go_num|assumption), (by first|go_simp<;>go_num|assumption), (by first|go_simp<;>go_num|assumption), (by first|go_simp<;>go_num|assumption), Lib.hid (HMO.out (lo, hi) (fun h => absurd rfl h) (fun _ => ⟨L6, T6, HFF.out⟩)), by rw [List.length_append, hlk]; rfl, Lib.hid (own_at HOK2.out (by rw [AHeap.n_upd]; omega) fun i n hv hn => ?_), Lib.hid ?_, Lib.hid AHeap.get_upd_same, Lib.hid ?_, Lib.hid (hx7.upd (by omega) _), by rw [AHeap.n_upd]; omega⟩
      · have h9 := own_block HOK2.out hv hn
        rw [AHeap.get_upd_ne (by omega), hkeep i h9.2.1 (fun hb => by
          have h8 := isBlk_own HFK2.out hb
          rw [h9.2.2] at h8
          have h7 := h8.2.2
          injection h7 with _ h6
          exact absurd h6 (by decide))]
      · rw [spanCells_append]
        refine (own_at HO7.out (by rw [AHeap.n_upd]; exact Nat.le_refl _) fun i n hv hn => ?_).mono (by rw [AHeap.n_push]; omega)
        have := (own_block HO7.out hv hn).1
        rw [AHeap.n_push] at this
        rw [AHeap.get_upd_ne (by omega)]
      · rw [AHeap.get_upd_ne (by omega), hkeep _ (by omega) (fun hb => by have := (isBlk_own HFK2.out hb).1; omega)]
        exact HK0.out
    · have hdb : (day == -1) = false := by simpa using hdy
      have HMZ := Lib.hid (HMO.out (0, 0) (fun _ => rfl) (fun h => absurd h hdy))
      have hk2 := HK1.out
      clear hdy
      repeat' (first|(with_reducible first|refine zA ?_|refine zB fun K hK=>?_|refine zC fun K2 hK2=>?_|refine zD ?_|refine zE ?_|refine zF ?_|refine zG ?_|refine zH ?_|refine zI ?_|refine zM ?_|refine zN ?_|refine zO ?_|refine zP ?_|refine zQ ?_|refine zR ?_)|((with_reducible refine zU (hK _ _ ?_));clear hK K)|((with_reducible refine zV ?_ ?_ fun K1 K3 d hdst h1 h3=>?_);rfl;exact yB rfl;cases hdst;go_simp)|((with_reducible refine zW fun K1 K3 h1 h3=>?_);go_simp)|((first|refine h1 ?_|refine h3 ?_);clear h1 h3 K1 K3)|((first|refine zX (fun hb=>h1 ?_) (fun hb=>h3 ?_)|refine zX (fun hb=>h3 ?_) (fun hb=>h1 ?_))<;>(clear h1 h3 K1 K3;(try have hb2:=yC hb);(try have hb2:=yD hb);(try have hb2:=yE hb);(try have hb2:=yF hb);(try have hb2:=yG hb)))|(refine fun (K2:_→AHeap→Prop) hK2=>?_)|((with_reducible refine zY ?_ ?_);decide)|((with_reducible first|refine zZ ?_ (fun K hK=>?_)|refine yA ?_ (fun K hK=>?_));(focus go_simp;done);go_simp;refine hK _ _ ?_;clear hK K)|(go_simp;(try go_bits);(try first | ((refine one_k el26 sz30 ze30 rfl (by decide) (by decide) rfl rfl ?_); go_simp) | ((rw [aBuild_struct st30q ze30]); go_simp) | ((refine append_k el26 sz30 by30 ze30 rfl (by decide) (HFK2.out.ext (Ext.push _)) (srcCells_new rfl) (by decide) rfl (by rw [List.all_append, spanCells_one]; rfl) HBIG2.out (by rw [AHeap.n_push]; have := HCN.out; omega) fun v2 H7 ho7 hg7 => ?_); (obtain ⟨a7, n7, rfl⟩ := own_slice ho7); (have HO7 := Lib.hid ho7); (have HG7 := Lib.hid hg7); (have hk7 : H7.get (H.n + 1) = .row [.slice a2 n2 n2, .int .i64 w, .slice va vn vn] 28 := (hg7.2 (H.n + 1) (by rw [AHeap.n_push]; have := HCN.out; omega) (fun b n hv hn => by have := (own_block HFK2.out hv hn).1; omega)).trans ((AHeap.get_push_old (by have := HCN.out; omega)).trans HK1.out)); clear ho7 hg7; go_simp));refine hK2 _ _ ?_;clear hK2 K2))
      have hn7 : K.n + 1 ≤ H7.n := by have := HG7.out.1; rw [AHeap.n_push] at this; exact this
      have hcn := HCN.out
      have hx7 : Ext H H7 := HG7.out.ext (HFK2.out.ext (Ext.push _)) (by omega) (HXK.out.push' _)
      have hkeep : ∀ i, i < K.n → ¬ isBlk (.slice va vn vn) i → H7.get i = K.get i := fun i hi hb => by
        rw [HG7.out.2 i (by rw [AHeap.n_push]; omega) (fun b n hv hn e => hb (by rw [e]; exact ⟨n, hv, hn⟩)), AHeap.get_push_old (by omega)]
      refine Post.round_normal ⟨fls.length - (k + 1), by omega, k + 1, .slice a2 n2 n2, .slice a7 n7 n7, l ++ [(0, 0)], by omega, rfl, (by first|go_simp<;>go_num|assumption), (by first|go_simp<;>go_num|assumption), (by first|go_simp<;>go_num|assumption), (by first|go_simp<;>go_num|assumption), (by first|go_simp<;>go_num|assumption), (by first|go_simp<;>go_num|assumption), HMZ, by rw [List.length_append, hlk]; rfl, Lib.hid (own_at HOK2.out (by rw [AHeap.n_upd]; omega) fun i n hv hn => ?_), Lib.hid ?_, Lib.hid AHeap.get_upd_same, Lib.hid ?_, Lib.hid (hx7.upd (by omega) _), by rw [AHeap.n_upd]; omega⟩
      · have h9 := own_block HOK2.out hv hn
        rw [AHeap.get_upd_ne (by omega), hkeep i h9.2.1 (fun hb => by
          have h8 := isBlk_own HFK2.out hb
          rw [h9.2.2] at h8
          have h7 := h8.2.2
          injection h7 with _ h6
          exact absurd h6 (by decide))]
      · rw [spanCells_append]
        refine (own_at HO7.out (by rw [AHeap.n_upd]; exact Nat.le_refl _) fun i n hv hn => ?_)
        have := (own_block HO7.out hv hn).1
        rw [AHeap.get_upd_ne (by omega)]
      · rw [AHeap.get_upd_ne (by omega), hkeep _ (by omega) (fun hb => by have := (isBlk_own HFK2.out hb).1; omega)]
        exact HK0.out
  · have hki : ¬ (k : Int) < (fls.length : Int) := by omega
    have hke : k = fls.length := by omega
    have hcs : cellsAt H' (H.n + 1) 0 3 = some [.slice oa on on, .int .i64 w, .slice va vn vn] := by simp [cellsAt, HG1.out]
    have hg0 := HG0.out
    clear hlt
    repeat' (first|(with_reducible first|refine zA ?_|refine zB fun K hK=>?_|refine zC fun K2 hK2=>?_|refine zD ?_|refine zE ?_|refine zF ?_|refine zG ?_|refine zH ?_|refine zI ?_|refine zM ?_|refine zN ?_|refine zO ?_|refine zP ?_|refine zQ ?_|refine zR ?_)|((with_reducible refine zU (hK _ _ ?_));clear hK K)|((with_reducible refine zV ?_ ?_ fun K1 K3 d hdst h1 h3=>?_);rfl;exact yB rfl;cases hdst;go_simp)|((with_reducible refine zW fun K1 K3 h1 h3=>?_);go_simp)|((first|refine h1 ?_|refine h3 ?_);clear h1 h3 K1 K3)|((first|refine zX (fun hb=>h1 ?_) (fun hb=>h3 ?_)|refine zX (fun hb=>h3 ?_) (fun hb=>h1 ?_))<;>(clear h1 h3 K1 K3;(try have hb2:=yC hb);(try have hb2:=yD hb);(try have hb2:=yE hb);(try have hb2:=yF hb);(try have hb2:=yG hb)))|(refine fun (K2:_→AHeap→Prop) hK2=>?_)|((with_reducible refine zY ?_ ?_);decide)|((with_reducible first|refine zZ ?_ (fun K hK=>?_)|refine yA ?_ (fun K hK=>?_));(focus go_simp;done);go_simp;refine hK _ _ ?_;clear hK K)|(go_simp;(try go_bits);refine hK2 _ _ ?_;clear hK2 K2))
    subst hke
    refine ⟨⟨_, _, l, rfl, (own_at HOO.out (by rw [AHeap.n_upd]; exact Nat.le_refl _) fun i n hv hn => ?_).mono (by omega), (own_at HOF.out (by rw [AHeap.n_upd]; exact Nat.le_refl _) fun i n hv hn => ?_).mono (by omega), hlk, HFS.out⟩, HX.out.upd (Nat.le_refl _) _⟩
    · have := (own_block HOO.out hv hn).1
      rw [AHeap.get_upd_ne (by omega)]
    · have := (own_block HOF.out hv hn).1
      rw [AHeap.get_upd_ne (by omega)]
end Go.Proofs.Try
namespace Go.Proofs.Try
open Go Go.Am Go.RowKit
set_option maxRecDepth 100000


theorem Ints.keep {H H' : AHeap} {a : Option Addr} {n c : Nat} {l : List Int} (h : Ints H (.slice a n c) l) (hn : H.n ≤ H'.n) (hk : 0 < l.length → ∀ x, a = some x → x.block < H.n → H'.get x.block = H.get x.block) : Ints H' (.slice a n c) l := by
  obtain ⟨h1, h2, a', c', h3, h0, h4⟩ := h
  cases h3
  refine ⟨h1, h2, _, _, rfl, h0, fun hp => ?_⟩
  obtain ⟨b, o, sp, rfl, h6, h7⟩ := h4 hp
  exact ⟨b, o, sp, rfl, Nat.lt_of_lt_of_le h6 hn, fun j u hu => by rw [cellAt_get (hk hp _ rfl h6)]; exact h7 j u hu⟩
end Go.Proofs.Try
namespace Go.Proofs.Try
open Go Go.Am Go.RowKit
set_option maxRecDepth 100000


theorem intsL_one2 {H : AHeap} {n : Nat} {cv : Value} {l : List Int} (h : cellAt H n 0 = some cv) (hn : n < H.n) (hi : Ints H cv l) : IntsL H (.slice (some ⟨n, 0, none⟩) 1 1) [l] :=
  ⟨[cv], rfl, ⟨rfl, (show 1 ≤ 9223372036854775807 by omega), _, _, rfl, (fun h => by cases h), fun _ => ⟨n, 0, none, rfl, hn, fun j u hu => by
    match j, hu with
    | 0, hu => cases hu; exact h⟩⟩, fun i hlt u hu => by
    match i, hlt, hu with
    | 0, _, hu => cases hu; exact hi⟩
end Go.Proofs.Try
namespace Go.Proofs.Try
open Go Go.Am Go.RowKit
set_option maxRecDepth 100000


def Tour.D0 (t : Tour) : Nat → Int := dayD t.days [t.closed]
theorem D0_val (t : Tour) (d : Nat) : t.D0 d = -2 ∨ t.D0 d = -1 := by
  unfold Tour.D0 dayD
  split
  · exact .inr rfl
  · exact .inl rfl
theorem planD0 (t : Tour) : PlanD t.flaws t.D0 t.D0 := by
  have hno : ∀ d i : Nat, ¬ t.D0 d = (i : Int) := fun d i h => by
    rcases D0_val t d with h1 | h1 <;> omega
  refine ⟨fun d => Iff.rfl, fun d _ => ?_, fun d hd => ?_, ⟨fun d i h => absurd h (hno d i), fun d e i h => absurd h (hno d i)⟩⟩
  · rcases D0_val t d with h | h
    · exact .inl h
    · exact .inr (.inl h)
  · unfold Tour.D0 dayD
    rw [if_neg]
    intro h
    have := h.1
    simp at this
    omega
theorem noD0 (t : Tour) (i : Nat) : ¬ Has t.D0 i := by
  rintro ⟨d, h⟩
  rcases D0_val t d with h1 | h1 <;> omega
theorem Good.fok {t : Tour} (hg : Good t) : ∀ a, a ∈ t.flaws → FOk a := by
  intro a ha
  have h := hg.right a ha
  have hd := hg.days
  simp only [Flaw.right, Tour.isSpan, Tour.isDay, Bool.and_eq_true, win_iff, decide_eq_true_eq] at h hd
  exact ⟨by omega, by omega, by omega, by omega, by omega⟩
structure BestIs (t : Tour) (C : Nat → Int) (l : List (Int × Int)) : Prop where
  plan : PlanD t.flaws t.D0 C
  best : BestOf (canD t.flaws t.D0) (meritN t.flaws) C t.flaws.length
  len : l.length = t.flaws.length
  fulls : FullsOf t.flaws t.D0 C l
def Tour.worthOf (t : Tour) (C : Nat → Int) : Int := worthD (meritN t.flaws) C 120
def BestR (H : AHeap) (t : Tour) (r : Value) : Prop :=
  if err t = 0 then ∃ ov fv C l, r = .tuple #[.agg #[ov, .int .i64 (t.worthOf C), fv], .int .i64 0] ∧ Ints H ov (onOf C t.flaws.length) ∧ Spans H fv l ∧ BestIs t C l
  else r = .tuple #[.agg #[.slice none 0 0, .int .i64 0, .slice none 0 0], .int .i64 (err t)]

set_option maxHeartbeats 4000000 in
theorem best_e {loops : List (Nat × LInfo)} {H : AHeap} {v : Value} {t : Tour} (hv : TourV H v t) : CallS Try.prog loops 14 [v] H fun r H' => BestR H' t r ∧ Ext H H' := by
  have HV := Lib.hid hv
  have HCE := Lib.hid (fun (loops : List (Nat × LInfo)) (H2 : AHeap) (hx : Ext H H2) => check_s (loops := loops) (HV.out.ext hx))
  obtain ⟨cv, fv, rfl, hc, hf⟩ := hv
  obtain ⟨hcl, ca, cc, rfl⟩ := hc.slice
  obtain ⟨hfl, fa, fc, rfl⟩ := hf.slice
  have HC := Lib.hid hc
  clear hc hf
  unfold BestR
  by_cases he : err t = 0
  case' neg =>
    simp only [if_neg he]
    generalize err t = er at HCE he ⊢
    have heb : (er != 0) = true := by simpa using he
    clear he
    refine CallS.enter' Try.func14 rfl Try.ntmps14 (by simp) fun f hd hf => ?_
    have f0 := hf 0
    simp at f0
    clear hf
    repeat' (first|(with_reducible first|refine zA ?_|refine zB fun K hK=>?_|refine zC fun K2 hK2=>?_|refine zD ?_|refine zE ?_|refine zF ?_|refine zG ?_|refine zH ?_|refine zI ?_|refine zM ?_|refine zN ?_|refine zO ?_|refine zP ?_|refine zQ ?_|refine zR ?_)|((with_reducible refine zU (hK _ _ ?_));clear hK K)|((with_reducible refine zV ?_ ?_ fun K1 K3 d hdst h1 h3=>?_);rfl;exact yB rfl;cases hdst;go_simp)|((with_reducible refine zW fun K1 K3 h1 h3=>?_);go_simp)|((first|refine h1 ?_|refine h3 ?_);clear h1 h3 K1 K3)|((first|refine zX (fun hb=>h1 ?_) (fun hb=>h3 ?_)|refine zX (fun hb=>h3 ?_) (fun hb=>h1 ?_))<;>(clear h1 h3 K1 K3;(try have hb2:=yC hb);(try have hb2:=yD hb);(try have hb2:=yE hb);(try have hb2:=yF hb);(try have hb2:=yG hb)))|(refine fun (K2:_→AHeap→Prop) hK2=>?_)|((with_reducible refine zY ?_ ?_);decide)|((with_reducible first|refine zZ ?_ (fun K hK=>?_)|refine yA ?_ (fun K hK=>?_));(focus go_simp;done);go_simp;refine hK _ _ ?_;clear hK K)|(go_simp;(try go_bits);(try first | ((with_reducible show CallS _ _ _ _ _ _);refine CallS.mono (HCE.out _ _ (((Ext.refl _).push' _).push' _)) ?_; rintro _ _ ⟨rfl, rfl⟩) | ((rw [aBuild_struct st28q ze28]); go_simp));refine hK2 _ _ ?_;clear hK2 K2))
    exact ⟨rfl, ((Ext.refl _).push' _).push' _⟩
  have hg := good_of he
  simp only [if_pos he]
  rw [he] at HCE
  have HG := Lib.hid hg
  have HFW := Lib.hid (Nat.le_trans HG.out.few (show 40 ≤ 1000 by decide))
  have HPL := Lib.hid (fun (loops : List (Nat × LInfo)) (H2 : AHeap) (n : Nat) (hx : Ext H H2) (hc : cellAt H2 n 0 = some (.slice ca t.closed.length cc)) (hn : n < H2.n) => planOf_e (loops := loops) (sh := [t.closed]) (HV.out.ext hx) (intsL_one2 hc hn (HC.out.ext hx)) HG.out.days (show 1 ≤ 2 by omega) HFW.out)
  have hfle := HFW.out
  clear hg he
  refine CallS.enter' Try.func14 rfl Try.ntmps14 (by simp) fun f hd hf => ?_
  have f0 := hf 0
  simp at f0
  clear hf
  repeat' (first|(with_reducible first|refine zA ?_|refine zB fun K hK=>?_|refine zC fun K2 hK2=>?_|refine zD ?_|refine zE ?_|refine zF ?_|refine zG ?_|refine zH ?_|refine zI ?_|refine zM ?_|refine zN ?_|refine zO ?_|refine zP ?_|refine zQ ?_|refine zR ?_)|((with_reducible refine zU (hK _ _ ?_));clear hK K)|((with_reducible refine zV ?_ ?_ fun K1 K3 d hdst h1 h3=>?_);rfl;exact yB rfl;cases hdst;go_simp)|((with_reducible refine zW fun K1 K3 h1 h3=>?_);go_simp)|((first|refine h1 ?_|refine h3 ?_);clear h1 h3 K1 K3)|((first|refine zX (fun hb=>h1 ?_) (fun hb=>h3 ?_)|refine zX (fun hb=>h3 ?_) (fun hb=>h1 ?_))<;>(clear h1 h3 K1 K3;(try have hb2:=yC hb);(try have hb2:=yD hb);(try have hb2:=yE hb);(try have hb2:=yF hb);(try have hb2:=yG hb)))|(refine fun (K2:_→AHeap→Prop) hK2=>?_)|((with_reducible refine zY ?_ ?_);decide)|((with_reducible first|refine zZ ?_ (fun K hK=>?_)|refine yA ?_ (fun K hK=>?_));(focus go_simp;done);go_simp;refine hK _ _ ?_;clear hK K)|(go_simp;(try go_bits);(try first |((with_reducible show CallS _ _ _ _ _ _);first|(refine CallS.mono (HCE.out _ _ (((Ext.refl _).push' _).push' _)) ?_; rintro _ _ ⟨rfl, rfl⟩)|(refine CallS.mono (HPL.out _ _ _ ((((Ext.refl _).push' _).push' _).push' _) (by go_simp) (by simp only [AHeap.n_push]; omega)) ?_; rintro _ H2 ⟨⟨ga, gc, rfl, hF2, hfr⟩, hx2⟩; (have HX2 := Lib.hid hx2); (have HF2 := Lib.hid hF2); (have HFR := Lib.hid hfr); (have hn2 : H.n + 2 < H2.n := by have := hx2.n; simp only [AHeap.n_push] at this; omega); clear hF2 hfr hx2)|(refine CallS.mono (mend_e (D0 := t.D0) (D := t.D0) (by rw [AHeap.n_push]; exact Nat.lt_succ_self _) AHeap.get_push_new (HF2.out.ext (Ext.push _)) HG.out.fok (planD0 t) hfle (fun b hb => Nat.ne_of_lt (HFR.out b hb).2) (noD0 t)) ?_; rintro _ H5 ⟨C, hpc, hbc, hgc, hbu⟩; (have HPC := Lib.hid hpc); (have HBC := Lib.hid hbc); (have HGC := Lib.hid hgc); (have HBU := Lib.hid hbu); clear hpc hbc hgc hbu; go_simp)|(refine CallS.mono (mending_e (D0 := t.D0) (Nat.lt_of_lt_of_le (by rw [AHeap.n_push]; exact Nat.lt_succ_self _) HBU.out.n) HGC.out ((HF2.out.ext (Ext.push _)).keep HBU.out.n fun b hb hlt => HBU.out.get _ hlt (Nat.ne_of_lt (HFR.out b hb).2)) HG.out.fok HPC.out hfle HBC.out) ?_; rintro _ H6 ⟨⟨ov, fv, l, rfl, ho6, hs6, hl6, hf6⟩, hx6⟩; (have HO6 := Lib.hid ho6); (have HS6 := Lib.hid hs6); (have HL6 := Lib.hid hl6); (have HF6 := Lib.hid hf6); (have HX6 := Lib.hid hx6); clear ho6 hs6 hl6 hf6 hx6; (obtain ⟨oa, on, rfl⟩ := own_slice HO6.out); (obtain ⟨sa, sn, rfl⟩ := own_slice HS6.out); (have hg1 : H6.get (H.n + 1) = .row [.slice none 0 0, .int .i64 0, .slice none 0 0] 28 := by rw [HX6.out.get _ (by have := HBU.out.n; rw [AHeap.n_push] at this; omega), HBU.out.get _ (by rw [AHeap.n_push]; omega) (by omega), AHeap.get_push_old (by omega), HX2.out.get _ (by simp only [AHeap.n_push]; omega), AHeap.get_push_old (by simp only [AHeap.n_push]; omega), show H.n + 1 = (H.push (.row [.int .i64 t.days, .slice ca t.closed.length cc, .slice fa t.flaws.length fc] 25)).n from rfl, AHeap.get_push_new]); go_simp))|((refine one_k el65 sz22 ze22 rfl (by decide) (by decide) rfl rfl ?_); go_simp));refine hK2 _ _ ?_;clear hK2 K2))
  have h5 := HBU.out.n
  have h6 := HX6.out.n
  rw [AHeap.n_push] at h5
  have hx6 : Ext H H6 := ⟨by omega, fun i hi => by
    rw [HX6.out.get _ (by omega), HBU.out.get _ (by rw [AHeap.n_push]; omega) (by omega), AHeap.get_push_old (by omega), HX2.out.get _ (by simp only [AHeap.n_push]; omega)]
    exact ((((Ext.refl _).push' _).push' _).push' _).get i hi⟩
  refine ⟨⟨_, _, C, l, rfl, ints_own (own_at HO6.out (by rw [AHeap.n_upd]; exact Nat.le_refl _) fun i n hv hn => ?_) (by simp [onOf]; omega), spans_own (own_at HS6.out (by rw [AHeap.n_upd]; exact Nat.le_refl _) fun i n hv hn => ?_) (by rw [HL6.out]; omega), ⟨HPC.out, HBC.out, HL6.out, HF6.out⟩⟩, hx6.upd (by omega) _⟩
  · have := (own_block HO6.out hv hn).1
    rw [AHeap.get_upd_ne (by omega)]
  · have := (own_block HS6.out hv hn).1
    rw [AHeap.get_upd_ne (by omega)]

def MeritR (t : Tour) (r : Value) : Prop :=
  if err t = 0 then ∃ C l, r = .tuple #[.int .i64 (t.worthOf C), .int .i64 0] ∧ BestIs t C l
  else r = .tuple #[.int .i64 0, .int .i64 (err t)]
theorem merit_s {loops : List (Nat × LInfo)} {H : AHeap} {v : Value} {t : Tour} (hv : TourV H v t) : CallS Try.prog loops 15 [v] H fun r H' => MeritR t r ∧ H' = H := by
  refine CallS.forget (R := fun r => MeritR t r) (by
    intro r h
    unfold MeritR at h
    split at h
    · obtain ⟨C, l, rfl, -⟩ := h; rfl
    · rw [h]; rfl) ?_
  have HV := Lib.hid hv
  have HBE := Lib.hid (fun (loops : List (Nat × LInfo)) (H2 : AHeap) (hx : Ext H H2) => best_e (loops := loops) (HV.out.ext hx))
  obtain ⟨cv, fv, rfl, hc, hf⟩ := hv
  obtain ⟨hcl, ca, cc, rfl⟩ := hc.slice
  obtain ⟨hfl, fa, fc, rfl⟩ := hf.slice
  clear hc hf
  unfold MeritR
  unfold BestR at HBE
  by_cases he : err t = 0
  · simp only [if_pos he] at HBE ⊢
    refine CallS.enter' Try.func15 rfl Try.ntmps15 (by simp) fun f hd hf => ?_
    have f0 := hf 0
    simp at f0
    clear hf
    repeat' (first|(with_reducible first|refine zA ?_|refine zB fun K hK=>?_|refine zC fun K2 hK2=>?_|refine zD ?_|refine zE ?_|refine zF ?_|refine zG ?_|refine zH ?_|refine zI ?_|refine zM ?_|refine zN ?_|refine zO ?_|refine zP ?_|refine zQ ?_|refine zR ?_)|((with_reducible refine zU (hK _ _ ?_));clear hK K)|((with_reducible refine zV ?_ ?_ fun K1 K3 d hdst h1 h3=>?_);rfl;exact yB rfl;cases hdst;go_simp)|((with_reducible refine zW fun K1 K3 h1 h3=>?_);go_simp)|((first|refine h1 ?_|refine h3 ?_);clear h1 h3 K1 K3)|((first|refine zX (fun hb=>h1 ?_) (fun hb=>h3 ?_)|refine zX (fun hb=>h3 ?_) (fun hb=>h1 ?_))<;>(clear h1 h3 K1 K3;(try have hb2:=yC hb);(try have hb2:=yD hb);(try have hb2:=yE hb);(try have hb2:=yF hb);(try have hb2:=yG hb)))|(refine fun (K2:_→AHeap→Prop) hK2=>?_)|((with_reducible refine zY ?_ ?_);decide)|((with_reducible first|refine zZ ?_ (fun K hK=>?_)|refine yA ?_ (fun K hK=>?_));(focus go_simp;done);go_simp;refine hK _ _ ?_;clear hK K)|(go_simp;(try go_bits);(try first | ((with_reducible show CallS _ _ _ _ _ _);refine CallS.mono (HBE.out _ _ ((Ext.refl _).push' _)) ?_; rintro _ H2 ⟨⟨ov, fv, C, l, rfl, ho, hs, hb⟩, hx⟩; (have HB := Lib.hid hb); (have HX := Lib.hid hx); (obtain ⟨-, oa, oc, rfl⟩ := ho.slice); (obtain ⟨-, -, sa, sc, rfl, -⟩ := hs); clear hb hx ho; go_simp));refine hK2 _ _ ?_;clear hK2 K2))
    exact ⟨⟨C, l, rfl, HB.out⟩, ((Ext.push _).trans HX.out).push' _⟩
  · simp only [if_neg he] at HBE ⊢
    refine CallS.enter' Try.func15 rfl Try.ntmps15 (by simp) fun f hd hf => ?_
    have f0 := hf 0
    simp at f0
    clear hf
    repeat' (first|(with_reducible first|refine zA ?_|refine zB fun K hK=>?_|refine zC fun K2 hK2=>?_|refine zD ?_|refine zE ?_|refine zF ?_|refine zG ?_|refine zH ?_|refine zI ?_|refine zM ?_|refine zN ?_|refine zO ?_|refine zP ?_|refine zQ ?_|refine zR ?_)|((with_reducible refine zU (hK _ _ ?_));clear hK K)|((with_reducible refine zV ?_ ?_ fun K1 K3 d hdst h1 h3=>?_);rfl;exact yB rfl;cases hdst;go_simp)|((with_reducible refine zW fun K1 K3 h1 h3=>?_);go_simp)|((first|refine h1 ?_|refine h3 ?_);clear h1 h3 K1 K3)|((first|refine zX (fun hb=>h1 ?_) (fun hb=>h3 ?_)|refine zX (fun hb=>h3 ?_) (fun hb=>h1 ?_))<;>(clear h1 h3 K1 K3;(try have hb2:=yC hb);(try have hb2:=yD hb);(try have hb2:=yE hb);(try have hb2:=yF hb);(try have hb2:=yG hb)))|(refine fun (K2:_→AHeap→Prop) hK2=>?_)|((with_reducible refine zY ?_ ?_);decide)|((with_reducible first|refine zZ ?_ (fun K hK=>?_)|refine yA ?_ (fun K hK=>?_));(focus go_simp;done);go_simp;refine hK _ _ ?_;clear hK K)|(go_simp;(try go_bits);(try first | ((with_reducible show CallS _ _ _ _ _ _);refine CallS.mono (HBE.out _ _ ((Ext.refl _).push' _)) ?_; rintro _ H2 ⟨rfl, hx⟩; (have HX := Lib.hid hx); clear hx; go_simp));refine hK2 _ _ ?_;clear hK2 K2))
    exact ⟨rfl, ((Ext.push _).trans HX.out).push' _⟩
end Go.Proofs.Try
namespace Go.Proofs.Try
open Go Go.Am Go.RowKit
set_option maxRecDepth 100000


end Go.Proofs.Try
namespace Go.Proofs.Try
open Go Go.Am Go.RowKit
set_option maxRecDepth 100000


structure Taker where
  id : Int
  day : Int
  ids : List Int
def TakersV (H : AHeap) (v : Value) (l : List Taker) : Prop := ∃ a c, v = .slice a l.length c ∧ ∀ k (h : k < l.length), ∃ b o sp u, a = some ⟨b, o, sp⟩ ∧ b < H.n ∧ cellsAt H b (o + k * 3) 3 = some [.int .i64 (l[k]).id, .int .i64 (l[k]).day, u] ∧ Ints H u (l[k]).ids
theorem TakersV.ext {H H' : AHeap} {v : Value} {l : List Taker} (h : TakersV H v l) (hx : Ext H H') : TakersV H' v l := by
  obtain ⟨a, c, h1, h2⟩ := h
  refine ⟨a, c, h1, fun k hk => ?_⟩
  obtain ⟨b, o, sp, u, h3, h4, h5, h6⟩ := h2 k hk
  exact ⟨b, o, sp, u, h3, Nat.lt_of_lt_of_le h4 hx.n, (hx.cellsAt h4).trans h5, h6.ext hx⟩
theorem TakersV.at_ {H : AHeap} {a : Option Addr} {n c : Nat} {l : List Taker} (h : TakersV H (.slice a n c) l) {k : Nat} (hk : k < l.length) : ∃ b o sp u, a = some ⟨b, o, sp⟩ ∧ b < H.n ∧ cellsAt H b (o + k * 3) 3 = some [.int .i64 (l[k]).id, .int .i64 (l[k]).day, u] ∧ Ints H u (l[k]).ids := by
  obtain ⟨a', c', h1, h2⟩ := h
  cases h1
  exact h2 k hk
end Go.Proofs.Try
