/- Contracts of functions, walked. -/
import Derived.Test.YtgddlpegljkgpaaGreatStTB
import Derived.Test.YtgddlpegljkgpaaGreatStSN
import Derived.Test.YtgddlpegljkgpaaGreatAwB
import Derived.Test.YtgddlpegljkgpaaGreatStS0
import Derived.Test.YtgddlpegljkgpaaGreatAmD
import Derived.Test.YtgddlpegljkgpaaGreatStS9
import Derived.Test.YtgddlpegljkgpaaGreatStS3
set_option linter.all false
namespace Go.Proofs.Tryz
open Go Go.Am Go.RowKit Go.Co
def Course.holds (x : Course) (p : Nat) (fl : List Int) : Bool := holdGo x p (clampL fl) fl.length 0
theorem Course.early_to {x : Course} {p : Nat} (h : x.ord) (hp : 1 ≤ p) : FitTo x.op p (x.early p 0) (x.early p 0).length ∧ (x.early p 0).length ≤ x.open_.length :=
  ⟨(early_ok (op := x.op) hp (fun i f => x.nx_ok h i f) x.open_.length (frm := 0)).2.1, (early_ok (op := x.op) hp (fun i f => x.nx_ok h i f) x.open_.length (frm := 0)).1⟩
theorem Course.early_in0 {x : Course} {p : Nat} (h : x.ord) (hp : 1 ≤ p) : ∀ i, i < (x.early p 0).length → 0 ≤ (x.early p 0).getD i 0 ∧ (x.early p 0).getD i 0 ≤ 730 := fun i hi => x.op_in h i _ ((x.early_to h hp).1 i hi).1
theorem Course.early_nx {x : Course} {p : Nat} (h : x.ord) (hp : 1 ≤ p) {j : Nat} (hj : j < (x.early p 0).length) : (x.early p 0).getD j 0 ≤ x.nx j (lowL p (x.early p 0) j) := by
  obtain ⟨hft, hl⟩ := x.early_to h hp
  have hin := x.early_in0 (p := p) h hp
  have hE := early_ok (op := x.op) hp (fun i f => x.nx_ok h i f) x.open_.length (frm := 0)
  generalize hd : x.nx j (lowL p (x.early p 0) j) = d
  rcases x.nx_ok h j (lowL p (x.early p 0) j) with ⟨h1, _⟩ | ⟨h1, h2, h3, h4⟩
  · have := (hin j hj).2; omega
  · rw [hd] at h1 h2 h3
    have htl : ((x.early p 0).take j).length = j := by simp; omega
    have e0 : ((x.early p 0).take j ++ [d]).getD j 0 = d := by
      have := @getD_snoc ((x.early p 0).take j) d
      rw [htl] at this; exact this
    have hfit : FitTo x.op p ((x.early p 0).take j ++ [d]) (j + 1) := by
      intro i hi
      have hlow : lowL p ((x.early p 0).take j ++ [d]) i = lowL p (x.early p 0) i := lowL_same hp fun k hk => by
        rw [getD_app (by omega)]
        simp [List.getD_eq_getElem?_getD, show k < j by omega]
      rw [hlow]
      by_cases hij : i = j
      · subst hij
        rw [e0]; exact ⟨h3, h2⟩
      · have e : ((x.early p 0).take j ++ [d]).getD i 0 = (x.early p 0).getD i 0 := by
          rw [getD_app (by omega)]
          simp [List.getD_eq_getElem?_getD, show i < j by omega]
        rw [e]; exact hft i (by omega)
    have := (hE.2.2.2 ((x.early p 0).take j ++ [d]) (j + 1) (by omega) hfit (fun i hi => (x.op_in h i _ (hfit i hi).1).1)).2 j (by omega)
    rw [e0] at this
    exact this
end Go.Proofs.Tryz
namespace Go.Proofs.Tryz
open Go Go.Am Go.RowKit Go.Co

theorem Course.late_len_made {x : Course} {p : Nat} (h : x.ord) (hp : 1 ≤ p) (hm : x.made p = true) : (x.late p).length = x.open_.length := (x.late_fit h hp hm).1
theorem Course.late_get {x : Course} {p : Nat} (h : x.ord) (hp : 1 ≤ p) (hm : x.made p = true) {i : Nat} (hi : i < x.open_.length) : (x.late p).getD i 0 = 730 - (x.mir.early p 0).getD (x.open_.length - 1 - i) 0 := by
  have hl : (x.mir.early p 0).length = x.open_.length := by rw [← flipD_len, ← Course.late, x.late_len_made h hp hm]
  rw [Course.late, flipD_get (by omega), hl]
theorem Course.late_top {x : Course} {p : Nat} (h : x.ord) (hp : 1 ≤ p) (hm : x.made p = true) {i : Nat} (hi : i < x.open_.length) {e : Int} (ho : x.op i e = true) (h1 : i + 1 < x.open_.length → e ≤ (x.late p).getD (i + 1) 0) (h2 : i + p < x.open_.length → e + 1 ≤ (x.late p).getD (i + p) 0) : e ≤ (x.late p).getD i 0 := by
  have hl : (x.mir.early p 0).length = x.open_.length := by rw [← flipD_len, ← Course.late, x.late_len_made h hp hm]
  have hin := x.op_in h i e ho
  have hmo : x.mir.op (x.open_.length - 1 - i) (730 - e) = true := by
    rw [x.mir_op (by omega), show x.open_.length - 1 - (x.open_.length - 1 - i) = i by omega, show (730 : Int) - (730 - e) = e by omega]; exact ho
  have hlow : lowL p (x.mir.early p 0) (x.open_.length - 1 - i) ≤ 730 - e := by
    have g1 : 1 ≤ x.open_.length - 1 - i → (x.mir.early p 0).getD (x.open_.length - 1 - i - 1) 0 ≤ 730 - e := fun hh => by
      have := h1 (by omega)
      rw [x.late_get h hp hm (by omega), show x.open_.length - 1 - (i + 1) = x.open_.length - 1 - i - 1 by omega] at this
      omega
    have g2 : p ≤ x.open_.length - 1 - i → (x.mir.early p 0).getD (x.open_.length - 1 - i - p) 0 + 1 ≤ 730 - e := fun hh => by
      have := h2 (by omega)
      rw [x.late_get h hp hm (by omega), show x.open_.length - 1 - (i + p) = x.open_.length - 1 - i - p by omega] at this
      omega
    unfold lowL
    split
    · rename_i g
      have := g2 g
      split
      · rename_i g'; have := g1 g'; omega
      · omega
    · split
      · rename_i g'; exact g1 g'
      · omega
  have hnx := x.mir.early_nx (Course.mir_ord h) hp (j := x.open_.length - 1 - i) (by omega)
  rw [x.late_get h hp hm hi]
  rcases x.mir.nx_ok (Course.mir_ord h) (x.open_.length - 1 - i) (lowL p (x.mir.early p 0) (x.open_.length - 1 - i)) with ⟨_, g⟩ | ⟨_, _, _, g⟩
  · have := g (730 - e) hlow
    rw [Course.op] at hmo; rw [hmo] at this; cases this
  · have := g (730 - e) hlow (by rw [Course.op] at hmo; exact hmo)
    omega
theorem Course.late_bound {x : Course} {p : Nat} (h : x.ord) (hp : 1 ≤ p) (hm : x.made p = true) {i : Nat} (hi : i < x.open_.length) : x.op i ((x.late p).getD i 0) = true ∧ (i + 1 < x.open_.length → (x.late p).getD i 0 ≤ (x.late p).getD (i + 1) 0) ∧ (i + p < x.open_.length → (x.late p).getD i 0 + 1 ≤ (x.late p).getD (i + p) 0) := by
  have hf := x.late_fit h hp hm
  have hin := x.fit_in h hf
  refine ⟨(hf.2 i (by rw [hf.1]; exact hi)).1, fun hh => ?_, fun hh => ?_⟩
  · have := (lowL_iff (by have := hin (i + 1) (by rw [hf.1]; exact hh); omega)).1 (hf.2 (i + 1) (by rw [hf.1]; exact hh)).2
    have := this.1 (by omega)
    simpa using this
  · have := (lowL_iff (by have := hin (i + p) (by rw [hf.1]; exact hh); omega)).1 (hf.2 (i + p) (by rw [hf.1]; exact hh)).2
    have := this.2 (by omega)
    simpa using this
theorem rowCell {H : AHeap} {b : Nat} {L : List Int} {k : Nat} (h : H.get b = .row (L.map (Value.int .i64)) 3) (hk : k < L.length) : cellAt H b k = some (.int .i64 (L.getD k 0)) := by
  simp [cellAt, h, List.getD_eq_getElem?_getD, hk]
structure LateOk (s : Sheet) (c : Copy) (lt : List Int) (n p : Nat) : Prop where
  len : lt.length = n
  at_ : ∀ i, i < n → (hasOn s i (lt.getD i 0)).offers (c.words.getD i 0) = true ∧ c.beg ≤ lt.getD i 0 ∧ lt.getD i 0 ≤ c.fin
  next : ∀ i, i + 1 < n → lt.getD i 0 ≤ lt.getD (i + 1) 0
  per : ∀ i, i + p < n → lt.getD i 0 + 1 ≤ lt.getD (i + p) 0
  top : ∀ i e, i < n → c.beg ≤ e → e ≤ c.fin → (hasOn s i e).offers (c.words.getD i 0) = true → (i + 1 < n → e ≤ lt.getD (i + 1) 0) → (i + p < n → e + 1 ≤ lt.getD (i + p) 0) → e ≤ lt.getD i 0
theorem late_ok {s : Sheet} {c : Copy} (he : errCopy s c = 0) (hm : (courseOf s c).made c.per.toNat = true) : LateOk s c ((courseOf s c).late c.per.toNat) c.words.length c.per.toNat := by
  have hor := courseOf_ord he
  have hp : 1 ≤ c.per.toNat := by have := (errCopy_ok he).2.2.2.2.2.2.1; omega
  have hl := courseOf_len s c
  have hop : ∀ i d, i < c.words.length → ((courseOf s c).op i d = true ↔ (c.beg ≤ d ∧ d ≤ c.fin) ∧ (hasOn s i d).offers (c.words.getD i 0) = true) := fun i d hi => by
    rw [Course.op, courseOf_ins he hi]; simp
  refine ⟨by rw [(courseOf s c).late_len_made hor hp hm, hl], fun i hi => ?_, fun i hi => ?_, fun i hi => ?_, fun i e hi h1 h2 h3 h4 h5 => ?_⟩
  · have h := ((courseOf s c).late_bound hor hp hm (i := i) (by omega)).1
    rw [hop _ _ hi] at h
    exact ⟨h.2, h.1.1, h.1.2⟩
  · exact ((courseOf s c).late_bound hor hp hm (i := i) (by omega)).2.1 (by omega)
  · exact ((courseOf s c).late_bound hor hp hm (i := i) (by omega)).2.2 (by omega)
  · refine (courseOf s c).late_top hor hp hm (i := i) (by omega) ((hop i e hi).2 ⟨⟨h1, h2⟩, h3⟩) (fun h => h4 (by omega)) (fun h => h5 (by omega))
theorem ends_n {s : Sheet} {c : Copy} (h : errExt s c = 0) : errCopy s c = 0 ∧ (courseOf s c).made c.per.toNat = true ∧ firstL s c = (courseOf s c).early c.per.toNat 0 ∧ lastL s c = (courseOf s c).late c.per.toNat ∧ (firstL s c).length = s.words.length ∧ (lastL s c).length = s.words.length ∧ 1 ≤ s.words.length ∧ s.words.length ≤ 40 := by
  have h0 : errCopy s c = 0 := by
    unfold errExt at h
    split at h
    · rename_i h1; exact absurd h h1
    · rename_i h1; simpa using h1
  have hm : (courseOf s c).made c.per.toNat = true := by
    rw [errExt, if_neg (by simp [h0])] at h
    split at h
    · rename_i h1; exact h1
    · cases h
  obtain ⟨he0, hlen, -, -, -, -, hp1, -⟩ := errCopy_ok h0
  have hw := win_iff.1 (err_ok he0).2.1
  have hl := courseOf_len s c
  have e1 : firstL s c = (courseOf s c).early c.per.toNat 0 := by rw [firstL, if_pos h]
  have e2 : lastL s c = (courseOf s c).late c.per.toNat := by rw [lastL, if_pos h]
  refine ⟨h0, hm, e1, e2, ?_, ?_, by omega, by omega⟩
  · rw [e1, ((courseOf s c).early_fit (courseOf_ord h0) (by omega) hm).1]; omega
  · rw [e2, (courseOf s c).late_len_made (courseOf_ord h0) (by omega) hm]; omega
end Go.Proofs.Tryz
namespace Go.Proofs.Tryz
open Go Go.Am Go.RowKit Go.Co
set_option maxRecDepth 100000

def lessS (s : Sheet) (ids : List Int) : Sheet := ⟨s.words, s.alts.filter fun a => !decide (a.id ∈ ids)⟩
theorem lookL_putL : ∀ (l : List (Int × Value)) (k : Int) (v : Value) (j : Int), lookL (putL l k v) j = if j = k then some v else lookL l j
  | [], k, v, j => by
    by_cases h : j = k
    · subst h; simp [putL, lookL]
    · simp [putL, lookL, h]
  | p :: t, k, v, j => by
    have ih := lookL_putL t k v j
    simp only [lookL] at ih ⊢
    rw [putL]
    by_cases hk : k = p.1
    · subst hk
      simp only [beq_self_eq_true, if_true, List.find?_cons]
      by_cases h : j = p.1
      · simp [h]
      · have hb : (j == p.1) = false := by simpa using h
        simp [h, hb]
    · rw [if_neg (by simpa using hk)]
      simp only [List.find?_cons]
      by_cases h : j = p.1
      · subst h
        simp [show ¬ p.1 = k from fun h => hk h.symm]
      · have hb : (j == p.1) = false := by simpa using h
        simp only [hb]
        exact ih
theorem alts_of_own {H : AHeap} {base : Nat} {v : Value} {l : List Alt} (h : Own H base v 58 6 (altCells l)) (hl : l.length ≤ 9223372036854775807) : Alts H v l := by
  rcases h with ⟨h1, h2⟩ | ⟨b, n, h1, h2, h3, h4, h5, h6⟩
  · have : l.length = 0 := by have := altCells_length l; rw [h2] at this; simp at this; omega
    refine ⟨altCells_length l, hl, none, 0, by rw [h1, this], fun h => by omega⟩
  · have hn : n = l.length := by have := altCells_length l; omega
    subst hn
    refine ⟨altCells_length l, hl, _, _, h1, fun _ => ⟨b, 0, none, rfl, h3, fun j u hu => ?_⟩⟩
    simp only [cellAt, h4, Nat.zero_add]; exact hu

set_option maxHeartbeats 2000000 in
theorem clone_o {loops : List (Nat × LInfo)} {H : AHeap} {v : Value} {xs : List Int} (hv : Ints H v xs) (h1 : 0 < xs.length) (h2 : xs.length ≤ 1000) : CallS Tryz.prog loops 76 [v] H fun r H' => Own H' H.n r 3 1 (xs.map (Value.int .i64)) ∧ Ext H H' := by
  have HXI := Lib.hid hv
  obtain ⟨-, -, a, c, rfl, hsome⟩ := hv
  obtain ⟨b, o, sp, rfl, hb, hcell⟩ := hsome h1
  have hcells : cellsAt H b o (xs.length * 1) = some (xs.map (Value.int .i64)) := by
    have := cellsAt_of (H := H) (b := b) (o := o) (us := xs.map (Value.int .i64)) (by cases xs; exact absurd h1 (by simp); simp) hcell
    simpa using this
  have HCS := Lib.hid hcells
  clear hcell hsome hcells
  refine CallS.enter' Tryz.func76 rfl Tryz.ntmps76 (by simp) fun f hd hf => ?_
  have f0 := hf 0
  simp at f0
  clear hf
  repeat' (first|(with_reducible first|refine zA ?_|refine zB fun K hK=>?_|refine zC fun K2 hK2=>?_|refine zD ?_|refine zE ?_|refine zF ?_|refine zG ?_|refine zH ?_|refine zI ?_|refine zM ?_|refine zN ?_|refine zO ?_|refine zP ?_|refine zQ ?_|refine zR ?_)|((with_reducible refine zU (hK _ _ ?_));clear hK K)|((with_reducible refine zV ?_ ?_ fun K1 K3 d hdst h1 h3=>?_);rfl;exact yB rfl;cases hdst;go_simp)|((with_reducible refine zW fun K1 K3 h1 h3=>?_);go_simp)|((first|refine h1 ?_|refine h3 ?_);clear h1 h3 K1 K3)|((first|refine zX (fun hb=>h1 ?_) (fun hb=>h3 ?_)|refine zX (fun hb=>h3 ?_) (fun hb=>h1 ?_))<;>(clear h1 h3 K1 K3;(try have hb2:=yC hb);(try have hb2:=yD hb);(try have hb2:=yE hb);(try have hb2:=yF hb);(try have hb2:=yG hb)))|(refine fun (K2:_→AHeap→Prop) hK2=>?_)|((with_reducible refine zY ?_ ?_);decide)|((with_reducible first|refine zZ ?_ (fun K hK=>?_)|refine yA ?_ (fun K hK=>?_));(focus go_simp;done);go_simp;refine hK _ _ ?_;clear hK K)|(go_simp;(try go_bits);(try first | ((refine lit0_k el22 sz3 ze3 rfl (by decide) ?_); go_simp) | ((refine append0_g (b := H.n) el22 sz3 by3 ze3 rfl (by decide) (AHeap.get_push_new) (by rw [AHeap.n_push]; omega) (srcCells_some h1 (((Ext.push _).cellsAt hb).trans HCS.out)) h1 (by simp) oneV_list_int (by rw [List.length_map]; show xs.length * 8 ≤ 1073741824; omega) fun H7 hn7 hg7 hk7 => ?_); (have HO7 := Lib.hid (own_new (base := H.n) (size := 1) (by rw [AHeap.n_push]; omega) (by omega) hg7 (by simp) h1)); (have HX7 := Lib.hid (grown_ext (Ext.push _) (Nat.le_refl _) hn7 hk7)); clear hn7 hg7 hk7; go_simp));refine hK2 _ _ ?_;clear hK2 K2))
  exact ⟨HO7.out, HX7.out⟩

theorem altCells_one : ∀ l : List Alt, (altCells l).all oneV = true
  | [] => rfl
  | a :: t => by
    have h := altCells_one t
    rw [altCells] at h ⊢
    rw [List.flatMap_cons, List.all_append, h]; rfl
def GoneIs (H : AHeap) (r : Nat) (ids : List Int) : Prop := ∃ l, MapIs H r l ∧ ∀ k, lookL l k = if k ∈ ids then some (.bool true) else none
theorem GoneIs.get {H : AHeap} {r : Nat} {ids : List Int} (h : GoneIs H r ids) : ∃ l, MapIs H r l ∧ ∀ k, (lookL l k).getD (.bool false) = .bool (decide (k ∈ ids)) := by
  obtain ⟨l, h1, h2⟩ := h
  refine ⟨l, h1, fun k => ?_⟩
  rw [h2]
  by_cases hk : k ∈ ids <;> simp [hk]

def SheetFrom (b : Nat) (H : AHeap) (v : Value) (s : Sheet) : Prop := ∀ G : AHeap, H.n ≤ G.n → (∀ i, b ≤ i → i < H.n → G.get i = H.get i) → SheetV G v s
set_option maxHeartbeats 4000000 in
theorem without_e {loops : List (Nat × LInfo)} {H : AHeap} {sv iv : Value} {s : Sheet} {ids : List Int} (hs : SheetV H sv s) (hi : Ints H iv ids) (hw1 : 0 < s.words.length) (hw2 : s.words.length ≤ 1000) (ha2 : s.alts.length ≤ 1000) (hi2 : ids.length ≤ 1000) : CallS Tryz.prog loops 62 [sv, iv] H fun r H' => SheetFrom H.n H' r (lessS s ids) ∧ (∃ wa wn aa an, r = .agg #[.slice wa wn wn, .slice aa an an]) ∧ Ext H H' := by
  obtain ⟨wv, av, rfl, hw, ha⟩ := hs
  have HWI := Lib.hid hw
  have HA := Lib.hid ha
  have HII := Lib.hid hi
  obtain ⟨hwl, wa, wc, rfl⟩ := hw.slice
  obtain ⟨hal, aa, ac, rfl⟩ := ha.slice
  obtain ⟨hil, ia, ic, rfl⟩ := hi.slice
  clear hw ha hi
  have HCL := Lib.hid (fun (loops : List (Nat × LInfo)) (H' : AHeap) (hx : Ext H H') => clone_o (loops := loops) (HWI.out.ext hx) hw1 hw2)
  refine CallS.enter' Tryz.func62 rfl Tryz.ntmps62 (by simp) fun f hd hf => ?_
  have f0 := hf 0
  have f1 := hf 1
  simp at f0 f1
  clear hf
  repeat' (first|(with_reducible first|refine zA ?_|refine zB fun K hK=>?_|refine zC fun K2 hK2=>?_|refine zD ?_|refine zE ?_|refine zF ?_|refine zG ?_|refine zH ?_|refine zI ?_|refine zM ?_|refine zN ?_|refine zO ?_|refine zP ?_|refine zQ ?_|refine zR ?_)|((with_reducible refine zU (hK _ _ ?_));clear hK K)|((with_reducible refine zV ?_ ?_ fun K1 K3 d hdst h1 h3=>?_);rfl;exact yB rfl;cases hdst;go_simp)|((with_reducible refine zW fun K1 K3 h1 h3=>?_);go_simp)|((first|refine h1 ?_|refine h3 ?_);clear h1 h3 K1 K3)|((first|refine zX (fun hb=>h1 ?_) (fun hb=>h3 ?_)|refine zX (fun hb=>h3 ?_) (fun hb=>h1 ?_))<;>(clear h1 h3 K1 K3;(try have hb2:=yC hb);(try have hb2:=yD hb);(try have hb2:=yE hb);(try have hb2:=yF hb);(try have hb2:=yG hb)))|(refine fun (K2:_→AHeap→Prop) hK2=>?_)|((with_reducible refine zY ?_ ?_);decide)|((with_reducible first|refine zZ ?_ (fun K hK=>?_)|refine yA ?_ (fun K hK=>?_));(focus go_simp;done);go_simp;refine hK _ _ ?_;clear hK K)|(go_simp;(try go_bits);refine hK2 _ _ ?_;clear hK2 K2))
  refine CodeS.loop (fun m f H' => ∃ k : Nat, k ≤ ids.length ∧ m = ids.length - k ∧ f.tmp 14 = .int .i64 k ∧ f.tmp 13 = .int .i64 (ids.length : Nat) ∧ f.tmp 12 = .slice ia ids.length ic ∧ f.tmp 2 = .pointer (some ⟨H.n, 0, none⟩) ∧ f.tmp 4 = .pointer (some ⟨H.n + 1, 0, none⟩) ∧ f.tmp 5 = .map (some (H.n + 1 + 1)) ∧ f.defers = [] ∧ H.n + 1 + 1 < H'.n ∧ Hid (Ext H H') ∧ Hid (H'.get H.n = .row [Value.slice wa s.words.length wc, Value.slice aa s.alts.length ac] 25) ∧ Hid (H'.get (H.n + 1) = .row [Value.slice none 0 0, Value.slice none 0 0] 25) ∧ Hid (GoneIs H' (H.n + 1 + 1) (ids.take k))) ids.length ?_ ?_
  · refine ⟨0, by simp, by simp, (by first|go_simp<;>go_num|assumption), (by first|go_simp<;>go_num|assumption), (by first|go_simp<;>go_num|assumption), (by first|go_simp<;>go_num|assumption), (by first|go_simp<;>go_num|assumption), (by first|go_simp<;>go_num|assumption), (by first|go_simp<;>go_num|assumption), by simp only [AHeap.n_push]; omega, Lib.hid ((((Ext.refl _).push' _).push' _).push' _), Lib.hid ?_, Lib.hid ?_, Lib.hid ⟨[], MapIs.new, fun k => by simp [lookL]⟩⟩
    · rw [AHeap.get_push_old (by simp only [AHeap.n_push]; omega), AHeap.get_push_old (by simp only [AHeap.n_push]; omega), AHeap.get_push_new]
    · rw [AHeap.get_push_old (by simp only [AHeap.n_push]; omega), get_at (by simp only [AHeap.n_push])]
  clear f0 f1 hd f
  rintro m f H' ⟨k, hk, rfl, f14, f13, f12, f2, f4, f5, hd, hn2, HX, HG0, HG1, HM⟩
  by_cases hlt : k < ids.length
  · obtain ⟨b, o, sp, rfl, hb, hx⟩ := (HII.out.ext HX.out).at_ hlt
    have HT := Lib.hid (List.take_succ_eq_append_getElem hlt)
    generalize ids[k] = x at hx HT
    obtain ⟨l, hm, hl⟩ := HM.out
    have HMI := Lib.hid hm
    have HLL := Lib.hid hl
    clear hm hl
    repeat' (first|(with_reducible first|refine zA ?_|refine zB fun K hK=>?_|refine zC fun K2 hK2=>?_|refine zD ?_|refine zE ?_|refine zF ?_|refine zG ?_|refine zH ?_|refine zI ?_|refine zM ?_|refine zN ?_|refine zO ?_|refine zP ?_|refine zQ ?_|refine zR ?_)|((with_reducible refine zU (hK _ _ ?_));clear hK K)|((with_reducible refine zV ?_ ?_ fun K1 K3 d hdst h1 h3=>?_);rfl;exact yB rfl;cases hdst;go_simp)|((with_reducible refine zW fun K1 K3 h1 h3=>?_);go_simp)|((first|refine h1 ?_|refine h3 ?_);clear h1 h3 K1 K3)|((first|refine zX (fun hb=>h1 ?_) (fun hb=>h3 ?_)|refine zX (fun hb=>h3 ?_) (fun hb=>h1 ?_))<;>(clear h1 h3 K1 K3;(try have hb2:=yC hb);(try have hb2:=yD hb);(try have hb2:=yE hb);(try have hb2:=yF hb);(try have hb2:=yG hb)))|(refine fun (K2:_→AHeap→Prop) hK2=>?_)|((with_reducible refine zY ?_ ?_);decide)|((with_reducible first|refine zZ ?_ (fun K hK=>?_)|refine yA ?_ (fun K hK=>?_));(focus go_simp;done);go_simp;refine hK _ _ ?_;clear hK K)|(go_simp;(try go_bits);(try first | ((refine update_k ma133 un3 HMI.out fun H2 hn hm2 hg2 => ?_); (have HM2 := Lib.hid hm2); (have HN2 := Lib.hid hn); (have HG2 := Lib.hid hg2); clear hn hm2 hg2; go_simp));refine hK2 _ _ ?_;clear hK2 K2))
    have hnn := HN2.out
    refine Post.round_normal ⟨ids.length - (k + 1), by omega, k + 1, by omega, rfl, (by first|go_simp<;>go_num|assumption), (by first|go_simp<;>go_num|assumption), (by first|go_simp<;>go_num|assumption), (by first|go_simp<;>go_num|assumption), (by first|go_simp<;>go_num|assumption), (by first|go_simp<;>go_num|assumption), (by first|go_simp<;>go_num|assumption), by omega, Lib.hid ⟨by have := HX.out.n; omega, fun i hi => by rw [HG2.out i (by omega)]; exact HX.out.get i hi⟩, Lib.hid ?_, Lib.hid ?_, Lib.hid ⟨_, HM2.out, fun j => ?_⟩⟩
    · rw [HG2.out _ (by omega)]; exact HG0.out
    · rw [HG2.out _ (by omega)]; exact HG1.out
    · rw [lookL_putL, HLL.out, HT.out]
      by_cases hj : j = x
      · simp [hj]
      · simp [hj]
  · have hke : k = ids.length := by omega
    subst hke
    have HM1 : Hid (GoneIs H' (H.n + 1 + 1) ids) := Lib.hid (by have := HM.out; rwa [List.take_length] at this)
    have hg0 := HG0.out
    have hc0 : cellAt H' H.n 0 = some (Value.slice wa s.words.length wc) := by simp [cellAt, hg0]
    have hn0 : H.n < H'.n := by omega
    have hn1 : H.n + 1 < H'.n := by omega
    clear hg0
    repeat' (first|(with_reducible first|refine zA ?_|refine zB fun K hK=>?_|refine zC fun K2 hK2=>?_|refine zD ?_|refine zE ?_|refine zF ?_|refine zG ?_|refine zH ?_|refine zI ?_|refine zM ?_|refine zN ?_|refine zO ?_|refine zP ?_|refine zQ ?_|refine zR ?_)|((with_reducible refine zU (hK _ _ ?_));clear hK K)|((with_reducible refine zV ?_ ?_ fun K1 K3 d hdst h1 h3=>?_);rfl;exact yB rfl;cases hdst;go_simp)|((with_reducible refine zW fun K1 K3 h1 h3=>?_);go_simp)|((first|refine h1 ?_|refine h3 ?_);clear h1 h3 K1 K3)|((first|refine zX (fun hb=>h1 ?_) (fun hb=>h3 ?_)|refine zX (fun hb=>h3 ?_) (fun hb=>h1 ?_))<;>(clear h1 h3 K1 K3;(try have hb2:=yC hb);(try have hb2:=yD hb);(try have hb2:=yE hb);(try have hb2:=yF hb);(try have hb2:=yG hb)))|(refine fun (K2:_→AHeap→Prop) hK2=>?_)|((with_reducible refine zY ?_ ?_);decide)|((with_reducible first|refine zZ ?_ (fun K hK=>?_)|refine yA ?_ (fun K hK=>?_));(focus go_simp;done);go_simp;refine hK _ _ ?_;clear hK K)|(go_simp;(try go_bits);(try first | ((with_reducible show CallS _ _ _ _ _ _);refine CallS.mono (HCL.out _ _ HX.out) ?_; rintro _ H3 ⟨ho, hx⟩; (obtain ⟨va, vn, rfl⟩ := own_slice ho); (have HWO := Lib.hid ho); (have HX3 := Lib.hid hx); (have HXX3 := Lib.hid (HX.out.trans hx)); (have hc13 : cellAt H3 H.n 1 = some (Value.slice aa s.alts.length ac) := by rw [hx.cellAt hn0]; simp [cellAt, HG0.out]); (have hn3 : H'.n ≤ H3.n := hx.n); (have hn03 : H.n < H3.n := by omega); clear ho hx));refine hK2 _ _ ?_;clear hK2 K2))
    have HM3 : Hid (∀ G : AHeap, Ext H3 G → ∃ l, MapIs G (H.n + 1 + 1) l ∧ ∀ k, (lookL l k).getD (.bool false) = .bool (decide (k ∈ ids))) := Lib.hid (fun G hx => by
      obtain ⟨l, h1, h2⟩ := HM1.out.get
      exact ⟨l, h1.ext hn2 (HX3.out.trans hx), h2⟩)
    have HG13 : Hid (H3.get (H.n + 1) = .row [Value.slice none 0 0, Value.slice none 0 0] 25) := Lib.hid ((HX3.out.get _ hn1).trans HG1.out)
    refine CodeS.loop (fun m f H4 => ∃ (k : Nat) (av : Value), k ≤ s.alts.length ∧ m = s.alts.length - k ∧ f.tmp 28 = .int .i64 k ∧ f.tmp 27 = .int .i64 (s.alts.length : Nat) ∧ f.tmp 26 = .slice aa s.alts.length ac ∧ f.tmp 4 = .pointer (some ⟨H.n + 1, 0, none⟩) ∧ f.tmp 5 = .map (some (H.n + 1 + 1)) ∧ f.tmp 8 = .pointer (some ⟨H3.n, 0, none⟩) ∧ f.defers = [] ∧ H3.n < H4.n ∧ Hid (∀ i, i < H3.n → H4.get i = H3.get i) ∧ Hid (H4.get H3.n = .row [.slice va vn vn, av] 25) ∧ Hid (Own H4 (H3.n + 1) av 58 6 (altCells ((s.alts.take k).filter (fun a => !decide (a.id ∈ ids)))))) s.alts.length ?_ ?_
    · exact ⟨0, .slice none 0 0, by simp, by simp, (by first|go_simp<;>go_num|assumption), (by first|go_simp<;>go_num|assumption), (by first|go_simp<;>go_num|assumption), (by first|go_simp<;>go_num|assumption), (by first|go_simp<;>go_num|assumption), (by first|go_simp<;>go_num|assumption), (by first|go_simp<;>go_num|assumption), by rw [AHeap.n_push]; omega, Lib.hid (fun i hi => AHeap.get_push_old hi), Lib.hid AHeap.get_push_new, Lib.hid Own.nil⟩
    clear f14 f13 f12 f2 f4 f5 hd f hc0 hc13
    rintro m f H4 ⟨k, av, hk, rfl, f28, f27, f26, f4, f5, f8, hd, hq, HK, HQ, HO⟩
    have HX4 : Hid (Ext H3 H4) := Lib.hid ⟨by omega, HK.out⟩
    obtain ⟨ava, avn, rfl⟩ := own_slice HO.out
    have hqg := HQ.out
    have hq1 : cellAt H4 H3.n 1 = some (.slice ava avn avn) := by simp [cellAt, hqg]
    have hqc : cellsAt H4 H3.n 0 2 = some [.slice va vn vn, .slice ava avn avn] := by simp [cellsAt, hqg]
    by_cases hlt : k < s.alts.length
    · obtain ⟨b, o, sp, rfl, hb, hx6, -⟩ := (HA.out.ext (HXX3.out.trans HX4.out)).at_ hlt
      have HT : Hid (altCells ((s.alts.take (k + 1)).filter (fun a => !decide (a.id ∈ ids))) = altCells ((s.alts.take k).filter (fun a => !decide (a.id ∈ ids))) ++ if (s.alts[k]).id ∈ ids then [] else (s.alts[k]).cells) := Lib.hid (by
        rw [List.take_succ_eq_append_getElem hlt, List.filter_append, altCells, List.flatMap_append]
        by_cases hc : (s.alts[k]).id ∈ ids <;> simp [List.filter, hc, altCells])
      have hlen : (altCells ((s.alts.take k).filter (fun a => !decide (a.id ∈ ids)))).length ≤ 6000 := by
        have h1 := List.length_filter_le (fun a => !decide (a.id ∈ ids)) (s.alts.take k)
        rw [List.length_take] at h1
        rw [altCells_length]; omega
      have HLEN := Lib.hid hlen
      have HON := Lib.hid (altCells_one ((s.alts.take k).filter (fun a => !decide (a.id ∈ ids))))
      generalize hC2 : altCells ((s.alts.take (k + 1)).filter (fun a => !decide (a.id ∈ ids))) = C2 at HT
      have HC2 := Lib.hid hC2
      generalize altCells ((s.alts.take k).filter (fun a => !decide (a.id ∈ ids))) = C1 at HT HO HLEN HON
      generalize s.alts[k] = a at hx6 HT
      obtain ⟨i1, i2, i3, i4, i5, i6⟩ := a
      have hx6' : cellsAt H4 b (o + k * 6) 6 = some [.int .i64 i1, .int .i64 i2, .int .i64 i3, .int .i64 i4, .int .i64 i5, .int .i64 i6] := hx6
      obtain ⟨l, hm, hl⟩ := HM3.out H4 HX4.out
      have HMI := Lib.hid hm
      have hl1 := hl i1
      have hb1 : b < H4.n := hb
      clear hx6 hlen hC2 hm hl
      repeat' (first|(with_reducible first|refine zA ?_|refine zB fun K hK=>?_|refine zC fun K2 hK2=>?_|refine zD ?_|refine zE ?_|refine zF ?_|refine zG ?_|refine zH ?_|refine zI ?_|refine zM ?_|refine zN ?_|refine zO ?_|refine zP ?_|refine zQ ?_|refine zR ?_)|((with_reducible refine zU (hK _ _ ?_));clear hK K)|((with_reducible refine zV ?_ ?_ fun K1 K3 d hdst h1 h3=>?_);rfl;exact yB rfl;cases hdst;go_simp)|((with_reducible refine zW fun K1 K3 h1 h3=>?_);go_simp)|((first|refine h1 ?_|refine h3 ?_);clear h1 h3 K1 K3)|((first|refine zX (fun hb=>h1 ?_) (fun hb=>h3 ?_)|refine zX (fun hb=>h3 ?_) (fun hb=>h1 ?_))<;>(clear h1 h3 K1 K3;(try have hb2:=yC hb);(try have hb2:=yD hb);(try have hb2:=yE hb);(try have hb2:=yF hb);(try have hb2:=yG hb)))|(refine fun (K2:_→AHeap→Prop) hK2=>?_)|((with_reducible refine zY ?_ ?_);decide)|((with_reducible first|refine zZ ?_ (fun K hK=>?_)|refine yA ?_ (fun K hK=>?_));(focus go_simp;done);go_simp;refine hK _ _ ?_;clear hK K)|(go_simp;(try go_bits);(try first | ((refine look_k ma133 un3 ze4 (HMI.out.ext (by omega) (Ext.push _)) ?_); rw [hl1]; go_simp) | ((refine one_k el23 sz58 ze58 rfl (by decide) (by decide) rfl rfl ?_); go_simp) | ((refine append_k2 el23 sz58 by58 ze58 rfl (by decide) (HO.out.ext ((Ext.push _).push' _)) (srcCells_new rfl) (by decide) rfl (by rw [List.all_append, HON.out]; rfl) (by have := HLEN.out; show (C1.length + 6) * 48 ≤ 1073741824; omega) (by simp only [AHeap.n_push]; omega) fun v2 H5 ho5 hg5 => ?_); (have HO5 := Lib.hid (ho5.mono (base' := H3.n + 1) (by simp only [AHeap.n_push]; omega))); (obtain ⟨wa2, wn2, rfl⟩ := own_slice ho5); (have HG5 := Lib.hid hg5); (have hq5 : H5.get H3.n = .row [.slice va vn vn, .slice ava avn avn] 25 := by rw [hg5.2 _ (by simp only [AHeap.n_push]; omega) (fun b n hv hn => by have := (own_block HO.out hv hn).1; omega), AHeap.get_push_old (by rw [AHeap.n_push]; omega), AHeap.get_push_old hq]; exact hqg); (have hn5 : H4.n < H5.n := by have := hg5.1; simp only [AHeap.n_push] at this; omega); clear ho5 hg5; go_simp));refine hK2 _ _ ?_;clear hK2 K2))
      · have hni : ¬ i1 ∈ ids := by simpa using ‹(!decide (i1 ∈ ids)) = true›
        refine Post.round_normal ⟨s.alts.length - (k + 1), by omega, k + 1, .slice wa2 wn2 wn2, by omega, rfl, (by first|go_simp<;>go_num|assumption), (by first|go_simp<;>go_num|assumption), (by first|go_simp<;>go_num|assumption), (by first|go_simp<;>go_num|assumption), (by first|go_simp<;>go_num|assumption), (by first|go_simp<;>go_num|assumption), (by first|go_simp<;>go_num|assumption), by rw [AHeap.n_upd]; omega, Lib.hid (fun i hi => ?_), Lib.hid ?_, Lib.hid ?_⟩
        · rw [AHeap.get_upd_ne (by omega), HG5.out.2 _ (by simp only [AHeap.n_push]; omega) (fun b n hv hn => by have := (own_block HO.out hv hn).1; omega), AHeap.get_push_old (by rw [AHeap.n_push]; omega), AHeap.get_push_old (by omega)]
          exact HK.out i hi
        · rw [AHeap.get_upd_same]
        · rw [HC2.out, HT.out, if_neg hni]
          exact own_upd HO5.out (by omega)
      · have hni : i1 ∈ ids := by simpa using ‹(!decide (i1 ∈ ids)) = false›
        refine Post.round_normal ⟨s.alts.length - (k + 1), by omega, k + 1, .slice ava avn avn, by omega, rfl, (by first|go_simp<;>go_num|assumption), (by first|go_simp<;>go_num|assumption), (by first|go_simp<;>go_num|assumption), (by first|go_simp<;>go_num|assumption), (by first|go_simp<;>go_num|assumption), (by first|go_simp<;>go_num|assumption), (by first|go_simp<;>go_num|assumption), by rw [AHeap.n_push]; omega, Lib.hid (fun i hi => ?_), Lib.hid ?_, Lib.hid ?_⟩
        · rw [AHeap.get_push_old (by omega)]; exact HK.out i hi
        · rw [AHeap.get_push_old hq]; exact hqg
        · rw [HC2.out, HT.out, if_pos hni, List.append_nil]
          exact HO.out.ext (Ext.push _)
    · have hke : k = s.alts.length := by omega
      subst hke
      have hg1 : H4.get (H.n + 1) = .row [Value.slice none 0 0, Value.slice none 0 0] 25 := (HK.out _ (by omega)).trans HG13.out
      have HO' : Hid (Own H4 (H3.n + 1) (.slice ava avn avn) 58 6 (altCells (lessS s ids).alts)) := Lib.hid (by have := HO.out; rwa [List.take_length] at this)
      repeat' (first|(with_reducible first|refine zA ?_|refine zB fun K hK=>?_|refine zC fun K2 hK2=>?_|refine zD ?_|refine zE ?_|refine zF ?_|refine zG ?_|refine zH ?_|refine zI ?_|refine zM ?_|refine zN ?_|refine zO ?_|refine zP ?_|refine zQ ?_|refine zR ?_)|((with_reducible refine zU (hK _ _ ?_));clear hK K)|((with_reducible refine zV ?_ ?_ fun K1 K3 d hdst h1 h3=>?_);rfl;exact yB rfl;cases hdst;go_simp)|((with_reducible refine zW fun K1 K3 h1 h3=>?_);go_simp)|((first|refine h1 ?_|refine h3 ?_);clear h1 h3 K1 K3)|((first|refine zX (fun hb=>h1 ?_) (fun hb=>h3 ?_)|refine zX (fun hb=>h3 ?_) (fun hb=>h1 ?_))<;>(clear h1 h3 K1 K3;(try have hb2:=yC hb);(try have hb2:=yD hb);(try have hb2:=yE hb);(try have hb2:=yF hb);(try have hb2:=yG hb)))|(refine fun (K2:_→AHeap→Prop) hK2=>?_)|((with_reducible refine zY ?_ ?_);decide)|((with_reducible first|refine zZ ?_ (fun K hK=>?_)|refine yA ?_ (fun K hK=>?_));(focus go_simp;done);go_simp;refine hK _ _ ?_;clear hK K)|(go_simp;(try go_bits);refine hK2 _ _ ?_;clear hK2 K2))
      have hHn := HX.out.n
      refine ⟨fun G hG hsame => ⟨_, _, rfl, ?_, ?_⟩, ⟨_, _, _, _, rfl⟩, (HXX3.out.trans HX4.out).upd (by omega) _⟩
      · have h1 := own_upd (i := H.n + 1) (o := .row [.slice va vn vn, .slice ava avn avn] 25) (HWO.out.ext HX4.out) (by omega)
        exact ints_of_own (own_at h1 hG fun i n hv hn => hsame i (by have := (own_block h1 hv hn).1; omega) (own_block h1 hv hn).2.1) (by show s.words.length ≤ _; omega)
      · have h1 := own_upd (i := H.n + 1) (o := .row [.slice va vn vn, .slice ava avn avn] 25) HO'.out (by omega)
        exact alts_of_own (own_at h1 hG fun i n hv hn => hsame i (by have := (own_block h1 hv hn).1; omega) (own_block h1 hv hn).2.1) (by have := List.length_filter_le (fun a : Alt => !decide (a.id ∈ ids)) s.alts; show (s.alts.filter _).length ≤ _; omega)
end Go.Proofs.Tryz
namespace Go.Co
def posL (n : Int) (l : List Int) : Nat → Nat
  | 0 => 0
  | k + 1 => if l.getD k 0 > n then posL n l k else k + 1
def insL (l : List Int) (n : Int) : List Int := l.take (posL n l l.length) ++ n :: l.drop (posL n l l.length)
def sortL (l : List Int) : List Int := l.foldl insL []
theorem posL_le (n : Int) (l : List Int) : ∀ k, posL n l k ≤ k
  | 0 => Nat.le_refl _
  | k + 1 => by
    rw [posL]
    split
    · exact Nat.le_succ_of_le (posL_le n l k)
    · exact Nat.le_refl _
theorem insL_len (l : List Int) (n : Int) : (insL l n).length = l.length + 1 := by
  have := posL_le n l l.length
  simp [insL]; omega
theorem foldl_insL_len : ∀ (l acc : List Int), (l.foldl insL acc).length = acc.length + l.length
  | [], acc => rfl
  | x :: t, acc => by rw [List.foldl_cons, foldl_insL_len t, insL_len]; simp; omega
theorem sortL_len (l : List Int) : (sortL l).length = l.length := by rw [sortL, foldl_insL_len]; simp
theorem sortL_snoc (l : List Int) (x : Int) : sortL (l ++ [x]) = insL (sortL l) x := by simp [sortL]
theorem insL_get (l : List Int) (n : Int) (t : Nat) : (insL l n).getD t 0 = if t < posL n l l.length then l.getD t 0 else if t = posL n l l.length then n else l.getD (t - 1) 0 := by
  have hp := posL_le n l l.length
  simp only [insL, List.getD_eq_getElem?_getD, List.getElem?_append, List.length_take, Nat.min_eq_left hp]
  by_cases h1 : t < posL n l l.length
  · rw [if_pos h1, if_pos h1, List.getElem?_take, if_pos h1]
  · rw [if_neg h1, if_neg h1]
    by_cases h2 : t = posL n l l.length
    · rw [if_pos h2, h2]; simp
    · rw [if_neg h2, show t - posL n l l.length = (t - 1 - posL n l l.length) + 1 by omega, List.getElem?_cons_succ, List.getElem?_drop, show posL n l l.length + (t - 1 - posL n l l.length) = t - 1 by omega]
theorem sortL_take {l : List Int} {i : Nat} (h : i < l.length) : sortL (l.take (i + 1)) = insL (sortL (l.take i)) (l.getD i 0) := by
  rw [List.take_succ_eq_append_getElem h, sortL_snoc]; simp [List.getD_eq_getElem?_getD, h]
def WayAt (S : List Int) (x : Int) (L0 : List Int) (i j : Nat) (L : List Int) : Prop := ∀ t, t < L0.length → L.getD t 0 = if t < j then S.getD t 0 else if t = j then x else if t ≤ i then S.getD (t - 1) 0 else L0.getD t 0
def PartAt (L0 : List Int) (i : Nat) (L : List Int) : Prop := ∀ t, t < L0.length → L.getD t 0 = if t < i then (sortL (L0.take i)).getD t 0 else L0.getD t 0
theorem part_way {L0 L : List Int} {i : Nat} (h : PartAt L0 i L) : WayAt (sortL (L0.take i)) (L0.getD i 0) L0 i i L := by
  intro t ht
  rw [h t ht]
  by_cases h1 : t < i
  · rw [if_pos h1, if_pos h1]
  · rw [if_neg h1, if_neg h1]
    by_cases h2 : t = i
    · rw [if_pos h2, h2]
    · rw [if_neg h2, if_neg (by omega)]
theorem way_part {L0 L : List Int} {i j : Nat} (hi : i < L0.length) (h : WayAt (sortL (L0.take i)) (L0.getD i 0) L0 i j L) (hj : posL (L0.getD i 0) (sortL (L0.take i)) i = j) : PartAt L0 (i + 1) L := by
  intro t ht
  have hl : (sortL (L0.take i)).length = i := by rw [sortL_len]; simp; omega
  rw [h t ht, sortL_take hi, insL_get, hl, hj]
  by_cases h1 : t < i + 1
  · rw [if_pos h1]
    by_cases h2 : t < j
    · rw [if_pos h2, if_pos h2]
    · rw [if_neg h2, if_neg h2]
      by_cases h3 : t = j
      · rw [if_pos h3, if_pos h3]
      · rw [if_neg h3, if_neg h3, if_pos (by omega)]
  · have h9 : j ≤ i := by rw [← hj]; exact posL_le _ _ _
    rw [if_neg h1, if_neg (by omega), if_neg (by omega), if_neg (by omega)]
theorem way_step {S L0 L L2 : List Int} {x : Int} {i j : Nat} (hj : j + 1 ≤ i) (h : WayAt S x L0 i (j + 1) L) (h2 : ∀ t, L2.getD t 0 = if t = j then x else if t = j + 1 then S.getD j 0 else L.getD t 0) : WayAt S x L0 i j L2 := by
  intro t ht
  rw [h2 t]
  by_cases h3 : t = j
  · rw [if_pos h3, if_neg (by omega), if_pos h3]
  · rw [if_neg h3]
    by_cases h4 : t = j + 1
    · rw [if_pos h4, if_neg (by omega), if_neg (by omega), if_pos (by omega), h4]; rfl
    · rw [if_neg h4, h t ht]
      by_cases h5 : t < j
      · rw [if_pos (by omega), if_pos h5]
      · rw [if_neg (by omega), if_neg h4, if_neg h5, if_neg h3]
theorem part_one (L0 : List Int) : PartAt L0 1 L0 := by
  intro t ht
  by_cases h : t < 1
  · rw [if_pos h]
    cases L0 with
    | nil => simp at ht
    | cons a l => obtain rfl : t = 0 := by omega
                  simp [sortL, insL, posL]
  · rw [if_neg h]
theorem part_end {L0 L : List Int} (hl : L.length = L0.length) (h : PartAt L0 L0.length L) : L = sortL L0 := by
  refine List.ext_getElem (by rw [hl, sortL_len]) fun t h1 h2 => ?_
  have := h t (by omega)
  rw [if_pos (by omega), List.take_length] at this
  simpa [List.getD_eq_getElem?_getD, h1, h2] using this
end Go.Co
namespace Go.Proofs.Tryz
open Go Go.Am Go.RowKit
set_option maxRecDepth 1000000

theorem bitsLen_one {a : Value} {b : Int} (hp : plainV 6 a = true) (h : givesT Tryz.prog [] 90 124 [a] (.int .i64 b) = true) {loops : List (Nat × LInfo)} {H : AHeap} : CallS Tryz.prog loops 124 [a] H fun r H' => r = .int .i64 b ∧ H' = H :=
  CallS.of_calls (by simp [hp]) rfl (calls_of_table mixed (tbl := []) (by simp) (by simp [hp]) h)
theorem bl0 : givesT Tryz.prog [] 90 124 [.int .u64 0] (.int .i64 0) = true := by decide +kernel
theorem bl1 : givesT Tryz.prog [] 90 124 [.int .u64 1] (.int .i64 1) = true := by decide +kernel
theorem bl2 : givesT Tryz.prog [] 90 124 [.int .u64 2] (.int .i64 2) = true := by decide +kernel
theorem bl3 : givesT Tryz.prog [] 90 124 [.int .u64 3] (.int .i64 2) = true := by decide +kernel
theorem bl4 : givesT Tryz.prog [] 90 124 [.int .u64 4] (.int .i64 3) = true := by decide +kernel
theorem bl5 : givesT Tryz.prog [] 90 124 [.int .u64 5] (.int .i64 3) = true := by decide +kernel
theorem bl6 : givesT Tryz.prog [] 90 124 [.int .u64 6] (.int .i64 3) = true := by decide +kernel
theorem bl7 : givesT Tryz.prog [] 90 124 [.int .u64 7] (.int .i64 3) = true := by decide +kernel
theorem bl8 : givesT Tryz.prog [] 90 124 [.int .u64 8] (.int .i64 4) = true := by decide +kernel
theorem bl9 : givesT Tryz.prog [] 90 124 [.int .u64 9] (.int .i64 4) = true := by decide +kernel
theorem bl10 : givesT Tryz.prog [] 90 124 [.int .u64 10] (.int .i64 4) = true := by decide +kernel
theorem bl11 : givesT Tryz.prog [] 90 124 [.int .u64 11] (.int .i64 4) = true := by decide +kernel
theorem bl12 : givesT Tryz.prog [] 90 124 [.int .u64 12] (.int .i64 4) = true := by decide +kernel
theorem bitsLen_s {n : Nat} (h : n ≤ 12) : ∃ r : Int, ∀ (loops : List (Nat × LInfo)) (H : AHeap), CallS Tryz.prog loops 124 [.int .u64 n] H fun v H' => v = .int .i64 r ∧ H' = H := by
  have h9 : n = 0 ∨ n = 1 ∨ n = 2 ∨ n = 3 ∨ n = 4 ∨ n = 5 ∨ n = 6 ∨ n = 7 ∨ n = 8 ∨ n = 9 ∨ n = 10 ∨ n = 11 ∨ n = 12 := by omega
  rcases h9 with rfl | rfl | rfl | rfl | rfl | rfl | rfl | rfl | rfl | rfl | rfl | rfl | rfl
  · exact ⟨_, fun _ _ => bitsLen_one rfl bl0⟩
  · exact ⟨_, fun _ _ => bitsLen_one rfl bl1⟩
  · exact ⟨_, fun _ _ => bitsLen_one rfl bl2⟩
  · exact ⟨_, fun _ _ => bitsLen_one rfl bl3⟩
  · exact ⟨_, fun _ _ => bitsLen_one rfl bl4⟩
  · exact ⟨_, fun _ _ => bitsLen_one rfl bl5⟩
  · exact ⟨_, fun _ _ => bitsLen_one rfl bl6⟩
  · exact ⟨_, fun _ _ => bitsLen_one rfl bl7⟩
  · exact ⟨_, fun _ _ => bitsLen_one rfl bl8⟩
  · exact ⟨_, fun _ _ => bitsLen_one rfl bl9⟩
  · exact ⟨_, fun _ _ => bitsLen_one rfl bl10⟩
  · exact ⟨_, fun _ _ => bitsLen_one rfl bl11⟩
  · exact ⟨_, fun _ _ => bitsLen_one rfl bl12⟩
theorem conv170 {dst : Option Tmp} {x : Operand} {ty : TypeId} {src : String} {af : Array Edge} {g : Option (Nat × Bool)} {a : Int} (ev : Operand → Value) (hx : ev x = .int .i64 a) : pureOf Tryz.prog (execOp ev ⟨dst, .convert 3 170 x, ty, src, af, g⟩) = some (.value (.int .u64 (IntKind.u64.wrap a))) := by
  simp only [execOp, hx]
  kernel_rfl
def convU {β : Type} (v : Value) (H : AHeap) (kk : K β) (other : Unit → Option β) : Option β := match v with
  | .int .i64 a => kk (.int .u64 (IntKind.u64.wrap a)) H
  | _ => other ()
@[go_sem] theorem convU_i64 {β : Type} {a : Int} {H : AHeap} {kk : K β} {other : Unit → Option β} : convU (.int .i64 a) H kk other = kk (.int .u64 (IntKind.u64.wrap a)) H := rfl
theorem aPlain_conv170 {β : Type} {dst : Option Tmp} {x : Operand} {ty : TypeId} {src : String} {af : Array Edge} {g : Option (Nat × Bool)} {ev : Operand → Value} {H : AHeap} {kk : K β} : aPlain Tryz.prog ⟨dst, .convert 3 170 x, ty, src, af, g⟩ ev H kk = convU (ev x) H kk fun _ => aPlain Tryz.prog ⟨dst, .convert 3 170 x, ty, src, af, g⟩ ev H kk := by
  unfold convU
  split
  · rename_i a hx
    rw [plain_of rfl]
    have e1 : ((Op.convert 3 170 x).operands.toList.all fun x => plainV 6 (ev x)) = true := by
      show ([x].all fun x => plainV 6 (ev x)) = true
      simp [hx]
      rfl
    rw [if_pos e1, conv170 ev hx]
    rfl
  · rfl
@[go_sem] theorem opP_conv170 {cx : Cx} {H : AHeap} {f : AF} {k : AF → AHeap → Prop} {dst : Option Tmp} {x : Operand} {ty : TypeId} {src : String} {af : Array Edge} {g : Option (Nat × Bool)} : opP Tryz.prog cx ⟨dst, .convert 3 170 x, ty, src, af, g⟩ f H k = Holds (convU (f.eval x) H (fun v H' => some (putP cx.sz f dst v fun f' => k f' H')) fun _ => aPlain Tryz.prog ⟨dst, .convert 3 170 x, ty, src, af, g⟩ f.eval H fun v H' => some (putP cx.sz f dst v fun f' => k f' H')) :=
  opP_convert.trans (congrArg Holds aPlain_conv170)
end Go.Proofs.Tryz
namespace Go.Proofs.Tryz
open Go Go.Am Go.RowKit Go.Co
set_option maxRecDepth 100000

theorem isNaN_s {loops : List (Nat × LInfo)} {H : AHeap} {x : Int} : CallS Tryz.prog loops 152 [.int .i64 x] H fun r H' => r = .bool false ∧ H' = H := by
  refine CallS.enter' Tryz.func152 rfl Tryz.ntmps152 (by simp) fun f hd hf => ?_
  have f0 := hf 0
  simp at f0
  clear hf
  repeat' (first|(with_reducible first|refine zA ?_|refine zB fun K hK=>?_|refine zC fun K2 hK2=>?_|refine zD ?_|refine zE ?_|refine zF ?_|refine zG ?_|refine zH ?_|refine zI ?_|refine zM ?_|refine zN ?_|refine zO ?_|refine zP ?_|refine zQ ?_|refine zR ?_)|((with_reducible refine zU (hK _ _ ?_));clear hK K)|((with_reducible refine zV ?_ ?_ fun K1 K3 d hdst h1 h3=>?_);rfl;exact yB rfl;cases hdst;go_simp)|((with_reducible refine zW fun K1 K3 h1 h3=>?_);go_simp)|((first|refine h1 ?_|refine h3 ?_);clear h1 h3 K1 K3)|((first|refine zX (fun hb=>h1 ?_) (fun hb=>h3 ?_)|refine zX (fun hb=>h3 ?_) (fun hb=>h1 ?_))<;>(clear h1 h3 K1 K3;(try have hb2:=yC hb);(try have hb2:=yD hb);(try have hb2:=yE hb);(try have hb2:=yF hb);(try have hb2:=yG hb)))|(refine fun (K2:_→AHeap→Prop) hK2=>?_)|((with_reducible refine zY ?_ ?_);decide)|((with_reducible first|refine zZ ?_ (fun K hK=>?_)|refine yA ?_ (fun K hK=>?_));(focus go_simp;done);go_simp;refine hK _ _ ?_;clear hK K)|(go_simp;(try go_bits);refine hK2 _ _ ?_;clear hK2 K2))
  exact ⟨by simp, rfl⟩
theorem less_s {loops : List (Nat × LInfo)} {H : AHeap} {x y : Int} : CallS Tryz.prog loops 140 [.int .i64 x, .int .i64 y] H fun r H' => r = .bool (decide (x < y)) ∧ H' = H := by
  refine CallS.enter' Tryz.func140 rfl Tryz.ntmps140 (by simp) fun f hd hf => ?_
  have f0 := hf 0
  have f1 := hf 1
  simp at f0 f1
  clear hf
  repeat' (first|(with_reducible first|refine zA ?_|refine zB fun K hK=>?_|refine zC fun K2 hK2=>?_|refine zD ?_|refine zE ?_|refine zF ?_|refine zG ?_|refine zH ?_|refine zI ?_|refine zM ?_|refine zN ?_|refine zO ?_|refine zP ?_|refine zQ ?_|refine zR ?_)|((with_reducible refine zU (hK _ _ ?_));clear hK K)|((with_reducible refine zV ?_ ?_ fun K1 K3 d hdst h1 h3=>?_);rfl;exact yB rfl;cases hdst;go_simp)|((with_reducible refine zW fun K1 K3 h1 h3=>?_);go_simp)|((first|refine h1 ?_|refine h3 ?_);clear h1 h3 K1 K3)|((first|refine zX (fun hb=>h1 ?_) (fun hb=>h3 ?_)|refine zX (fun hb=>h3 ?_) (fun hb=>h1 ?_))<;>(clear h1 h3 K1 K3;(try have hb2:=yC hb);(try have hb2:=yD hb);(try have hb2:=yE hb);(try have hb2:=yF hb);(try have hb2:=yG hb)))|(refine fun (K2:_→AHeap→Prop) hK2=>?_)|((with_reducible refine zY ?_ ?_);decide)|((with_reducible first|refine zZ ?_ (fun K hK=>?_)|refine yA ?_ (fun K hK=>?_));(focus go_simp;done);go_simp;refine hK _ _ ?_;clear hK K)|(go_simp;(try go_bits);(try first | ((with_reducible show CallS _ _ _ _ _ _);refine CallS.mono isNaN_s ?_; rintro _ _ ⟨rfl, h9⟩; rw [h9]; clear h9; go_simp));refine hK2 _ _ ?_;clear hK2 K2))
  all_goals exact ⟨rfl, rfl⟩
set_option maxHeartbeats 4000000 in
theorem insSort_b {loops : List (Nat × LInfo)} {H : AHeap} {b n : Nat} {L : List Int} (hg : H.get b = .row (L.map (Value.int .i64)) 3) (hl : L.length = n) (hn : n ≤ 12) (hn1 : 1 ≤ n) : CallS Tryz.prog loops 134 [.slice (some ⟨b, 0, none⟩) n n, .int .i64 0, .int .i64 n] H fun r H' => r = .tuple #[] ∧ H'.n = H.n ∧ H'.get b = .row ((sortL L).map (Value.int .i64)) 3 ∧ ∀ i, i ≠ b → H'.get i = H.get i := by
  have HL := Lib.hid hl
  have HG0 := Lib.hid hg
  clear hg hl
  refine CallS.enter' Tryz.func134 rfl Tryz.ntmps134 (by simp) fun f hd hf => ?_
  have f0 := hf 0
  have f1 := hf 1
  have f2 := hf 2
  simp at f0 f1 f2
  clear hf
  repeat' (first|(with_reducible first|refine zA ?_|refine zB fun K hK=>?_|refine zC fun K2 hK2=>?_|refine zD ?_|refine zE ?_|refine zF ?_|refine zG ?_|refine zH ?_|refine zI ?_|refine zM ?_|refine zN ?_|refine zO ?_|refine zP ?_|refine zQ ?_|refine zR ?_)|((with_reducible refine zU (hK _ _ ?_));clear hK K)|((with_reducible refine zV ?_ ?_ fun K1 K3 d hdst h1 h3=>?_);rfl;exact yB rfl;cases hdst;go_simp)|((with_reducible refine zW fun K1 K3 h1 h3=>?_);go_simp)|((first|refine h1 ?_|refine h3 ?_);clear h1 h3 K1 K3)|((first|refine zX (fun hb=>h1 ?_) (fun hb=>h3 ?_)|refine zX (fun hb=>h3 ?_) (fun hb=>h1 ?_))<;>(clear h1 h3 K1 K3;(try have hb2:=yC hb);(try have hb2:=yD hb);(try have hb2:=yE hb);(try have hb2:=yF hb);(try have hb2:=yG hb)))|(refine fun (K2:_→AHeap→Prop) hK2=>?_)|((with_reducible refine zY ?_ ?_);decide)|((with_reducible first|refine zZ ?_ (fun K hK=>?_)|refine yA ?_ (fun K hK=>?_));(focus go_simp;done);go_simp;refine hK _ _ ?_;clear hK K)|(go_simp;(try go_bits);refine hK2 _ _ ?_;clear hK2 K2))
  refine CodeS.loop (fun m f H' => ∃ (i : Nat) (L' : List Int), 1 ≤ i ∧ i ≤ n ∧ m = n - i ∧ Hid (L'.length = n) ∧ f.tmp 6 = .int .i64 i ∧ f.tmp 0 = .slice (some ⟨b, 0, none⟩) n n ∧ f.tmp 1 = .int .i64 0 ∧ f.tmp 2 = .int .i64 n ∧ f.defers = [] ∧ Hid (PartAt L i L') ∧ Hid (H'.n = H.n) ∧ Hid (H'.get b = .row (L'.map (Value.int .i64)) 3) ∧ Hid (∀ j, j ≠ b → H'.get j = H.get j)) (n - 1) ?_ ?_
  · exact ⟨1, L, Nat.le_refl _, hn1, rfl, HL, (by first|go_simp<;>go_num|assumption), (by first|go_simp<;>go_num|assumption), (by first|go_simp<;>go_num|assumption), (by first|go_simp<;>go_num|assumption), (by first|go_simp<;>go_num|assumption), Lib.hid (part_one L), Lib.hid rfl, HG0, Lib.hid (fun _ _ => rfl)⟩
  clear f0 f1 f2 hd f HG0
  rintro m f H' ⟨i, L', hi1, hin, rfl, HLL, f6, f0, f1, f2, hd, HP, HN, HG, HK⟩
  by_cases hlt : i < n
  · have HS := Lib.hid (part_way (i := i) HP.out)
    have HW : Hid (∀ (j : Nat) (L2 : List Int), WayAt (sortL (L.take i)) (L.getD i 0) L i j L2 → posL (L.getD i 0) (sortL (L.take i)) i = j → PartAt L (i + 1) L2) := Lib.hid (fun j L2 h1 h2 => way_part (by rw [HL.out]; exact hlt) h1 h2)
    have HLS : Hid ((sortL (L.take i)).length = i) := Lib.hid (by rw [sortL_len]; simp; have := HL.out; omega)
    generalize sortL (L.take i) = S at HS HW HLS
    generalize L.getD i 0 = x at HS HW
    repeat' (first|(with_reducible first|refine zA ?_|refine zB fun K hK=>?_|refine zC fun K2 hK2=>?_|refine zD ?_|refine zE ?_|refine zF ?_|refine zG ?_|refine zH ?_|refine zI ?_|refine zM ?_|refine zN ?_|refine zO ?_|refine zP ?_|refine zQ ?_|refine zR ?_)|((with_reducible refine zU (hK _ _ ?_));clear hK K)|((with_reducible refine zV ?_ ?_ fun K1 K3 d hdst h1 h3=>?_);rfl;exact yB rfl;cases hdst;go_simp)|((with_reducible refine zW fun K1 K3 h1 h3=>?_);go_simp)|((first|refine h1 ?_|refine h3 ?_);clear h1 h3 K1 K3)|((first|refine zX (fun hb=>h1 ?_) (fun hb=>h3 ?_)|refine zX (fun hb=>h3 ?_) (fun hb=>h1 ?_))<;>(clear h1 h3 K1 K3;(try have hb2:=yC hb);(try have hb2:=yD hb);(try have hb2:=yE hb);(try have hb2:=yF hb);(try have hb2:=yG hb)))|(refine fun (K2:_→AHeap→Prop) hK2=>?_)|((with_reducible refine zY ?_ ?_);decide)|((with_reducible first|refine zZ ?_ (fun K hK=>?_)|refine yA ?_ (fun K hK=>?_));(focus go_simp;done);go_simp;refine hK _ _ ?_;clear hK K)|(go_simp;(try go_bits);refine hK2 _ _ ?_;clear hK2 K2))
    refine CodeS.loop (fun m f H' => ∃ (j : Nat) (jj : Int) (L2 : List Int), j ≤ i ∧ jj = (j : Int) ∧ m = j ∧ Hid (L2.length = n) ∧ f.tmp 7 = .int .i64 jj ∧ f.tmp 6 = .int .i64 i ∧ f.tmp 0 = .slice (some ⟨b, 0, none⟩) n n ∧ f.tmp 1 = .int .i64 0 ∧ f.tmp 2 = .int .i64 n ∧ f.defers = [] ∧ Hid (WayAt S x L i j L2) ∧ Hid (posL x S i = posL x S j) ∧ Hid (H'.n = H.n) ∧ Hid (H'.get b = .row (L2.map (Value.int .i64)) 3) ∧ Hid (∀ j, j ≠ b → H'.get j = H.get j)) i ?_ ?_
    · exact ⟨i, i, L', Nat.le_refl _, rfl, rfl, HLL, (by first|go_simp<;>go_num|assumption), (by first|go_simp<;>go_num|assumption), (by first|go_simp<;>go_num|assumption), (by first|go_simp<;>go_num|assumption), (by first|go_simp<;>go_num|assumption), (by first|go_simp<;>go_num|assumption), HS, Lib.hid rfl, HN, HG, HK⟩
    clear f6 f0 f1 f2 hd f HS HP HG HK HN HLL
    rintro m f H' ⟨j, jj, L2, hji, hjj, rfl, HLL, f7, f6, f0, f1, f2, hd, HS, HP, HN, HG, HK⟩
    have hg := HG.out
    rcases Nat.eq_zero_or_pos m with hj0 | hj0
    · subst hj0
      have : jj = 0 := by omega
      subst this
      clear hjj
      repeat' (first|(with_reducible first|refine zA ?_|refine zB fun K hK=>?_|refine zC fun K2 hK2=>?_|refine zD ?_|refine zE ?_|refine zF ?_|refine zG ?_|refine zH ?_|refine zI ?_|refine zM ?_|refine zN ?_|refine zO ?_|refine zP ?_|refine zQ ?_|refine zR ?_)|((with_reducible refine zU (hK _ _ ?_));clear hK K)|((with_reducible refine zV ?_ ?_ fun K1 K3 d hdst h1 h3=>?_);rfl;exact yB rfl;cases hdst;go_simp)|((with_reducible refine zW fun K1 K3 h1 h3=>?_);go_simp)|((first|refine h1 ?_|refine h3 ?_);clear h1 h3 K1 K3)|((first|refine zX (fun hb=>h1 ?_) (fun hb=>h3 ?_)|refine zX (fun hb=>h3 ?_) (fun hb=>h1 ?_))<;>(clear h1 h3 K1 K3;(try have hb2:=yC hb);(try have hb2:=yD hb);(try have hb2:=yE hb);(try have hb2:=yF hb);(try have hb2:=yG hb)))|(refine fun (K2:_→AHeap→Prop) hK2=>?_)|((with_reducible refine zY ?_ ?_);decide)|((with_reducible first|refine zZ ?_ (fun K hK=>?_)|refine yA ?_ (fun K hK=>?_));(focus go_simp;done);go_simp;refine hK _ _ ?_;clear hK K)|((with_reducible refine yH mixed rfl ?_ 20 fun K0 hK0=>?_);kernel_rfl)|(with_reducible first|exact yI|exact yJ|refine yK ?_|refine yL ?_|refine yM ?_)|((with_reducible first|refine yN ?_ ?_|refine yO ?_ ?_|refine yP ?_ ?_);rfl)|((with_reducible refine yQ ?_ ?_);rfl;refine hK0 _ _ ?_;clear hK0 K0)|((with_reducible refine yR ?_ ?_ ?_ ?_);rfl;rfl;rfl)|((with_reducible refine yS ?_ ?_ ?_ fun K2 hK2=>?_);rfl;rfl;exact yB rfl)|((with_reducible refine yT ?_ ?_ ?_ ?_ fun K1 K3 d hdst h1 h3=>?_);rfl;rfl;rfl;exact yB rfl;cases hdst;go_simp)|((with_reducible refine yU ?_ ?_ ?_ ?_ fun K1 K3 d hdst h1 h3=>?_);rfl;rfl;rfl;exact yB rfl;cases hdst;go_simp)|((with_reducible refine yV ?_ ?_ (fun K2 hK2=>?_) ?_);rfl;exact yB rfl)|((with_reducible refine yW ?_ ?_ ?_ ?_ (fun K2 hK2=>?_) ?_);rfl;exact yB rfl;rfl;(focus go_simp;done))|((with_reducible refine yX ?_ ?_ ?_ (fun K2 hK2=>?_) ?_);rfl;rfl;exact yB rfl)|((with_reducible refine yY ?_ ?_ (fun K2 hK2=>?_) ?_);rfl;rfl)|((with_reducible refine yZ ?_ ?_);(first|rfl|(dsimp only;decide +kernel)))|((with_reducible refine xA ?_ ?_);(focus go_simp;done))|(go_simp;(try go_bits);(first|(refine hK2 _ _ ?_ ?_<;>clear hK2 K2)|(refine hK2 _ _ ?_;clear hK2 K2))))
      exact Post.round_normal ⟨n - (i + 1), by omega, i + 1, L2, by omega, by omega, rfl, HLL, (by first|go_simp<;>go_num|assumption), (by first|go_simp<;>go_num|assumption), (by first|go_simp<;>go_num|assumption), (by first|go_simp<;>go_num|assumption), (by first|go_simp<;>go_num|assumption), Lib.hid (HW.out 0 L2 HS.out (by rw [HP.out]; rfl)), HN, HG, HK⟩
    · obtain ⟨k, rfl⟩ : ∃ k, m = k + 1 := ⟨m - 1, by omega⟩
      have : jj = (k : Int) + 1 := by omega
      subst this
      clear hjj hj0
      have hs : S.getD k 0 = S.getD k 0 := rfl
      have hc0 : cellAt H' b k = some (.int .i64 (S.getD k 0)) := by
        have h1 : k < L2.length := by rw [HLL.out]; omega
        simp only [cellAt, hg, List.getElem?_map]
        have := HS.out k (by have := HL.out; omega)
        rw [if_pos (by omega)] at this
        rw [← this]; simp [List.getD_eq_getElem?_getD, h1]
      have hc1 : cellAt H' b (k + 1) = some (.int .i64 x) := by
        have h1 : k + 1 < L2.length := by rw [HLL.out]; omega
        simp only [cellAt, hg, List.getElem?_map]
        have := HS.out (k + 1) (by have := HL.out; omega)
        rw [if_neg (by omega), if_pos rfl] at this
        rw [← this]; simp [List.getD_eq_getElem?_getD, h1]
      have HPS : Hid (posL x S (k + 1) = if S.getD k 0 > x then posL x S k else k + 1) := Lib.hid rfl
      generalize hy : S.getD k 0 = y at hc0 HPS
      have HY := Lib.hid hy
      have hk0 : (0 : Int) < (k : Int) + 1 := by omega
      have hk1 : (0 : Int) ≤ (k : Int) + 1 := by omega
      have hk2 : (k : Int) + 1 < (n : Int) := by omega
      have hk3 : (k : Int) < (n : Int) := by omega
      have hk4 : k + 1 < L2.length := by rw [HLL.out]; omega
      have hk5 : k < L2.length := by omega
      have hw0 : IntKind.i64.wrap (k : Int) = k := IntWalk.i64_in _ (by omega)
      clear hy hs
      repeat' (first|(with_reducible first|refine zA ?_|refine zB fun K hK=>?_|refine zC fun K2 hK2=>?_|refine zD ?_|refine zE ?_|refine zF ?_|refine zG ?_|refine zH ?_|refine zI ?_|refine zM ?_|refine zN ?_|refine zO ?_|refine zP ?_|refine zQ ?_|refine zR ?_)|((with_reducible refine zU (hK _ _ ?_));clear hK K)|((with_reducible refine zV ?_ ?_ fun K1 K3 d hdst h1 h3=>?_);rfl;exact yB rfl;cases hdst;go_simp)|((with_reducible refine zW fun K1 K3 h1 h3=>?_);go_simp)|((first|refine h1 ?_|refine h3 ?_);clear h1 h3 K1 K3)|((first|refine zX (fun hb=>h1 ?_) (fun hb=>h3 ?_)|refine zX (fun hb=>h3 ?_) (fun hb=>h1 ?_))<;>(clear h1 h3 K1 K3;(try have hb2:=yC hb);(try have hb2:=yD hb);(try have hb2:=yE hb);(try have hb2:=yF hb);(try have hb2:=yG hb)))|(refine fun (K2:_→AHeap→Prop) hK2=>?_)|((with_reducible refine zY ?_ ?_);decide)|((with_reducible first|refine zZ ?_ (fun K hK=>?_)|refine yA ?_ (fun K hK=>?_));(focus go_simp;done);go_simp;refine hK _ _ ?_;clear hK K)|((with_reducible refine yH mixed rfl ?_ 20 fun K0 hK0=>?_);kernel_rfl)|(with_reducible first|exact yI|exact yJ|refine yK ?_|refine yL ?_|refine yM ?_)|((with_reducible first|refine yN ?_ ?_|refine yO ?_ ?_|refine yP ?_ ?_);rfl)|((with_reducible refine yQ ?_ ?_);rfl;refine hK0 _ _ ?_;clear hK0 K0)|((with_reducible refine yR ?_ ?_ ?_ ?_);rfl;rfl;rfl)|((with_reducible refine yS ?_ ?_ ?_ fun K2 hK2=>?_);rfl;rfl;exact yB rfl)|((with_reducible refine yT ?_ ?_ ?_ ?_ fun K1 K3 d hdst h1 h3=>?_);rfl;rfl;rfl;exact yB rfl;cases hdst;go_simp)|((with_reducible refine yU ?_ ?_ ?_ ?_ fun K1 K3 d hdst h1 h3=>?_);rfl;rfl;rfl;exact yB rfl;cases hdst;go_simp)|((with_reducible refine yV ?_ ?_ (fun K2 hK2=>?_) ?_);rfl;exact yB rfl)|((with_reducible refine yW ?_ ?_ ?_ ?_ (fun K2 hK2=>?_) ?_);rfl;exact yB rfl;rfl;(focus go_simp;done))|((with_reducible refine yX ?_ ?_ ?_ (fun K2 hK2=>?_) ?_);rfl;rfl;exact yB rfl)|((with_reducible refine yY ?_ ?_ (fun K2 hK2=>?_) ?_);rfl;rfl)|((with_reducible refine yZ ?_ ?_);(first|rfl|(dsimp only;decide +kernel)))|((with_reducible refine xA ?_ ?_);(focus go_simp;done))|(go_simp;(try go_bits);(try first | ((with_reducible show CallS _ _ _ _ _ _);refine CallS.mono less_s ?_; rintro _ _ ⟨rfl, h9⟩; rw [h9]; clear h9; go_simp));(first|(refine hK2 _ _ ?_ ?_<;>clear hK2 K2)|(refine hK2 _ _ ?_;clear hK2 K2))))
      · have hxy : x < y := by simpa using hb
        refine Post.round_normal ⟨k, by omega, k, k, (L2.set (k + 1) y).set k x, by omega, rfl, rfl, Lib.hid (by simp [HLL.out]), (by first|go_simp<;>go_num|assumption), (by first|go_simp<;>go_num|assumption), (by first|go_simp<;>go_num|assumption), (by first|go_simp<;>go_num|assumption), (by first|go_simp<;>go_num|assumption), (by first|go_simp<;>go_num|assumption), Lib.hid (way_step hji HS.out fun t => ?_), Lib.hid (by rw [HP.out, HPS.out, if_pos hxy]), Lib.hid (by simp only [AHeap.n_upd]; exact HN.out), Lib.hid ?_, Lib.hid fun j hj => ?_⟩
        · rw [getD_set _ _ _ _ (by simpa using hk5), getD_set _ _ _ _ hk4, HY.out]
        · rw [AHeap.get_upd_same, List.map_set, List.map_set]
        · rw [AHeap.get_upd_ne hj]; exact HK.out j hj
      · have hxy : ¬ y > x := by have : ¬ x < y := by simpa using hb
                                 omega
        exact Post.round_normal ⟨n - (i + 1), by omega, i + 1, L2, by omega, by omega, rfl, HLL, (by first|go_simp<;>go_num|assumption), (by first|go_simp<;>go_num|assumption), (by first|go_simp<;>go_num|assumption), (by first|go_simp<;>go_num|assumption), (by first|go_simp<;>go_num|assumption), Lib.hid (HW.out (k + 1) L2 HS.out (by rw [HP.out, HPS.out, if_neg hxy])), HN, HG, HK⟩
  · repeat' (first|(with_reducible first|refine zA ?_|refine zB fun K hK=>?_|refine zC fun K2 hK2=>?_|refine zD ?_|refine zE ?_|refine zF ?_|refine zG ?_|refine zH ?_|refine zI ?_|refine zM ?_|refine zN ?_|refine zO ?_|refine zP ?_|refine zQ ?_|refine zR ?_)|((with_reducible refine zU (hK _ _ ?_));clear hK K)|((with_reducible refine zV ?_ ?_ fun K1 K3 d hdst h1 h3=>?_);rfl;exact yB rfl;cases hdst;go_simp)|((with_reducible refine zW fun K1 K3 h1 h3=>?_);go_simp)|((first|refine h1 ?_|refine h3 ?_);clear h1 h3 K1 K3)|((first|refine zX (fun hb=>h1 ?_) (fun hb=>h3 ?_)|refine zX (fun hb=>h3 ?_) (fun hb=>h1 ?_))<;>(clear h1 h3 K1 K3;(try have hb2:=yC hb);(try have hb2:=yD hb);(try have hb2:=yE hb);(try have hb2:=yF hb);(try have hb2:=yG hb)))|(refine fun (K2:_→AHeap→Prop) hK2=>?_)|((with_reducible refine zY ?_ ?_);decide)|((with_reducible first|refine zZ ?_ (fun K hK=>?_)|refine yA ?_ (fun K hK=>?_));(focus go_simp;done);go_simp;refine hK _ _ ?_;clear hK K)|(go_simp;(try go_bits);refine hK2 _ _ ?_;clear hK2 K2))
    have hin' : i = n := by omega
    have hL : L' = sortL L := part_end (by rw [HLL.out, HL.out]) (by rw [HL.out, ← hin']; exact HP.out)
    rw [hL] at HG
    exact ⟨rfl, HN.out, HG.out, HK.out⟩
theorem insSort_0 {loops : List (Nat × LInfo)} {H : AHeap} {v : Value} : CallS Tryz.prog loops 134 [v, .int .i64 0, .int .i64 0] H fun r H' => r = .tuple #[] ∧ H' = H := by
  refine CallS.enter' Tryz.func134 rfl Tryz.ntmps134 (by simp) fun f hd hf => ?_
  have f0 := hf 0
  have f1 := hf 1
  have f2 := hf 2
  simp at f0 f1 f2
  clear hf
  repeat' (first|(with_reducible first|refine zA ?_|refine zB fun K hK=>?_|refine zC fun K2 hK2=>?_|refine zD ?_|refine zE ?_|refine zF ?_|refine zG ?_|refine zH ?_|refine zI ?_|refine zM ?_|refine zN ?_|refine zO ?_|refine zP ?_|refine zQ ?_|refine zR ?_)|((with_reducible refine zU (hK _ _ ?_));clear hK K)|((with_reducible refine zV ?_ ?_ fun K1 K3 d hdst h1 h3=>?_);rfl;exact yB rfl;cases hdst;go_simp)|((with_reducible refine zW fun K1 K3 h1 h3=>?_);go_simp)|((first|refine h1 ?_|refine h3 ?_);clear h1 h3 K1 K3)|((first|refine zX (fun hb=>h1 ?_) (fun hb=>h3 ?_)|refine zX (fun hb=>h3 ?_) (fun hb=>h1 ?_))<;>(clear h1 h3 K1 K3;(try have hb2:=yC hb);(try have hb2:=yD hb);(try have hb2:=yE hb);(try have hb2:=yF hb);(try have hb2:=yG hb)))|(refine fun (K2:_→AHeap→Prop) hK2=>?_)|((with_reducible refine zY ?_ ?_);decide)|((with_reducible first|refine zZ ?_ (fun K hK=>?_)|refine yA ?_ (fun K hK=>?_));(focus go_simp;done);go_simp;refine hK _ _ ?_;clear hK K)|(go_simp;(try go_bits);refine hK2 _ _ ?_;clear hK2 K2))
  refine CodeS.loop (fun m f H' => f.tmp 6 = .int .i64 1 ∧ f.tmp 2 = .int .i64 0 ∧ f.defers = [] ∧ H' = H) 0 ?_ ?_
  · exact ⟨(by first|go_simp<;>go_num|assumption), (by first|go_simp<;>go_num|assumption), (by first|go_simp<;>go_num|assumption), rfl⟩
  clear f0 f1 f2 hd f
  rintro m f H' ⟨f6, f2, hd, rfl⟩
  repeat' (first|(with_reducible first|refine zA ?_|refine zB fun K hK=>?_|refine zC fun K2 hK2=>?_|refine zD ?_|refine zE ?_|refine zF ?_|refine zG ?_|refine zH ?_|refine zI ?_|refine zM ?_|refine zN ?_|refine zO ?_|refine zP ?_|refine zQ ?_|refine zR ?_)|((with_reducible refine zU (hK _ _ ?_));clear hK K)|((with_reducible refine zV ?_ ?_ fun K1 K3 d hdst h1 h3=>?_);rfl;exact yB rfl;cases hdst;go_simp)|((with_reducible refine zW fun K1 K3 h1 h3=>?_);go_simp)|((first|refine h1 ?_|refine h3 ?_);clear h1 h3 K1 K3)|((first|refine zX (fun hb=>h1 ?_) (fun hb=>h3 ?_)|refine zX (fun hb=>h3 ?_) (fun hb=>h1 ?_))<;>(clear h1 h3 K1 K3;(try have hb2:=yC hb);(try have hb2:=yD hb);(try have hb2:=yE hb);(try have hb2:=yF hb);(try have hb2:=yG hb)))|(refine fun (K2:_→AHeap→Prop) hK2=>?_)|((with_reducible refine zY ?_ ?_);decide)|((with_reducible first|refine zZ ?_ (fun K hK=>?_)|refine yA ?_ (fun K hK=>?_));(focus go_simp;done);go_simp;refine hK _ _ ?_;clear hK K)|(go_simp;(try go_bits);refine hK2 _ _ ?_;clear hK2 K2))
  exact ⟨rfl, rfl⟩

def Sorts (H : AHeap) (bs : Nat) (v : Value) (L : List Int) (r : Value) (H' : AHeap) : Prop := r = .tuple #[] ∧ H'.n = H.n ∧ Own H' bs v 3 1 ((sortL L).map (Value.int .i64)) ∧ ∀ i, i < bs → H'.get i = H.get i
theorem insSort_o {loops : List (Nat × LInfo)} {H : AHeap} {bs n : Nat} {v : Value} {L : List Int} (ho : Own H bs v 3 1 (L.map (Value.int .i64))) (hl : L.length = n) (hn : n ≤ 12) : CallS Tryz.prog loops 134 [v, .int .i64 0, .int .i64 n] H (Sorts H bs v L) := by
  rcases ho with ⟨h1, h2⟩ | ⟨b, m, h1, h2, h3, h4, h5, h6⟩
  · have : L = [] := by simpa using h2
    subst this
    obtain rfl : n = 0 := by simpa using hl.symm
    refine CallS.mono insSort_0 ?_
    rintro r H' ⟨rfl, rfl⟩
    rw [h1]
    exact ⟨rfl, rfl, Own.nil, fun _ _ => rfl⟩
  · have hm : m = n := by simp at h5; omega
    subst hm
    rw [h1]
    refine CallS.mono (insSort_b h4 hl hn h6) ?_
    rintro r H' ⟨rfl, g1, g2, g3⟩
    exact ⟨rfl, g1, .inr ⟨b, m, rfl, h2, by omega, g2, by simp [sortL_len, hl], h6⟩, fun i hi => g3 i (by omega)⟩

theorem pdq_o {loops : List (Nat × LInfo)} {H : AHeap} {bs n : Nat} {v : Value} {L : List Int} {lim : Int} (ho : Own H bs v 3 1 (L.map (Value.int .i64))) (hl : L.length = n) (hn : n ≤ 12) : CallS Tryz.prog loops 123 [v, .int .i64 0, .int .i64 n, .int .i64 lim] H (Sorts H bs v L) := by
  have HO := Lib.hid ho
  have HL := Lib.hid hl
  clear ho hl
  refine CallS.enter' Tryz.func123 rfl Tryz.ntmps123 (by simp) fun f hd hf => ?_
  have f0 := hf 0
  have f1 := hf 1
  have f2 := hf 2
  have f3 := hf 3
  simp at f0 f1 f2 f3
  clear hf
  have hn12 : (n : Int) ≤ 12 := by omega
  repeat' (first|(with_reducible first|refine zA ?_|refine zB fun K hK=>?_|refine zC fun K2 hK2=>?_|refine zD ?_|refine zE ?_|refine zF ?_|refine zG ?_|refine zH ?_|refine zI ?_|refine zM ?_|refine zN ?_|refine zO ?_|refine zP ?_|refine zQ ?_|refine zR ?_)|((with_reducible refine zU (hK _ _ ?_));clear hK K)|((with_reducible refine zV ?_ ?_ fun K1 K3 d hdst h1 h3=>?_);rfl;exact yB rfl;cases hdst;go_simp)|((with_reducible refine zW fun K1 K3 h1 h3=>?_);go_simp)|((first|refine h1 ?_|refine h3 ?_);clear h1 h3 K1 K3)|((first|refine zX (fun hb=>h1 ?_) (fun hb=>h3 ?_)|refine zX (fun hb=>h3 ?_) (fun hb=>h1 ?_))<;>(clear h1 h3 K1 K3;(try have hb2:=yC hb);(try have hb2:=yD hb);(try have hb2:=yE hb);(try have hb2:=yF hb);(try have hb2:=yG hb)))|(refine fun (K2:_→AHeap→Prop) hK2=>?_)|((with_reducible refine zY ?_ ?_);decide)|((with_reducible first|refine zZ ?_ (fun K hK=>?_)|refine yA ?_ (fun K hK=>?_));(focus go_simp;done);go_simp;refine hK _ _ ?_;clear hK K)|(go_simp;(try go_bits);refine hK2 _ _ ?_;clear hK2 K2))
  refine CodeS.loop (fun m f H' => f.tmp 0 = v ∧ f.tmp 1 = .int .i64 0 ∧ f.tmp 2 = .int .i64 n ∧ f.defers = [] ∧ H' = H) 0 ?_ ?_
  · exact ⟨(by first|go_simp<;>go_num|assumption), (by first|go_simp<;>go_num|assumption), (by first|go_simp<;>go_num|assumption), (by first|go_simp<;>go_num|assumption), rfl⟩
  clear f0 f1 f2 f3 hd f
  rintro m f H' ⟨f0, f1, f2, hd, rfl⟩
  repeat' (first|(with_reducible first|refine zA ?_|refine zB fun K hK=>?_|refine zC fun K2 hK2=>?_|refine zD ?_|refine zE ?_|refine zF ?_|refine zG ?_|refine zH ?_|refine zI ?_|refine zM ?_|refine zN ?_|refine zO ?_|refine zP ?_|refine zQ ?_|refine zR ?_)|((with_reducible refine zU (hK _ _ ?_));clear hK K)|((with_reducible refine zV ?_ ?_ fun K1 K3 d hdst h1 h3=>?_);rfl;exact yB rfl;cases hdst;go_simp)|((with_reducible refine zW fun K1 K3 h1 h3=>?_);go_simp)|((first|refine h1 ?_|refine h3 ?_);clear h1 h3 K1 K3)|((first|refine zX (fun hb=>h1 ?_) (fun hb=>h3 ?_)|refine zX (fun hb=>h3 ?_) (fun hb=>h1 ?_))<;>(clear h1 h3 K1 K3;(try have hb2:=yC hb);(try have hb2:=yD hb);(try have hb2:=yE hb);(try have hb2:=yF hb);(try have hb2:=yG hb)))|(refine fun (K2:_→AHeap→Prop) hK2=>?_)|((with_reducible refine zY ?_ ?_);decide)|((with_reducible first|refine zZ ?_ (fun K hK=>?_)|refine yA ?_ (fun K hK=>?_));(focus go_simp;done);go_simp;refine hK _ _ ?_;clear hK K)|(go_simp;(try go_bits);(try first | ((with_reducible show CallS _ _ _ _ _ _);refine CallS.mono (insSort_o HO.out HL.out hn) ?_; rintro _ H1 ⟨rfl, h1, h2, h3⟩; (have HS := Lib.hid (show Sorts H' bs v L (.tuple #[]) H1 from ⟨rfl, h1, h2, h3⟩)); clear h1 h2 h3));refine hK2 _ _ ?_;clear hK2 K2))
  exact HS.out

theorem sort_o {loops : List (Nat × LInfo)} {H : AHeap} {bs : Nat} {v : Value} {L : List Int} (ho : Own H bs v 3 1 (L.map (Value.int .i64))) (hn : L.length ≤ 12) : CallS Tryz.prog loops 101 [v] H (Sorts H bs v L) := by
  obtain ⟨a, n, rfl⟩ := own_slice ho
  have hl : L.length = n := by
    rcases ho with ⟨h1, h2⟩ | ⟨b, m, h1, h2, h3, h4, h5, h6⟩
    · cases h1; have : L = [] := by simpa using h2
      rw [this]; rfl
    · cases h1; simpa using h5
  have HO := Lib.hid ho
  have HL := Lib.hid hl
  have hn2 : n ≤ 12 := by omega
  obtain ⟨lim, hlim⟩ := bitsLen_s hn2
  have HB := Lib.hid hlim
  have hw : IntKind.u64.wrap (n : Int) = (n : Int) := by
    unfold IntKind.wrap IntKind.bits
    simp
    omega
  clear ho hl hn hlim
  refine CallS.enter' Tryz.func101 rfl Tryz.ntmps101 (by simp) fun f hd hf => ?_
  have f0 := hf 0
  simp at f0
  clear hf
  repeat' (first|(with_reducible first|refine zA ?_|refine zB fun K hK=>?_|refine zC fun K2 hK2=>?_|refine zD ?_|refine zE ?_|refine zF ?_|refine zG ?_|refine zH ?_|refine zI ?_|refine zM ?_|refine zN ?_|refine zO ?_|refine zP ?_|refine zQ ?_|refine zR ?_)|((with_reducible refine zU (hK _ _ ?_));clear hK K)|((with_reducible refine zV ?_ ?_ fun K1 K3 d hdst h1 h3=>?_);rfl;exact yB rfl;cases hdst;go_simp)|((with_reducible refine zW fun K1 K3 h1 h3=>?_);go_simp)|((first|refine h1 ?_|refine h3 ?_);clear h1 h3 K1 K3)|((first|refine zX (fun hb=>h1 ?_) (fun hb=>h3 ?_)|refine zX (fun hb=>h3 ?_) (fun hb=>h1 ?_))<;>(clear h1 h3 K1 K3;(try have hb2:=yC hb);(try have hb2:=yD hb);(try have hb2:=yE hb);(try have hb2:=yF hb);(try have hb2:=yG hb)))|(refine fun (K2:_→AHeap→Prop) hK2=>?_)|((with_reducible refine zY ?_ ?_);decide)|((with_reducible first|refine zZ ?_ (fun K hK=>?_)|refine yA ?_ (fun K hK=>?_));(focus go_simp;done);go_simp;refine hK _ _ ?_;clear hK K)|(go_simp;(try go_bits);(try first |((with_reducible show CallS _ _ _ _ _ _);first|(refine CallS.mono (HB.out _ _) ?_; rintro _ _ ⟨rfl, h9⟩; rw [h9]; clear h9)|(refine CallS.mono (pdq_o HO.out HL.out hn2) ?_; rintro _ H1 ⟨rfl, h1, h2, h3⟩; (have HS := Lib.hid (show Sorts H bs (.slice a n n) L (.tuple #[]) H1 from ⟨rfl, h1, h2, h3⟩)); clear h1 h2 h3)));refine hK2 _ _ ?_;clear hK2 K2))
  exact HS.out
end Go.Proofs.Tryz
namespace Go.Proofs.Tryz
open Go Go.Am Go.RowKit Go.Co
set_option maxRecDepth 100000

def idsL (s : Sheet) (acc : Alt → Bool) : List Int := sortL ((s.alts.filter acc).map Alt.id)

set_option maxHeartbeats 2000000 in
theorem idsOf_o {loops : List (Nat × LInfo)} {H : AHeap} {sv : Value} {s : Sheet} {g : FuncId} {caps : Array Value} {acc : Alt → Bool} (hs : SheetV H sv s) (hn : s.alts.length ≤ 12) (hok : okFn Tryz.prog g = true) (hacc : ∀ (loops : List (Nat × LInfo)) (H' : AHeap) (a : Alt), Ext H H' → a ∈ s.alts → CallS Tryz.prog loops g (a.val :: caps.toList) H' fun r H'' => r = .bool (acc a) ∧ H'' = H') : CallS Tryz.prog loops 60 [sv, .func (.func g) #[] caps] H fun r H' => Own H' H.n r 3 1 ((idsL s acc).map (Value.int .i64)) ∧ Ext H H' := by
  obtain ⟨wv, av, rfl, hw, ha⟩ := hs
  obtain ⟨hwl, wa, wc, rfl⟩ := hw.slice
  obtain ⟨hal, aa, ac, rfl⟩ := ha.slice
  have HA := Lib.hid ha
  have HACC := Lib.hid hacc
  clear hw ha hacc
  refine CallS.enter' Tryz.func60 rfl Tryz.ntmps60 (by simp) fun f hd hf => ?_
  have f0 := hf 0
  have f1 := hf 1
  simp at f0 f1
  clear hf
  have HRES : Hid (((s.alts.take 0).filter acc).map Alt.id = []) := Lib.hid rfl
  repeat' (first|(with_reducible first|refine zA ?_|refine zB fun K hK=>?_|refine zC fun K2 hK2=>?_|refine zD ?_|refine zE ?_|refine zF ?_|refine zG ?_|refine zH ?_|refine zI ?_|refine zM ?_|refine zN ?_|refine zO ?_|refine zP ?_|refine zQ ?_|refine zR ?_)|((with_reducible refine zU (hK _ _ ?_));clear hK K)|((with_reducible refine zV ?_ ?_ fun K1 K3 d hdst h1 h3=>?_);rfl;exact yB rfl;cases hdst;go_simp)|((with_reducible refine zW fun K1 K3 h1 h3=>?_);go_simp)|((first|refine h1 ?_|refine h3 ?_);clear h1 h3 K1 K3)|((first|refine zX (fun hb=>h1 ?_) (fun hb=>h3 ?_)|refine zX (fun hb=>h3 ?_) (fun hb=>h1 ?_))<;>(clear h1 h3 K1 K3;(try have hb2:=yC hb);(try have hb2:=yD hb);(try have hb2:=yE hb);(try have hb2:=yF hb);(try have hb2:=yG hb)))|(refine fun (K2:_→AHeap→Prop) hK2=>?_)|((with_reducible refine zY ?_ ?_);decide)|((with_reducible first|refine zZ ?_ (fun K hK=>?_)|refine yA ?_ (fun K hK=>?_));(focus go_simp;done);go_simp;refine hK _ _ ?_;clear hK K)|(go_simp;(try go_bits);refine hK2 _ _ ?_;clear hK2 K2))
  refine CodeS.loop (fun m f H' => ∃ (k : Nat) (v : Value) (l : List Int), k ≤ s.alts.length ∧ m = s.alts.length - k ∧ f.tmp 11 = .int .i64 k ∧ f.tmp 10 = .int .i64 (s.alts.length : Nat) ∧ f.tmp 9 = .slice aa s.alts.length ac ∧ f.tmp 1 = .func (.func g) #[] caps ∧ f.tmp 5 = v ∧ f.defers = [] ∧ Hid (((s.alts.take k).filter acc).map Alt.id = l) ∧ Hid (l.length ≤ k) ∧ H.n < H'.n ∧ Hid (Ext H H') ∧ Hid (Own H' (H.n + 1) v 3 1 (l.map (Value.int .i64)))) s.alts.length ?_ ?_
  · exact ⟨0, .slice none 0 0, [], by simp, by simp, (by first|go_simp<;>go_num|assumption), (by first|go_simp<;>go_num|assumption), (by first|go_simp<;>go_num|assumption), (by first|go_simp<;>go_num|assumption), (by first|go_simp<;>go_num|assumption), (by first|go_simp<;>go_num|assumption), Lib.hid rfl, Lib.hid (by simp), by rw [AHeap.n_push]; omega, Lib.hid (Ext.push _), Lib.hid Own.nil⟩
  clear f0 f1 hd f HRES
  rintro m f H' ⟨k, v, l, hk, rfl, f11, f10, f9, f1, f5, hd, HG, HLE, hn1, HX, HO⟩
  by_cases hlt : k < s.alts.length
  · obtain ⟨b, o, sp, rfl, hb, hx6, -⟩ := (HA.out.ext HX.out).at_ hlt
    have hm : s.alts[k] ∈ s.alts := List.getElem_mem hlt
    have hac := fun (loops : List (Nat × LInfo)) (H2 : AHeap) (hx : Ext H H2) => HACC.out loops H2 s.alts[k] hx hm
    have HT : Hid (((s.alts.take (k + 1)).filter acc).map Alt.id = l ++ if acc s.alts[k] then [s.alts[k].id] else []) := Lib.hid (by
      rw [List.take_succ_eq_append_getElem hlt, List.filter_append, List.map_append, HG.out]
      cases hcc : acc s.alts[k] <;> simp [List.filter, hcc])
    generalize acc s.alts[k] = bb at hac HT
    generalize s.alts[k] = a at hac HT hx6 hm
    have HAC := Lib.hid hac
    clear hac hm
    obtain ⟨i1, i2, i3, i4, i5, i6⟩ := a
    have hx6' : cellsAt H' b (o + k * 6) 6 = some [.int .i64 i1, .int .i64 i2, .int .i64 i3, .int .i64 i4, .int .i64 i5, .int .i64 i6] := hx6
    clear hx6
    have hbig : ((l.map (Value.int .i64)).length + 1) * max 8 1 ≤ 1073741824 := by have := HLE.out; simp; omega
    have HBIG := Lib.hid hbig
    clear hbig
    have hv := HO.out
    repeat' (first|(with_reducible first|refine zA ?_|refine zB fun K hK=>?_|refine zC fun K2 hK2=>?_|refine zD ?_|refine zE ?_|refine zF ?_|refine zG ?_|refine zH ?_|refine zI ?_|refine zM ?_|refine zN ?_|refine zO ?_|refine zP ?_|refine zQ ?_|refine zR ?_)|((with_reducible refine zU (hK _ _ ?_));clear hK K)|((with_reducible refine zV ?_ ?_ fun K1 K3 d hdst h1 h3=>?_);rfl;exact yB rfl;cases hdst;go_simp)|((with_reducible refine zW fun K1 K3 h1 h3=>?_);go_simp)|((first|refine h1 ?_|refine h3 ?_);clear h1 h3 K1 K3)|((first|refine zX (fun hb=>h1 ?_) (fun hb=>h3 ?_)|refine zX (fun hb=>h3 ?_) (fun hb=>h1 ?_))<;>(clear h1 h3 K1 K3;(try have hb2:=yC hb);(try have hb2:=yD hb);(try have hb2:=yE hb);(try have hb2:=yF hb);(try have hb2:=yG hb)))|(refine fun (K2:_→AHeap→Prop) hK2=>?_)|((with_reducible refine zY ?_ ?_);decide)|((with_reducible first|refine zZ ?_ (fun K hK=>?_)|refine yA ?_ (fun K hK=>?_));(focus go_simp;done);go_simp;refine hK _ _ ?_;clear hK K)|(go_simp;(try go_bits);(try first | ((with_reducible show CallS _ _ _ _ _ _);refine CallS.mono (HAC.out _ _ (HX.out.push' _)) ?_; rintro _ _ ⟨rfl, h9⟩; rw [h9]; clear h9) | ((refine one_k el22 sz3 ze3 rfl (by decide) (by decide) rfl rfl ?_); go_simp) | ((refine append_k2 el22 sz3 by3 ze3 rfl (by decide) (HO.out.ext ((Ext.push _).push' _)) (srcCells_new rfl) (by decide) rfl (by rw [List.all_append, oneV_list_int]; rfl) HBIG.out (by simp only [AHeap.n_push]; omega) fun v2 H4 ho4 hg4 => ?_); (have HO4 := Lib.hid ho4); (have HG4 := Lib.hid hg4); clear ho4 hg4; go_simp));refine hK2 _ _ ?_;clear hK2 K2))
    · have hcc : bb = true := hb
      have hx4 := HG4.out.ext (HO.out.ext ((Ext.push _).push' _)) (by omega) ((HX.out.push' _).push' _)
      refine Post.round_normal ⟨s.alts.length - (k + 1), by omega, k + 1, v2, l ++ [i1], by omega, rfl, (by first|go_simp<;>go_num|assumption), (by first|go_simp<;>go_num|assumption), (by first|go_simp<;>go_num|assumption), (by first|go_simp<;>go_num|assumption), (by first|go_simp<;>go_num|assumption), (by first|go_simp<;>go_num|assumption), Lib.hid (by rw [HT.out, if_pos hcc]), Lib.hid (by have := HLE.out; simp; omega), ?_, Lib.hid hx4, Lib.hid ?_⟩
      · have := HG4.out.1; simp only [AHeap.n_push] at this; omega
      · rw [List.map_append]; exact HO4.out.mono (by simp only [AHeap.n_push]; omega)
    · have hcc : bb = false := hb
      exact Post.round_normal ⟨s.alts.length - (k + 1), by omega, k + 1, v, l, by omega, rfl, (by first|go_simp<;>go_num|assumption), (by first|go_simp<;>go_num|assumption), (by first|go_simp<;>go_num|assumption), (by first|go_simp<;>go_num|assumption), (by first|go_simp<;>go_num|assumption), (by first|go_simp<;>go_num|assumption), Lib.hid (by rw [HT.out, hcc]; simp), Lib.hid (by have := HLE.out; omega), by rw [AHeap.n_push]; omega, Lib.hid (HX.out.push' _), Lib.hid (HO.out.ext (Ext.push _))⟩
  · have hke : k = s.alts.length := by omega
    have HR : Hid ((s.alts.filter acc).map Alt.id = l) := Lib.hid (by rw [← HG.out, hke, List.take_length])
    have hl12 : l.length ≤ 12 := by have := HLE.out; omega
    repeat' (first|(with_reducible first|refine zA ?_|refine zB fun K hK=>?_|refine zC fun K2 hK2=>?_|refine zD ?_|refine zE ?_|refine zF ?_|refine zG ?_|refine zH ?_|refine zI ?_|refine zM ?_|refine zN ?_|refine zO ?_|refine zP ?_|refine zQ ?_|refine zR ?_)|((with_reducible refine zU (hK _ _ ?_));clear hK K)|((with_reducible refine zV ?_ ?_ fun K1 K3 d hdst h1 h3=>?_);rfl;exact yB rfl;cases hdst;go_simp)|((with_reducible refine zW fun K1 K3 h1 h3=>?_);go_simp)|((first|refine h1 ?_|refine h3 ?_);clear h1 h3 K1 K3)|((first|refine zX (fun hb=>h1 ?_) (fun hb=>h3 ?_)|refine zX (fun hb=>h3 ?_) (fun hb=>h1 ?_))<;>(clear h1 h3 K1 K3;(try have hb2:=yC hb);(try have hb2:=yD hb);(try have hb2:=yE hb);(try have hb2:=yF hb);(try have hb2:=yG hb)))|(refine fun (K2:_→AHeap→Prop) hK2=>?_)|((with_reducible refine zY ?_ ?_);decide)|((with_reducible first|refine zZ ?_ (fun K hK=>?_)|refine yA ?_ (fun K hK=>?_));(focus go_simp;done);go_simp;refine hK _ _ ?_;clear hK K)|(go_simp;(try go_bits);(try first | ((with_reducible show CallS _ _ _ _ _ _);refine CallS.mono (sort_o HO.out hl12) ?_; rintro _ H1 ⟨rfl, h1, h2, h3⟩; (have HO1 := Lib.hid h2); (have HX1 := Lib.hid (show Ext H H1 from ⟨by have := HX.out.n; omega, fun i hi => (h3 i (by omega)).trans (HX.out.get i hi)⟩)); clear h1 h2 h3));refine hK2 _ _ ?_;clear hK2 K2))
    refine ⟨?_, HX1.out⟩
    rw [idsL, HR.out]
    exact HO1.out.mono (by omega)
end Go.Proofs.Tryz
namespace Go.Proofs.Tryz
open Go Go.Am Go.RowKit Go.Co
set_option maxRecDepth 100000

def ExtO (H : AHeap) (base : Nat) (v : Value) (s : Sheet) (c : Copy) : Prop := ∃ oa on oc pi fa fn la ln, v = .agg #[.slice oa on oc, .int .i64 pi, .slice fa fn fn, .slice la ln ln] ∧ Own H base (.slice fa fn fn) 3 1 ((firstL s c).map (Value.int .i64)) ∧ Own H base (.slice la ln ln) 3 1 ((lastL s c).map (Value.int .i64))
theorem ExtO.ext {H H' : AHeap} {base : Nat} {v : Value} {s : Sheet} {c : Copy} (h : ExtO H base v s c) (hx : Ext H H') : ExtO H' base v s c := by
  obtain ⟨oa, on, oc, pi, fa, fn, la, ln, rfl, h1, h2⟩ := h
  exact ⟨oa, on, oc, pi, fa, fn, la, ln, rfl, h1.ext hx, h2.ext hx⟩
theorem extentOf_x {loops : List (Nat × LInfo)} {H : AHeap} {sv cv : Value} {s : Sheet} {c : Copy} (hs : SheetV H sv s) (hc : CopyV H cv c) : CallS Tryz.prog loops 49 [sv, cv] H fun r H' => (∃ ev, r = .tuple #[ev, .int .i64 (errExt s c)] ∧ ExtO H' H.n ev s c) ∧ Ext H H' :=
  CallS.mono (extentOf_o hs hc) fun _ _ ⟨⟨oa, on, oc, pi, fv, lv, h1, h2, h3, _⟩, h5⟩ => by
    obtain ⟨fa, fn, rfl⟩ := own_slice h2
    obtain ⟨la, ln, rfl⟩ := own_slice h3
    exact ⟨⟨_, h1, oa, on, oc, pi, fa, fn, la, ln, rfl, h2, h3⟩, h5⟩
end Go.Proofs.Tryz
namespace Go.Proofs.Tryz
open Go Go.Am Go.RowKit Go.Co
set_option maxRecDepth 100000

end Go.Proofs.Tryz
