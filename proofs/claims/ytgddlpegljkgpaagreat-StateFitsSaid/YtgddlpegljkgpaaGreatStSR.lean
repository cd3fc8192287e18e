/- Contracts of functions, walked. -/
import Derived.Test.YtgddlpegljkgpaaGreatChecked
import Derived.Test.YtgddlpegljkgpaaGreatRows
import Derived.Below
import Derived.Carry
import Derived.Deep.Slices
import Derived.Deep.Fields
import Derived.ChangeSame
import Derived.ProofKit
import Derived.OpenShut
import Derived.ShutString
import Derived.ChangeOld
import Derived.Lib.SmallJoins
import Derived.Test.YtgddlpegljkgpaaGreatStUG0
import Derived.Test.YtgddlpegljkgpaaGreatStSN
import Derived.Test.YtgddlpegljkgpaaGreatStSA
set_option linter.all false
namespace Go.Proofs.Tryz
open Go Go.Am Go.RowKit Go.Co
set_option maxRecDepth 100000

set_option maxHeartbeats 8000000 in
theorem law3 {H : AHeap} {sv cv dv : Value} {s : Sheet} {c : Copy} {days : List Int} (hv : SheetV H sv s) (hc : CopyV H cv c) (hdv : Ints H dv days) : CallS Tryz.prog [] 3 [sv, cv, dv] H fun r _ => r = .bool true := by
  have HV := Lib.hid hv
  have HC := Lib.hid hc
  have HD := Lib.hid hdv
  obtain ⟨wv, av, rfl, hw, ha⟩ := hv
  obtain ⟨hwl, wa, wc, rfl⟩ := hw.slice
  obtain ⟨hal, aa, ac, rfl⟩ := ha.slice
  obtain ⟨cv, rfl, hcw⟩ := hc
  obtain ⟨hcl, ca, cc, rfl⟩ := hcw.slice
  obtain ⟨hdl, da, dc, rfl⟩ := hdv.slice
  clear hw ha hcw hdv
  obtain ⟨n1, b1, hv1, -⟩ := fitsV_form' s c days
  have HX1 : Hid (Ext H ((H.push (.row [Value.slice wa s.words.length wc, Value.slice aa s.alts.length ac] 25)).push (.row [Value.slice ca c.words.length cc, .int .i64 c.beg, .int .i64 c.fin, .int .i64 c.per] 27))) := Lib.hid (((Ext.refl _).push' _).push' _)
  have HFX := Lib.hid (fun (loops : List (Nat × LInfo)) => fits_s (loops := loops) (HV.out.ext HX1.out) (HC.out.ext HX1.out) (HD.out.ext HX1.out))
  have HRX := Lib.hid (fun (loops : List (Nat × LInfo)) => refFits_s (loops := loops) (HV.out.ext HX1.out) (HC.out.ext HX1.out) (HD.out.ext HX1.out))
  rw [hv1] at HFX HRX
  have HF1 := Lib.hid (fun (loops : List (Nat × LInfo)) (G : AHeap) (hx : Ext H G) => first_e (loops := loops) (HV.out.ext hx) (HC.out.ext hx))
  have HF2 := Lib.hid (fun (loops : List (Nat × LInfo)) (G : AHeap) (hx : Ext H G) => refFirst_f (loops := loops) (HV.out.ext hx) (HC.out.ext hx))
  have HL1 := Lib.hid (fun (loops : List (Nat × LInfo)) (G : AHeap) (hx : Ext H G) => last_e (loops := loops) (HV.out.ext hx) (HC.out.ext hx))
  have HL2 := Lib.hid (fun (loops : List (Nat × LInfo)) (G : AHeap) (hx : Ext H G) => refLast_f (loops := loops) (HV.out.ext hx) (HC.out.ext hx))
  clear hv1
  generalize errFits s c days = ef at HFX HRX
  generalize firstL s c = F at HF1 HF2
  generalize lastL s c = L at HL1 HL2
  generalize errExt s c = e at HF1 HF2 HL1 HL2
  have HCELLS : Hid (∀ G : AHeap, Ext ((H.push (.row [Value.slice wa s.words.length wc, Value.slice aa s.alts.length ac] 25)).push (.row [Value.slice ca c.words.length cc, .int .i64 c.beg, .int .i64 c.fin, .int .i64 c.per] 27)) G → cellsAt G H.n 0 2 = some [Value.slice wa s.words.length wc, Value.slice aa s.alts.length ac] ∧ cellsAt G (H.n + 1) 0 4 = some [Value.slice ca c.words.length cc, .int .i64 c.beg, .int .i64 c.fin, .int .i64 c.per] ∧ H.n + 1 < G.n ∧ H.n < G.n) := Lib.hid (fun G hx => by
    refine ⟨?_, ?_, ?_, ?_⟩
    · rw [hx.cellsAt (by simp only [AHeap.n_push]; omega), cellsAt_push, if_neg (by simp only [AHeap.n_push]; omega), cellsAt_push, if_pos rfl]; rfl
    · rw [hx.cellsAt (by simp only [AHeap.n_push]; omega), cellsAt_push, if_pos (by simp only [AHeap.n_push])]; rfl
    · have := hx.n; simp only [AHeap.n_push] at this; omega
    · have := hx.n; simp only [AHeap.n_push] at this; omega)
  refine CallS.enter' Tryz.func3 rfl Tryz.ntmps3 (by simp) fun f hd hf => ?_
  have f0 := hf 0
  have f1 := hf 1
  have f2 := hf 2
  simp at f0 f1 f2
  clear hf
  repeat' (first|(with_reducible first|refine zA ?_|refine zB fun K hK=>?_|refine zC fun K2 hK2=>?_|refine zD ?_|refine zE ?_|refine zF ?_|refine zG ?_|refine zH ?_|refine zI ?_|refine zM ?_|refine zN ?_|refine zO ?_|refine zP ?_|refine zQ ?_|refine zR ?_)|((with_reducible refine zU (hK _ _ ?_));clear hK K)|((with_reducible refine zV ?_ ?_ fun K1 K3 d hdst h1 h3=>?_);rfl;exact yB rfl;cases hdst;go_simp)|((with_reducible refine zW fun K1 K3 h1 h3=>?_);go_simp)|((first|refine h1 ?_|refine h3 ?_);clear h1 h3 K1 K3)|((first|refine zX (fun hb=>h1 ?_) (fun hb=>h3 ?_)|refine zX (fun hb=>h3 ?_) (fun hb=>h1 ?_))<;>(clear h1 h3 K1 K3;(try have hb2:=yC hb);(try have hb2:=yD hb);(try have hb2:=yE hb);(try have hb2:=yF hb);(try have hb2:=yG hb)))|(refine fun (K2:_→AHeap→Prop) hK2=>?_)|((with_reducible refine zY ?_ ?_);decide)|((with_reducible first|refine zZ ?_ (fun K hK=>?_)|refine yA ?_ (fun K hK=>?_));(focus go_simp;done);go_simp;refine hK _ _ ?_;clear hK K)|(go_simp;(try go_bits);(try first |((with_reducible show CallS _ _ _ _ _ _);first|(refine CallS.mono head_s ?_; rintro _ _ ⟨rfl, h9⟩; rw [h9]; clear h9; go_simp)|(refine CallS.mono (few_s (s := s) (HV.out.ext HX1.out)) ?_; rintro _ _ ⟨rfl, h9⟩; rw [h9]; clear h9; go_simp)|(refine CallS.mono (brief_s (c := c) (HC.out.ext HX1.out)) ?_; rintro _ _ ⟨rfl, h9⟩; rw [h9]; clear h9; go_simp)|(refine CallS.mono (HFX.out _) ?_; rintro _ _ ⟨rfl, h9⟩; rw [h9]; clear h9; go_simp)|(refine CallS.mono (HRX.out _) ?_; rintro _ _ ⟨rfl, h9⟩; rw [h9]; clear h9; go_simp)|(refine CallS.mono (HF1.out _ _ HX1.out) ?_; rintro _ H2 ⟨⟨fv, rfl, hi⟩, hx⟩; (obtain ⟨-, fa, fc, rfl⟩ := hi.slice); (have HI1 := Lib.hid hi); (have HX2 := Lib.hid hx); (obtain ⟨dk0, dk1, dk2, dk3⟩ := HCELLS.out _ hx); clear hi hx; go_simp)|(refine CallS.mono (HF2.out _ _ (HX1.out.trans HX2.out)) ?_; rintro _ H3 ⟨⟨fv, rfl, hi⟩, hx⟩; (obtain ⟨-, fa2, fc2, rfl⟩ := hi.slice); (have HI2 := Lib.hid (hi.ext (Ext.push (.row [.slice fa2 F.length fc2, .int .i64 e] 37)))); (have HI12 := Lib.hid (HI1.out.ext (hx.push' (.row [.slice fa2 F.length fc2, .int .i64 e] 37)))); (have HX3 := Lib.hid ((HX2.out.trans hx).push' (.row [.slice fa2 F.length fc2, .int .i64 e] 37))); (obtain ⟨ek0, ek1, ek2, ek3⟩ := HCELLS.out _ (HX2.out.trans hx)); clear hi hx; go_simp)|(refine CallS.mono (HL1.out _ _ (HX1.out.trans HX3.out)) ?_; rintro _ H4 ⟨⟨fv, rfl, hi⟩, hx⟩; (obtain ⟨-, la, lc, rfl⟩ := hi.slice); (have HJ1 := Lib.hid hi); (have HI3 := Lib.hid (HI2.out.ext hx)); (have HI13 := Lib.hid (HI12.out.ext hx)); (have HX4 := Lib.hid (HX3.out.trans hx)); (obtain ⟨gk0, gk1, gk2, gk3⟩ := HCELLS.out _ HX4.out); (have hr4 : H4.get H3.n = .row [.slice fa2 F.length fc2, .int .i64 e] 37 := (hx.get _ (by rw [AHeap.n_push]; omega)).trans AHeap.get_push_new); (have hn4 : H3.n < H4.n := by have := hx.n; rw [AHeap.n_push] at this; omega); clear hi hx; go_simp)|(refine CallS.mono (HL2.out _ _ (HX1.out.trans HX4.out)) ?_; rintro _ H5 ⟨⟨fv, rfl, hi⟩, hx⟩; (obtain ⟨-, la2, lc2, rfl⟩ := hi.slice); (have HJ2 := Lib.hid (hi.ext (Ext.push (.row [.slice la2 L.length lc2, .int .i64 e] 37)))); (have HJ12 := Lib.hid (HJ1.out.ext (hx.push' (.row [.slice la2 L.length lc2, .int .i64 e] 37)))); (have HI5 := Lib.hid (HI3.out.ext (hx.push' (.row [.slice la2 L.length lc2, .int .i64 e] 37)))); (have HI15 := Lib.hid (HI13.out.ext (hx.push' (.row [.slice la2 L.length lc2, .int .i64 e] 37)))); (have hq0 : cellAt H5 H3.n 0 = some (.slice fa2 F.length fc2) := by rw [hx.cellAt hn4]; simp [cellAt, hr4]); (have hq1 : cellAt H5 H3.n 1 = some (.int .i64 e) := by rw [hx.cellAt hn4]; simp [cellAt, hr4]); (have hn5 : H3.n < H5.n := by have := hx.n; omega); clear hi hx; go_simp)|(refine CallS.mono (sameInts_s (xs := F) (ys := F) HI15.out HI5.out) ?_; rintro _ _ ⟨rfl, h9⟩; rw [h9]; clear h9; go_simp)|(refine CallS.mono (sameInts_s (xs := L) (ys := L) HJ12.out HJ2.out) ?_; rintro _ _ ⟨rfl, h9⟩; rw [h9]; clear h9; go_simp))|((refine eqlB_k (by first | (go_simp; done) | (go_simp; rfl)) (by first | (go_simp; done) | (go_simp; rfl)) ?_); go_simp));refine hK2 _ _ ?_;clear hK2 K2))
  all_goals rfl
end Go.Proofs.Tryz
namespace Go.Proofs.Tryz
open Go.ChangeShapes Go.WideShapes Go.ChangeAt Go.RowKit Go.Joins Go.Deep Go.Am
set_option maxRecDepth 100000


section
variable {H : Type} {enc : TypeId × Value → H} {P : Program} {w : World} {base : Nat} {spare : Nat → Bool} {held : Bool}
theorem open_slice_fields {t e : TypeId} {fs : Array Field} {fuel : Nat} {cs : List Value} {x : DataW H × List MemPlace} (ht : P.underlying t = some (.slice e)) (he : P.underlying e = some (.struct fs))
    (hone : oneCellFields P fs = true) (hC : P.cellsOf e = fs.size) (h : DataW.trod enc P w base spare held fuel t cs = some x) :
    (cs = [.slice none 0 0] ∧ x = (.nil, [])) ∨
    ∃ (a : Addr) (len cap m : Nat) (D : Nat → DataW H) (Pl : Nat → List MemPlace), cs = [.slice (some a) len cap] ∧ base ≤ a.block ∧ len ≤ cap ∧ cap ≤ maxLen ∧ m = (if spare a.block then cap else len) ∧
      x = (.slice ((List.range len).map D) ((List.range (m - len)).map fun j => D (len + j)), MemPlace.row a (m * fs.size) ++ (List.range m).flatMap Pl) ∧
      ∀ i, i < m → ∃ (ys : List (DataW H × List MemPlace)) (n : Nat), D i = .agg (ys.map (·.1)) ∧ Pl i = ys.flatMap (·.2) ∧ ys.length = fs.size ∧
        ∀ (j : Nat) (f : Field), fs[j]? = some f → ∃ (v : Value) (y : DataW H × List MemPlace), w.cell? (a.add (i * fs.size + j)) = some v ∧ ys[j]? = some y ∧ DataW.trod enc P w base spare held n f.type [v] = some y := by
  rcases open_slice ht h with h0 | ⟨a, len, cap, m, n, D, Pl, hcs, hb, hl, hm, hmm, hx, hi⟩
  · exact .inl h0
  · refine .inr ⟨a, len, cap, m, D, Pl, hcs, hb, hl, hm, hmm, by rw [hC] at hx; exact hx, fun i him => ?_⟩
    obtain ⟨cs', hc, ht'⟩ := hi i him
    rw [hC] at hc
    obtain ⟨ys, n', hn', hy, hlen, hyl, hf⟩ := DataW.trod_struct he ht'
    obtain ⟨_, hcl, hat⟩ := World.cells?_some hc
    simp only [Prod.mk.injEq] at hy
    refine ⟨ys, n', hy.1, hy.2, hyl, fun j f hj => ?_⟩
    obtain ⟨ho, hk⟩ := hone_of hone j f hj
    have hjl : j < fs.size := (Array.getElem?_eq_some_iff.1 hj).1
    have hcell := hat j hjl
    have hv : cs'[j]? = some (cs'[j]'(by omega)) := List.getElem?_eq_getElem (by omega)
    have h1 := hf j f hj
    rw [ho, hk] at h1
    have hone' : (cs'.drop j).take 1 = [cs'[j]'(by omega)] := by
      rw [List.drop_eq_getElem_cons (by omega)]
      rfl
    rw [hone'] at h1
    have hys : ys[j]? = some (ys[j]'(by omega)) := List.getElem?_eq_getElem (by omega)
    refine ⟨_, _, ?_, hys, h1.trans hys⟩
    rw [← Go.Deep.add_add, hcell, hv]
end
theorem add_at (b o j : Nat) : (⟨b, o, none⟩ : Addr).add j = ⟨b, o + j, none⟩ := by
  unfold Addr.add
  split
  · rename_i h; subst h; rfl
  · rfl
theorem cell_lt {w : World} {p : Addr} {v : Value} (h : w.cell? p = some v) : p.block < w.heap.size := by
  rcases Nat.lt_or_ge p.block w.heap.size with hlt | hge
  · exact hlt
  · unfold World.cell? at h
    rw [Array.getElem?_eq_none hge] at h
    cases h
theorem cell_spot {w : World} {p : Addr} {v : Value} (h : w.cell? p = some v) : p.spot = none := by
  unfold World.cell? at h
  split at h
  · split at h
    · cases h
    · rename_i h0; simpa using h0
  · cases h

theorem slice_abs {w : World} {a : Addr} {len cap size d : Nat} {us : List Value} (hl : len ≤ cap) (hc : len ≤ 9223372036854775807) (hus : us.length = len * size) (hsz : 0 < size) (hplain : ∀ (j : Nat) (u : Value), us[j]? = some u → absV w.heap.size 8 u = u) (hcell : ∀ (j : Nat) (u : Value), us[j]? = some u → w.cell? (a.add j) = some u) : Cells (absH w) (absV w.heap.size (d + 1) (.slice (some a) len cap)) size len us := by
  by_cases h0 : len = 0
  · subst h0
    simp only [absV]
    split
    · exact ⟨hus, hc, _, _, rfl, by omega⟩
    · rw [if_pos trivial]; exact ⟨hus, hc, _, _, rfl, by omega⟩
  · have hpos : 0 < us.length := by rw [hus]; exact Nat.mul_pos (by omega) hsz
    have h1 := hcell 0 _ (List.getElem?_eq_getElem hpos)
    have e0 : a.add 0 = a := by unfold Addr.add; rw [if_pos rfl]
    rw [e0] at h1
    have hsp := cell_spot h1
    have hlt := cell_lt h1
    obtain ⟨b, o, sp⟩ := a
    simp only at hsp hlt
    subst hsp
    simp only [absV]
    rw [if_pos ⟨trivial, hlt, hl⟩]
    refine ⟨hus, hc, _, _, rfl, fun _ => ⟨b, o, none, rfl, by rw [absH_n]; exact hlt, fun j u hu => ?_⟩⟩
    have h2 := hcell j u hu
    rw [add_at] at h2
    rw [abs_cell h2, hplain j u hu]

section
variable {H : Type} {enc : TypeId × Value → H} {w : World}
theorem ints_abs {fuel d : Nat} {v : Value} {x : DataW H × List MemPlace} (h : DataW.trod enc Tryz.prog w 0 (fun _ => true) true fuel 22 [v] = some x) : ∃ xs, Ints (absH w) (absV w.heap.size (d + 1) v) xs := by
  rcases open_ints Tryz.underlying22 Tryz.underlying3 (by kernel_rfl) h with ⟨hcs, _⟩ | ⟨a, l, c, zs, hcs, _, hl, hm, hz, _, hcell, _⟩
  · injection hcs with hcs _
    subst hcs
    exact ⟨[], rfl, by simp, none, 0, rfl, by simp⟩
  · injection hcs with hcs _
    subst hcs
    simp only [if_true] at hz
    have hlen : (zs.take l).length = l := by rw [List.length_take]; omega
    refine ⟨zs.take l, ?_⟩
    unfold Ints
    rw [hlen]
    refine slice_abs hl (by unfold maxLen at hm; omega) (by rw [List.length_map, hlen]; omega) (by decide) (fun j u hu => ?_) (fun j u hu => ?_)
    · rw [List.getElem?_map] at hu
      obtain ⟨z, _, rfl⟩ := Option.map_eq_some_iff.1 hu
      rfl
    · rw [List.getElem?_map] at hu
      obtain ⟨z, hz1, rfl⟩ := Option.map_eq_some_iff.1 hu
      rw [List.getElem?_take] at hz1
      split at hz1
      · have hj : j < zs.length := (List.getElem?_eq_some_iff.1 hz1).1
        rw [hcell j hj, List.getD_eq_getElem?_getD, hz1]
        rfl
      · cases hz1

theorem alts_abs {fuel d : Nat} {v : Value} {x : DataW H × List MemPlace} (h : DataW.trod enc Tryz.prog w 0 (fun _ => true) true fuel 23 [v] = some x) : ∃ l, Alts (absH w) (absV w.heap.size (d + 1) v) l := by
  rcases open_slice_fields Tryz.underlying23 Tryz.underlying58 (by kernel_rfl) (by kernel_rfl) h with ⟨hcs, _⟩ | ⟨a, len, cap, m, D, Pl, hcs, _, hl, hm, hmm, _, hf⟩
  · injection hcs with hcs _
    subst hcs
    exact ⟨[], rfl, by simp, none, 0, rfl, by simp⟩
  · injection hcs with hcs _
    subst hcs
    simp only [if_true] at hmm
    have hq : ∀ i, i < len → ∃ q : Alt, ∀ j u, q.cells[j]? = some u → w.cell? (a.add (i * 6 + j)) = some u := by
      intro i hi
      obtain ⟨ys, n, _, _, _, hj⟩ := hf i (by omega)
      obtain ⟨v0, y0, hc0, _, ht0⟩ := hj 0 _ rfl
      obtain ⟨v1, y1, hc1, _, ht1⟩ := hj 1 _ rfl
      obtain ⟨v2, y2, hc2, _, ht2⟩ := hj 2 _ rfl
      obtain ⟨v3, y3, hc3, _, ht3⟩ := hj 3 _ rfl
      obtain ⟨v4, y4, hc4, _, ht4⟩ := hj 4 _ rfl
      obtain ⟨v5, y5, hc5, _, ht5⟩ := hj 5 _ rfl
      obtain ⟨z0, hz0, _, _⟩ := DataW.trod_int Tryz.underlying3 ht0
      obtain ⟨z1, hz1, _, _⟩ := DataW.trod_int Tryz.underlying3 ht1
      obtain ⟨z2, hz2, _, _⟩ := DataW.trod_int Tryz.underlying3 ht2
      obtain ⟨z3, hz3, _, _⟩ := DataW.trod_int Tryz.underlying3 ht3
      obtain ⟨z4, hz4, _, _⟩ := DataW.trod_int Tryz.underlying3 ht4
      obtain ⟨z5, hz5, _, _⟩ := DataW.trod_int Tryz.underlying3 ht5
      injection hz0 with hz0 _
      injection hz1 with hz1 _
      injection hz2 with hz2 _
      injection hz3 with hz3 _
      injection hz4 with hz4 _
      injection hz5 with hz5 _
      subst hz0 hz1 hz2 hz3 hz4 hz5
      refine ⟨⟨z0, z1, z2, z3, z4, z5⟩, fun j u hu => ?_⟩
      match j, hu with
      | 0, hu => cases hu; exact hc0
      | 1, hu => cases hu; exact hc1
      | 2, hu => cases hu; exact hc2
      | 3, hu => cases hu; exact hc3
      | 4, hu => cases hu; exact hc4
      | 5, hu => cases hu; exact hc5
      | j + 6, hu => simp [Alt.cells] at hu
    obtain ⟨f, hf'⟩ := Classical.skolem.1 (fun i => show ∃ q : Alt, i < len → ∀ j u, q.cells[j]? = some u → w.cell? (a.add (i * 6 + j)) = some u by
      by_cases hi : i < len
      · obtain ⟨q, hq⟩ := hq i hi; exact ⟨q, fun _ => hq⟩
      · exact ⟨⟨0, 0, 0, 0, 0, 0⟩, fun h => absurd h hi⟩)
    have hlen : ((List.range len).map f).length = len := by simp
    refine ⟨(List.range len).map f, ?_⟩
    unfold Alts
    rw [hlen]
    have hget : ∀ j u, (altCells ((List.range len).map f))[j]? = some u → ∃ k i, k < len ∧ j = k * 6 + i ∧ (f k).cells[i]? = some u := by
      intro j u hu
      have hj : j < len * 6 := by
        have := (List.getElem?_eq_some_iff.1 hu).1
        rw [altCells_length, hlen] at this; exact this
      have hk : j / 6 < len := by omega
      have hi : j % 6 < 6 := Nat.mod_lt _ (by decide)
      have hcl : (f (j / 6)).cells.length = 6 := rfl
      have h1 := altCells_get ((List.range len).map f) (j / 6) (by rw [hlen]; exact hk) (j % 6) ((f (j / 6)).cells[j % 6]'(by rw [hcl]; exact hi)) (by simp)
      have e : j / 6 * 6 + j % 6 = j := by omega
      rw [e, hu] at h1
      refine ⟨j / 6, j % 6, hk, e.symm, ?_⟩
      rw [List.getElem?_eq_getElem (by rw [hcl]; exact hi)]
      exact h1.symm ▸ rfl
    refine slice_abs hl (by unfold maxLen at hm; omega) (by rw [altCells_length, hlen]) (by decide) (fun j u hu => ?_) (fun j u hu => ?_)
    · obtain ⟨k, i, hk, rfl, hi⟩ := hget j u hu
      match i, hi with
      | 0, hi => cases hi; rfl
      | 1, hi => cases hi; rfl
      | 2, hi => cases hi; rfl
      | 3, hi => cases hi; rfl
      | 4, hi => cases hi; rfl
      | 5, hi => cases hi; rfl
      | i + 6, hi => simp [Alt.cells] at hi
    · obtain ⟨k, i, hk, rfl, hi⟩ := hget j u hu
      exact hf' k hk i u hi
end

theorem ownOne : ownKnob Tryz.prog.godebug = none := by kernel_rfl
theorem laidOut : laidOutB Tryz.prog = true := by kernel_rfl

theorem fields25 : ∃ f0 f1 : Field, Tryz.prog.underlying 25 = some (.struct #[f0, f1]) ∧ f0.type = 22 ∧ f1.type = 23 ∧ f0.offset = 0 ∧ f1.offset = 1 ∧ Tryz.prog.cellsOf 22 = 1 ∧ Tryz.prog.cellsOf 23 = 1 ∧ Tryz.prog.cellsOf 25 = 2 :=
  ⟨(fieldOf Tryz.prog 25 0).getD default, (fieldOf Tryz.prog 25 1).getD default, by kernel_rfl, by kernel_rfl, by kernel_rfl, by kernel_rfl, by kernel_rfl, by kernel_rfl, by kernel_rfl, by kernel_rfl⟩

section
variable {H : Type} {enc : TypeId × Value → H} {w : World}
theorem sheet_abs {r : Reach} {b0 : Nat} {v : Value} {d : DataW H} {p : List MemPlace} (hval : Value.okWide Tryz.prog w r b0 25 v) (h : DataW.Trod enc Tryz.prog w 0 (fun _ => true) true 25 v d p) : ∃ s, SheetV (absH w) (absV w.heap.size 8 v) s := by
  obtain ⟨f0, f1, hu, h0, h1, h2, h3, h4, h5, h6⟩ := fields25
  obtain ⟨cs, rfl, hcs⟩ := okWide_struct hu hval
  obtain ⟨fuel, hf⟩ := h
  obtain ⟨y0, y1, n, _, _, ht0, ht1⟩ := trod_struct2 hu hf
  rw [h6] at hcs
  obtain ⟨a, b, rfl⟩ : ∃ a b, cs = #[a, b] := by
    obtain ⟨l⟩ := cs
    match l, hcs with
    | [a, b], _ => exact ⟨a, b, rfl⟩
  rw [h0, h2, h4] at ht0
  rw [h1, h3, h5] at ht1
  obtain ⟨xs, hx⟩ := ints_abs (d := 6) (v := a) (by simpa [Value.cells] using ht0)
  obtain ⟨l, hl⟩ := alts_abs (d := 6) (v := b) (by simpa [Value.cells] using ht1)
  exact ⟨⟨xs, l⟩, _, _, by simp [absV], hx, hl⟩
end

theorem fields27 : ∃ f0 f1 f2 f3 : Field, Tryz.prog.underlying 27 = some (.struct #[f0, f1, f2, f3]) ∧ (f0.type = 22 ∧ f1.type = 3 ∧ f2.type = 3 ∧ f3.type = 3) ∧ (f0.offset = 0 ∧ f1.offset = 1 ∧ f2.offset = 2 ∧ f3.offset = 3) ∧ Tryz.prog.cellsOf 22 = 1 ∧ Tryz.prog.cellsOf 3 = 1 ∧ Tryz.prog.cellsOf 27 = 4 :=
  ⟨(fieldOf Tryz.prog 27 0).getD default, (fieldOf Tryz.prog 27 1).getD default, (fieldOf Tryz.prog 27 2).getD default, (fieldOf Tryz.prog 27 3).getD default, by kernel_rfl, by refine ⟨?_, ?_, ?_, ?_⟩ <;> kernel_rfl, by refine ⟨?_, ?_, ?_, ?_⟩ <;> kernel_rfl, by kernel_rfl, by kernel_rfl, by kernel_rfl⟩
section
variable {H : Type} {enc : TypeId × Value → H} {w : World}
theorem copy_abs {r : Reach} {b0 : Nat} {v : Value} {d : DataW H} {p : List MemPlace} (hval : Value.okWide Tryz.prog w r b0 27 v) (h : DataW.Trod enc Tryz.prog w 0 (fun _ => true) true 27 v d p) : ∃ c, CopyV (absH w) (absV w.heap.size 8 v) c := by
  obtain ⟨f0, f1, f2, f3, hu, ⟨t0, t1, t2, t3⟩, ⟨o0, o1, o2, o3⟩, h4, h5, h6⟩ := fields27
  obtain ⟨cs, rfl, hcs⟩ := okWide_struct hu hval
  obtain ⟨fuel, hf⟩ := h
  obtain ⟨xs, n, _, _, _, _, ht⟩ := DataW.trod_struct hu hf
  rw [h6] at hcs
  obtain ⟨a, b, c, e, rfl⟩ : ∃ a b c e, cs = #[a, b, c, e] := by
    obtain ⟨l⟩ := cs
    match l, hcs with
    | [a, b, c, e], _ => exact ⟨a, b, c, e, rfl⟩
  have ht0 := ht 0 f0 rfl
  have ht1 := ht 1 f1 rfl
  have ht2 := ht 2 f2 rfl
  have ht3 := ht 3 f3 rfl
  rw [t0, o0, h4] at ht0
  rw [t1, o1, h5] at ht1
  rw [t2, o2, h5] at ht2
  rw [t3, o3, h5] at ht3
  have hlen : xs.length = 4 := by assumption
  rw [List.getElem?_eq_getElem (by omega)] at ht0 ht1 ht2 ht3
  obtain ⟨ws, hx⟩ := ints_abs (d := 6) (v := a) (by simpa [Value.cells] using ht0)
  obtain ⟨z1, hz1, _, _⟩ := DataW.trod_int Tryz.underlying3 (show DataW.trod enc Tryz.prog w 0 (fun _ => true) true n 3 [b] = _ by simpa [Value.cells] using ht1)
  obtain ⟨z2, hz2, _, _⟩ := DataW.trod_int Tryz.underlying3 (show DataW.trod enc Tryz.prog w 0 (fun _ => true) true n 3 [c] = _ by simpa [Value.cells] using ht2)
  obtain ⟨z3, hz3, _, _⟩ := DataW.trod_int Tryz.underlying3 (show DataW.trod enc Tryz.prog w 0 (fun _ => true) true n 3 [e] = _ by simpa [Value.cells] using ht3)
  injection hz1 with hz1 _
  injection hz2 with hz2 _
  injection hz3 with hz3 _
  subst hz1 hz2 hz3
  exact ⟨⟨ws, z1, z2, z3⟩, _, by simp [absV], hx⟩
theorem list_abs {r : Reach} {b0 : Nat} {v : Value} {d : DataW H} {p : List MemPlace} (hval : Value.okWide Tryz.prog w r b0 22 v) (h : DataW.Trod enc Tryz.prog w 0 (fun _ => true) true 22 v d p) : ∃ xs, Ints (absH w) (absV w.heap.size 8 v) xs := by
  obtain ⟨a, len, cap, rfl⟩ := okWide_slice Tryz.underlying22 hval
  obtain ⟨fuel, hf⟩ := h
  exact ints_abs (d := 7) hf
end
end Go.Proofs.Tryz
