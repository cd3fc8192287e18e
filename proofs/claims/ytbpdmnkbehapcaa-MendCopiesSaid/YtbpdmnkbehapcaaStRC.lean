/- Contracts of functions, walked. -/
import Derived.Test.YtbpdmnkbehapcaaStRB
set_option linter.all false
namespace Go.Proofs.Try
open Go Go.Am Go.RowKit
set_option maxRecDepth 100000


def hasIt (t : Tour) (on : List Int) (day : Int) (id : Int) : Bool := decide (on.getD (atOf t.flaws id) 0 = -1) || decide (day ≤ on.getD (atOf t.flaws id) 0)
def spreadOf (t : Tour) (on : List Int) (c : Taker) : List Int := c.ids.filter (hasIt t on c.day)
def RowsOf (H : AHeap) (bs : Nat) (v : Value) (rows : List (List Int)) : Prop := ∃ vs : List Value, Own H bs v 22 1 vs ∧ vs.length = rows.length ∧ ∀ i (h : i < rows.length), ∃ u, vs[i]? = some u ∧ Own H bs u 3 1 ((rows[i]).map (Value.int .i64))
theorem filter_snoc {p : Int → Bool} {l : List Int} {k : Nat} (h : k < l.length) : (l.take (k + 1)).filter p = (l.take k).filter p ++ (if p l[k] = true then [l[k]] else []) := by
  rw [List.take_succ_eq_append_getElem h, List.filter_append]
  congr 1
  by_cases hp : p l[k] = true
  · rw [if_pos hp, List.filter_cons_of_pos hp]; rfl
  · rw [if_neg hp, List.filter_cons_of_neg hp]; rfl

set_option maxHeartbeats 8000000 in
theorem spread_e {loops : List (Nat × LInfo)} {H : AHeap} {v ov sv lv : Value} {t : Tour} {on : List Int} {w : Int} {l : List Taker} {sa : Option Addr} {sn sc : Nat} (hv : TourV H v t) (ho : Ints H ov on) (hs : sv = .slice sa sn sc) (hl : TakersV H lv l) (hg : Good t) (he : err t = 0) (hon : on.length = t.flaws.length) (hlen : l.length ≤ 40) (hids : ∀ c, c ∈ l → c.ids.length ≤ 1000) :
    CallS Try.prog loops 30 [v, .agg #[ov, .int .i64 w, sv], lv] H fun r H' => (∃ rv e, r = .tuple #[rv, .int .i64 e] ∧ (∃ a n c, rv = .slice a n c) ∧ (e = 0 → (∀ c, c ∈ l → t.listed c.ids = true) ∧ RowsOf H' H.n rv (l.map (spreadOf t on)))) ∧ Ext H H' := by
  have HV := Lib.hid hv
  have HO := Lib.hid ho
  have HL := Lib.hid hl
  have HCE := Lib.hid (fun (loops : List (Nat × LInfo)) (H2 : AHeap) (hx : Ext H H2) => (check_s (loops := loops) (HV.out.ext hx)).mono fun r H3 (h : r = .int .i64 (err t) ∧ H3 = H2) => (⟨by rw [h.1, he], h.2⟩ : r = .int .i64 0 ∧ H3 = H2))
  have HPB := Lib.hid (fun (loops : List (Nat × LInfo)) (H2 : AHeap) (hx : Ext H H2) => planBy_e (loops := loops) (HV.out.ext hx) (HO.out.ext hx) hg hon)
  have HCT := Lib.hid (fun (loops : List (Nat × LInfo)) (H2 : AHeap) (hx : Ext H H2) => checkTakers_s (loops := loops) (HV.out.ext hx) (HL.out.ext hx) hg hlen)
  have HIN := Lib.hid (fun (loops : List (Nat × LInfo)) (H2 : AHeap) (hx : Ext H H2) => indices_e (loops := loops) (HV.out.ext hx) hg.nodup)
  have HON := Lib.hid hon
  have HIDS := Lib.hid hids
  obtain ⟨cv, fv, rfl, hc, hf⟩ := hv
  obtain ⟨hcl, ca, cc, rfl⟩ := hc.slice
  obtain ⟨hfl, fa, fc, rfl⟩ := hf.slice
  obtain ⟨hol, oa, oc, rfl⟩ := ho.slice
  obtain ⟨la, lc, rfl, -⟩ := hl
  subst hs
  clear hc hf ho hg he hon hids
  refine CallS.enter' Try.func30 rfl Try.ntmps30 (by simp) fun f hd hf => ?_
  have f0 := hf 0
  have f1 := hf 1
  have f2 := hf 2
  simp at f0 f1 f2
  clear hf
  repeat' (first|(with_reducible first|refine zA ?_|refine zB fun K hK=>?_|refine zC fun K2 hK2=>?_|refine zD ?_|refine zE ?_|refine zF ?_|refine zG ?_|refine zH ?_|refine zI ?_|refine zM ?_|refine zN ?_|refine zO ?_|refine zP ?_|refine zQ ?_|refine zR ?_)|((with_reducible refine zU (hK _ _ ?_));clear hK K)|((with_reducible refine zV ?_ ?_ fun K1 K3 d hdst h1 h3=>?_);rfl;exact yB rfl;cases hdst;go_simp)|((with_reducible refine zW fun K1 K3 h1 h3=>?_);go_simp)|((first|refine h1 ?_|refine h3 ?_);clear h1 h3 K1 K3)|((first|refine zX (fun hb=>h1 ?_) (fun hb=>h3 ?_)|refine zX (fun hb=>h3 ?_) (fun hb=>h1 ?_))<;>(clear h1 h3 K1 K3;(try have hb2:=yC hb);(try have hb2:=yD hb);(try have hb2:=yE hb);(try have hb2:=yF hb);(try have hb2:=yG hb)))|(refine fun (K2:_→AHeap→Prop) hK2=>?_)|((with_reducible refine zY ?_ ?_);decide)|((with_reducible first|refine zZ ?_ (fun K hK=>?_)|refine yA ?_ (fun K hK=>?_));(focus go_simp;done);go_simp;refine hK _ _ ?_;clear hK K)|(go_simp;(try go_bits);(try first |((with_reducible show CallS _ _ _ _ _ _);first|(refine CallS.mono (HCE.out _ _ (((Ext.refl _).push' _).push' _)) ?_; rintro _ _ ⟨rfl, rfl⟩)|(refine CallS.mono (HPB.out _ _ (((Ext.refl _).push' _).push' _)) ?_; rintro _ H2 ⟨⟨pa, pn, pc, pE, pb, rfl⟩, hx2⟩; (have HX2 : Hid (Ext H H2) := Lib.hid ((((Ext.refl _).push' _).push' _).trans hx2)); (have hn2 : H.n + 1 < H2.n := by have := hx2.n; simp only [AHeap.n_push] at this; omega); (have hn2b : H.n < H2.n := by omega); (have hq2 : cellsAt H2 H.n 0 3 = some [.int .i64 t.days, .slice ca t.closed.length cc, .slice fa t.flaws.length fc] := (hx2.cellsAt (by simp only [AHeap.n_push]; omega)).trans (by go_simp)); (have hg1 : H2.get (H.n + 1) = .row [.slice oa on.length oc, .int .i64 w, .slice sa sn sc] 28 := by rw [hx2.get _ (by simp only [AHeap.n_push]; omega), show H.n + 1 = (H.push (.row [.int .i64 t.days, .slice ca t.closed.length cc, .slice fa t.flaws.length fc] 25)).n from rfl, AHeap.get_push_new]); (have HG1 := Lib.hid hg1); clear hx2 hg1)|(refine CallS.mono (HCT.out _ _ (HX2.out.push' _)) ?_; rintro _ _ ⟨⟨er, rfl, her⟩, h9⟩; rw [h9]; clear h9; (have HER := Lib.hid her); clear her; go_simp)|(refine CallS.mono (HIN.out _ _ (HX2.out.push' _)) ?_; rintro _ H3 ⟨rfl, hx3, hn3, hm3⟩; (have HX3 := Lib.hid hx3); (have HM3 := Lib.hid hm3); (have HN3 := Lib.hid hn3); clear hx3 hm3 hn3; go_simp)));refine hK2 _ _ ?_;clear hK2 K2))
  · exact ⟨⟨_, 1, rfl, ⟨none, 0, 0, rfl⟩, fun h => absurd h (by decide)⟩, HX2.out.push' _⟩
  · have hne : er ≠ 0 := by
      have := ‹(er != 0) = true›
      simpa using this
    exact ⟨⟨_, er, rfl, ⟨none, 0, 0, rfl⟩, fun h => absurd h hne⟩, HX2.out.push' _⟩
  have her0 : er = 0 := by
    have := ‹(er != 0) = false›
    simpa using this
  have HLI := Lib.hid (HER.out her0)
  have hx3 : Ext H H3 := (HX2.out.push' _).trans HX3.out
  have hnp : (H2.push (.row (planCells (.slice pa pn pc) pE) 84)).n = H2.n + 1 := AHeap.n_push _ _
  have hg13 : H3.get (H.n + 1) = .row [.slice oa on.length oc, .int .i64 w, .slice sa sn sc] 28 := by
    rw [HX3.out.get _ (by omega), AHeap.get_push_old (by omega)]; exact HG1.out
  have HG13 := Lib.hid hg13
  generalize hmp : (H2.push (.row (planCells (.slice pa pn pc) pE) 84)).n + 1 = mp at HM3 HN3 ⊢
  have HXH3 := Lib.hid hx3
  have hn13 : H.n + 1 < H3.n := by have := HX3.out.n; omega
  have HN13 := Lib.hid hn13
  clear her0 HER hx3 hnp hg13 HX3 HX2 HG1 hn2 hn2b hq2 HCE HPB HCT HIN HV
  refine CodeS.loop (fun m f H' => ∃ (k : Nat) (rv : Value), k ≤ l.length ∧ m = l.length - k ∧ f.tmp 44 = .int .i64 k ∧ f.tmp 43 = .int .i64 l.length ∧ f.tmp 42 = .slice la l.length lc ∧ f.tmp 4 = .pointer (some ⟨H.n + 1, 0, none⟩) ∧ f.tmp 12 = .map (some mp) ∧ f.tmp 13 = rv ∧ f.defers = [] ∧ Hid (RowsOf H' H3.n rv ((l.take k).map (spreadOf t on))) ∧ Hid (Ext H3 H')) l.length ?_ ?_
  · exact ⟨0, .slice none 0 0, by omega, by omega, (by first|go_simp<;>go_num|assumption), (by first|go_simp<;>go_num|assumption), (by first|go_simp<;>go_num|assumption), (by first|go_simp<;>go_num|assumption), by rw [← hmp]; go_simp, (by first|go_simp<;>go_num|assumption), (by first|go_simp<;>go_num|assumption), Lib.hid ⟨[], Own.nil, by simp, fun i h => by simp at h⟩, Lib.hid (Ext.refl _)⟩
  clear f0 f1 f2 hd f hmp
  rintro m f H' ⟨k, rv, hk, rfl, f44, f43, f42, f4, f12, f13, hd, HR, HX⟩
  obtain ⟨ra, rn, rfl⟩ : ∃ a n, rv = .slice a n n := by
    obtain ⟨vs, h1, -⟩ := HR.out
    exact own_slice h1
  by_cases hlt : k < l.length
  · obtain ⟨b, o, sp, u, rfl, hb, hx3, hui⟩ := (HL.out.ext (HXH3.out.trans HX.out)).at_ hlt
    have hki : (k : Int) < (l.length : Int) := by omega
    have HT := Lib.hid (List.take_succ_eq_append_getElem hlt)
    have HMEM := Lib.hid (List.getElem_mem hlt)
    generalize l[k] = c at hx3 HT hui HMEM
    have HLC := Lib.hid (HLI.out c HMEM.out)
    have hil := HIDS.out c HMEM.out
    obtain ⟨ci, cd, cids⟩ := c
    simp only at hx3 hui hil
    have HUI := Lib.hid hui
    obtain ⟨hul, ua, uc, rfl⟩ := hui.slice
    clear hui
    repeat' (first|(with_reducible first|refine zA ?_|refine zB fun K hK=>?_|refine zC fun K2 hK2=>?_|refine zD ?_|refine zE ?_|refine zF ?_|refine zG ?_|refine zH ?_|refine zI ?_|refine zM ?_|refine zN ?_|refine zO ?_|refine zP ?_|refine zQ ?_|refine zR ?_)|((with_reducible refine zU (hK _ _ ?_));clear hK K)|((with_reducible refine zV ?_ ?_ fun K1 K3 d hdst h1 h3=>?_);rfl;exact yB rfl;cases hdst;go_simp)|((with_reducible refine zW fun K1 K3 h1 h3=>?_);go_simp)|((first|refine h1 ?_|refine h3 ?_);clear h1 h3 K1 K3)|((first|refine zX (fun hb=>h1 ?_) (fun hb=>h3 ?_)|refine zX (fun hb=>h3 ?_) (fun hb=>h1 ?_))<;>(clear h1 h3 K1 K3;(try have hb2:=yC hb);(try have hb2:=yD hb);(try have hb2:=yE hb);(try have hb2:=yF hb);(try have hb2:=yG hb)))|(refine fun (K2:_→AHeap→Prop) hK2=>?_)|((with_reducible refine zY ?_ ?_);decide)|((with_reducible first|refine zZ ?_ (fun K hK=>?_)|refine yA ?_ (fun K hK=>?_));(focus go_simp;done);go_simp;refine hK _ _ ?_;clear hK K)|(go_simp;(try go_bits);refine hK2 _ _ ?_;clear hK2 K2))
    have hgt : (H'.push (.row [.int .i64 ci, .int .i64 cd, .slice ua cids.length uc] 69)).get H'.n = .row [.int .i64 ci, .int .i64 cd, .slice ua cids.length uc] 69 := AHeap.get_push_new
    have hxs : Ext H' (H'.push (.row [.int .i64 ci, .int .i64 cd, .slice ua cids.length uc] 69)) := Ext.push _
    have hns : (H'.push (.row [.int .i64 ci, .int .i64 cd, .slice ua cids.length uc] 69)).n = H'.n + 1 := AHeap.n_push _ _
    generalize (H'.push (.row [.int .i64 ci, .int .i64 cd, .slice ua cids.length uc] 69)) = Hs at hgt hxs hns ⊢
    have HGT := Lib.hid hgt
    have HXS := Lib.hid hxs
    have HNS := Lib.hid hns
    clear hgt hxs hns hx3 hb
    refine CodeS.loop (fun m f K => ∃ (j : Nat) (u : Value), j ≤ cids.length ∧ m = cids.length - j ∧ f.tmp 51 = .int .i64 j ∧ f.tmp 50 = .int .i64 cids.length ∧ f.tmp 49 = .slice ua cids.length uc ∧ f.tmp 15 = .pointer (some ⟨H'.n, 0, none⟩) ∧ f.tmp 16 = u ∧ f.tmp 44 = .int .i64 k ∧ f.tmp 43 = .int .i64 l.length ∧ f.tmp 42 = .slice (some ⟨b, o, sp⟩) l.length lc ∧ f.tmp 4 = .pointer (some ⟨H.n + 1, 0, none⟩) ∧ f.tmp 12 = .map (some mp) ∧ f.tmp 13 = .slice ra rn rn ∧ f.defers = [] ∧ Hid (Own K Hs.n u 3 1 (((cids.take j).filter (hasIt t on cd)).map (Value.int .i64))) ∧ Hid (Ext Hs K)) cids.length ?_ ?_
    · exact ⟨0, .slice none 0 0, by omega, by omega, (by first|go_simp<;>go_num|assumption), (by first|go_simp<;>go_num|assumption), (by first|go_simp<;>go_num|assumption), (by first|go_simp<;>go_num|assumption), (by first|go_simp<;>go_num|assumption), (by first|go_simp<;>go_num|assumption), (by first|go_simp<;>go_num|assumption), (by first|go_simp<;>go_num|assumption), (by first|go_simp<;>go_num|assumption), (by first|go_simp<;>go_num|assumption), (by first|go_simp<;>go_num|assumption), (by first|go_simp<;>go_num|assumption), Lib.hid Own.nil, Lib.hid (Ext.refl _)⟩
    clear f44 f43 f42 f4 f12 f13 hd f
    rintro m f K ⟨j, u, hj, rfl, f51, f50, f49, f15, f16, f44, f43, f42, f4, f12, f13, hd, HU, HXK⟩
    have hXK3 : Ext H3 K := (HX.out.trans HXS.out).trans HXK.out
    have hn9 : H'.n < K.n := by have := HXK.out.n; have := HNS.out; omega
    by_cases hjl : j < cids.length
    · have hji : (j : Int) < (cids.length : Int) := by omega
      obtain ⟨b2, o2, sp2, rfl, hb2, hxj⟩ := (HUI.out.ext (HXS.out.trans HXK.out)).at_ hjl
      have HFI := Lib.hid (filter_snoc (p := hasIt t on cd) hjl)
      have hmem : cids[j] ∈ t.flaws.map (·.id) := listed_mem HLC.out (List.getElem_mem hjl)
      generalize cids[j] = id at hxj HFI hmem
      have HLK := Lib.hid ((look_idx t.flaws 0 id).2 hmem)
      rw [Nat.zero_add] at HLK
      have hat := atOf_lt hmem
      rw [← HON.out] at hat
      obtain ⟨b3, o3, sp3, rfl, hb3, hxo⟩ := (HO.out.ext (HXH3.out.trans hXK3)).at_ hat
      have HGD : Hid (on.getD (atOf t.flaws id) 0 = on[atOf t.flaws id]) := Lib.hid (by rw [List.getD_eq_getElem?_getD, List.getElem?_eq_getElem hat]; rfl)
      have HHI : Hid (hasIt t on cd id = (decide (on[atOf t.flaws id] = -1) || decide (cd ≤ on[atOf t.flaws id]))) := Lib.hid (by rw [hasIt, HGD.out])
      generalize on[atOf t.flaws id] = day at hxo HHI
      generalize atOf t.flaws id = at' at hat hxo HLK
      generalize hasIt t on cd id = hi at HFI HHI
      have hat2 : (at' : Int) < (on.length : Int) := by omega
      have hg1 : K.get (H.n + 1) = .row [.slice (some ⟨b3, o3, sp3⟩) on.length oc, .int .i64 w, .slice sa sn sc] 28 := (hXK3.get _ HN13.out).trans HG13.out
      have hc1 : cellAt K (H.n + 1) 0 = some (.slice (some ⟨b3, o3, sp3⟩) on.length oc) := by simp [cellAt, hg1]
      have hgt : K.get H'.n = .row [.int .i64 ci, .int .i64 cd, .slice (some ⟨b2, o2, sp2⟩) cids.length uc] 69 := (HXK.out.get _ (by have := HNS.out; omega)).trans HGT.out
      have hc2 : cellAt K H'.n 1 = some (.int .i64 cd) := by simp [cellAt, hgt]
      have HMK := Lib.hid (HM3.out.ext HN3.out hXK3)
      have HXK3 := Lib.hid hXK3
      obtain ⟨ua2, un2, rfl⟩ := own_slice HU.out
      have hbig : ((((cids.take j).filter (hasIt t on cd)).map (Value.int .i64)).length + 1) * max 8 1 ≤ 1073741824 := by
        have h1 := List.length_filter_le (hasIt t on cd) (cids.take j)
        have h2 := List.length_take_le j cids
        simp only [List.length_map]; simp; omega
      have HBIG := Lib.hid hbig
      have HB9 : Hid (Hs.n ≤ K.n) := Lib.hid HXK.out.n
      clear hbig hg1 hgt hXK3 hmem
      by_cases hd1 : day = -1
      · have hdb : (day == -1) = true := by simpa using hd1
        rw [HHI.out, decide_eq_true hd1, Bool.true_or, if_pos rfl] at HFI
        clear hd1
        repeat' (first|(with_reducible first|refine zA ?_|refine zB fun K hK=>?_|refine zC fun K2 hK2=>?_|refine zD ?_|refine zE ?_|refine zF ?_|refine zG ?_|refine zH ?_|refine zI ?_|refine zM ?_|refine zN ?_|refine zO ?_|refine zP ?_|refine zQ ?_|refine zR ?_)|((with_reducible refine zU (hK _ _ ?_));clear hK K)|((with_reducible refine zV ?_ ?_ fun K1 K3 d hdst h1 h3=>?_);rfl;exact yB rfl;cases hdst;go_simp)|((with_reducible refine zW fun K1 K3 h1 h3=>?_);go_simp)|((first|refine h1 ?_|refine h3 ?_);clear h1 h3 K1 K3)|((first|refine zX (fun hb=>h1 ?_) (fun hb=>h3 ?_)|refine zX (fun hb=>h3 ?_) (fun hb=>h1 ?_))<;>(clear h1 h3 K1 K3;(try have hb2:=yC hb);(try have hb2:=yD hb);(try have hb2:=yE hb);(try have hb2:=yF hb);(try have hb2:=yG hb)))|(refine fun (K2:_→AHeap→Prop) hK2=>?_)|((with_reducible refine zY ?_ ?_);decide)|((with_reducible first|refine zZ ?_ (fun K hK=>?_)|refine yA ?_ (fun K hK=>?_));(focus go_simp;done);go_simp;refine hK _ _ ?_;clear hK K)|((with_reducible refine yH mixed rfl ?_ 20 fun K0 hK0=>?_);kernel_rfl)|(with_reducible first|exact yI|exact yJ|refine yK ?_|refine yL ?_|refine yM ?_)|((with_reducible first|refine yN ?_ ?_|refine yO ?_ ?_|refine yP ?_ ?_);rfl)|((with_reducible refine yQ ?_ ?_);rfl;refine hK0 _ _ ?_;clear hK0 K0)|((with_reducible refine yR ?_ ?_ ?_ ?_);rfl;rfl;rfl)|((with_reducible refine yS ?_ ?_ ?_ fun K2 hK2=>?_);rfl;rfl;exact yB rfl)|((with_reducible refine yT ?_ ?_ ?_ ?_ fun K1 K3 d hdst h1 h3=>?_);rfl;rfl;rfl;exact yB rfl;cases hdst;go_simp)|((with_reducible refine yU ?_ ?_ ?_ ?_ fun K1 K3 d hdst h1 h3=>?_);rfl;rfl;rfl;exact yB rfl;cases hdst;go_simp)|((with_reducible refine yV ?_ ?_ (fun K2 hK2=>?_) ?_);rfl;exact yB rfl)|((with_reducible refine yW ?_ ?_ ?_ ?_ (fun K2 hK2=>?_) ?_);rfl;exact yB rfl;rfl;(focus go_simp;done))|((with_reducible refine yX ?_ ?_ ?_ (fun K2 hK2=>?_) ?_);rfl;rfl;exact yB rfl)|((with_reducible refine yY ?_ ?_ (fun K2 hK2=>?_) ?_);rfl;rfl)|((with_reducible refine yZ ?_ ?_);(first|rfl|(dsimp only;decide +kernel)))|((with_reducible refine xA ?_ ?_);(focus go_simp;done))|(go_simp;(try go_bits);(try first | ((rw [aLookup_map false ma110 un3 ze3 HMK.out, HLK.out]); go_simp) | ((refine one_k el22 sz3 ze3 rfl (by decide) (by decide) rfl rfl ?_); go_simp) | ((refine append_k el22 sz3 by3 ze3 rfl (by decide) (HU.out.ext (Ext.push _)) (srcCells_new rfl) (by decide) rfl (by rw [List.all_append, oneV_ints]; rfl) HBIG.out (by rw [AHeap.n_push]; have := HB9.out; omega) fun v2 H4 ho4 hg4 => ?_); (have HO4 := Lib.hid ho4); (have HG4 := Lib.hid hg4); clear ho4 hg4; go_simp));(first|(refine hK2 _ _ ?_ ?_<;>clear hK2 K2)|(refine hK2 _ _ ?_;clear hK2 K2))))
        all_goals (refine Post.round_normal ⟨cids.length - (j + 1), by omega, j + 1, v2, by omega, rfl, (by first|go_simp<;>go_num|assumption), (by first|go_simp<;>go_num|assumption), (by first|go_simp<;>go_num|assumption), (by first|go_simp<;>go_num|assumption), (by first|go_simp<;>go_num|assumption), (by first|go_simp<;>go_num|assumption), (by first|go_simp<;>go_num|assumption), (by first|go_simp<;>go_num|assumption), (by first|go_simp<;>go_num|assumption), (by first|go_simp<;>go_num|assumption), (by first|go_simp<;>go_num|assumption), (by first|go_simp<;>go_num|assumption), Lib.hid (by rw [HFI.out, List.map_append]; exact HO4.out), Lib.hid (HG4.out.ext (HU.out.ext (Ext.push _)) (Nat.le_refl _) (HXK.out.push' _))⟩)
      have hdb : (day == -1) = false := by simpa using hd1
      by_cases hd2 : cd ≤ day
      · rw [HHI.out, decide_eq_true hd2, Bool.or_true, if_pos rfl] at HFI
        clear hd1
        repeat' (first|(with_reducible first|refine zA ?_|refine zB fun K hK=>?_|refine zC fun K2 hK2=>?_|refine zD ?_|refine zE ?_|refine zF ?_|refine zG ?_|refine zH ?_|refine zI ?_|refine zM ?_|refine zN ?_|refine zO ?_|refine zP ?_|refine zQ ?_|refine zR ?_)|((with_reducible refine zU (hK _ _ ?_));clear hK K)|((with_reducible refine zV ?_ ?_ fun K1 K3 d hdst h1 h3=>?_);rfl;exact yB rfl;cases hdst;go_simp)|((with_reducible refine zW fun K1 K3 h1 h3=>?_);go_simp)|((first|refine h1 ?_|refine h3 ?_);clear h1 h3 K1 K3)|((first|refine zX (fun hb=>h1 ?_) (fun hb=>h3 ?_)|refine zX (fun hb=>h3 ?_) (fun hb=>h1 ?_))<;>(clear h1 h3 K1 K3;(try have hb2:=yC hb);(try have hb2:=yD hb);(try have hb2:=yE hb);(try have hb2:=yF hb);(try have hb2:=yG hb)))|(refine fun (K2:_→AHeap→Prop) hK2=>?_)|((with_reducible refine zY ?_ ?_);decide)|((with_reducible first|refine zZ ?_ (fun K hK=>?_)|refine yA ?_ (fun K hK=>?_));(focus go_simp;done);go_simp;refine hK _ _ ?_;clear hK K)|((with_reducible refine yH mixed rfl ?_ 20 fun K0 hK0=>?_);kernel_rfl)|(with_reducible first|exact yI|exact yJ|refine yK ?_|refine yL ?_|refine yM ?_)|((with_reducible first|refine yN ?_ ?_|refine yO ?_ ?_|refine yP ?_ ?_);rfl)|((with_reducible refine yQ ?_ ?_);rfl;refine hK0 _ _ ?_;clear hK0 K0)|((with_reducible refine yR ?_ ?_ ?_ ?_);rfl;rfl;rfl)|((with_reducible refine yS ?_ ?_ ?_ fun K2 hK2=>?_);rfl;rfl;exact yB rfl)|((with_reducible refine yT ?_ ?_ ?_ ?_ fun K1 K3 d hdst h1 h3=>?_);rfl;rfl;rfl;exact yB rfl;cases hdst;go_simp)|((with_reducible refine yU ?_ ?_ ?_ ?_ fun K1 K3 d hdst h1 h3=>?_);rfl;rfl;rfl;exact yB rfl;cases hdst;go_simp)|((with_reducible refine yV ?_ ?_ (fun K2 hK2=>?_) ?_);rfl;exact yB rfl)|((with_reducible refine yW ?_ ?_ ?_ ?_ (fun K2 hK2=>?_) ?_);rfl;exact yB rfl;rfl;(focus go_simp;done))|((with_reducible refine yX ?_ ?_ ?_ (fun K2 hK2=>?_) ?_);rfl;rfl;exact yB rfl)|((with_reducible refine yY ?_ ?_ (fun K2 hK2=>?_) ?_);rfl;rfl)|((with_reducible refine yZ ?_ ?_);(first|rfl|(dsimp only;decide +kernel)))|((with_reducible refine xA ?_ ?_);(focus go_simp;done))|(go_simp;(try go_bits);(try first | ((rw [aLookup_map false ma110 un3 ze3 HMK.out, HLK.out]); go_simp) | ((refine one_k el22 sz3 ze3 rfl (by decide) (by decide) rfl rfl ?_); go_simp) | ((refine append_k el22 sz3 by3 ze3 rfl (by decide) (HU.out.ext (Ext.push _)) (srcCells_new rfl) (by decide) rfl (by rw [List.all_append, oneV_ints]; rfl) HBIG.out (by rw [AHeap.n_push]; have := HB9.out; omega) fun v2 H4 ho4 hg4 => ?_); (have HO4 := Lib.hid ho4); (have HG4 := Lib.hid hg4); clear ho4 hg4; go_simp));(first|(refine hK2 _ _ ?_ ?_<;>clear hK2 K2)|(refine hK2 _ _ ?_;clear hK2 K2))))
        all_goals (refine Post.round_normal ⟨cids.length - (j + 1), by omega, j + 1, v2, by omega, rfl, (by first|go_simp<;>go_num|assumption), (by first|go_simp<;>go_num|assumption), (by first|go_simp<;>go_num|assumption), (by first|go_simp<;>go_num|assumption), (by first|go_simp<;>go_num|assumption), (by first|go_simp<;>go_num|assumption), (by first|go_simp<;>go_num|assumption), (by first|go_simp<;>go_num|assumption), (by first|go_simp<;>go_num|assumption), (by first|go_simp<;>go_num|assumption), (by first|go_simp<;>go_num|assumption), (by first|go_simp<;>go_num|assumption), Lib.hid (by rw [HFI.out, List.map_append]; exact HO4.out), Lib.hid (HG4.out.ext (HU.out.ext (Ext.push _)) (Nat.le_refl _) (HXK.out.push' _))⟩)
      · rw [HHI.out, decide_eq_false hd1, decide_eq_false hd2, Bool.or_false, if_neg Bool.false_ne_true] at HFI
        clear hd1
        repeat' (first|(with_reducible first|refine zA ?_|refine zB fun K hK=>?_|refine zC fun K2 hK2=>?_|refine zD ?_|refine zE ?_|refine zF ?_|refine zG ?_|refine zH ?_|refine zI ?_|refine zM ?_|refine zN ?_|refine zO ?_|refine zP ?_|refine zQ ?_|refine zR ?_)|((with_reducible refine zU (hK _ _ ?_));clear hK K)|((with_reducible refine zV ?_ ?_ fun K1 K3 d hdst h1 h3=>?_);rfl;exact yB rfl;cases hdst;go_simp)|((with_reducible refine zW fun K1 K3 h1 h3=>?_);go_simp)|((first|refine h1 ?_|refine h3 ?_);clear h1 h3 K1 K3)|((first|refine zX (fun hb=>h1 ?_) (fun hb=>h3 ?_)|refine zX (fun hb=>h3 ?_) (fun hb=>h1 ?_))<;>(clear h1 h3 K1 K3;(try have hb2:=yC hb);(try have hb2:=yD hb);(try have hb2:=yE hb);(try have hb2:=yF hb);(try have hb2:=yG hb)))|(refine fun (K2:_→AHeap→Prop) hK2=>?_)|((with_reducible refine zY ?_ ?_);decide)|((with_reducible first|refine zZ ?_ (fun K hK=>?_)|refine yA ?_ (fun K hK=>?_));(focus go_simp;done);go_simp;refine hK _ _ ?_;clear hK K)|((with_reducible refine yH mixed rfl ?_ 20 fun K0 hK0=>?_);kernel_rfl)|(with_reducible first|exact yI|exact yJ|refine yK ?_|refine yL ?_|refine yM ?_)|((with_reducible first|refine yN ?_ ?_|refine yO ?_ ?_|refine yP ?_ ?_);rfl)|((with_reducible refine yQ ?_ ?_);rfl;refine hK0 _ _ ?_;clear hK0 K0)|((with_reducible refine yR ?_ ?_ ?_ ?_);rfl;rfl;rfl)|((with_reducible refine yS ?_ ?_ ?_ fun K2 hK2=>?_);rfl;rfl;exact yB rfl)|((with_reducible refine yT ?_ ?_ ?_ ?_ fun K1 K3 d hdst h1 h3=>?_);rfl;rfl;rfl;exact yB rfl;cases hdst;go_simp)|((with_reducible refine yU ?_ ?_ ?_ ?_ fun K1 K3 d hdst h1 h3=>?_);rfl;rfl;rfl;exact yB rfl;cases hdst;go_simp)|((with_reducible refine yV ?_ ?_ (fun K2 hK2=>?_) ?_);rfl;exact yB rfl)|((with_reducible refine yW ?_ ?_ ?_ ?_ (fun K2 hK2=>?_) ?_);rfl;exact yB rfl;rfl;(focus go_simp;done))|((with_reducible refine yX ?_ ?_ ?_ (fun K2 hK2=>?_) ?_);rfl;rfl;exact yB rfl)|((with_reducible refine yY ?_ ?_ (fun K2 hK2=>?_) ?_);rfl;rfl)|((with_reducible refine yZ ?_ ?_);(first|rfl|(dsimp only;decide +kernel)))|((with_reducible refine xA ?_ ?_);(focus go_simp;done))|(go_simp;(try go_bits);(try first | ((rw [aLookup_map false ma110 un3 ze3 HMK.out, HLK.out]); go_simp) | ((refine one_k el22 sz3 ze3 rfl (by decide) (by decide) rfl rfl ?_); go_simp) | ((refine append_k el22 sz3 by3 ze3 rfl (by decide) (HU.out.ext (Ext.push _)) (srcCells_new rfl) (by decide) rfl (by rw [List.all_append, oneV_ints]; rfl) HBIG.out (by rw [AHeap.n_push]; have := HB9.out; omega) fun v2 H4 ho4 hg4 => ?_); (have HO4 := Lib.hid ho4); (have HG4 := Lib.hid hg4); clear ho4 hg4; go_simp));(first|(refine hK2 _ _ ?_ ?_<;>clear hK2 K2)|(refine hK2 _ _ ?_;clear hK2 K2))))
        all_goals (refine Post.round_normal ⟨cids.length - (j + 1), by omega, j + 1, .slice ua2 un2 un2, by omega, rfl, (by first|go_simp<;>go_num|assumption), (by first|go_simp<;>go_num|assumption), (by first|go_simp<;>go_num|assumption), (by first|go_simp<;>go_num|assumption), (by first|go_simp<;>go_num|assumption), (by first|go_simp<;>go_num|assumption), (by first|go_simp<;>go_num|assumption), (by first|go_simp<;>go_num|assumption), (by first|go_simp<;>go_num|assumption), (by first|go_simp<;>go_num|assumption), (by first|go_simp<;>go_num|assumption), (by first|go_simp<;>go_num|assumption), Lib.hid (by rw [HFI.out, List.append_nil]; exact HU.out), HXK⟩)
    · have hji : ¬ (j : Int) < (cids.length : Int) := by omega
      have hje : j = cids.length := by omega
      subst hje
      rw [List.take_length] at HU
      obtain ⟨ua2, un2, rfl⟩ := own_slice HU.out
      have HXK3 := Lib.hid hXK3
      obtain ⟨vs, hvs, hvl, hvr⟩ := HR.out
      have HVS := Lib.hid (hvs.ext (HXS.out.trans HXK.out))
      have HVSO := Lib.hid hvs
      have HVL := Lib.hid hvl
      have HVR := Lib.hid hvr
      have hvo : vs.all oneV = true := by
        rw [List.all_eq_true]
        intro z hz
        obtain ⟨i, hi, rfl⟩ := List.mem_iff_getElem.1 hz
        obtain ⟨u, hu, huo⟩ := hvr i (by omega)
        rw [List.getElem?_eq_getElem hi] at hu
        cases hu
        obtain ⟨a, n, h⟩ := own_slice huo
        rw [h]; rfl
      have HVO := Lib.hid hvo
      have hbig : (vs.length + 1) * max 24 1 ≤ 1073741824 := by
        rw [hvl, List.length_map, List.length_take]; simp; omega
      have HBIG := Lib.hid hbig
      have HB9 : Hid (H3.n ≤ K.n) := Lib.hid hXK3.n
      clear hvs hvl hvr hvo hbig hjl hXK3
      repeat' (first|(with_reducible first|refine zA ?_|refine zB fun K hK=>?_|refine zC fun K2 hK2=>?_|refine zD ?_|refine zE ?_|refine zF ?_|refine zG ?_|refine zH ?_|refine zI ?_|refine zM ?_|refine zN ?_|refine zO ?_|refine zP ?_|refine zQ ?_|refine zR ?_)|((with_reducible refine zU (hK _ _ ?_));clear hK K)|((with_reducible refine zV ?_ ?_ fun K1 K3 d hdst h1 h3=>?_);rfl;exact yB rfl;cases hdst;go_simp)|((with_reducible refine zW fun K1 K3 h1 h3=>?_);go_simp)|((first|refine h1 ?_|refine h3 ?_);clear h1 h3 K1 K3)|((first|refine zX (fun hb=>h1 ?_) (fun hb=>h3 ?_)|refine zX (fun hb=>h3 ?_) (fun hb=>h1 ?_))<;>(clear h1 h3 K1 K3;(try have hb2:=yC hb);(try have hb2:=yD hb);(try have hb2:=yE hb);(try have hb2:=yF hb);(try have hb2:=yG hb)))|(refine fun (K2:_→AHeap→Prop) hK2=>?_)|((with_reducible refine zY ?_ ?_);decide)|((with_reducible first|refine zZ ?_ (fun K hK=>?_)|refine yA ?_ (fun K hK=>?_));(focus go_simp;done);go_simp;refine hK _ _ ?_;clear hK K)|(go_simp;(try go_bits);(try first | ((refine one_k el65 sz22 ze22 rfl (by decide) (by decide) rfl rfl ?_); go_simp) | ((refine append_k el65 sz22 by22 ze22 rfl (by decide) (HVS.out.ext (Ext.push _)) (srcCells_new rfl) (by decide) rfl (by rw [List.all_append, HVO.out]; rfl) HBIG.out (by rw [AHeap.n_push]; have := HB9.out; omega) fun v2 H4 ho4 hg4 => ?_); (have HO4 := Lib.hid ho4); (have HG4 := Lib.hid hg4); clear ho4 hg4; go_simp));refine hK2 _ _ ?_;clear hK2 K2))
      have hn4 : K.n + 1 ≤ H4.n := by have := HG4.out.1; rw [AHeap.n_push] at this; exact this
      have hk3 : ∀ u cells, Own K H3.n u 3 1 cells → Own H4 H3.n u 3 1 cells := fun u cells hu => own_at hu (by omega) fun i n hv hn => by
        have h9 := own_block hu hv hn
        rw [HG4.out.2 i (by rw [AHeap.n_push]; omega) (fun b m hv2 hm e => by
          have h8 := own_block HVS.out hv2 hm
          subst e
          rw [h9.2.2] at h8
          have h7 := h8.2.2
          injection h7 with _ h6
          exact absurd h6 (by decide)), AHeap.get_push_old h9.2.1]
      have hlk : ((l.take k).map (spreadOf t on)).length = k := by rw [List.length_map, List.length_take]; omega
      have hmap : (l.take (k + 1)).map (spreadOf t on) = (l.take k).map (spreadOf t on) ++ [cids.filter (hasIt t on cd)] := by rw [HT.out, List.map_append]; rfl
      refine Post.round_normal ⟨l.length - (k + 1), by omega, k + 1, v2, by omega, rfl, (by first|go_simp<;>go_num|assumption), (by first|go_simp<;>go_num|assumption), (by first|go_simp<;>go_num|assumption), (by first|go_simp<;>go_num|assumption), (by first|go_simp<;>go_num|assumption), (by first|go_simp<;>go_num|assumption), (by first|go_simp<;>go_num|assumption), Lib.hid ⟨vs ++ [.slice ua2 un2 un2], HO4.out, ?_, fun i hi => ?_⟩, Lib.hid (HG4.out.ext (HVS.out.ext (Ext.push _)) (Nat.le_refl _) (HXK3.out.push' _))⟩
      · rw [hmap, List.length_append, List.length_append, HVL.out]; rfl
      · have hvk : vs.length = k := HVL.out.trans hlk
        rw [hmap, List.length_append, hlk] at hi
        rcases Nat.lt_or_ge i k with h | h
        · obtain ⟨u, hu, huo⟩ := HVR.out i (by omega)
          refine ⟨u, by rw [List.getElem?_append_left (by omega)]; exact hu, ?_⟩
          simp only [hmap]
          rw [List.getElem_append_left (by omega)]
          exact hk3 _ _ (huo.ext (HXS.out.trans HXK.out))
        · have : i = k := by simp at hi; omega
          subst this
          refine ⟨_, by rw [List.getElem?_append_right (by omega), hvk, Nat.sub_self]; rfl, ?_⟩
          simp only [hmap]
          rw [List.getElem_append_right (by omega)]
          simp only [hlk, Nat.sub_self, List.getElem_cons_zero]
          exact hk3 _ _ (HU.out.mono (by have := HNS.out; have := HX.out.n; omega))
  · have hki : ¬ (k : Int) < (l.length : Int) := by omega
    have hke : k = l.length := by omega
    subst hke
    rw [List.take_length] at HR
    clear hlt
    repeat' (first|(with_reducible first|refine zA ?_|refine zB fun K hK=>?_|refine zC fun K2 hK2=>?_|refine zD ?_|refine zE ?_|refine zF ?_|refine zG ?_|refine zH ?_|refine zI ?_|refine zM ?_|refine zN ?_|refine zO ?_|refine zP ?_|refine zQ ?_|refine zR ?_)|((with_reducible refine zU (hK _ _ ?_));clear hK K)|((with_reducible refine zV ?_ ?_ fun K1 K3 d hdst h1 h3=>?_);rfl;exact yB rfl;cases hdst;go_simp)|((with_reducible refine zW fun K1 K3 h1 h3=>?_);go_simp)|((first|refine h1 ?_|refine h3 ?_);clear h1 h3 K1 K3)|((first|refine zX (fun hb=>h1 ?_) (fun hb=>h3 ?_)|refine zX (fun hb=>h3 ?_) (fun hb=>h1 ?_))<;>(clear h1 h3 K1 K3;(try have hb2:=yC hb);(try have hb2:=yD hb);(try have hb2:=yE hb);(try have hb2:=yF hb);(try have hb2:=yG hb)))|(refine fun (K2:_→AHeap→Prop) hK2=>?_)|((with_reducible refine zY ?_ ?_);decide)|((with_reducible first|refine zZ ?_ (fun K hK=>?_)|refine yA ?_ (fun K hK=>?_));(focus go_simp;done);go_simp;refine hK _ _ ?_;clear hK K)|(go_simp;(try go_bits);refine hK2 _ _ ?_;clear hK2 K2))
    have hx9 := HXH3.out.trans HX.out
    refine ⟨⟨_, 0, rfl, ⟨ra, rn, rn, rfl⟩, fun _ => ⟨HLI.out, ?_⟩⟩, hx9⟩
    obtain ⟨vs, h1, h2, h3⟩ := HR.out
    exact ⟨vs, h1.mono HXH3.out.n, h2, fun i h => by obtain ⟨u, hu, huo⟩ := h3 i h; exact ⟨u, hu, huo.mono HXH3.out.n⟩⟩
end Go.Proofs.Try
