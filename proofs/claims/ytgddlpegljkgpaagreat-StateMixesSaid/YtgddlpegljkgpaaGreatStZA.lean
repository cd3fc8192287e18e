/- Contracts of functions, walked. -/
import Derived.Test.YtgddlpegljkgpaaGreatStSF
import Derived.Test.YtgddlpegljkgpaaGreatStZW
import Derived.Test.YtgddlpegljkgpaaGreatStSN
import Derived.Test.YtgddlpegljkgpaaGreatAwB
set_option linter.all false
namespace Go.Proofs.Tryz
open Go Go.Am Go.RowKit Go.Co
set_option maxRecDepth 100000

def opOf (s : Sheet) (c : Copy) (i : Nat) (d : Int) : Bool := ins ((courseOf s c).at_ i) d
theorem opOf_in {s : Sheet} {c : Copy} (h : errCopy s c = 0) (i : Nat) (d : Int) (ho : opOf s c i d = true) : 0 ≤ d ∧ d ≤ 730 := ordS_ins _ (courseOf_ord h i) d ho
end Go.Proofs.Tryz
namespace Go.Proofs.Tryz
open Go Go.Am Go.RowKit Go.Co
set_option maxRecDepth 100000

def mixOp (l : List Sheet) (c : Copy) (k i : Nat) (d : Int) : Bool := match l[k]? with
  | some s => opOf s c i d
  | none => false
def mixNx (l : List Sheet) (c : Copy) (k i : Nat) (f : Int) : Int := match l[k]? with
  | some s => (courseOf s c).nx i f
  | none => 731
theorem mixNx_ok {l : List Sheet} {c : Copy} (he : errMix l c = 0) (k i : Nat) (f : Int) : NextOk (mixOp l c k i) f (mixNx l c k i f) := by
  unfold mixOp mixNx
  cases h : l[k]? with
  | none => exact .inl ⟨rfl, fun _ _ => rfl⟩
  | some s => exact (courseOf s c).nx_ok (courseOf_ord ((errMix_ok he).2.2 s (List.mem_of_getElem? h))) i f
theorem mixOp_in {l : List Sheet} {c : Copy} (he : errMix l c = 0) (k i : Nat) (d : Int) (h : mixOp l c k i d = true) : 0 ≤ d ∧ d ≤ 730 := by
  unfold mixOp at h
  cases h1 : l[k]? with
  | none => rw [h1] at h; cases h
  | some s => rw [h1] at h; exact opOf_in ((errMix_ok he).2.2 s (List.mem_of_getElem? h1)) i d h
def mixDay (l : List Sheet) (c : Copy) (r : Nat) : Int := dayOf l.length (mixNx l c) (c.words.length - 1) r (soonOf l.length (dayOf l.length (mixNx l c) (c.words.length - 1) r))
def mixFew (l : List Sheet) (c : Copy) : Option Nat := (List.range c.words.length).find? fun r => decide (mixDay l c r < 731)
def mixErr (l : List Sheet) (c : Copy) : Int := if errMix l c ≠ 0 then errMix l c else match mixFew l c with
  | none => 9
  | some _ => 0
def mixN (l : List Sheet) (c : Copy) : Int := if errMix l c ≠ 0 then 0 else match mixFew l c with
  | none => 0
  | some r => r
def mixFr (l : List Sheet) (c : Copy) : List Int := if errMix l c ≠ 0 then [] else match mixFew l c with
  | none => []
  | some r => (List.range c.words.length).map fun i => (trS l.length c.words.length (mixNx l c) r i : Int)
def mixDy (l : List Sheet) (c : Copy) : List Int := if errMix l c ≠ 0 then [] else match mixFew l c with
  | none => []
  | some r => (List.range c.words.length).map (trD l.length c.words.length (mixNx l c) r)
theorem mix_words {l : List Sheet} {c : Copy} (he : errMix l c = 0) : 1 ≤ c.words.length ∧ c.words.length ≤ 40 := by
  obtain ⟨h1, -, h2⟩ := errMix_ok he
  have h3 := h2 l[0] (List.getElem_mem _)
  obtain ⟨he0, hlen, -⟩ := errCopy_ok h3
  have h4 := win_iff.1 (err_ok he0).2.1
  omega
theorem find_some {n k : Nat} {p : Nat → Bool} (hk : k < n) (h : p k = true) (hn : ∀ j, j < k → p j = false) : (List.range n).find? p = some k := by
  rw [List.find?_eq_some_iff_append]
  refine ⟨h, List.range k, (List.range (n - k - 1)).map (fun x => k + 1 + x), ?_, fun j hj => by rw [hn j (by simpa using hj)]; rfl⟩
  refine List.ext_getElem (by simp; omega) fun i h1 h2 => ?_
  simp only [List.getElem_range, List.getElem_append, List.length_range]
  split
  · rfl
  · rename_i h3
    rcases Nat.eq_or_lt_of_le (Nat.le_of_not_lt h3) with h4 | h4
    · simp [← h4]
    · rw [List.getElem_cons, dif_neg (by omega)]
      simp; omega
theorem find_none {n : Nat} {p : Nat → Bool} (hn : ∀ j, j < n → p j = false) : (List.range n).find? p = none := by
  rw [List.find?_eq_none]
  intro j hj
  rw [hn j (by simpa using hj)]; simp
set_option maxHeartbeats 8000000 in
theorem mixed_e {loops : List (Nat × LInfo)} {H : AHeap} {v cv : Value} {l : List Sheet} {c : Copy} (hv : SheetsV H v l) (hc : CopyV H cv c) : CallS Tryz.prog loops 28 [v, cv] H fun r H' => (∃ fv dv, r = .tuple #[fv, dv, .int .i64 (mixN l c), .int .i64 (mixErr l c)] ∧ Ints H' fv (mixFr l c) ∧ Ints H' dv (mixDy l c)) ∧ Ext H H' := by
  obtain ⟨hlen, a, ac, rfl⟩ := hv.slice
  have HV := Lib.hid hv
  have HC := Lib.hid hc
  obtain ⟨cv, rfl, hcw⟩ := hc
  obtain ⟨hcl, ca, cc, rfl⟩ := hcw.slice
  clear hv hcw
  have hi : ∀ G : AHeap, Ints G (.slice none 0 0) [] := fun G => ints_of_own (show Own G 0 (.slice none 0 0) 3 1 (([] : List Int).map (Value.int .i64)) from Own.nil) (by simp)
  have HI := Lib.hid hi
  clear hi
  have HCK := Lib.hid (fun (loops : List (Nat × LInfo)) (G : AHeap) (hx : Ext H G) => checkMix_s (loops := loops) (HV.out.ext hx) (HC.out.ext hx))
  refine CallS.enter' Tryz.func28 rfl Tryz.ntmps28 (by simp) fun f hd hf => ?_
  have f0 := hf 0
  have f1 := hf 1
  simp at f0 f1
  clear hf
  by_cases he : errMix l c = 0
  · have HE := Lib.hid he
    obtain ⟨hn1, hn40⟩ := mix_words he
    obtain ⟨hl1, hl8, -⟩ := errMix_ok he
    rw [he] at HCK
    have HCO := Lib.hid (fun (loops : List (Nat × LInfo)) (G : AHeap) (hx : Ext H G) => coursesOf_e (loops := loops) (HV.out.ext hx) (HC.out.ext hx) HE.out)
    have HRO : Hid (∀ (loops : List (Nat × LInfo)) (G : AHeap) (xv lv : Value) (r : Nat), CoursesV G xv (l.map fun s => courseOf s c) → LessIs l.length c.words.length (mixNx l c) G r lv → CallS Tryz.prog loops 69 [xv, lv] G fun v H' => ∃ p, v = .pointer (some ⟨p, 0, none⟩) ∧ RoundIs l.length c.words.length (mixNx l c) c.words.length H' r p ∧ Ext G H') := Lib.hid (fun loops G xv lv r hx hl => roundOf_e hx (by simp) hl1 hl8 hn1 hn40 (fun x hx => by
        obtain ⟨s, -, rfl⟩ := List.mem_map.1 hx
        exact courseOf_len s c) (fun k h i f => by
        have hk : k < l.length := by simpa using h
        simp only [mixNx, List.getElem?_eq_getElem hk, List.getElem_map]; rfl) hl)
    have HSO : Hid (∀ (loops : List (Nat × LInfo)) (G : AHeap) (r p : Nat), RoundIs l.length c.words.length (mixNx l c) c.words.length G r p → CallS Tryz.prog loops 70 [.pointer (some ⟨p, 0, none⟩), .int .i64 ((c.words.length : Int) - 1)] G fun v H' => v = .int .i64 (soonOf l.length (dayOf l.length (mixNx l c) (c.words.length - 1) r) : Nat) ∧ H' = G) := Lib.hid (fun loops G r p h => by
      obtain ⟨lv, hat⟩ := h.at_
      have h9 := soonest_s (loops := loops) (i := c.words.length - 1) hat (by omega) hl1 hl8 hn40
      rw [show ((c.words.length - 1 : Nat) : Int) = (c.words.length : Int) - 1 by omega] at h9
      exact h9)
    have HTR : Hid (∀ (loops : List (Nat × LInfo)) (G : AHeap) (r p : Nat), RoundIs l.length c.words.length (mixNx l c) c.words.length G r p → CallS Tryz.prog loops 71 [.pointer (some ⟨p, 0, none⟩)] G fun v H' => (∃ fa fn dv da dn, v = .tuple #[.slice fa fn fn, dv] ∧ dv = .slice da dn dn ∧ Ints H' (.slice fa fn fn) ((List.range c.words.length).map fun i => (trS l.length c.words.length (mixNx l c) r i : Int)) ∧ Ints H' dv ((List.range c.words.length).map (trD l.length c.words.length (mixNx l c) r))) ∧ Ext G H') := Lib.hid (fun loops G r p h => trace_e h hl1 hl8 hn1 hn40)
    have HDY : Hid (∀ r, mixDay l c r = dayOf l.length (mixNx l c) (c.words.length - 1) r (soonOf l.length (dayOf l.length (mixNx l c) (c.words.length - 1) r))) := Lib.hid (fun _ => rfl)
    have HSL : Hid (∀ r, soonOf l.length (dayOf l.length (mixNx l c) (c.words.length - 1) r) < l.length) := Lib.hid (fun _ => (soonOf_ok hl1 _).1)
    clear he hl1 hl8
    repeat' (first|(with_reducible first|refine zA ?_|refine zB fun K hK=>?_|refine zC fun K2 hK2=>?_|refine zD ?_|refine zE ?_|refine zF ?_|refine zG ?_|refine zH ?_|refine zI ?_|refine zM ?_|refine zN ?_|refine zO ?_|refine zP ?_|refine zQ ?_|refine zR ?_)|((with_reducible refine zU (hK _ _ ?_));clear hK K)|((with_reducible refine zV ?_ ?_ fun K1 K3 d hdst h1 h3=>?_);rfl;exact yB rfl;cases hdst;go_simp)|((with_reducible refine zW fun K1 K3 h1 h3=>?_);go_simp)|((first|refine h1 ?_|refine h3 ?_);clear h1 h3 K1 K3)|((first|refine zX (fun hb=>h1 ?_) (fun hb=>h3 ?_)|refine zX (fun hb=>h3 ?_) (fun hb=>h1 ?_))<;>(clear h1 h3 K1 K3;(try have hb2:=yC hb);(try have hb2:=yD hb);(try have hb2:=yE hb);(try have hb2:=yF hb);(try have hb2:=yG hb)))|(refine fun (K2:_→AHeap→Prop) hK2=>?_)|((with_reducible refine zY ?_ ?_);decide)|((with_reducible first|refine zZ ?_ (fun K hK=>?_)|refine yA ?_ (fun K hK=>?_));(focus go_simp;done);go_simp;refine hK _ _ ?_;clear hK K)|(go_simp;(try go_bits);(try first |((with_reducible show CallS _ _ _ _ _ _);first|(refine CallS.mono (HCK.out _ _ (Ext.push _)) ?_; rintro _ _ ⟨rfl, h9⟩; rw [h9]; clear h9; go_simp)|(refine CallS.mono (HCO.out _ _ (Ext.push _)) ?_; rintro xv H1 ⟨hxv, hx⟩; (obtain ⟨xb, hxe, -, -⟩ := id hxv); rw [List.length_map] at hxe; subst hxe; (have HXV := Lib.hid hxv); (have HX := Lib.hid hx); (have hc0 : cellAt H1 H.n 0 = some (.slice ca c.words.length cc) := by rw [hx.cellAt (by rw [AHeap.n_push]; omega)]; simp [cellAt, AHeap.get_push_new]); (have hlt1 : H.n < H1.n := by have := hx.n; simp only [AHeap.n_push] at this; omega); clear hxv hx; go_simp)));refine hK2 _ _ ?_;clear hK2 K2))
    have hn0 : 0 ≤ (c.words.length : Int) - 1 := by omega
    have hn2 : (c.words.length : Int) - 1 < (c.words.length : Int) := by omega
    have hn3 : 1 ≤ (c.words.length : Int) := by omega
    have hn4 : ((c.words.length : Int) - 1).toNat = c.words.length - 1 := by omega
    have HX1 := Lib.hid ((Ext.push (H := H) (.row [Value.slice ca c.words.length cc, .int .i64 c.beg, .int .i64 c.fin, .int .i64 c.per] 27)).trans HX.out)
    refine CodeS.loop (fun m f H' => ∃ (k : Nat) (la : Option Addr), k ≤ c.words.length ∧ m = c.words.length - k ∧ f.tmp 31 = .int .i64 k ∧ f.tmp 30 = .int .i64 c.words.length ∧ f.tmp 11 = .pointer la ∧ f.tmp 9 = .slice (some ⟨xb, 0, none⟩) l.length l.length ∧ f.tmp 10 = .int .i64 ((c.words.length : Int) - 1) ∧ f.defers = [] ∧ Hid (LessIs l.length c.words.length (mixNx l c) H' k (.pointer la)) ∧ Hid (CoursesV H' (.slice (some ⟨xb, 0, none⟩) l.length l.length) (l.map fun s => courseOf s c)) ∧ Hid (Ext H H') ∧ Hid (∀ j, j < k → ¬ mixDay l c j < 731)) c.words.length ?_ ?_
    · exact ⟨0, none, by omega, by omega, (by first|go_simp<;>go_num|assumption), (by first|go_simp<;>go_num|assumption), (by first|go_simp<;>go_num|assumption), (by first|go_simp<;>go_num|assumption), (by first|go_simp<;>go_num|assumption), (by first|go_simp<;>go_num|assumption), Lib.hid rfl, HXV, HX1, Lib.hid (fun j hj => by omega)⟩
    clear f0 f1 hd f HX HXV HX1 hc0 hlt1
    rintro m f H2 ⟨k, la, hk, rfl, f31, f30, f11, f9, f10, hd, HLS, HXV, HX, HNO⟩
    by_cases hlt : k < c.words.length
    · repeat' (first|(with_reducible first|refine zA ?_|refine zB fun K hK=>?_|refine zC fun K2 hK2=>?_|refine zD ?_|refine zE ?_|refine zF ?_|refine zG ?_|refine zH ?_|refine zI ?_|refine zM ?_|refine zN ?_|refine zO ?_|refine zP ?_|refine zQ ?_|refine zR ?_)|((with_reducible refine zU (hK _ _ ?_));clear hK K)|((with_reducible refine zV ?_ ?_ fun K1 K3 d hdst h1 h3=>?_);rfl;exact yB rfl;cases hdst;go_simp)|((with_reducible refine zW fun K1 K3 h1 h3=>?_);go_simp)|((first|refine h1 ?_|refine h3 ?_);clear h1 h3 K1 K3)|((first|refine zX (fun hb=>h1 ?_) (fun hb=>h3 ?_)|refine zX (fun hb=>h3 ?_) (fun hb=>h1 ?_))<;>(clear h1 h3 K1 K3;(try have hb2:=yC hb);(try have hb2:=yD hb);(try have hb2:=yE hb);(try have hb2:=yF hb);(try have hb2:=yG hb)))|(refine fun (K2:_→AHeap→Prop) hK2=>?_)|((with_reducible refine zY ?_ ?_);decide)|((with_reducible first|refine zZ ?_ (fun K hK=>?_)|refine yA ?_ (fun K hK=>?_));(focus go_simp;done);go_simp;refine hK _ _ ?_;clear hK K)|((with_reducible refine yH mixed rfl ?_ 20 fun K0 hK0=>?_);kernel_rfl)|(with_reducible first|exact yI|exact yJ|refine yK ?_|refine yL ?_|refine yM ?_)|((with_reducible first|refine yN ?_ ?_|refine yO ?_ ?_|refine yP ?_ ?_);rfl)|((with_reducible refine yQ ?_ ?_);rfl;refine hK0 _ _ ?_;clear hK0 K0)|((with_reducible refine yR ?_ ?_ ?_ ?_);rfl;rfl;rfl)|((with_reducible refine yS ?_ ?_ ?_ fun K2 hK2=>?_);rfl;rfl;exact yB rfl)|((with_reducible refine yT ?_ ?_ ?_ ?_ fun K1 K3 d hdst h1 h3=>?_);rfl;rfl;rfl;exact yB rfl;cases hdst;go_simp)|((with_reducible refine yU ?_ ?_ ?_ ?_ fun K1 K3 d hdst h1 h3=>?_);rfl;rfl;rfl;exact yB rfl;cases hdst;go_simp)|((with_reducible refine yV ?_ ?_ (fun K2 hK2=>?_) ?_);rfl;exact yB rfl)|((with_reducible refine yW ?_ ?_ ?_ ?_ (fun K2 hK2=>?_) ?_);rfl;exact yB rfl;rfl;(focus go_simp;done))|((with_reducible refine yX ?_ ?_ ?_ (fun K2 hK2=>?_) ?_);rfl;rfl;exact yB rfl)|((with_reducible refine yY ?_ ?_ (fun K2 hK2=>?_) ?_);rfl;rfl)|((with_reducible refine yZ ?_ ?_);(first|rfl|(dsimp only;decide +kernel)))|((with_reducible refine xA ?_ ?_);(focus go_simp;done))|(go_simp;(try go_bits);(try first |((with_reducible show CallS _ _ _ _ _ _);first|(refine CallS.mono (HRO.out _ _ _ _ k HXV.out HLS.out) ?_; rintro _ H3 ⟨p, rfl, hri, hx⟩; (have HRI := Lib.hid hri); (have HX3 := Lib.hid (HX.out.trans hx)); (have HXV3 := Lib.hid (HXV.out.ext hx)); (obtain ⟨lv2, hp2, q2, vs2, hg2, hq2, hgq2, hvl2, hmn2, hrow2⟩ := hri.at_); (obtain ⟨b2, hb2, hbn2, hgb2⟩ := hrow2 (c.words.length - 1) (by omega)); (have hd1 : cellAt H3 p 0 = some (.slice (some ⟨q2, 0, none⟩) c.words.length c.words.length) := by simp [cellAt, hg2]); (have hd2 : cellAt H3 q2 (c.words.length - 1) = some (.slice (some ⟨b2, 0, none⟩) l.length l.length) := by simp only [cellAt, hgq2]; exact hb2); (have hd3 : cellAt H3 b2 (soonOf l.length (dayOf l.length (mixNx l c) (c.words.length - 1) k)) = some (.int .i64 (mixDay l c k)) := by rw [HDY.out]; simp only [cellAt, hgb2]; exact rowD_get (HSL.out k)); (have hsl : ((soonOf l.length (dayOf l.length (mixNx l c) (c.words.length - 1) k) : Nat) : Int) < (l.length : Int) := by have := HSL.out k; omega); clear hri hx hg2 hgq2 hvl2 hmn2 hrow2 hb2 hgb2 hp2 hq2 hbn2; go_simp)|(refine CallS.mono (HSO.out _ _ _ _ HRI.out) ?_; rintro _ _ ⟨rfl, h9⟩; rw [h9]; clear h9; go_simp)|(refine CallS.mono (HTR.out _ _ _ _ HRI.out) ?_; rintro _ H4 ⟨⟨fa, fn, dv, da, dn, rfl, rfl, hfi, hdi⟩, hx⟩; (have HFI := Lib.hid hfi); (have HDI := Lib.hid hdi); (have HX4 := Lib.hid (HX3.out.trans hx)); clear hfi hdi hx; go_simp)));(first|(refine hK2 _ _ ?_ ?_<;>clear hK2 K2)|(refine hK2 _ _ ?_;clear hK2 K2))))
      · have hb2 : mixDay l c k < 731 := by simpa using hb
        have hf : mixFew l c = some k := find_some hlt (by simpa using hb2) (fun j hj => by simpa using HNO.out j hj)
        refine ⟨⟨.slice fa fn fn, .slice da dn dn, ?_, ?_, ?_⟩, HX4.out⟩
        · rw [mixN, mixErr, HE.out, hf]; simp
        · rw [mixFr, HE.out, hf]; simpa using HFI.out
        · rw [mixDy, HE.out, hf]; simpa using HDI.out
      · have hb2 : ¬ mixDay l c k < 731 := by simpa using hb
        exact Post.round_normal ⟨c.words.length - (k + 1), by omega, k + 1, _, by omega, rfl, (by first|go_simp<;>go_num|assumption), (by first|go_simp<;>go_num|assumption), (by first|go_simp<;>go_num|assumption), (by first|go_simp<;>go_num|assumption), (by first|go_simp<;>go_num|assumption), (by first|go_simp<;>go_num|assumption), Lib.hid ⟨p, rfl, HRI.out⟩, HXV3, HX3, Lib.hid (fun j hj => by
          rcases Nat.lt_or_ge j k with h | h
          · exact HNO.out j h
          · rw [show j = k by omega]; exact hb2)⟩
    · have hke : k = c.words.length := by omega
      subst hke
      have hf : mixFew l c = none := find_none (fun j hj => by simpa using HNO.out j hj)
      repeat' (first|(with_reducible first|refine zA ?_|refine zB fun K hK=>?_|refine zC fun K2 hK2=>?_|refine zD ?_|refine zE ?_|refine zF ?_|refine zG ?_|refine zH ?_|refine zI ?_|refine zM ?_|refine zN ?_|refine zO ?_|refine zP ?_|refine zQ ?_|refine zR ?_)|((with_reducible refine zU (hK _ _ ?_));clear hK K)|((with_reducible refine zV ?_ ?_ fun K1 K3 d hdst h1 h3=>?_);rfl;exact yB rfl;cases hdst;go_simp)|((with_reducible refine zW fun K1 K3 h1 h3=>?_);go_simp)|((first|refine h1 ?_|refine h3 ?_);clear h1 h3 K1 K3)|((first|refine zX (fun hb=>h1 ?_) (fun hb=>h3 ?_)|refine zX (fun hb=>h3 ?_) (fun hb=>h1 ?_))<;>(clear h1 h3 K1 K3;(try have hb2:=yC hb);(try have hb2:=yD hb);(try have hb2:=yE hb);(try have hb2:=yF hb);(try have hb2:=yG hb)))|(refine fun (K2:_→AHeap→Prop) hK2=>?_)|((with_reducible refine zY ?_ ?_);decide)|((with_reducible first|refine zZ ?_ (fun K hK=>?_)|refine yA ?_ (fun K hK=>?_));(focus go_simp;done);go_simp;refine hK _ _ ?_;clear hK K)|(go_simp;(try go_bits);refine hK2 _ _ ?_;clear hK2 K2))
      refine ⟨⟨.slice none 0 0, .slice none 0 0, ?_, ?_, ?_⟩, HX.out⟩
      · rw [mixN, mixErr, HE.out, hf]; simp
      · rw [mixFr, HE.out, hf]; simpa using HI.out _
      · rw [mixDy, HE.out, hf]; simpa using HI.out _
  · have heb : (errMix l c != 0) = true := by simpa using he
    repeat' (first|(with_reducible first|refine zA ?_|refine zB fun K hK=>?_|refine zC fun K2 hK2=>?_|refine zD ?_|refine zE ?_|refine zF ?_|refine zG ?_|refine zH ?_|refine zI ?_|refine zM ?_|refine zN ?_|refine zO ?_|refine zP ?_|refine zQ ?_|refine zR ?_)|((with_reducible refine zU (hK _ _ ?_));clear hK K)|((with_reducible refine zV ?_ ?_ fun K1 K3 d hdst h1 h3=>?_);rfl;exact yB rfl;cases hdst;go_simp)|((with_reducible refine zW fun K1 K3 h1 h3=>?_);go_simp)|((first|refine h1 ?_|refine h3 ?_);clear h1 h3 K1 K3)|((first|refine zX (fun hb=>h1 ?_) (fun hb=>h3 ?_)|refine zX (fun hb=>h3 ?_) (fun hb=>h1 ?_))<;>(clear h1 h3 K1 K3;(try have hb2:=yC hb);(try have hb2:=yD hb);(try have hb2:=yE hb);(try have hb2:=yF hb);(try have hb2:=yG hb)))|(refine fun (K2:_→AHeap→Prop) hK2=>?_)|((with_reducible refine zY ?_ ?_);decide)|((with_reducible first|refine zZ ?_ (fun K hK=>?_)|refine yA ?_ (fun K hK=>?_));(focus go_simp;done);go_simp;refine hK _ _ ?_;clear hK K)|(go_simp;(try go_bits);(try first | ((with_reducible show CallS _ _ _ _ _ _);refine CallS.mono (HCK.out _ _ (Ext.push _)) ?_; rintro _ _ ⟨rfl, h9⟩; rw [h9]; clear h9; go_simp));refine hK2 _ _ ?_;clear hK2 K2))
    refine ⟨⟨.slice none 0 0, .slice none 0 0, ?_, ?_, ?_⟩, Ext.push _⟩
    · rw [mixN, mixErr, if_pos he, if_pos he]
    · rw [mixFr, if_pos he]; exact HI.out _
    · rw [mixDy, if_pos he]; exact HI.out _
end Go.Proofs.Tryz
namespace Go.Proofs.Tryz
open Go Go.Am Go.RowKit Go.Co
set_option maxRecDepth 100000

def chkGo (op : Nat → Nat → Int → Bool) (fr dy : List Int) : Nat → Nat → Int → Int × Int
  | 0, _, n => (n, 0)
  | r + 1, i, n => if (op (fr.getD i 0).toNat i (dy.getD i 0) && decide (0 < i → dy.getD (i - 1) 0 ≤ dy.getD i 0)) = true then chkGo op fr dy r (i + 1) (if 0 < i ∧ fr.getD i 0 ≠ fr.getD (i - 1) 0 then n + 1 else n) else (0, 8)
theorem chkGo_step {op : Nat → Nat → Int → Bool} {fr dy : List Int} {L k : Nat} {n : Int} (h : k < L) : chkGo op fr dy (L - k) k n = if (op (fr.getD k 0).toNat k (dy.getD k 0) && decide (0 < k → dy.getD (k - 1) 0 ≤ dy.getD k 0)) = true then chkGo op fr dy (L - (k + 1)) (k + 1) (if 0 < k ∧ fr.getD k 0 ≠ fr.getD (k - 1) 0 then n + 1 else n) else (0, 8) := by
  rw [show L - k = (L - (k + 1)) + 1 by omega, chkGo]
def frOk (N : Nat) (fr : List Int) : Prop := ∀ j, j < fr.length → win 0 ((N : Int) - 1) (fr.getD j 0) = true
instance (N : Nat) (fr : List Int) : Decidable (frOk N fr) := by unfold frOk; infer_instance
def chkMix (l : List Sheet) (c : Copy) (fr dy : List Int) : Int × Int := if errMix l c ≠ 0 then (0, errMix l c) else if ¬ (fr.length = c.words.length ∧ dy.length = c.words.length) then (0, 1) else if frOk l.length fr then chkGo (mixOp l c) fr dy fr.length 0 0 else (0, 1)
theorem CoursesV.at_ {H : AHeap} {b m : Nat} {xs : List Course} (h : CoursesV H (.slice (some ⟨b, 0, none⟩) m m) xs) {k : Nat} (hk : k < xs.length) : b < H.n ∧ ∃ ov, cellsAt H b (k * 2) 2 = some [ov, .int .i64 (xs[k]).per] ∧ (∃ a n, ov = .slice a n n ∨ ∃ c, ov = .slice a n c) ∧ CourseV H (.agg #[ov, .int .i64 (xs[k]).per]) xs[k] := by
  obtain ⟨b', h1, h2, h3⟩ := h
  cases h1
  obtain ⟨u, h4, -, h5⟩ := h3 k hk
  refine ⟨h2, u, h4, ?_, h5⟩
  obtain ⟨ov, h6, h7⟩ := h5
  cases h6
  obtain ⟨-, a, n, rfl⟩ := h7.slice
  exact ⟨a, _, .inr ⟨n, rfl⟩⟩

set_option maxHeartbeats 8000000 in
theorem checkMixed_s {loops : List (Nat × LInfo)} {H : AHeap} {v cv fv dv : Value} {l : List Sheet} {c : Copy} {fr dy : List Int} (hv : SheetsV H v l) (hc : CopyV H cv c) (hf : Ints H fv fr) (hdv : Ints H dv dy) : CallS Tryz.prog loops 32 [v, cv, fv, dv] H fun r H' => r = .tuple #[.int .i64 (chkMix l c fr dy).1, .int .i64 (chkMix l c fr dy).2] ∧ H' = H := by
  refine CallS.forget (R := fun r => r = .tuple #[.int .i64 (chkMix l c fr dy).1, .int .i64 (chkMix l c fr dy).2]) (by rintro v rfl; rfl) ?_
  obtain ⟨hlen, a, ac, rfl⟩ := hv.slice
  have HV := Lib.hid hv
  have HC := Lib.hid hc
  have HF := Lib.hid hf
  have HD := Lib.hid hdv
  obtain ⟨cv, rfl, hcw⟩ := hc
  obtain ⟨hcl, ca, cc, rfl⟩ := hcw.slice
  obtain ⟨hfl, fa, fc, rfl⟩ := hf.slice
  obtain ⟨hdl, da, dc, rfl⟩ := hdv.slice
  clear hv hcw hf hdv
  have HCK := Lib.hid (fun (loops : List (Nat × LInfo)) (G : AHeap) (hx : Ext H G) => checkMix_s (loops := loops) (HV.out.ext hx) (HC.out.ext hx))
  have HR : Hid (chkMix l c fr dy = if errMix l c ≠ 0 then (0, errMix l c) else if ¬ (fr.length = c.words.length ∧ dy.length = c.words.length) then (0, 1) else if frOk l.length fr then chkGo (mixOp l c) fr dy fr.length 0 0 else (0, 1)) := Lib.hid rfl
  generalize chkMix l c fr dy = res at HR
  refine CallS.enter' Tryz.func32 rfl Tryz.ntmps32 (by simp) fun f hd hf => ?_
  have f0 := hf 0
  have f1 := hf 1
  have f2 := hf 2
  have f3 := hf 3
  simp at f0 f1 f2 f3
  clear hf
  by_cases he : errMix l c = 0
  · have HE := Lib.hid he
    have heb : (errMix l c != 0) = false := by simpa using he
    rw [he] at HCK
    obtain ⟨hn1, hn40⟩ := mix_words he
    obtain ⟨hl1, hl8, -⟩ := errMix_ok he
    by_cases hlf : fr.length = c.words.length
    · by_cases hld : dy.length = c.words.length
      · have HR2 : Hid (res = if frOk l.length fr then chkGo (mixOp l c) fr dy fr.length 0 0 else (0, 1)) := Lib.hid (by rw [HR.out, if_neg (by simp [he]), if_neg (by simp [hlf, hld])])
        have hb1 : ((fr.length : Int) != (c.words.length : Int)) = false := by simp [hlf]
        have hb2 : ((dy.length : Int) != (c.words.length : Int)) = false := by simp [hld]
        have HLF := Lib.hid hlf
        have HLD := Lib.hid hld
        have hL8 := Lib.hid hl8
        have hL1 := Lib.hid hl1
        have hN40 := Lib.hid hn40
        clear hlf hld he heb HR hn1 hn40 hl1 hl8
        repeat' (first|(with_reducible first|refine zA ?_|refine zB fun K hK=>?_|refine zC fun K2 hK2=>?_|refine zD ?_|refine zE ?_|refine zF ?_|refine zG ?_|refine zH ?_|refine zI ?_|refine zM ?_|refine zN ?_|refine zO ?_|refine zP ?_|refine zQ ?_|refine zR ?_)|((with_reducible refine zU (hK _ _ ?_));clear hK K)|((with_reducible refine zV ?_ ?_ fun K1 K3 d hdst h1 h3=>?_);rfl;exact yB rfl;cases hdst;go_simp)|((with_reducible refine zW fun K1 K3 h1 h3=>?_);go_simp)|((first|refine h1 ?_|refine h3 ?_);clear h1 h3 K1 K3)|((first|refine zX (fun hb=>h1 ?_) (fun hb=>h3 ?_)|refine zX (fun hb=>h3 ?_) (fun hb=>h1 ?_))<;>(clear h1 h3 K1 K3;(try have hb2:=yC hb);(try have hb2:=yD hb);(try have hb2:=yE hb);(try have hb2:=yF hb);(try have hb2:=yG hb)))|(refine fun (K2:_→AHeap→Prop) hK2=>?_)|((with_reducible refine zY ?_ ?_);decide)|((with_reducible first|refine zZ ?_ (fun K hK=>?_)|refine yA ?_ (fun K hK=>?_));(focus go_simp;done);go_simp;refine hK _ _ ?_;clear hK K)|(go_simp;(try go_bits);(try first | ((with_reducible show CallS _ _ _ _ _ _);refine CallS.mono (HCK.out _ _ (Ext.push _)) ?_; rintro _ _ ⟨rfl, h9⟩; rw [h9]; clear h9; go_simp));refine hK2 _ _ ?_;clear hK2 K2))
        refine CodeS.loop (fun m f H' => ∃ k : Nat, k ≤ fr.length ∧ m = fr.length - k ∧ f.tmp 39 = .int .i64 k ∧ f.tmp 38 = .int .i64 fr.length ∧ f.tmp 37 = .slice fa fr.length fc ∧ f.tmp 0 = .slice a l.length ac ∧ f.tmp 2 = .slice fa fr.length fc ∧ f.tmp 3 = .slice da dy.length dc ∧ f.tmp 5 = .pointer (some ⟨H.n, 0, none⟩) ∧ f.defers = [] ∧ Hid (∀ j, j < k → win 0 ((l.length : Int) - 1) (fr.getD j 0) = true) ∧ H' = H.push (.row [Value.slice ca c.words.length cc, .int .i64 c.beg, .int .i64 c.fin, .int .i64 c.per] 27)) fr.length ?_ ?_
        · exact ⟨0, by omega, by omega, (by first|go_simp<;>go_num|assumption), (by first|go_simp<;>go_num|assumption), (by first|go_simp<;>go_num|assumption), (by first|go_simp<;>go_num|assumption), (by first|go_simp<;>go_num|assumption), (by first|go_simp<;>go_num|assumption), (by first|go_simp<;>go_num|assumption), (by first|go_simp<;>go_num|assumption), Lib.hid (fun j hj => by omega), rfl⟩
        clear f0 f1 f2 f3 hd f hb1 hb2
        rintro m f _ ⟨k, hk, rfl, f39, f38, f37, f0, f2, f3, f5, hd, HW, rfl⟩
        by_cases hlt : k < fr.length
        · obtain ⟨b, o, sp, rfl, hb, hx⟩ := HF.out.at_ hlt
          have hg : fr.getD k 0 = fr[k] := by simp [List.getD_eq_getElem?_getD, hlt]
          have HG : Hid (fr.getD k 0 = fr[k]) := Lib.hid hg
          generalize fr[k] = d at hx HG
          generalize hww : win 0 ((l.length : Int) - 1) d = ww
          have HWW := Lib.hid hww
          have hki : (k : Int) < (fr.length : Int) := by omega
          have hwr : IntKind.i64.wrap ((l.length : Int) - 1) = (l.length : Int) - 1 := by rw [IntKind.wrap_i64]; omega
          have HK := Lib.hid hlt
          clear hg hww
          cases ww
          · repeat' (first|(with_reducible first|refine zA ?_|refine zB fun K hK=>?_|refine zC fun K2 hK2=>?_|refine zD ?_|refine zE ?_|refine zF ?_|refine zG ?_|refine zH ?_|refine zI ?_|refine zM ?_|refine zN ?_|refine zO ?_|refine zP ?_|refine zQ ?_|refine zR ?_)|((with_reducible refine zU (hK _ _ ?_));clear hK K)|((with_reducible refine zV ?_ ?_ fun K1 K3 d hdst h1 h3=>?_);rfl;exact yB rfl;cases hdst;go_simp)|((with_reducible refine zW fun K1 K3 h1 h3=>?_);go_simp)|((first|refine h1 ?_|refine h3 ?_);clear h1 h3 K1 K3)|((first|refine zX (fun hb=>h1 ?_) (fun hb=>h3 ?_)|refine zX (fun hb=>h3 ?_) (fun hb=>h1 ?_))<;>(clear h1 h3 K1 K3;(try have hb2:=yC hb);(try have hb2:=yD hb);(try have hb2:=yE hb);(try have hb2:=yF hb);(try have hb2:=yG hb)))|(refine fun (K2:_→AHeap→Prop) hK2=>?_)|((with_reducible refine zY ?_ ?_);decide)|((with_reducible first|refine zZ ?_ (fun K hK=>?_)|refine yA ?_ (fun K hK=>?_));(focus go_simp;done);go_simp;refine hK _ _ ?_;clear hK K)|(go_simp;(try go_bits);(try first | ((with_reducible show CallS _ _ _ _ _ _);refine CallS.mono (within_s (n := d) (lo := 0) (hi := (l.length : Int) - 1)) ?_; rintro _ _ ⟨rfl, h9⟩; rw [h9, HWW.out]; clear h9; go_simp));refine hK2 _ _ ?_;clear hK2 K2))
            refine ⟨?_, Ext.push _⟩
            rw [HR2.out, if_neg (fun h => by have := h k HK.out; rw [HG.out, HWW.out] at this; cases this)]
          · repeat' (first|(with_reducible first|refine zA ?_|refine zB fun K hK=>?_|refine zC fun K2 hK2=>?_|refine zD ?_|refine zE ?_|refine zF ?_|refine zG ?_|refine zH ?_|refine zI ?_|refine zM ?_|refine zN ?_|refine zO ?_|refine zP ?_|refine zQ ?_|refine zR ?_)|((with_reducible refine zU (hK _ _ ?_));clear hK K)|((with_reducible refine zV ?_ ?_ fun K1 K3 d hdst h1 h3=>?_);rfl;exact yB rfl;cases hdst;go_simp)|((with_reducible refine zW fun K1 K3 h1 h3=>?_);go_simp)|((first|refine h1 ?_|refine h3 ?_);clear h1 h3 K1 K3)|((first|refine zX (fun hb=>h1 ?_) (fun hb=>h3 ?_)|refine zX (fun hb=>h3 ?_) (fun hb=>h1 ?_))<;>(clear h1 h3 K1 K3;(try have hb2:=yC hb);(try have hb2:=yD hb);(try have hb2:=yE hb);(try have hb2:=yF hb);(try have hb2:=yG hb)))|(refine fun (K2:_→AHeap→Prop) hK2=>?_)|((with_reducible refine zY ?_ ?_);decide)|((with_reducible first|refine zZ ?_ (fun K hK=>?_)|refine yA ?_ (fun K hK=>?_));(focus go_simp;done);go_simp;refine hK _ _ ?_;clear hK K)|(go_simp;(try go_bits);(try first | ((with_reducible show CallS _ _ _ _ _ _);refine CallS.mono (within_s (n := d) (lo := 0) (hi := (l.length : Int) - 1)) ?_; rintro _ _ ⟨rfl, h9⟩; rw [h9, HWW.out]; clear h9; go_simp));refine hK2 _ _ ?_;clear hK2 K2))
            exact Post.round_normal ⟨fr.length - (k + 1), by omega, k + 1, by omega, rfl, (by first|go_simp<;>go_num|assumption), (by first|go_simp<;>go_num|assumption), (by first|go_simp<;>go_num|assumption), (by first|go_simp<;>go_num|assumption), (by first|go_simp<;>go_num|assumption), (by first|go_simp<;>go_num|assumption), (by first|go_simp<;>go_num|assumption), (by first|go_simp<;>go_num|assumption), Lib.hid (fun j hj => by
              rcases Nat.lt_or_ge j k with h | h
              · exact HW.out j h
              · rw [show j = k by omega, HG.out]; exact HWW.out), rfl⟩
        · have hke : k = fr.length := by omega
          subst hke
          have HW2 := HW
          have HR3 : Hid (res = chkGo (mixOp l c) fr dy fr.length 0 0) := Lib.hid (by rw [HR2.out, if_pos (show frOk l.length fr from HW.out)])
          have HCO := Lib.hid (fun (loops : List (Nat × LInfo)) (G : AHeap) (hx : Ext H G) => coursesOf_e (loops := loops) (HV.out.ext hx) (HC.out.ext hx) HE.out)
          repeat' (first|(with_reducible first|refine zA ?_|refine zB fun K hK=>?_|refine zC fun K2 hK2=>?_|refine zD ?_|refine zE ?_|refine zF ?_|refine zG ?_|refine zH ?_|refine zI ?_|refine zM ?_|refine zN ?_|refine zO ?_|refine zP ?_|refine zQ ?_|refine zR ?_)|((with_reducible refine zU (hK _ _ ?_));clear hK K)|((with_reducible refine zV ?_ ?_ fun K1 K3 d hdst h1 h3=>?_);rfl;exact yB rfl;cases hdst;go_simp)|((with_reducible refine zW fun K1 K3 h1 h3=>?_);go_simp)|((first|refine h1 ?_|refine h3 ?_);clear h1 h3 K1 K3)|((first|refine zX (fun hb=>h1 ?_) (fun hb=>h3 ?_)|refine zX (fun hb=>h3 ?_) (fun hb=>h1 ?_))<;>(clear h1 h3 K1 K3;(try have hb2:=yC hb);(try have hb2:=yD hb);(try have hb2:=yE hb);(try have hb2:=yF hb);(try have hb2:=yG hb)))|(refine fun (K2:_→AHeap→Prop) hK2=>?_)|((with_reducible refine zY ?_ ?_);decide)|((with_reducible first|refine zZ ?_ (fun K hK=>?_)|refine yA ?_ (fun K hK=>?_));(focus go_simp;done);go_simp;refine hK _ _ ?_;clear hK K)|(go_simp;(try go_bits);(try first | ((with_reducible show CallS _ _ _ _ _ _);refine CallS.mono (HCO.out _ _ (Ext.push _)) ?_; rintro xv H1 ⟨hxv, hx⟩; (obtain ⟨xb, hxe, -, -⟩ := id hxv); rw [List.length_map] at hxe; subst hxe; (have HXV := Lib.hid hxv); (have HX := Lib.hid ((Ext.push _).trans hx)); clear hxv hx; go_simp));refine hK2 _ _ ?_;clear hK2 K2))
          refine CodeS.loop (fun m f H' => ∃ (k : Nat) (n : Int), k ≤ fr.length ∧ m = fr.length - k ∧ 0 ≤ n ∧ n ≤ k ∧ f.tmp 55 = .int .i64 k ∧ f.tmp 54 = .int .i64 fr.length ∧ f.tmp 53 = .slice fa fr.length fc ∧ f.tmp 13 = .slice (some ⟨xb, 0, none⟩) l.length l.length ∧ f.tmp 14 = .int .i64 n ∧ f.tmp 2 = .slice fa fr.length fc ∧ f.tmp 3 = .slice da dy.length dc ∧ f.defers = [] ∧ Hid (res = chkGo (mixOp l c) fr dy (fr.length - k) k n) ∧ H' = H1) fr.length ?_ ?_
          · exact ⟨0, 0, by omega, by omega, by omega, by omega, (by first|go_simp<;>go_num|assumption), (by first|go_simp<;>go_num|assumption), (by first|go_simp<;>go_num|assumption), (by first|go_simp<;>go_num|assumption), (by first|go_simp<;>go_num|assumption), (by first|go_simp<;>go_num|assumption), (by first|go_simp<;>go_num|assumption), (by first|go_simp<;>go_num|assumption), HR3, rfl⟩
          clear f39 f38 f37 f0 f2 f3 f5 hd f hlt hk
          rintro m f H1 ⟨k, n, hk, rfl, hn0, hnk, f55, f54, f53, f13, f14, f2, f3, hd, HK, rfl⟩
          by_cases hlt : k < fr.length
          · obtain ⟨b, o, sp, rfl, hb, hx⟩ := (HF.out.ext HX.out).at_ hlt
            have hld : k < dy.length := by have := HLF.out; have := HLD.out; omega
            obtain ⟨b2, o2, sp2, rfl, hb2, hx2⟩ := (HD.out.ext HX.out).at_ hld
            have hg1 : fr.getD k 0 = fr[k] := by simp [List.getD_eq_getElem?_getD, hlt]
            have hg2 : dy.getD k 0 = dy[k] := by simp [List.getD_eq_getElem?_getD, hld]
            have hw := HW2.out k hlt
            have HSTEP := chkGo_step (op := mixOp l c) (fr := fr) (dy := dy) (L := fr.length) (n := n) hlt
            rw [hg1, hg2] at HSTEP
            rw [hg1] at hw
            generalize fr[k] = d1 at hx hw HSTEP
            generalize dy[k] = d2 at hx2 HSTEP
            obtain ⟨hw1, hw2⟩ := win_iff.1 hw
            obtain ⟨s, rfl⟩ : ∃ s : Nat, d1 = s := ⟨d1.toNat, by omega⟩
            have hsl : s < l.length := by omega
            obtain ⟨hxb, ov, hxc, ⟨oa, on, hov⟩, hcv⟩ := HXV.out.at_ (k := s) (by simpa using hsl)
            have hop : ins ((courseOf l[s] c).at_ k) d2 = mixOp l c s k d2 := by simp only [mixOp, List.getElem?_eq_getElem hsl]; rfl
            have HOP : Hid (∀ (loops : List (Nat × LInfo)), CallS Tryz.prog loops 44 [.agg #[ov, .int .i64 (courseOf l[s] c).per], .int .i64 k, .int .i64 d2] H1 fun r H' => r = .bool (mixOp l c s k d2) ∧ H' = H1) := Lib.hid (fun loops => by
              rw [← hop]
              rw [List.getElem_map] at hcv
              exact isOpen_s hcv (by rw [courseOf_len]; have := HLF.out; omega))
            rw [List.getElem_map] at hxc
            rw [Int.toNat_natCast] at HSTEP
            generalize mixOp l c s k d2 = oo at HOP HSTEP
            generalize (courseOf l[s] c).per = per at HOP hxc
            obtain ⟨oc, rfl⟩ : ∃ oc, ov = .slice oa on oc := by
              rcases hov with h | ⟨oc, h⟩
              · exact ⟨_, h⟩
              · exact ⟨_, h⟩
            have hki : (k : Int) < (fr.length : Int) := by omega
            have hkd : (k : Int) < (dy.length : Int) := by omega
            have hsi : (s : Int) < (l.length : Int) := by omega
            have HST := Lib.hid HSTEP
            have hk40 : k ≤ 40 := by have := HLF.out; have := hN40.out; omega
            clear hcv hop hov hw hw1 hw2 hg1 hg2 HSTEP hxb
            cases oo
            · have hr : res = (0, 8) := by rw [HK.out, HST.out]; rfl
              repeat' (first|(with_reducible first|refine zA ?_|refine zB fun K hK=>?_|refine zC fun K2 hK2=>?_|refine zD ?_|refine zE ?_|refine zF ?_|refine zG ?_|refine zH ?_|refine zI ?_|refine zM ?_|refine zN ?_|refine zO ?_|refine zP ?_|refine zQ ?_|refine zR ?_)|((with_reducible refine zU (hK _ _ ?_));clear hK K)|((with_reducible refine zV ?_ ?_ fun K1 K3 d hdst h1 h3=>?_);rfl;exact yB rfl;cases hdst;go_simp)|((with_reducible refine zW fun K1 K3 h1 h3=>?_);go_simp)|((first|refine h1 ?_|refine h3 ?_);clear h1 h3 K1 K3)|((first|refine zX (fun hb=>h1 ?_) (fun hb=>h3 ?_)|refine zX (fun hb=>h3 ?_) (fun hb=>h1 ?_))<;>(clear h1 h3 K1 K3;(try have hb2:=yC hb);(try have hb2:=yD hb);(try have hb2:=yE hb);(try have hb2:=yF hb);(try have hb2:=yG hb)))|(refine fun (K2:_→AHeap→Prop) hK2=>?_)|((with_reducible refine zY ?_ ?_);decide)|((with_reducible first|refine zZ ?_ (fun K hK=>?_)|refine yA ?_ (fun K hK=>?_));(focus go_simp;done);go_simp;refine hK _ _ ?_;clear hK K)|((with_reducible refine yH mixed rfl ?_ 20 fun K0 hK0=>?_);kernel_rfl)|(with_reducible first|exact yI|exact yJ|refine yK ?_|refine yL ?_|refine yM ?_)|((with_reducible first|refine yN ?_ ?_|refine yO ?_ ?_|refine yP ?_ ?_);rfl)|((with_reducible refine yQ ?_ ?_);rfl;refine hK0 _ _ ?_;clear hK0 K0)|((with_reducible refine yR ?_ ?_ ?_ ?_);rfl;rfl;rfl)|((with_reducible refine yS ?_ ?_ ?_ fun K2 hK2=>?_);rfl;rfl;exact yB rfl)|((with_reducible refine yT ?_ ?_ ?_ ?_ fun K1 K3 d hdst h1 h3=>?_);rfl;rfl;rfl;exact yB rfl;cases hdst;go_simp)|((with_reducible refine yU ?_ ?_ ?_ ?_ fun K1 K3 d hdst h1 h3=>?_);rfl;rfl;rfl;exact yB rfl;cases hdst;go_simp)|((with_reducible refine yV ?_ ?_ (fun K2 hK2=>?_) ?_);rfl;exact yB rfl)|((with_reducible refine yW ?_ ?_ ?_ ?_ (fun K2 hK2=>?_) ?_);rfl;exact yB rfl;rfl;(focus go_simp;done))|((with_reducible refine yX ?_ ?_ ?_ (fun K2 hK2=>?_) ?_);rfl;rfl;exact yB rfl)|((with_reducible refine yY ?_ ?_ (fun K2 hK2=>?_) ?_);rfl;rfl)|((with_reducible refine yZ ?_ ?_);(first|rfl|(dsimp only;decide +kernel)))|((with_reducible refine xA ?_ ?_);(focus go_simp;done))|(go_simp;(try go_bits);(try first | ((with_reducible show CallS _ _ _ _ _ _);refine CallS.mono (HOP.out _) ?_; rintro _ _ ⟨rfl, h9⟩; rw [h9]; clear h9; go_simp));(first|(refine hK2 _ _ ?_ ?_<;>clear hK2 K2)|(refine hK2 _ _ ?_;clear hK2 K2))))
              exact ⟨by rw [hr], HX.out⟩
            by_cases hk0 : k = 0
            · have hkn : ¬ 0 < k := by omega
              have HK2 : Hid (res = chkGo (mixOp l c) fr dy (fr.length - (k + 1)) (k + 1) n) := Lib.hid (by rw [HK.out, HST.out, if_pos (by simp [hk0]), if_neg (by simp [hk0])])
              have hkz : decide ((0 : Int) < (k : Int)) = false := by simp [hk0]
              have hkz2 : decide (0 < k) = false := by simp [hk0]
              clear hk0
              repeat' (first|(with_reducible first|refine zA ?_|refine zB fun K hK=>?_|refine zC fun K2 hK2=>?_|refine zD ?_|refine zE ?_|refine zF ?_|refine zG ?_|refine zH ?_|refine zI ?_|refine zM ?_|refine zN ?_|refine zO ?_|refine zP ?_|refine zQ ?_|refine zR ?_)|((with_reducible refine zU (hK _ _ ?_));clear hK K)|((with_reducible refine zV ?_ ?_ fun K1 K3 d hdst h1 h3=>?_);rfl;exact yB rfl;cases hdst;go_simp)|((with_reducible refine zW fun K1 K3 h1 h3=>?_);go_simp)|((first|refine h1 ?_|refine h3 ?_);clear h1 h3 K1 K3)|((first|refine zX (fun hb=>h1 ?_) (fun hb=>h3 ?_)|refine zX (fun hb=>h3 ?_) (fun hb=>h1 ?_))<;>(clear h1 h3 K1 K3;(try have hb2:=yC hb);(try have hb2:=yD hb);(try have hb2:=yE hb);(try have hb2:=yF hb);(try have hb2:=yG hb)))|(refine fun (K2:_→AHeap→Prop) hK2=>?_)|((with_reducible refine zY ?_ ?_);decide)|((with_reducible first|refine zZ ?_ (fun K hK=>?_)|refine yA ?_ (fun K hK=>?_));(focus go_simp;done);go_simp;refine hK _ _ ?_;clear hK K)|((with_reducible refine yH mixed rfl ?_ 20 fun K0 hK0=>?_);kernel_rfl)|(with_reducible first|exact yI|exact yJ|refine yK ?_|refine yL ?_|refine yM ?_)|((with_reducible first|refine yN ?_ ?_|refine yO ?_ ?_|refine yP ?_ ?_);rfl)|((with_reducible refine yQ ?_ ?_);rfl;refine hK0 _ _ ?_;clear hK0 K0)|((with_reducible refine yR ?_ ?_ ?_ ?_);rfl;rfl;rfl)|((with_reducible refine yS ?_ ?_ ?_ fun K2 hK2=>?_);rfl;rfl;exact yB rfl)|((with_reducible refine yT ?_ ?_ ?_ ?_ fun K1 K3 d hdst h1 h3=>?_);rfl;rfl;rfl;exact yB rfl;cases hdst;go_simp)|((with_reducible refine yU ?_ ?_ ?_ ?_ fun K1 K3 d hdst h1 h3=>?_);rfl;rfl;rfl;exact yB rfl;cases hdst;go_simp)|((with_reducible refine yV ?_ ?_ (fun K2 hK2=>?_) ?_);rfl;exact yB rfl)|((with_reducible refine yW ?_ ?_ ?_ ?_ (fun K2 hK2=>?_) ?_);rfl;exact yB rfl;rfl;(focus go_simp;done))|((with_reducible refine yX ?_ ?_ ?_ (fun K2 hK2=>?_) ?_);rfl;rfl;exact yB rfl)|((with_reducible refine yY ?_ ?_ (fun K2 hK2=>?_) ?_);rfl;rfl)|((with_reducible refine yZ ?_ ?_);(first|rfl|(dsimp only;decide +kernel)))|((with_reducible refine xA ?_ ?_);(focus go_simp;done))|(go_simp;(try go_bits);(try first | ((with_reducible show CallS _ _ _ _ _ _);refine CallS.mono (HOP.out _) ?_; rintro _ _ ⟨rfl, h9⟩; rw [h9]; clear h9; go_simp));(first|(refine hK2 _ _ ?_ ?_<;>clear hK2 K2)|(refine hK2 _ _ ?_;clear hK2 K2))))
              exact Post.round_normal ⟨fr.length - (k + 1), by omega, k + 1, n, by omega, rfl, hn0, by omega, (by first|go_simp<;>go_num|assumption), (by first|go_simp<;>go_num|assumption), (by first|go_simp<;>go_num|assumption), (by first|go_simp<;>go_num|assumption), (by first|go_simp<;>go_num|assumption), (by first|go_simp<;>go_num|assumption), (by first|go_simp<;>go_num|assumption), (by first|go_simp<;>go_num|assumption), HK2, rfl⟩
            · have hk1 : k - 1 < fr.length := by omega
              have hk2 : k - 1 < dy.length := by omega
              have hg1 : fr.getD (k - 1) 0 = fr[k - 1] := by simp [List.getD_eq_getElem?_getD, hk1]
              have hg2 : dy.getD (k - 1) 0 = dy[k - 1] := by simp [List.getD_eq_getElem?_getD, hk2]
              obtain ⟨_, _, _, h9, -, hx3⟩ := (HF.out.ext HX.out).at_ hk1
              cases h9
              obtain ⟨_, _, _, h9, -, hx4⟩ := (HD.out.ext HX.out).at_ hk2
              cases h9
              have HST2 := HST.out
              rw [hg1, hg2] at HST2
              generalize fr[k - 1] = e1 at hx3 HST2
              generalize dy[k - 1] = y1 at hx4 HST2
              have HST3 := Lib.hid HST2
              have h0i : (0 : Int) ≤ (k : Int) - 1 := by omega
              have h1i : (k : Int) - 1 < (fr.length : Int) := by omega
              have h1j : (k : Int) - 1 < (dy.length : Int) := by omega
              have h2i : (1 : Int) ≤ (k : Int) := by omega
              have h3i : 1 ≤ k := by omega
              have h4i : ((k : Int) - 1).toNat = k - 1 := by omega
              have hwn : IntKind.i64.wrap (n + 1) = n + 1 := by rw [IntKind.wrap_i64]; omega
              have h5i : 0 < k := by omega
              clear hg1 hg2 HST2 HST hk0
              repeat' (first|(with_reducible first|refine zA ?_|refine zB fun K hK=>?_|refine zC fun K2 hK2=>?_|refine zD ?_|refine zE ?_|refine zF ?_|refine zG ?_|refine zH ?_|refine zI ?_|refine zM ?_|refine zN ?_|refine zO ?_|refine zP ?_|refine zQ ?_|refine zR ?_)|((with_reducible refine zU (hK _ _ ?_));clear hK K)|((with_reducible refine zV ?_ ?_ fun K1 K3 d hdst h1 h3=>?_);rfl;exact yB rfl;cases hdst;go_simp)|((with_reducible refine zW fun K1 K3 h1 h3=>?_);go_simp)|((first|refine h1 ?_|refine h3 ?_);clear h1 h3 K1 K3)|((first|refine zX (fun hb=>h1 ?_) (fun hb=>h3 ?_)|refine zX (fun hb=>h3 ?_) (fun hb=>h1 ?_))<;>(clear h1 h3 K1 K3;(try have hb2:=yC hb);(try have hb2:=yD hb);(try have hb2:=yE hb);(try have hb2:=yF hb);(try have hb2:=yG hb)))|(refine fun (K2:_→AHeap→Prop) hK2=>?_)|((with_reducible refine zY ?_ ?_);decide)|((with_reducible first|refine zZ ?_ (fun K hK=>?_)|refine yA ?_ (fun K hK=>?_));(focus go_simp;done);go_simp;refine hK _ _ ?_;clear hK K)|((with_reducible refine yH mixed rfl ?_ 20 fun K0 hK0=>?_);kernel_rfl)|(with_reducible first|exact yI|exact yJ|refine yK ?_|refine yL ?_|refine yM ?_)|((with_reducible first|refine yN ?_ ?_|refine yO ?_ ?_|refine yP ?_ ?_);rfl)|((with_reducible refine yQ ?_ ?_);rfl;refine hK0 _ _ ?_;clear hK0 K0)|((with_reducible refine yR ?_ ?_ ?_ ?_);rfl;rfl;rfl)|((with_reducible refine yS ?_ ?_ ?_ fun K2 hK2=>?_);rfl;rfl;exact yB rfl)|((with_reducible refine yT ?_ ?_ ?_ ?_ fun K1 K3 d hdst h1 h3=>?_);rfl;rfl;rfl;exact yB rfl;cases hdst;go_simp)|((with_reducible refine yU ?_ ?_ ?_ ?_ fun K1 K3 d hdst h1 h3=>?_);rfl;rfl;rfl;exact yB rfl;cases hdst;go_simp)|((with_reducible refine yV ?_ ?_ (fun K2 hK2=>?_) ?_);rfl;exact yB rfl)|((with_reducible refine yW ?_ ?_ ?_ ?_ (fun K2 hK2=>?_) ?_);rfl;exact yB rfl;rfl;(focus go_simp;done))|((with_reducible refine yX ?_ ?_ ?_ (fun K2 hK2=>?_) ?_);rfl;rfl;exact yB rfl)|((with_reducible refine yY ?_ ?_ (fun K2 hK2=>?_) ?_);rfl;rfl)|((with_reducible refine yZ ?_ ?_);(first|rfl|(dsimp only;decide +kernel)))|((with_reducible refine xA ?_ ?_);(focus go_simp;done))|(go_simp;(try go_bits);(try first | ((with_reducible show CallS _ _ _ _ _ _);refine CallS.mono (HOP.out _) ?_; rintro _ _ ⟨rfl, h9⟩; rw [h9]; clear h9; go_simp));(first|(refine hK2 _ _ ?_ ?_<;>clear hK2 K2)|(refine hK2 _ _ ?_;clear hK2 K2))))
              · have hr : res = (0, 8) := by rw [HK.out, HST3.out, if_neg (by simp; omega)]
                exact ⟨by rw [hr], HX.out⟩
              · have hne : (s : Int) ≠ e1 := by simpa using hb
                have HK2 : Hid (res = chkGo (mixOp l c) fr dy (fr.length - (k + 1)) (k + 1) (n + 1)) := Lib.hid (by rw [HK.out, HST3.out, if_pos (by simp; omega), if_pos ⟨h5i, hne⟩])
                exact Post.round_normal ⟨fr.length - (k + 1), by omega, k + 1, n + 1, by omega, rfl, by omega, by omega, (by first|go_simp<;>go_num|assumption), (by first|go_simp<;>go_num|assumption), (by first|go_simp<;>go_num|assumption), (by first|go_simp<;>go_num|assumption), (by first|go_simp<;>go_num|assumption), (by first|go_simp<;>go_num|assumption), (by first|go_simp<;>go_num|assumption), (by first|go_simp<;>go_num|assumption), HK2, rfl⟩
              · have hne : (s : Int) = e1 := by simpa using hb
                have HK2 : Hid (res = chkGo (mixOp l c) fr dy (fr.length - (k + 1)) (k + 1) n) := Lib.hid (by rw [HK.out, HST3.out, if_pos (by simp; omega), if_neg (fun h => h.2 hne)])
                exact Post.round_normal ⟨fr.length - (k + 1), by omega, k + 1, n, by omega, rfl, hn0, by omega, (by first|go_simp<;>go_num|assumption), (by first|go_simp<;>go_num|assumption), (by first|go_simp<;>go_num|assumption), (by first|go_simp<;>go_num|assumption), (by first|go_simp<;>go_num|assumption), (by first|go_simp<;>go_num|assumption), (by first|go_simp<;>go_num|assumption), (by first|go_simp<;>go_num|assumption), HK2, rfl⟩
          · have hke : k = fr.length := by omega
            subst hke
            have hr : res = (n, 0) := by rw [HK.out, Nat.sub_self]; rfl
            subst hr
            repeat' (first|(with_reducible first|refine zA ?_|refine zB fun K hK=>?_|refine zC fun K2 hK2=>?_|refine zD ?_|refine zE ?_|refine zF ?_|refine zG ?_|refine zH ?_|refine zI ?_|refine zM ?_|refine zN ?_|refine zO ?_|refine zP ?_|refine zQ ?_|refine zR ?_)|((with_reducible refine zU (hK _ _ ?_));clear hK K)|((with_reducible refine zV ?_ ?_ fun K1 K3 d hdst h1 h3=>?_);rfl;exact yB rfl;cases hdst;go_simp)|((with_reducible refine zW fun K1 K3 h1 h3=>?_);go_simp)|((first|refine h1 ?_|refine h3 ?_);clear h1 h3 K1 K3)|((first|refine zX (fun hb=>h1 ?_) (fun hb=>h3 ?_)|refine zX (fun hb=>h3 ?_) (fun hb=>h1 ?_))<;>(clear h1 h3 K1 K3;(try have hb2:=yC hb);(try have hb2:=yD hb);(try have hb2:=yE hb);(try have hb2:=yF hb);(try have hb2:=yG hb)))|(refine fun (K2:_→AHeap→Prop) hK2=>?_)|((with_reducible refine zY ?_ ?_);decide)|((with_reducible first|refine zZ ?_ (fun K hK=>?_)|refine yA ?_ (fun K hK=>?_));(focus go_simp;done);go_simp;refine hK _ _ ?_;clear hK K)|(go_simp;(try go_bits);refine hK2 _ _ ?_;clear hK2 K2))
            exact ⟨rfl, HX.out⟩
      · have hb1 : ((fr.length : Int) != (c.words.length : Int)) = false := by simp [hlf]
        have hb2 : ((dy.length : Int) != (c.words.length : Int)) = true := by simpa using (show ¬ (dy.length : Int) = (c.words.length : Int) by omega)
        have hr : res = (0, 1) := by rw [HR.out, if_neg (by simp [he]), if_pos (by simp [hld])]
        subst hr
        clear hlf hld
        repeat' (first|(with_reducible first|refine zA ?_|refine zB fun K hK=>?_|refine zC fun K2 hK2=>?_|refine zD ?_|refine zE ?_|refine zF ?_|refine zG ?_|refine zH ?_|refine zI ?_|refine zM ?_|refine zN ?_|refine zO ?_|refine zP ?_|refine zQ ?_|refine zR ?_)|((with_reducible refine zU (hK _ _ ?_));clear hK K)|((with_reducible refine zV ?_ ?_ fun K1 K3 d hdst h1 h3=>?_);rfl;exact yB rfl;cases hdst;go_simp)|((with_reducible refine zW fun K1 K3 h1 h3=>?_);go_simp)|((first|refine h1 ?_|refine h3 ?_);clear h1 h3 K1 K3)|((first|refine zX (fun hb=>h1 ?_) (fun hb=>h3 ?_)|refine zX (fun hb=>h3 ?_) (fun hb=>h1 ?_))<;>(clear h1 h3 K1 K3;(try have hb2:=yC hb);(try have hb2:=yD hb);(try have hb2:=yE hb);(try have hb2:=yF hb);(try have hb2:=yG hb)))|(refine fun (K2:_→AHeap→Prop) hK2=>?_)|((with_reducible refine zY ?_ ?_);decide)|((with_reducible first|refine zZ ?_ (fun K hK=>?_)|refine yA ?_ (fun K hK=>?_));(focus go_simp;done);go_simp;refine hK _ _ ?_;clear hK K)|(go_simp;(try go_bits);(try first | ((with_reducible show CallS _ _ _ _ _ _);refine CallS.mono (HCK.out _ _ (Ext.push _)) ?_; rintro _ _ ⟨rfl, h9⟩; rw [h9]; clear h9; go_simp));refine hK2 _ _ ?_;clear hK2 K2))
        exact ⟨rfl, Ext.push _⟩
    · have hb1 : ((fr.length : Int) != (c.words.length : Int)) = true := by simpa using (show ¬ (fr.length : Int) = (c.words.length : Int) by omega)
      have hr : res = (0, 1) := by rw [HR.out, if_neg (by simp [he]), if_pos (by simp [hlf])]
      subst hr
      clear hlf
      repeat' (first|(with_reducible first|refine zA ?_|refine zB fun K hK=>?_|refine zC fun K2 hK2=>?_|refine zD ?_|refine zE ?_|refine zF ?_|refine zG ?_|refine zH ?_|refine zI ?_|refine zM ?_|refine zN ?_|refine zO ?_|refine zP ?_|refine zQ ?_|refine zR ?_)|((with_reducible refine zU (hK _ _ ?_));clear hK K)|((with_reducible refine zV ?_ ?_ fun K1 K3 d hdst h1 h3=>?_);rfl;exact yB rfl;cases hdst;go_simp)|((with_reducible refine zW fun K1 K3 h1 h3=>?_);go_simp)|((first|refine h1 ?_|refine h3 ?_);clear h1 h3 K1 K3)|((first|refine zX (fun hb=>h1 ?_) (fun hb=>h3 ?_)|refine zX (fun hb=>h3 ?_) (fun hb=>h1 ?_))<;>(clear h1 h3 K1 K3;(try have hb2:=yC hb);(try have hb2:=yD hb);(try have hb2:=yE hb);(try have hb2:=yF hb);(try have hb2:=yG hb)))|(refine fun (K2:_→AHeap→Prop) hK2=>?_)|((with_reducible refine zY ?_ ?_);decide)|((with_reducible first|refine zZ ?_ (fun K hK=>?_)|refine yA ?_ (fun K hK=>?_));(focus go_simp;done);go_simp;refine hK _ _ ?_;clear hK K)|(go_simp;(try go_bits);(try first | ((with_reducible show CallS _ _ _ _ _ _);refine CallS.mono (HCK.out _ _ (Ext.push _)) ?_; rintro _ _ ⟨rfl, h9⟩; rw [h9]; clear h9; go_simp));refine hK2 _ _ ?_;clear hK2 K2))
      exact ⟨rfl, Ext.push _⟩
  · have heb : (errMix l c != 0) = true := by simpa using he
    have hr : res = (0, errMix l c) := by rw [HR.out, if_pos he]
    subst hr
    repeat' (first|(with_reducible first|refine zA ?_|refine zB fun K hK=>?_|refine zC fun K2 hK2=>?_|refine zD ?_|refine zE ?_|refine zF ?_|refine zG ?_|refine zH ?_|refine zI ?_|refine zM ?_|refine zN ?_|refine zO ?_|refine zP ?_|refine zQ ?_|refine zR ?_)|((with_reducible refine zU (hK _ _ ?_));clear hK K)|((with_reducible refine zV ?_ ?_ fun K1 K3 d hdst h1 h3=>?_);rfl;exact yB rfl;cases hdst;go_simp)|((with_reducible refine zW fun K1 K3 h1 h3=>?_);go_simp)|((first|refine h1 ?_|refine h3 ?_);clear h1 h3 K1 K3)|((first|refine zX (fun hb=>h1 ?_) (fun hb=>h3 ?_)|refine zX (fun hb=>h3 ?_) (fun hb=>h1 ?_))<;>(clear h1 h3 K1 K3;(try have hb2:=yC hb);(try have hb2:=yD hb);(try have hb2:=yE hb);(try have hb2:=yF hb);(try have hb2:=yG hb)))|(refine fun (K2:_→AHeap→Prop) hK2=>?_)|((with_reducible refine zY ?_ ?_);decide)|((with_reducible first|refine zZ ?_ (fun K hK=>?_)|refine yA ?_ (fun K hK=>?_));(focus go_simp;done);go_simp;refine hK _ _ ?_;clear hK K)|(go_simp;(try go_bits);(try first | ((with_reducible show CallS _ _ _ _ _ _);refine CallS.mono (HCK.out _ _ (Ext.push _)) ?_; rintro _ _ ⟨rfl, h9⟩; rw [h9]; clear h9; go_simp));refine hK2 _ _ ?_;clear hK2 K2))
    exact ⟨rfl, Ext.push _⟩
end Go.Proofs.Tryz
namespace Go.Proofs.Tryz
open Go Go.Am Go.RowKit Go.Co
set_option maxRecDepth 100000

theorem stop_sq {P : Program} {cx : Cx} {f : AF} {H : AHeap} {Q : Post} {n : Nat} {ops : Array Oper} {b : Bool} {z : Code} (h : Stop (CodeS P cx (.seq (.region n ops b) z) f H Q)) : CodeS P cx (.seq (.region n ops b) z) f H Q := h.out
end Go.Proofs.Tryz
