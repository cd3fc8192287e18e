/- Contracts of functions, walked. -/
import Derived.Test.YtokhhoihalpaoaaGreatDoorStU5
set_option linter.all false
namespace Go.Proofs.Tryz
open Go Go.Am Go.RowKit
set_option maxRecDepth 100000


def rowsK (p l : List Int) (turn : Int) : Nat → List (List Int) × Int
  | 0 => ([], turn)
  | k + 1 => ((rowsK p l turn k).1 ++ [(divS (l.getD k 0) p (rowsK p l turn k).2 p.length).s], (divS (l.getD k 0) p (rowsK p l turn k).2 p.length).next)
structure ShOk (l p : List Int) (turn : Int) : Prop where
  len : l.length ≤ 80
  amt : ∀ n ∈ l, 0 ≤ n ∧ n ≤ 1099511627776
  ok : partsOk p = true
  at_ : 0 ≤ turn ∧ turn < p.length
  sum : l.sum ≤ 1099511627776
theorem shOk {l p : List Int} {turn : Int} (h : errS l p turn = 0) : ShOk l p turn := by
  unfold errS at h
  split at h
  · cases h
  · rename_i h1
    split at h
    · cases h
    · rename_i h2
      split at h
      · cases h
      · rename_i h3
        simp only [Bool.not_eq_false, Bool.and_eq_true, win_iff, List.all_eq_true] at h2
        exact ⟨by omega, fun n hn => by have := h2.1 n hn; exact this, h2.2.1, by omega, by omega⟩
structure RFacts (p : List Int) (k : Nat) (r : List (List Int) × Int) : Prop where
  len : r.1.length = k
  row : ∀ xs ∈ r.1, xs.length = p.length ∧ Up 1099511627800 xs
  at_ : 0 ≤ r.2 ∧ r.2 < p.length
theorem rowsK_facts {l p : List Int} {turn : Int} (h : ShOk l p turn) : ∀ k, k ≤ l.length → RFacts p k (rowsK p l turn k)
  | 0, _ => ⟨rfl, fun xs hx => by simp [rowsK] at hx, h.at_⟩
  | k + 1, hk => by
    have ih := rowsK_facts h k (by omega)
    have hn : l.getD k 0 ∈ l := by rw [List.getD, List.getElem?_eq_getElem (by omega)]; exact List.getElem_mem _
    have hd := dFacts ⟨h.amt _ hn, h.ok, ih.at_⟩ p.length
    have hp := pFacts h.ok
    refine ⟨by simp [rowsK, ih.len], fun xs hx => ?_, hd.next⟩
    simp only [rowsK, List.mem_append, List.mem_singleton] at hx
    rcases hx with hx | rfl
    · exact ih.row xs hx
    · exact ⟨hd.len, fun y hy => by have := hd.bd y hy; have := hp.len; omega⟩
theorem dvOk {l p : List Int} {turn : Int} (h : ShOk l p turn) {k : Nat} (hk : k < l.length) : DvOk (l.getD k 0) p (rowsK p l turn k).2 :=
  ⟨h.amt _ (by rw [List.getD, List.getElem?_eq_getElem hk]; exact List.getElem_mem _), h.ok, (rowsK_facts h k (by omega)).at_⟩

structure RowsO (base : Nat) (J : AHeap) (u : Value) (vs : List Value) (xss : List (List Int)) : Prop where
  own : Own J base u 23 1 vs
  len : vs.length = xss.length
  row : ∀ i (h : i < xss.length), ∃ b, vs[i]? = some (.slice (some ⟨b, 0, none⟩) xss[i].length xss[i].length) ∧ OwnB J base b xss[i] ∧ ∀ bu n, u = .slice (some ⟨bu, 0, none⟩) n n → b ≠ bu
theorem RowsO.one {base : Nat} {J : AHeap} {u : Value} {vs : List Value} {xss : List (List Int)} (h : RowsO base J u vs xss) : vs.all oneV = true := by
  rw [List.all_eq_true]
  intro v hv
  obtain ⟨i, hi, rfl⟩ := List.getElem_of_mem hv
  obtain ⟨b, e, -⟩ := h.row i (by rw [← h.len]; exact hi)
  rw [List.getElem?_eq_getElem hi] at e
  rw [Option.some.inj e]; rfl
theorem RowsO.step {base : Nat} {J X H4 : AHeap} {u v4 : Value} {vs : List Value} {xss : List (List Int)} {xs : List Int} {b : Nat} (h : RowsO base J u vs xss) (hx : Ext J X) (hb : OwnB X base b xs) (hbJ : J.n ≤ b) (ho : Own H4 X.n v4 23 1 (vs ++ [.slice (some ⟨b, 0, none⟩) xs.length xs.length])) (hg : Grown X H4 base u) (hB : base ≤ X.n) : RowsO base H4 v4 (vs ++ [.slice (some ⟨b, 0, none⟩) xs.length xs.length]) (xss ++ [xs]) := by
  have hv4 : ∀ (b' : Nat), b' < X.n → ∀ bu n, v4 = .slice (some ⟨bu, 0, none⟩) n n → b' ≠ bu := by
    intro b' hb' bu n he
    rcases ho with ⟨h1, _⟩ | ⟨b2, n2, h1, h2, _⟩
    · rw [h1] at he; cases he
    · rw [h1] at he; cases he; omega
  refine ⟨ho.mono hB, by simp [h.len], fun i hi => ?_⟩
  rcases Nat.lt_or_ge i xss.length with h1 | h1
  · obtain ⟨b1, e1, e2, e3⟩ := h.row i h1
    have hlt : b1 < X.n := Nat.lt_of_lt_of_le e2.hi hx.n
    refine ⟨b1, ?_, ?_, hv4 b1 hlt⟩
    · rw [List.getElem?_append_left (by rw [h.len]; exact h1), List.getElem_append_left h1]; exact e1
    · rw [List.getElem_append_left h1]
      exact ⟨e2.lo, Nat.lt_of_lt_of_le hlt hg.1, by rw [hg.2 b1 hlt fun b n hs _ => e3 b n hs, hx.get b1 e2.hi]; exact e2.row⟩
  · have h2 : i = xss.length := by simp at hi; omega
    subst h2
    refine ⟨b, ?_, ?_, hv4 b hb.hi⟩
    · rw [List.getElem?_append_right (by rw [h.len]; exact Nat.le_refl _), h.len]; simp
    · rw [List.getElem_append_right (Nat.le_refl _)]
      simp only [Nat.sub_self, List.getElem_cons_zero]
      refine ⟨hb.lo, Nat.lt_of_lt_of_le hb.hi hg.1, ?_⟩
      rw [hg.2 b hb.hi fun bu n hs _ he => by have := own_lt h.own hs; omega]; exact hb.row
theorem RowsO.rows {base : Nat} {J : AHeap} {u : Value} {vs : List Value} {xss : List (List Int)} (h : RowsO base J u vs xss) (h0 : ∀ xs ∈ xss, 0 < xs.length ∧ xs.length ≤ 1000) (hl : xss.length ≤ 1000) : RowsV J u xss := by
  refine ⟨vs, ⟨by rw [h.len]; simp, by omega, ?_⟩, h.len, fun i hi => ?_⟩
  · rcases h.own with ⟨rfl, hv⟩ | ⟨b, n, rfl, h1, h2, h3, h4, h5⟩
    · have := h.len; rw [hv] at this
      simp at this
      rw [← this]
      exact ⟨none, 0, rfl, fun _ => rfl, fun h => absurd h (by omega)⟩
    · rw [Nat.mul_one, h.len] at h4
      subst h4
      exact ⟨_, _, rfl, (fun h => by cases h), fun _ => ⟨b, 0, none, rfl, h2, fun j w hw => by simp only [cellAt, h3, Nat.zero_add]; exact hw⟩⟩
  · obtain ⟨b, e1, e2, -⟩ := h.row i hi
    have := h0 _ (List.getElem_mem hi)
    exact ⟨_, _, _, e1, own_ints (e2.own this.1) this.2⟩

def shL (l p : List Int) (turn : Int) : List Int := if errS l p turn = 0 then mergeK p.length (rowsK p l turn l.length).1 else []
def shT (l p : List Int) (turn : Int) : Int := if errS l p turn = 0 then (rowsK p l turn l.length).2 else 0

set_option maxHeartbeats 8000000 in
theorem shares_e {loops : List (Nat × LInfo)} {H : AHeap} {v pv : Value} {l p : List Int} {turn : Int} (hv : Ints H v l) (hp : Ints H pv p) : CallS Tryz.prog loops 45 [v, pv, .int .i64 turn] H fun r H' => (∃ a n c, r = .tuple #[.slice a n c, .int .i64 (shT l p turn), .int .i64 (errS l p turn)] ∧ Ints H' (.slice a n c) (shL l p turn)) ∧ Ext H H' := by
  have HCK := Lib.hid (fun (loops : List (Nat × LInfo)) => checkShares_s (loops := loops) (turn := turn) hv hp)
  have HV := Lib.hid hv
  have HP := Lib.hid hp
  obtain ⟨hlen, a, c, rfl⟩ := hv.slice
  obtain ⟨hplen, pa, pc, rfl⟩ := hp.slice
  clear hv hp
  unfold shL shT
  by_cases h0 : errS l p turn = 0
  case' neg =>
    rw [if_neg h0, if_neg h0]
    have h0b : (errS l p turn != 0) = true := by simpa using h0
    generalize errS l p turn = er at HCK h0b
    clear h0
    refine CallS.enter' Tryz.func45 rfl Tryz.ntmps45 (by simp) fun f hd hf => ?_
    have f0 := hf 0
    have f1 := hf 1
    have f2 := hf 2
    simp at f0 f1 f2
    clear hf
    repeat' (first|(with_reducible first|refine zA ?_|refine zB fun K hK=>?_|refine zC fun K2 hK2=>?_|refine zD ?_|refine zE ?_|refine zF ?_|refine zG ?_|refine zH ?_|refine zI ?_|refine zM ?_|refine zN ?_|refine zO ?_|refine zP ?_|refine zQ ?_|refine zR ?_)|((with_reducible refine zU (hK _ _ ?_));clear hK K)|((with_reducible refine zV ?_ ?_ fun K1 K3 d hdst h1 h3=>?_);rfl;exact yB rfl;cases hdst;go_simp)|((with_reducible refine zW fun K1 K3 h1 h3=>?_);go_simp)|((first|refine h1 ?_|refine h3 ?_);clear h1 h3 K1 K3)|((first|refine zX (fun hb=>h1 ?_) (fun hb=>h3 ?_)|refine zX (fun hb=>h3 ?_) (fun hb=>h1 ?_))<;>(clear h1 h3 K1 K3;(try have hb2:=yC hb);(try have hb2:=yD hb);(try have hb2:=yE hb);(try have hb2:=yF hb);(try have hb2:=yG hb)))|(refine fun (K2:_→AHeap→Prop) hK2=>?_)|((with_reducible refine zY ?_ ?_);decide)|((with_reducible first|refine zZ ?_ (fun K hK=>?_)|refine yA ?_ (fun K hK=>?_));(focus go_simp;done);go_simp;refine hK _ _ ?_;clear hK K)|(go_simp;(try go_bits);(try first | ((with_reducible show CallS _ _ _ _ _ _);refine CallS.mono (HCK.out _) ?_; rintro _ _ ⟨rfl, h9⟩; rw [h9]; clear h9; go_simp));refine hK2 _ _ ?_;clear hK2 K2))
    exact ⟨⟨_, _, _, rfl, ints_nil fun _ => rfl⟩, Ext.refl _⟩
  have HOK := Lib.hid (shOk h0)
  have hL := (pFacts HOK.out.ok).len
  have hll := HOK.out.len
  rw [h0, if_pos rfl, if_pos rfl]
  rw [h0] at HCK
  clear h0
  refine CallS.enter' Tryz.func45 rfl Tryz.ntmps45 (by simp) fun f hd hf => ?_
  have f0 := hf 0
  have f1 := hf 1
  have f2 := hf 2
  simp at f0 f1 f2
  clear hf
  repeat' (first|(with_reducible first|refine zA ?_|refine zB fun K hK=>?_|refine zC fun K2 hK2=>?_|refine zD ?_|refine zE ?_|refine zF ?_|refine zG ?_|refine zH ?_|refine zI ?_|refine zM ?_|refine zN ?_|refine zO ?_|refine zP ?_|refine zQ ?_|refine zR ?_)|((with_reducible refine zU (hK _ _ ?_));clear hK K)|((with_reducible refine zV ?_ ?_ fun K1 K3 d hdst h1 h3=>?_);rfl;exact yB rfl;cases hdst;go_simp)|((with_reducible refine zW fun K1 K3 h1 h3=>?_);go_simp)|((first|refine h1 ?_|refine h3 ?_);clear h1 h3 K1 K3)|((first|refine zX (fun hb=>h1 ?_) (fun hb=>h3 ?_)|refine zX (fun hb=>h3 ?_) (fun hb=>h1 ?_))<;>(clear h1 h3 K1 K3;(try have hb2:=yC hb);(try have hb2:=yD hb);(try have hb2:=yE hb);(try have hb2:=yF hb);(try have hb2:=yG hb)))|(refine fun (K2:_→AHeap→Prop) hK2=>?_)|((with_reducible refine zY ?_ ?_);decide)|((with_reducible first|refine zZ ?_ (fun K hK=>?_)|refine yA ?_ (fun K hK=>?_));(focus go_simp;done);go_simp;refine hK _ _ ?_;clear hK K)|(go_simp;(try go_bits);(try first | ((with_reducible show CallS _ _ _ _ _ _);refine CallS.mono (HCK.out _) ?_; rintro _ _ ⟨rfl, h9⟩; rw [h9]; clear h9; go_simp));refine hK2 _ _ ?_;clear hK2 K2))
  refine CodeS.loop (fun m f J => ∃ (k : Nat) (u : Value) (vs : List Value) (xss : List (List Int)) (tn : Int), k ≤ l.length ∧ m = l.length - k ∧ f.tmp 24 = .int .i64 k ∧ f.tmp 23 = .int .i64 l.length ∧ f.tmp 22 = .slice a l.length c ∧ f.tmp 0 = .slice a l.length c ∧ f.tmp 1 = .slice pa p.length pc ∧ f.tmp 2 = .int .i64 tn ∧ f.tmp 10 = u ∧ f.defers = [] ∧ Hid (rowsK p l turn k = (xss, tn)) ∧ Hid (RowsO H.n J u vs xss) ∧ Hid (Ext H J)) l.length ?_ ?_
  · exact ⟨0, .slice none 0 0, [], [], turn, by omega, by omega, (by first|go_simp<;>go_num|assumption), (by first|go_simp<;>go_num|assumption), (by first|go_simp<;>go_num|assumption), (by first|go_simp<;>go_num|assumption), (by first|go_simp<;>go_num|assumption), (by first|go_simp<;>go_num|assumption), (by first|go_simp<;>go_num|assumption), (by first|go_simp<;>go_num|assumption), Lib.hid rfl, Lib.hid ⟨Own.nil, rfl, fun i hi => absurd hi (by simp)⟩, Lib.hid (Ext.refl _)⟩
  clear f0 f1 f2 hd f
  rintro m f J ⟨k, u, vs, xss, tn, hk, rfl, f24, f23, f22, f0, f1, f2, f10, hd, HRK, HR, HX⟩
  obtain ⟨ua, un, rfl⟩ := own_sliceP HR.out.own
  have hrf := rowsK_facts HOK.out k hk
  rw [HRK.out] at hrf
  by_cases hlt : k < l.length
  · have hdv := dvOk HOK.out hlt
    rw [HRK.out] at hdv
    obtain ⟨b, o, sp, rfl, hb, hx⟩ := (HV.out.ext HX.out).at_ hlt
    have hlb : (k : Int) < (l.length : Int) := by omega
    have w1 := wrap_id (n := (k : Int) + 1) (by omega)
    have hgd : l.getD k 0 = l[k] := by rw [List.getD, List.getElem?_eq_getElem hlt]; rfl
    have HNX : Hid (rowsK p l turn (k + 1) = (xss ++ [(divS (l.getD k 0) p tn p.length).s], (divS (l.getD k 0) p tn p.length).next)) := Lib.hid (by rw [rowsK, HRK.out])
    have HDV := Lib.hid (fun (loops : List (Nat × LInfo)) => divide_e (loops := loops) (HP.out.ext HX.out) hdv)
    have hsl := (dFacts hdv p.length).len
    have hvl := HR.out.len
    have hxl := hrf.len
    rw [hgd] at HNX HDV hsl
    have HBIG : Hid ((vs.length + 1) * max 24 1 ≤ 1073741824) := Lib.hid (by show (vs.length + 1) * 24 ≤ 1073741824; rw [hvl]; simp only at hxl; omega)
    have HONE := Lib.hid HR.out.one
    have HNX2 := Lib.hid HX.out.n
    generalize l[k] = n at hx HNX HDV hsl
    generalize hst : divS n p tn p.length = st at HNX HDV hsl
    obtain ⟨s, lf, nx⟩ := st
    simp only at HNX HDV hsl
    clear hdv hgd hvl hxl hrf hst
    repeat' (first|(with_reducible first|refine zA ?_|refine zB fun K hK=>?_|refine zC fun K2 hK2=>?_|refine zD ?_|refine zE ?_|refine zF ?_|refine zG ?_|refine zH ?_|refine zI ?_|refine zM ?_|refine zN ?_|refine zO ?_|refine zP ?_|refine zQ ?_|refine zR ?_)|((with_reducible refine zU (hK _ _ ?_));clear hK K)|((with_reducible refine zV ?_ ?_ fun K1 K3 d hdst h1 h3=>?_);rfl;exact yB rfl;cases hdst;go_simp)|((with_reducible refine zW fun K1 K3 h1 h3=>?_);go_simp)|((first|refine h1 ?_|refine h3 ?_);clear h1 h3 K1 K3)|((first|refine zX (fun hb=>h1 ?_) (fun hb=>h3 ?_)|refine zX (fun hb=>h3 ?_) (fun hb=>h1 ?_))<;>(clear h1 h3 K1 K3;(try have hb2:=yC hb);(try have hb2:=yD hb);(try have hb2:=yE hb);(try have hb2:=yF hb);(try have hb2:=yG hb)))|(refine fun (K2:_→AHeap→Prop) hK2=>?_)|((with_reducible refine zY ?_ ?_);decide)|((with_reducible first|refine zZ ?_ (fun K hK=>?_)|refine yA ?_ (fun K hK=>?_));(focus go_simp;done);go_simp;refine hK _ _ ?_;clear hK K)|(go_simp;(try go_bits);(try first | ((with_reducible show CallS _ _ _ _ _ _);refine CallS.mono (HDV.out _) ?_; rintro _ J2 ⟨⟨b2, rfl, hob⟩, hx2⟩; (have HOB := Lib.hid hob); (have HX2 := Lib.hid hx2); clear hob hx2) | ((refine one_k el94 sz23 ze23 rfl (by decide) (by decide) rfl rfl ?_); go_simp) | ((refine append_k2 el94 sz23 by23 ze23 rfl (by decide) ((HR.out.own.ext HX2.out).ext (Ext.push _)) (srcCells_new rfl) (by decide) rfl (by rw [List.all_append, HONE.out]; rfl) HBIG.out (by rw [AHeap.n_push]; have := HNX2.out; have := HX2.out.n; omega) fun v4 H4 ho4 hg4 => ?_); (obtain ⟨a4, n4, rfl⟩ := own_sliceP ho4); (have HO4 := Lib.hid ho4); (have HG4 := Lib.hid hg4); (have HX4 := Lib.hid (hg4.ext ((HR.out.own.ext HX2.out).ext (Ext.push _)) (Nat.le_refl _) ((HX.out.trans HX2.out).push' _))); clear ho4 hg4; go_simp));refine hK2 _ _ ?_;clear hK2 K2))
    have hr := HR.out.step (X := J2.push (.row [.slice (some ⟨b2, 0, none⟩) p.length p.length] 23)) (HX2.out.push' _) (xs := s) (b := b2) ⟨by have := HOB.out.lo; have := HNX2.out; omega, by rw [AHeap.n_push]; have := HOB.out.hi; omega, by rw [AHeap.get_push_old HOB.out.hi]; exact HOB.out.row⟩ HOB.out.lo (by rw [hsl]; exact HO4.out) HG4.out (by rw [AHeap.n_push]; have := HNX2.out; have := HX2.out.n; omega)
    exact Post.round_normal ⟨l.length - (k + 1), by omega, k + 1, .slice a4 n4 n4, _, xss ++ [s], nx, by omega, rfl, (by first|go_simp<;>go_num|assumption), (by first|go_simp<;>go_num|assumption), (by first|go_simp<;>go_num|assumption), (by first|go_simp<;>go_num|assumption), (by first|go_simp<;>go_num|assumption), (by first|go_simp<;>go_num|assumption), (by first|go_simp<;>go_num|assumption), (by first|go_simp<;>go_num|assumption), HNX, Lib.hid hr, HX4⟩
  · have hlb : ¬ (k : Int) < (l.length : Int) := by omega
    obtain rfl : k = l.length := by omega
    have hrv := HR.out.rows (fun xs hx => by have := hrf.row xs hx; omega) (by have := hrf.len; simp only at this; omega)
    have hrl := hrv.slice
    have HME := Lib.hid (fun (loops : List (Nat × LInfo)) => merge_e (loops := loops) (L := p.length) hrv hL (by have := hrf.len; simp only at this; omega) (fun xs hx => (hrf.row xs hx).1) (fun xs hx => (hrf.row xs hx).2))
    rw [HRK.out]
    have hmk : (mergeK p.length xss).length = p.length := by have := mergeK_len p.length xss.length xss; rwa [List.take_length] at this
    have HMK := Lib.hid hmk
    clear hrf hrv hrl hmk
    repeat' (first|(with_reducible first|refine zA ?_|refine zB fun K hK=>?_|refine zC fun K2 hK2=>?_|refine zD ?_|refine zE ?_|refine zF ?_|refine zG ?_|refine zH ?_|refine zI ?_|refine zM ?_|refine zN ?_|refine zO ?_|refine zP ?_|refine zQ ?_|refine zR ?_)|((with_reducible refine zU (hK _ _ ?_));clear hK K)|((with_reducible refine zV ?_ ?_ fun K1 K3 d hdst h1 h3=>?_);rfl;exact yB rfl;cases hdst;go_simp)|((with_reducible refine zW fun K1 K3 h1 h3=>?_);go_simp)|((first|refine h1 ?_|refine h3 ?_);clear h1 h3 K1 K3)|((first|refine zX (fun hb=>h1 ?_) (fun hb=>h3 ?_)|refine zX (fun hb=>h3 ?_) (fun hb=>h1 ?_))<;>(clear h1 h3 K1 K3;(try have hb2:=yC hb);(try have hb2:=yD hb);(try have hb2:=yE hb);(try have hb2:=yF hb);(try have hb2:=yG hb)))|(refine fun (K2:_→AHeap→Prop) hK2=>?_)|((with_reducible refine zY ?_ ?_);decide)|((with_reducible first|refine zZ ?_ (fun K hK=>?_)|refine yA ?_ (fun K hK=>?_));(focus go_simp;done);go_simp;refine hK _ _ ?_;clear hK K)|(go_simp;(try go_bits);(try first | ((with_reducible show CallS _ _ _ _ _ _);refine CallS.mono (HME.out _) ?_; rintro _ J2 ⟨⟨b2, rfl, hob⟩, hx2⟩; (have HOB := Lib.hid hob); (have HX2 := Lib.hid hx2); clear hob hx2));refine hK2 _ _ ?_;clear hK2 K2))
    refine ⟨⟨_, _, _, rfl, ?_⟩, HX.out.trans HX2.out⟩
    have := own_ints (HOB.out.own (by rw [HMK.out]; omega)) (by rw [HMK.out]; omega)
    rwa [HMK.out] at this
end Go.Proofs.Tryz
namespace Go.Proofs.Tryz
open Go Go.Am Go.RowKit
set_option maxRecDepth 100000


section
variable {dst : Option Tmp} {ty : TypeId} {src : String} {af : Array Edge} {g : Option (Nat × Bool)} {f : AF} {op : BinOp} {t t' : TypeId} {x y : Operand}
@[go_sem] theorem evR_binL : evR (opReads ⟨dst, .binOp op t x y t', ty, src, af, g⟩) f x = f.eval x := evR_self (by simp [Op.operands])
@[go_sem] theorem evR_binR : evR (opReads ⟨dst, .binOp op t x y t', ty, src, af, g⟩) f y = f.eval y := evR_self (by simp [Op.operands])
end
theorem st76 : structOk Tryz.prog 76 = true := by kernel_rfl
theorem divS_stop {n : Int} {p : List Int} {turn : Int} {k : Nat} (h : ¬ 0 < (divS n p turn k).left) : ∀ i, divS n p turn (k + i) = divS n p turn k
  | 0 => rfl
  | i + 1 => by
    rw [← Nat.add_assoc, divS, divS_stop h i, divStep, if_neg (fun hc => h hc.1)]

set_option maxHeartbeats 8000000 in
theorem refDivide_e {loops : List (Nat × LInfo)} {H : AHeap} {pv : Value} {n turn : Int} {p : List Int} (hp : Ints H pv p) (h : DvOk n p turn) : CallS Tryz.prog loops 106 [.int .i64 n, pv, .int .i64 turn] H fun r H' => (∃ b, r = .agg #[.slice (some ⟨b, 0, none⟩) p.length p.length, .int .i64 (divS n p turn p.length).next, .int .i64 0] ∧ OwnB H' H.n b (divS n p turn p.length).s) ∧ Ext H H' := by
  obtain ⟨hplen, pa, pc, rfl⟩ := hp.slice
  have HP := Lib.hid hp
  have HD := Lib.hid h
  have hf := pFacts h.ok
  have HF := Lib.hid hf
  have HT := Lib.hid (fun (loops : List (Nat × LInfo)) (H2 : AHeap) (hx : Ext H H2) => refTotal_s (loops := loops) (hp.ext hx) ⟨by have := hf.len; omega, fun x hx => by have := hf.bd x hx; omega⟩)
  have hs1 := hf.sum.1
  have hs2 := hf.sum.2
  have hL := hf.len
  have HB2 : Hid (∀ k, -10995116277760 ≤ ((baseL n p).take k).sum ∧ ((baseL n p).take k).sum ≤ 10995116277760) := Lib.hid fun k => by
    have := sum_bd (xs := (baseL n p).take k) (B := 1099511627776) (fun x hx => by have := baseL_bd h.amt hf x (List.mem_of_mem_take hx); omega)
    have h2 : ((baseL n p).take k).length ≤ 10 := by rw [List.length_take, baseL_len]; omega
    omega
  generalize hS : p.sum = S at HT hs1 hs2
  have HS := Lib.hid hS
  clear hp h hf hS
  refine CallS.enter' Tryz.func106 rfl Tryz.ntmps106 (by simp) fun f hd hf => ?_
  have f0 := hf 0
  have f1 := hf 1
  have f2 := hf 2
  simp at f0 f1 f2
  clear hf
  repeat' (first|(with_reducible first|refine zA ?_|refine zB fun K hK=>?_|refine zC fun K2 hK2=>?_|refine zD ?_|refine zE ?_|refine zF ?_|refine zG ?_|refine zH ?_|refine zI ?_|refine zM ?_|refine zN ?_|refine zO ?_|refine zP ?_|refine zQ ?_|refine zR ?_)|((with_reducible refine zU (hK _ _ ?_));clear hK K)|((with_reducible refine zV ?_ ?_ fun K1 K3 d hdst h1 h3=>?_);rfl;exact yB rfl;cases hdst;go_simp)|((with_reducible refine zW fun K1 K3 h1 h3=>?_);go_simp)|((first|refine h1 ?_|refine h3 ?_);clear h1 h3 K1 K3)|((first|refine zX (fun hb=>h1 ?_) (fun hb=>h3 ?_)|refine zX (fun hb=>h3 ?_) (fun hb=>h1 ?_))<;>(clear h1 h3 K1 K3;(try have hb2:=yC hb);(try have hb2:=yD hb);(try have hb2:=yE hb);(try have hb2:=yF hb);(try have hb2:=yG hb)))|(refine fun (K2:_→AHeap→Prop) hK2=>?_)|((with_reducible refine zY ?_ ?_);decide)|((with_reducible first|refine zZ ?_ (fun K hK=>?_)|refine yA ?_ (fun K hK=>?_));(focus go_simp;done);go_simp;refine hK _ _ ?_;clear hK K)|(go_simp;(try go_bits);(try first | ((with_reducible show CallS _ _ _ _ _ _);refine CallS.mono (HT.out _ _ (((Ext.refl _).push' _).push' _)) ?_; rintro _ _ ⟨rfl, h9⟩; rw [h9]; clear h9; go_simp) | ((rw [aBuild_struct st76 ze76]); go_simp));refine hK2 _ _ ?_;clear hK2 K2))
  refine CodeS.loop (fun m f J => ∃ (k : Nat) (u : Value), k ≤ p.length ∧ m = p.length - k ∧ f.tmp 10 = .int .i64 k ∧ f.tmp 0 = .int .i64 n ∧ f.tmp 1 = .slice pa p.length pc ∧ f.tmp 2 = .int .i64 turn ∧ f.tmp 8 = .int .i64 S ∧ f.tmp 9 = .int .i64 (n - ((baseL n p).take k).sum) ∧ f.tmp 7 = .pointer (some ⟨H.n + 1, 0, none⟩) ∧ f.tmp 6 = .pointer (some ⟨H.n, 0, none⟩) ∧ f.defers = [] ∧ Hid (Own J (H.n + 2) u 3 1 (((baseL n p).take k).map (Value.int .i64))) ∧ Hid (Ext H J) ∧ H.n + 2 ≤ J.n ∧ Hid (J.get (H.n + 1) = .row [u, .int .i64 turn, .int .i64 0] 76) ∧ Hid (J.get H.n = .row [.slice none 0 0, .int .i64 0, .int .i64 0] 76)) p.length ?_ ?_
  · refine ⟨0, .slice none 0 0, by omega, by omega, (by first|go_simp<;>go_num|assumption), (by first|go_simp<;>go_num|assumption), (by first|go_simp<;>go_num|assumption), (by first|go_simp<;>go_num|assumption), (by first|go_simp<;>go_num|assumption), (by first|go_simp<;>go_num|assumption), (by first|go_simp<;>go_num|assumption), (by first|go_simp<;>go_num|assumption), (by first|go_simp<;>go_num|assumption), Lib.hid Own.nil, Lib.hid (((Ext.refl _).push' _).push' _), by simp only [AHeap.n_push]; omega, Lib.hid ?_, Lib.hid ?_⟩
    · exact AHeap.get_push_new
    · rw [AHeap.get_push_old (by rw [AHeap.n_push]; omega), AHeap.get_push_new]
  clear f0 f1 f2 hd f
  rintro m f J ⟨k, u, hk, rfl, f10, f0, f1, f2, f8, f9, f7, f6, hd, HO, HX, hnn, HG1, HG0⟩
  obtain ⟨a1, n1, rfl⟩ := own_sliceP HO.out
  have HBIG : Hid (((((baseL n p).take k).map (Value.int .i64)).length + 1) * max 8 1 ≤ 1073741824) := Lib.hid (by rw [List.length_map, List.length_take, baseL_len]; show (min k p.length + 1) * 8 ≤ 1073741824; omega)
  have HNN := Lib.hid hnn
  have hl1 : H.n + 1 < J.n := by omega
  have hl0 : H.n < J.n := by omega
  have hc0 : cellAt J (H.n + 1) 0 = some (.slice a1 n1 n1) := by simp [cellAt, HG1.out]
  have hcc : cellsAt J (H.n + 1) 0 3 = some [.slice a1 n1 n1, .int .i64 turn, .int .i64 0] := by simp [cellsAt, HG1.out]
  clear hnn
  by_cases hlt : k < p.length
  · obtain ⟨b, o, sp, rfl, hb0, hx0⟩ := HP.out.at_ hlt
    have HB0 := Lib.hid hb0
    have HX0 := Lib.hid hx0
    have hb : b < J.n := Nat.lt_of_lt_of_le hb0 HX.out.n
    have hx : cellAt J b (o + k) = some (.int .i64 p[k]) := (HX.out.cellAt hb0).trans hx0
    clear hb0 hx0
    have hlb : (k : Int) < (p.length : Int) := by omega
    have HTK : Hid ((baseL n p).take (k + 1) = (baseL n p).take k ++ [n * p[k] / S]) := Lib.hid (by
      rw [List.take_succ_eq_append_getElem (by rw [baseL_len]; exact hlt), ← HS.out]; simp [baseL])
    have hm := mul_n HD.out.amt (HF.out.bd _ (List.getElem_mem hlt))
    have hb1 := HB2.out k
    have hb2 := HB2.out (k + 1)
    have hsm : ((baseL n p).take (k + 1)).sum = ((baseL n p).take k).sum + n * p[k] / S := by rw [HTK.out, List.sum_append]; simp
    have hamt := HD.out.amt
    generalize p[k] = x at hx HTK hm hsm HX0
    have hm1 := hm.1
    have hm2 : n * x ≤ 9223372036854775807 := by omega
    have w1 := wrap_id (n := n * x) (by omega)
    have w2 := wrap_id (n := (k : Int) + 1) (by omega)
    generalize ((baseL n p).take k).sum = T at f9 hb1 hsm
    have w3 := wrap_id (n := n - T - n * x / S) (by omega)
    have HSM : Hid (n - ((baseL n p).take (k + 1)).sum = n - T - n * x / S) := Lib.hid (by rw [hsm]; omega)
    clear hm hb1 hb2 hsm hamt
    repeat' (first|(with_reducible first|refine zA ?_|refine zB fun K hK=>?_|refine zC fun K2 hK2=>?_|refine zD ?_|refine zE ?_|refine zF ?_|refine zG ?_|refine zH ?_|refine zI ?_|refine zM ?_|refine zN ?_|refine zO ?_|refine zP ?_|refine zQ ?_|refine zR ?_)|((with_reducible refine zU (hK _ _ ?_));clear hK K)|((with_reducible refine zV ?_ ?_ fun K1 K3 d hdst h1 h3=>?_);rfl;exact yB rfl;cases hdst;go_simp)|((with_reducible refine zW fun K1 K3 h1 h3=>?_);go_simp)|((first|refine h1 ?_|refine h3 ?_);clear h1 h3 K1 K3)|((first|refine zX (fun hb=>h1 ?_) (fun hb=>h3 ?_)|refine zX (fun hb=>h3 ?_) (fun hb=>h1 ?_))<;>(clear h1 h3 K1 K3;(try have hb2:=yC hb);(try have hb2:=yD hb);(try have hb2:=yE hb);(try have hb2:=yF hb);(try have hb2:=yG hb)))|(refine fun (K2:_→AHeap→Prop) hK2=>?_)|((with_reducible refine zY ?_ ?_);decide)|((with_reducible first|refine zZ ?_ (fun K hK=>?_)|refine yA ?_ (fun K hK=>?_));(focus go_simp;done);go_simp;refine hK _ _ ?_;clear hK K)|((with_reducible refine yH mixed rfl ?_ 20 fun K0 hK0=>?_);kernel_rfl)|(with_reducible first|exact yI|exact yJ|refine yK ?_|refine yL ?_|refine yM ?_)|((with_reducible first|refine yN ?_ ?_|refine yO ?_ ?_|refine yP ?_ ?_);rfl)|((with_reducible refine yQ ?_ ?_);rfl;refine hK0 _ _ ?_;clear hK0 K0)|((with_reducible refine yR ?_ ?_ ?_ ?_);rfl;rfl;rfl)|((with_reducible refine yS ?_ ?_ ?_ fun K2 hK2=>?_);rfl;rfl;exact yB rfl)|((with_reducible refine yT ?_ ?_ ?_ ?_ fun K1 K3 d hdst h1 h3=>?_);rfl;rfl;rfl;exact yB rfl;cases hdst;go_simp)|((with_reducible refine yU ?_ ?_ ?_ ?_ fun K1 K3 d hdst h1 h3=>?_);rfl;rfl;rfl;exact yB rfl;cases hdst;go_simp)|((with_reducible refine yV ?_ ?_ (fun K2 hK2=>?_) ?_);rfl;exact yB rfl)|((with_reducible refine yW ?_ ?_ ?_ ?_ (fun K2 hK2=>?_) ?_);rfl;exact yB rfl;rfl;(focus go_simp;done))|((with_reducible refine yX ?_ ?_ ?_ (fun K2 hK2=>?_) ?_);rfl;rfl;exact yB rfl)|((with_reducible refine yY ?_ ?_ (fun K2 hK2=>?_) ?_);rfl;rfl)|((with_reducible refine yZ ?_ ?_);(first|rfl|(dsimp only;decide +kernel)))|((with_reducible refine xA ?_ ?_);(focus go_simp;done))|(go_simp;(try go_bits);(try first | ((refine one_v el23 sz3 ze3 rfl (by decide) (by decide) rfl rfl ?_); go_simp) | ((refine append_v el23 sz3 by3 ze3 rfl (by decide) (HO.out.ext (Ext.push _)) (srcCells_new rfl) (by decide) rfl (by rw [List.all_append, oneV_ints]; rfl) HBIG.out (by rw [AHeap.n_push]; have := HNN.out; omega) fun v2 H4 ho4 hg4 => ?_); (obtain ⟨a4, n4, rfl⟩ := own_sliceP ho4); (have HO4 := Lib.hid ho4); (have HX4 := Lib.hid (hg4.ext (HO.out.ext (Ext.push _)) (by have := HNN.out; omega) (HX.out.push' _))); (have hg41 : H4.get (H.n + 1) = .row [.slice a1 n1 n1, .int .i64 turn, .int .i64 0] 76 := by (rw [grown_low hg4 (HO.out.ext (Ext.push _)) (by omega) (by rw [AHeap.n_push]; have := HNN.out; omega), AHeap.get_push_old (by have := HNN.out; omega)]; exact HG1.out)); (have HG40 : Hid (H4.get H.n = .row [.slice none 0 0, .int .i64 0, .int .i64 0] 76) := Lib.hid (by (rw [grown_low hg4 (HO.out.ext (Ext.push _)) (by omega) (by rw [AHeap.n_push]; have := HNN.out; omega), AHeap.get_push_old (by have := HNN.out; omega)]; exact HG0.out))); (have hc4 : cellAt H4 (H.n + 1) 0 = some (.slice a1 n1 n1) := by simp [cellAt, hg41]); (have hx4 : cellAt H4 b (o + k) = some (.int .i64 x) := (HX4.out.cellAt HB0.out).trans HX0.out); (have hb4 : b < H4.n := Nat.lt_of_lt_of_le HB0.out HX4.out.n); (have hx5 : ∀ y, cellAt (H4.upd (H.n + 1) y) b (o + k) = some (.int .i64 x) := fun y => by (have h9 := HB0.out; rw [cellAt, AHeap.get_upd_ne (by omega)]; exact hx4)); (have hl4 : H.n + 1 < H4.n := by (have h5 := hg4.1; rw [AHeap.n_push] at h5; have := HNN.out; omega)); clear ho4 hg4; go_simp));(first|(refine hK2 _ _ ?_ ?_<;>clear hK2 K2)|(refine hK2 _ _ ?_;clear hK2 K2))))
    refine Post.round_normal ⟨p.length - (k + 1), by omega, k + 1, .slice a4 n4 n4, by omega, rfl, (by first|go_simp<;>go_num|assumption), (by first|go_simp<;>go_num|assumption), (by first|go_simp<;>go_num|assumption), (by first|go_simp<;>go_num|assumption), (by first|go_simp<;>go_num|assumption), (by rw [HSM.out]; go_simp), (by first|go_simp<;>go_num|assumption), (by first|go_simp<;>go_num|assumption), (by first|go_simp<;>go_num|assumption), Lib.hid ?_, Lib.hid (HX4.out.upd (by omega) _), by rw [AHeap.n_upd]; omega, Lib.hid ?_, Lib.hid ?_⟩
    · rw [HTK.out, List.map_append]
      exact own_upd (HO4.out.mono (by rw [AHeap.n_push]; have := HNN.out; omega)) (by omega) _
    · rw [AHeap.get_upd, if_pos rfl]
    · rw [AHeap.get_upd_ne (by omega)]; exact HG40.out
  · have hlb : ¬ (k : Int) < (p.length : Int) := by omega
    obtain rfl : k = p.length := by omega
    have ho := HO.out
    rw [List.take_of_length_le (by rw [baseL_len]; exact Nat.le_refl _)] at ho f9
    obtain ⟨b, he, hbk⟩ := own_blk ho (by rw [baseL_len]; omega)
    rw [baseL_len] at he
    cases he
    have HBK := Lib.hid hbk
    clear ho hbk hc0 hcc hl1 hl0
    repeat' (first|(with_reducible first|refine zA ?_|refine zB fun K hK=>?_|refine zC fun K2 hK2=>?_|refine zD ?_|refine zE ?_|refine zF ?_|refine zG ?_|refine zH ?_|refine zI ?_|refine zM ?_|refine zN ?_|refine zO ?_|refine zP ?_|refine zQ ?_|refine zR ?_)|((with_reducible refine zU (hK _ _ ?_));clear hK K)|((with_reducible refine zV ?_ ?_ fun K1 K3 d hdst h1 h3=>?_);rfl;exact yB rfl;cases hdst;go_simp)|((with_reducible refine zW fun K1 K3 h1 h3=>?_);go_simp)|((first|refine h1 ?_|refine h3 ?_);clear h1 h3 K1 K3)|((first|refine zX (fun hb=>h1 ?_) (fun hb=>h3 ?_)|refine zX (fun hb=>h3 ?_) (fun hb=>h1 ?_))<;>(clear h1 h3 K1 K3;(try have hb2:=yC hb);(try have hb2:=yD hb);(try have hb2:=yE hb);(try have hb2:=yF hb);(try have hb2:=yG hb)))|(refine fun (K2:_→AHeap→Prop) hK2=>?_)|((with_reducible refine zY ?_ ?_);decide)|((with_reducible first|refine zZ ?_ (fun K hK=>?_)|refine yA ?_ (fun K hK=>?_));(focus go_simp;done);go_simp;refine hK _ _ ?_;clear hK K)|(go_simp;(try go_bits);refine hK2 _ _ ?_;clear hK2 K2))
    clear f10 hlb hlt hk
    refine CodeS.loop (fun m f K => ∃ (k : Nat) (st : DSt), k ≤ p.length ∧ m = p.length - k ∧ f.tmp 11 = .int .i64 k ∧ f.tmp 0 = .int .i64 n ∧ f.tmp 1 = .slice pa p.length pc ∧ f.tmp 2 = .int .i64 turn ∧ f.tmp 8 = .int .i64 S ∧ f.tmp 9 = .int .i64 st.left ∧ f.tmp 7 = .pointer (some ⟨H.n + 1, 0, none⟩) ∧ f.tmp 6 = .pointer (some ⟨H.n, 0, none⟩) ∧ f.defers = [] ∧ Hid (divS n p turn k = st) ∧ Hid (OwnB K (H.n + 2) b st.s) ∧ Hid (Ext H K) ∧ H.n + 2 ≤ K.n ∧ Hid (K.get (H.n + 1) = .row [.slice (some ⟨b, 0, none⟩) p.length p.length, .int .i64 st.next, .int .i64 0] 76) ∧ Hid (K.get H.n = .row [.slice none 0 0, .int .i64 0, .int .i64 0] 76)) p.length ?_ ?_
    · exact ⟨0, ⟨baseL n p, n - (baseL n p).sum, turn⟩, by omega, by omega, (by first|go_simp<;>go_num|assumption), (by first|go_simp<;>go_num|assumption), (by first|go_simp<;>go_num|assumption), (by first|go_simp<;>go_num|assumption), (by first|go_simp<;>go_num|assumption), (by first|go_simp<;>go_num|assumption), (by first|go_simp<;>go_num|assumption), (by first|go_simp<;>go_num|assumption), (by first|go_simp<;>go_num|assumption), Lib.hid rfl, HBK, HX, HNN.out, HG1, HG0⟩
    clear f0 f1 f2 f8 f9 f7 f6 hd f
    rintro m f K ⟨k, st, hk, rfl, f11, f0, f1, f2, f8, f9, f7, f6, hd, HST, HOB, HXJ, hkn, HK1, HK0⟩
    have HKN := Lib.hid hkn
    have hl1 : H.n + 1 < K.n := by omega
    have hl0 : H.n < K.n := by omega
    have hg1 := HK1.out
    have hdf := dFacts HD.out k
    rw [HST.out] at hdf
    clear hkn
    by_cases hgo : k < p.length ∧ 0 < st.left
    · obtain ⟨hlt, hpos⟩ := hgo
      have hlb : (k : Int) < (p.length : Int) := by omega
      obtain ⟨hw1, hw2⟩ := who_lt HF.out (k := k) HD.out.at_.1
      have HNX : Hid (divS n p turn (k + 1) = if ¬ (n * p.getD (whoD p turn k) 0) % S = 0 then ⟨st.s.set (whoD p turn k) (st.s.getD (whoD p turn k) 0 + 1), st.left - 1, ((whoD p turn k : Int) + 1) % p.length⟩ else st) := Lib.hid (by
        rw [divS, HST.out, divStep, HS.out]
        by_cases h9 : n * p.getD (whoD p turn k) 0 % S = 0
        · rw [if_neg (fun hc => hc.2 h9), if_neg (fun hc => hc h9)]
        · rw [if_pos ⟨hpos, h9⟩, if_pos h9])
      obtain ⟨b1, o1, sp1, hpa, hb1, hx1⟩ := (HP.out.ext HXJ.out).at_ hw1
      subst hpa
      have hq : p.getD (whoD p turn k) 0 = p[whoD p turn k] := by rw [List.getD, List.getElem?_eq_getElem hw1]; rfl
      rw [hq] at HNX
      have hm := mul_n HD.out.amt (HF.out.bd _ (List.getElem_mem hw1))
      generalize p[whoD p turn k] = x at hx1 HNX hm
      have hsl := hdf.len
      have hcell := HOB.out.cell (k := whoD p turn k) (by rw [hsl]; exact hw1)
      have hyb : 0 ≤ st.s.getD (whoD p turn k) 0 ∧ st.s.getD (whoD p turn k) 0 ≤ 1099511627776 + k := by
        have hl : whoD p turn k < st.s.length := by rw [hsl]; exact hw1
        have := hdf.bd _ (List.getElem_mem hl)
        rw [List.getD, List.getElem?_eq_getElem hl]; exact this
      have hrow := HOB.out.row
      have hbJ := HOB.out.hi
      have hws : whoD p turn k < st.s.length := by rw [hsl]; exact hw1
      have hturn := HD.out.at_
      generalize st.s.getD (whoD p turn k) 0 = y at hcell hyb HNX
      generalize whoD p turn k = w at hw1 hw2 hx1 hcell hws HNX
      have hm1 := hm.1
      have w1 := wrap_id (n := n * x) (by omega)
      have w2 := wrap_id (n := (k : Int) + 1) (by omega)
      have w4 := wrap_id (n := turn + (k : Int)) (by omega)
      have w5 := wrap_id (n := y + 1) (by omega)
      have hlf := hdf.left
      have w6 := wrap_id (n := st.left - 1) (by omega)
      have w7 := wrap_id (n := (w : Int) + 1) (by omega)
      have hk0 : 0 ≤ turn + (k : Int) := by omega
      have hp1 : 1 ≤ (p.length : Int) := by omega
      have hw0 : 0 ≤ (w : Int) + 1 := by omega
      have hwp : (w : Int) < (p.length : Int) := by omega
      have hlo := HOB.out.lo
      have hne1 : ¬ b = H.n + 1 := by omega
      have hne2 : ¬ H.n + 1 = b := by omega
      have hrem : 0 ≤ n * x % S := Int.emod_nonneg _ (by omega)
      obtain ⟨s, lf, nx⟩ := st
      simp only at *
      have hc0 : cellAt K (H.n + 1) 0 = some (.slice (some ⟨b, 0, none⟩) p.length p.length) := by simp [cellAt, hg1]
      clear hm hyb hlf hturn hdf hsl hlo hq
      by_cases hc : n * x % S = 0
      · rw [if_neg (by simp [hc])] at HNX
        clear hne1 hne2 hrem
        repeat' (first|(with_reducible first|refine zA ?_|refine zB fun K hK=>?_|refine zC fun K2 hK2=>?_|refine zD ?_|refine zE ?_|refine zF ?_|refine zG ?_|refine zH ?_|refine zI ?_|refine zM ?_|refine zN ?_|refine zO ?_|refine zP ?_|refine zQ ?_|refine zR ?_)|((with_reducible refine zU (hK _ _ ?_));clear hK K)|((with_reducible refine zV ?_ ?_ fun K1 K3 d hdst h1 h3=>?_);rfl;exact yB rfl;cases hdst;go_simp)|((with_reducible refine zW fun K1 K3 h1 h3=>?_);go_simp)|((first|refine h1 ?_|refine h3 ?_);clear h1 h3 K1 K3)|((first|refine zX (fun hb=>h1 ?_) (fun hb=>h3 ?_)|refine zX (fun hb=>h3 ?_) (fun hb=>h1 ?_))<;>(clear h1 h3 K1 K3;(try have hb2:=yC hb);(try have hb2:=yD hb);(try have hb2:=yE hb);(try have hb2:=yF hb);(try have hb2:=yG hb)))|(refine fun (K2:_→AHeap→Prop) hK2=>?_)|((with_reducible refine zY ?_ ?_);decide)|((with_reducible first|refine zZ ?_ (fun K hK=>?_)|refine yA ?_ (fun K hK=>?_));(focus go_simp;done);go_simp;refine hK _ _ ?_;clear hK K)|(go_simp;(try go_bits);refine hK2 _ _ ?_;clear hK2 K2))
        exact Post.round_normal ⟨p.length - (k + 1), by omega, k + 1, ⟨s, lf, nx⟩, by omega, rfl, (by first|go_simp<;>go_num|assumption), (by first|go_simp<;>go_num|assumption), (by first|go_simp<;>go_num|assumption), (by first|go_simp<;>go_num|assumption), (by first|go_simp<;>go_num|assumption), (by first|go_simp<;>go_num|assumption), (by first|go_simp<;>go_num|assumption), (by first|go_simp<;>go_num|assumption), (by first|go_simp<;>go_num|assumption), HNX, HOB, HXJ, HKN.out, HK1, HK0⟩
      · rw [if_pos hc] at HNX
        have hc2 : 0 < n * x % S := by omega
        clear hc hrem
        repeat' (first|(with_reducible first|refine zA ?_|refine zB fun K hK=>?_|refine zC fun K2 hK2=>?_|refine zD ?_|refine zE ?_|refine zF ?_|refine zG ?_|refine zH ?_|refine zI ?_|refine zM ?_|refine zN ?_|refine zO ?_|refine zP ?_|refine zQ ?_|refine zR ?_)|((with_reducible refine zU (hK _ _ ?_));clear hK K)|((with_reducible refine zV ?_ ?_ fun K1 K3 d hdst h1 h3=>?_);rfl;exact yB rfl;cases hdst;go_simp)|((with_reducible refine zW fun K1 K3 h1 h3=>?_);go_simp)|((first|refine h1 ?_|refine h3 ?_);clear h1 h3 K1 K3)|((first|refine zX (fun hb=>h1 ?_) (fun hb=>h3 ?_)|refine zX (fun hb=>h3 ?_) (fun hb=>h1 ?_))<;>(clear h1 h3 K1 K3;(try have hb2:=yC hb);(try have hb2:=yD hb);(try have hb2:=yE hb);(try have hb2:=yF hb);(try have hb2:=yG hb)))|(refine fun (K2:_→AHeap→Prop) hK2=>?_)|((with_reducible refine zY ?_ ?_);decide)|((with_reducible first|refine zZ ?_ (fun K hK=>?_)|refine yA ?_ (fun K hK=>?_));(focus go_simp;done);go_simp;refine hK _ _ ?_;clear hK K)|((with_reducible refine yH mixed rfl ?_ 20 fun K0 hK0=>?_);kernel_rfl)|(with_reducible first|exact yI|exact yJ|refine yK ?_|refine yL ?_|refine yM ?_)|((with_reducible first|refine yN ?_ ?_|refine yO ?_ ?_|refine yP ?_ ?_);rfl)|((with_reducible refine yQ ?_ ?_);rfl;refine hK0 _ _ ?_;clear hK0 K0)|((with_reducible refine yR ?_ ?_ ?_ ?_);rfl;rfl;rfl)|((with_reducible refine yS ?_ ?_ ?_ fun K2 hK2=>?_);rfl;rfl;exact yB rfl)|((with_reducible refine yT ?_ ?_ ?_ ?_ fun K1 K3 d hdst h1 h3=>?_);rfl;rfl;rfl;exact yB rfl;cases hdst;go_simp)|((with_reducible refine yU ?_ ?_ ?_ ?_ fun K1 K3 d hdst h1 h3=>?_);rfl;rfl;rfl;exact yB rfl;cases hdst;go_simp)|((with_reducible refine yV ?_ ?_ (fun K2 hK2=>?_) ?_);rfl;exact yB rfl)|((with_reducible refine yW ?_ ?_ ?_ ?_ (fun K2 hK2=>?_) ?_);rfl;exact yB rfl;rfl;(focus go_simp;done))|((with_reducible refine yX ?_ ?_ ?_ (fun K2 hK2=>?_) ?_);rfl;rfl;exact yB rfl)|((with_reducible refine yY ?_ ?_ (fun K2 hK2=>?_) ?_);rfl;rfl)|((with_reducible refine yZ ?_ ?_);(first|rfl|(dsimp only;decide +kernel)))|((with_reducible refine xA ?_ ?_);(focus go_simp;done))|(go_simp;(try go_bits);(first|(refine hK2 _ _ ?_ ?_<;>clear hK2 K2)|(refine hK2 _ _ ?_;clear hK2 K2))))
        refine Post.round_normal ⟨p.length - (k + 1), by omega, k + 1, ⟨s.set w (y + 1), lf - 1, ((w : Int) + 1) % p.length⟩, by omega, rfl, (by first|go_simp<;>go_num|assumption), (by first|go_simp<;>go_num|assumption), (by first|go_simp<;>go_num|assumption), (by first|go_simp<;>go_num|assumption), (by first|go_simp<;>go_num|assumption), (by first|go_simp<;>go_num|assumption), (by first|go_simp<;>go_num|assumption), (by first|go_simp<;>go_num|assumption), (by first|go_simp<;>go_num|assumption), HNX, Lib.hid ⟨HOB.out.lo, by simp only [AHeap.n_upd]; exact HOB.out.hi, by rw [AHeap.get_upd_ne hne1, AHeap.get_upd, if_pos rfl, List.map_set]⟩, Lib.hid ((HXJ.out.upd (by have := HOB.out.lo; omega) _).upd (by omega) _), by simp only [AHeap.n_upd]; exact HKN.out, Lib.hid ?_, Lib.hid ?_⟩
        · rw [AHeap.get_upd, if_pos rfl]
        · rw [AHeap.get_upd_ne (by omega), AHeap.get_upd_ne (by have := HOB.out.lo; omega)]; exact HK0.out
    · have HFI : Hid (divS n p turn p.length = st) := Lib.hid (by
        rcases Nat.lt_or_ge k p.length with h1 | h1
        · have h2 : ¬ 0 < (divS n p turn k).left := by rw [HST.out]; exact fun h => hgo ⟨h1, h⟩
          have := divS_stop h2 (p.length - k)
          rw [show k + (p.length - k) = p.length by omega, HST.out] at this
          exact this
        · rw [show p.length = k by omega]; exact HST.out)
      have hg0 := HK0.out
      have hcc : cellsAt K (H.n + 1) 0 3 = some [.slice (some ⟨b, 0, none⟩) p.length p.length, .int .i64 st.next, .int .i64 0] := by simp [cellsAt, hg1]
      have hlo := HOB.out.lo
      have hb9 : ¬ b = H.n := by omega
      rcases Nat.lt_or_ge k p.length with h1 | h1
      · have hlb : (k : Int) < (p.length : Int) := by omega
        have hps : ¬ 0 < st.left := fun h => hgo ⟨h1, h⟩
        clear hgo hdf h1 hlo
        repeat' (first|(with_reducible first|refine zA ?_|refine zB fun K hK=>?_|refine zC fun K2 hK2=>?_|refine zD ?_|refine zE ?_|refine zF ?_|refine zG ?_|refine zH ?_|refine zI ?_|refine zM ?_|refine zN ?_|refine zO ?_|refine zP ?_|refine zQ ?_|refine zR ?_)|((with_reducible refine zU (hK _ _ ?_));clear hK K)|((with_reducible refine zV ?_ ?_ fun K1 K3 d hdst h1 h3=>?_);rfl;exact yB rfl;cases hdst;go_simp)|((with_reducible refine zW fun K1 K3 h1 h3=>?_);go_simp)|((first|refine h1 ?_|refine h3 ?_);clear h1 h3 K1 K3)|((first|refine zX (fun hb=>h1 ?_) (fun hb=>h3 ?_)|refine zX (fun hb=>h3 ?_) (fun hb=>h1 ?_))<;>(clear h1 h3 K1 K3;(try have hb2:=yC hb);(try have hb2:=yD hb);(try have hb2:=yE hb);(try have hb2:=yF hb);(try have hb2:=yG hb)))|(refine fun (K2:_→AHeap→Prop) hK2=>?_)|((with_reducible refine zY ?_ ?_);decide)|((with_reducible first|refine zZ ?_ (fun K hK=>?_)|refine yA ?_ (fun K hK=>?_));(focus go_simp;done);go_simp;refine hK _ _ ?_;clear hK K)|(go_simp;(try go_bits);refine hK2 _ _ ?_;clear hK2 K2))
        refine ⟨⟨b, by rw [HFI.out], ?_⟩, HXJ.out.upd (Nat.le_refl _) _⟩
        rw [HFI.out]
        exact ⟨by have := HOB.out.lo; omega, by rw [AHeap.n_upd]; exact HOB.out.hi, by rw [AHeap.get_upd_ne hb9]; exact HOB.out.row⟩
      · have hlb : ¬ (k : Int) < (p.length : Int) := by omega
        clear hgo hdf h1 hlo
        repeat' (first|(with_reducible first|refine zA ?_|refine zB fun K hK=>?_|refine zC fun K2 hK2=>?_|refine zD ?_|refine zE ?_|refine zF ?_|refine zG ?_|refine zH ?_|refine zI ?_|refine zM ?_|refine zN ?_|refine zO ?_|refine zP ?_|refine zQ ?_|refine zR ?_)|((with_reducible refine zU (hK _ _ ?_));clear hK K)|((with_reducible refine zV ?_ ?_ fun K1 K3 d hdst h1 h3=>?_);rfl;exact yB rfl;cases hdst;go_simp)|((with_reducible refine zW fun K1 K3 h1 h3=>?_);go_simp)|((first|refine h1 ?_|refine h3 ?_);clear h1 h3 K1 K3)|((first|refine zX (fun hb=>h1 ?_) (fun hb=>h3 ?_)|refine zX (fun hb=>h3 ?_) (fun hb=>h1 ?_))<;>(clear h1 h3 K1 K3;(try have hb2:=yC hb);(try have hb2:=yD hb);(try have hb2:=yE hb);(try have hb2:=yF hb);(try have hb2:=yG hb)))|(refine fun (K2:_→AHeap→Prop) hK2=>?_)|((with_reducible refine zY ?_ ?_);decide)|((with_reducible first|refine zZ ?_ (fun K hK=>?_)|refine yA ?_ (fun K hK=>?_));(focus go_simp;done);go_simp;refine hK _ _ ?_;clear hK K)|(go_simp;(try go_bits);refine hK2 _ _ ?_;clear hK2 K2))
        refine ⟨⟨b, by rw [HFI.out], ?_⟩, HXJ.out.upd (Nat.le_refl _) _⟩
        rw [HFI.out]
        exact ⟨by have := HOB.out.lo; omega, by rw [AHeap.n_upd]; exact HOB.out.hi, by rw [AHeap.get_upd_ne hb9]; exact HOB.out.row⟩
end Go.Proofs.Tryz
namespace Go.Proofs.Tryz
open Go Go.Am Go.RowKit
set_option maxRecDepth 100000


theorem cells_one {H : AHeap} {b : Nat} {n : Int} (hb : b < H.n) (h : H.get b = .row [.int .i64 n] 3) : Ints H (.slice (some ⟨b, 0, none⟩) 1 1) [n] :=
  ⟨rfl, by simp, _, _, rfl, (fun h => by cases h), fun _ => ⟨b, 0, none, rfl, hb, fun j u hu => by simp only [cellAt, h, Nat.zero_add]; exact hu⟩⟩

theorem share_e {loops : List (Nat × LInfo)} {H : AHeap} {pv : Value} {n turn : Int} {p : List Int} (hp : Ints H pv p) : CallS Tryz.prog loops 43 [.int .i64 n, pv, .int .i64 turn] H fun r H' => (∃ a m c, r = .tuple #[.slice a m c, .int .i64 (shT [n] p turn), .int .i64 (errS [n] p turn)] ∧ Ints H' (.slice a m c) (shL [n] p turn)) ∧ Ext H H' := by
  have HSH := Lib.hid (fun (loops : List (Nat × LInfo)) => shares_e (loops := loops) (turn := turn) (cells_one (n := n) (H := H.push (.row [.int .i64 n] 3)) (b := H.n) (by rw [AHeap.n_push]; omega) AHeap.get_push_new) (hp.ext (Ext.push _)))
  obtain ⟨hplen, pa, pc, rfl⟩ := hp.slice
  clear hp
  generalize shT [n] p turn = t at HSH ⊢
  generalize errS [n] p turn = e at HSH ⊢
  generalize shL [n] p turn = sl at HSH ⊢
  refine CallS.enter' Tryz.func43 rfl Tryz.ntmps43 (by simp) fun f hd hf => ?_
  have f0 := hf 0
  have f1 := hf 1
  have f2 := hf 2
  simp at f0 f1 f2
  clear hf
  repeat' (first|(with_reducible first|refine zA ?_|refine zB fun K hK=>?_|refine zC fun K2 hK2=>?_|refine zD ?_|refine zE ?_|refine zF ?_|refine zG ?_|refine zH ?_|refine zI ?_|refine zM ?_|refine zN ?_|refine zO ?_|refine zP ?_|refine zQ ?_|refine zR ?_)|((with_reducible refine zU (hK _ _ ?_));clear hK K)|((with_reducible refine zV ?_ ?_ fun K1 K3 d hdst h1 h3=>?_);rfl;exact yB rfl;cases hdst;go_simp)|((with_reducible refine zW fun K1 K3 h1 h3=>?_);go_simp)|((first|refine h1 ?_|refine h3 ?_);clear h1 h3 K1 K3)|((first|refine zX (fun hb=>h1 ?_) (fun hb=>h3 ?_)|refine zX (fun hb=>h3 ?_) (fun hb=>h1 ?_))<;>(clear h1 h3 K1 K3;(try have hb2:=yC hb);(try have hb2:=yD hb);(try have hb2:=yE hb);(try have hb2:=yF hb);(try have hb2:=yG hb)))|(refine fun (K2:_→AHeap→Prop) hK2=>?_)|((with_reducible refine zY ?_ ?_);decide)|((with_reducible first|refine zZ ?_ (fun K hK=>?_)|refine yA ?_ (fun K hK=>?_));(focus go_simp;done);go_simp;refine hK _ _ ?_;clear hK K)|(go_simp;(try go_bits);(try first | ((refine one_k el23 sz3 ze3 rfl (by decide) (by decide) rfl rfl ?_); go_simp) | ((with_reducible show CallS _ _ _ _ _ _);refine CallS.mono (HSH.out _) ?_; rintro _ J2 ⟨⟨a2, n2, c2, rfl, hi2⟩, hx2⟩; (have HI2 := Lib.hid hi2); (have HX2 := Lib.hid hx2); clear hi2 hx2));refine hK2 _ _ ?_;clear hK2 K2))
  exact ⟨⟨_, _, _, rfl, HI2.out⟩, (Ext.push _).trans HX2.out⟩
end Go.Proofs.Tryz
namespace Go.Proofs.Tryz
open Go Go.Am Go.RowKit
set_option maxRecDepth 100000


theorem stop_seqT {cx : Cx} {f : AF} {H : AHeap} {Q : Post} {n : Nat} {ops : Array Oper} {b : Bool} {z : Code} (h : Stop (CodeS Tryz.prog cx (.seq (.region n ops b) z) f H Q)) : CodeS Tryz.prog cx (.seq (.region n ops b) z) f H Q := h.out

set_option maxHeartbeats 8000000 in
theorem refShares_e {loops : List (Nat × LInfo)} {H : AHeap} {v pv : Value} {l p : List Int} {turn : Int} (hv : Ints H v l) (hp : Ints H pv p) (hpl : p.length ≤ 1000) : CallS Tryz.prog loops 46 [v, pv, .int .i64 turn] H fun r H' => (∃ a n c, r = .agg #[.slice a n c, .int .i64 (shT l p turn), .int .i64 (errS l p turn)] ∧ Ints H' (.slice a n c) (shL l p turn) ∧ ∀ x, a = some x → H.n < x.block) ∧ Ext H H' := by
  have HRP := Lib.hid (fun (loops : List (Nat × LInfo)) (H2 : AHeap) (hx : Ext H H2) => refParts_s (loops := loops) (hp.ext hx) hpl)
  have HV := Lib.hid hv
  have HP := Lib.hid hp
  obtain ⟨hlen, a, c, rfl⟩ := hv.slice
  obtain ⟨hplen, pa, pc, rfl⟩ := hp.slice
  have w1 := wrap_id (n := (p.length : Int) - 1) (by omega)
  clear hv hp
  by_cases h80 : 80 < l.length
  · have h80b : (80 : Int) < (l.length : Int) := by omega
    have hE : errS l p turn = 2 := if_pos h80
    rw [shL, shT, hE, if_neg (by decide), if_neg (by decide)]
    clear hE h80
    refine CallS.enter' Tryz.func46 rfl Tryz.ntmps46 (by simp) fun f hd hf => ?_
    have f0 := hf 0
    have f1 := hf 1
    have f2 := hf 2
    simp at f0 f1 f2
    clear hf
    repeat' (first|(with_reducible first|refine zA ?_|refine zB fun K hK=>?_|refine zC fun K2 hK2=>?_|refine zD ?_|refine zE ?_|refine zF ?_|refine zG ?_|refine zH ?_|refine zI ?_|refine zM ?_|refine zN ?_|refine zO ?_|refine zP ?_|refine zQ ?_|refine zR ?_)|((with_reducible refine zU (hK _ _ ?_));clear hK K)|((with_reducible refine zV ?_ ?_ fun K1 K3 d hdst h1 h3=>?_);rfl;exact yB rfl;cases hdst;go_simp)|((with_reducible refine zW fun K1 K3 h1 h3=>?_);go_simp)|((first|refine h1 ?_|refine h3 ?_);clear h1 h3 K1 K3)|((first|refine zX (fun hb=>h1 ?_) (fun hb=>h3 ?_)|refine zX (fun hb=>h3 ?_) (fun hb=>h1 ?_))<;>(clear h1 h3 K1 K3;(try have hb2:=yC hb);(try have hb2:=yD hb);(try have hb2:=yE hb);(try have hb2:=yF hb);(try have hb2:=yG hb)))|(refine fun (K2:_→AHeap→Prop) hK2=>?_)|((with_reducible refine zY ?_ ?_);decide)|((with_reducible first|refine zZ ?_ (fun K hK=>?_)|refine yA ?_ (fun K hK=>?_));(focus go_simp;done);go_simp;refine hK _ _ ?_;clear hK K)|(go_simp;(try go_bits);(try first | ((rw [aBuild_struct st76 ze76]); go_simp));refine hK2 _ _ ?_;clear hK2 K2))
    exact ⟨⟨_, _, _, rfl, ints_nil fun _ => rfl, fun x h => by cases h⟩, (Ext.refl _).push' _⟩
  have h80b : ¬ (80 : Int) < (l.length : Int) := by omega
  have HRT := Lib.hid (fun (loops : List (Nat × LInfo)) (H2 : AHeap) (hx : Ext H H2) (h : l.all (win 0 1099511627776) = true) => refTotal_s (loops := loops) (HV.out.ext hx) (small_all h (by decide) (by omega)))
  generalize hEr : errS l p turn = er
  have HER := Lib.hid hEr
  clear hEr
  refine CallS.enter' Tryz.func46 rfl Tryz.ntmps46 (by simp) fun f hd hf => ?_
  have f0 := hf 0
  have f1 := hf 1
  have f2 := hf 2
  simp at f0 f1 f2
  clear hf
  repeat' (first|(with_reducible first|refine zA ?_|refine zB fun K hK=>?_|refine zC fun K2 hK2=>?_|refine zD ?_|refine zE ?_|refine zF ?_|refine zG ?_|refine zH ?_|refine zI ?_|refine zM ?_|refine zN ?_|refine zO ?_|refine zP ?_|refine zQ ?_|refine zR ?_)|((with_reducible refine zU (hK _ _ ?_));clear hK K)|((with_reducible refine zV ?_ ?_ fun K1 K3 d hdst h1 h3=>?_);rfl;exact yB rfl;cases hdst;go_simp)|((with_reducible refine zW fun K1 K3 h1 h3=>?_);go_simp)|((first|refine h1 ?_|refine h3 ?_);clear h1 h3 K1 K3)|((first|refine zX (fun hb=>h1 ?_) (fun hb=>h3 ?_)|refine zX (fun hb=>h3 ?_) (fun hb=>h1 ?_))<;>(clear h1 h3 K1 K3;(try have hb2:=yC hb);(try have hb2:=yD hb);(try have hb2:=yE hb);(try have hb2:=yF hb);(try have hb2:=yG hb)))|(refine fun (K2:_→AHeap→Prop) hK2=>?_)|((with_reducible refine zY ?_ ?_);decide)|((with_reducible first|refine zZ ?_ (fun K hK=>?_)|refine yA ?_ (fun K hK=>?_));(focus go_simp;done);go_simp;refine hK _ _ ?_;clear hK K)|(go_simp;(try go_bits);refine hK2 _ _ ?_;clear hK2 K2))
  refine CodeS.loop (fun m f J => ∃ k : Nat, k ≤ l.length ∧ m = l.length - k ∧ f.tmp 7 = .int .i64 k ∧ f.tmp 0 = .slice a l.length c ∧ f.tmp 1 = .slice pa p.length pc ∧ f.tmp 2 = .int .i64 turn ∧ f.tmp 6 = .pointer (some ⟨H.n, 0, none⟩) ∧ f.defers = [] ∧ Hid ((l.take k).all (win 0 1099511627776) = true) ∧ J = H.push (.row [.slice none 0 0, .int .i64 0, .int .i64 0] 76)) l.length ?_ ?_
  · exact ⟨0, by simp, by simp, (by first|go_simp<;>go_num|assumption), (by first|go_simp<;>go_num|assumption), (by first|go_simp<;>go_num|assumption), (by first|go_simp<;>go_num|assumption), (by first|go_simp<;>go_num|assumption), (by first|go_simp<;>go_num|assumption), Lib.hid (by simp), rfl⟩
  clear f0 f1 f2 hd f
  rintro m f J ⟨k, hk, rfl, f7, f0, f1, f2, f6, hd, HG, rfl⟩
  by_cases hlt : k < l.length
  · obtain ⟨b, o, sp, rfl, hb, hx⟩ := (HV.out.ext (Ext.push (H := H) (.row [.slice none 0 0, .int .i64 0, .int .i64 0] 76))).at_ hlt
    have hlb : (k : Int) < (l.length : Int) := by omega
    have HA : Hid ((l.take (k + 1)).all (win 0 1099511627776) = win 0 1099511627776 l[k]) := Lib.hid (by rw [List.take_succ_eq_append_getElem hlt, List.all_append, HG.out]; simp)
    have HN : Hid (win 0 1099511627776 l[k] = false → errS l p turn = 1) := Lib.hid fun h => by
      have : l.all (win 0 1099511627776) = false := by
        rw [List.all_eq_false]; exact ⟨_, List.getElem_mem hlt, by simp [h]⟩
      unfold errS
      rw [if_neg h80, this]; rfl
    generalize l[k] = y at hx HA HN
    have w2 := wrap_id (n := (k : Int) + 1) (by omega)
    have HI := Lib.hid (fun (loops : List (Nat × LInfo)) (H2 : AHeap) => in_s (loops := loops) (H := H2) (n := y) (lo := 0) (hi := 1099511627776))
    by_cases hy : win 0 1099511627776 y = true
    · rw [hy] at HI HA
      clear hy
      repeat' (first|(with_reducible first|refine zA ?_|refine zB fun K hK=>?_|refine zC fun K2 hK2=>?_|refine zD ?_|refine zE ?_|refine zF ?_|refine zG ?_|refine zH ?_|refine zI ?_|refine zM ?_|refine zN ?_|refine zO ?_|refine zP ?_|refine zQ ?_|refine zR ?_)|((with_reducible refine zU (hK _ _ ?_));clear hK K)|((with_reducible refine zV ?_ ?_ fun K1 K3 d hdst h1 h3=>?_);rfl;exact yB rfl;cases hdst;go_simp)|((with_reducible refine zW fun K1 K3 h1 h3=>?_);go_simp)|((first|refine h1 ?_|refine h3 ?_);clear h1 h3 K1 K3)|((first|refine zX (fun hb=>h1 ?_) (fun hb=>h3 ?_)|refine zX (fun hb=>h3 ?_) (fun hb=>h1 ?_))<;>(clear h1 h3 K1 K3;(try have hb2:=yC hb);(try have hb2:=yD hb);(try have hb2:=yE hb);(try have hb2:=yF hb);(try have hb2:=yG hb)))|(refine fun (K2:_→AHeap→Prop) hK2=>?_)|((with_reducible refine zY ?_ ?_);decide)|((with_reducible first|refine zZ ?_ (fun K hK=>?_)|refine yA ?_ (fun K hK=>?_));(focus go_simp;done);go_simp;refine hK _ _ ?_;clear hK K)|(go_simp;(try go_bits);(try first | ((with_reducible show CallS _ _ _ _ _ _);refine CallS.mono (HI.out _ _) ?_; rintro _ _ ⟨rfl, h9⟩; rw [h9]; clear h9; go_simp));refine hK2 _ _ ?_;clear hK2 K2))
      exact Post.round_normal ⟨l.length - (k + 1), by omega, k + 1, by omega, rfl, (by first|go_simp<;>go_num|assumption), (by first|go_simp<;>go_num|assumption), (by first|go_simp<;>go_num|assumption), (by first|go_simp<;>go_num|assumption), (by first|go_simp<;>go_num|assumption), (by first|go_simp<;>go_num|assumption), HA, rfl⟩
    · have hy2 : win 0 1099511627776 y = false := by simpa using hy
      have hpk := HN.out hy2
      have hpe : er = 1 := HER.out.symm.trans hpk
      subst hpe
      rw [hy2] at HI
      clear hy hy2
      repeat' (first|(with_reducible first|refine zA ?_|refine zB fun K hK=>?_|refine zC fun K2 hK2=>?_|refine zD ?_|refine zE ?_|refine zF ?_|refine zG ?_|refine zH ?_|refine zI ?_|refine zM ?_|refine zN ?_|refine zO ?_|refine zP ?_|refine zQ ?_|refine zR ?_)|((with_reducible refine zU (hK _ _ ?_));clear hK K)|((with_reducible refine zV ?_ ?_ fun K1 K3 d hdst h1 h3=>?_);rfl;exact yB rfl;cases hdst;go_simp)|((with_reducible refine zW fun K1 K3 h1 h3=>?_);go_simp)|((first|refine h1 ?_|refine h3 ?_);clear h1 h3 K1 K3)|((first|refine zX (fun hb=>h1 ?_) (fun hb=>h3 ?_)|refine zX (fun hb=>h3 ?_) (fun hb=>h1 ?_))<;>(clear h1 h3 K1 K3;(try have hb2:=yC hb);(try have hb2:=yD hb);(try have hb2:=yE hb);(try have hb2:=yF hb);(try have hb2:=yG hb)))|(refine fun (K2:_→AHeap→Prop) hK2=>?_)|((with_reducible refine zY ?_ ?_);decide)|((with_reducible first|refine zZ ?_ (fun K hK=>?_)|refine yA ?_ (fun K hK=>?_));(focus go_simp;done);go_simp;refine hK _ _ ?_;clear hK K)|(go_simp;(try go_bits);(try first | ((with_reducible show CallS _ _ _ _ _ _);refine CallS.mono (HI.out _ _) ?_; rintro _ _ ⟨rfl, h9⟩; rw [h9]; clear h9; go_simp) | ((rw [aBuild_struct st76 ze76]); go_simp));refine hK2 _ _ ?_;clear hK2 K2))
      refine ⟨⟨_, _, _, by rw [shT, hpk, if_neg (by decide)], by rw [shL, hpk, if_neg (by decide)]; exact ints_nil fun _ => rfl, fun x h => by cases h⟩, (Ext.refl _).push' _⟩
  have hlb : ¬ (k : Int) < (l.length : Int) := by omega
  obtain rfl : k = l.length := by omega
  have hall := HG.out
  rw [List.take_length] at hall
  have HRT2 := Lib.hid (fun (loops : List (Nat × LInfo)) (H2 : AHeap) (hx : Ext H H2) => HRT.out loops H2 hx hall)
  have HI := Lib.hid (fun (loops : List (Nat × LInfo)) (H2 : AHeap) => in_s (loops := loops) (H := H2) (n := turn) (lo := 0) (hi := (p.length : Int) - 1))
  have hEE : errS l p turn = if (partsOk p && win 0 ((p.length : Int) - 1) turn) = false then 1 else if 1099511627776 < l.sum then 3 else 0 := by
    unfold errS; rw [if_neg h80, hall, Bool.true_and]
  have HEE := Lib.hid hEE
  clear hEE
  by_cases hbp : (partsOk p && win 0 ((p.length : Int) - 1) turn) = false
  · have hE : errS l p turn = 1 := by rw [HEE.out, if_pos hbp]
    have hpe : er = 1 := HER.out.symm.trans hE
    subst hpe
    rw [shL, shT, hE, if_neg (by decide), if_neg (by decide)]
    generalize partsOk p = b1 at HRP hbp
    generalize win 0 ((p.length : Int) - 1) turn = b2 at HI hbp
    have HBP := Lib.hid hbp
    clear hbp hE hall
    repeat' (first|(with_reducible first|refine zA ?_|refine zB fun K hK=>?_|refine zC fun K2 hK2=>?_|refine zD ?_|refine zE ?_|refine zF ?_|refine zG ?_|refine zH ?_|refine zI ?_|refine zM ?_|refine zN ?_|refine zO ?_|refine zP ?_|refine zQ ?_|refine zR ?_)|((with_reducible refine zU (hK _ _ ?_));clear hK K)|((with_reducible refine zV ?_ ?_ fun K1 K3 d hdst h1 h3=>?_);rfl;exact yB rfl;cases hdst;go_simp)|((with_reducible refine zW fun K1 K3 h1 h3=>?_);go_simp)|((first|refine h1 ?_|refine h3 ?_);clear h1 h3 K1 K3)|((first|refine zX (fun hb=>h1 ?_) (fun hb=>h3 ?_)|refine zX (fun hb=>h3 ?_) (fun hb=>h1 ?_))<;>(clear h1 h3 K1 K3;(try have hb2:=yC hb);(try have hb2:=yD hb);(try have hb2:=yE hb);(try have hb2:=yF hb);(try have hb2:=yG hb)))|(refine fun (K2:_→AHeap→Prop) hK2=>?_)|((with_reducible refine zY ?_ ?_);decide)|((with_reducible first|refine zZ ?_ (fun K hK=>?_)|refine yA ?_ (fun K hK=>?_));(focus go_simp;done);go_simp;refine hK _ _ ?_;clear hK K)|(go_simp;(try go_bits);(try first |((with_reducible show CallS _ _ _ _ _ _);first|(refine CallS.mono (HRP.out _ _ (Ext.push _)) ?_; rintro _ _ ⟨rfl, h9⟩; rw [h9]; clear h9; go_simp)|(refine CallS.mono (HI.out _ _) ?_; rintro _ _ ⟨rfl, h9⟩; rw [h9]; clear h9; go_simp))|((rw [aBuild_struct st76 ze76]); go_simp));refine hK2 _ _ ?_;clear hK2 K2))
    all_goals first | exact ⟨⟨_, _, _, rfl, ints_nil fun _ => rfl, fun x h => by cases h⟩, (Ext.refl _).push' _⟩ | (exfalso; have := HBP.out; simp_all; done)
  have hbp2 : partsOk p = true ∧ win 0 ((p.length : Int) - 1) turn = true := by simpa using hbp
  obtain ⟨hb1, hb2⟩ := hbp2
  have hE2 : errS l p turn = if 1099511627776 < l.sum then 3 else 0 := by rw [HEE.out, if_neg hbp]
  rw [hb1] at HRP
  rw [hb2] at HI
  by_cases hsm : 1099511627776 < l.sum
  · have hE : errS l p turn = 3 := by rw [hE2, if_pos hsm]
    have hpe : er = 3 := HER.out.symm.trans hE
    subst hpe
    rw [shL, shT, hE, if_neg (by decide), if_neg (by decide)]
    generalize l.sum = s at HRT2 hsm
    clear hbp hE hall hE2 hb1 hb2
    repeat' (first|(with_reducible first|refine zA ?_|refine zB fun K hK=>?_|refine zC fun K2 hK2=>?_|refine zD ?_|refine zE ?_|refine zF ?_|refine zG ?_|refine zH ?_|refine zI ?_|refine zM ?_|refine zN ?_|refine zO ?_|refine zP ?_|refine zQ ?_|refine zR ?_)|((with_reducible refine zU (hK _ _ ?_));clear hK K)|((with_reducible refine zV ?_ ?_ fun K1 K3 d hdst h1 h3=>?_);rfl;exact yB rfl;cases hdst;go_simp)|((with_reducible refine zW fun K1 K3 h1 h3=>?_);go_simp)|((first|refine h1 ?_|refine h3 ?_);clear h1 h3 K1 K3)|((first|refine zX (fun hb=>h1 ?_) (fun hb=>h3 ?_)|refine zX (fun hb=>h3 ?_) (fun hb=>h1 ?_))<;>(clear h1 h3 K1 K3;(try have hb2:=yC hb);(try have hb2:=yD hb);(try have hb2:=yE hb);(try have hb2:=yF hb);(try have hb2:=yG hb)))|(refine fun (K2:_→AHeap→Prop) hK2=>?_)|((with_reducible refine zY ?_ ?_);decide)|((with_reducible first|refine zZ ?_ (fun K hK=>?_)|refine yA ?_ (fun K hK=>?_));(focus go_simp;done);go_simp;refine hK _ _ ?_;clear hK K)|(go_simp;(try go_bits);(try first |((with_reducible show CallS _ _ _ _ _ _);first|(refine CallS.mono (HRP.out _ _ (Ext.push _)) ?_; rintro _ _ ⟨rfl, h9⟩; rw [h9]; clear h9; go_simp)|(refine CallS.mono (HI.out _ _) ?_; rintro _ _ ⟨rfl, h9⟩; rw [h9]; clear h9; go_simp)|(refine CallS.mono (HRT2.out _ _ (Ext.push _)) ?_; rintro _ _ ⟨rfl, h9⟩; rw [h9]; clear h9; go_simp))|((rw [aBuild_struct st76 ze76]); go_simp));refine hK2 _ _ ?_;clear hK2 K2))
    all_goals exact ⟨⟨_, _, _, rfl, ints_nil fun _ => rfl, fun x h => by cases h⟩, (Ext.refl _).push' _⟩
  have hE : errS l p turn = 0 := by rw [hE2, if_neg hsm]
  have hpe : er = 0 := HER.out.symm.trans hE
  subst hpe
  have HOK := Lib.hid (shOk hE)
  have hL := (pFacts HOK.out.ok).len
  have hll := HOK.out.len
  rw [shL, shT, hE, if_pos rfl, if_pos rfl]
  generalize l.sum = s at HRT2 hsm
  clear hbp hE hall hE2 hb1 hb2
  repeat' (first|(with_reducible first|refine zA ?_|refine zB fun K hK=>?_|refine zC fun K2 hK2=>?_|refine zD ?_|refine zE ?_|refine zF ?_|refine zG ?_|refine zH ?_|refine zI ?_|refine zM ?_|refine zN ?_|refine zO ?_|refine zP ?_|refine zQ ?_|refine zR ?_)|((with_reducible refine zU (hK _ _ ?_));clear hK K)|((with_reducible refine zV ?_ ?_ fun K1 K3 d hdst h1 h3=>?_);rfl;exact yB rfl;cases hdst;go_simp)|((with_reducible refine zW fun K1 K3 h1 h3=>?_);go_simp)|((first|refine h1 ?_|refine h3 ?_);clear h1 h3 K1 K3)|((first|refine zX (fun hb=>h1 ?_) (fun hb=>h3 ?_)|refine zX (fun hb=>h3 ?_) (fun hb=>h1 ?_))<;>(clear h1 h3 K1 K3;(try have hb2:=yC hb);(try have hb2:=yD hb);(try have hb2:=yE hb);(try have hb2:=yF hb);(try have hb2:=yG hb)))|(refine fun (K2:_→AHeap→Prop) hK2=>?_)|((with_reducible refine zY ?_ ?_);decide)|((with_reducible first|refine zZ ?_ (fun K hK=>?_)|refine yA ?_ (fun K hK=>?_));(focus go_simp;done);go_simp;refine hK _ _ ?_;clear hK K)|(go_simp;(try go_bits);(try first |((with_reducible show CallS _ _ _ _ _ _);first|(refine CallS.mono (HRP.out _ _ (Ext.push _)) ?_; rintro _ _ ⟨rfl, h9⟩; rw [h9]; clear h9; go_simp)|(refine CallS.mono (HI.out _ _) ?_; rintro _ _ ⟨rfl, h9⟩; rw [h9]; clear h9; go_simp)|(refine CallS.mono (HRT2.out _ _ (Ext.push _)) ?_; rintro _ _ ⟨rfl, h9⟩; rw [h9]; clear h9; go_simp))|(refine makeSlice_k el23 sz3 by3 ze3 rfl (by show p.length * 8 ≤ 1073741824; omega) (by omega) ?_; go_simp)|((rw [aBuild_struct st76 ze76]); go_simp));refine hK2 _ _ ?_;clear hK2 K2))
  clear f7 hlb hlt hk HG hsm
  refine CodeS.loop (fun m f J => ∃ (k : Nat) (xss : List (List Int)) (tn : Int), k ≤ l.length ∧ m = l.length - k ∧ f.tmp 10 = .int .i64 k ∧ f.tmp 0 = .slice a l.length c ∧ f.tmp 1 = .slice pa p.length pc ∧ f.tmp 9 = .pointer (some ⟨H.n + 2, 0, none⟩) ∧ f.tmp 6 = .pointer (some ⟨H.n, 0, none⟩) ∧ f.defers = [] ∧ Hid (rowsK p l turn k = (xss, tn)) ∧ Hid (OwnB J (H.n + 1) (H.n + 1) (mergeK p.length xss)) ∧ Hid (Ext H J) ∧ H.n + 3 ≤ J.n ∧ Hid (J.get (H.n + 2) = .row [.slice (some ⟨H.n + 1, 0, none⟩) p.length p.length, .int .i64 tn, .int .i64 0] 76) ∧ Hid (J.get H.n = .row [.slice none 0 0, .int .i64 0, .int .i64 0] 76)) l.length ?_ ?_
  · refine ⟨0, [], turn, by omega, by omega, (by first|go_simp<;>go_num|assumption), (by first|go_simp<;>go_num|assumption), (by first|go_simp<;>go_num|assumption), (by first|go_simp<;>go_num|assumption), (by first|go_simp<;>go_num|assumption), (by first|go_simp<;>go_num|assumption), Lib.hid rfl, Lib.hid ⟨Nat.le_refl _, by simp only [AHeap.n_push]; omega, ?_⟩, Lib.hid ((((Ext.refl _).push' _).push' _).push' _), by simp only [AHeap.n_push]; omega, Lib.hid ?_, Lib.hid ?_⟩
    · rw [AHeap.get_push_old (by simp only [AHeap.n_push]; omega), show H.n + 1 = (H.push (.row [.slice none 0 0, .int .i64 0, .int .i64 0] 76)).n from rfl, AHeap.get_push_new]; simp [mergeK]
    · exact AHeap.get_push_new
    · rw [AHeap.get_push_old (by simp only [AHeap.n_push]; omega), AHeap.get_push_old (by simp only [AHeap.n_push]; omega), AHeap.get_push_new]
  clear f0 f1 f2 f6 hd f
  rintro m f J ⟨k, xss, tn, hk, rfl, f10, f0, f1, f9, f6, hd, HRK, HOB, HX, hnn, HG2, HG0⟩
  have HNN := Lib.hid hnn
  have hl2 : H.n + 2 < J.n := by omega
  have hrf := rowsK_facts HOK.out k hk
  rw [HRK.out] at hrf
  clear hnn
  by_cases hlt : k < l.length
  · have hdv := dvOk HOK.out hlt
    rw [HRK.out] at hdv
    obtain ⟨b, o, sp, rfl, hb0, hx0⟩ := HV.out.at_ hlt
    have hlb : (k : Int) < (l.length : Int) := by omega
    have w2 := wrap_id (n := (k : Int) + 1) (by omega)
    have hgd : l.getD k 0 = l[k] := by rw [List.getD, List.getElem?_eq_getElem hlt]; rfl
    have HNX : Hid (rowsK p l turn (k + 1) = (xss ++ [(divS (l.getD k 0) p tn p.length).s], (divS (l.getD k 0) p tn p.length).next)) := Lib.hid (by rw [rowsK, HRK.out])
    have HRD := Lib.hid (fun (loops : List (Nat × LInfo)) (J2 : AHeap) (hx : Ext J J2) => refDivide_e (loops := loops) (HP.out.ext (HX.out.trans hx)) hdv)
    have hsl := (dFacts hdv p.length).len
    have hsb := (dFacts hdv p.length).bd
    rw [hgd] at HNX HRD hsl hsb
    have hxl := hrf.len
    have hup2 := mergeK_up (B := 1099511627800) (by decide) p.length (fun xs hx => (hrf.row xs hx).2) k
    have haL := mergeK_len p.length xss.length xss
    simp only at hxl
    rw [← hxl, List.take_length] at hup2
    rw [List.take_length] at haL
    have HMS : Hid (∀ s : List Int, mergeK p.length (xss ++ [s]) = parS (mergeK p.length xss) s s.length) := Lib.hid (mergeK_snoc p.length xss)
    generalize l[k] = n at hx0 HNX HRD hsl hsb
    generalize hst : divS n p tn p.length = st at HNX HRD hsl hsb
    obtain ⟨s, lf, nx⟩ := st
    simp only at HNX HRD hsl hsb
    generalize mergeK p.length xss = acc at HOB hup2 haL HMS
    have HSL := Lib.hid hsl
    have HSB := Lib.hid hsb
    have HUP2 := Lib.hid hup2
    have HAL := Lib.hid haL
    have HXL := Lib.hid hxl
    have HB0 := Lib.hid hb0
    have HX0 := Lib.hid hx0
    have hb : b < J.n := Nat.lt_of_lt_of_le hb0 HX.out.n
    have hx : cellAt J b (o + k) = some (.int .i64 n) := (HX.out.cellAt hb0).trans hx0
    have hq1 : cellAt J (H.n + 2) 1 = some (.int .i64 tn) := by simp [cellAt, HG2.out]
    clear hdv hgd hxl hrf hst hsl hsb hup2 haL hb0 hx0
    repeat' (first|((with_reducible refine stop_seqT (n := 17) ?_))|(with_reducible first|refine zA ?_|refine zB fun K hK=>?_|refine zC fun K2 hK2=>?_|refine zD ?_|refine zE ?_|refine zF ?_|refine zG ?_|refine zH ?_|refine zI ?_|refine zM ?_|refine zN ?_|refine zO ?_|refine zP ?_|refine zQ ?_|refine zR ?_)|((with_reducible refine zU (hK _ _ ?_));clear hK K)|((with_reducible refine zV ?_ ?_ fun K1 K3 d hdst h1 h3=>?_);rfl;exact yB rfl;cases hdst;go_simp)|((with_reducible refine zW fun K1 K3 h1 h3=>?_);go_simp)|((first|refine h1 ?_|refine h3 ?_);clear h1 h3 K1 K3)|((first|refine zX (fun hb=>h1 ?_) (fun hb=>h3 ?_)|refine zX (fun hb=>h3 ?_) (fun hb=>h1 ?_))<;>(clear h1 h3 K1 K3;(try have hb2:=yC hb);(try have hb2:=yD hb);(try have hb2:=yE hb);(try have hb2:=yF hb);(try have hb2:=yG hb)))|(refine fun (K2:_→AHeap→Prop) hK2=>?_)|((with_reducible refine zY ?_ ?_);decide)|((with_reducible first|refine zZ ?_ (fun K hK=>?_)|refine yA ?_ (fun K hK=>?_));(focus go_simp;done);go_simp;refine hK _ _ ?_;clear hK K)|((with_reducible refine yH mixed rfl ?_ 20 fun K0 hK0=>?_);kernel_rfl)|(with_reducible first|exact yI|exact yJ|refine yK ?_|refine yL ?_|refine yM ?_)|((with_reducible first|refine yN ?_ ?_|refine yO ?_ ?_|refine yP ?_ ?_);rfl)|((with_reducible refine yQ ?_ ?_);rfl;refine hK0 _ _ ?_;clear hK0 K0)|((with_reducible refine yR ?_ ?_ ?_ ?_);rfl;rfl;rfl)|((with_reducible refine yS ?_ ?_ ?_ fun K2 hK2=>?_);rfl;rfl;exact yB rfl)|((with_reducible refine yT ?_ ?_ ?_ ?_ fun K1 K3 d hdst h1 h3=>?_);rfl;rfl;rfl;exact yB rfl;cases hdst;go_simp)|((with_reducible refine yU ?_ ?_ ?_ ?_ fun K1 K3 d hdst h1 h3=>?_);rfl;rfl;rfl;exact yB rfl;cases hdst;go_simp)|((with_reducible refine yV ?_ ?_ (fun K2 hK2=>?_) ?_);rfl;exact yB rfl)|((with_reducible refine yW ?_ ?_ ?_ ?_ (fun K2 hK2=>?_) ?_);rfl;exact yB rfl;rfl;(focus go_simp;done))|((with_reducible refine yX ?_ ?_ ?_ (fun K2 hK2=>?_) ?_);rfl;rfl;exact yB rfl)|((with_reducible refine yY ?_ ?_ (fun K2 hK2=>?_) ?_);rfl;rfl)|((with_reducible refine yZ ?_ ?_);(first|rfl|(dsimp only;decide +kernel)))|((with_reducible refine xA ?_ ?_);(focus go_simp;done))|(go_simp;(try go_bits);(first|(refine hK2 _ _ ?_ ?_<;>clear hK2 K2)|(refine hK2 _ _ ?_;clear hK2 K2))))
    refine ⟨CodeS.cut (fun f K => f.tmp 10 = .int .i64 k ∧ f.tmp 0 = .slice (some ⟨b, o, sp⟩) l.length c ∧ f.tmp 1 = .slice pa p.length pc ∧ f.tmp 9 = .pointer (some ⟨H.n + 2, 0, none⟩) ∧ f.tmp 6 = .pointer (some ⟨H.n, 0, none⟩) ∧ f.defers = [] ∧ ∃ q b2, f.tmp 11 = .pointer (some ⟨q, 0, none⟩) ∧ Hid (J.n ≤ q ∧ q < K.n ∧ J.n ≤ b2 ∧ b2 < K.n ∧ ¬ b2 = q) ∧ Hid (K.get q = .row [.slice (some ⟨b2, 0, none⟩) p.length p.length, .int .i64 nx, .int .i64 0] 76) ∧ Hid (K.get b2 = .row (s.map (Value.int .i64)) 3) ∧ Hid (Ext J K)) ?_ ?_⟩
    · have hx0p : ∀ y, cellAt (J.push y) b (o + k) = some (.int .i64 n) := fun y => ((Ext.push y).cellAt hb).trans hx
      have hq1p : ∀ y, cellAt (J.push y) (H.n + 2) 1 = some (.int .i64 tn) := fun y => ((Ext.push y).cellAt hl2).trans hq1
      repeat' (first|(with_reducible first|refine zA ?_|refine zB fun K hK=>?_|refine zC fun K2 hK2=>?_|refine zD ?_|refine zE ?_|refine zF ?_|refine zG ?_|refine zH ?_|refine zI ?_|refine zM ?_|refine zN ?_|refine zO ?_|refine zP ?_|refine zQ ?_|refine zR ?_)|((with_reducible refine zU (hK _ _ ?_));clear hK K)|((with_reducible refine zV ?_ ?_ fun K1 K3 d hdst h1 h3=>?_);rfl;exact yB rfl;cases hdst;go_simp)|((with_reducible refine zW fun K1 K3 h1 h3=>?_);go_simp)|((first|refine h1 ?_|refine h3 ?_);clear h1 h3 K1 K3)|((first|refine zX (fun hb=>h1 ?_) (fun hb=>h3 ?_)|refine zX (fun hb=>h3 ?_) (fun hb=>h1 ?_))<;>(clear h1 h3 K1 K3;(try have hb2:=yC hb);(try have hb2:=yD hb);(try have hb2:=yE hb);(try have hb2:=yF hb);(try have hb2:=yG hb)))|(refine fun (K2:_→AHeap→Prop) hK2=>?_)|((with_reducible refine zY ?_ ?_);decide)|((with_reducible first|refine zZ ?_ (fun K hK=>?_)|refine yA ?_ (fun K hK=>?_));(focus go_simp;done);go_simp;refine hK _ _ ?_;clear hK K)|((with_reducible refine yH mixed rfl ?_ 20 fun K0 hK0=>?_);kernel_rfl)|(with_reducible first|exact yI|exact yJ|refine yK ?_|refine yL ?_|refine yM ?_)|((with_reducible first|refine yN ?_ ?_|refine yO ?_ ?_|refine yP ?_ ?_);rfl)|((with_reducible refine yQ ?_ ?_);rfl;refine hK0 _ _ ?_;clear hK0 K0)|((with_reducible refine yR ?_ ?_ ?_ ?_);rfl;rfl;rfl)|((with_reducible refine yS ?_ ?_ ?_ fun K2 hK2=>?_);rfl;rfl;exact yB rfl)|((with_reducible refine yT ?_ ?_ ?_ ?_ fun K1 K3 d hdst h1 h3=>?_);rfl;rfl;rfl;exact yB rfl;cases hdst;go_simp)|((with_reducible refine yU ?_ ?_ ?_ ?_ fun K1 K3 d hdst h1 h3=>?_);rfl;rfl;rfl;exact yB rfl;cases hdst;go_simp)|((with_reducible refine yV ?_ ?_ (fun K2 hK2=>?_) ?_);rfl;exact yB rfl)|((with_reducible refine yW ?_ ?_ ?_ ?_ (fun K2 hK2=>?_) ?_);rfl;exact yB rfl;rfl;(focus go_simp;done))|((with_reducible refine yX ?_ ?_ ?_ (fun K2 hK2=>?_) ?_);rfl;rfl;exact yB rfl)|((with_reducible refine yY ?_ ?_ (fun K2 hK2=>?_) ?_);rfl;rfl)|((with_reducible refine yZ ?_ ?_);(first|rfl|(dsimp only;decide +kernel)))|((with_reducible refine xA ?_ ?_);(focus go_simp;done))|(go_simp;(try go_bits);(try first |((with_reducible show CallS _ _ _ _ _ _);first|(refine CallS.mono (HRD.out _ _ (Ext.refl _)) ?_; rintro _ J2 ⟨⟨b2, rfl, hob⟩, hx2⟩; (have HOB2 := Lib.hid hob); (have HX2 := Lib.hid hx2); (have hl22 : H.n + 2 < J2.n := by (have := HX2.out.n; omega)); (have hbJ2 : b < J2.n := by (have := HX2.out.n; omega)); (have hq2 : cellAt J2 (H.n + 2) 1 = some (.int .i64 tn) := (HX2.out.cellAt hl2).trans hq1); (have hx2b : cellAt J2 b (o + k) = some (.int .i64 n) := (HX2.out.cellAt hb).trans hx); clear hob hx2; go_simp)|(refine CallS.mono (HRD.out _ _ (Ext.push _)) ?_; rintro _ J2 ⟨⟨b2, rfl, hob⟩, hx2⟩; (have HOB2 := Lib.hid hob); (have HX2 := Lib.hid hx2); (have hl22 : H.n + 2 < J2.n := by (have := HX2.out.n; rw [AHeap.n_push] at this; omega)); (have hl23 : J.n < J2.n := by (have := HX2.out.n; rw [AHeap.n_push] at this; omega)); (have hbJ2 : b < J2.n := by (have := HX2.out.n; rw [AHeap.n_push] at this; omega)); (have hq2 : cellAt J2 (H.n + 2) 1 = some (.int .i64 tn) := (((Ext.push _).trans HX2.out).cellAt hl2).trans hq1); (have hx2b : cellAt J2 b (o + k) = some (.int .i64 n) := (((Ext.push _).trans HX2.out).cellAt hb).trans hx); (have hg11 : J2.get J.n = .row [.slice none 0 0, .int .i64 0, .int .i64 0] 76 := by (rw [HX2.out.get _ (by rw [AHeap.n_push]; omega), AHeap.get_push_new])); clear hob hx2; go_simp)));(first|(refine hK2 _ _ ?_ ?_<;>clear hK2 K2)|(refine hK2 _ _ ?_;clear hK2 K2))))
      · refine ⟨(by first|go_simp<;>go_num|assumption), (by first|go_simp<;>go_num|assumption), (by first|go_simp<;>go_num|assumption), (by first|go_simp<;>go_num|assumption), (by first|go_simp<;>go_num|assumption), (by first|go_simp<;>go_num|assumption), J2.n, b2, (by first|go_simp<;>go_num|assumption), Lib.hid ⟨HX2.out.n, by rw [AHeap.n_push]; omega, HOB2.out.lo, by rw [AHeap.n_push]; have := HOB2.out.hi; omega, by have := HOB2.out.hi; omega⟩, Lib.hid AHeap.get_push_new, Lib.hid (by rw [AHeap.get_push_old HOB2.out.hi]; exact HOB2.out.row), Lib.hid (HX2.out.push' _)⟩
      · have hlo2 := HOB2.out.lo
        rw [AHeap.n_push] at hlo2
        exact ⟨(by first|go_simp<;>go_num|assumption), (by first|go_simp<;>go_num|assumption), (by first|go_simp<;>go_num|assumption), (by first|go_simp<;>go_num|assumption), (by first|go_simp<;>go_num|assumption), (by first|go_simp<;>go_num|assumption), J.n, b2, (by first|go_simp<;>go_num|assumption), Lib.hid ⟨Nat.le_refl _, by rw [AHeap.n_upd]; exact hl23, by omega, by rw [AHeap.n_upd]; exact HOB2.out.hi, by omega⟩, Lib.hid (by rw [AHeap.get_upd, if_pos rfl]), Lib.hid (by rw [AHeap.get_upd_ne (by omega)]; exact HOB2.out.row), Lib.hid (((Ext.push _).trans HX2.out).upd (Nat.le_refl _) _)⟩
    · rintro f K ⟨f10, f0, f1, f9, f6, hd, q, b2, f11, HQ, HKQ, HKB, HXK⟩
      have HK2 : Hid (K.get (H.n + 2) = .row [.slice (some ⟨H.n + 1, 0, none⟩) p.length p.length, .int .i64 tn, .int .i64 0] 76) := Lib.hid (by rw [HXK.out.get _ hl2]; exact HG2.out)
      have HK0 : Hid (K.get H.n = .row [.slice none 0 0, .int .i64 0, .int .i64 0] 76) := Lib.hid (by rw [HXK.out.get _ (by omega)]; exact HG0.out)
      have HK1 : Hid (OwnB K (H.n + 1) (H.n + 1) acc) := Lib.hid ⟨Nat.le_refl _, Nat.lt_of_lt_of_le HOB.out.hi HXK.out.n, by rw [HXK.out.get _ HOB.out.hi]; exact HOB.out.row⟩
      clear hx hq1 hb
      repeat' (first|(with_reducible first|refine zA ?_|refine zB fun K hK=>?_|refine zC fun K2 hK2=>?_|refine zD ?_|refine zE ?_|refine zF ?_|refine zG ?_|refine zH ?_|refine zI ?_|refine zM ?_|refine zN ?_|refine zO ?_|refine zP ?_|refine zQ ?_|refine zR ?_)|((with_reducible refine zU (hK _ _ ?_));clear hK K)|((with_reducible refine zV ?_ ?_ fun K1 K3 d hdst h1 h3=>?_);rfl;exact yB rfl;cases hdst;go_simp)|((with_reducible refine zW fun K1 K3 h1 h3=>?_);go_simp)|((first|refine h1 ?_|refine h3 ?_);clear h1 h3 K1 K3)|((first|refine zX (fun hb=>h1 ?_) (fun hb=>h3 ?_)|refine zX (fun hb=>h3 ?_) (fun hb=>h1 ?_))<;>(clear h1 h3 K1 K3;(try have hb2:=yC hb);(try have hb2:=yD hb);(try have hb2:=yE hb);(try have hb2:=yF hb);(try have hb2:=yG hb)))|(refine fun (K2:_→AHeap→Prop) hK2=>?_)|((with_reducible refine zY ?_ ?_);decide)|((with_reducible first|refine zZ ?_ (fun K hK=>?_)|refine yA ?_ (fun K hK=>?_));(focus go_simp;done);go_simp;refine hK _ _ ?_;clear hK K)|(go_simp;(try go_bits);refine hK2 _ _ ?_;clear hK2 K2))
      refine CodeS.loop (fun m f M => ∃ j : Nat, j ≤ p.length ∧ m = p.length - j ∧ f.tmp 12 = .int .i64 j ∧ f.tmp 10 = .int .i64 k ∧ f.tmp 0 = .slice (some ⟨b, o, sp⟩) l.length c ∧ f.tmp 1 = .slice pa p.length pc ∧ f.tmp 9 = .pointer (some ⟨H.n + 2, 0, none⟩) ∧ f.tmp 6 = .pointer (some ⟨H.n, 0, none⟩) ∧ f.tmp 11 = .pointer (some ⟨q, 0, none⟩) ∧ f.defers = [] ∧ Hid (M.get (H.n + 1) = .row ((parS acc s j).map (Value.int .i64)) 3) ∧ Hid (∀ i, i ≠ H.n + 1 → M.get i = K.get i) ∧ Hid (M.n = K.n)) p.length ?_ ?_
      · exact ⟨0, by omega, by omega, (by first|go_simp<;>go_num|assumption), (by first|go_simp<;>go_num|assumption), (by first|go_simp<;>go_num|assumption), (by first|go_simp<;>go_num|assumption), (by first|go_simp<;>go_num|assumption), (by first|go_simp<;>go_num|assumption), (by first|go_simp<;>go_num|assumption), (by first|go_simp<;>go_num|assumption), Lib.hid HK1.out.row, Lib.hid fun _ _ => rfl, Lib.hid rfl⟩
      clear f10 f0 f1 f9 f6 f11 hd f
      rintro m f M ⟨j, hj, rfl, f12, f10, f0, f1, f9, f6, f11, hd, HM1, HMK, HMN⟩
      have hqq := HQ.out
      have hkn := HXK.out.n
      have hmn := HMN.out
      have hm2 : M.get (H.n + 2) = .row [.slice (some ⟨H.n + 1, 0, none⟩) p.length p.length, .int .i64 tn, .int .i64 0] 76 := by rw [HMK.out _ (by omega)]; exact HK2.out
      have hmq : M.get q = .row [.slice (some ⟨b2, 0, none⟩) p.length p.length, .int .i64 nx, .int .i64 0] 76 := by rw [HMK.out _ (by omega)]; exact HKQ.out
      have hmb : M.get b2 = .row (s.map (Value.int .i64)) 3 := by rw [HMK.out _ (by omega)]; exact HKB.out
      have hM2 : H.n + 2 < M.n := by omega
      have hM1 : H.n + 1 < M.n := by omega
      have hMq : q < M.n := by omega
      have hMb : b2 < M.n := by omega
      have hne1 : ¬ q = H.n + 1 := by omega
      have hne2 : ¬ b2 = H.n + 1 := by omega
      have hne3 : ¬ H.n + 2 = H.n + 1 := by omega
      clear hqq hkn hmn
      by_cases hlt2 : j < p.length
      · have hjb : (j : Int) < (p.length : Int) := by omega
        have w3 := wrap_id (n := (j : Int) + 1) (by omega)
        have hlen1 : (parS acc s j).length = p.length := by rw [parS_len]; exact HAL.out
        have hjl : j < (parS acc s j).length := by rw [hlen1]; exact hlt2
        have hjs : j < s.length := by rw [HSL.out]; exact hlt2
        have hrow := HM1.out
        have hy0 : cellAt M (H.n + 1) j = some (.int .i64 ((parS acc s j).getD j 0)) := by simp [cellAt, hrow, List.getD, List.getElem?_eq_getElem hjl]
        have hz0 : cellAt M b2 j = some (.int .i64 (s.getD j 0)) := by simp [cellAt, hmb, List.getD, List.getElem?_eq_getElem hjs]
        have hc9 : cellAt M (H.n + 2) 0 = some (.slice (some ⟨H.n + 1, 0, none⟩) p.length p.length) := by simp [cellAt, hm2]
        have hc11 : cellAt M q 0 = some (.slice (some ⟨b2, 0, none⟩) p.length p.length) := by simp [cellAt, hmq]
        have hy1 : 0 ≤ (parS acc s j).getD j 0 ∧ (parS acc s j).getD j 0 ≤ k * 1099511627800 := by
          rw [parS_at acc s j j (Nat.le_refl _)]
          have := HUP2.out.getD (by omega) j
          rwa [HXL.out] at this
        have hy2 : 0 ≤ s.getD j 0 ∧ s.getD j 0 ≤ 1099511627800 := by
          rw [List.getD, List.getElem?_eq_getElem hjs]
          have := HSB.out _ (List.getElem_mem hjs)
          simp only [Option.getD_some]; omega
        have HNXJ : Hid (parS acc s (j + 1) = (parS acc s j).set j ((parS acc s j).getD j 0 + s.getD j 0)) := Lib.hid rfl
        generalize (parS acc s j).getD j 0 = y at hy0 hy1 HNXJ
        generalize s.getD j 0 = z at hz0 hy2 HNXJ
        generalize parS acc s j = sj at hrow hjl HNXJ HM1 hlen1
        have w4 := wrap_id (n := y + z) (by omega)
        clear hy1 hy2 hlen1 hjs
        repeat' (first|(with_reducible first|refine zA ?_|refine zB fun K hK=>?_|refine zC fun K2 hK2=>?_|refine zD ?_|refine zE ?_|refine zF ?_|refine zG ?_|refine zH ?_|refine zI ?_|refine zM ?_|refine zN ?_|refine zO ?_|refine zP ?_|refine zQ ?_|refine zR ?_)|((with_reducible refine zU (hK _ _ ?_));clear hK K)|((with_reducible refine zV ?_ ?_ fun K1 K3 d hdst h1 h3=>?_);rfl;exact yB rfl;cases hdst;go_simp)|((with_reducible refine zW fun K1 K3 h1 h3=>?_);go_simp)|((first|refine h1 ?_|refine h3 ?_);clear h1 h3 K1 K3)|((first|refine zX (fun hb=>h1 ?_) (fun hb=>h3 ?_)|refine zX (fun hb=>h3 ?_) (fun hb=>h1 ?_))<;>(clear h1 h3 K1 K3;(try have hb2:=yC hb);(try have hb2:=yD hb);(try have hb2:=yE hb);(try have hb2:=yF hb);(try have hb2:=yG hb)))|(refine fun (K2:_→AHeap→Prop) hK2=>?_)|((with_reducible refine zY ?_ ?_);decide)|((with_reducible first|refine zZ ?_ (fun K hK=>?_)|refine yA ?_ (fun K hK=>?_));(focus go_simp;done);go_simp;refine hK _ _ ?_;clear hK K)|((with_reducible refine yH mixed rfl ?_ 20 fun K0 hK0=>?_);kernel_rfl)|(with_reducible first|exact yI|exact yJ|refine yK ?_|refine yL ?_|refine yM ?_)|((with_reducible first|refine yN ?_ ?_|refine yO ?_ ?_|refine yP ?_ ?_);rfl)|((with_reducible refine yQ ?_ ?_);rfl;refine hK0 _ _ ?_;clear hK0 K0)|((with_reducible refine yR ?_ ?_ ?_ ?_);rfl;rfl;rfl)|((with_reducible refine yS ?_ ?_ ?_ fun K2 hK2=>?_);rfl;rfl;exact yB rfl)|((with_reducible refine yT ?_ ?_ ?_ ?_ fun K1 K3 d hdst h1 h3=>?_);rfl;rfl;rfl;exact yB rfl;cases hdst;go_simp)|((with_reducible refine yU ?_ ?_ ?_ ?_ fun K1 K3 d hdst h1 h3=>?_);rfl;rfl;rfl;exact yB rfl;cases hdst;go_simp)|((with_reducible refine yV ?_ ?_ (fun K2 hK2=>?_) ?_);rfl;exact yB rfl)|((with_reducible refine yW ?_ ?_ ?_ ?_ (fun K2 hK2=>?_) ?_);rfl;exact yB rfl;rfl;(focus go_simp;done))|((with_reducible refine yX ?_ ?_ ?_ (fun K2 hK2=>?_) ?_);rfl;rfl;exact yB rfl)|((with_reducible refine yY ?_ ?_ (fun K2 hK2=>?_) ?_);rfl;rfl)|((with_reducible refine yZ ?_ ?_);(first|rfl|(dsimp only;decide +kernel)))|((with_reducible refine xA ?_ ?_);(focus go_simp;done))|(go_simp;(try go_bits);(first|(refine hK2 _ _ ?_ ?_<;>clear hK2 K2)|(refine hK2 _ _ ?_;clear hK2 K2))))
        exact Post.round_normal ⟨p.length - (j + 1), by omega, j + 1, by omega, rfl, (by first|go_simp<;>go_num|assumption), (by first|go_simp<;>go_num|assumption), (by first|go_simp<;>go_num|assumption), (by first|go_simp<;>go_num|assumption), (by first|go_simp<;>go_num|assumption), (by first|go_simp<;>go_num|assumption), (by first|go_simp<;>go_num|assumption), (by first|go_simp<;>go_num|assumption), Lib.hid (by rw [AHeap.get_upd, if_pos rfl, HNXJ.out, List.map_set]), Lib.hid (fun i hi => by rw [AHeap.get_upd_ne hi]; exact HMK.out i hi), Lib.hid (by rw [AHeap.n_upd]; exact HMN.out)⟩
      · have hjb : ¬ (j : Int) < (p.length : Int) := by omega
        obtain rfl : j = p.length := by omega
        have hc11 : cellAt M q 1 = some (.int .i64 nx) := by simp [cellAt, hmq]
        repeat' (first|(with_reducible first|refine zA ?_|refine zB fun K hK=>?_|refine zC fun K2 hK2=>?_|refine zD ?_|refine zE ?_|refine zF ?_|refine zG ?_|refine zH ?_|refine zI ?_|refine zM ?_|refine zN ?_|refine zO ?_|refine zP ?_|refine zQ ?_|refine zR ?_)|((with_reducible refine zU (hK _ _ ?_));clear hK K)|((with_reducible refine zV ?_ ?_ fun K1 K3 d hdst h1 h3=>?_);rfl;exact yB rfl;cases hdst;go_simp)|((with_reducible refine zW fun K1 K3 h1 h3=>?_);go_simp)|((first|refine h1 ?_|refine h3 ?_);clear h1 h3 K1 K3)|((first|refine zX (fun hb=>h1 ?_) (fun hb=>h3 ?_)|refine zX (fun hb=>h3 ?_) (fun hb=>h1 ?_))<;>(clear h1 h3 K1 K3;(try have hb2:=yC hb);(try have hb2:=yD hb);(try have hb2:=yE hb);(try have hb2:=yF hb);(try have hb2:=yG hb)))|(refine fun (K2:_→AHeap→Prop) hK2=>?_)|((with_reducible refine zY ?_ ?_);decide)|((with_reducible first|refine zZ ?_ (fun K hK=>?_)|refine yA ?_ (fun K hK=>?_));(focus go_simp;done);go_simp;refine hK _ _ ?_;clear hK K)|(go_simp;(try go_bits);refine hK2 _ _ ?_;clear hK2 K2))
        have hXM : Ext H M := ⟨by omega, fun i hi => by rw [HMK.out i (by omega), HXK.out.get i (by omega), HX.out.get i hi]⟩
        refine Post.round_normal ⟨l.length - (k + 1), by omega, k + 1, xss ++ [s], nx, by omega, rfl, (by first|go_simp<;>go_num|assumption), (by first|go_simp<;>go_num|assumption), (by first|go_simp<;>go_num|assumption), (by first|go_simp<;>go_num|assumption), (by first|go_simp<;>go_num|assumption), (by first|go_simp<;>go_num|assumption), HNX, Lib.hid ⟨Nat.le_refl _, by rw [AHeap.n_upd]; exact hM1, ?_⟩, Lib.hid (hXM.upd (by omega) _), by rw [AHeap.n_upd]; omega, Lib.hid ?_, Lib.hid ?_⟩
        · rw [AHeap.get_upd_ne (by omega), HMS.out, HSL.out]; exact HM1.out
        · rw [AHeap.get_upd, if_pos rfl]
        · rw [AHeap.get_upd_ne (by omega), HMK.out _ (by omega)]; exact HK0.out
  · have hlb : ¬ (k : Int) < (l.length : Int) := by omega
    obtain rfl : k = l.length := by omega
    have hg2 := HG2.out
    have hg0 := HG0.out
    have hl0 : H.n < J.n := by omega
    have hcc : cellsAt J (H.n + 2) 0 3 = some [.slice (some ⟨H.n + 1, 0, none⟩) p.length p.length, .int .i64 tn, .int .i64 0] := by simp [cellsAt, hg2]
    have hmk : (mergeK p.length xss).length = p.length := by have := mergeK_len p.length xss.length xss; rwa [List.take_length] at this
    have HMK := Lib.hid hmk
    clear hrf hmk
    repeat' (first|(with_reducible first|refine zA ?_|refine zB fun K hK=>?_|refine zC fun K2 hK2=>?_|refine zD ?_|refine zE ?_|refine zF ?_|refine zG ?_|refine zH ?_|refine zI ?_|refine zM ?_|refine zN ?_|refine zO ?_|refine zP ?_|refine zQ ?_|refine zR ?_)|((with_reducible refine zU (hK _ _ ?_));clear hK K)|((with_reducible refine zV ?_ ?_ fun K1 K3 d hdst h1 h3=>?_);rfl;exact yB rfl;cases hdst;go_simp)|((with_reducible refine zW fun K1 K3 h1 h3=>?_);go_simp)|((first|refine h1 ?_|refine h3 ?_);clear h1 h3 K1 K3)|((first|refine zX (fun hb=>h1 ?_) (fun hb=>h3 ?_)|refine zX (fun hb=>h3 ?_) (fun hb=>h1 ?_))<;>(clear h1 h3 K1 K3;(try have hb2:=yC hb);(try have hb2:=yD hb);(try have hb2:=yE hb);(try have hb2:=yF hb);(try have hb2:=yG hb)))|(refine fun (K2:_→AHeap→Prop) hK2=>?_)|((with_reducible refine zY ?_ ?_);decide)|((with_reducible first|refine zZ ?_ (fun K hK=>?_)|refine yA ?_ (fun K hK=>?_));(focus go_simp;done);go_simp;refine hK _ _ ?_;clear hK K)|(go_simp;(try go_bits);refine hK2 _ _ ?_;clear hK2 K2))
    refine ⟨⟨_, _, _, by rw [HRK.out], ?_, fun x h => by cases h; exact Nat.lt_succ_self _⟩, HX.out.upd (Nat.le_refl _) _⟩
    rw [HRK.out]
    have := own_ints (own_upd (HOB.out.own (by rw [HMK.out]; omega)) (i := H.n) (by omega) (.row [.slice (some ⟨H.n + 1, 0, none⟩) p.length p.length, .int .i64 tn, .int .i64 0] 76)) (by rw [HMK.out]; omega)
    rwa [HMK.out] at this
theorem ints_upd {H : AHeap} {a : Option Addr} {n c i : Nat} {xs : List Int} (h : Ints H (.slice a n c) xs) (hi : ∀ x, a = some x → ¬ x.block = i) (o : AObj) : Ints (H.upd i o) (.slice a n c) xs := by
  obtain ⟨h1, h2, a', c', h3, h0, h4⟩ := h
  cases h3
  refine ⟨h1, h2, _, _, rfl, h0, fun hn => ?_⟩
  obtain ⟨b, o, sp, rfl, hb, hc⟩ := h4 hn
  refine ⟨b, o, sp, rfl, by rw [AHeap.n_upd]; exact hb, fun j u hu => ?_⟩
  rw [← hc j u hu]
  simp only [cellAt, AHeap.get_upd_ne (hi _ rfl)]
theorem refShare_e {loops : List (Nat × LInfo)} {H : AHeap} {pv : Value} {n turn : Int} {p : List Int} (hp : Ints H pv p) (hpl : p.length ≤ 1000) : CallS Tryz.prog loops 44 [.int .i64 n, pv, .int .i64 turn] H fun r H' => (∃ a m c, r = .agg #[.slice a m c, .int .i64 (shT [n] p turn), .int .i64 (errS [n] p turn)] ∧ Ints H' (.slice a m c) (shL [n] p turn)) ∧ Ext H H' := by
  have HSH := Lib.hid (fun (loops : List (Nat × LInfo)) (o1 : AObj) => refShares_e (loops := loops) (turn := turn) (cells_one (n := n) (H := (H.push o1).push (.row [.int .i64 n] 3)) (b := H.n + 1) (by simp only [AHeap.n_push]; omega) AHeap.get_push_new) (hp.ext ((Ext.push _).push' _)) hpl)
  obtain ⟨hplen, pa, pc, rfl⟩ := hp.slice
  clear hp
  generalize shT [n] p turn = t at HSH ⊢
  generalize errS [n] p turn = e at HSH ⊢
  generalize shL [n] p turn = sl at HSH ⊢
  refine CallS.enter' Tryz.func44 rfl Tryz.ntmps44 (by simp) fun f hd hf => ?_
  have f0 := hf 0
  have f1 := hf 1
  have f2 := hf 2
  simp at f0 f1 f2
  clear hf
  repeat' (first|(with_reducible first|refine zA ?_|refine zB fun K hK=>?_|refine zC fun K2 hK2=>?_|refine zD ?_|refine zE ?_|refine zF ?_|refine zG ?_|refine zH ?_|refine zI ?_|refine zM ?_|refine zN ?_|refine zO ?_|refine zP ?_|refine zQ ?_|refine zR ?_)|((with_reducible refine zU (hK _ _ ?_));clear hK K)|((with_reducible refine zV ?_ ?_ fun K1 K3 d hdst h1 h3=>?_);rfl;exact yB rfl;cases hdst;go_simp)|((with_reducible refine zW fun K1 K3 h1 h3=>?_);go_simp)|((first|refine h1 ?_|refine h3 ?_);clear h1 h3 K1 K3)|((first|refine zX (fun hb=>h1 ?_) (fun hb=>h3 ?_)|refine zX (fun hb=>h3 ?_) (fun hb=>h1 ?_))<;>(clear h1 h3 K1 K3;(try have hb2:=yC hb);(try have hb2:=yD hb);(try have hb2:=yE hb);(try have hb2:=yF hb);(try have hb2:=yG hb)))|(refine fun (K2:_→AHeap→Prop) hK2=>?_)|((with_reducible refine zY ?_ ?_);decide)|((with_reducible first|refine zZ ?_ (fun K hK=>?_)|refine yA ?_ (fun K hK=>?_));(focus go_simp;done);go_simp;refine hK _ _ ?_;clear hK K)|(go_simp;(try go_bits);(try first | ((refine one_k el23 sz3 ze3 rfl (by decide) (by decide) rfl rfl ?_); go_simp) | ((with_reducible show CallS _ _ _ _ _ _);refine CallS.mono (HSH.out _ _) ?_; rintro _ J2 ⟨⟨a2, n2, c2, rfl, hi2, hb2⟩, hx2⟩; (have HI2 := Lib.hid hi2); (have HB2 := Lib.hid hb2); (have HX2 := Lib.hid hx2); (have hg0 : J2.get H.n = .row [.slice none 0 0, .int .i64 0, .int .i64 0] 76 := by (rw [HX2.out.get _ (by simp only [AHeap.n_push]; omega), AHeap.get_push_old (by rw [AHeap.n_push]; omega), AHeap.get_push_new])); (have hl0 : H.n < J2.n := by (have := HX2.out.n; simp only [AHeap.n_push] at this; omega)); clear hi2 hx2 hb2));refine hK2 _ _ ?_;clear hK2 K2))
  refine ⟨⟨_, _, _, rfl, ints_upd HI2.out (fun x h => by have := HB2.out x h; simp only [AHeap.n_push] at this; omega) _⟩, (((Ext.push _).push' _).trans HX2.out).upd (Nat.le_refl _) _⟩
end Go.Proofs.Tryz
namespace Go.Proofs.Tryz
open Go Go.Am Go.RowKit
set_option maxRecDepth 100000


set_option maxHeartbeats 8000000 in
theorem law6 {H : AHeap} {v pv : Value} {n turn : Int} {l p : List Int} (hv : Ints H v l) (hp : Ints H pv p) :
    CallS Tryz.prog [] 6 [.int .i64 n, v, pv, .int .i64 turn] H fun r _ => r = .bool true := by
  have HA := Lib.hid (fun (loops : List (Nat × LInfo)) (H2 : AHeap) (hx : Ext H H2) => share_e (loops := loops) (n := n) (turn := turn) (hp.ext hx))
  have HB := Lib.hid (fun (loops : List (Nat × LInfo)) (H2 : AHeap) (hx : Ext H H2) (hl : p.length ≤ 1000) => refShare_e (loops := loops) (n := n) (turn := turn) (hp.ext hx) hl)
  have HC := Lib.hid (fun (loops : List (Nat × LInfo)) (H2 : AHeap) (hx : Ext H H2) => shares_e (loops := loops) (turn := turn) (hv.ext hx) (hp.ext hx))
  have HD := Lib.hid (fun (loops : List (Nat × LInfo)) (H2 : AHeap) (hx : Ext H H2) (hl : p.length ≤ 1000) => refShares_e (loops := loops) (turn := turn) (hv.ext hx) (hp.ext hx) hl)
  obtain ⟨hlen, a, c, rfl⟩ := hv.slice
  obtain ⟨hplen, pa, pc, rfl⟩ := hp.slice
  generalize shT [n] p turn = t1 at HA HB
  generalize errS [n] p turn = e1 at HA HB
  generalize shL [n] p turn = s1 at HA HB
  generalize shT l p turn = t2 at HC HD
  generalize errS l p turn = e2 at HC HD
  generalize shL l p turn = s2 at HC HD
  clear hv hp
  by_cases h90 : 90 < l.length
  · have b1 : (90 : Int) < (l.length : Int) := by omega
    clear h90
    refine CallS.enter' Tryz.func6 rfl Tryz.ntmps6 (by simp) fun f hd hf => ?_
    have f0 := hf 0
    have f1 := hf 1
    have f2 := hf 2
    have f3 := hf 3
    simp at f0 f1 f2 f3
    clear hf
    repeat' (first|(with_reducible first|refine zA ?_|refine zB fun K hK=>?_|refine zC fun K2 hK2=>?_|refine zD ?_|refine zE ?_|refine zF ?_|refine zG ?_|refine zH ?_|refine zI ?_|refine zM ?_|refine zN ?_|refine zO ?_|refine zP ?_|refine zQ ?_|refine zR ?_)|((with_reducible refine zU (hK _ _ ?_));clear hK K)|((with_reducible refine zV ?_ ?_ fun K1 K3 d hdst h1 h3=>?_);rfl;exact yB rfl;cases hdst;go_simp)|((with_reducible refine zW fun K1 K3 h1 h3=>?_);go_simp)|((first|refine h1 ?_|refine h3 ?_);clear h1 h3 K1 K3)|((first|refine zX (fun hb=>h1 ?_) (fun hb=>h3 ?_)|refine zX (fun hb=>h3 ?_) (fun hb=>h1 ?_))<;>(clear h1 h3 K1 K3;(try have hb2:=yC hb);(try have hb2:=yD hb);(try have hb2:=yE hb);(try have hb2:=yF hb);(try have hb2:=yG hb)))|(refine fun (K2:_→AHeap→Prop) hK2=>?_)|((with_reducible refine zY ?_ ?_);decide)|((with_reducible first|refine zZ ?_ (fun K hK=>?_)|refine yA ?_ (fun K hK=>?_));(focus go_simp;done);go_simp;refine hK _ _ ?_;clear hK K)|(go_simp;(try go_bits);(try first | ((with_reducible show CallS _ _ _ _ _ _);refine CallS.mono head_s ?_; rintro _ _ ⟨rfl, h9⟩; rw [h9]; clear h9; go_simp));refine hK2 _ _ ?_;clear hK2 K2))
    all_goals rfl
  have b1 : ¬ (90 : Int) < (l.length : Int) := by omega
  by_cases h20 : 20 < p.length
  · have b2 : (20 : Int) < (p.length : Int) := by omega
    clear h90 h20
    refine CallS.enter' Tryz.func6 rfl Tryz.ntmps6 (by simp) fun f hd hf => ?_
    have f0 := hf 0
    have f1 := hf 1
    have f2 := hf 2
    have f3 := hf 3
    simp at f0 f1 f2 f3
    clear hf
    repeat' (first|(with_reducible first|refine zA ?_|refine zB fun K hK=>?_|refine zC fun K2 hK2=>?_|refine zD ?_|refine zE ?_|refine zF ?_|refine zG ?_|refine zH ?_|refine zI ?_|refine zM ?_|refine zN ?_|refine zO ?_|refine zP ?_|refine zQ ?_|refine zR ?_)|((with_reducible refine zU (hK _ _ ?_));clear hK K)|((with_reducible refine zV ?_ ?_ fun K1 K3 d hdst h1 h3=>?_);rfl;exact yB rfl;cases hdst;go_simp)|((with_reducible refine zW fun K1 K3 h1 h3=>?_);go_simp)|((first|refine h1 ?_|refine h3 ?_);clear h1 h3 K1 K3)|((first|refine zX (fun hb=>h1 ?_) (fun hb=>h3 ?_)|refine zX (fun hb=>h3 ?_) (fun hb=>h1 ?_))<;>(clear h1 h3 K1 K3;(try have hb2:=yC hb);(try have hb2:=yD hb);(try have hb2:=yE hb);(try have hb2:=yF hb);(try have hb2:=yG hb)))|(refine fun (K2:_→AHeap→Prop) hK2=>?_)|((with_reducible refine zY ?_ ?_);decide)|((with_reducible first|refine zZ ?_ (fun K hK=>?_)|refine yA ?_ (fun K hK=>?_));(focus go_simp;done);go_simp;refine hK _ _ ?_;clear hK K)|(go_simp;(try go_bits);(try first | ((with_reducible show CallS _ _ _ _ _ _);refine CallS.mono head_s ?_; rintro _ _ ⟨rfl, h9⟩; rw [h9]; clear h9; go_simp));refine hK2 _ _ ?_;clear hK2 K2))
    all_goals rfl
  have b2 : ¬ (20 : Int) < (p.length : Int) := by omega
  have HPL : Hid (p.length ≤ 1000) := Lib.hid (by omega)
  clear h90 h20
  refine CallS.enter' Tryz.func6 rfl Tryz.ntmps6 (by simp) fun f hd hf => ?_
  have f0 := hf 0
  have f1 := hf 1
  have f2 := hf 2
  have f3 := hf 3
  simp at f0 f1 f2 f3
  clear hf
  repeat' (first|(with_reducible first|refine zA ?_|refine zB fun K hK=>?_|refine zC fun K2 hK2=>?_|refine zD ?_|refine zE ?_|refine zF ?_|refine zG ?_|refine zH ?_|refine zI ?_|refine zM ?_|refine zN ?_|refine zO ?_|refine zP ?_|refine zQ ?_|refine zR ?_)|((with_reducible refine zU (hK _ _ ?_));clear hK K)|((with_reducible refine zV ?_ ?_ fun K1 K3 d hdst h1 h3=>?_);rfl;exact yB rfl;cases hdst;go_simp)|((with_reducible refine zW fun K1 K3 h1 h3=>?_);go_simp)|((first|refine h1 ?_|refine h3 ?_);clear h1 h3 K1 K3)|((first|refine zX (fun hb=>h1 ?_) (fun hb=>h3 ?_)|refine zX (fun hb=>h3 ?_) (fun hb=>h1 ?_))<;>(clear h1 h3 K1 K3;(try have hb2:=yC hb);(try have hb2:=yD hb);(try have hb2:=yE hb);(try have hb2:=yF hb);(try have hb2:=yG hb)))|(refine fun (K2:_→AHeap→Prop) hK2=>?_)|((with_reducible refine zY ?_ ?_);decide)|((with_reducible first|refine zZ ?_ (fun K hK=>?_)|refine yA ?_ (fun K hK=>?_));(focus go_simp;done);go_simp;refine hK _ _ ?_;clear hK K)|(go_simp;(try go_bits);(try first |((with_reducible show CallS _ _ _ _ _ _);first|(refine CallS.mono (HA.out _ _ (Ext.refl _)) ?_; rintro _ H2 ⟨⟨a2, n2, c2, rfl, hi2⟩, hx2⟩; (have HX2 := Lib.hid hx2); (have HI2 := Lib.hid hi2); clear hi2 hx2)|(refine CallS.mono (HB.out _ _ HX2.out HPL.out) ?_; rintro _ H3 ⟨⟨a3, n3, c3, rfl, hi3⟩, hx3⟩; (have HX3 := Lib.hid (HX2.out.trans hx3)); (have HI2b := Lib.hid (HI2.out.ext hx3)); (have HI3 := Lib.hid hi3); clear hi3 hx3)|(refine CallS.mono (HC.out _ _ (HX3.out.push' _)) ?_; rintro _ H4 ⟨⟨a4, n4, c4, rfl, hi4⟩, hx4⟩; (have HX4 := Lib.hid ((HX3.out.push' _).trans hx4)); (have HI2c := Lib.hid ((HI2b.out.ext (Ext.push _)).ext hx4)); (have HI3c := Lib.hid ((HI3.out.ext (Ext.push _)).ext hx4)); (have HI4 := Lib.hid hi4); (have hg12 : H4.get H3.n = .row [.slice a3 n3 c3, .int .i64 t1, .int .i64 e1] 76 := by (rw [hx4.get _ (by rw [AHeap.n_push]; omega), AHeap.get_push_new])); (have hl12 : H3.n < H4.n := by (have := hx4.n; rw [AHeap.n_push] at this; omega)); clear hi4 hx4)|(refine CallS.mono (HD.out _ _ HX4.out HPL.out) ?_; rintro _ H5 ⟨⟨a5, n5, c5, rfl, hi5, -⟩, hx5⟩; (have HX5 := Lib.hid (HX4.out.trans hx5)); (have HI2d := Lib.hid ((HI2c.out.ext hx5).ext (Ext.push (.row [.slice a5 n5 c5, .int .i64 t2, .int .i64 e2] 76)))); (have HI3d := Lib.hid ((HI3c.out.ext hx5).ext (Ext.push (.row [.slice a5 n5 c5, .int .i64 t2, .int .i64 e2] 76)))); (have HI4d := Lib.hid ((HI4.out.ext hx5).ext (Ext.push (.row [.slice a5 n5 c5, .int .i64 t2, .int .i64 e2] 76)))); (have HI5d := Lib.hid (hi5.ext (Ext.push (.row [.slice a5 n5 c5, .int .i64 t2, .int .i64 e2] 76)))); (have hg13 : H5.get H3.n = .row [.slice a3 n3 c3, .int .i64 t1, .int .i64 e1] 76 := by (rw [hx5.get _ hl12]; exact hg12)); (have hl13 : H3.n < H5.n := by (have := hx5.n; omega)); (have hq0 : cellAt H5 H3.n 0 = some (.slice a3 n3 c3) := by simp [cellAt, hg13]); (have hq1 : cellAt H5 H3.n 1 = some (.int .i64 t1) := by simp [cellAt, hg13]); (have hq2 : cellAt H5 H3.n 2 = some (.int .i64 e1) := by simp [cellAt, hg13]); clear hi5 hx5)|(refine CallS.mono (sameInts_s HI2d.out HI3d.out) ?_; rintro _ _ ⟨rfl, h9⟩; rw [h9]; clear h9; go_simp)|(refine CallS.mono (sameInts_s HI4d.out HI5d.out) ?_; rintro _ _ ⟨rfl, h9⟩; rw [h9]; clear h9; go_simp)|(refine CallS.mono head_s ?_; rintro _ _ ⟨rfl, h9⟩; rw [h9]; clear h9; go_simp)));refine hK2 _ _ ?_;clear hK2 K2))
  all_goals rfl
end Go.Proofs.Tryz
