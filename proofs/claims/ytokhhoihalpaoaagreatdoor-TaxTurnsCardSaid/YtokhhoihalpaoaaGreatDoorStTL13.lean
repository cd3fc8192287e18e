/- Contracts of functions, walked. -/
import Derived.Test.YtokhhoihalpaoaaGreatDoorChecked
import Derived.Test.YtokhhoihalpaoaaGreatDoorRows
import Derived.Below
import Derived.Carry
import Derived.Deep.Slices
import Derived.Deep.Fields
import Derived.ChangeSame
import Derived.ChangeVars
import Derived.JoinedOf
import Derived.LaidLaws
import Derived.LaidHandle
import Derived.Deep.DeepLaidRun
import Derived.Stop.Joined
import Derived.ProofKit
import Derived.OpenShut
import Derived.LaidMore
import Derived.Lib.SmallJoins
import Derived.Test.YtokhhoihalpaoaaGreatDoorStU5
import Derived.Test.YtokhhoihalpaoaaGreatDoorStP4
import Derived.Test.YtokhhoihalpaoaaGreatDoorStU2
set_option linter.all false
namespace Go.Proofs.Tryz
open Go Go.Am Go.RowKit
set_option maxRecDepth 100000


def rowsK (p l : List Int) (turn : Int) : Nat → List (List Int) × Int
  | 0 => ([], turn)
  | k + 1 => ((rowsK p l turn k).1 ++ [(divS (l.getD k 0) p (rowsK p l turn k).2 p.length).s], (divS (l.getD k 0) p (rowsK p l turn k).2 p.length).next)
structure ShOk (l p : List Int) (turn : Int) : Prop where
  len : l.length ≤ 80
  amt : ∀ n ∈ l, 0 ≤ n ∧ n ≤ 1099511627776
  ok : partsOk p = true
  at_ : 0 ≤ turn ∧ turn < p.length
  sum : l.sum ≤ 1099511627776
theorem shOk {l p : List Int} {turn : Int} (h : errS l p turn = 0) : ShOk l p turn := by
  unfold errS at h
  split at h
  · cases h
  · rename_i h1
    split at h
    · cases h
    · rename_i h2
      split at h
      · cases h
      · rename_i h3
        simp only [Bool.not_eq_false, Bool.and_eq_true, win_iff, List.all_eq_true] at h2
        exact ⟨by omega, fun n hn => by have := h2.1 n hn; exact this, h2.2.1, by omega, by omega⟩
structure RFacts (p : List Int) (k : Nat) (r : List (List Int) × Int) : Prop where
  len : r.1.length = k
  row : ∀ xs ∈ r.1, xs.length = p.length ∧ Up 1099511627800 xs
  at_ : 0 ≤ r.2 ∧ r.2 < p.length
theorem rowsK_facts {l p : List Int} {turn : Int} (h : ShOk l p turn) : ∀ k, k ≤ l.length → RFacts p k (rowsK p l turn k)
  | 0, _ => ⟨rfl, fun xs hx => by simp [rowsK] at hx, h.at_⟩
  | k + 1, hk => by
    have ih := rowsK_facts h k (by omega)
    have hn : l.getD k 0 ∈ l := by rw [List.getD, List.getElem?_eq_getElem (by omega)]; exact List.getElem_mem _
    have hd := dFacts ⟨h.amt _ hn, h.ok, ih.at_⟩ p.length
    have hp := pFacts h.ok
    refine ⟨by simp [rowsK, ih.len], fun xs hx => ?_, hd.next⟩
    simp only [rowsK, List.mem_append, List.mem_singleton] at hx
    rcases hx with hx | rfl
    · exact ih.row xs hx
    · exact ⟨hd.len, fun y hy => by have := hd.bd y hy; have := hp.len; omega⟩
theorem dvOk {l p : List Int} {turn : Int} (h : ShOk l p turn) {k : Nat} (hk : k < l.length) : DvOk (l.getD k 0) p (rowsK p l turn k).2 :=
  ⟨h.amt _ (by rw [List.getD, List.getElem?_eq_getElem hk]; exact List.getElem_mem _), h.ok, (rowsK_facts h k (by omega)).at_⟩

structure RowsO (base : Nat) (J : AHeap) (u : Value) (vs : List Value) (xss : List (List Int)) : Prop where
  own : Own J base u 23 1 vs
  len : vs.length = xss.length
  row : ∀ i (h : i < xss.length), ∃ b, vs[i]? = some (.slice (some ⟨b, 0, none⟩) xss[i].length xss[i].length) ∧ OwnB J base b xss[i] ∧ ∀ bu n, u = .slice (some ⟨bu, 0, none⟩) n n → b ≠ bu
theorem RowsO.one {base : Nat} {J : AHeap} {u : Value} {vs : List Value} {xss : List (List Int)} (h : RowsO base J u vs xss) : vs.all oneV = true := by
  rw [List.all_eq_true]
  intro v hv
  obtain ⟨i, hi, rfl⟩ := List.getElem_of_mem hv
  obtain ⟨b, e, -⟩ := h.row i (by rw [← h.len]; exact hi)
  rw [List.getElem?_eq_getElem hi] at e
  rw [Option.some.inj e]; rfl
theorem RowsO.step {base : Nat} {J X H4 : AHeap} {u v4 : Value} {vs : List Value} {xss : List (List Int)} {xs : List Int} {b : Nat} (h : RowsO base J u vs xss) (hx : Ext J X) (hb : OwnB X base b xs) (hbJ : J.n ≤ b) (ho : Own H4 X.n v4 23 1 (vs ++ [.slice (some ⟨b, 0, none⟩) xs.length xs.length])) (hg : Grown X H4 base u) (hB : base ≤ X.n) : RowsO base H4 v4 (vs ++ [.slice (some ⟨b, 0, none⟩) xs.length xs.length]) (xss ++ [xs]) := by
  have hv4 : ∀ (b' : Nat), b' < X.n → ∀ bu n, v4 = .slice (some ⟨bu, 0, none⟩) n n → b' ≠ bu := by
    intro b' hb' bu n he
    rcases ho with ⟨h1, _⟩ | ⟨b2, n2, h1, h2, _⟩
    · rw [h1] at he; cases he
    · rw [h1] at he; cases he; omega
  refine ⟨ho.mono hB, by simp [h.len], fun i hi => ?_⟩
  rcases Nat.lt_or_ge i xss.length with h1 | h1
  · obtain ⟨b1, e1, e2, e3⟩ := h.row i h1
    have hlt : b1 < X.n := Nat.lt_of_lt_of_le e2.hi hx.n
    refine ⟨b1, ?_, ?_, hv4 b1 hlt⟩
    · rw [List.getElem?_append_left (by rw [h.len]; exact h1), List.getElem_append_left h1]; exact e1
    · rw [List.getElem_append_left h1]
      exact ⟨e2.lo, Nat.lt_of_lt_of_le hlt hg.1, by rw [hg.2 b1 hlt fun b n hs _ => e3 b n hs, hx.get b1 e2.hi]; exact e2.row⟩
  · have h2 : i = xss.length := by simp at hi; omega
    subst h2
    refine ⟨b, ?_, ?_, hv4 b hb.hi⟩
    · rw [List.getElem?_append_right (by rw [h.len]; exact Nat.le_refl _), h.len]; simp
    · rw [List.getElem_append_right (Nat.le_refl _)]
      simp only [Nat.sub_self, List.getElem_cons_zero]
      refine ⟨hb.lo, Nat.lt_of_lt_of_le hb.hi hg.1, ?_⟩
      rw [hg.2 b hb.hi fun bu n hs _ he => by have := own_lt h.own hs; omega]; exact hb.row
theorem RowsO.rows {base : Nat} {J : AHeap} {u : Value} {vs : List Value} {xss : List (List Int)} (h : RowsO base J u vs xss) (h0 : ∀ xs ∈ xss, 0 < xs.length ∧ xs.length ≤ 1000) (hl : xss.length ≤ 1000) : RowsV J u xss := by
  refine ⟨vs, ⟨by rw [h.len]; simp, by omega, ?_⟩, h.len, fun i hi => ?_⟩
  · rcases h.own with ⟨rfl, hv⟩ | ⟨b, n, rfl, h1, h2, h3, h4, h5⟩
    · have := h.len; rw [hv] at this
      simp at this
      rw [← this]
      exact ⟨none, 0, rfl, fun _ => rfl, fun h => absurd h (by omega)⟩
    · rw [Nat.mul_one, h.len] at h4
      subst h4
      exact ⟨_, _, rfl, (fun h => by cases h), fun _ => ⟨b, 0, none, rfl, h2, fun j w hw => by simp only [cellAt, h3, Nat.zero_add]; exact hw⟩⟩
  · obtain ⟨b, e1, e2, -⟩ := h.row i hi
    have := h0 _ (List.getElem_mem hi)
    exact ⟨_, _, _, e1, own_ints (e2.own this.1) this.2⟩

def shL (l p : List Int) (turn : Int) : List Int := if errS l p turn = 0 then mergeK p.length (rowsK p l turn l.length).1 else []
def shT (l p : List Int) (turn : Int) : Int := if errS l p turn = 0 then (rowsK p l turn l.length).2 else 0

set_option maxHeartbeats 8000000 in
theorem shares_e {loops : List (Nat × LInfo)} {H : AHeap} {v pv : Value} {l p : List Int} {turn : Int} (hv : Ints H v l) (hp : Ints H pv p) : CallS Tryz.prog loops 45 [v, pv, .int .i64 turn] H fun r H' => (∃ a n c, r = .tuple #[.slice a n c, .int .i64 (shT l p turn), .int .i64 (errS l p turn)] ∧ Ints H' (.slice a n c) (shL l p turn)) ∧ Ext H H' := by
  have HCK := Lib.hid (fun (loops : List (Nat × LInfo)) => checkShares_s (loops := loops) (turn := turn) hv hp)
  have HV := Lib.hid hv
  have HP := Lib.hid hp
  obtain ⟨hlen, a, c, rfl⟩ := hv.slice
  obtain ⟨hplen, pa, pc, rfl⟩ := hp.slice
  clear hv hp
  unfold shL shT
  by_cases h0 : errS l p turn = 0
  case' neg =>
    rw [if_neg h0, if_neg h0]
    have h0b : (errS l p turn != 0) = true := by simpa using h0
    generalize errS l p turn = er at HCK h0b
    clear h0
    refine CallS.enter' Tryz.func45 rfl Tryz.ntmps45 (by simp) fun f hd hf => ?_
    have f0 := hf 0
    have f1 := hf 1
    have f2 := hf 2
    simp at f0 f1 f2
    clear hf
    repeat' (first|(with_reducible first|refine zA ?_|refine zB fun K hK=>?_|refine zC fun K2 hK2=>?_|refine zD ?_|refine zE ?_|refine zF ?_|refine zG ?_|refine zH ?_|refine zI ?_|refine zM ?_|refine zN ?_|refine zO ?_|refine zP ?_|refine zQ ?_|refine zR ?_)|((with_reducible refine zU (hK _ _ ?_));clear hK K)|((with_reducible refine zV ?_ ?_ fun K1 K3 d hdst h1 h3=>?_);rfl;exact yB rfl;cases hdst;go_simp)|((with_reducible refine zW fun K1 K3 h1 h3=>?_);go_simp)|((first|refine h1 ?_|refine h3 ?_);clear h1 h3 K1 K3)|((first|refine zX (fun hb=>h1 ?_) (fun hb=>h3 ?_)|refine zX (fun hb=>h3 ?_) (fun hb=>h1 ?_))<;>(clear h1 h3 K1 K3;(try have hb2:=yC hb);(try have hb2:=yD hb);(try have hb2:=yE hb);(try have hb2:=yF hb);(try have hb2:=yG hb)))|(refine fun (K2:_→AHeap→Prop) hK2=>?_)|((with_reducible refine zY ?_ ?_);decide)|((with_reducible first|refine zZ ?_ (fun K hK=>?_)|refine yA ?_ (fun K hK=>?_));(focus go_simp;done);go_simp;refine hK _ _ ?_;clear hK K)|(go_simp;(try go_bits);(try first | ((with_reducible show CallS _ _ _ _ _ _);refine CallS.mono (HCK.out _) ?_; rintro _ _ ⟨rfl, h9⟩; rw [h9]; clear h9; go_simp));refine hK2 _ _ ?_;clear hK2 K2))
    exact ⟨⟨_, _, _, rfl, ints_nil fun _ => rfl⟩, Ext.refl _⟩
  have HOK := Lib.hid (shOk h0)
  have hL := (pFacts HOK.out.ok).len
  have hll := HOK.out.len
  rw [h0, if_pos rfl, if_pos rfl]
  rw [h0] at HCK
  clear h0
  refine CallS.enter' Tryz.func45 rfl Tryz.ntmps45 (by simp) fun f hd hf => ?_
  have f0 := hf 0
  have f1 := hf 1
  have f2 := hf 2
  simp at f0 f1 f2
  clear hf
  repeat' (first|(with_reducible first|refine zA ?_|refine zB fun K hK=>?_|refine zC fun K2 hK2=>?_|refine zD ?_|refine zE ?_|refine zF ?_|refine zG ?_|refine zH ?_|refine zI ?_|refine zM ?_|refine zN ?_|refine zO ?_|refine zP ?_|refine zQ ?_|refine zR ?_)|((with_reducible refine zU (hK _ _ ?_));clear hK K)|((with_reducible refine zV ?_ ?_ fun K1 K3 d hdst h1 h3=>?_);rfl;exact yB rfl;cases hdst;go_simp)|((with_reducible refine zW fun K1 K3 h1 h3=>?_);go_simp)|((first|refine h1 ?_|refine h3 ?_);clear h1 h3 K1 K3)|((first|refine zX (fun hb=>h1 ?_) (fun hb=>h3 ?_)|refine zX (fun hb=>h3 ?_) (fun hb=>h1 ?_))<;>(clear h1 h3 K1 K3;(try have hb2:=yC hb);(try have hb2:=yD hb);(try have hb2:=yE hb);(try have hb2:=yF hb);(try have hb2:=yG hb)))|(refine fun (K2:_→AHeap→Prop) hK2=>?_)|((with_reducible refine zY ?_ ?_);decide)|((with_reducible first|refine zZ ?_ (fun K hK=>?_)|refine yA ?_ (fun K hK=>?_));(focus go_simp;done);go_simp;refine hK _ _ ?_;clear hK K)|(go_simp;(try go_bits);(try first | ((with_reducible show CallS _ _ _ _ _ _);refine CallS.mono (HCK.out _) ?_; rintro _ _ ⟨rfl, h9⟩; rw [h9]; clear h9; go_simp));refine hK2 _ _ ?_;clear hK2 K2))
  refine CodeS.loop (fun m f J => ∃ (k : Nat) (u : Value) (vs : List Value) (xss : List (List Int)) (tn : Int), k ≤ l.length ∧ m = l.length - k ∧ f.tmp 24 = .int .i64 k ∧ f.tmp 23 = .int .i64 l.length ∧ f.tmp 22 = .slice a l.length c ∧ f.tmp 0 = .slice a l.length c ∧ f.tmp 1 = .slice pa p.length pc ∧ f.tmp 2 = .int .i64 tn ∧ f.tmp 10 = u ∧ f.defers = [] ∧ Hid (rowsK p l turn k = (xss, tn)) ∧ Hid (RowsO H.n J u vs xss) ∧ Hid (Ext H J)) l.length ?_ ?_
  · exact ⟨0, .slice none 0 0, [], [], turn, by omega, by omega, (by first|go_simp<;>go_num|assumption), (by first|go_simp<;>go_num|assumption), (by first|go_simp<;>go_num|assumption), (by first|go_simp<;>go_num|assumption), (by first|go_simp<;>go_num|assumption), (by first|go_simp<;>go_num|assumption), (by first|go_simp<;>go_num|assumption), (by first|go_simp<;>go_num|assumption), Lib.hid rfl, Lib.hid ⟨Own.nil, rfl, fun i hi => absurd hi (by simp)⟩, Lib.hid (Ext.refl _)⟩
  clear f0 f1 f2 hd f
  rintro m f J ⟨k, u, vs, xss, tn, hk, rfl, f24, f23, f22, f0, f1, f2, f10, hd, HRK, HR, HX⟩
  obtain ⟨ua, un, rfl⟩ := own_sliceP HR.out.own
  have hrf := rowsK_facts HOK.out k hk
  rw [HRK.out] at hrf
  by_cases hlt : k < l.length
  · have hdv := dvOk HOK.out hlt
    rw [HRK.out] at hdv
    obtain ⟨b, o, sp, rfl, hb, hx⟩ := (HV.out.ext HX.out).at_ hlt
    have hlb : (k : Int) < (l.length : Int) := by omega
    have w1 := wrap_id (n := (k : Int) + 1) (by omega)
    have hgd : l.getD k 0 = l[k] := by rw [List.getD, List.getElem?_eq_getElem hlt]; rfl
    have HNX : Hid (rowsK p l turn (k + 1) = (xss ++ [(divS (l.getD k 0) p tn p.length).s], (divS (l.getD k 0) p tn p.length).next)) := Lib.hid (by rw [rowsK, HRK.out])
    have HDV := Lib.hid (fun (loops : List (Nat × LInfo)) => divide_e (loops := loops) (HP.out.ext HX.out) hdv)
    have hsl := (dFacts hdv p.length).len
    have hvl := HR.out.len
    have hxl := hrf.len
    rw [hgd] at HNX HDV hsl
    have HBIG : Hid ((vs.length + 1) * max 24 1 ≤ 1073741824) := Lib.hid (by show (vs.length + 1) * 24 ≤ 1073741824; rw [hvl]; simp only at hxl; omega)
    have HONE := Lib.hid HR.out.one
    have HNX2 := Lib.hid HX.out.n
    generalize l[k] = n at hx HNX HDV hsl
    generalize hst : divS n p tn p.length = st at HNX HDV hsl
    obtain ⟨s, lf, nx⟩ := st
    simp only at HNX HDV hsl
    clear hdv hgd hvl hxl hrf hst
    repeat' (first|(with_reducible first|refine zA ?_|refine zB fun K hK=>?_|refine zC fun K2 hK2=>?_|refine zD ?_|refine zE ?_|refine zF ?_|refine zG ?_|refine zH ?_|refine zI ?_|refine zM ?_|refine zN ?_|refine zO ?_|refine zP ?_|refine zQ ?_|refine zR ?_)|((with_reducible refine zU (hK _ _ ?_));clear hK K)|((with_reducible refine zV ?_ ?_ fun K1 K3 d hdst h1 h3=>?_);rfl;exact yB rfl;cases hdst;go_simp)|((with_reducible refine zW fun K1 K3 h1 h3=>?_);go_simp)|((first|refine h1 ?_|refine h3 ?_);clear h1 h3 K1 K3)|((first|refine zX (fun hb=>h1 ?_) (fun hb=>h3 ?_)|refine zX (fun hb=>h3 ?_) (fun hb=>h1 ?_))<;>(clear h1 h3 K1 K3;(try have hb2:=yC hb);(try have hb2:=yD hb);(try have hb2:=yE hb);(try have hb2:=yF hb);(try have hb2:=yG hb)))|(refine fun (K2:_→AHeap→Prop) hK2=>?_)|((with_reducible refine zY ?_ ?_);decide)|((with_reducible first|refine zZ ?_ (fun K hK=>?_)|refine yA ?_ (fun K hK=>?_));(focus go_simp;done);go_simp;refine hK _ _ ?_;clear hK K)|(go_simp;(try go_bits);(try first | ((with_reducible show CallS _ _ _ _ _ _);refine CallS.mono (HDV.out _) ?_; rintro _ J2 ⟨⟨b2, rfl, hob⟩, hx2⟩; (have HOB := Lib.hid hob); (have HX2 := Lib.hid hx2); clear hob hx2) | ((refine one_k el94 sz23 ze23 rfl (by decide) (by decide) rfl rfl ?_); go_simp) | ((refine append_k2 el94 sz23 by23 ze23 rfl (by decide) ((HR.out.own.ext HX2.out).ext (Ext.push _)) (srcCells_new rfl) (by decide) rfl (by rw [List.all_append, HONE.out]; rfl) HBIG.out (by rw [AHeap.n_push]; have := HNX2.out; have := HX2.out.n; omega) fun v4 H4 ho4 hg4 => ?_); (obtain ⟨a4, n4, rfl⟩ := own_sliceP ho4); (have HO4 := Lib.hid ho4); (have HG4 := Lib.hid hg4); (have HX4 := Lib.hid (hg4.ext ((HR.out.own.ext HX2.out).ext (Ext.push _)) (Nat.le_refl _) ((HX.out.trans HX2.out).push' _))); clear ho4 hg4; go_simp));refine hK2 _ _ ?_;clear hK2 K2))
    have hr := HR.out.step (X := J2.push (.row [.slice (some ⟨b2, 0, none⟩) p.length p.length] 23)) (HX2.out.push' _) (xs := s) (b := b2) ⟨by have := HOB.out.lo; have := HNX2.out; omega, by rw [AHeap.n_push]; have := HOB.out.hi; omega, by rw [AHeap.get_push_old HOB.out.hi]; exact HOB.out.row⟩ HOB.out.lo (by rw [hsl]; exact HO4.out) HG4.out (by rw [AHeap.n_push]; have := HNX2.out; have := HX2.out.n; omega)
    exact Post.round_normal ⟨l.length - (k + 1), by omega, k + 1, .slice a4 n4 n4, _, xss ++ [s], nx, by omega, rfl, (by first|go_simp<;>go_num|assumption), (by first|go_simp<;>go_num|assumption), (by first|go_simp<;>go_num|assumption), (by first|go_simp<;>go_num|assumption), (by first|go_simp<;>go_num|assumption), (by first|go_simp<;>go_num|assumption), (by first|go_simp<;>go_num|assumption), (by first|go_simp<;>go_num|assumption), HNX, Lib.hid hr, HX4⟩
  · have hlb : ¬ (k : Int) < (l.length : Int) := by omega
    obtain rfl : k = l.length := by omega
    have hrv := HR.out.rows (fun xs hx => by have := hrf.row xs hx; omega) (by have := hrf.len; simp only at this; omega)
    have hrl := hrv.slice
    have HME := Lib.hid (fun (loops : List (Nat × LInfo)) => merge_e (loops := loops) (L := p.length) hrv hL (by have := hrf.len; simp only at this; omega) (fun xs hx => (hrf.row xs hx).1) (fun xs hx => (hrf.row xs hx).2))
    rw [HRK.out]
    have hmk : (mergeK p.length xss).length = p.length := by have := mergeK_len p.length xss.length xss; rwa [List.take_length] at this
    have HMK := Lib.hid hmk
    clear hrf hrv hrl hmk
    repeat' (first|(with_reducible first|refine zA ?_|refine zB fun K hK=>?_|refine zC fun K2 hK2=>?_|refine zD ?_|refine zE ?_|refine zF ?_|refine zG ?_|refine zH ?_|refine zI ?_|refine zM ?_|refine zN ?_|refine zO ?_|refine zP ?_|refine zQ ?_|refine zR ?_)|((with_reducible refine zU (hK _ _ ?_));clear hK K)|((with_reducible refine zV ?_ ?_ fun K1 K3 d hdst h1 h3=>?_);rfl;exact yB rfl;cases hdst;go_simp)|((with_reducible refine zW fun K1 K3 h1 h3=>?_);go_simp)|((first|refine h1 ?_|refine h3 ?_);clear h1 h3 K1 K3)|((first|refine zX (fun hb=>h1 ?_) (fun hb=>h3 ?_)|refine zX (fun hb=>h3 ?_) (fun hb=>h1 ?_))<;>(clear h1 h3 K1 K3;(try have hb2:=yC hb);(try have hb2:=yD hb);(try have hb2:=yE hb);(try have hb2:=yF hb);(try have hb2:=yG hb)))|(refine fun (K2:_→AHeap→Prop) hK2=>?_)|((with_reducible refine zY ?_ ?_);decide)|((with_reducible first|refine zZ ?_ (fun K hK=>?_)|refine yA ?_ (fun K hK=>?_));(focus go_simp;done);go_simp;refine hK _ _ ?_;clear hK K)|(go_simp;(try go_bits);(try first | ((with_reducible show CallS _ _ _ _ _ _);refine CallS.mono (HME.out _) ?_; rintro _ J2 ⟨⟨b2, rfl, hob⟩, hx2⟩; (have HOB := Lib.hid hob); (have HX2 := Lib.hid hx2); clear hob hx2));refine hK2 _ _ ?_;clear hK2 K2))
    refine ⟨⟨_, _, _, rfl, ?_⟩, HX.out.trans HX2.out⟩
    have := own_ints (HOB.out.own (by rw [HMK.out]; omega)) (by rw [HMK.out]; omega)
    rwa [HMK.out] at this
end Go.Proofs.Tryz
namespace Go.Proofs.Tryz
open Go Go.Am Go.RowKit
set_option maxRecDepth 100000


def off (t L i : Nat) : Nat := if t ≤ i then i - t else i + L - t
theorem mod_add {t k L : Nat} (ht : t < L) (hk : k < L) : (t + k) % L = if t + k < L then t + k else t + k - L := by
  split
  · rename_i h; exact Nat.mod_eq_of_lt h
  · rename_i h; rw [Nat.mod_eq_sub_mod (by omega), Nat.mod_eq_of_lt (by omega)]
theorem off_at {t k L i : Nat} (ht : t < L) (hk : k < L) (hi : i < L) : off t L i = k ↔ i = (t + k) % L := by
  rw [mod_add ht hk]; unfold off
  split <;> split <;> omega
theorem getD_setI (l : List Int) (k i : Nat) (d : Int) (h : k < l.length) : (l.set k d).getD i 0 = if i = k then d else l.getD i 0 := by
  by_cases e : i = k
  · subst e; simp [List.getD, h]
  · rw [if_neg e]; simp only [List.getD, List.getElem?_set_ne (fun h => e h.symm)]
theorem sum_rep : ∀ (L : Nat) (c : Int), (List.replicate L c).sum = L * c
  | 0, c => by simp
  | L + 1, c => by rw [List.replicate_succ, List.sum_cons, sum_rep L c, Int.natCast_add, Int.add_mul]; simp; omega
theorem getD_rep {L i : Nat} (c : Int) (h : i < L) : (List.replicate L c).getD i 0 = c := by simp [List.getD, h]

structure DEq (n : Int) (L t k r : Nat) (st : DSt) : Prop where
  len : st.s.length = L
  left : st.left = (r : Int) - (min k r : Nat)
  next : st.next = (((t + min k r) % L : Nat) : Int)
  s : ∀ i, i < L → st.s.getD i 0 = n / L + if off t L i < min k r then 1 else 0
theorem divS_eq {n c : Int} {L t : Nat} (hL : 1 ≤ L) (hc : 1 ≤ c) (ht : t < L) : ∀ k, k ≤ L → DEq n L t k (n % L).toNat (divS n (List.replicate L c) t k)
  | 0, _ => by
    have hb : baseL n (List.replicate L c) = List.replicate L (n / L) := by
      unfold baseL
      rw [sum_rep, List.map_replicate, Int.mul_ediv_mul_of_pos_left _ _ (by omega)]
    have hr := Int.emod_nonneg n (b := (L : Int)) (by omega)
    refine ⟨by simp [divS, hb], ?_, ?_, fun i hi => ?_⟩
    · simp only [divS, hb, sum_rep]
      have := Int.emod_add_mul_ediv n L
      simp only [Nat.zero_min]
      omega
    · simp only [divS, Nat.zero_min, Nat.add_zero, Nat.mod_eq_of_lt ht]
    · simp only [divS, hb, Nat.zero_min]
      rw [getD_rep _ hi, if_neg (by omega)]; omega
  | k + 1, hk => by
    have ih := divS_eq (n := n) hL hc ht k (by omega)
    have hr := Int.emod_nonneg n (b := (L : Int)) (by omega)
    have hr2 := Int.emod_lt_of_pos n (b := (L : Int)) (by omega)
    have hw : whoD (List.replicate L c) t k = (t + k) % L := by
      unfold whoD
      rw [List.length_replicate, ← Int.natCast_add, ← Int.natCast_emod, Int.toNat_natCast]
    have hwl : (t + k) % L < L := Nat.mod_lt _ (by omega)
    rw [divS, divStep, hw, getD_rep _ hwl, sum_rep, List.length_replicate]
    have hrem : n * c % ((L : Int) * c) = n % L * c := by
      rw [Int.mul_comm n c, Int.mul_comm (L : Int) c, Int.mul_emod_mul_of_pos _ _ (by omega), Int.mul_comm]
    rw [hrem]
    generalize hst : divS n (List.replicate L c) t k = st at ih
    obtain ⟨hlen, hleft, hnext, hs⟩ := ih
    generalize hrr : (n % (L : Int)).toNat = r at *
    have hrn : n % (L : Int) = r := by omega
    by_cases hkr : k < r
    · have hc1 : 0 < st.left ∧ ¬ n % (L : Int) * c = 0 := by
        refine ⟨by rw [hleft, Nat.min_eq_left (by omega)]; omega, fun h => ?_⟩
        rcases Int.mul_eq_zero.1 h with h | h <;> omega
      rw [if_pos hc1]
      have m1 : min k r = k := Nat.min_eq_left (by omega)
      have m2 : min (k + 1) r = k + 1 := Nat.min_eq_left (by omega)
      rw [m1] at hleft hnext hs
      refine ⟨by simp [hlen], ?_, ?_, fun i hi => ?_⟩
      · rw [m2]; simp only; omega
      · rw [m2]; simp only
        rw [← Int.natCast_one, ← Int.natCast_add, ← Int.natCast_emod]
        congr 1
        rw [← Nat.add_assoc, Nat.mod_add_mod]
      · rw [m2]
        simp only
        rw [getD_setI _ _ _ _ (by rw [hlen]; exact hwl), hs i hi, hs _ hwl]
        have h1 := off_at ht (show k < L by omega) hi
        have h2 := (off_at ht (show k < L by omega) hwl).2 rfl
        rw [h2, if_neg (Nat.lt_irrefl k)]
        by_cases hiw : i = (t + k) % L
        · rw [if_pos hiw, if_pos (by rw [h1.2 hiw]; omega)]; omega
        · rw [if_neg hiw]
          have : off t L i ≠ k := fun h => hiw (h1.1 h)
          split <;> split <;> omega
    · have m1 : min k r = r := Nat.min_eq_right (by omega)
      have m2 : min (k + 1) r = r := Nat.min_eq_right (by omega)
      rw [m1] at hleft hnext hs
      rw [if_neg (fun h => by have := h.1; omega)]
      exact ⟨hlen, by rw [m2]; exact hleft, by rw [m2]; exact hnext, by rw [m2]; exact hs⟩

theorem parS_getD {acc xs : List Int} : ∀ (j i : Nat), j ≤ acc.length → (parS acc xs j).getD i 0 = if i < j then acc.getD i 0 + xs.getD i 0 else acc.getD i 0
  | 0, i, _ => by simp [parS]
  | j + 1, i, h => by
    rw [parS, getD_setI _ _ _ _ (by rw [parS_len]; omega), parS_at acc xs j j (Nat.le_refl _), parS_getD j i (by omega)]
    by_cases h1 : i = j
    · subst h1; rw [if_pos rfl, if_pos (by omega)]
    · rw [if_neg h1]
      split <;> split <;> first | rfl | omega

structure Fair (L t0 : Nat) (m : List Int) (tn : Int) : Prop where
  len : m.length = L
  ex : ∃ (q : Int) (e : Nat), e < L ∧ tn = (((t0 + e) % L : Nat) : Int) ∧ ∀ i, i < L → m.getD i 0 = q + if off t0 L i < e then 1 else 0
theorem fair_rows {l : List Int} {c : Int} {L t0 : Nat} (hL : 1 ≤ L) (hc : 1 ≤ c) (ht : t0 < L) (hl : ∀ n ∈ l, 0 ≤ n) : ∀ k, k ≤ l.length → Fair L t0 (mergeK L (rowsK (List.replicate L c) l t0 k).1) (rowsK (List.replicate L c) l t0 k).2
  | 0, _ => by
    refine ⟨by simp [rowsK, mergeK], 0, 0, by omega, by simp [rowsK, Nat.mod_eq_of_lt ht], fun i hi => ?_⟩
    rw [if_neg (by omega)]; simp [rowsK, mergeK, List.getD, hi]
  | k + 1, hk => by
    have ih := fair_rows hL hc ht hl k (by omega)
    obtain ⟨hlen, q, e, he, htn, hm⟩ := ih
    simp only [rowsK]
    rw [mergeK_snoc, htn, List.length_replicate]
    generalize l.getD k 0 = n
    have htl : (t0 + e) % L < L := Nat.mod_lt _ (by omega)
    have hd := divS_eq (n := n) hL hc htl L (Nat.le_refl _)
    have hr2 := Int.emod_lt_of_pos n (b := (L : Int)) (by omega)
    have hr1 := Int.emod_nonneg n (b := (L : Int)) (by omega)
    generalize hrr : (n % (L : Int)).toNat = r at hd
    have hrL : r < L := by omega
    generalize divS n (List.replicate L c) ((((t0 + e) % L : Nat) : Int)) L = st at hd
    obtain ⟨dlen, -, dnext, ds⟩ := hd
    rw [Nat.min_eq_right (by omega)] at dnext ds
    generalize mergeK L (rowsK (List.replicate L c) l t0 k).1 = m at hlen hm
    refine ⟨by rw [parS_len, hlen], if e + r < L then q + n / L else q + n / L + 1, if e + r < L then e + r else e + r - L, by split <;> omega, ?_, fun i hi => ?_⟩
    · rw [dnext]
      congr 1
      rw [Nat.mod_add_mod, Nat.add_assoc]
      split
      · rfl
      · rename_i h
        rw [show t0 + (e + r) = t0 + (e + r - L) + L by omega, Nat.add_mod_right]
    · rw [dlen, parS_getD L i (by omega), if_pos hi, hm i hi, ds i hi]
      have ho : off ((t0 + e) % L) L i = if off t0 L i < e then off t0 L i + L - e else off t0 L i - e := by
        rw [mod_add ht he]; unfold off
        split <;> split <;> split <;> (try split) <;> omega
      have hoL : off t0 L i < L := by unfold off; split <;> omega
      rw [ho]
      generalize off t0 L i = o at hoL
      by_cases h1 : o < e <;> by_cases h2 : e + r < L <;> simp only [h1, h2, if_true, if_false]
      · rw [if_neg (by omega), if_pos (by omega)]; omega
      · by_cases h3 : o + L - e < r
        · rw [if_pos h3, if_pos (by omega)]; omega
        · rw [if_neg h3, if_neg (by omega)]; omega
      · by_cases h3 : o - e < r
        · rw [if_pos h3, if_pos (by omega)]; omega
        · rw [if_neg h3, if_neg (by omega)]; omega
      · rw [if_pos (by omega), if_neg (by omega)]; omega
theorem fair_two {L t0 : Nat} {m : List Int} {tn : Int} (h : Fair L t0 m tn) : ∃ q, ∀ x ∈ m, q ≤ x ∧ x ≤ q + 1 := by
  obtain ⟨hlen, q, e, he, -, hm⟩ := h
  refine ⟨q, fun x hx => ?_⟩
  obtain ⟨i, hi, rfl⟩ := List.getElem_of_mem hx
  have := hm i (by omega)
  rw [List.getD, List.getElem?_eq_getElem hi] at this
  simp only [Option.getD_some] at this
  rw [this]; split <;> omega
end Go.Proofs.Tryz
namespace Go.Proofs.Tryz
open Go Go.Am Go.RowKit
set_option maxRecDepth 100000


def U32s (H : AHeap) (v : Value) (xs : List Int) : Prop := Cells H v 1 xs.length (xs.map (Value.int .u32))
theorem U32s.ext {H H' : AHeap} {v : Value} {xs : List Int} (h : U32s H v xs) (hx : Ext H H') : U32s H' v xs := Cells.ext h hx
theorem U32s.at_ {H : AHeap} {a : Option Addr} {n c : Nat} {xs : List Int} (h : U32s H (.slice a n c) xs) {k : Nat} (hk : k < xs.length) : ∃ b o sp, a = some ⟨b, o, sp⟩ ∧ b < H.n ∧ cellAt H b (o + k) = some (.int .u32 xs[k]) := by
  obtain ⟨h1, h2, a', c', h3, h0, h4⟩ := h
  cases h3
  obtain ⟨b, o, sp, h5, h6, h7⟩ := h4 (by omega)
  exact ⟨b, o, sp, h5, h6, h7 k _ (by simp [hk])⟩
theorem U32s.slice {H : AHeap} {v : Value} {xs : List Int} (h : U32s H v xs) : xs.length ≤ 9223372036854775807 ∧ ∃ a c, v = .slice a xs.length c := by
  obtain ⟨h1, h2, a', c', h3, h0, h4⟩ := h
  exact ⟨h2, a', c', h3⟩

theorem sum_le {B : Int} : ∀ {l : List Int}, (∀ x ∈ l, x ≤ B) → l.sum ≤ l.length * B
  | [], _ => by simp
  | a :: l, h => by
    have h1 := sum_le (l := l) fun x hx => h x (List.mem_cons_of_mem _ hx)
    have h2 := h a (List.mem_cons_self ..)
    rw [List.sum_cons, List.length_cons, Int.natCast_add, Int.add_mul]; simp; omega
theorem err_even {l : List Int} {N : Nat} {c t : Int} (hl : l.length ≤ 30) (hb : ∀ x ∈ l, 0 ≤ x ∧ x ≤ 4294967295) (hN : 1 ≤ N ∧ N ≤ 10) (hc : 1 ≤ c ∧ c ≤ 1000) (ht : 0 ≤ t ∧ t < N) : errS l (List.replicate N c) t = 0 := by
  have hs := sum_le (l := l) (B := 4294967295) fun x hx => (hb x hx).2
  have hs2 : (l.length : Int) * 4294967295 ≤ 30 * 4294967295 := Int.mul_le_mul_of_nonneg_right (by omega) (by omega)
  unfold errS
  rw [if_neg (by omega), if_neg, if_neg (by omega)]
  have h1 : l.all (win 0 1099511627776) = true := List.all_eq_true.2 fun x hx => win_iff.2 (by have := hb x hx; omega)
  have h3 : 1 * 1 ≤ (N : Int) * c := Int.mul_le_mul (by omega) (by omega) (by omega) (by omega)
  have h2 : partsOk (List.replicate N c) = true := by
    unfold partsOk
    rw [Bool.and_eq_true, Bool.and_eq_true, sum_rep, decide_eq_true_iff]
    refine ⟨win_iff.2 (by simp; omega), List.all_eq_true.2 fun x hx => ?_, by omega⟩
    rw [List.eq_of_mem_replicate hx]; exact win_iff.2 (by omega)
  rw [h1, h2, show win 0 ((List.replicate N c).length - 1) t = true from win_iff.2 (by simp; omega)]
  simp

structure Even (N : Nat) (m : List Int) (tn : Int) : Prop where
  len : m.length = N
  at_ : 0 ≤ tn ∧ tn < N
  two : ∃ q : Int, ∀ x ∈ m, q ≤ x ∧ x ≤ q + 1
theorem even_sh {l : List Int} {N t0 : Nat} {c : Int} (hl : l.length ≤ 30) (hb : ∀ x ∈ l, 0 ≤ x ∧ x ≤ 4294967295) (hN : 1 ≤ N ∧ N ≤ 10) (hc : 1 ≤ c ∧ c ≤ 1000) (ht : t0 < N) : Even N (shL l (List.replicate N c) t0) (shT l (List.replicate N c) t0) := by
  have h0 := err_even (l := l) (N := N) (c := c) (t := t0) hl hb hN hc (by omega)
  unfold shL shT
  rw [if_pos h0, if_pos h0, List.length_replicate]
  have hf := fair_rows (l := l) (c := c) hN.1 hc.1 ht (fun n hn => (hb n hn).1) l.length (Nat.le_refl _)
  refine ⟨hf.len, ?_, fair_two hf⟩
  obtain ⟨q, e, he, htn, -⟩ := hf.ex
  rw [htn]
  have := Nat.mod_lt (t0 + e) (y := N) (by omega)
  omega
end Go.Proofs.Tryz
namespace Go.Proofs.Tryz
open Go Go.Am Go.RowKit
set_option maxRecDepth 100000


set_option maxHeartbeats 8000000 in
theorem law13 {H : AHeap} {v : Value} {l : List Int} {a b t : Int} (hv : U32s H v l) (hb : ∀ x ∈ l, 0 ≤ x ∧ x ≤ 4294967295) (ha8 : 0 ≤ a ∧ a ≤ 255) (hb8 : 0 ≤ b ∧ b ≤ 255) (ht8 : 0 ≤ t ∧ t ≤ 255) :
    CallS Tryz.prog [] 13 [v, .int .u8 a, .int .u8 b, .int .u8 t] H fun r _ => r = .bool true := by
  obtain ⟨hlen, sa, sc, rfl⟩ := hv.slice
  have HV := Lib.hid hv
  have HB := Lib.hid hb
  clear hv hb
  by_cases h30 : 30 < l.length
  · have b1 : (30 : Int) < (l.length : Int) := by omega
    clear h30
    refine CallS.enter' Tryz.func13 rfl Tryz.ntmps13 (by simp) fun f hd hf => ?_
    have f0 := hf 0
    have f1 := hf 1
    have f2 := hf 2
    have f3 := hf 3
    simp at f0 f1 f2 f3
    clear hf
    repeat' (first|(with_reducible first|refine zA ?_|refine zB fun K hK=>?_|refine zC fun K2 hK2=>?_|refine zD ?_|refine zE ?_|refine zF ?_|refine zG ?_|refine zH ?_|refine zI ?_|refine zM ?_|refine zN ?_|refine zO ?_|refine zP ?_|refine zQ ?_|refine zR ?_)|((with_reducible refine zU (hK _ _ ?_));clear hK K)|((with_reducible refine zV ?_ ?_ fun K1 K3 d hdst h1 h3=>?_);rfl;exact yB rfl;cases hdst;go_simp)|((with_reducible refine zW fun K1 K3 h1 h3=>?_);go_simp)|((first|refine h1 ?_|refine h3 ?_);clear h1 h3 K1 K3)|((first|refine zX (fun hb=>h1 ?_) (fun hb=>h3 ?_)|refine zX (fun hb=>h3 ?_) (fun hb=>h1 ?_))<;>(clear h1 h3 K1 K3;(try have hb2:=yC hb);(try have hb2:=yD hb);(try have hb2:=yE hb);(try have hb2:=yF hb);(try have hb2:=yG hb)))|(refine fun (K2:_→AHeap→Prop) hK2=>?_)|((with_reducible refine zY ?_ ?_);decide)|((with_reducible first|refine zZ ?_ (fun K hK=>?_)|refine yA ?_ (fun K hK=>?_));(focus go_simp;done);go_simp;refine hK _ _ ?_;clear hK K)|(go_simp;(try go_bits);(try first | ((with_reducible show CallS _ _ _ _ _ _);refine CallS.mono head_s ?_; rintro _ _ ⟨rfl, h9⟩; rw [h9]; clear h9; go_simp));refine hK2 _ _ ?_;clear hK2 K2))
    all_goals rfl
  have b1 : ¬ (30 : Int) < (l.length : Int) := by omega
  have HL : Hid (l.length ≤ 30) := Lib.hid (by omega)
  clear h30
  obtain ⟨N, hN⟩ : ∃ N : Nat, 1 + a % 10 = (N : Int) := ⟨(1 + a % 10).toNat, by omega⟩
  obtain ⟨c, hc⟩ : ∃ c : Int, 1 + b = c := ⟨_, rfl⟩
  have hN1 : 1 ≤ N ∧ N ≤ 10 := by omega
  have hc1 : 1 ≤ c ∧ c ≤ 1000 := by omega
  obtain ⟨t0, ht0⟩ : ∃ t0 : Nat, t % (N : Int) = (t0 : Int) := ⟨(t % (N : Int)).toNat, by have := Int.emod_nonneg t (b := (N : Int)) (by omega); omega⟩
  have ht1 : t0 < N := by have := Int.emod_lt_of_pos t (b := (N : Int)) (by omega); omega
  have w1 := wrap_id (n := a) (by omega)
  have w2 := wrap_id (n := b) (by omega)
  have w3 := wrap_id (n := t) (by omega)
  have w4 : IntKind.i64.wrap (1 + a % 10) = N := by rw [hN]; exact wrap_id (by omega)
  have w5 : IntKind.i64.wrap (1 + b) = c := by rw [hc]; exact wrap_id (by omega)
  have a1 : 0 ≤ a := ha8.1
  have t1 : 0 ≤ t := ht8.1
  have n1 : (1 : Int) ≤ N := by omega
  have HE0 := Lib.hid (err_even (t := t0) HL.out HB.out hN1 hc1 (by omega))
  have HEV := Lib.hid (even_sh HL.out HB.out hN1 hc1 ht1)
  have HN1 := Lib.hid hN1
  have HT1 := Lib.hid ht1
  clear ha8 hb8 ht8 hN hc hN1 hc1 ht1
  refine CallS.enter' Tryz.func13 rfl Tryz.ntmps13 (by simp) fun f hd hf => ?_
  have f0 := hf 0
  have f1 := hf 1
  have f2 := hf 2
  have f3 := hf 3
  simp at f0 f1 f2 f3
  clear hf
  repeat' (first|(with_reducible first|refine zA ?_|refine zB fun K hK=>?_|refine zC fun K2 hK2=>?_|refine zD ?_|refine zE ?_|refine zF ?_|refine zG ?_|refine zH ?_|refine zI ?_|refine zM ?_|refine zN ?_|refine zO ?_|refine zP ?_|refine zQ ?_|refine zR ?_)|((with_reducible refine zU (hK _ _ ?_));clear hK K)|((with_reducible refine zV ?_ ?_ fun K1 K3 d hdst h1 h3=>?_);rfl;exact yB rfl;cases hdst;go_simp)|((with_reducible refine zW fun K1 K3 h1 h3=>?_);go_simp)|((first|refine h1 ?_|refine h3 ?_);clear h1 h3 K1 K3)|((first|refine zX (fun hb=>h1 ?_) (fun hb=>h3 ?_)|refine zX (fun hb=>h3 ?_) (fun hb=>h1 ?_))<;>(clear h1 h3 K1 K3;(try have hb2:=yC hb);(try have hb2:=yD hb);(try have hb2:=yE hb);(try have hb2:=yF hb);(try have hb2:=yG hb)))|(refine fun (K2:_→AHeap→Prop) hK2=>?_)|((with_reducible refine zY ?_ ?_);decide)|((with_reducible first|refine zZ ?_ (fun K hK=>?_)|refine yA ?_ (fun K hK=>?_));(focus go_simp;done);go_simp;refine hK _ _ ?_;clear hK K)|(go_simp;(try go_bits);refine hK2 _ _ ?_;clear hK2 K2))
  refine CodeS.loop (fun m f H' => ∃ (k : Nat) (u : Value), k ≤ l.length ∧ m = l.length - k ∧ f.tmp 31 = .int .i64 k ∧ f.tmp 30 = .int .i64 l.length ∧ f.tmp 29 = .slice sa l.length sc ∧ f.tmp 2 = .int .u8 b ∧ f.tmp 3 = .int .u8 t ∧ f.tmp 9 = .int .i64 N ∧ f.tmp 10 = u ∧ f.tmp 11 = .slice none 0 0 ∧ f.defers = [] ∧ Hid (Own H' H.n u 3 1 ((l.take k).map (Value.int .i64))) ∧ Hid (Ext H H')) l.length ?_ ?_
  · exact ⟨0, .slice none 0 0, by omega, by omega, (by first|go_simp<;>go_num|assumption), (by first|go_simp<;>go_num|assumption), (by first|go_simp<;>go_num|assumption), (by first|go_simp<;>go_num|assumption), (by first|go_simp<;>go_num|assumption), (by first|go_simp<;>go_num|assumption), (by first|go_simp<;>go_num|assumption), (by first|go_simp<;>go_num|assumption), (by first|go_simp<;>go_num|assumption), Lib.hid Own.nil, Lib.hid (Ext.refl _)⟩
  clear f0 f1 f2 f3 hd f
  rintro m f J ⟨k, u, hk, rfl, f31, f30, f29, f2, f3, f9, f10, f11, hd, HO, HX⟩
  obtain ⟨ua, un, rfl⟩ := own_sliceP HO.out
  by_cases hlt : k < l.length
  · obtain ⟨bb, o, sp, rfl, hbb, hx⟩ := (HV.out.ext HX.out).at_ hlt
    have hlb : (k : Int) < (l.length : Int) := by omega
    have HBIG : Hid ((((l.take k).map (Value.int .i64)).length + 1) * max 8 1 ≤ 1073741824) := Lib.hid (by have := HL.out; rw [List.length_map, List.length_take]; show (min k l.length + 1) * 8 ≤ 1073741824; omega)
    have HNX := Lib.hid HX.out.n
    have HTK := Lib.hid (List.take_succ_eq_append_getElem hlt)
    have hxb := HB.out _ (List.getElem_mem hlt)
    generalize l[k] = x at hx HTK hxb
    have w6 := wrap_id (n := x) (by omega)
    have w7 := wrap_id (n := (k : Int) + 1) (by have := HL.out; omega)
    clear hxb
    repeat' (first|(with_reducible first|refine zA ?_|refine zB fun K hK=>?_|refine zC fun K2 hK2=>?_|refine zD ?_|refine zE ?_|refine zF ?_|refine zG ?_|refine zH ?_|refine zI ?_|refine zM ?_|refine zN ?_|refine zO ?_|refine zP ?_|refine zQ ?_|refine zR ?_)|((with_reducible refine zU (hK _ _ ?_));clear hK K)|((with_reducible refine zV ?_ ?_ fun K1 K3 d hdst h1 h3=>?_);rfl;exact yB rfl;cases hdst;go_simp)|((with_reducible refine zW fun K1 K3 h1 h3=>?_);go_simp)|((first|refine h1 ?_|refine h3 ?_);clear h1 h3 K1 K3)|((first|refine zX (fun hb=>h1 ?_) (fun hb=>h3 ?_)|refine zX (fun hb=>h3 ?_) (fun hb=>h1 ?_))<;>(clear h1 h3 K1 K3;(try have hb2:=yC hb);(try have hb2:=yD hb);(try have hb2:=yE hb);(try have hb2:=yF hb);(try have hb2:=yG hb)))|(refine fun (K2:_→AHeap→Prop) hK2=>?_)|((with_reducible refine zY ?_ ?_);decide)|((with_reducible first|refine zZ ?_ (fun K hK=>?_)|refine yA ?_ (fun K hK=>?_));(focus go_simp;done);go_simp;refine hK _ _ ?_;clear hK K)|(go_simp;(try go_bits);(try first | ((refine one_k el23 sz3 ze3 rfl (by decide) (by decide) rfl rfl ?_); go_simp) | ((refine append_k el23 sz3 by3 ze3 rfl (by decide) (HO.out.ext (Ext.push _)) (srcCells_new rfl) (by decide) rfl (by rw [List.all_append, oneV_ints]; rfl) HBIG.out (by rw [AHeap.n_push]; have := HNX.out; omega) fun v2 H4 ho4 hg4 => ?_); (obtain ⟨a4, n4, rfl⟩ := own_sliceP ho4); (have HO4 := Lib.hid ho4); (have HX4 := Lib.hid (hg4.ext (HO.out.ext (Ext.push _)) (Nat.le_refl _) (HX.out.push' _))); clear ho4 hg4; go_simp));refine hK2 _ _ ?_;clear hK2 K2))
    refine Post.round_normal ⟨l.length - (k + 1), by omega, k + 1, .slice a4 n4 n4, by omega, rfl, (by first|go_simp<;>go_num|assumption), (by first|go_simp<;>go_num|assumption), (by first|go_simp<;>go_num|assumption), (by first|go_simp<;>go_num|assumption), (by first|go_simp<;>go_num|assumption), (by first|go_simp<;>go_num|assumption), (by first|go_simp<;>go_num|assumption), (by first|go_simp<;>go_num|assumption), (by first|go_simp<;>go_num|assumption), Lib.hid ?_, HX4⟩
    rw [HTK.out, List.map_append]; exact HO4.out
  have hlb : ¬ (k : Int) < (l.length : Int) := by omega
  obtain rfl : k = l.length := by omega
  have ho := HO.out
  rw [List.take_length] at ho
  have HLI := Lib.hid (own_ints ho (by have := HL.out; omega))
  clear ho HO hk
  repeat' (first|(with_reducible first|refine zA ?_|refine zB fun K hK=>?_|refine zC fun K2 hK2=>?_|refine zD ?_|refine zE ?_|refine zF ?_|refine zG ?_|refine zH ?_|refine zI ?_|refine zM ?_|refine zN ?_|refine zO ?_|refine zP ?_|refine zQ ?_|refine zR ?_)|((with_reducible refine zU (hK _ _ ?_));clear hK K)|((with_reducible refine zV ?_ ?_ fun K1 K3 d hdst h1 h3=>?_);rfl;exact yB rfl;cases hdst;go_simp)|((with_reducible refine zW fun K1 K3 h1 h3=>?_);go_simp)|((first|refine h1 ?_|refine h3 ?_);clear h1 h3 K1 K3)|((first|refine zX (fun hb=>h1 ?_) (fun hb=>h3 ?_)|refine zX (fun hb=>h3 ?_) (fun hb=>h1 ?_))<;>(clear h1 h3 K1 K3;(try have hb2:=yC hb);(try have hb2:=yD hb);(try have hb2:=yE hb);(try have hb2:=yF hb);(try have hb2:=yG hb)))|(refine fun (K2:_→AHeap→Prop) hK2=>?_)|((with_reducible refine zY ?_ ?_);decide)|((with_reducible first|refine zZ ?_ (fun K hK=>?_)|refine yA ?_ (fun K hK=>?_));(focus go_simp;done);go_simp;refine hK _ _ ?_;clear hK K)|(go_simp;(try go_bits);refine hK2 _ _ ?_;clear hK2 K2))
  clear f31 f30 f29 hlb hlt
  refine CodeS.loop (fun m f K' => ∃ (k : Nat) (u : Value), k ≤ N ∧ m = N - k ∧ f.tmp 42 = .int .i64 k ∧ f.tmp 41 = .int .i64 N ∧ f.tmp 2 = .int .u8 b ∧ f.tmp 3 = .int .u8 t ∧ f.tmp 9 = .int .i64 N ∧ f.tmp 10 = .slice ua un un ∧ f.tmp 11 = u ∧ f.defers = [] ∧ Hid (Own K' J.n u 3 1 ((List.replicate k c).map (Value.int .i64))) ∧ Hid (Ext J K')) N ?_ ?_
  · exact ⟨0, .slice none 0 0, by omega, by omega, (by first|go_simp<;>go_num|assumption), (by first|go_simp<;>go_num|assumption), (by first|go_simp<;>go_num|assumption), (by first|go_simp<;>go_num|assumption), (by first|go_simp<;>go_num|assumption), (by first|go_simp<;>go_num|assumption), (by first|go_simp<;>go_num|assumption), (by first|go_simp<;>go_num|assumption), Lib.hid Own.nil, Lib.hid (Ext.refl _)⟩
  clear f2 f3 f9 f10 f11 hd f
  rintro m f J2 ⟨k, u, hk, rfl, f42, f41, f2, f3, f9, f10, f11, hd, HO, HX2⟩
  obtain ⟨pa, pn, rfl⟩ := own_sliceP HO.out
  by_cases hlt : k < N
  · have hlb : (k : Int) < (N : Int) := by omega
    have HBIG : Hid ((((List.replicate k c).map (Value.int .i64)).length + 1) * max 8 1 ≤ 1073741824) := Lib.hid (by have := HN1.out; rw [List.length_map, List.length_replicate]; show (k + 1) * 8 ≤ 1073741824; omega)
    have HNX := Lib.hid HX2.out.n
    have w7 := wrap_id (n := (k : Int) + 1) (by have := HN1.out; omega)
    repeat' (first|(with_reducible first|refine zA ?_|refine zB fun K hK=>?_|refine zC fun K2 hK2=>?_|refine zD ?_|refine zE ?_|refine zF ?_|refine zG ?_|refine zH ?_|refine zI ?_|refine zM ?_|refine zN ?_|refine zO ?_|refine zP ?_|refine zQ ?_|refine zR ?_)|((with_reducible refine zU (hK _ _ ?_));clear hK K)|((with_reducible refine zV ?_ ?_ fun K1 K3 d hdst h1 h3=>?_);rfl;exact yB rfl;cases hdst;go_simp)|((with_reducible refine zW fun K1 K3 h1 h3=>?_);go_simp)|((first|refine h1 ?_|refine h3 ?_);clear h1 h3 K1 K3)|((first|refine zX (fun hb=>h1 ?_) (fun hb=>h3 ?_)|refine zX (fun hb=>h3 ?_) (fun hb=>h1 ?_))<;>(clear h1 h3 K1 K3;(try have hb2:=yC hb);(try have hb2:=yD hb);(try have hb2:=yE hb);(try have hb2:=yF hb);(try have hb2:=yG hb)))|(refine fun (K2:_→AHeap→Prop) hK2=>?_)|((with_reducible refine zY ?_ ?_);decide)|((with_reducible first|refine zZ ?_ (fun K hK=>?_)|refine yA ?_ (fun K hK=>?_));(focus go_simp;done);go_simp;refine hK _ _ ?_;clear hK K)|(go_simp;(try go_bits);(try first | ((refine one_k el23 sz3 ze3 rfl (by decide) (by decide) rfl rfl ?_); go_simp) | ((refine append_k el23 sz3 by3 ze3 rfl (by decide) (HO.out.ext (Ext.push _)) (srcCells_new rfl) (by decide) rfl (by rw [List.all_append, oneV_ints]; rfl) HBIG.out (by rw [AHeap.n_push]; have := HNX.out; omega) fun v2 H4 ho4 hg4 => ?_); (obtain ⟨a4, n4, rfl⟩ := own_sliceP ho4); (have HO4 := Lib.hid ho4); (have HX4 := Lib.hid (hg4.ext (HO.out.ext (Ext.push _)) (Nat.le_refl _) (HX2.out.push' _))); clear ho4 hg4; go_simp));refine hK2 _ _ ?_;clear hK2 K2))
    refine Post.round_normal ⟨N - (k + 1), by omega, k + 1, .slice a4 n4 n4, by omega, rfl, (by first|go_simp<;>go_num|assumption), (by first|go_simp<;>go_num|assumption), (by first|go_simp<;>go_num|assumption), (by first|go_simp<;>go_num|assumption), (by first|go_simp<;>go_num|assumption), (by first|go_simp<;>go_num|assumption), (by first|go_simp<;>go_num|assumption), (by first|go_simp<;>go_num|assumption), Lib.hid ?_, HX4⟩
    rw [List.replicate_succ', List.map_append]; exact HO4.out
  have hlb : ¬ (k : Int) < (N : Int) := by omega
  obtain rfl : k = N := by omega
  have HPI := Lib.hid (own_ints HO.out (by rw [List.length_replicate]; have := HN1.out; omega))
  have HSH := Lib.hid (fun (loops : List (Nat × LInfo)) => shares_e (loops := loops) (turn := t0) (HLI.out.ext HX2.out) HPI.out)
  rw [HE0.out] at HSH
  generalize shL l (List.replicate k c) t0 = m at HSH HEV
  generalize shT l (List.replicate k c) t0 = tn at HSH HEV
  have hml := HEV.out.len
  have t2 : ¬ tn < 0 := by have := HEV.out.at_; omega
  have t3 : ¬ (k : Int) ≤ tn := by have := HEV.out.at_; omega
  obtain ⟨q, hq⟩ := HEV.out.two
  have HQ := Lib.hid hq
  have hm0 : 0 < m.length := by have := HN1.out; omega
  have l1 : ((m.length : Int) != (k : Int)) = false := by simp; omega
  have HML := Lib.hid hml
  clear hq hlt HO HPI hml
  repeat' (first|((with_reducible refine stop_region (n := 17) ?_))|(with_reducible first|refine zA ?_|refine zB fun K hK=>?_|refine zC fun K2 hK2=>?_|refine zD ?_|refine zE ?_|refine zF ?_|refine zG ?_|refine zH ?_|refine zI ?_|refine zM ?_|refine zN ?_|refine zO ?_|refine zP ?_|refine zQ ?_|refine zR ?_)|((with_reducible refine zU (hK _ _ ?_));clear hK K)|((with_reducible refine zV ?_ ?_ fun K1 K3 d hdst h1 h3=>?_);rfl;exact yB rfl;cases hdst;go_simp)|((with_reducible refine zW fun K1 K3 h1 h3=>?_);go_simp)|((first|refine h1 ?_|refine h3 ?_);clear h1 h3 K1 K3)|((first|refine zX (fun hb=>h1 ?_) (fun hb=>h3 ?_)|refine zX (fun hb=>h3 ?_) (fun hb=>h1 ?_))<;>(clear h1 h3 K1 K3;(try have hb2:=yC hb);(try have hb2:=yD hb);(try have hb2:=yE hb);(try have hb2:=yF hb);(try have hb2:=yG hb)))|(refine fun (K2:_→AHeap→Prop) hK2=>?_)|((with_reducible refine zY ?_ ?_);decide)|((with_reducible first|refine zZ ?_ (fun K hK=>?_)|refine yA ?_ (fun K hK=>?_));(focus go_simp;done);go_simp;refine hK _ _ ?_;clear hK K)|(go_simp;(try go_bits);(try first | ((with_reducible show CallS _ _ _ _ _ _);refine CallS.mono (HSH.out _) ?_; rintro _ J3 ⟨⟨ra, rn, rc, rfl, hi3⟩, hx3⟩; (obtain rfl := ints_len hi3); (have HI3 := Lib.hid hi3); clear hi3 hx3));refine hK2 _ _ ?_;clear hK2 K2))
  obtain ⟨b3, o3, sp3, rfl, hb3, hx0⟩ := HI3.out.at_ hm0
  simp only [Nat.add_zero] at hx0
  have hq0 := HQ.out _ (List.getElem_mem hm0)
  generalize m[0] = x0 at hx0 hq0
  have hm1 : (0 : Int) < (m.length : Int) := by omega
  have HQ0 := Lib.hid hq0
  clear hq0
  refine ⟨?_⟩
  repeat' (first|(with_reducible first|refine zA ?_|refine zB fun K hK=>?_|refine zC fun K2 hK2=>?_|refine zD ?_|refine zE ?_|refine zF ?_|refine zG ?_|refine zH ?_|refine zI ?_|refine zM ?_|refine zN ?_|refine zO ?_|refine zP ?_|refine zQ ?_|refine zR ?_)|((with_reducible refine zU (hK _ _ ?_));clear hK K)|((with_reducible refine zV ?_ ?_ fun K1 K3 d hdst h1 h3=>?_);rfl;exact yB rfl;cases hdst;go_simp)|((with_reducible refine zW fun K1 K3 h1 h3=>?_);go_simp)|((first|refine h1 ?_|refine h3 ?_);clear h1 h3 K1 K3)|((first|refine zX (fun hb=>h1 ?_) (fun hb=>h3 ?_)|refine zX (fun hb=>h3 ?_) (fun hb=>h1 ?_))<;>(clear h1 h3 K1 K3;(try have hb2:=yC hb);(try have hb2:=yD hb);(try have hb2:=yE hb);(try have hb2:=yF hb);(try have hb2:=yG hb)))|(refine fun (K2:_→AHeap→Prop) hK2=>?_)|((with_reducible refine zY ?_ ?_);decide)|((with_reducible first|refine zZ ?_ (fun K hK=>?_)|refine yA ?_ (fun K hK=>?_));(focus go_simp;done);go_simp;refine hK _ _ ?_;clear hK K)|((with_reducible refine yH mixed rfl ?_ 20 fun K0 hK0=>?_);kernel_rfl)|(with_reducible first|exact yI|exact yJ|refine yK ?_|refine yL ?_|refine yM ?_)|((with_reducible first|refine yN ?_ ?_|refine yO ?_ ?_|refine yP ?_ ?_);rfl)|((with_reducible refine yQ ?_ ?_);rfl;refine hK0 _ _ ?_;clear hK0 K0)|((with_reducible refine yR ?_ ?_ ?_ ?_);rfl;rfl;rfl)|((with_reducible refine yS ?_ ?_ ?_ fun K2 hK2=>?_);rfl;rfl;exact yB rfl)|((with_reducible refine yT ?_ ?_ ?_ ?_ fun K1 K3 d hdst h1 h3=>?_);rfl;rfl;rfl;exact yB rfl;cases hdst;go_simp)|((with_reducible refine yU ?_ ?_ ?_ ?_ fun K1 K3 d hdst h1 h3=>?_);rfl;rfl;rfl;exact yB rfl;cases hdst;go_simp)|((with_reducible refine yV ?_ ?_ (fun K2 hK2=>?_) ?_);rfl;exact yB rfl)|((with_reducible refine yW ?_ ?_ ?_ ?_ (fun K2 hK2=>?_) ?_);rfl;exact yB rfl;rfl;(focus go_simp;done))|((with_reducible refine yX ?_ ?_ ?_ (fun K2 hK2=>?_) ?_);rfl;rfl;exact yB rfl)|((with_reducible refine yY ?_ ?_ (fun K2 hK2=>?_) ?_);rfl;rfl)|((with_reducible refine yZ ?_ ?_);(first|rfl|(dsimp only;decide +kernel)))|((with_reducible refine xA ?_ ?_);(focus go_simp;done))|(go_simp;(try go_bits);(first|(refine hK2 _ _ ?_ ?_<;>clear hK2 K2)|(refine hK2 _ _ ?_;clear hK2 K2))))
  clear t2 t3
  refine CodeS.loop (fun j f K' => ∃ (i : Nat) (lo hi : Int), i ≤ m.length ∧ j = m.length - i ∧ f.tmp 87 = .int .i64 i ∧ f.tmp 86 = .int .i64 m.length ∧ f.tmp 85 = .slice (some ⟨b3, o3, sp3⟩) m.length rc ∧ f.tmp 17 = .int .i64 lo ∧ f.tmp 18 = .int .i64 hi ∧ f.defers = [] ∧ Hid (q ≤ lo ∧ lo ≤ hi ∧ hi ≤ q + 1) ∧ K' = J3) m.length ?_ ?_
  · exact ⟨0, x0, x0, by omega, by omega, (by first|go_simp<;>go_num|assumption), (by first|go_simp<;>go_num|assumption), (by first|go_simp<;>go_num|assumption), (by first|go_simp<;>go_num|assumption), (by first|go_simp<;>go_num|assumption), (by first|go_simp<;>go_num|assumption), Lib.hid (by have := HQ0.out; omega), rfl⟩
  clear f42 f41 f2 f3 f9 f10 f11 hd f
  rintro j f _ ⟨i, lo, hi, hi0, rfl, f87, f86, f85, f17, f18, hd, HLH, rfl⟩
  by_cases hlt : i < m.length
  · obtain ⟨b4, o4, sp4, he, hb4, hx⟩ := HI3.out.at_ hlt
    cases he
    have hlb : (i : Int) < (m.length : Int) := by omega
    have HX := Lib.hid (HQ.out _ (List.getElem_mem hlt))
    generalize m[i] = x at hx HX
    have w7 := wrap_id (n := (i : Int) + 1) (by have := HN1.out; have := HML.out; omega)
    repeat' (first|(with_reducible first|refine zA ?_|refine zB fun K hK=>?_|refine zC fun K2 hK2=>?_|refine zD ?_|refine zE ?_|refine zF ?_|refine zG ?_|refine zH ?_|refine zI ?_|refine zM ?_|refine zN ?_|refine zO ?_|refine zP ?_|refine zQ ?_|refine zR ?_)|((with_reducible refine zU (hK _ _ ?_));clear hK K)|((with_reducible refine zV ?_ ?_ fun K1 K3 d hdst h1 h3=>?_);rfl;exact yB rfl;cases hdst;go_simp)|((with_reducible refine zW fun K1 K3 h1 h3=>?_);go_simp)|((first|refine h1 ?_|refine h3 ?_);clear h1 h3 K1 K3)|((first|refine zX (fun hb=>h1 ?_) (fun hb=>h3 ?_)|refine zX (fun hb=>h3 ?_) (fun hb=>h1 ?_))<;>(clear h1 h3 K1 K3;(try have hb2:=yC hb);(try have hb2:=yD hb);(try have hb2:=yE hb);(try have hb2:=yF hb);(try have hb2:=yG hb)))|(refine fun (K2:_→AHeap→Prop) hK2=>?_)|((with_reducible refine zY ?_ ?_);decide)|((with_reducible first|refine zZ ?_ (fun K hK=>?_)|refine yA ?_ (fun K hK=>?_));(focus go_simp;done);go_simp;refine hK _ _ ?_;clear hK K)|(go_simp;(try go_bits);refine hK2 _ _ ?_;clear hK2 K2))
    refine Post.round_normal ⟨m.length - (i + 1), by omega, i + 1, _, _, by omega, rfl, (by first|go_simp<;>go_num|assumption), (by first|go_simp<;>go_num|assumption), (by first|go_simp<;>go_num|assumption), (by first|go_simp<;>go_num|assumption), (by first|go_simp<;>go_num|assumption), (by first|go_simp<;>go_num|assumption), Lib.hid ?_, rfl⟩
    have := HX.out
    have := HLH.out
    omega
  have hlb : ¬ (i : Int) < (m.length : Int) := by omega
  have hh := HLH.out
  have w8 := wrap_id (n := hi - lo) (by omega)
  have w9 : hi - lo ≤ 1 := by omega
  clear hh
  repeat' (first|(with_reducible first|refine zA ?_|refine zB fun K hK=>?_|refine zC fun K2 hK2=>?_|refine zD ?_|refine zE ?_|refine zF ?_|refine zG ?_|refine zH ?_|refine zI ?_|refine zM ?_|refine zN ?_|refine zO ?_|refine zP ?_|refine zQ ?_|refine zR ?_)|((with_reducible refine zU (hK _ _ ?_));clear hK K)|((with_reducible refine zV ?_ ?_ fun K1 K3 d hdst h1 h3=>?_);rfl;exact yB rfl;cases hdst;go_simp)|((with_reducible refine zW fun K1 K3 h1 h3=>?_);go_simp)|((first|refine h1 ?_|refine h3 ?_);clear h1 h3 K1 K3)|((first|refine zX (fun hb=>h1 ?_) (fun hb=>h3 ?_)|refine zX (fun hb=>h3 ?_) (fun hb=>h1 ?_))<;>(clear h1 h3 K1 K3;(try have hb2:=yC hb);(try have hb2:=yD hb);(try have hb2:=yE hb);(try have hb2:=yF hb);(try have hb2:=yG hb)))|(refine fun (K2:_→AHeap→Prop) hK2=>?_)|((with_reducible refine zY ?_ ?_);decide)|((with_reducible first|refine zZ ?_ (fun K hK=>?_)|refine yA ?_ (fun K hK=>?_));(focus go_simp;done);go_simp;refine hK _ _ ?_;clear hK K)|(go_simp;(try go_bits);(try first | ((with_reducible show CallS _ _ _ _ _ _);refine CallS.mono head_s ?_; rintro _ _ ⟨rfl, h9⟩; rw [h9]; clear h9; go_simp));refine hK2 _ _ ?_;clear hK2 K2))
  all_goals rfl
end Go.Proofs.Tryz
namespace Go.Proofs.Tryz
open Go.ChangeShapes Go.WideShapes Go.ChangeAt Go.RowKit Go.Joins Go.Deep Go.Am
open Go.Proofs.YtokhhoihalpaoaaGreatDoor
set_option maxRecDepth 100000


theorem ownOne : ownKnob Tryz.prog.godebug = none := by kernel_rfl
theorem laidOut : laidOutB Tryz.prog = true := by kernel_rfl

def tabCells (d : DataW Unit) : Array Value := match d with
  | .agg l => (l.filterMap fun x => match x with | .lit (.int k n) => some (Value.int k n) | _ => none).toArray
  | _ => #[]
def layTab (cs : Array Value) : Obj → Obj
  | .cells _ t f => .cells cs t f
  | o => o
noncomputable def laidWorld (os : Os) : World :=
  let w0 := World.holding Tryz.prog os ⟨#[], #[], []⟩
  { w0 with heap := ((w0.heap.modify 0 (layTab (tabCells Rows.laid_math_bits_deBruijn32tab))).modify 1 (layTab (tabCells Rows.laid_math_bits_deBruijn64tab))).modify 2 (layTab (tabCells Rows.laid_internal_strconv_uint64pow10)) }
theorem laid_met (os : Os) (args : Array Value) : laidMet Tryz.prog Rows.taxBillsRow.laid ((laidWorld os).forCall (fun _ _ => 0) ⟨#[], args, []⟩).memory :=
  laidMet_of_run3 8 (by kernel_rfl) (by kernel_rfl) (by kernel_rfl)
theorem laid_metH (os : Os) (args : Array Value) : laidMetH Tryz.prog Rows.taxBillsRow.laid ((laidWorld os).forCall (fun _ _ => 0) ⟨#[], args, []⟩).memory :=
  laidMetH_of_parts (laid_met os args) (by kernel_rfl)

theorem tab_cell {W : World} (h : laidMetH Tryz.prog Rows.taxBillsRow.laid W) (r : Nat) (hr : r < 64) : W.cell? ⟨1, r, none⟩ = some (.int .u8 (Lib.deBruijn64tab.getD r 0)) := by
  rw [MakeChecks.laidMetH_plain _ _ _ (by kernel_rfl)] at h
  obtain ⟨ps, ⟨_, _, _, _, _, _, _, _, _, _, ⟨g, t, cs, fuel, p, q, hg, ht, hv, hd, _, _⟩, _⟩, _, _⟩ := h
  obtain rfl := Option.some.inj ((show Tryz.prog.globalNamed "math/bits.deBruijn64tab" = some 1 by kernel_rfl).symm.trans hg)
  obtain rfl := Option.some.inj ((show (Tryz.prog.globals[1]?).map (·.type) = some 286 by kernel_rfl).symm.trans ht)
  obtain ⟨xs, m, _, ex, _, hl, hel⟩ := DataW.trod_array Tryz.underlying286 hd
  have c5 : Tryz.prog.cellsOf 5 = 1 := by kernel_rfl
  have hE := hel r hr
  rw [c5, Nat.mul_one, List.getElem?_eq_getElem (by omega)] at hE
  obtain ⟨z, e1, e2, _⟩ := DataW.trod_int Tryz.underlying5 hE
  have hlen : Lib.deBruijn64tab.length = 64 := by kernel_rfl
  have hrow : (Rows.laid_math_bits_deBruijn64tab : DataW Unit) = .agg (Lib.deBruijn64tab.map fun (n : Nat) => .lit (.int .u8 n)) := by kernel_rfl
  have e3 : (xs.map (·.1)) = Lib.deBruijn64tab.map fun (n : Nat) => (DataW.lit (.int .u8 n) : DataW Unit) := (DataW.agg.inj (hrow.symm.trans (Prod.mk.inj ex).1)).symm
  have e4 : (xs.map (·.1))[r]? = (Lib.deBruijn64tab.map fun (n : Nat) => (DataW.lit (.int .u8 n) : DataW Unit))[r]? := by rw [e3]
  rw [List.getElem?_map, List.getElem?_map, List.getElem?_eq_getElem (by omega : r < xs.length), List.getElem?_eq_getElem (by omega : r < Lib.deBruijn64tab.length), e2] at e4
  have hz : z = Lib.deBruijn64tab.getD r 0 := by
    simp only [Option.map_some, Option.some.injEq, DataW.lit.injEq, Lit.int.injEq, true_and] at e4
    rw [e4, List.getD, List.getElem?_eq_getElem (by omega : r < Lib.deBruijn64tab.length)]; rfl
  rw [World.var?_cell hg hv r, ← hz]
  have : cs.toList[r]? = some (.int .u8 z) := by
    have h0 : ((cs.toList.drop r).take 1)[0]? = some (.int .u8 z) := by rw [e1]; rfl
    simpa using h0
  simpa using this

theorem laid_of {W : World} (h : laidMetH Tryz.prog Rows.taxBillsRow.laid W) : Laid W.heap.size W := by
  intro t ht
  rw [laidTabs, List.mem_singleton] at ht
  subst ht
  refine ⟨cell_lt (a := ⟨1, 0, none⟩) (tab_cell h 0 (by decide)), fun i v hv => ?_⟩
  simp only [List.getElem?_map] at hv
  have hlen : Lib.deBruijn64tab.length = 64 := by kernel_rfl
  by_cases hi : i < 64
  · rw [tab_cell h i hi, List.getD, ← hv]
    rw [List.getElem?_eq_getElem (by omega)]; rfl
  · rw [List.getElem?_eq_none (by omega)] at hv; cases hv

section
variable {H : Type} {enc : TypeId × Value → H} {w : World}
theorem u8_in {l : Int} (h : (Lit.int .u8 l).wf = true) : 0 ≤ l ∧ l ≤ 255 := by
  have h2 : IntKind.u8.min ≤ l ∧ l ≤ IntKind.u8.max := by simpa [Lit.wf] using h
  exact h2
end
end Go.Proofs.Tryz
namespace Go.Proofs.Tryz
open Go.ChangeShapes Go.WideShapes Go.ChangeAt Go.RowKit Go.Joins Go.Deep Go.Am
set_option maxRecDepth 100000


section
variable {H : Type} {enc : TypeId × Value → H} {w : World}
end
theorem add_at (b o j : Nat) : (⟨b, o, none⟩ : Addr).add j = ⟨b, o + j, none⟩ := by
  unfold Addr.add
  split
  · rename_i h; subst h; rfl
  · rfl
theorem cell_spot {w : World} {p : Addr} {v : Value} (h : w.cell? p = some v) : p.spot = none := by
  unfold World.cell? at h
  split at h
  · split at h
    · cases h
    · rename_i h0; simpa using h0
  · cases h
theorem slice_abs {w : World} {a : Addr} {len cap size d : Nat} {us : List Value} (hl : len ≤ cap) (hc : len ≤ 9223372036854775807) (hus : us.length = len * size) (hsz : 0 < size) (hplain : ∀ (j : Nat) (u : Value), us[j]? = some u → absV w.heap.size 8 u = u) (hcell : ∀ (j : Nat) (u : Value), us[j]? = some u → w.cell? (a.add j) = some u) : Cells (absH w) (absV w.heap.size (d + 1) (.slice (some a) len cap)) size len us := by
  by_cases h0 : len = 0
  · subst h0
    simp only [absV]
    split
    · exact ⟨hus, hc, _, _, rfl, by simp, by omega⟩
    · rw [if_pos trivial]; exact ⟨hus, hc, _, _, rfl, by simp, by omega⟩
  · have hpos : 0 < us.length := by rw [hus]; exact Nat.mul_pos (by omega) hsz
    have h1 := hcell 0 _ (List.getElem?_eq_getElem hpos)
    have e0 : a.add 0 = a := by unfold Addr.add; rw [if_pos rfl]
    rw [e0] at h1
    have hsp := cell_spot h1
    have hlt := cell_lt h1
    obtain ⟨b, o, sp⟩ := a
    simp only at hsp hlt
    subst hsp
    simp only [absV]
    rw [if_pos ⟨trivial, hlt, hl⟩]
    refine ⟨hus, hc, _, _, rfl, by simp, fun _ => ⟨b, o, none, rfl, by rw [absH_n]; exact hlt, fun j u hu => ?_⟩⟩
    have h2 := hcell j u hu
    rw [add_at] at h2
    rw [abs_cell h2, hplain j u hu]
theorem none_abs {w : World} {d size : Nat} : Cells (absH w) (absV w.heap.size (d + 1) (.slice none 0 0)) size 0 [] :=
  ⟨by simp, by omega, none, 0, rfl, fun _ => rfl, by simp⟩
section
variable {H : Type} {enc : TypeId × Value → H} {w : World}
end
end Go.Proofs.Tryz
namespace Go.Proofs.Tryz
open Go.ChangeShapes Go.WideShapes Go.ChangeAt Go.RowKit Go.Joins Go.Deep Go.Am
set_option maxRecDepth 100000


section
variable {H : Type} {enc : TypeId × Value → H} {w : World}
end
end Go.Proofs.Tryz
namespace Go.Proofs.Tryz
open Go.ChangeShapes Go.WideShapes Go.ChangeAt Go.RowKit Go.Joins Go.Deep Go.Am
set_option maxRecDepth 100000


section
variable {H : Type} {enc : TypeId × Value → H} {w : World}
theorem u32s_abs0 {fuel d : Nat} {v : Value} {x : DataW H × List MemPlace} (h : DataW.trod enc Tryz.prog w 0 (fun _ => true) true fuel 111 [v] = some x) : ∃ xs, U32s (absH w) (absV w.heap.size (d + 1) v) xs ∧ ∀ x ∈ xs, 0 ≤ x ∧ x ≤ 4294967295 := by
  rcases open_ints Tryz.underlying111 Tryz.underlying113 (by kernel_rfl) h with ⟨hcs, _⟩ | ⟨a, l, c, zs, hcs, _, hl, hm, hz, _, hcell, hwf⟩
  · injection hcs with hcs _
    subst hcs
    exact ⟨[], none_abs, fun x hx => by cases hx⟩
  · injection hcs with hcs _
    subst hcs
    simp only [if_true] at hz
    have hlen : (zs.take l).length = l := by rw [List.length_take]; omega
    refine ⟨zs.take l, ?_, fun x hx => ?_⟩
    · unfold U32s
      rw [hlen]
      refine slice_abs hl (by unfold maxLen at hm; omega) (by rw [List.length_map, hlen]; omega) (by decide) (fun j u hu => ?_) (fun j u hu => ?_)
      · rw [List.getElem?_map] at hu
        obtain ⟨z, _, rfl⟩ := Option.map_eq_some_iff.1 hu
        rfl
      · rw [List.getElem?_map] at hu
        obtain ⟨z, hz1, rfl⟩ := Option.map_eq_some_iff.1 hu
        rw [List.getElem?_take] at hz1
        split at hz1
        · have hj : j < zs.length := (List.getElem?_eq_some_iff.1 hz1).1
          rw [hcell j hj, List.getD_eq_getElem?_getD, hz1]
          rfl
        · cases hz1
    · have h1 := hwf x (List.mem_of_mem_take hx)
      have h2 : IntKind.u32.min ≤ x ∧ x ≤ IntKind.u32.max := by simpa [Lit.wf] using h1
      exact h2
theorem u32s_abs {r : Reach} {b0 : Nat} {v : Value} {d : DataW H} {p : List MemPlace} (hval : Value.okWide Tryz.prog w r b0 111 v) (h : DataW.Trod enc Tryz.prog w 0 (fun _ => true) true 111 v d p) : ∃ xs, U32s (absH w) (absV w.heap.size 8 v) xs ∧ ∀ x ∈ xs, 0 ≤ x ∧ x ≤ 4294967295 := by
  obtain ⟨a, len, cap, rfl⟩ := okWide_slice Tryz.underlying111 hval
  obtain ⟨fuel, hf⟩ := h
  exact u32s_abs0 (d := 7) (show DataW.trod enc Tryz.prog w 0 (fun _ => true) true fuel 111 [.slice a len cap] = _ by simpa [Value.cells] using hf)
end
end Go.Proofs.Tryz
namespace Go.Proofs.YtokhhoihalpaoaaGreatDoor
open Go.ChangeShapes Go.WideShapes Go.ChangeAt Go.RowKit Go.Joins Go.Deep Go.Am Go.Proofs.Tryz
set_option maxRecDepth 100000 in
theorem lifted (os : Os) (started : os.Started) (H : Type) (enc : TypeId × Value → H) :
    ReturnsInHanded {} Tryz.checked os 13 .any (fun w args => (Rows.taxTurnsSpec.pre enc Tryz.prog Tryz.f13 [] false w args ∧ laidMetH Tryz.prog Rows.taxTurnsRow.laid w) ∧ sizedMet enc Tryz.prog Tryz.f13 (OpenSpec.ofChange Rows.taxTurnsSpec) false w args)
      (Rows.taxTurnsSpec.post enc Tryz.prog Tryz.f13 false true false false) := by
  refine returnsInHanded_of_change_and (C := Tryz.checked) (X := fun w _ => laidMetH Tryz.prog Rows.taxTurnsRow.laid w) (fun _ _ _ hh h => h.of_heap hh) ownOne started (by kernel_rfl) Tryz.func13
    (ChangeSpec.witness_at (enc := enc) (C := Tryz.checked) (os := os) (X := fun w _ => laidMetH Tryz.prog Rows.taxTurnsRow.laid w) false (laidWorld os) #[.slice none 0 0, .int .u8 0, .int .u8 0, .int .u8 0] 8 rfl (by kernel_rfl) (by kernel_rfl) (by kernel_rfl) (by kernel_rfl) (by kernel_rfl) (laid_metH os _)) ?_
  intro W base args ds gs before hval0 hW _ _ hL _
  have HL := laid_of hL
  have hval : ∀ (j : Nat) t v, Tryz.f13.params[j]? = some t → args[j]? = some v → Value.okWide Tryz.prog W .any base t v := hval0
  have hW' := hW
  obtain ⟨p, q, hA0, hV, rfl, hfz, hnd⟩ := hW
  have hA : DataW.TrodAll enc Tryz.prog W 0 (fun _ => true) true Tryz.f13.params.toList args.toList ds p := hA0
  rw [Tryz.params13] at hA hval
  obtain ⟨v0, vs0, d0, ds0, p0, q0, hargs, rfl, rfl, h0, r0⟩ := trodAll_cons hA
  obtain ⟨v1, vs1, d1, ds1, p1, q1, rfl, rfl, rfl, h1, r1⟩ := trodAll_cons r0
  obtain ⟨v2, vs2, d2, ds2, p2, q2, rfl, rfl, rfl, h2, r2⟩ := trodAll_cons r1
  obtain ⟨v3, vs3, d3, ds3, p3, q3, rfl, rfl, rfl, h3, r3⟩ := trodAll_cons r2
  obtain ⟨rfl, rfl, rfl⟩ := trodAll_nil r3
  obtain rfl : args = #[v0, v1, v2, v3] := by cases args; simp_all
  obtain ⟨rfl, rfl⟩ := trodVars_none hV
  have k0 := h0
  have lt0 : ∀ x ∈ p0, x.block < W.heap.size := by obtain ⟨m, hm⟩ := k0; exact DataW.trod_lt m _ _ _ hm
  have k1 := h1
  have lt1 : ∀ x ∈ p1, x.block < W.heap.size := by obtain ⟨m, hm⟩ := k1; exact DataW.trod_lt m _ _ _ hm
  have k2 := h2
  have lt2 : ∀ x ∈ p2, x.block < W.heap.size := by obtain ⟨m, hm⟩ := k2; exact DataW.trod_lt m _ _ _ hm
  have k3 := h3
  have lt3 : ∀ x ∈ p3, x.block < W.heap.size := by obtain ⟨m, hm⟩ := k3; exact DataW.trod_lt m _ _ _ hm
  obtain ⟨s0, hs0⟩ := u32s_abs (hval 0 111 v0 rfl rfl) h0
  obtain ⟨n1, rfl, hd1, hp1, w1⟩ := open_int Tryz.underlying5 (hval 1 5 v1 rfl rfl) h1
  obtain ⟨n2, rfl, hd2, hp2, w2⟩ := open_int Tryz.underlying5 (hval 2 5 v2 rfl rfl) h2
  obtain ⟨n3, rfl, hd3, hp3, w3⟩ := open_int Tryz.underlying5 (hval 3 5 v3 rfl rfl) h3
  clear hA0 hval0
  have hlaw := calls_of_callS (w := W) (args := [v0, .int .u8 n1, .int .u8 n2, .int .u8 n3]) (b := true) (law13 hs0.1 hs0.2 (u8_in w1) (u8_in w2) (u8_in w3)) HL
  refine hlaw.mono fun e W' ⟨he, bel⟩ => ?_
  subst he
  exact ⟨_, rfl, _, _, _, [], _, [], hW', trodAll_mk1 (shut_bool Tryz.underlying4 _), (trodAll_cons_mk (Below.trod laidOut (by kernel_rfl) (of_decide_eq_true (by kernel_rfl)) k0 bel lt0) (trodAll_cons_mk (Below.trod laidOut (by kernel_rfl) (of_decide_eq_true (by kernel_rfl)) k1 bel lt1) (trodAll_cons_mk (Below.trod laidOut (by kernel_rfl) (of_decide_eq_true (by kernel_rfl)) k2 bel lt2) (trodAll_cons_mk (Below.trod laidOut (by kernel_rfl) (of_decide_eq_true (by kernel_rfl)) k3 bel lt3) trodAll_mk0)))), rfl, bel.frame _, fun h => by cases h⟩
end Go.Proofs.YtokhhoihalpaoaaGreatDoor
