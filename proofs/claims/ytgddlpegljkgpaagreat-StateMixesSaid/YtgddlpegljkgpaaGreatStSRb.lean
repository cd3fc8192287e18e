/- Contracts of functions, walked. -/
import Derived.Test.YtgddlpegljkgpaaGreatChecked
import Derived.Test.YtgddlpegljkgpaaGreatRows
import Derived.Below
import Derived.Carry
import Derived.Deep.Slices
import Derived.Deep.Fields
import Derived.ChangeSame
import Derived.ProofKit
import Derived.OpenShut
import Derived.ShutString
import Derived.ChangeOld
import Derived.Lib.SmallJoins
import Derived.Test.YtgddlpegljkgpaaGreatStTQ
import Derived.Test.YtgddlpegljkgpaaGreatStSN
import Derived.Test.YtgddlpegljkgpaaGreatStTA
import Derived.Test.YtgddlpegljkgpaaGreatAwB
import Derived.Test.YtgddlpegljkgpaaGreatStSZ
import Derived.Test.YtgddlpegljkgpaaGreatStZR
set_option linter.all false
namespace Go.Proofs.Tryz
open Go Go.Am Go.RowKit Go.Co
set_option maxRecDepth 100000

theorem conv5 {dst : Option Tmp} {x : Operand} {ty : TypeId} {src : String} {af : Array Edge} {g : Option (Nat × Bool)} {a : Int} (ev : Operand → Value) (hx : ev x = .int .u8 a) : pureOf Tryz.prog (execOp ev ⟨dst, .convert 5 3 x, ty, src, af, g⟩) = some (.value (.int .i64 (IntKind.i64.wrap a))) := by
  simp only [execOp, hx]
  kernel_rfl
def convV {β : Type} (v : Value) (H : AHeap) (kk : K β) (other : Unit → Option β) : Option β := match v with
  | .int .u8 a => kk (.int .i64 (IntKind.i64.wrap a)) H
  | _ => other ()
@[go_sem] theorem convV_u8 {β : Type} {a : Int} {H : AHeap} {kk : K β} {other : Unit → Option β} : convV (.int .u8 a) H kk other = kk (.int .i64 (IntKind.i64.wrap a)) H := rfl
theorem aPlain_conv5 {β : Type} {dst : Option Tmp} {x : Operand} {ty : TypeId} {src : String} {af : Array Edge} {g : Option (Nat × Bool)} {ev : Operand → Value} {H : AHeap} {kk : K β} : aPlain Tryz.prog ⟨dst, .convert 5 3 x, ty, src, af, g⟩ ev H kk = convV (ev x) H kk fun _ => aPlain Tryz.prog ⟨dst, .convert 5 3 x, ty, src, af, g⟩ ev H kk := by
  unfold convV
  split
  · rename_i a hx
    rw [plain_of rfl]
    have e1 : ((Op.convert 5 3 x).operands.toList.all fun x => plainV 6 (ev x)) = true := by
      show ([x].all fun x => plainV 6 (ev x)) = true
      simp [hx]
      rfl
    rw [if_pos e1, conv5 ev hx]
    rfl
  · rfl
@[go_sem] theorem opP_conv5 {cx : Cx} {H : AHeap} {f : AF} {k : AF → AHeap → Prop} {dst : Option Tmp} {x : Operand} {ty : TypeId} {src : String} {af : Array Edge} {g : Option (Nat × Bool)} : opP Tryz.prog cx ⟨dst, .convert 5 3 x, ty, src, af, g⟩ f H k = Holds (convV (f.eval x) H (fun v H' => some (putP cx.sz f dst v fun f' => k f' H')) fun _ => aPlain Tryz.prog ⟨dst, .convert 5 3 x, ty, src, af, g⟩ f.eval H fun v H' => some (putP cx.sz f dst v fun f' => k f' H')) :=
  opP_convert.trans (congrArg Holds aPlain_conv5)
set_option maxHeartbeats 4000000 in
theorem bent_e {loops : List (Nat × LInfo)} {H : AHeap} {v : Value} {xs : List Int} {at_ n : Int} (hv : Ints H v xs) (h8 : 0 ≤ at_ ∧ at_ ≤ 255) (hl : xs.length ≤ 1000) : CallS Tryz.prog loops 22 [v, .int .u8 at_, .int .i64 n] H fun r H' => (∃ a c ys, r = .slice a ys.length c ∧ Ints H' (.slice a ys.length c) ys) ∧ Ext H H' := by
  have HXI := Lib.hid hv
  obtain ⟨-, a, c, rfl⟩ := hv.slice
  obtain ⟨h80, h81⟩ := h8
  refine CallS.enter' Tryz.func22 rfl Tryz.ntmps22 (by simp) fun f hd hf => ?_
  have f0 := hf 0
  have f1 := hf 1
  have f2 := hf 2
  simp at f0 f1 f2
  clear hf
  by_cases h0 : xs.length = 0
  · have HK0 := Lib.hid h0
    have h0i : ¬ (0 : Int) < (xs.length : Int) := by omega
    rw [h0] at f0
    clear h0 hv
    repeat' (first|(with_reducible first|refine zA ?_|refine zB fun K hK=>?_|refine zC fun K2 hK2=>?_|refine zD ?_|refine zE ?_|refine zF ?_|refine zG ?_|refine zH ?_|refine zI ?_|refine zM ?_|refine zN ?_|refine zO ?_|refine zP ?_|refine zQ ?_|refine zR ?_)|((with_reducible refine zU (hK _ _ ?_));clear hK K)|((with_reducible refine zV ?_ ?_ fun K1 K3 d hdst h1 h3=>?_);rfl;exact yB rfl;cases hdst;go_simp)|((with_reducible refine zW fun K1 K3 h1 h3=>?_);go_simp)|((first|refine h1 ?_|refine h3 ?_);clear h1 h3 K1 K3)|((first|refine zX (fun hb=>h1 ?_) (fun hb=>h3 ?_)|refine zX (fun hb=>h3 ?_) (fun hb=>h1 ?_))<;>(clear h1 h3 K1 K3;(try have hb2:=yC hb);(try have hb2:=yD hb);(try have hb2:=yE hb);(try have hb2:=yF hb);(try have hb2:=yG hb)))|(refine fun (K2:_→AHeap→Prop) hK2=>?_)|((with_reducible refine zY ?_ ?_);decide)|((with_reducible first|refine zZ ?_ (fun K hK=>?_)|refine yA ?_ (fun K hK=>?_));(focus go_simp;done);go_simp;refine hK _ _ ?_;clear hK K)|(go_simp;(try go_bits);(try first | ((refine lit0_k el22 sz3 ze3 rfl (by decide) ?_); go_simp) | ((refine appendNil_k el22 sz3 srcCells_none ?_); go_simp));refine hK2 _ _ ?_;clear hK2 K2))
    exact ⟨⟨_, _, [], rfl, rfl, by simp, _, _, rfl, fun h => by simp at h⟩, Ext.push _⟩
  · have h1 : 0 < xs.length := by omega
    obtain ⟨b, o, sp, rfl, hb, hcell⟩ := hv.at_ h1
    obtain ⟨-, -, a', c', h9, hsome⟩ := hv
    cases h9
    obtain ⟨_, _, _, h9, -, hcell2⟩ := hsome h1
    cases h9
    have hcells : cellsAt H b o (xs.length * 1) = some (xs.map (Value.int .i64)) := by
      have := cellsAt_of (H := H) (b := b) (o := o) (us := xs.map (Value.int .i64)) (by cases xs; exact absurd h1 (by simp); simp) hcell2
      simpa using this
    have HCS := Lib.hid hcells
    have h0i : (0 : Int) < (xs.length : Int) := by omega
    obtain ⟨q, hq⟩ : ∃ q : Nat, at_ % (xs.length : Int) = (q : Int) := ⟨(at_ % (xs.length : Int)).toNat, by have := Int.emod_nonneg at_ (show (xs.length : Int) ≠ 0 by omega); omega⟩
    have hqlt : q < xs.length := by have := Int.emod_lt_of_pos at_ (show (0 : Int) < xs.length by omega); omega
    have hqi : (q : Int) < (xs.length : Nat) := by omega
    have hpos : (1 : Int) ≤ (xs.length : Int) := by omega
    have HQ := Lib.hid hq
    have hxq : (xs.map (Value.int .i64))[q]? = some (.int .i64 xs[q]) := by simp [hqlt]
    have HXQ := Lib.hid hxq
    clear hcell hcell2 hsome hcells h0 hq hxq
    generalize xs[q] = y at HXQ
    repeat' (first|(with_reducible first|refine zA ?_|refine zB fun K hK=>?_|refine zC fun K2 hK2=>?_|refine zD ?_|refine zE ?_|refine zF ?_|refine zG ?_|refine zH ?_|refine zI ?_|refine zM ?_|refine zN ?_|refine zO ?_|refine zP ?_|refine zQ ?_|refine zR ?_)|((with_reducible refine zU (hK _ _ ?_));clear hK K)|((with_reducible refine zV ?_ ?_ fun K1 K3 d hdst h1 h3=>?_);rfl;exact yB rfl;cases hdst;go_simp)|((with_reducible refine zW fun K1 K3 h1 h3=>?_);go_simp)|((first|refine h1 ?_|refine h3 ?_);clear h1 h3 K1 K3)|((first|refine zX (fun hb=>h1 ?_) (fun hb=>h3 ?_)|refine zX (fun hb=>h3 ?_) (fun hb=>h1 ?_))<;>(clear h1 h3 K1 K3;(try have hb2:=yC hb);(try have hb2:=yD hb);(try have hb2:=yE hb);(try have hb2:=yF hb);(try have hb2:=yG hb)))|(refine fun (K2:_→AHeap→Prop) hK2=>?_)|((with_reducible refine zY ?_ ?_);decide)|((with_reducible first|refine zZ ?_ (fun K hK=>?_)|refine yA ?_ (fun K hK=>?_));(focus go_simp;done);go_simp;refine hK _ _ ?_;clear hK K)|(go_simp;(try go_bits);(try first | ((refine lit0_k el22 sz3 ze3 rfl (by decide) ?_); go_simp) | ((refine append0_g (b := H.n) el22 sz3 by3 ze3 rfl (by decide) (AHeap.get_push_new) (by rw [AHeap.n_push]; omega) (srcCells_some h1 (((Ext.push _).cellsAt hb).trans HCS.out)) h1 (by simp) oneV_list_int (by rw [List.length_map]; show xs.length * 8 ≤ 1073741824; omega) fun H7 hn7 hg7 hk7 => ?_); (have HX7 := Lib.hid (grown_ext (Ext.push _) (Nat.le_refl _) hn7 hk7)); (have hn7' : H.n + 1 < H7.n := by rw [hn7, AHeap.n_push]; omega); (have hg7' : H7.get (H.n + 1) = .row (xs.map (Value.int .i64)) 3 := by rw [AHeap.n_push] at hg7; exact hg7); (have hcq : cellAt H7 (H.n + 1) q = some (.int .i64 y) := by simp only [cellAt, hg7']; exact HXQ.out); clear hn7 hg7 hk7; go_simp) | ((rw [aPlain_rem (a := at_) (b := (xs.length : Int)) (by go_simp) (by go_simp) h80 hpos, HQ.out]); go_simp));refine hK2 _ _ ?_;clear hK2 K2))
    have ho := own_new (base := 0) (size := 1) (n := xs.length) (H := H7.upd (H.n + 1) (.row ((xs.set q (wrap64 (y + n))).map (Value.int .i64)) 3)) (b := H.n + 1) (Nat.zero_le _) (by rw [AHeap.n_upd]; omega) AHeap.get_upd_same (by simp) h1
    refine ⟨⟨_, _, xs.set q (wrap64 (y + n)), by rw [List.length_set], ?_⟩, HX7.out.upd (by omega) _⟩
    rw [List.length_set, ← List.map_set]
    exact ints_of_own ho (by rw [List.length_set]; omega)
end Go.Proofs.Tryz
namespace Go.Proofs.Tryz
open Go Go.Am Go.RowKit Go.Co
set_option maxRecDepth 100000

theorem mix_len (l : List Sheet) (c : Copy) : (mixFr l c).length ≤ 1000 ∧ (mixDy l c).length ≤ 1000 := by
  unfold mixFr mixDy
  by_cases he : errMix l c = 0
  · have := mix_words he
    rw [if_neg (by simp [he]), if_neg (by simp [he])]
    cases mixFew l c with
    | none => simp
    | some r => simp; omega
  · rw [if_pos he, if_pos he]; simp
theorem mix_none {l : List Sheet} {c : Copy} (h : mixErr l c ≠ 0) : mixFr l c = [] ∧ mixDy l c = [] := by
  unfold mixErr at h
  unfold mixFr mixDy
  by_cases he : errMix l c = 0
  · rw [if_neg (by simp [he])] at h
    rw [if_neg (by simp [he]), if_neg (by simp [he])]
    cases hf : mixFew l c with
    | none => exact ⟨rfl, rfl⟩
    | some r => rw [hf] at h; exact absurd rfl h
  · rw [if_pos he, if_pos he]; exact ⟨rfl, rfl⟩
set_option maxHeartbeats 16000000 in
theorem law6 {H : AHeap} {sv cv fv dv : Value} {l : List Sheet} {c : Copy} {fr dy : List Int} {at_ n : Int} (hv : SheetsV H sv l) (hc : CopyV H cv c) (hf : Ints H fv fr) (hdv : Ints H dv dy) (h8 : (Lit.int .u8 at_).wf = true) : CallS Tryz.prog [] 6 [sv, cv, fv, dv, .int .u8 at_, .int .i64 n] H fun r _ => r = .bool true := by
  have HV := Lib.hid hv
  have HC := Lib.hid hc
  have HF := Lib.hid hf
  have HD := Lib.hid hdv
  have h8' : 0 ≤ at_ ∧ at_ ≤ 255 := by
    have h2 : IntKind.u8.min ≤ at_ ∧ at_ ≤ IntKind.u8.max := by simpa [Lit.wf] using h8
    exact h2
  have H8 := Lib.hid h8'
  clear h8 h8'
  obtain ⟨hsl, sa, sc, rfl⟩ := hv.slice
  obtain ⟨cv, rfl, hcw⟩ := hc
  obtain ⟨hcl, ca, cc, rfl⟩ := hcw.slice
  obtain ⟨hfl, fa, fc, rfl⟩ := hf.slice
  obtain ⟨hdl, da, dc, rfl⟩ := hdv.slice
  clear hv hcw hf hdv
  have HX1 : Hid (Ext H (H.push (.row [Value.slice ca c.words.length cc, .int .i64 c.beg, .int .i64 c.fin, .int .i64 c.per] 27))) := Lib.hid (Ext.push _)
  have HMI := Lib.hid (fun (loops : List (Nat × LInfo)) (G : AHeap) (hx : Ext H G) => mixed_e (loops := loops) (HV.out.ext hx) (HC.out.ext hx))
  have HFE := Lib.hid (fun (loops : List (Nat × LInfo)) (G : AHeap) (hx : Ext H G) => fewest_s (loops := loops) (HV.out.ext hx) (HC.out.ext hx))
  rw [few_eq] at HFE
  have HRC := Lib.hid (fun (loops : List (Nat × LInfo)) (G : AHeap) (v u : Value) (hx : Ext H G) (h1 : Ints G v (mixFr l c)) (h2 : Ints G u (mixDy l c)) => refChkMix_s (loops := loops) (HV.out.ext hx) (HC.out.ext hx) h1 h2)
  have HMX := Lib.hid (fun (loops : List (Nat × LInfo)) (G : AHeap) (v u : Value) (xs ys : List Int) (hx : Ext H G) (h1 : Ints G v xs) (h2 : Ints G u ys) => mixes_s (loops := loops) (HV.out.ext hx) (HC.out.ext hx) h1 h2)
  have HBE := Lib.hid (fun (loops : List (Nat × LInfo)) (G : AHeap) (v : Value) (ys : List Int) (hi : Ints G v ys) (hl : ys.length ≤ 1000) => bent_e (loops := loops) (at_ := at_) (n := n) hi H8.out hl)
  have HN1 := Lib.hid (mix_len l c).1
  have HN2 := Lib.hid (mix_len l c).2
  have hch := @chk_mixed l c
  have hno := @mix_none l c
  generalize mixFr l c = F at HMI HRC HN1 HN2 hch hno
  generalize mixDy l c = D at HMI HRC HN2 hch hno
  generalize mixN l c = N0 at HMI HFE hch
  generalize mixErr l c = E at HMI HFE hch hno
  have HCELLS : Hid (∀ G : AHeap, Ext (H.push (.row [Value.slice ca c.words.length cc, .int .i64 c.beg, .int .i64 c.fin, .int .i64 c.per] 27)) G → cellsAt G H.n 0 4 = some [Value.slice ca c.words.length cc, .int .i64 c.beg, .int .i64 c.fin, .int .i64 c.per] ∧ H.n < G.n) := Lib.hid (fun G hx => by
    refine ⟨?_, ?_⟩
    · rw [hx.cellsAt (by simp only [AHeap.n_push]; omega), cellsAt_push, if_pos rfl]; rfl
    · have := hx.n; simp only [AHeap.n_push] at this; omega)
  refine CallS.enter' Tryz.func6 rfl Tryz.ntmps6 (by simp) fun f hd hf => ?_
  have f0 := hf 0
  have f1 := hf 1
  have f2 := hf 2
  have f3 := hf 3
  have f4 := hf 4
  have f5 := hf 5
  simp at f0 f1 f2 f3 f4 f5
  clear hf
  by_cases hE : E = 0
  · have hck := hch hE
    rw [hck] at HRC
    subst hE
    clear hch hno hck
    repeat' (first|(with_reducible first|refine zA ?_|refine zB fun K hK=>?_|refine zC fun K2 hK2=>?_|refine zD ?_|refine zE ?_|refine zF ?_|refine zG ?_|refine zH ?_|refine zI ?_|refine zM ?_|refine zN ?_|refine zO ?_|refine zP ?_|refine zQ ?_|refine zR ?_)|((with_reducible refine zU (hK _ _ ?_));clear hK K)|((with_reducible refine zV ?_ ?_ fun K1 K3 d hdst h1 h3=>?_);rfl;exact yB rfl;cases hdst;go_simp)|((with_reducible refine zW fun K1 K3 h1 h3=>?_);go_simp)|((first|refine h1 ?_|refine h3 ?_);clear h1 h3 K1 K3)|((first|refine zX (fun hb=>h1 ?_) (fun hb=>h3 ?_)|refine zX (fun hb=>h3 ?_) (fun hb=>h1 ?_))<;>(clear h1 h3 K1 K3;(try have hb2:=yC hb);(try have hb2:=yD hb);(try have hb2:=yE hb);(try have hb2:=yF hb);(try have hb2:=yG hb)))|(refine fun (K2:_→AHeap→Prop) hK2=>?_)|((with_reducible refine zY ?_ ?_);decide)|((with_reducible first|refine zZ ?_ (fun K hK=>?_)|refine yA ?_ (fun K hK=>?_));(focus go_simp;done);go_simp;refine hK _ _ ?_;clear hK K)|((with_reducible refine yH mixed rfl ?_ 20 fun K0 hK0=>?_);kernel_rfl)|(with_reducible first|exact yI|exact yJ|refine yK ?_|refine yL ?_|refine yM ?_)|((with_reducible first|refine yN ?_ ?_|refine yO ?_ ?_|refine yP ?_ ?_);rfl)|((with_reducible refine yQ ?_ ?_);rfl;refine hK0 _ _ ?_;clear hK0 K0)|((with_reducible refine yR ?_ ?_ ?_ ?_);rfl;rfl;rfl)|((with_reducible refine yS ?_ ?_ ?_ fun K2 hK2=>?_);rfl;rfl;exact yB rfl)|((with_reducible refine yT ?_ ?_ ?_ ?_ fun K1 K3 d hdst h1 h3=>?_);rfl;rfl;rfl;exact yB rfl;cases hdst;go_simp)|((with_reducible refine yU ?_ ?_ ?_ ?_ fun K1 K3 d hdst h1 h3=>?_);rfl;rfl;rfl;exact yB rfl;cases hdst;go_simp)|((with_reducible refine yV ?_ ?_ (fun K2 hK2=>?_) ?_);rfl;exact yB rfl)|((with_reducible refine yW ?_ ?_ ?_ ?_ (fun K2 hK2=>?_) ?_);rfl;exact yB rfl;rfl;(focus go_simp;done))|((with_reducible refine yX ?_ ?_ ?_ (fun K2 hK2=>?_) ?_);rfl;rfl;exact yB rfl)|((with_reducible refine yY ?_ ?_ (fun K2 hK2=>?_) ?_);rfl;rfl)|((with_reducible refine yZ ?_ ?_);(first|rfl|(dsimp only;decide +kernel)))|((with_reducible refine xA ?_ ?_);(focus go_simp;done))|(go_simp;(try go_bits);(try first |((with_reducible show CallS _ _ _ _ _ _);first|(refine CallS.mono head_s ?_; rintro _ _ ⟨rfl, h9⟩; rw [h9]; clear h9; go_simp)|(refine CallS.mono (scant_s (l := l) (HV.out.ext HX1.out)) ?_; rintro _ _ ⟨rfl, h9⟩; rw [h9]; clear h9; go_simp)|(refine CallS.mono (brief_s (c := c) (HC.out.ext HX1.out)) ?_; rintro _ _ ⟨rfl, h9⟩; rw [h9]; clear h9; go_simp))|((with_reducible refine CallS.mono (HMI.out _ _ HX1.out) ?_); rintro _ H2 ⟨⟨fv2, dv2, rfl, hi, hj⟩, hx⟩; (obtain ⟨-, fa2, fc2, rfl⟩ := hi.slice); (obtain ⟨-, da2, dc2, rfl⟩ := hj.slice); (have HF2 := Lib.hid hi); (have HD2 := Lib.hid hj); (have HX2 := Lib.hid hx); (obtain ⟨k20, k21⟩ := HCELLS.out _ hx); clear hi hj hx; go_simp)|((with_reducible refine CallS.mono (HFE.out _ _ (HX1.out.trans HX2.out)) ?_); rintro _ _ ⟨rfl, h9⟩; rw [h9]; clear h9; go_simp)|((with_reducible refine CallS.mono (HRC.out _ _ _ _ (HX1.out.trans HX2.out) HF2.out HD2.out) ?_); rintro _ _ ⟨rfl, h9⟩; rw [h9]; clear h9; go_simp)|((with_reducible refine CallS.mono (HMX.out _ _ _ _ _ _ (HX1.out.trans HX2.out) (HF.out.ext (HX1.out.trans HX2.out)) (HD.out.ext (HX1.out.trans HX2.out))) ?_); rintro _ _ ⟨rfl, h9⟩; rw [h9]; clear h9; go_simp)|((with_reducible refine CallS.mono (HBE.out _ _ _ _ HF2.out HN1.out) ?_); rintro _ H3 ⟨⟨ba, bc, bs, rfl, hi⟩, hx⟩; (have HB3 := Lib.hid hi); (have HX3 := Lib.hid (HX2.out.trans hx)); (have HF3 := Lib.hid (HF2.out.ext hx)); (have HD3 := Lib.hid (HD2.out.ext hx)); (obtain ⟨k30, k31⟩ := HCELLS.out _ HX3.out); clear hi hx; go_simp)|((with_reducible refine CallS.mono (HMX.out _ _ _ _ _ _ (HX1.out.trans HX3.out) HB3.out HD3.out) ?_); rintro _ _ ⟨rfl, h9⟩; rw [h9]; clear h9; go_simp)|((with_reducible refine CallS.mono (HBE.out _ _ _ _ HD3.out HN2.out) ?_); rintro _ H4 ⟨⟨ba4, bc4, bs4, rfl, hi⟩, hx⟩; (have HB4 := Lib.hid hi); (have HX4 := Lib.hid (HX3.out.trans hx)); (have HF4 := Lib.hid (HF3.out.ext hx)); (obtain ⟨k40, k41⟩ := HCELLS.out _ HX4.out); clear hi hx; go_simp)|((with_reducible refine CallS.mono (HMX.out _ _ _ _ _ _ (HX1.out.trans HX4.out) HF4.out HB4.out) ?_); rintro _ _ ⟨rfl, h9⟩; rw [h9]; clear h9; go_simp));(first|(refine hK2 _ _ ?_ ?_<;>clear hK2 K2)|(refine hK2 _ _ ?_;clear hK2 K2))))
    all_goals rfl
  · obtain ⟨hF, hD⟩ := hno hE
    subst hF hD
    have heb : (E != 0) = true := by simpa using hE
    have heb2 : (E == 0) = false := by simpa using hE
    clear hch hno hE HRC
    repeat' (first|(with_reducible first|refine zA ?_|refine zB fun K hK=>?_|refine zC fun K2 hK2=>?_|refine zD ?_|refine zE ?_|refine zF ?_|refine zG ?_|refine zH ?_|refine zI ?_|refine zM ?_|refine zN ?_|refine zO ?_|refine zP ?_|refine zQ ?_|refine zR ?_)|((with_reducible refine zU (hK _ _ ?_));clear hK K)|((with_reducible refine zV ?_ ?_ fun K1 K3 d hdst h1 h3=>?_);rfl;exact yB rfl;cases hdst;go_simp)|((with_reducible refine zW fun K1 K3 h1 h3=>?_);go_simp)|((first|refine h1 ?_|refine h3 ?_);clear h1 h3 K1 K3)|((first|refine zX (fun hb=>h1 ?_) (fun hb=>h3 ?_)|refine zX (fun hb=>h3 ?_) (fun hb=>h1 ?_))<;>(clear h1 h3 K1 K3;(try have hb2:=yC hb);(try have hb2:=yD hb);(try have hb2:=yE hb);(try have hb2:=yF hb);(try have hb2:=yG hb)))|(refine fun (K2:_→AHeap→Prop) hK2=>?_)|((with_reducible refine zY ?_ ?_);decide)|((with_reducible first|refine zZ ?_ (fun K hK=>?_)|refine yA ?_ (fun K hK=>?_));(focus go_simp;done);go_simp;refine hK _ _ ?_;clear hK K)|((with_reducible refine yH mixed rfl ?_ 20 fun K0 hK0=>?_);kernel_rfl)|(with_reducible first|exact yI|exact yJ|refine yK ?_|refine yL ?_|refine yM ?_)|((with_reducible first|refine yN ?_ ?_|refine yO ?_ ?_|refine yP ?_ ?_);rfl)|((with_reducible refine yQ ?_ ?_);rfl;refine hK0 _ _ ?_;clear hK0 K0)|((with_reducible refine yR ?_ ?_ ?_ ?_);rfl;rfl;rfl)|((with_reducible refine yS ?_ ?_ ?_ fun K2 hK2=>?_);rfl;rfl;exact yB rfl)|((with_reducible refine yT ?_ ?_ ?_ ?_ fun K1 K3 d hdst h1 h3=>?_);rfl;rfl;rfl;exact yB rfl;cases hdst;go_simp)|((with_reducible refine yU ?_ ?_ ?_ ?_ fun K1 K3 d hdst h1 h3=>?_);rfl;rfl;rfl;exact yB rfl;cases hdst;go_simp)|((with_reducible refine yV ?_ ?_ (fun K2 hK2=>?_) ?_);rfl;exact yB rfl)|((with_reducible refine yW ?_ ?_ ?_ ?_ (fun K2 hK2=>?_) ?_);rfl;exact yB rfl;rfl;(focus go_simp;done))|((with_reducible refine yX ?_ ?_ ?_ (fun K2 hK2=>?_) ?_);rfl;rfl;exact yB rfl)|((with_reducible refine yY ?_ ?_ (fun K2 hK2=>?_) ?_);rfl;rfl)|((with_reducible refine yZ ?_ ?_);(first|rfl|(dsimp only;decide +kernel)))|((with_reducible refine xA ?_ ?_);(focus go_simp;done))|(go_simp;(try go_bits);(try first |((with_reducible show CallS _ _ _ _ _ _);first|(refine CallS.mono head_s ?_; rintro _ _ ⟨rfl, h9⟩; rw [h9]; clear h9; go_simp)|(refine CallS.mono (scant_s (l := l) (HV.out.ext HX1.out)) ?_; rintro _ _ ⟨rfl, h9⟩; rw [h9]; clear h9; go_simp)|(refine CallS.mono (brief_s (c := c) (HC.out.ext HX1.out)) ?_; rintro _ _ ⟨rfl, h9⟩; rw [h9]; clear h9; go_simp))|((with_reducible refine CallS.mono (HMI.out _ _ HX1.out) ?_); rintro _ H2 ⟨⟨fv2, dv2, rfl, hi, hj⟩, hx⟩; (obtain ⟨-, fa2, fc2, rfl⟩ := hi.slice); (obtain ⟨-, da2, dc2, rfl⟩ := hj.slice); (have HF2 := Lib.hid hi); (have HD2 := Lib.hid hj); (have HX2 := Lib.hid hx); (obtain ⟨k20, k21⟩ := HCELLS.out _ hx); clear hi hj hx; go_simp)|((with_reducible refine CallS.mono (HFE.out _ _ (HX1.out.trans HX2.out)) ?_); rintro _ _ ⟨rfl, h9⟩; rw [h9]; clear h9; go_simp)|((with_reducible refine CallS.mono (HMX.out _ _ _ _ _ _ (HX1.out.trans HX2.out) (HF.out.ext (HX1.out.trans HX2.out)) (HD.out.ext (HX1.out.trans HX2.out))) ?_); rintro _ _ ⟨rfl, h9⟩; rw [h9]; clear h9; go_simp)|((with_reducible refine CallS.mono (HBE.out _ _ _ _ HF2.out HN1.out) ?_); rintro _ H3 ⟨⟨ba, bc, bs, rfl, hi⟩, hx⟩; (have HB3 := Lib.hid hi); (have HX3 := Lib.hid (HX2.out.trans hx)); (have HF3 := Lib.hid (HF2.out.ext hx)); (have HD3 := Lib.hid (HD2.out.ext hx)); (obtain ⟨k30, k31⟩ := HCELLS.out _ HX3.out); clear hi hx; go_simp)|((with_reducible refine CallS.mono (HMX.out _ _ _ _ _ _ (HX1.out.trans HX3.out) HB3.out HD3.out) ?_); rintro _ _ ⟨rfl, h9⟩; rw [h9]; clear h9; go_simp)|((with_reducible refine CallS.mono (HBE.out _ _ _ _ HD3.out HN2.out) ?_); rintro _ H4 ⟨⟨ba4, bc4, bs4, rfl, hi⟩, hx⟩; (have HB4 := Lib.hid hi); (have HX4 := Lib.hid (HX3.out.trans hx)); (have HF4 := Lib.hid (HF3.out.ext hx)); (obtain ⟨k40, k41⟩ := HCELLS.out _ HX4.out); clear hi hx; go_simp)|((with_reducible refine CallS.mono (HMX.out _ _ _ _ _ _ (HX1.out.trans HX4.out) HF4.out HB4.out) ?_); rintro _ _ ⟨rfl, h9⟩; rw [h9]; clear h9; go_simp));(first|(refine hK2 _ _ ?_ ?_<;>clear hK2 K2)|(refine hK2 _ _ ?_;clear hK2 K2))))
    all_goals rfl
end Go.Proofs.Tryz
namespace Go.Proofs.Tryz
open Go.ChangeShapes Go.WideShapes Go.ChangeAt Go.RowKit Go.Joins Go.Deep Go.Am
set_option maxRecDepth 100000


section
variable {H : Type} {enc : TypeId × Value → H} {P : Program} {w : World} {base : Nat} {spare : Nat → Bool} {held : Bool}
theorem open_slice_fields {t e : TypeId} {fs : Array Field} {fuel : Nat} {cs : List Value} {x : DataW H × List MemPlace} (ht : P.underlying t = some (.slice e)) (he : P.underlying e = some (.struct fs))
    (hone : oneCellFields P fs = true) (hC : P.cellsOf e = fs.size) (h : DataW.trod enc P w base spare held fuel t cs = some x) :
    (cs = [.slice none 0 0] ∧ x = (.nil, [])) ∨
    ∃ (a : Addr) (len cap m : Nat) (D : Nat → DataW H) (Pl : Nat → List MemPlace), cs = [.slice (some a) len cap] ∧ base ≤ a.block ∧ len ≤ cap ∧ cap ≤ maxLen ∧ m = (if spare a.block then cap else len) ∧
      x = (.slice ((List.range len).map D) ((List.range (m - len)).map fun j => D (len + j)), MemPlace.row a (m * fs.size) ++ (List.range m).flatMap Pl) ∧
      ∀ i, i < m → ∃ (ys : List (DataW H × List MemPlace)) (n : Nat), D i = .agg (ys.map (·.1)) ∧ Pl i = ys.flatMap (·.2) ∧ ys.length = fs.size ∧
        ∀ (j : Nat) (f : Field), fs[j]? = some f → ∃ (v : Value) (y : DataW H × List MemPlace), w.cell? (a.add (i * fs.size + j)) = some v ∧ ys[j]? = some y ∧ DataW.trod enc P w base spare held n f.type [v] = some y := by
  rcases open_slice ht h with h0 | ⟨a, len, cap, m, n, D, Pl, hcs, hb, hl, hm, hmm, hx, hi⟩
  · exact .inl h0
  · refine .inr ⟨a, len, cap, m, D, Pl, hcs, hb, hl, hm, hmm, by rw [hC] at hx; exact hx, fun i him => ?_⟩
    obtain ⟨cs', hc, ht'⟩ := hi i him
    rw [hC] at hc
    obtain ⟨ys, n', hn', hy, hlen, hyl, hf⟩ := DataW.trod_struct he ht'
    obtain ⟨_, hcl, hat⟩ := World.cells?_some hc
    simp only [Prod.mk.injEq] at hy
    refine ⟨ys, n', hy.1, hy.2, hyl, fun j f hj => ?_⟩
    obtain ⟨ho, hk⟩ := hone_of hone j f hj
    have hjl : j < fs.size := (Array.getElem?_eq_some_iff.1 hj).1
    have hcell := hat j hjl
    have hv : cs'[j]? = some (cs'[j]'(by omega)) := List.getElem?_eq_getElem (by omega)
    have h1 := hf j f hj
    rw [ho, hk] at h1
    have hone' : (cs'.drop j).take 1 = [cs'[j]'(by omega)] := by
      rw [List.drop_eq_getElem_cons (by omega)]
      rfl
    rw [hone'] at h1
    have hys : ys[j]? = some (ys[j]'(by omega)) := List.getElem?_eq_getElem (by omega)
    refine ⟨_, _, ?_, hys, h1.trans hys⟩
    rw [← Go.Deep.add_add, hcell, hv]
end
theorem add_at (b o j : Nat) : (⟨b, o, none⟩ : Addr).add j = ⟨b, o + j, none⟩ := by
  unfold Addr.add
  split
  · rename_i h; subst h; rfl
  · rfl
theorem cell_lt {w : World} {p : Addr} {v : Value} (h : w.cell? p = some v) : p.block < w.heap.size := by
  rcases Nat.lt_or_ge p.block w.heap.size with hlt | hge
  · exact hlt
  · unfold World.cell? at h
    rw [Array.getElem?_eq_none hge] at h
    cases h
theorem cell_spot {w : World} {p : Addr} {v : Value} (h : w.cell? p = some v) : p.spot = none := by
  unfold World.cell? at h
  split at h
  · split at h
    · cases h
    · rename_i h0; simpa using h0
  · cases h

theorem slice_abs {w : World} {a : Addr} {len cap size d : Nat} {us : List Value} (hl : len ≤ cap) (hc : len ≤ 9223372036854775807) (hus : us.length = len * size) (hsz : 0 < size) (hplain : ∀ (j : Nat) (u : Value), us[j]? = some u → absV w.heap.size 8 u = u) (hcell : ∀ (j : Nat) (u : Value), us[j]? = some u → w.cell? (a.add j) = some u) : Cells (absH w) (absV w.heap.size (d + 1) (.slice (some a) len cap)) size len us := by
  by_cases h0 : len = 0
  · subst h0
    simp only [absV]
    split
    · exact ⟨hus, hc, _, _, rfl, by omega⟩
    · rw [if_pos trivial]; exact ⟨hus, hc, _, _, rfl, by omega⟩
  · have hpos : 0 < us.length := by rw [hus]; exact Nat.mul_pos (by omega) hsz
    have h1 := hcell 0 _ (List.getElem?_eq_getElem hpos)
    have e0 : a.add 0 = a := by unfold Addr.add; rw [if_pos rfl]
    rw [e0] at h1
    have hsp := cell_spot h1
    have hlt := cell_lt h1
    obtain ⟨b, o, sp⟩ := a
    simp only at hsp hlt
    subst hsp
    simp only [absV]
    rw [if_pos ⟨trivial, hlt, hl⟩]
    refine ⟨hus, hc, _, _, rfl, fun _ => ⟨b, o, none, rfl, by rw [absH_n]; exact hlt, fun j u hu => ?_⟩⟩
    have h2 := hcell j u hu
    rw [add_at] at h2
    rw [abs_cell h2, hplain j u hu]

section
variable {H : Type} {enc : TypeId × Value → H} {w : World}
theorem ints_abs {fuel d : Nat} {v : Value} {x : DataW H × List MemPlace} (h : DataW.trod enc Tryz.prog w 0 (fun _ => true) true fuel 22 [v] = some x) : ∃ xs, Ints (absH w) (absV w.heap.size (d + 1) v) xs := by
  rcases open_ints Tryz.underlying22 Tryz.underlying3 (by kernel_rfl) h with ⟨hcs, _⟩ | ⟨a, l, c, zs, hcs, _, hl, hm, hz, _, hcell, _⟩
  · injection hcs with hcs _
    subst hcs
    exact ⟨[], rfl, by simp, none, 0, rfl, by simp⟩
  · injection hcs with hcs _
    subst hcs
    simp only [if_true] at hz
    have hlen : (zs.take l).length = l := by rw [List.length_take]; omega
    refine ⟨zs.take l, ?_⟩
    unfold Ints
    rw [hlen]
    refine slice_abs hl (by unfold maxLen at hm; omega) (by rw [List.length_map, hlen]; omega) (by decide) (fun j u hu => ?_) (fun j u hu => ?_)
    · rw [List.getElem?_map] at hu
      obtain ⟨z, _, rfl⟩ := Option.map_eq_some_iff.1 hu
      rfl
    · rw [List.getElem?_map] at hu
      obtain ⟨z, hz1, rfl⟩ := Option.map_eq_some_iff.1 hu
      rw [List.getElem?_take] at hz1
      split at hz1
      · have hj : j < zs.length := (List.getElem?_eq_some_iff.1 hz1).1
        rw [hcell j hj, List.getD_eq_getElem?_getD, hz1]
        rfl
      · cases hz1

theorem alts_abs {fuel d : Nat} {v : Value} {x : DataW H × List MemPlace} (h : DataW.trod enc Tryz.prog w 0 (fun _ => true) true fuel 23 [v] = some x) : ∃ l, Alts (absH w) (absV w.heap.size (d + 1) v) l := by
  rcases open_slice_fields Tryz.underlying23 Tryz.underlying58 (by kernel_rfl) (by kernel_rfl) h with ⟨hcs, _⟩ | ⟨a, len, cap, m, D, Pl, hcs, _, hl, hm, hmm, _, hf⟩
  · injection hcs with hcs _
    subst hcs
    exact ⟨[], rfl, by simp, none, 0, rfl, by simp⟩
  · injection hcs with hcs _
    subst hcs
    simp only [if_true] at hmm
    have hq : ∀ i, i < len → ∃ q : Alt, ∀ j u, q.cells[j]? = some u → w.cell? (a.add (i * 6 + j)) = some u := by
      intro i hi
      obtain ⟨ys, n, _, _, _, hj⟩ := hf i (by omega)
      obtain ⟨v0, y0, hc0, _, ht0⟩ := hj 0 _ rfl
      obtain ⟨v1, y1, hc1, _, ht1⟩ := hj 1 _ rfl
      obtain ⟨v2, y2, hc2, _, ht2⟩ := hj 2 _ rfl
      obtain ⟨v3, y3, hc3, _, ht3⟩ := hj 3 _ rfl
      obtain ⟨v4, y4, hc4, _, ht4⟩ := hj 4 _ rfl
      obtain ⟨v5, y5, hc5, _, ht5⟩ := hj 5 _ rfl
      obtain ⟨z0, hz0, _, _⟩ := DataW.trod_int Tryz.underlying3 ht0
      obtain ⟨z1, hz1, _, _⟩ := DataW.trod_int Tryz.underlying3 ht1
      obtain ⟨z2, hz2, _, _⟩ := DataW.trod_int Tryz.underlying3 ht2
      obtain ⟨z3, hz3, _, _⟩ := DataW.trod_int Tryz.underlying3 ht3
      obtain ⟨z4, hz4, _, _⟩ := DataW.trod_int Tryz.underlying3 ht4
      obtain ⟨z5, hz5, _, _⟩ := DataW.trod_int Tryz.underlying3 ht5
      injection hz0 with hz0 _
      injection hz1 with hz1 _
      injection hz2 with hz2 _
      injection hz3 with hz3 _
      injection hz4 with hz4 _
      injection hz5 with hz5 _
      subst hz0 hz1 hz2 hz3 hz4 hz5
      refine ⟨⟨z0, z1, z2, z3, z4, z5⟩, fun j u hu => ?_⟩
      match j, hu with
      | 0, hu => cases hu; exact hc0
      | 1, hu => cases hu; exact hc1
      | 2, hu => cases hu; exact hc2
      | 3, hu => cases hu; exact hc3
      | 4, hu => cases hu; exact hc4
      | 5, hu => cases hu; exact hc5
      | j + 6, hu => simp [Alt.cells] at hu
    obtain ⟨f, hf'⟩ := Classical.skolem.1 (fun i => show ∃ q : Alt, i < len → ∀ j u, q.cells[j]? = some u → w.cell? (a.add (i * 6 + j)) = some u by
      by_cases hi : i < len
      · obtain ⟨q, hq⟩ := hq i hi; exact ⟨q, fun _ => hq⟩
      · exact ⟨⟨0, 0, 0, 0, 0, 0⟩, fun h => absurd h hi⟩)
    have hlen : ((List.range len).map f).length = len := by simp
    refine ⟨(List.range len).map f, ?_⟩
    unfold Alts
    rw [hlen]
    have hget : ∀ j u, (altCells ((List.range len).map f))[j]? = some u → ∃ k i, k < len ∧ j = k * 6 + i ∧ (f k).cells[i]? = some u := by
      intro j u hu
      have hj : j < len * 6 := by
        have := (List.getElem?_eq_some_iff.1 hu).1
        rw [altCells_length, hlen] at this; exact this
      have hk : j / 6 < len := by omega
      have hi : j % 6 < 6 := Nat.mod_lt _ (by decide)
      have hcl : (f (j / 6)).cells.length = 6 := rfl
      have h1 := altCells_get ((List.range len).map f) (j / 6) (by rw [hlen]; exact hk) (j % 6) ((f (j / 6)).cells[j % 6]'(by rw [hcl]; exact hi)) (by simp)
      have e : j / 6 * 6 + j % 6 = j := by omega
      rw [e, hu] at h1
      refine ⟨j / 6, j % 6, hk, e.symm, ?_⟩
      rw [List.getElem?_eq_getElem (by rw [hcl]; exact hi)]
      exact h1.symm ▸ rfl
    refine slice_abs hl (by unfold maxLen at hm; omega) (by rw [altCells_length, hlen]) (by decide) (fun j u hu => ?_) (fun j u hu => ?_)
    · obtain ⟨k, i, hk, rfl, hi⟩ := hget j u hu
      match i, hi with
      | 0, hi => cases hi; rfl
      | 1, hi => cases hi; rfl
      | 2, hi => cases hi; rfl
      | 3, hi => cases hi; rfl
      | 4, hi => cases hi; rfl
      | 5, hi => cases hi; rfl
      | i + 6, hi => simp [Alt.cells] at hi
    · obtain ⟨k, i, hk, rfl, hi⟩ := hget j u hu
      exact hf' k hk i u hi
end

theorem ownOne : ownKnob Tryz.prog.godebug = none := by kernel_rfl
theorem laidOut : laidOutB Tryz.prog = true := by kernel_rfl

theorem fields25 : ∃ f0 f1 : Field, Tryz.prog.underlying 25 = some (.struct #[f0, f1]) ∧ f0.type = 22 ∧ f1.type = 23 ∧ f0.offset = 0 ∧ f1.offset = 1 ∧ Tryz.prog.cellsOf 22 = 1 ∧ Tryz.prog.cellsOf 23 = 1 ∧ Tryz.prog.cellsOf 25 = 2 :=
  ⟨(fieldOf Tryz.prog 25 0).getD default, (fieldOf Tryz.prog 25 1).getD default, by kernel_rfl, by kernel_rfl, by kernel_rfl, by kernel_rfl, by kernel_rfl, by kernel_rfl, by kernel_rfl, by kernel_rfl⟩

section
variable {H : Type} {enc : TypeId × Value → H} {w : World}
end

theorem fields27 : ∃ f0 f1 f2 f3 : Field, Tryz.prog.underlying 27 = some (.struct #[f0, f1, f2, f3]) ∧ (f0.type = 22 ∧ f1.type = 3 ∧ f2.type = 3 ∧ f3.type = 3) ∧ (f0.offset = 0 ∧ f1.offset = 1 ∧ f2.offset = 2 ∧ f3.offset = 3) ∧ Tryz.prog.cellsOf 22 = 1 ∧ Tryz.prog.cellsOf 3 = 1 ∧ Tryz.prog.cellsOf 27 = 4 :=
  ⟨(fieldOf Tryz.prog 27 0).getD default, (fieldOf Tryz.prog 27 1).getD default, (fieldOf Tryz.prog 27 2).getD default, (fieldOf Tryz.prog 27 3).getD default, by kernel_rfl, by refine ⟨?_, ?_, ?_, ?_⟩ <;> kernel_rfl, by refine ⟨?_, ?_, ?_, ?_⟩ <;> kernel_rfl, by kernel_rfl, by kernel_rfl, by kernel_rfl⟩
section
variable {H : Type} {enc : TypeId × Value → H} {w : World}
theorem copy_abs {r : Reach} {b0 : Nat} {v : Value} {d : DataW H} {p : List MemPlace} (hval : Value.okWide Tryz.prog w r b0 27 v) (h : DataW.Trod enc Tryz.prog w 0 (fun _ => true) true 27 v d p) : ∃ c, CopyV (absH w) (absV w.heap.size 8 v) c := by
  obtain ⟨f0, f1, f2, f3, hu, ⟨t0, t1, t2, t3⟩, ⟨o0, o1, o2, o3⟩, h4, h5, h6⟩ := fields27
  obtain ⟨cs, rfl, hcs⟩ := okWide_struct hu hval
  obtain ⟨fuel, hf⟩ := h
  obtain ⟨xs, n, _, _, _, _, ht⟩ := DataW.trod_struct hu hf
  rw [h6] at hcs
  obtain ⟨a, b, c, e, rfl⟩ : ∃ a b c e, cs = #[a, b, c, e] := by
    obtain ⟨l⟩ := cs
    match l, hcs with
    | [a, b, c, e], _ => exact ⟨a, b, c, e, rfl⟩
  have ht0 := ht 0 f0 rfl
  have ht1 := ht 1 f1 rfl
  have ht2 := ht 2 f2 rfl
  have ht3 := ht 3 f3 rfl
  rw [t0, o0, h4] at ht0
  rw [t1, o1, h5] at ht1
  rw [t2, o2, h5] at ht2
  rw [t3, o3, h5] at ht3
  have hlen : xs.length = 4 := by assumption
  rw [List.getElem?_eq_getElem (by omega)] at ht0 ht1 ht2 ht3
  obtain ⟨ws, hx⟩ := ints_abs (d := 6) (v := a) (by simpa [Value.cells] using ht0)
  obtain ⟨z1, hz1, _, _⟩ := DataW.trod_int Tryz.underlying3 (show DataW.trod enc Tryz.prog w 0 (fun _ => true) true n 3 [b] = _ by simpa [Value.cells] using ht1)
  obtain ⟨z2, hz2, _, _⟩ := DataW.trod_int Tryz.underlying3 (show DataW.trod enc Tryz.prog w 0 (fun _ => true) true n 3 [c] = _ by simpa [Value.cells] using ht2)
  obtain ⟨z3, hz3, _, _⟩ := DataW.trod_int Tryz.underlying3 (show DataW.trod enc Tryz.prog w 0 (fun _ => true) true n 3 [e] = _ by simpa [Value.cells] using ht3)
  injection hz1 with hz1 _
  injection hz2 with hz2 _
  injection hz3 with hz3 _
  subst hz1 hz2 hz3
  exact ⟨⟨ws, z1, z2, z3⟩, _, by simp [absV], hx⟩
theorem list_abs {r : Reach} {b0 : Nat} {v : Value} {d : DataW H} {p : List MemPlace} (hval : Value.okWide Tryz.prog w r b0 22 v) (h : DataW.Trod enc Tryz.prog w 0 (fun _ => true) true 22 v d p) : ∃ xs, Ints (absH w) (absV w.heap.size 8 v) xs := by
  obtain ⟨a, len, cap, rfl⟩ := okWide_slice Tryz.underlying22 hval
  obtain ⟨fuel, hf⟩ := h
  exact ints_abs (d := 7) hf
end
end Go.Proofs.Tryz
namespace Go.Proofs.Tryz
open Go.ChangeShapes Go.WideShapes Go.ChangeAt Go.RowKit Go.Joins Go.Deep Go.Am
set_option maxRecDepth 100000

section
variable {H : Type} {enc : TypeId × Value → H} {w : World}
theorem sheets_abs {r : Reach} {b0 : Nat} {v : Value} {d : DataW H} {p : List MemPlace} (hval : Value.okWide Tryz.prog w r b0 49 v) (h : DataW.Trod enc Tryz.prog w 0 (fun _ => true) true 49 v d p) : ∃ l, SheetsV (absH w) (absV w.heap.size 8 v) l := by
  obtain ⟨a0, len0, cap0, rfl⟩ := okWide_slice Tryz.underlying49 hval
  obtain ⟨fuel, hf⟩ := h
  obtain ⟨f0, f1, hu, h0, h1, h2, h3, h4, h5, h6⟩ := fields25
  rcases open_slice Tryz.underlying49 hf with ⟨hcs, _⟩ | ⟨a, len, cap, m, n, D, Pl, hcs, _, hl, hm, hmm, _, hi⟩
  · have hcs2 : [Value.slice a0 len0 cap0] = [Value.slice none 0 0] := hcs
    injection hcs2 with hcs2 _
    injection hcs2 with e1 e2 e3
    subst e1 e2 e3
    exact ⟨[], by simp, none, 0, rfl, by simp⟩
  · have hcs2 : [Value.slice a0 len0 cap0] = [Value.slice (some a) len cap] := hcs
    injection hcs2 with hcs2 _
    injection hcs2 with e1 e2 e3
    subst e1 e2 e3
    simp only [if_true] at hmm
    have hq : ∀ i, i < len0 → ∃ q : Sheet, ∃ v0 v1, w.cell? (a.add (i * 2)) = some v0 ∧ w.cell? (a.add (i * 2 + 1)) = some v1 ∧ Ints (absH w) (absV w.heap.size 8 v0) q.words ∧ Alts (absH w) (absV w.heap.size 8 v1) q.alts := by
      intro i hii
      obtain ⟨cs', hc, ht'⟩ := hi i (by omega)
      rw [h6] at hc
      obtain ⟨y0, y1, n', _, hlen, ht0, ht1⟩ := trod_struct2 hu ht'
      obtain ⟨_, hcl, hat⟩ := World.cells?_some hc
      rw [h6] at hlen
      obtain ⟨c0, c1, rfl⟩ : ∃ c0 c1, cs' = [c0, c1] := by
        match cs', hlen with
        | [a, b], _ => exact ⟨a, b, rfl⟩
      have hv0 := hat 0 (by decide)
      have hv1 := hat 1 (by decide)
      rw [h0, h2, h4] at ht0
      rw [h1, h3, h5] at ht1
      obtain ⟨xs, hx⟩ := ints_abs (d := 7) (v := c0) (by simpa using ht0)
      obtain ⟨al, hla⟩ := alts_abs (d := 7) (v := c1) (by simpa using ht1)
      refine ⟨⟨xs, al⟩, c0, c1, ?_, ?_, hx, hla⟩
      · rw [Go.Deep.add_add] at hv0; simpa using hv0
      · rw [Go.Deep.add_add] at hv1; simpa using hv1
    obtain ⟨g, hg⟩ := Classical.skolem.1 (fun i => show ∃ q : Sheet × Value × Value, i < len0 → w.cell? (a.add (i * 2)) = some q.2.1 ∧ w.cell? (a.add (i * 2 + 1)) = some q.2.2 ∧ Ints (absH w) (absV w.heap.size 8 q.2.1) q.1.words ∧ Alts (absH w) (absV w.heap.size 8 q.2.2) q.1.alts by
      by_cases hi : i < len0
      · obtain ⟨q, v0, v1, hh⟩ := hq i hi; exact ⟨(q, v0, v1), fun _ => hh⟩
      · exact ⟨(⟨[], []⟩, .nilFunc, .nilFunc), fun h => absurd h hi⟩)
    have hlen : ((List.range len0).map fun i => (g i).1).length = len0 := by simp
    have key : ∃ a' c', absV w.heap.size 8 (Value.slice (some a) len0 cap0) = .slice a' len0 c' ∧ (0 < len0 → ∃ b o sp, a' = some ⟨b, o, sp⟩ ∧ b < (absH w).n ∧ ∀ k, k < len0 → ∃ wv av, cellsAt (absH w) b (o + k * 2) 2 = some [wv, av] ∧ SheetV (absH w) (.agg #[wv, av]) (g k).1) := by
      by_cases h00 : len0 = 0
      · subst h00
        simp only [absV]
        split
        · exact ⟨_, _, rfl, by omega⟩
        · rw [if_pos trivial]; exact ⟨_, _, rfl, by omega⟩
      · have hc0 := (hg 0 (by omega)).1
        have e0 : a.add (0 * 2) = a := by unfold Addr.add; rw [if_pos rfl]
        rw [e0] at hc0
        have hsp := cell_spot hc0
        have hlt := cell_lt hc0
        obtain ⟨b, o, sp⟩ := a
        simp only at hsp hlt
        subst hsp
        simp only [absV]
        rw [if_pos ⟨trivial, hlt, hl⟩]
        refine ⟨_, _, rfl, fun _ => ⟨b, o, none, rfl, by rw [absH_n]; exact hlt, fun k hk => ?_⟩⟩
        obtain ⟨c0, c1, i0, i1⟩ := hg k (by omega)
        rw [add_at] at c0 c1
        refine ⟨absV w.heap.size 8 (g k).2.1, absV w.heap.size 8 (g k).2.2, ?_, ⟨_, _, rfl, by simpa using i0, by simpa using i1⟩⟩
        refine cellsAt_of (us := [absV w.heap.size 8 (g k).2.1, absV w.heap.size 8 (g k).2.2]) (by simp) fun j u hu => ?_
        match j, hu with
        | 0, hu => rw [Nat.add_zero, abs_cell c0]; exact hu
        | 1, hu => rw [Nat.add_assoc, abs_cell c1]; exact hu
        | j + 2, hu => simp at hu
    obtain ⟨a', c', k1, k2⟩ := key
    refine ⟨(List.range len0).map fun i => (g i).1, by rw [hlen]; unfold maxLen at hm; omega, a', c', by rw [hlen]; exact k1, fun hn => ?_⟩
    rw [hlen] at hn
    obtain ⟨b, o, sp, k3, k4, k5⟩ := k2 hn
    refine ⟨b, o, sp, k3, k4, fun k hk => ?_⟩
    obtain ⟨wv, av, k6, k7⟩ := k5 k (by rw [hlen] at hk; exact hk)
    exact ⟨wv, av, k6, by simpa using k7⟩
end
end Go.Proofs.Tryz
