/- Contracts of functions, walked. -/
import Derived.Test.YtbpdmnkbehapcaaGreatStM6
import Derived.Test.YtbpdmnkbehapcaaGreatAwB
set_option linter.all false
namespace Go.Proofs.Tryz
open Go Go.Am Go.RowKit
set_option maxRecDepth 100000


def openGo (D : Nat → Int) : Nat → Nat → List Value
  | 0, _ => []
  | r + 1, i => if D i = -2 then openGo D r (i + 1) else .int .i64 i :: openGo D r (i + 1)
def openFrom (D : Nat → Int) (n lo : Nat) : Nat → List Value
  | 0 => openGo D n lo ++ openGo D n (60 + lo)
  | 1 => openGo D n (60 + lo)
  | _ => []
theorem openFrom_step (D : Nat → Int) (n lo k : Nat) (hk : k < 2) : openFrom D n lo k = openGo D n (k * 60 + lo) ++ openFrom D n lo (k + 1) := by
  match k, hk with
  | 0, _ => simp [openFrom]
  | 1, _ => simp [openFrom]

set_option maxHeartbeats 4000000 in
theorem open_gives {loops ls : List (Nat × LInfo)} {H : AHeap} {l room : Nat} {Rd : Nat → Prop} {It : Value → Prop} {S : List Value → (Nat → Prop) → AHeap → Prop} {L : List Value} {Dn : Nat → Prop} {sb pb p lo hi : Nat} {fv : Value} {D : Nat → Int}
    (hfl : LExt ls loops) (hg : Gen Tryz.prog l ls Rd room It S) (hS : S L Dn H) (hsb : sb < H.n) (hpb : pb < H.n) (hp : p < H.n) (dsb : ¬ Dn sb) (dpb : ¬ Dn pb) (dp : ¬ Dn p)
    (gsb : H.get sb = .row [.int .i64 lo, .int .i64 hi] 27) (gpb : H.get pb = .row [.pointer (some ⟨p, 0, none⟩)] 145) (gp : H.get p = .row (planCells fv D) 116) (h1 : lo ≤ hi) (h2 : hi < 60)
    (hit : ∀ i : Nat, i < 120 → lo ≤ i % 60 → i % 60 ≤ hi → D i ≠ -2 → It (.int .i64 i)) (hro : L.length + 2 * (hi + 1 - lo) ≤ room) :
    CallS Tryz.prog loops 140 [.func (.yield l) #[] #[], .pointer (some ⟨sb, 0, none⟩), .pointer (some ⟨pb, 0, none⟩)] H fun _ H' => ∃ D', S (L ++ openFrom D (hi + 1 - lo) lo 0) D' H' ∧ Step Dn H D' H' := by
  have HFL := Lib.hid hfl
  have HG := Lib.hid hg
  have HS := Lib.hid hS
  have HIT := Lib.hid hit
  have HRO := Lib.hid hro
  have GSB := Lib.hid gsb
  have GPB := Lib.hid gpb
  have GP := Lib.hid gp
  have DSB := Lib.hid dsb
  have DPB := Lib.hid dpb
  have DP := Lib.hid dp
  generalize hn : hi + 1 - lo = n
  have HN := Lib.hid hn
  generalize hitems : openFrom D n lo 0 = items
  have HITS := Lib.hid hitems
  clear hfl hg hS hit hro gsb gpb gp dsb dpb dp hitems hn
  refine CallS.enter' Tryz.func140 rfl Tryz.ntmps140 (by simp) fun f hd hf => ?_
  have f0 := hf 0
  have f1 := hf 1
  have f2 := hf 2
  simp at f0 f1 f2
  clear hf
  repeat' (first|(with_reducible first|refine zA ?_|refine zB fun K hK=>?_|refine zC fun K2 hK2=>?_|refine zD ?_|refine zE ?_|refine zF ?_|refine zG ?_|refine zH ?_|refine zI ?_|refine zM ?_|refine zN ?_|refine zO ?_|refine zP ?_|refine zQ ?_|refine zR ?_)|((with_reducible refine zU (hK _ _ ?_));clear hK K)|((with_reducible refine zV ?_ ?_ fun K1 K3 d hdst h1 h3=>?_);rfl;exact yB rfl;cases hdst;go_simp)|((with_reducible refine zW fun K1 K3 h1 h3=>?_);go_simp)|((first|refine h1 ?_|refine h3 ?_);clear h1 h3 K1 K3)|((first|refine zX (fun hb=>h1 ?_) (fun hb=>h3 ?_)|refine zX (fun hb=>h3 ?_) (fun hb=>h1 ?_))<;>(clear h1 h3 K1 K3;(try have hb2:=yC hb);(try have hb2:=yD hb);(try have hb2:=yE hb);(try have hb2:=yF hb);(try have hb2:=yG hb)))|(refine fun (K2:_→AHeap→Prop) hK2=>?_)|((with_reducible refine zY ?_ ?_);decide)|((with_reducible first|refine zZ ?_ (fun K hK=>?_)|refine yA ?_ (fun K hK=>?_));(focus go_simp;done);go_simp;refine hK _ _ ?_;clear hK K)|(go_simp;(try go_bits);refine hK2 _ _ ?_;clear hK2 K2))
  refine CodeS.loop (fun m f H' => ∃ (k : Nat) (D' : Nat → Prop) (L' : List Value), k ≤ 2 ∧ m = 2 - k ∧ f.tmp 6 = .int .i64 k ∧ f.tmp 0 = .func (.yield l) #[] #[] ∧ f.tmp 1 = .pointer (some ⟨sb, 0, none⟩) ∧ f.tmp 2 = .pointer (some ⟨pb, 0, none⟩) ∧ f.defers = [] ∧ Hid (S L' D' H') ∧ Hid (Step Dn H D' H') ∧ Hid (L' ++ openFrom D n lo k = L ++ items) ∧ Hid (L'.length ≤ L.length + k * n)) 2 ?_ ?_
  · exact ⟨0, Dn, L, by omega, rfl, (by first|go_simp<;>go_num|assumption), (by first|go_simp<;>go_num|assumption), (by first|go_simp<;>go_num|assumption), (by first|go_simp<;>go_num|assumption), (by first|go_simp<;>go_num|assumption), HS, Lib.hid (Step.refl _ _), Lib.hid (by rw [HITS.out]), Lib.hid (by simp)⟩
  clear f0 f1 f2 hd f HS
  rintro m f H' ⟨k, D', L', hk, rfl, f6, f0, f1, f2, hd, HS, HST, HL, HLN⟩
  have hc1 : cellAt H' sb 0 = some (.int .i64 lo) := by rw [cellAt_get ((HST.out.get sb hsb DSB.out))]; simp [cellAt, GSB.out]
  by_cases hlt : k < 2
  · have hlt' : (k : Int) < 2 := by omega
    repeat' (first|(with_reducible first|refine zA ?_|refine zB fun K hK=>?_|refine zC fun K2 hK2=>?_|refine zD ?_|refine zE ?_|refine zF ?_|refine zG ?_|refine zH ?_|refine zI ?_|refine zM ?_|refine zN ?_|refine zO ?_|refine zP ?_|refine zQ ?_|refine zR ?_)|((with_reducible refine zU (hK _ _ ?_));clear hK K)|((with_reducible refine zV ?_ ?_ fun K1 K3 d hdst h1 h3=>?_);rfl;exact yB rfl;cases hdst;go_simp)|((with_reducible refine zW fun K1 K3 h1 h3=>?_);go_simp)|((first|refine h1 ?_|refine h3 ?_);clear h1 h3 K1 K3)|((first|refine zX (fun hb=>h1 ?_) (fun hb=>h3 ?_)|refine zX (fun hb=>h3 ?_) (fun hb=>h1 ?_))<;>(clear h1 h3 K1 K3;(try have hb2:=yC hb);(try have hb2:=yD hb);(try have hb2:=yE hb);(try have hb2:=yF hb);(try have hb2:=yG hb)))|(refine fun (K2:_→AHeap→Prop) hK2=>?_)|((with_reducible refine zY ?_ ?_);decide)|((with_reducible first|refine zZ ?_ (fun K hK=>?_)|refine yA ?_ (fun K hK=>?_));(focus go_simp;done);go_simp;refine hK _ _ ?_;clear hK K)|(go_simp;(try go_bits);refine hK2 _ _ ?_;clear hK2 K2))
    refine CodeS.loop (fun m f H' => ∃ (r : Nat) (D' : Nat → Prop) (L' : List Value), r ≤ n ∧ m = r ∧ f.tmp 5 = .int .i64 ((k * 60 + lo + (n - r) : Nat) : Int) ∧ f.tmp 4 = .int .i64 k ∧ f.tmp 6 = .int .i64 k ∧ f.tmp 0 = .func (.yield l) #[] #[] ∧ f.tmp 1 = .pointer (some ⟨sb, 0, none⟩) ∧ f.tmp 2 = .pointer (some ⟨pb, 0, none⟩) ∧ f.defers = [] ∧ Hid (S L' D' H') ∧ Hid (Step Dn H D' H') ∧ Hid (L' ++ (openGo D r (k * 60 + lo + (n - r)) ++ openFrom D n lo (k + 1)) = L ++ items) ∧ Hid (L'.length ≤ L.length + k * n + (n - r))) n ?_ ?_
    · refine ⟨n, D', L', Nat.le_refl _, rfl, ?_, (by first|go_simp<;>go_num|assumption), (by first|go_simp<;>go_num|assumption), (by first|go_simp<;>go_num|assumption), (by first|go_simp<;>go_num|assumption), (by first|go_simp<;>go_num|assumption), (by first|go_simp<;>go_num|assumption), HS, HST, Lib.hid ?_, Lib.hid (by have := HLN.out; omega)⟩
      · rw [Nat.sub_self, Nat.add_zero]
        go_simp
      · rw [Nat.sub_self, Nat.add_zero, ← HL.out, ← openFrom_step _ _ _ _ hlt]
    clear f6 f0 f1 f2 hd f HS HST HL HLN hc1 D' L'
    rintro m f H' ⟨r, D', L', hr, hmr, f5, f4, f6, f0, f1, f2, hd, HS, HST, HL, HLN⟩
    have hc1 : cellAt H' sb 1 = some (.int .i64 hi) := by rw [cellAt_get ((HST.out.get sb hsb DSB.out))]; simp [cellAt, GSB.out]
    have hc2 : cellAt H' pb 0 = some (.pointer (some ⟨p, 0, none⟩)) := by rw [cellAt_get ((HST.out.get pb hpb DPB.out))]; simp [cellAt, GPB.out]
    have hn := HN.out
    rcases Nat.eq_zero_or_pos r with hr0 | hr0
    · generalize hi' : k * 60 + lo + (n - r) = i at f5 HL
      have hgt : ¬ (i : Int) ≤ (k : Int) * 60 + (hi : Int) := by omega
      clear hn hi'
      repeat' (first|(with_reducible first|refine zA ?_|refine zB fun K hK=>?_|refine zC fun K2 hK2=>?_|refine zD ?_|refine zE ?_|refine zF ?_|refine zG ?_|refine zH ?_|refine zI ?_|refine zM ?_|refine zN ?_|refine zO ?_|refine zP ?_|refine zQ ?_|refine zR ?_)|((with_reducible refine zU (hK _ _ ?_));clear hK K)|((with_reducible refine zV ?_ ?_ fun K1 K3 d hdst h1 h3=>?_);rfl;exact yB rfl;cases hdst;go_simp)|((with_reducible refine zW fun K1 K3 h1 h3=>?_);go_simp)|((first|refine h1 ?_|refine h3 ?_);clear h1 h3 K1 K3)|((first|refine zX (fun hb=>h1 ?_) (fun hb=>h3 ?_)|refine zX (fun hb=>h3 ?_) (fun hb=>h1 ?_))<;>(clear h1 h3 K1 K3;(try have hb2:=yC hb);(try have hb2:=yD hb);(try have hb2:=yE hb);(try have hb2:=yF hb);(try have hb2:=yG hb)))|(refine fun (K2:_→AHeap→Prop) hK2=>?_)|((with_reducible refine zY ?_ ?_);decide)|((with_reducible first|refine zZ ?_ (fun K hK=>?_)|refine yA ?_ (fun K hK=>?_));(focus go_simp;done);go_simp;refine hK _ _ ?_;clear hK K)|(go_simp;(try go_bits);refine hK2 _ _ ?_;clear hK2 K2))
      refine Post.round_normal ⟨2 - (k + 1), by omega, k + 1, D', L', by omega, rfl, ?_, (by first|go_simp<;>go_num|assumption), (by first|go_simp<;>go_num|assumption), (by first|go_simp<;>go_num|assumption), (by first|go_simp<;>go_num|assumption), HS, HST, Lib.hid ?_, Lib.hid ?_⟩
      · go_simp
      · rw [← HL.out, hr0]; rfl
      · have := HLN.out
        have h9 := HN.out
        rw [Nat.add_mul]; omega
    · have HE : Hid (openGo D r (k * 60 + lo + (n - r)) = if D (k * 60 + lo + (n - r)) = -2 then openGo D (r - 1) (k * 60 + lo + (n - (r - 1))) else .int .i64 ((k * 60 + lo + (n - r) : Nat) : Int) :: openGo D (r - 1) (k * 60 + lo + (n - (r - 1)))) := Lib.hid (by
        conv => lhs; rw [show r = (r - 1) + 1 by omega, openGo]
        rw [show k * 60 + lo + (n - (r - 1 + 1)) + 1 = k * 60 + lo + (n - (r - 1)) by omega, show n - (r - 1 + 1) = n - r by omega])
      have hit := HIT.out (k * 60 + lo + (n - r)) (by omega) (by omega) (by omega)
      have HNX : Hid (((k * 60 + lo + (n - (r - 1)) : Nat) : Int) = ((k * 60 + lo + (n - r) : Nat) : Int) + 1) := Lib.hid (by omega)
      have HI2 : ∃ i2, Hid (k * 60 + lo + (n - (r - 1)) = i2) := ⟨_, Lib.hid rfl⟩
      obtain ⟨i2, HI2⟩ := HI2
      rw [HI2.out] at HE HNX
      generalize hi' : k * 60 + lo + (n - r) = i at f5 HL HE hit HNX
      have hle : (i : Int) ≤ (k : Int) * 60 + (hi : Int) := by omega
      have hi1 : (i : Int) < 120 := by omega
      have hi2 : i < 120 := by omega
      have hcD : cellAt H' p (1 + i) = some (.int .i64 (D i)) := by rw [cellAt_get ((HST.out.get p hp DP.out))]; simp only [cellAt, GP.out]; exact planCells_get hi2
      have hroom : L'.length < room := by have := HLN.out; have h8 := HRO.out; have : k * n ≤ 1 * n := Nat.mul_le_mul_right _ (by omega); omega
      generalize D i = x at hcD HE hit
      clear hn hi'
      by_cases hx : x = -2
      · subst hx
        clear hit
        repeat' (first|(with_reducible first|refine zA ?_|refine zB fun K hK=>?_|refine zC fun K2 hK2=>?_|refine zD ?_|refine zE ?_|refine zF ?_|refine zG ?_|refine zH ?_|refine zI ?_|refine zM ?_|refine zN ?_|refine zO ?_|refine zP ?_|refine zQ ?_|refine zR ?_)|((with_reducible refine zU (hK _ _ ?_));clear hK K)|((with_reducible refine zV ?_ ?_ fun K1 K3 d hdst h1 h3=>?_);rfl;exact yB rfl;cases hdst;go_simp)|((with_reducible refine zW fun K1 K3 h1 h3=>?_);go_simp)|((first|refine h1 ?_|refine h3 ?_);clear h1 h3 K1 K3)|((first|refine zX (fun hb=>h1 ?_) (fun hb=>h3 ?_)|refine zX (fun hb=>h3 ?_) (fun hb=>h1 ?_))<;>(clear h1 h3 K1 K3;(try have hb2:=yC hb);(try have hb2:=yD hb);(try have hb2:=yE hb);(try have hb2:=yF hb);(try have hb2:=yG hb)))|(refine fun (K2:_→AHeap→Prop) hK2=>?_)|((with_reducible refine zY ?_ ?_);decide)|((with_reducible first|refine zZ ?_ (fun K hK=>?_)|refine yA ?_ (fun K hK=>?_));(focus go_simp;done);go_simp;refine hK _ _ ?_;clear hK K)|(go_simp;(try go_bits);refine hK2 _ _ ?_;clear hK2 K2))
        refine Post.round_normal ⟨r - 1, by omega, r - 1, D', L', by omega, rfl, ?_, (by first|go_simp<;>go_num|assumption), (by first|go_simp<;>go_num|assumption), (by first|go_simp<;>go_num|assumption), (by first|go_simp<;>go_num|assumption), (by first|go_simp<;>go_num|assumption), (by first|go_simp<;>go_num|assumption), HS, HST, Lib.hid ?_, Lib.hid ?_⟩
        · rw [HI2.out, HNX.out]
          go_simp
        · rw [← HL.out, HE.out, if_pos rfl, HI2.out]
        · have := HLN.out; omega
      · have HX := Lib.hid (hit hx)
        have HE2 : Hid (openGo D r i = .int .i64 (i : Int) :: openGo D (r - 1) i2) := Lib.hid (by rw [HE.out, if_neg hx])
        have hxb : (x != -2) = true := by simpa using hx
        clear hit HE hx
        repeat' (first|(with_reducible first|refine zA ?_|refine zB fun K hK=>?_|refine zC fun K2 hK2=>?_|refine zD ?_|refine zE ?_|refine zF ?_|refine zG ?_|refine zH ?_|refine zI ?_|refine zM ?_|refine zN ?_|refine zO ?_|refine zP ?_|refine zQ ?_|refine zR ?_)|((with_reducible refine zU (hK _ _ ?_));clear hK K)|((with_reducible refine zV ?_ ?_ fun K1 K3 d hdst h1 h3=>?_);rfl;exact yB rfl;cases hdst;go_simp)|((with_reducible refine zW fun K1 K3 h1 h3=>?_);go_simp)|((first|refine h1 ?_|refine h3 ?_);clear h1 h3 K1 K3)|((first|refine zX (fun hb=>h1 ?_) (fun hb=>h3 ?_)|refine zX (fun hb=>h3 ?_) (fun hb=>h1 ?_))<;>(clear h1 h3 K1 K3;(try have hb2:=yC hb);(try have hb2:=yD hb);(try have hb2:=yE hb);(try have hb2:=yF hb);(try have hb2:=yG hb)))|(refine fun (K2:_→AHeap→Prop) hK2=>?_)|((with_reducible refine zY ?_ ?_);decide)|((with_reducible first|refine zZ ?_ (fun K hK=>?_)|refine yA ?_ (fun K hK=>?_));(focus go_simp;done);go_simp;refine hK _ _ ?_;clear hK K)|(go_simp;(try go_bits);(try first | ((refine RoundS.mono (HG.out.round (v := .int .i64 (i : Int)) HFL.out hroom HX.out HS.out) ?_); rintro _ H3 ⟨rfl, D3, hS3, hst3⟩; (have HS3 := Lib.hid hS3); (have HST3 := Lib.hid hst3); clear hS3 hst3));refine hK2 _ _ ?_;clear hK2 K2))
        refine Post.round_normal ⟨r - 1, by omega, r - 1, D3, L' ++ [.int .i64 (i : Int)], by omega, rfl, ?_, (by first|go_simp<;>go_num|assumption), (by first|go_simp<;>go_num|assumption), (by first|go_simp<;>go_num|assumption), (by first|go_simp<;>go_num|assumption), (by first|go_simp<;>go_num|assumption), (by first|go_simp<;>go_num|assumption), HS3, Lib.hid (HST.out.trans HST3.out), Lib.hid ?_, Lib.hid ?_⟩
        · rw [HI2.out, HNX.out]
          go_simp
        · rw [← HL.out, HE2.out, HI2.out]; simp
        · have := HLN.out; simp; omega
  · have hlt' : ¬ (k : Int) < 2 := by omega
    repeat' (first|(with_reducible first|refine zA ?_|refine zB fun K hK=>?_|refine zC fun K2 hK2=>?_|refine zD ?_|refine zE ?_|refine zF ?_|refine zG ?_|refine zH ?_|refine zI ?_|refine zM ?_|refine zN ?_|refine zO ?_|refine zP ?_|refine zQ ?_|refine zR ?_)|((with_reducible refine zU (hK _ _ ?_));clear hK K)|((with_reducible refine zV ?_ ?_ fun K1 K3 d hdst h1 h3=>?_);rfl;exact yB rfl;cases hdst;go_simp)|((with_reducible refine zW fun K1 K3 h1 h3=>?_);go_simp)|((first|refine h1 ?_|refine h3 ?_);clear h1 h3 K1 K3)|((first|refine zX (fun hb=>h1 ?_) (fun hb=>h3 ?_)|refine zX (fun hb=>h3 ?_) (fun hb=>h1 ?_))<;>(clear h1 h3 K1 K3;(try have hb2:=yC hb);(try have hb2:=yD hb);(try have hb2:=yE hb);(try have hb2:=yF hb);(try have hb2:=yG hb)))|(refine fun (K2:_→AHeap→Prop) hK2=>?_)|((with_reducible refine zY ?_ ?_);decide)|((with_reducible first|refine zZ ?_ (fun K hK=>?_)|refine yA ?_ (fun K hK=>?_));(focus go_simp;done);go_simp;refine hK _ _ ?_;clear hK K)|(go_simp;(try go_bits);refine hK2 _ _ ?_;clear hK2 K2))
    refine ⟨D', ?_, HST.out⟩
    have h5 := HL.out
    rw [show k = 2 by omega] at h5
    rw [← h5]; simpa [openFrom] using HS.out

def openV (H : AHeap) : Value := .func (.func 140) #[] #[.pointer (some ⟨H.n + 1, 0, none⟩), .pointer (some ⟨H.n, 0, none⟩)]
theorem open_e {loops : List (Nat × LInfo)} {H : AHeap} {p : Nat} {lo hi : Int} : CallS Tryz.prog loops 72 [.pointer (some ⟨p, 0, none⟩), .agg #[.int .i64 lo, .int .i64 hi]] H fun v H' => v = openV H ∧ H' = (H.push (.row [.pointer (some ⟨p, 0, none⟩)] 145)).push (.row [.int .i64 lo, .int .i64 hi] 27) := by
  refine CallS.enter' Tryz.func72 rfl Tryz.ntmps72 (by simp) fun f hd hf => ?_
  have f0 := hf 0
  have f1 := hf 1
  simp at f0 f1
  clear hf
  repeat' (first|(with_reducible first|refine zA ?_|refine zB fun K hK=>?_|refine zC fun K2 hK2=>?_|refine zD ?_|refine zE ?_|refine zF ?_|refine zG ?_|refine zH ?_|refine zI ?_|refine zM ?_|refine zN ?_|refine zO ?_|refine zP ?_|refine zQ ?_|refine zR ?_)|((with_reducible refine zU (hK _ _ ?_));clear hK K)|((with_reducible refine zV ?_ ?_ fun K1 K3 d hdst h1 h3=>?_);rfl;exact yB rfl;cases hdst;go_simp)|((with_reducible refine zW fun K1 K3 h1 h3=>?_);go_simp)|((first|refine h1 ?_|refine h3 ?_);clear h1 h3 K1 K3)|((first|refine zX (fun hb=>h1 ?_) (fun hb=>h3 ?_)|refine zX (fun hb=>h3 ?_) (fun hb=>h1 ?_))<;>(clear h1 h3 K1 K3;(try have hb2:=yC hb);(try have hb2:=yD hb);(try have hb2:=yE hb);(try have hb2:=yF hb);(try have hb2:=yG hb)))|(refine fun (K2:_→AHeap→Prop) hK2=>?_)|((with_reducible refine zY ?_ ?_);decide)|((with_reducible first|refine zZ ?_ (fun K hK=>?_)|refine yA ?_ (fun K hK=>?_));(focus go_simp;done);go_simp;refine hK _ _ ?_;clear hK K)|(go_simp;(try go_bits);refine hK2 _ _ ?_;clear hK2 K2))
  exact ⟨rfl, rfl⟩

theorem openV_gives {H G : AHeap} {p lo hi : Nat} {fv : Value} {D : Nat → Int} {It : Value → Prop} (hG : G = (H.push (.row [.pointer (some ⟨p, 0, none⟩)] 145)).push (.row [.int .i64 lo, .int .i64 hi] 27)) (hp : p < H.n) (gp : H.get p = .row (planCells fv D) 116) (h1 : lo ≤ hi) (h2 : hi < 60)
    (hit : ∀ i : Nat, i < 120 → lo ≤ i % 60 → i % 60 ≤ hi → D i ≠ -2 → It (.int .i64 i)) : Gives Tryz.prog G (fun i => i = p ∨ i = H.n ∨ i = H.n + 1) (2 * (hi + 1 - lo)) (openV H) It (openFrom D (hi + 1 - lo) lo 0) := by
  have hn : G.n = H.n + 2 := by rw [hG, AHeap.n_push, AHeap.n_push]
  refine ⟨140, _, rfl, by kernel_rfl, ?_, fun loops ls H' l Rd room S L D' hf hg hS hn' hR hr => ?_⟩
  · rintro i (rfl | rfl | rfl) <;> omega
  · refine open_gives hf hg hS (p := p) (fv := fv) (by omega) (by omega) (by omega) (hR _ (.inr (.inr rfl))).2 (hR _ (.inr (.inl rfl))).2 (hR _ (.inl rfl)).2 ?_ ?_ ?_ h1 h2 hit hr
    · rw [(hR _ (.inr (.inr rfl))).1, hG, show H.n + 1 = (H.push (.row [.pointer (some ⟨p, 0, none⟩)] 145)).n from rfl, AHeap.get_push_new]
    · rw [(hR _ (.inr (.inl rfl))).1, hG, AHeap.get_push_old (by rw [AHeap.n_push]; omega), AHeap.get_push_new]
    · rw [(hR _ (.inl rfl)).1, hG, AHeap.get_push_old (by rw [AHeap.n_push]; omega), AHeap.get_push_old hp]; exact gp

def CntS (l c : Nat) (L : List Value) (D : Nat → Prop) (H : AHeap) : Prop := c < l ∧ l < H.n ∧ H.get l = .loop .ready none ∧ H.get c = .row [.int .i64 L.length] 3 ∧ ∀ i, D i ↔ i = l ∨ i = c

theorem room_e {loops : List (Nat × LInfo)} {H : AHeap} {p lo hi : Nat} {fv : Value} {D : Nat → Int} (hp : p < H.n) (gp : H.get p = .row (planCells fv D) 116) (h1 : lo ≤ hi) (h2 : hi < 60) :
    CallS Tryz.prog loops 145 [.pointer (some ⟨p, 0, none⟩), .agg #[.int .i64 lo, .int .i64 hi]] H fun v H' => v = .int .i64 ((openFrom D (hi + 1 - lo) lo 0).length : Nat) ∧ Ext H H' := by
  have hq := fun G hG => openV_gives (H := (H.push (.row [.int .i64 lo, .int .i64 hi] 27)).push (.row [.int .i64 0] 3)) (G := G) (p := p) (lo := lo) (hi := hi) (It := fun _ => True) hG (by simp only [AHeap.n_push]; omega) ((AHeap.get_push_old (by simp only [AHeap.n_push]; omega)).trans ((AHeap.get_push_old hp).trans gp)) h1 h2 (fun _ _ _ _ _ => trivial)
  have HQ := Lib.hid hq
  generalize openFrom D (hi + 1 - lo) lo 0 = items at HQ ⊢
  clear hq gp
  refine CallS.enter' Tryz.func145 rfl Tryz.ntmps145 (by simp) fun f hd hf => ?_
  have f0 := hf 0
  have f1 := hf 1
  simp at f0 f1
  clear hf
  repeat' (first|(with_reducible first|refine zA ?_|refine zB fun K hK=>?_|refine zC fun K2 hK2=>?_|refine zD ?_|refine zE ?_|refine zF ?_|refine zG ?_|refine zH ?_|refine zI ?_|refine zM ?_|refine zN ?_|refine zO ?_|refine zP ?_|refine zQ ?_|refine zR ?_)|((with_reducible refine zU (hK _ _ ?_));clear hK K)|((with_reducible refine zV ?_ ?_ fun K1 K3 d hdst h1 h3=>?_);rfl;exact yB rfl;cases hdst;go_simp)|((with_reducible refine zW fun K1 K3 h1 h3=>?_);go_simp)|((first|refine h1 ?_|refine h3 ?_);clear h1 h3 K1 K3)|((first|refine zX (fun hb=>h1 ?_) (fun hb=>h3 ?_)|refine zX (fun hb=>h3 ?_) (fun hb=>h1 ?_))<;>(clear h1 h3 K1 K3;(try have hb2:=yC hb);(try have hb2:=yD hb);(try have hb2:=yE hb);(try have hb2:=yF hb);(try have hb2:=yG hb)))|(refine fun (K2:_→AHeap→Prop) hK2=>?_)|((with_reducible refine zY ?_ ?_);decide)|((with_reducible first|refine zZ ?_ (fun K hK=>?_)|refine yA ?_ (fun K hK=>?_));(focus go_simp;done);go_simp;refine hK _ _ ?_;clear hK K)|(go_simp;(try go_bits);(try first | ((with_reducible show CallS _ _ _ _ _ _);refine CallS.mono open_e ?_; rintro _ _ ⟨rfl, rfl⟩));refine hK2 _ _ ?_;clear hK2 K2))
  have hv0 : openV ((H.push (.row [.int .i64 lo, .int .i64 hi] 27)).push (.row [.int .i64 0] 3)) = openV ((H.push (.row [.int .i64 lo, .int .i64 hi] 27)).push (.row [.int .i64 0] 3)) := rfl
  have hn2 : ((H.push (AObj.row [Value.int IntKind.i64 lo, Value.int IntKind.i64 hi] 27)).push (.row [.int .i64 0] 3)).n = H.n + 2 := by simp only [AHeap.n_push]
  generalize hG : (((H.push (AObj.row [Value.int IntKind.i64 lo, Value.int IntKind.i64 hi] 27)).push (.row [.int .i64 0] 3)).push (.row [.pointer (some ⟨p, 0, none⟩)] 145)).push (.row [.int .i64 lo, .int .i64 hi] 27) = G
  have hgn : G.n = H.n + 4 := by rw [← hG]; simp only [AHeap.n_push]
  have hgc : G.get (H.n + 1) = .row [.int .i64 0] 3 := by
    rw [← hG, AHeap.get_push_old (by simp only [AHeap.n_push]; omega), AHeap.get_push_old (by simp only [AHeap.n_push]; omega), show H.n + 1 = (H.push (AObj.row [Value.int IntKind.i64 lo, Value.int IntKind.i64 hi] 27)).n from rfl, AHeap.get_push_new]
  have hxg : Ext H G := by rw [← hG]; exact ((((Ext.refl _).push' _).push' _).push' _).push' _
  have hq := HQ.out G hG.symm
  rw [hn2] at hq
  have HXG := Lib.hid hxg
  clear hG hxg HQ
  refine CodeS.range_gives (ls := []) (H0 := G) (Rd := fun _ => False) (room := 120) (S := CntS (G.n + 1) (H.n + 1)) (D := fun i => i = G.n + 1 ∨ i = H.n + 1) rfl (LExt.nil _) hq (by go_simp) (Ext.refl _) (by omega) ?gen ?hS ?hRD ?hnd ?hend
  case hRD => rintro i (rfl | rfl | rfl) (h | h) <;> omega
  case hS =>
    refine ⟨by omega, by simp only [AHeap.n_push]; omega, ?_, ?_, fun i => Iff.rfl⟩
    · rw [show G.n + 1 = (G.push (AObj.defs false)).n from rfl, AHeap.get_push_new]
    · rw [AHeap.get_push_old (by simp only [AHeap.n_push]; omega), AHeap.get_push_old (by omega)]; exact hgc
  case hnd => rintro (h | h) <;> omega
  case hend =>
    rintro f2 D' H' ht hd2 ⟨h1, h2, h3, h4, h5⟩ hst hdf
    have t5 := ht 5
    simp [AF.tmp_upd] at t5
    have hd3 : f2.defers = [{ target := .collected G.n, args := #[] }] := by rw [hd2]; simp [AF.defers_upd, hd]
    obtain ⟨H2, hH2⟩ : ∃ H2, H2 = H'.upd (G.n + 1) (AObj.loop LoopState.exhausted none) := ⟨_, rfl⟩
    rw [← hH2]
    have hc2 : cellAt H2 (H.n + 1) 0 = some (.int .i64 (items.length : Nat)) := by
      rw [hH2, cellAt_get (AHeap.get_upd_ne (by omega))]
      simp [cellAt, h4]
    have hdf2 : H2.get G.n = .defs false := by
      rw [hH2, AHeap.get_upd_ne (by omega)]; exact hdf
    have HX2 : Hid (Ext H H2) := Lib.hid (by
      rw [hH2]
      refine (hst.ext ((HXG.out.push' _).push' _) ?_).upd (by omega) _
      rintro i (rfl | rfl) <;> omega)
    clear h1 h2 h3 h4 h5 hst hdf hd2 ht hH2 hd
    repeat' (first|(with_reducible first|refine zA ?_|refine zB fun K hK=>?_|refine zC fun K2 hK2=>?_|refine zD ?_|refine zE ?_|refine zF ?_|refine zG ?_|refine zH ?_|refine zI ?_|refine zM ?_|refine zN ?_|refine zO ?_|refine zP ?_|refine zQ ?_|refine zR ?_)|((with_reducible refine zU (hK _ _ ?_));clear hK K)|((with_reducible refine zV ?_ ?_ fun K1 K3 d hdst h1 h3=>?_);rfl;exact yB rfl;cases hdst;go_simp)|((with_reducible refine zW fun K1 K3 h1 h3=>?_);go_simp)|((first|refine h1 ?_|refine h3 ?_);clear h1 h3 K1 K3)|((first|refine zX (fun hb=>h1 ?_) (fun hb=>h3 ?_)|refine zX (fun hb=>h3 ?_) (fun hb=>h1 ?_))<;>(clear h1 h3 K1 K3;(try have hb2:=yC hb);(try have hb2:=yD hb);(try have hb2:=yE hb);(try have hb2:=yF hb);(try have hb2:=yG hb)))|(refine fun (K2:_→AHeap→Prop) hK2=>?_)|((with_reducible refine zY ?_ ?_);decide)|((with_reducible first|refine zZ ?_ (fun K hK=>?_)|refine yA ?_ (fun K hK=>?_));(focus go_simp;done);go_simp;refine hK _ _ ?_;clear hK K)|(go_simp;(try go_bits);refine hK2 _ _ ?_;clear hK2 K2))
    refine Post.body_mark (by go_simp) hdf2 fun K hK => ?_
    go_simp
    exact hK _ _ ⟨rfl, HX2.out.upd (by omega) _⟩
  case gen =>
    refine ⟨fun h => (h.2.2.2.2 _).2 (.inl rfl), ?_, fun _ h => h.elim, fun h => h.2.2.1, ?_, ?_, ?_⟩
    · rintro L D H' i ⟨h1, h2, h3, h4, h5⟩ hi
      rcases (h5 i).1 hi with rfl | rfl <;> omega
    · rintro L D H' l2 x2 ⟨h1, h2, h3, h4, h5⟩ hf2
      simp only [findLoop] at hf2
      split at hf2
      · rename_i he; subst he; exact h2
      · cases hf2
    · rintro L D H' H2 ⟨h1, h2, h3, h4, h5⟩ hn hk
      exact ⟨h1, Nat.lt_of_lt_of_le h2 hn, (hk _ (.inl ((h5 _).2 (.inl rfl)))).trans h3, (hk _ (.inl ((h5 _).2 (.inr rfl)))).trans h4, h5⟩
    rintro loops L D H' v hfl hroom - ⟨h1, h2, h3, h4, h5⟩
    have hfl := hfl _ _ findLoop_head
    refine RoundS.enter hfl rfl (by simp) h3 fun f' hd' hf' => ?_
    have g5 := hf' 5
    simp [paramsAt, AF.tmp_mk, AF.tmp_upd] at g5
    dsimp only
    have HDI := Lib.hid h5
    have HFL := Lib.hid hfl
    have H4 := Lib.hid h4
    have H3 := Lib.hid h3
    clear h5 hfl hf' h4 h3
    repeat' (first|(with_reducible first|refine zA ?_|refine zB fun K hK=>?_|refine zC fun K2 hK2=>?_|refine zD ?_|refine zE ?_|refine zF ?_|refine zG ?_|refine zH ?_|refine zI ?_|refine zM ?_|refine zN ?_|refine zO ?_|refine zP ?_|refine zQ ?_|refine zR ?_)|((with_reducible refine zU (hK _ _ ?_));clear hK K)|((with_reducible refine zV ?_ ?_ fun K1 K3 d hdst h1 h3=>?_);rfl;exact yB rfl;cases hdst;go_simp)|((with_reducible refine zW fun K1 K3 h1 h3=>?_);go_simp)|((first|refine h1 ?_|refine h3 ?_);clear h1 h3 K1 K3)|((first|refine zX (fun hb=>h1 ?_) (fun hb=>h3 ?_)|refine zX (fun hb=>h3 ?_) (fun hb=>h1 ?_))<;>(clear h1 h3 K1 K3;(try have hb2:=yC hb);(try have hb2:=yD hb);(try have hb2:=yE hb);(try have hb2:=yF hb);(try have hb2:=yG hb)))|(refine fun (K2:_→AHeap→Prop) hK2=>?_)|((with_reducible refine zY ?_ ?_);decide)|((with_reducible first|refine zZ ?_ (fun K hK=>?_)|refine yA ?_ (fun K hK=>?_));(focus go_simp;done);go_simp;refine hK _ _ ?_;clear hK K)|(go_simp;(try go_bits);refine hK2 _ _ ?_;clear hK2 K2))
    refine ⟨H3.out, ?_⟩
    obtain ⟨K3, hK3⟩ : ∃ K3, K3 = H'.upd (G.n + 1) (.loop .busy none) := ⟨_, rfl⟩
    rw [← hK3]
    have hk3 : K3.get (H.n + 1) = .row [.int .i64 (L.length : Nat)] 3 := by rw [hK3, AHeap.get_upd_ne (by omega)]; exact H4.out
    have hc3 : cellAt K3 (H.n + 1) 0 = some (.int .i64 (L.length : Nat)) := by simp [cellAt, hk3]
    have HK := Lib.hid hK3
    have hroom' : (L.length : Int) < 120 := by omega
    clear hK3
    repeat' (first|(with_reducible first|refine zA ?_|refine zB fun K hK=>?_|refine zC fun K2 hK2=>?_|refine zD ?_|refine zE ?_|refine zF ?_|refine zG ?_|refine zH ?_|refine zI ?_|refine zM ?_|refine zN ?_|refine zO ?_|refine zP ?_|refine zQ ?_|refine zR ?_)|((with_reducible refine zU (hK _ _ ?_));clear hK K)|((with_reducible refine zV ?_ ?_ fun K1 K3 d hdst h1 h3=>?_);rfl;exact yB rfl;cases hdst;go_simp)|((with_reducible refine zW fun K1 K3 h1 h3=>?_);go_simp)|((first|refine h1 ?_|refine h3 ?_);clear h1 h3 K1 K3)|((first|refine zX (fun hb=>h1 ?_) (fun hb=>h3 ?_)|refine zX (fun hb=>h3 ?_) (fun hb=>h1 ?_))<;>(clear h1 h3 K1 K3;(try have hb2:=yC hb);(try have hb2:=yD hb);(try have hb2:=yE hb);(try have hb2:=yF hb);(try have hb2:=yG hb)))|(refine fun (K2:_→AHeap→Prop) hK2=>?_)|((with_reducible refine zY ?_ ?_);decide)|((with_reducible first|refine zZ ?_ (fun K hK=>?_)|refine yA ?_ (fun K hK=>?_));(focus go_simp;done);go_simp;refine hK _ _ ?_;clear hK K)|(go_simp;(try go_bits);refine hK2 _ _ ?_;clear hK2 K2))
    refine ⟨⟨.busy, none, ?_⟩, rfl, fun i => i = G.n + 1 ∨ i = H.n + 1, ⟨h1, ?_, ?_, ?_, fun i => Iff.rfl⟩, ?_⟩
    · rw [AHeap.get_upd_ne (by omega), HK.out, AHeap.get_upd_same]
    · rw [AHeap.n_upd, AHeap.n_upd, HK.out, AHeap.n_upd]; exact h2
    · rw [AHeap.get_upd_same]
    · rw [AHeap.get_upd_ne (by omega), AHeap.get_upd_same]; simp
    · refine ⟨by rw [AHeap.n_upd, AHeap.n_upd, HK.out, AHeap.n_upd]; exact Nat.le_refl _, fun i hi hd => ?_, fun i hd => .inl ((HDI.out i).2 hd)⟩
      have h9 := fun h => hd ((HDI.out i).2 h)
      rw [AHeap.get_upd_ne (fun e => h9 (.inl e)), AHeap.get_upd_ne (fun e => h9 (.inr e)), HK.out, AHeap.get_upd_ne (fun e => h9 (.inl e))]

theorem room_s {loops : List (Nat × LInfo)} {H : AHeap} {p lo hi : Nat} {fv : Value} {D : Nat → Int} (hp : p < H.n) (gp : H.get p = .row (planCells fv D) 116) (h1 : lo ≤ hi) (h2 : hi < 60) :
    CallS Tryz.prog loops 145 [.pointer (some ⟨p, 0, none⟩), .agg #[.int .i64 lo, .int .i64 hi]] H fun v H' => v = .int .i64 ((openFrom D (hi + 1 - lo) lo 0).length : Nat) ∧ H' = H :=
  (room_e hp gp h1 h2).forget (R := fun v => v = .int .i64 ((openFrom D (hi + 1 - lo) lo 0).length : Nat)) (by rintro v rfl; rfl)
end Go.Proofs.Tryz
namespace Go.Proofs.Tryz
open Go Go.Am Go.RowKit
set_option maxRecDepth 100000


def nowhere : Flaw := ⟨0, 0, 0, 0⟩
def Tour.flawOf (t : Tour) (x : Int) : Flaw := t.flaws.getD (atOf t.flaws x) nowhere
def Tour.inSpan (t : Tour) (lo hi : Int) : List Int → Nat
  | [] => 0
  | x :: l => (if lies (t.flawOf x).lo (t.flawOf x).hi lo hi = true then 1 else 0) + t.inSpan lo hi l
def Tour.room (t : Tour) (lo hi : Int) : Nat := (openFrom (dayD t.days [t.closed]) (hi.toNat + 1 - lo.toNat) lo.toNat 0).length
def Tour.isJam (t : Tour) (ids : List Int) (lo hi : Int) : Bool := t.isSpan lo hi && decide (t.room lo hi < t.inSpan lo hi ids)

theorem atOf_lt {l : List Flaw} {x : Int} (h : x ∈ l.map (·.id)) : atOf l x < l.length := by
  unfold atOf
  apply List.findIdx_lt_length_of_exists
  obtain ⟨a, ha, rfl⟩ := List.mem_map.1 h
  exact ⟨a, ha, by simp⟩

structure JamAt (H : AHeap) (a b c p : Nat) (t : Tour) (ids : List Int) : Prop where
  alt : a < H.n
  blt : b < H.n
  clt : c < H.n
  plt : p < H.n
  tour : ∃ cv fv, H.get a = .row [.int .i64 t.days, cv, fv] 25 ∧ Ints H cv t.closed ∧ Flaws H fv t.flaws
  ids : ∃ lv, H.get b = .row [lv] 22 ∧ Ints H lv ids
  map : ∃ r, H.get c = .row [.map (some r)] 158 ∧ r < H.n ∧ MapIs H r (idxL t.flaws 0)
  plan : ∃ fv, H.get p = .row (planCells fv (dayD t.days [t.closed])) 116
theorem JamAt.ext {H H' : AHeap} {a b c p : Nat} {t : Tour} {ids : List Int} (h : JamAt H a b c p t ids) (hx : Ext H H') : JamAt H' a b c p t ids := by
  obtain ⟨h1, h2, h3, h4, ⟨cv, fv, h5, h6, h7⟩, ⟨lv, h8, h9⟩, ⟨r, h10, h11, h12⟩, ⟨gv, h13⟩⟩ := h
  have hn := hx.n
  exact ⟨by omega, by omega, by omega, by omega, ⟨cv, fv, (hx.get _ h1).trans h5, h6.ext hx, h7.ext hx⟩, ⟨lv, (hx.get _ h2).trans h8, h9.ext hx⟩, ⟨r, (hx.get _ h3).trans h10, by omega, h12.ext h11 hx⟩, ⟨gv, (hx.get _ h4).trans h13⟩⟩
def jamV (a b c p : Nat) : Value := .func (.func 143) #[] #[.pointer (some ⟨a, 0, none⟩), .pointer (some ⟨b, 0, none⟩), .pointer (some ⟨c, 0, none⟩), .pointer (some ⟨p, 0, none⟩)]

theorem listed_mem {t : Tour} {ids : List Int} (h : t.listed ids = true) {x : Int} (hx : x ∈ ids) : x ∈ t.flaws.map (·.id) := by
  simp only [Tour.listed, Bool.and_eq_true, List.all_eq_true] at h
  exact of_decide_eq_true (h.2 x hx)

set_option maxHeartbeats 4000000 in
theorem isJam_s {loops : List (Nat × LInfo)} {H : AHeap} {a b c p : Nat} {t : Tour} {ids : List Int} {lo hi : Int} (hj : JamAt H a b c p t ids) (hg : Good t) (hli : t.listed ids = true) :
    CallS Tryz.prog loops 143 [.agg #[.int .i64 lo, .int .i64 hi], .pointer (some ⟨a, 0, none⟩), .pointer (some ⟨b, 0, none⟩), .pointer (some ⟨c, 0, none⟩), .pointer (some ⟨p, 0, none⟩)] H fun r H' => r = .bool (t.isJam ids lo hi) ∧ H' = H := by
  refine CallS.forget (R := fun r => r = .bool (t.isJam ids lo hi)) (by rintro v rfl; rfl) ?_
  have HJ := Lib.hid hj
  have HG := Lib.hid hg
  have HLI := Lib.hid hli
  obtain ⟨alt, blt, clt, plt, ⟨cv, fv, h5, h6, h7⟩, ⟨lv, h8, h9⟩, ⟨r, h10, h11, h12⟩, ⟨gv, h13⟩⟩ := hj
  obtain ⟨hcl, ca, cc, rfl⟩ := h6.slice
  obtain ⟨hfl, fa, fc, rfl⟩ := h7.slice
  obtain ⟨hll, la, lc, rfl⟩ := h9.slice
  have HIN := Lib.hid h9
  have HF := Lib.hid h7
  have HM := Lib.hid h12
  have HP := Lib.hid h13
  have hca : cellsAt H a 0 3 = some [.int .i64 t.days, .slice ca t.closed.length cc, .slice fa t.flaws.length fc] := by simp [cellsAt, h5]
  have hca2 : cellAt H a 2 = some (.slice fa t.flaws.length fc) := by simp [cellAt, h5]
  have hcb : cellAt H b 0 = some (.slice la ids.length lc) := by simp [cellAt, h8]
  have hcc : cellAt H c 0 = some (.map (some r)) := by simp [cellAt, h10]
  have hsp := fun (loops : List (Nat × LInfo)) (H2 : AHeap) (hx : Ext H H2) => isSpan_s (loops := loops) (lo := lo) (hi := hi) (TourV.ext (H := H) (v := .agg #[.int .i64 t.days, .slice ca t.closed.length cc, .slice fa t.flaws.length fc]) (t := t) ⟨_, _, rfl, h6, h7⟩ hx) hg.days
  have HSP := Lib.hid hsp
  clear h5 h6 h7 h8 h9 h10 h12 h13 hsp hg hli
  by_cases hs : t.isSpan lo hi = true
  case' neg =>
    have hs0 : t.isSpan lo hi = false := by simpa using hs
    have HS := Lib.hid hs0
    clear hs hs0
    refine CallS.enter' Tryz.func143 rfl Tryz.ntmps143 (by simp) fun f hd hf => ?_
    have f0 := hf 0
    have f1 := hf 1
    simp at f0 f1
    clear hf
    repeat' (first|(with_reducible first|refine zA ?_|refine zB fun K hK=>?_|refine zC fun K2 hK2=>?_|refine zD ?_|refine zE ?_|refine zF ?_|refine zG ?_|refine zH ?_|refine zI ?_|refine zM ?_|refine zN ?_|refine zO ?_|refine zP ?_|refine zQ ?_|refine zR ?_)|((with_reducible refine zU (hK _ _ ?_));clear hK K)|((with_reducible refine zV ?_ ?_ fun K1 K3 d hdst h1 h3=>?_);rfl;exact yB rfl;cases hdst;go_simp)|((with_reducible refine zW fun K1 K3 h1 h3=>?_);go_simp)|((first|refine h1 ?_|refine h3 ?_);clear h1 h3 K1 K3)|((first|refine zX (fun hb=>h1 ?_) (fun hb=>h3 ?_)|refine zX (fun hb=>h3 ?_) (fun hb=>h1 ?_))<;>(clear h1 h3 K1 K3;(try have hb2:=yC hb);(try have hb2:=yD hb);(try have hb2:=yE hb);(try have hb2:=yF hb);(try have hb2:=yG hb)))|(refine fun (K2:_→AHeap→Prop) hK2=>?_)|((with_reducible refine zY ?_ ?_);decide)|((with_reducible first|refine zZ ?_ (fun K hK=>?_)|refine yA ?_ (fun K hK=>?_));(focus go_simp;done);go_simp;refine hK _ _ ?_;clear hK K)|(go_simp;(try go_bits);(try first | ((with_reducible show CallS _ _ _ _ _ _);refine CallS.mono (HSP.out _ _ ((Ext.refl _).push' _)) ?_; rw [HS.out]; rintro _ _ ⟨rfl, rfl⟩));refine hK2 _ _ ?_;clear hK2 K2))
    exact ⟨by rw [Tour.isJam, HS.out]; rfl, (Ext.refl _).push' _⟩
  have hday : 0 ≤ lo ∧ lo ≤ hi ∧ hi < 60 := by
    have h := hs
    have h9 := HG.out.days
    simp only [Tour.isSpan, Tour.isDay, Bool.and_eq_true, win_iff, decide_eq_true_eq] at h h9
    omega
  have HS := Lib.hid hs
  obtain ⟨lo, rfl⟩ := Int.eq_ofNat_of_zero_le hday.1
  obtain ⟨hi, rfl⟩ := Int.eq_ofNat_of_zero_le (Int.le_trans hday.1 hday.2.1)
  have h1 : lo ≤ hi := by omega
  have h2 : hi < 60 := by omega
  have HRM := Lib.hid (fun (loops : List (Nat × LInfo)) (H2 : AHeap) (hx : Ext H H2) => room_s (loops := loops) (H := H2) (Nat.lt_of_lt_of_le plt hx.n) ((hx.get _ plt).trans HP.out) h1 h2)
  have HRES : Hid (t.isJam ids lo hi = decide ((((openFrom (dayD t.days [t.closed]) (hi + 1 - lo) lo 0).length : Nat) : Int) < (t.inSpan lo hi ids : Nat))) := Lib.hid (by
    rw [Tour.isJam, HS.out, Tour.room]
    simp)
  generalize (openFrom (dayD t.days [t.closed]) (hi + 1 - lo) lo 0).length = rm at HRM HRES
  clear hs hday h1 h2
  refine CallS.enter' Tryz.func143 rfl Tryz.ntmps143 (by simp) fun f hd hf => ?_
  have f0 := hf 0
  have f1 := hf 1
  have f2 := hf 2
  have f3 := hf 3
  have f4 := hf 4
  simp at f0 f1 f2 f3 f4
  clear hf
  repeat' (first|(with_reducible first|refine zA ?_|refine zB fun K hK=>?_|refine zC fun K2 hK2=>?_|refine zD ?_|refine zE ?_|refine zF ?_|refine zG ?_|refine zH ?_|refine zI ?_|refine zM ?_|refine zN ?_|refine zO ?_|refine zP ?_|refine zQ ?_|refine zR ?_)|((with_reducible refine zU (hK _ _ ?_));clear hK K)|((with_reducible refine zV ?_ ?_ fun K1 K3 d hdst h1 h3=>?_);rfl;exact yB rfl;cases hdst;go_simp)|((with_reducible refine zW fun K1 K3 h1 h3=>?_);go_simp)|((first|refine h1 ?_|refine h3 ?_);clear h1 h3 K1 K3)|((first|refine zX (fun hb=>h1 ?_) (fun hb=>h3 ?_)|refine zX (fun hb=>h3 ?_) (fun hb=>h1 ?_))<;>(clear h1 h3 K1 K3;(try have hb2:=yC hb);(try have hb2:=yD hb);(try have hb2:=yE hb);(try have hb2:=yF hb);(try have hb2:=yG hb)))|(refine fun (K2:_→AHeap→Prop) hK2=>?_)|((with_reducible refine zY ?_ ?_);decide)|((with_reducible first|refine zZ ?_ (fun K hK=>?_)|refine yA ?_ (fun K hK=>?_));(focus go_simp;done);go_simp;refine hK _ _ ?_;clear hK K)|(go_simp;(try go_bits);(try first | ((with_reducible show CallS _ _ _ _ _ _);refine CallS.mono (HSP.out _ _ ((Ext.refl _).push' _)) ?_; rw [HS.out]; rintro _ _ ⟨rfl, rfl⟩));refine hK2 _ _ ?_;clear hK2 K2))
  refine CodeS.loop (fun m f H' => ∃ (k : Nat), k ≤ ids.length ∧ m = ids.length - k ∧ f.tmp 16 = .int .i64 k ∧ f.tmp 15 = .int .i64 ids.length ∧ f.tmp 14 = .slice la ids.length lc ∧ f.tmp 1 = .pointer (some ⟨a, 0, none⟩) ∧ f.tmp 3 = .pointer (some ⟨c, 0, none⟩) ∧ f.tmp 4 = .pointer (some ⟨p, 0, none⟩) ∧ f.tmp 5 = .pointer (some ⟨H.n, 0, none⟩) ∧ (∃ cnt : Nat, cnt ≤ k ∧ f.tmp 7 = .int .i64 cnt ∧ Hid (cnt + t.inSpan lo hi (ids.drop k) = t.inSpan lo hi ids)) ∧ f.defers = [] ∧ H' = H.push (.row [.int .i64 lo, .int .i64 hi] 27)) ids.length ?_ ?_
  · exact ⟨0, by simp, by simp, (by first|go_simp<;>go_num|assumption), (by first|go_simp<;>go_num|assumption), (by first|go_simp<;>go_num|assumption), (by first|go_simp<;>go_num|assumption), (by first|go_simp<;>go_num|assumption), (by first|go_simp<;>go_num|assumption), (by first|go_simp<;>go_num|assumption), ⟨0, Nat.le_refl _, (by first|go_simp<;>go_num|assumption), Lib.hid (by simp)⟩, (by first|go_simp<;>go_num|assumption), rfl⟩
  clear f0 f1 f2 f3 f4 hd f
  rintro m f H' ⟨k, hk, rfl, f16, f15, f14, f1, f3, f4, f5, ⟨cnt, hcnt, f7, HCN⟩, hd, rfl⟩
  have hn0 : H.n < (H.push (.row [.int .i64 (lo : Int), .int .i64 (hi : Int)] 27)).n := by rw [AHeap.n_push]; omega
  by_cases hlt : k < ids.length
  · obtain ⟨b', o, sp, rfl, hb, hx⟩ := (HIN.out.ext (Ext.push (.row [.int .i64 (lo : Int), .int .i64 (hi : Int)] 27))).at_ hlt
    have HD := Lib.hid (List.drop_eq_getElem_cons hlt)
    have hmem := listed_mem HLI.out (List.getElem_mem hlt)
    generalize ids[k] = x at hx HD hmem
    have hat := atOf_lt hmem
    obtain ⟨b2, o2, sp2, rfl, hb2, -, hcl4⟩ := (HF.out.ext (Ext.push (.row [.int .i64 (lo : Int), .int .i64 (hi : Int)] 27))).at_ hat
    have hx4 := Flaws.days_ hcl4
    clear hcl4
    have hfo : t.flawOf x = t.flaws[atOf t.flaws x] := by rw [Tour.flawOf, List.getD_eq_getElem?_getD, List.getElem?_eq_getElem hat]; rfl
    have HSTEP : Hid (t.inSpan lo hi (x :: ids.drop (k + 1)) = (if lies (t.flawOf x).lo (t.flawOf x).hi lo hi = true then 1 else 0) + t.inSpan lo hi (ids.drop (k + 1))) := Lib.hid rfl
    rw [hfo] at HSTEP
    have HLK := Lib.hid ((look_idx t.flaws 0 x).2 hmem)
    rw [Nat.zero_add] at HLK
    generalize t.flaws[atOf t.flaws x] = w at hx4 HSTEP
    generalize atOf t.flaws x = at' at hat hx4 HLK
    obtain ⟨i, wl, wh, me⟩ := w
    simp only at hx4
    clear hfo hmem
    repeat' (first|(with_reducible first|refine zA ?_|refine zB fun K hK=>?_|refine zC fun K2 hK2=>?_|refine zD ?_|refine zE ?_|refine zF ?_|refine zG ?_|refine zH ?_|refine zI ?_|refine zM ?_|refine zN ?_|refine zO ?_|refine zP ?_|refine zQ ?_|refine zR ?_)|((with_reducible refine zU (hK _ _ ?_));clear hK K)|((with_reducible refine zV ?_ ?_ fun K1 K3 d hdst h1 h3=>?_);rfl;exact yB rfl;cases hdst;go_simp)|((with_reducible refine zW fun K1 K3 h1 h3=>?_);go_simp)|((first|refine h1 ?_|refine h3 ?_);clear h1 h3 K1 K3)|((first|refine zX (fun hb=>h1 ?_) (fun hb=>h3 ?_)|refine zX (fun hb=>h3 ?_) (fun hb=>h1 ?_))<;>(clear h1 h3 K1 K3;(try have hb2:=yC hb);(try have hb2:=yD hb);(try have hb2:=yE hb);(try have hb2:=yF hb);(try have hb2:=yG hb)))|(refine fun (K2:_→AHeap→Prop) hK2=>?_)|((with_reducible refine zY ?_ ?_);decide)|((with_reducible first|refine zZ ?_ (fun K hK=>?_)|refine yA ?_ (fun K hK=>?_));(focus go_simp;done);go_simp;refine hK _ _ ?_;clear hK K)|((with_reducible refine yH mixed rfl ?_ 20 fun K0 hK0=>?_);kernel_rfl)|(with_reducible first|exact yI|exact yJ|refine yK ?_|refine yL ?_|refine yM ?_)|((with_reducible first|refine yN ?_ ?_|refine yO ?_ ?_|refine yP ?_ ?_);rfl)|((with_reducible refine yQ ?_ ?_);rfl;refine hK0 _ _ ?_;clear hK0 K0)|((with_reducible refine yR ?_ ?_ ?_ ?_);rfl;rfl;rfl)|((with_reducible refine yS ?_ ?_ ?_ fun K2 hK2=>?_);rfl;rfl;exact yB rfl)|((with_reducible refine yT ?_ ?_ ?_ ?_ fun K1 K3 d hdst h1 h3=>?_);rfl;rfl;rfl;exact yB rfl;cases hdst;go_simp)|((with_reducible refine yU ?_ ?_ ?_ ?_ fun K1 K3 d hdst h1 h3=>?_);rfl;rfl;rfl;exact yB rfl;cases hdst;go_simp)|((with_reducible refine yV ?_ ?_ (fun K2 hK2=>?_) ?_);rfl;exact yB rfl)|((with_reducible refine yW ?_ ?_ ?_ ?_ (fun K2 hK2=>?_) ?_);rfl;exact yB rfl;rfl;(focus go_simp;done))|((with_reducible refine yX ?_ ?_ ?_ (fun K2 hK2=>?_) ?_);rfl;rfl;exact yB rfl)|((with_reducible refine yY ?_ ?_ (fun K2 hK2=>?_) ?_);rfl;rfl)|((with_reducible refine yZ ?_ ?_);(first|rfl|(dsimp only;decide +kernel)))|((with_reducible refine xA ?_ ?_);(focus go_simp;done))|(go_simp;(try go_bits);(try first | ((with_reducible show CallS _ _ _ _ _ _);refine CallS.mono liesIn_s ?_; rintro _ _ ⟨rfl, rfl⟩) | ((rw [aLookup_map false ma158 un3 ze3 (HM.out.ext h11 (Ext.push _)), HLK.out]); go_simp));(first|(refine hK2 _ _ ?_ ?_<;>clear hK2 K2)|(refine hK2 _ _ ?_;clear hK2 K2))))
    · refine Post.round_normal ⟨ids.length - (k + 1), by omega, k + 1, by omega, rfl, (by first|go_simp<;>go_num|assumption), (by first|go_simp<;>go_num|assumption), (by first|go_simp<;>go_num|assumption), (by first|go_simp<;>go_num|assumption), (by first|go_simp<;>go_num|assumption), (by first|go_simp<;>go_num|assumption), (by first|go_simp<;>go_num|assumption), ⟨cnt + 1, by omega, (by first|go_simp<;>go_num|assumption), Lib.hid ?_⟩, (by first|go_simp<;>go_num|assumption), rfl⟩
      rw [← HCN.out, HD.out, HSTEP.out, if_pos hb]; omega
    · refine Post.round_normal ⟨ids.length - (k + 1), by omega, k + 1, by omega, rfl, (by first|go_simp<;>go_num|assumption), (by first|go_simp<;>go_num|assumption), (by first|go_simp<;>go_num|assumption), (by first|go_simp<;>go_num|assumption), (by first|go_simp<;>go_num|assumption), (by first|go_simp<;>go_num|assumption), (by first|go_simp<;>go_num|assumption), ⟨cnt, by omega, (by first|go_simp<;>go_num|assumption), Lib.hid ?_⟩, (by first|go_simp<;>go_num|assumption), rfl⟩
      rw [← HCN.out, HD.out, HSTEP.out, if_neg (by rw [hb]; exact Bool.false_ne_true)]; omega
  · have hcn : cnt = t.inSpan lo hi ids := by
      have h := HCN.out
      rw [List.drop_eq_nil_of_le (by omega)] at h
      simpa [Tour.inSpan] using h
    rw [← hcn] at HRES
    clear hcn HCN
    repeat' (first|(with_reducible first|refine zA ?_|refine zB fun K hK=>?_|refine zC fun K2 hK2=>?_|refine zD ?_|refine zE ?_|refine zF ?_|refine zG ?_|refine zH ?_|refine zI ?_|refine zM ?_|refine zN ?_|refine zO ?_|refine zP ?_|refine zQ ?_|refine zR ?_)|((with_reducible refine zU (hK _ _ ?_));clear hK K)|((with_reducible refine zV ?_ ?_ fun K1 K3 d hdst h1 h3=>?_);rfl;exact yB rfl;cases hdst;go_simp)|((with_reducible refine zW fun K1 K3 h1 h3=>?_);go_simp)|((first|refine h1 ?_|refine h3 ?_);clear h1 h3 K1 K3)|((first|refine zX (fun hb=>h1 ?_) (fun hb=>h3 ?_)|refine zX (fun hb=>h3 ?_) (fun hb=>h1 ?_))<;>(clear h1 h3 K1 K3;(try have hb2:=yC hb);(try have hb2:=yD hb);(try have hb2:=yE hb);(try have hb2:=yF hb);(try have hb2:=yG hb)))|(refine fun (K2:_→AHeap→Prop) hK2=>?_)|((with_reducible refine zY ?_ ?_);decide)|((with_reducible first|refine zZ ?_ (fun K hK=>?_)|refine yA ?_ (fun K hK=>?_));(focus go_simp;done);go_simp;refine hK _ _ ?_;clear hK K)|(go_simp;(try go_bits);(try first | ((with_reducible show CallS _ _ _ _ _ _);refine CallS.mono (HRM.out _ _ (Ext.push _)) ?_; rintro _ _ ⟨rfl, rfl⟩));refine hK2 _ _ ?_;clear hK2 K2))
    refine ⟨?_, Ext.push _⟩
    rw [HRES.out]
    simp
end Go.Proofs.Tryz
namespace Go.Proofs.Tryz
open Go Go.Am Go.RowKit
set_option maxRecDepth 100000


def openL (cl : List Int) : Nat → Nat → List Int
  | 0, _ => []
  | r + 1, i => if (i : Int) ∈ cl then openL cl r (i + 1) else (i : Int) :: openL cl r (i + 1)
theorem openL_len (cl : List Int) : ∀ r i, (openL cl r i).length ≤ r
  | 0, _ => Nat.le_refl _
  | r + 1, i => by
    have := openL_len cl r (i + 1)
    rw [openL]; split <;> simp <;> omega
theorem openGo_lo {days : Int} {cl : List Int} (hd : days ≤ 60) : ∀ (r i : Nat), ((i + r : Nat) : Int) ≤ days → openGo (dayD days [cl]) r i = (openL cl r i).map (Value.int .i64)
  | 0, _, _ => rfl
  | r + 1, i, h => by
    have hi : i < 60 := by omega
    have e1 : i / 60 = 0 := by omega
    have e2 : i % 60 = i := by omega
    have hD : dayD days [cl] i = if (i : Int) ∈ cl then -2 else -1 := by
      unfold dayD
      rw [e1, e2]
      by_cases hm : (i : Int) ∈ cl
      · rw [if_neg (by simp [hm]), if_pos hm]
      · rw [if_pos (by simp [hm]; omega), if_neg hm]
    rw [openGo, openL, hD, openGo_lo hd r (i + 1) (by omega)]
    by_cases hm : (i : Int) ∈ cl
    · simp [hm]
    · simp [hm]
theorem openGo_hi {days : Int} {cl : List Int} : ∀ (r i : Nat), 60 ≤ i → openGo (dayD days [cl]) r i = []
  | 0, _, _ => rfl
  | r + 1, i, h => by
    have hD : dayD days [cl] i = -2 := by
      unfold dayD
      rw [if_neg]
      intro h9
      have := h9.1
      simp at this
      omega
    rw [openGo, hD, if_pos rfl, openGo_hi r (i + 1) (by omega)]
theorem openFrom_lo {days : Int} {cl : List Int} {n lo : Nat} (hd : days ≤ 60) (h : ((lo + n : Nat) : Int) ≤ days) : openFrom (dayD days [cl]) n lo 0 = (openL cl n lo).map (Value.int .i64) := by
  rw [openFrom, openGo_lo hd n lo h, openGo_hi n (60 + lo) (by omega), List.append_nil]
theorem room_openL {t : Tour} (hd : t.days ≤ 60) {lo hi : Int} (h : t.isSpan lo hi = true) : t.room lo hi = (openL t.closed (hi.toNat + 1 - lo.toNat) lo.toNat).length := by
  rw [isSpan_eq] at h
  simp only [Bool.and_eq_true, decide_eq_true_eq] at h
  rw [Tour.room, openFrom_lo hd (by omega), List.length_map]

theorem rwithin_s {loops : List (Nat × LInfo)} {H : AHeap} {a b c d : Int} : CallS Tryz.prog loops 148 [.agg #[.int .i64 a, .int .i64 b], .agg #[.int .i64 c, .int .i64 d]] H fun r H' => r = .bool (lies a b c d) ∧ H' = H := by
  refine CallS.forget (R := fun r => r = .bool (lies a b c d)) (by rintro v rfl; rfl) ?_
  unfold lies
  refine CallS.enter' Tryz.func148 rfl Tryz.ntmps148 (by simp) fun f hd hf => ?_
  have f0 := hf 0
  have f1 := hf 1
  simp at f0 f1
  clear hf
  repeat' (first|(with_reducible first|refine zA ?_|refine zB fun K hK=>?_|refine zC fun K2 hK2=>?_|refine zD ?_|refine zE ?_|refine zF ?_|refine zG ?_|refine zH ?_|refine zI ?_|refine zM ?_|refine zN ?_|refine zO ?_|refine zP ?_|refine zQ ?_|refine zR ?_)|((with_reducible refine zU (hK _ _ ?_));clear hK K)|((with_reducible refine zV ?_ ?_ fun K1 K3 d hdst h1 h3=>?_);rfl;exact yB rfl;cases hdst;go_simp)|((with_reducible refine zW fun K1 K3 h1 h3=>?_);go_simp)|((first|refine h1 ?_|refine h3 ?_);clear h1 h3 K1 K3)|((first|refine zX (fun hb=>h1 ?_) (fun hb=>h3 ?_)|refine zX (fun hb=>h3 ?_) (fun hb=>h1 ?_))<;>(clear h1 h3 K1 K3;(try have hb2:=yC hb);(try have hb2:=yD hb);(try have hb2:=yE hb);(try have hb2:=yF hb);(try have hb2:=yG hb)))|(refine fun (K2:_→AHeap→Prop) hK2=>?_)|((with_reducible refine zY ?_ ?_);decide)|((with_reducible first|refine zZ ?_ (fun K hK=>?_)|refine yA ?_ (fun K hK=>?_));(focus go_simp;done);go_simp;refine hK _ _ ?_;clear hK K)|(go_simp;(try go_bits);refine hK2 _ _ ?_;clear hK2 K2))
  all_goals (refine ⟨?_, ((Ext.refl _).push' _).push' _⟩; simp_all <;> omega)

set_option maxHeartbeats 2000000 in
theorem rroom_s {loops : List (Nat × LInfo)} {H : AHeap} {v : Value} {t : Tour} {lo hi : Int} (hv : TourV H v t) (hd6 : t.days ≤ 60) (h : t.isSpan lo hi = true) : CallS Tryz.prog loops 149 [v, .agg #[.int .i64 lo, .int .i64 hi]] H fun r H' => r = .int .i64 (t.room lo hi : Nat) ∧ H' = H := by
  refine CallS.forget (R := fun r => r = .int .i64 (t.room lo hi : Nat)) (by rintro v rfl; rfl) ?_
  rw [room_openL hd6 h]
  rw [isSpan_eq] at h
  simp only [Bool.and_eq_true, decide_eq_true_eq] at h
  obtain ⟨h0, h1, h2⟩ := h
  obtain ⟨l, rfl⟩ : ∃ l : Nat, lo = l := ⟨lo.toNat, by omega⟩
  obtain ⟨u, rfl⟩ : ∃ u : Nat, hi = u := ⟨hi.toNat, by omega⟩
  simp only [Int.toNat_natCast]
  generalize hT : (openL t.closed (u + 1 - l) l).length = T
  have HT := Lib.hid hT
  have hu : u < 60 := by omega
  have hlu : l ≤ u := by omega
  obtain ⟨cv, fv, rfl, hc, hf⟩ := hv
  obtain ⟨hcl, ca, cc, rfl⟩ := hc.slice
  obtain ⟨hfl, fa, fc, rfl⟩ := hf.slice
  have HAS := Lib.hid (fun (loops : List (Nat × LInfo)) (H2 : AHeap) (x : Int) (hx : Ext H H2) => has_s (loops := loops) (x := x) (hc.ext hx))
  clear hc hf hT hd6 h2 h0 h1
  refine CallS.enter' Tryz.func149 rfl Tryz.ntmps149 (by simp) fun f hd hf => ?_
  have f0 := hf 0
  have f1 := hf 1
  simp at f0 f1
  clear hf
  repeat' (first|(with_reducible first|refine zA ?_|refine zB fun K hK=>?_|refine zC fun K2 hK2=>?_|refine zD ?_|refine zE ?_|refine zF ?_|refine zG ?_|refine zH ?_|refine zI ?_|refine zM ?_|refine zN ?_|refine zO ?_|refine zP ?_|refine zQ ?_|refine zR ?_)|((with_reducible refine zU (hK _ _ ?_));clear hK K)|((with_reducible refine zV ?_ ?_ fun K1 K3 d hdst h1 h3=>?_);rfl;exact yB rfl;cases hdst;go_simp)|((with_reducible refine zW fun K1 K3 h1 h3=>?_);go_simp)|((first|refine h1 ?_|refine h3 ?_);clear h1 h3 K1 K3)|((first|refine zX (fun hb=>h1 ?_) (fun hb=>h3 ?_)|refine zX (fun hb=>h3 ?_) (fun hb=>h1 ?_))<;>(clear h1 h3 K1 K3;(try have hb2:=yC hb);(try have hb2:=yD hb);(try have hb2:=yE hb);(try have hb2:=yF hb);(try have hb2:=yG hb)))|(refine fun (K2:_→AHeap→Prop) hK2=>?_)|((with_reducible refine zY ?_ ?_);decide)|((with_reducible first|refine zZ ?_ (fun K hK=>?_)|refine yA ?_ (fun K hK=>?_));(focus go_simp;done);go_simp;refine hK _ _ ?_;clear hK K)|(go_simp;(try go_bits);refine hK2 _ _ ?_;clear hK2 K2))
  have HXG : Hid (Ext H ((H.push (.row [.int .i64 t.days, .slice ca t.closed.length cc, .slice fa t.flaws.length fc] 25)).push (.row [.int .i64 l, .int .i64 u] 27))) := Lib.hid (((Ext.refl _).push' _).push' _)
  have hc1 : cellAt ((H.push (.row [.int .i64 t.days, .slice ca t.closed.length cc, .slice fa t.flaws.length fc] 25)).push (.row [.int .i64 l, .int .i64 u] 27)) H.n 1 = some (.slice ca t.closed.length cc) := by go_simp
  have hc2 : cellAt ((H.push (.row [.int .i64 t.days, .slice ca t.closed.length cc, .slice fa t.flaws.length fc] 25)).push (.row [.int .i64 l, .int .i64 u] 27)) (H.n + 1) 1 = some (.int .i64 u) := by go_simp
  have hn0 : H.n < ((H.push (.row [.int .i64 t.days, .slice ca t.closed.length cc, .slice fa t.flaws.length fc] 25)).push (.row [.int .i64 l, .int .i64 u] 27)).n := by simp only [AHeap.n_push]; omega
  generalize ((H.push (.row [.int .i64 t.days, .slice ca t.closed.length cc, .slice fa t.flaws.length fc] 25)).push (.row [.int .i64 l, .int .i64 u] 27)) = G at HXG hc1 hc2 hn0 ⊢
  refine CodeS.loop (fun m f H' => ∃ d c : Nat, l ≤ d ∧ d ≤ u + 1 ∧ m = u + 1 - d ∧ f.tmp 6 = .int .i64 d ∧ f.tmp 5 = .int .i64 c ∧ f.tmp 2 = .pointer (some ⟨H.n, 0, none⟩) ∧ f.tmp 3 = .pointer (some ⟨H.n + 1, 0, none⟩) ∧ f.defers = [] ∧ Hid (c + (openL t.closed (u + 1 - d) d).length = T) ∧ c ≤ 60 ∧ Hid (c ≤ d) ∧ H' = G) (u + 1 - l) ?_ ?_
  · exact ⟨l, 0, by omega, by omega, rfl, (by first|go_simp<;>go_num|assumption), (by first|go_simp<;>go_num|assumption), (by first|go_simp<;>go_num|assumption), (by first|go_simp<;>go_num|assumption), (by first|go_simp<;>go_num|assumption), Lib.hid (by rw [HT.out]; omega), by omega, Lib.hid (by omega), rfl⟩
  clear f0 f1 hd f HT
  rintro m f H' ⟨d, c, hd1, hd2, rfl, f6, f5, f2, f3, hd, HT, hc60, HCD, e9⟩
  have e9 := e9.symm
  subst e9
  by_cases hlt : d ≤ u
  · have hle : (d : Int) ≤ (u : Int) := by omega
    have HO : Hid (openL t.closed (u + 1 - d) d = if (d : Int) ∈ t.closed then openL t.closed (u + 1 - (d + 1)) (d + 1) else (d : Int) :: openL t.closed (u + 1 - (d + 1)) (d + 1)) := Lib.hid (by rw [show u + 1 - d = (u + 1 - (d + 1)) + 1 by omega, openL])
    have HM := Lib.hid (fun (loops : List (Nat × LInfo)) => HAS.out loops G d HXG.out)
    clear HAS
    by_cases hm : (d : Int) ∈ t.closed
    case' pos =>
      rw [decide_eq_true hm] at HM
      rw [if_pos hm] at HO
      clear hm
      repeat' (first|(with_reducible first|refine zA ?_|refine zB fun K hK=>?_|refine zC fun K2 hK2=>?_|refine zD ?_|refine zE ?_|refine zF ?_|refine zG ?_|refine zH ?_|refine zI ?_|refine zM ?_|refine zN ?_|refine zO ?_|refine zP ?_|refine zQ ?_|refine zR ?_)|((with_reducible refine zU (hK _ _ ?_));clear hK K)|((with_reducible refine zV ?_ ?_ fun K1 K3 d hdst h1 h3=>?_);rfl;exact yB rfl;cases hdst;go_simp)|((with_reducible refine zW fun K1 K3 h1 h3=>?_);go_simp)|((first|refine h1 ?_|refine h3 ?_);clear h1 h3 K1 K3)|((first|refine zX (fun hb=>h1 ?_) (fun hb=>h3 ?_)|refine zX (fun hb=>h3 ?_) (fun hb=>h1 ?_))<;>(clear h1 h3 K1 K3;(try have hb2:=yC hb);(try have hb2:=yD hb);(try have hb2:=yE hb);(try have hb2:=yF hb);(try have hb2:=yG hb)))|(refine fun (K2:_→AHeap→Prop) hK2=>?_)|((with_reducible refine zY ?_ ?_);decide)|((with_reducible first|refine zZ ?_ (fun K hK=>?_)|refine yA ?_ (fun K hK=>?_));(focus go_simp;done);go_simp;refine hK _ _ ?_;clear hK K)|(go_simp;(try go_bits);(try first | ((with_reducible show CallS _ _ _ _ _ _);refine CallS.mono (HM.out _) ?_; rintro _ _ ⟨rfl, rfl⟩));refine hK2 _ _ ?_;clear hK2 K2))
      refine Post.round_normal ⟨u + 1 - (d + 1), by omega, d + 1, c, by omega, by omega, rfl, (by first|go_simp<;>go_num|assumption), (by first|go_simp<;>go_num|assumption), (by first|go_simp<;>go_num|assumption), (by first|go_simp<;>go_num|assumption), (by first|go_simp<;>go_num|assumption), Lib.hid ?_, hc60, Lib.hid (Nat.le_succ_of_le HCD.out), rfl⟩
      rw [← HT.out, HO.out]
    rw [decide_eq_false hm] at HM
    rw [if_neg hm] at HO
    have hcd : c < 60 := Nat.lt_of_le_of_lt HCD.out (by omega)
    clear hm
    repeat' (first|(with_reducible first|refine zA ?_|refine zB fun K hK=>?_|refine zC fun K2 hK2=>?_|refine zD ?_|refine zE ?_|refine zF ?_|refine zG ?_|refine zH ?_|refine zI ?_|refine zM ?_|refine zN ?_|refine zO ?_|refine zP ?_|refine zQ ?_|refine zR ?_)|((with_reducible refine zU (hK _ _ ?_));clear hK K)|((with_reducible refine zV ?_ ?_ fun K1 K3 d hdst h1 h3=>?_);rfl;exact yB rfl;cases hdst;go_simp)|((with_reducible refine zW fun K1 K3 h1 h3=>?_);go_simp)|((first|refine h1 ?_|refine h3 ?_);clear h1 h3 K1 K3)|((first|refine zX (fun hb=>h1 ?_) (fun hb=>h3 ?_)|refine zX (fun hb=>h3 ?_) (fun hb=>h1 ?_))<;>(clear h1 h3 K1 K3;(try have hb2:=yC hb);(try have hb2:=yD hb);(try have hb2:=yE hb);(try have hb2:=yF hb);(try have hb2:=yG hb)))|(refine fun (K2:_→AHeap→Prop) hK2=>?_)|((with_reducible refine zY ?_ ?_);decide)|((with_reducible first|refine zZ ?_ (fun K hK=>?_)|refine yA ?_ (fun K hK=>?_));(focus go_simp;done);go_simp;refine hK _ _ ?_;clear hK K)|(go_simp;(try go_bits);(try first | ((with_reducible show CallS _ _ _ _ _ _);refine CallS.mono (HM.out _) ?_; rintro _ _ ⟨rfl, rfl⟩));refine hK2 _ _ ?_;clear hK2 K2))
    refine Post.round_normal ⟨u + 1 - (d + 1), by omega, d + 1, c + 1, by omega, by omega, rfl, (by first|go_simp<;>go_num|assumption), (by first|go_simp<;>go_num|assumption), (by first|go_simp<;>go_num|assumption), (by first|go_simp<;>go_num|assumption), (by first|go_simp<;>go_num|assumption), Lib.hid ?_, by omega, Lib.hid (Nat.succ_le_succ HCD.out), rfl⟩
    rw [← HT.out, HO.out, List.length_cons]; omega
  · have hle : ¬ (d : Int) ≤ (u : Int) := by omega
    have hT : c = T := by rw [← HT.out, show u + 1 - d = 0 by omega]; rfl
    repeat' (first|(with_reducible first|refine zA ?_|refine zB fun K hK=>?_|refine zC fun K2 hK2=>?_|refine zD ?_|refine zE ?_|refine zF ?_|refine zG ?_|refine zH ?_|refine zI ?_|refine zM ?_|refine zN ?_|refine zO ?_|refine zP ?_|refine zQ ?_|refine zR ?_)|((with_reducible refine zU (hK _ _ ?_));clear hK K)|((with_reducible refine zV ?_ ?_ fun K1 K3 d hdst h1 h3=>?_);rfl;exact yB rfl;cases hdst;go_simp)|((with_reducible refine zW fun K1 K3 h1 h3=>?_);go_simp)|((first|refine h1 ?_|refine h3 ?_);clear h1 h3 K1 K3)|((first|refine zX (fun hb=>h1 ?_) (fun hb=>h3 ?_)|refine zX (fun hb=>h3 ?_) (fun hb=>h1 ?_))<;>(clear h1 h3 K1 K3;(try have hb2:=yC hb);(try have hb2:=yD hb);(try have hb2:=yE hb);(try have hb2:=yF hb);(try have hb2:=yG hb)))|(refine fun (K2:_→AHeap→Prop) hK2=>?_)|((with_reducible refine zY ?_ ?_);decide)|((with_reducible first|refine zZ ?_ (fun K hK=>?_)|refine yA ?_ (fun K hK=>?_));(focus go_simp;done);go_simp;refine hK _ _ ?_;clear hK K)|(go_simp;(try go_bits);refine hK2 _ _ ?_;clear hK2 K2))
    exact ⟨by first | rfl | rw [hT], HXG.out⟩

theorem sameInts_s {loops : List (Nat × LInfo)} {H : AHeap} {av bv : Value} {a b : List Int} (ha : Ints H av a) (hb : Ints H bv b) : CallS Tryz.prog loops 22 [av, bv] H fun r H' => r = .bool (decide (a = b)) ∧ H' = H := by
  obtain ⟨hla, aa, ac, rfl⟩ := ha.slice
  obtain ⟨hlb, ba, bc, rfl⟩ := hb.slice
  have HA := Lib.hid ha
  have HB := Lib.hid hb
  clear ha hb
  by_cases hl : a.length = b.length
  case' neg =>
    have hlb : ((a.length : Int) != (b.length : Int)) = true := by simp; omega
    have hne : decide (a = b) = false := decide_eq_false fun e => hl (by rw [e])
    rw [hne]
    clear hl hne
    refine CallS.enter' Tryz.func22 rfl Tryz.ntmps22 (by simp) fun f hd hf => ?_
    have f0 := hf 0
    have f1 := hf 1
    simp at f0 f1
    clear hf
    repeat' (first|(with_reducible first|refine zA ?_|refine zB fun K hK=>?_|refine zC fun K2 hK2=>?_|refine zD ?_|refine zE ?_|refine zF ?_|refine zG ?_|refine zH ?_|refine zI ?_|refine zM ?_|refine zN ?_|refine zO ?_|refine zP ?_|refine zQ ?_|refine zR ?_)|((with_reducible refine zU (hK _ _ ?_));clear hK K)|((with_reducible refine zV ?_ ?_ fun K1 K3 d hdst h1 h3=>?_);rfl;exact yB rfl;cases hdst;go_simp)|((with_reducible refine zW fun K1 K3 h1 h3=>?_);go_simp)|((first|refine h1 ?_|refine h3 ?_);clear h1 h3 K1 K3)|((first|refine zX (fun hb=>h1 ?_) (fun hb=>h3 ?_)|refine zX (fun hb=>h3 ?_) (fun hb=>h1 ?_))<;>(clear h1 h3 K1 K3;(try have hb2:=yC hb);(try have hb2:=yD hb);(try have hb2:=yE hb);(try have hb2:=yF hb);(try have hb2:=yG hb)))|(refine fun (K2:_→AHeap→Prop) hK2=>?_)|((with_reducible refine zY ?_ ?_);decide)|((with_reducible first|refine zZ ?_ (fun K hK=>?_)|refine yA ?_ (fun K hK=>?_));(focus go_simp;done);go_simp;refine hK _ _ ?_;clear hK K)|(go_simp;(try go_bits);refine hK2 _ _ ?_;clear hK2 K2))
    exact ⟨rfl, rfl⟩
  have hlb : ((a.length : Int) != (b.length : Int)) = false := by simp; omega
  have HL := Lib.hid hl
  clear hl
  refine CallS.enter' Tryz.func22 rfl Tryz.ntmps22 (by simp) fun f hd hf => ?_
  have f0 := hf 0
  have f1 := hf 1
  simp at f0 f1
  clear hf
  repeat' (first|(with_reducible first|refine zA ?_|refine zB fun K hK=>?_|refine zC fun K2 hK2=>?_|refine zD ?_|refine zE ?_|refine zF ?_|refine zG ?_|refine zH ?_|refine zI ?_|refine zM ?_|refine zN ?_|refine zO ?_|refine zP ?_|refine zQ ?_|refine zR ?_)|((with_reducible refine zU (hK _ _ ?_));clear hK K)|((with_reducible refine zV ?_ ?_ fun K1 K3 d hdst h1 h3=>?_);rfl;exact yB rfl;cases hdst;go_simp)|((with_reducible refine zW fun K1 K3 h1 h3=>?_);go_simp)|((first|refine h1 ?_|refine h3 ?_);clear h1 h3 K1 K3)|((first|refine zX (fun hb=>h1 ?_) (fun hb=>h3 ?_)|refine zX (fun hb=>h3 ?_) (fun hb=>h1 ?_))<;>(clear h1 h3 K1 K3;(try have hb2:=yC hb);(try have hb2:=yD hb);(try have hb2:=yE hb);(try have hb2:=yF hb);(try have hb2:=yG hb)))|(refine fun (K2:_→AHeap→Prop) hK2=>?_)|((with_reducible refine zY ?_ ?_);decide)|((with_reducible first|refine zZ ?_ (fun K hK=>?_)|refine yA ?_ (fun K hK=>?_));(focus go_simp;done);go_simp;refine hK _ _ ?_;clear hK K)|(go_simp;(try go_bits);refine hK2 _ _ ?_;clear hK2 K2))
  refine CodeS.loop (fun m f H' => ∃ k : Nat, k ≤ a.length ∧ m = a.length - k ∧ f.tmp 5 = .int .i64 k ∧ f.tmp 0 = .slice aa a.length ac ∧ f.tmp 1 = .slice ba b.length bc ∧ f.defers = [] ∧ Hid (decide (a.drop k = b.drop k) = decide (a = b)) ∧ H' = H) a.length ?_ ?_
  · exact ⟨0, by simp, by simp, (by first|go_simp<;>go_num|assumption), (by first|go_simp<;>go_num|assumption), (by first|go_simp<;>go_num|assumption), (by first|go_simp<;>go_num|assumption), Lib.hid (by simp), rfl⟩
  clear f0 f1 hd f
  rintro m f H' ⟨k, hk, rfl, f5, f0, f1, hd, HG, e9⟩
  have e9 := e9.symm
  subst e9
  by_cases hlt : k < a.length
  · have hlt2 : k < b.length := by rw [← HL.out]; exact hlt
    obtain ⟨b1, o1, sp1, rfl, hb1, hx1⟩ := HA.out.at_ hlt
    obtain ⟨b2, o2, sp2, rfl, hb2, hx2⟩ := HB.out.at_ hlt2
    have HD1 := Lib.hid (List.drop_eq_getElem_cons hlt)
    have HD2 := Lib.hid (List.drop_eq_getElem_cons hlt2)
    generalize a[k] = x at hx1 HD1
    generalize b[k] = y at hx2 HD2
    by_cases hxy : x = y
    case' pos =>
      subst hxy
      repeat' (first|(with_reducible first|refine zA ?_|refine zB fun K hK=>?_|refine zC fun K2 hK2=>?_|refine zD ?_|refine zE ?_|refine zF ?_|refine zG ?_|refine zH ?_|refine zI ?_|refine zM ?_|refine zN ?_|refine zO ?_|refine zP ?_|refine zQ ?_|refine zR ?_)|((with_reducible refine zU (hK _ _ ?_));clear hK K)|((with_reducible refine zV ?_ ?_ fun K1 K3 d hdst h1 h3=>?_);rfl;exact yB rfl;cases hdst;go_simp)|((with_reducible refine zW fun K1 K3 h1 h3=>?_);go_simp)|((first|refine h1 ?_|refine h3 ?_);clear h1 h3 K1 K3)|((first|refine zX (fun hb=>h1 ?_) (fun hb=>h3 ?_)|refine zX (fun hb=>h3 ?_) (fun hb=>h1 ?_))<;>(clear h1 h3 K1 K3;(try have hb2:=yC hb);(try have hb2:=yD hb);(try have hb2:=yE hb);(try have hb2:=yF hb);(try have hb2:=yG hb)))|(refine fun (K2:_→AHeap→Prop) hK2=>?_)|((with_reducible refine zY ?_ ?_);decide)|((with_reducible first|refine zZ ?_ (fun K hK=>?_)|refine yA ?_ (fun K hK=>?_));(focus go_simp;done);go_simp;refine hK _ _ ?_;clear hK K)|((with_reducible refine yH mixed rfl ?_ 20 fun K0 hK0=>?_);kernel_rfl)|(with_reducible first|exact yI|exact yJ|refine yK ?_|refine yL ?_|refine yM ?_)|((with_reducible first|refine yN ?_ ?_|refine yO ?_ ?_|refine yP ?_ ?_);rfl)|((with_reducible refine yQ ?_ ?_);rfl;refine hK0 _ _ ?_;clear hK0 K0)|((with_reducible refine yR ?_ ?_ ?_ ?_);rfl;rfl;rfl)|((with_reducible refine yS ?_ ?_ ?_ fun K2 hK2=>?_);rfl;rfl;exact yB rfl)|((with_reducible refine yT ?_ ?_ ?_ ?_ fun K1 K3 d hdst h1 h3=>?_);rfl;rfl;rfl;exact yB rfl;cases hdst;go_simp)|((with_reducible refine yU ?_ ?_ ?_ ?_ fun K1 K3 d hdst h1 h3=>?_);rfl;rfl;rfl;exact yB rfl;cases hdst;go_simp)|((with_reducible refine yV ?_ ?_ (fun K2 hK2=>?_) ?_);rfl;exact yB rfl)|((with_reducible refine yW ?_ ?_ ?_ ?_ (fun K2 hK2=>?_) ?_);rfl;exact yB rfl;rfl;(focus go_simp;done))|((with_reducible refine yX ?_ ?_ ?_ (fun K2 hK2=>?_) ?_);rfl;rfl;exact yB rfl)|((with_reducible refine yY ?_ ?_ (fun K2 hK2=>?_) ?_);rfl;rfl)|((with_reducible refine yZ ?_ ?_);(first|rfl|(dsimp only;decide +kernel)))|((with_reducible refine xA ?_ ?_);(focus go_simp;done))|(go_simp;(try go_bits);(first|(refine hK2 _ _ ?_ ?_<;>clear hK2 K2)|(refine hK2 _ _ ?_;clear hK2 K2))))
      all_goals (refine Post.round_normal ⟨a.length - (k + 1), by omega, k + 1, by omega, rfl, (by first|go_simp<;>go_num|assumption), (by first|go_simp<;>go_num|assumption), (by first|go_simp<;>go_num|assumption), (by first|go_simp<;>go_num|assumption), Lib.hid ?_, rfl⟩; rw [← HG.out, HD1.out, HD2.out]; simp)
    have hxyb : (x != y) = true := by simpa using hxy
    have HNE : Hid (decide (a = b) = false) := Lib.hid (by rw [← HG.out, HD1.out, HD2.out]; simp [hxy])
    clear hxy
    repeat' (first|(with_reducible first|refine zA ?_|refine zB fun K hK=>?_|refine zC fun K2 hK2=>?_|refine zD ?_|refine zE ?_|refine zF ?_|refine zG ?_|refine zH ?_|refine zI ?_|refine zM ?_|refine zN ?_|refine zO ?_|refine zP ?_|refine zQ ?_|refine zR ?_)|((with_reducible refine zU (hK _ _ ?_));clear hK K)|((with_reducible refine zV ?_ ?_ fun K1 K3 d hdst h1 h3=>?_);rfl;exact yB rfl;cases hdst;go_simp)|((with_reducible refine zW fun K1 K3 h1 h3=>?_);go_simp)|((first|refine h1 ?_|refine h3 ?_);clear h1 h3 K1 K3)|((first|refine zX (fun hb=>h1 ?_) (fun hb=>h3 ?_)|refine zX (fun hb=>h3 ?_) (fun hb=>h1 ?_))<;>(clear h1 h3 K1 K3;(try have hb2:=yC hb);(try have hb2:=yD hb);(try have hb2:=yE hb);(try have hb2:=yF hb);(try have hb2:=yG hb)))|(refine fun (K2:_→AHeap→Prop) hK2=>?_)|((with_reducible refine zY ?_ ?_);decide)|((with_reducible first|refine zZ ?_ (fun K hK=>?_)|refine yA ?_ (fun K hK=>?_));(focus go_simp;done);go_simp;refine hK _ _ ?_;clear hK K)|((with_reducible refine yH mixed rfl ?_ 20 fun K0 hK0=>?_);kernel_rfl)|(with_reducible first|exact yI|exact yJ|refine yK ?_|refine yL ?_|refine yM ?_)|((with_reducible first|refine yN ?_ ?_|refine yO ?_ ?_|refine yP ?_ ?_);rfl)|((with_reducible refine yQ ?_ ?_);rfl;refine hK0 _ _ ?_;clear hK0 K0)|((with_reducible refine yR ?_ ?_ ?_ ?_);rfl;rfl;rfl)|((with_reducible refine yS ?_ ?_ ?_ fun K2 hK2=>?_);rfl;rfl;exact yB rfl)|((with_reducible refine yT ?_ ?_ ?_ ?_ fun K1 K3 d hdst h1 h3=>?_);rfl;rfl;rfl;exact yB rfl;cases hdst;go_simp)|((with_reducible refine yU ?_ ?_ ?_ ?_ fun K1 K3 d hdst h1 h3=>?_);rfl;rfl;rfl;exact yB rfl;cases hdst;go_simp)|((with_reducible refine yV ?_ ?_ (fun K2 hK2=>?_) ?_);rfl;exact yB rfl)|((with_reducible refine yW ?_ ?_ ?_ ?_ (fun K2 hK2=>?_) ?_);rfl;exact yB rfl;rfl;(focus go_simp;done))|((with_reducible refine yX ?_ ?_ ?_ (fun K2 hK2=>?_) ?_);rfl;rfl;exact yB rfl)|((with_reducible refine yY ?_ ?_ (fun K2 hK2=>?_) ?_);rfl;rfl)|((with_reducible refine yZ ?_ ?_);(first|rfl|(dsimp only;decide +kernel)))|((with_reducible refine xA ?_ ?_);(focus go_simp;done))|(go_simp;(try go_bits);(first|(refine hK2 _ _ ?_ ?_<;>clear hK2 K2)|(refine hK2 _ _ ?_;clear hK2 K2))))
    all_goals (exact ⟨by rw [HNE.out], rfl⟩)
  · have hT : decide (a = b) = true := by
      rw [← HG.out, List.drop_eq_nil_of_le (by omega), List.drop_eq_nil_of_le (by have := HL.out; omega)]; simp
    rw [hT]
    clear hT
    repeat' (first|(with_reducible first|refine zA ?_|refine zB fun K hK=>?_|refine zC fun K2 hK2=>?_|refine zD ?_|refine zE ?_|refine zF ?_|refine zG ?_|refine zH ?_|refine zI ?_|refine zM ?_|refine zN ?_|refine zO ?_|refine zP ?_|refine zQ ?_|refine zR ?_)|((with_reducible refine zU (hK _ _ ?_));clear hK K)|((with_reducible refine zV ?_ ?_ fun K1 K3 d hdst h1 h3=>?_);rfl;exact yB rfl;cases hdst;go_simp)|((with_reducible refine zW fun K1 K3 h1 h3=>?_);go_simp)|((first|refine h1 ?_|refine h3 ?_);clear h1 h3 K1 K3)|((first|refine zX (fun hb=>h1 ?_) (fun hb=>h3 ?_)|refine zX (fun hb=>h3 ?_) (fun hb=>h1 ?_))<;>(clear h1 h3 K1 K3;(try have hb2:=yC hb);(try have hb2:=yD hb);(try have hb2:=yE hb);(try have hb2:=yF hb);(try have hb2:=yG hb)))|(refine fun (K2:_→AHeap→Prop) hK2=>?_)|((with_reducible refine zY ?_ ?_);decide)|((with_reducible first|refine zZ ?_ (fun K hK=>?_)|refine yA ?_ (fun K hK=>?_));(focus go_simp;done);go_simp;refine hK _ _ ?_;clear hK K)|(go_simp;(try go_bits);refine hK2 _ _ ?_;clear hK2 K2))
    exact ⟨rfl, rfl⟩
end Go.Proofs.Tryz
namespace Go.Proofs.Tryz
open Go Go.Am Go.RowKit
set_option maxRecDepth 100000


def putOk (a : Flaw) (D : Nat → Int) (d : Int) : Bool := win a.lo a.hi d && (D d.toNat == -1)
def followL (fls : List Flaw) : List Int → Nat → (Nat → Int) → Nat × (Nat → Int)
  | [], i, D => (i, D)
  | d :: l, i, D => if d = -1 then followL fls l (i + 1) D else if putOk (fls.getD i ⟨0, 0, 0, 0⟩) D d = true then followL fls l (i + 1) (putD D d.toNat i) else (i, D)

theorem followL_le (fls : List Flaw) : ∀ (l : List Int) (i : Nat) (D : Nat → Int), i ≤ (followL fls l i D).1 ∧ (followL fls l i D).1 ≤ i + l.length
  | [], i, D => ⟨Nat.le_refl _, Nat.le_refl _⟩
  | d :: l, i, D => by
    rw [followL]
    split
    · have := followL_le fls l (i + 1) D; simp only [List.length_cons]; omega
    · split
      · have := followL_le fls l (i + 1) (putD D d.toNat i); simp only [List.length_cons]; omega
      · simp only [List.length_cons]; omega

theorem dayD_one {days : Int} {cl : List Int} {i : Nat} (h : i < 60) : dayD days [cl] i = if (i : Int) < days ∧ (i : Int) ∉ cl then -1 else -2 := by
  unfold dayD
  rw [show i / 60 = 0 by omega, show i % 60 = i by omega]
  simp

theorem incr_lt : ∀ (l : List Int), incr l = true → l.Pairwise (· < ·)
  | [], _ => .nil
  | [_], _ => List.pairwise_singleton ..
  | a :: b :: l, h => by
    simp only [incr, Bool.and_eq_true, decide_eq_true_eq] at h
    have h1 := incr_lt (b :: l) h.2
    refine List.pairwise_cons.2 ⟨fun x hx => ?_, h1⟩
    rcases List.mem_cons.1 hx with rfl | hx
    · exact h.1
    · exact Int.lt_trans h.1 ((List.pairwise_cons.1 h1).1 x hx)
end Go.Proofs.Tryz
