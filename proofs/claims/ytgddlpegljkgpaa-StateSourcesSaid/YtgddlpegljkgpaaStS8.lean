/- Contracts of functions, walked. -/
import Derived.Test.YtgddlpegljkgpaaStS2d
set_option linter.all false
namespace Go.Proofs.Try
open Go Go.Am Go.RowKit
set_option maxRecDepth 100000

/-! Spans of days on which a word can be copied, one after another. -/

def spanVal (x : Int × Int) : Value := .agg #[.int .i64 x.1, .int .i64 x.2]
@[go_sem] theorem spanVal_mk {a b : Int} : spanVal (a, b) = .agg #[.int .i64 a, .int .i64 b] := by rw [spanVal]
def spanIs (v : Value) : Prop := ∃ x, v = spanVal x ∧ -1 ≤ x.2 ∧ x.2 ≤ 730
def offS (l : List Str) (w : Int) : List (Int × Int) := (l.filter fun x => x.has.offers w).map fun x => (x.lo, x.hi)
theorem offS_app (l : List Str) (x : Str) (w : Int) : offS (l ++ [x]) w = offS l w ++ if x.has.offers w = true then [(x.lo, x.hi)] else [] := by
  unfold offS
  rw [List.filter_append, List.map_append]
  congr 1
  by_cases h : x.has.offers w = true <;> simp [h]
theorem offS_le (l : List Str) (w : Int) : (offS l w).length ≤ l.length := by
  unfold offS; rw [List.length_map]; exact List.length_filter_le ..

/-- The closure of those spans: its cells p, q and r, over a sheet that is there. -/
def CopyAt (Hb H : AHeap) (p q r : Nat) (v : Value) (s : Sheet) (line word : Int) : Prop := ∃ wv av, v = .func (.func 106) #[] #[.pointer (some ⟨p, 0, none⟩), .pointer (some ⟨q, 0, none⟩), .pointer (some ⟨r, 0, none⟩)] ∧ p < H.n ∧ q < H.n ∧ r < H.n ∧ H.get p = .row [wv, av] 25 ∧ H.get q = .row [.int .i64 line] 3 ∧ H.get r = .row [.int .i64 word] 3 ∧ Ints Hb wv s.words ∧ Alts Hb av s.alts ∧ Ext Hb H

theorem copyable_e {loops : List (Nat × LInfo)} {Hb H : AHeap} {sv : Value} {s : Sheet} {line word : Int} (hv : SheetV Hb sv s) (hx : Ext Hb H) : CallS Try.prog loops 64 [sv, .int .i64 line, .int .i64 word] H fun v H' => CopyAt Hb H' H.n (H.n + 1) (H.n + 2) v s line word ∧ Ext H H' := by
  obtain ⟨wv, av, rfl, hw, ha⟩ := hv
  obtain ⟨hwl, wa, wc, rfl⟩ := hw.slice
  obtain ⟨hal, aa, ac, rfl⟩ := ha.slice
  have HW := Lib.hid hw
  have HA := Lib.hid ha
  have HX := Lib.hid hx
  clear hw ha hx
  refine CallS.enter' Try.func64 rfl Try.ntmps64 (by simp) fun f hd hf => ?_
  have f0 := hf 0
  have f1 := hf 1
  have f2 := hf 2
  simp at f0 f1 f2
  clear hf
  repeat' (first | (with_reducible first | refine CodeS.seq ?_ | refine CodeS.region_k fun K hK => ?_ | refine opsP_go fun K2 hK2 => ?_ | refine Post.then_normal ?_ | refine Post.then_ret ?_ | refine Post.then_exit ?_ | refine Post.block_normal ?_ | refine Post.block_ret ?_ | refine Post.block_here ?_ | refine Post.scope_normal ?_ | refine Post.scope_ret ?_ | refine Post.scope_exit ?_ | refine Post.round_ret ?_ | refine Post.round_exit ?_ | refine CodeS.block ?_ | refine CodeS.skip ?_ | refine CodeS.ret ?_ | refine CodeS.exit ?_ | refine CodeS.scope ?_ | refine CodeS.label ?_) | ((with_reducible refine opsP_nil (hK _ _ ?_)); clear hK K) | ((with_reducible refine opsP_gd ?hj ?hlt fun K1 K3 d hdst h1 h3 => ?_); (case hj => rfl); (case hlt => exact Nat.le_of_ble_eq_true rfl); cases hdst; go_simp) | ((with_reducible refine CodeS.cond_k fun K1 K3 h1 h3 => ?_); go_simp) | (refine h1 ?_; clear h1 h3 K1 K3) | (refine h3 ?_; clear h1 h3 K1 K3) | ((refine Either.mk (fun hb => h1 ?_) (fun hb => h3 ?_)) <;> (clear h1 h3 K1 K3; (try have hb2 := of_decide hb); (try have hb2 := of_not_decide_lt hb); (try have hb2 := of_not_decide_le hb); (try have hb2 := of_not_decide_ltN hb); (try have hb2 := of_not_decide_leN hb))) | ((refine Either.mk (fun hb => h3 ?_) (fun hb => h1 ?_)) <;> (clear h1 h3 K1 K3; (try have hb2 := of_decide hb); (try have hb2 := of_not_decide_lt hb); (try have hb2 := of_not_decide_le hb); (try have hb2 := of_not_decide_ltN hb); (try have hb2 := of_not_decide_leN hb))) | (refine fun (K2 : _ → AHeap → Prop) hK2 => ?_) | ((with_reducible refine Post.block_off ?hn ?_); (case hn => decide)) | ((with_reducible first | refine Post.body_k ?hd (fun K hK => ?_) | refine Post.body_kn ?hd (fun K hK => ?_)); (case hd => (go_simp; done)); go_simp; refine hK _ _ ?_; clear hK K) | (go_simp; (try go_bits); refine hK2 _ _ ?_; clear hK2 K2))
  refine ⟨⟨_, _, rfl, by rw [AHeap.n_push, AHeap.n_push, AHeap.n_push]; omega, by rw [AHeap.n_push, AHeap.n_push, AHeap.n_push]; omega, by rw [AHeap.n_push, AHeap.n_push, AHeap.n_push]; omega, ?_, ?_, ?_, HW.out, HA.out, ((HX.out.push' _).push' _).push' _⟩, (((Ext.refl _).push' _).push' _).push' _⟩
  · rw [AHeap.get_push_old (by rw [AHeap.n_push, AHeap.n_push]; omega), AHeap.get_push_old (by rw [AHeap.n_push]; omega), AHeap.get_push_new]
  · rw [AHeap.get_push_old (by rw [AHeap.n_push, AHeap.n_push]; omega), ← AHeap.n_push H, AHeap.get_push_new]
  · rw [show H.n + 2 = ((H.push (AObj.row [Value.slice wa s.words.length wc, Value.slice aa s.alts.length ac] 25)).push (AObj.row [Value.int IntKind.i64 line] 3)).n from rfl, AHeap.get_push_new]

/-- What the loop over the stretches holds: what is held without, and its own loop l1; it reads the cells r and c. -/
def CopyS (S : List Value → (Nat → Prop) → AHeap → Prop) (Rd : Nat → Prop) (L0 : List Value) (l l1 r c : Nat) (word : Int) (L1 : List Value) (D1 : Nat → Prop) (H : AHeap) : Prop := ∃ (D0 : Nat → Prop) (ys : List Str), L1 = ys.map Str.val ∧ S (L0 ++ (offS ys word).map spanVal) D0 H ∧ H.get l1 = .loop .ready none ∧ l1 < H.n ∧ ¬ D0 l1 ∧ ¬ Rd l1 ∧ H.get r = .row [.int .i64 word] 3 ∧ r < H.n ∧ ¬ D0 r ∧ H.get c = .row [.func (.yield l) #[] #[]] 157 ∧ c < H.n ∧ ¬ D0 c ∧ ∀ i, D1 i ↔ i = l1 ∨ D0 i

theorem copyGives_e {loops ls : List (Nat × LInfo)} {H H0 : AHeap} {s : Sheet} {line word : Int} {l room : Nat} {Rd : Nat → Prop} {S : List Value → (Nat → Prop) → AHeap → Prop} {L : List Value} {D : Nat → Prop} {p q r : Nat} {wv av : Value}
    (hfl : LExt ls loops) (hg : Gen Try.prog l ls Rd room spanIs S) (hS : S L D H) (hp : p < H.n) (hq : q < H.n) (hr : r < H.n) (hgp : H.get p = .row [wv, av] 25) (hgq : H.get q = .row [.int .i64 line] 3) (hgr : H.get r = .row [.int .i64 word] 3) (hw : Ints H0 wv s.words) (ha : Alts H0 av s.alts) (hx : Ext H0 H) (hb : ∀ i, D i → H0.n ≤ i) (hrD : ¬ D r)
    (hl0 : 0 ≤ line) (hl1 : line < s.words.length) (hso : sorted 0 s.alts) (hro : L.length + (strs s line).length ≤ room) :
    CallS Try.prog loops 106 [.func (.yield l) #[] #[], .pointer (some ⟨p, 0, none⟩), .pointer (some ⟨q, 0, none⟩), .pointer (some ⟨r, 0, none⟩)] H fun _ H' => ∃ D', S (L ++ (offS (strs s line) word).map spanVal) D' H' ∧ Step D H D' H' := by
  have HV : Hid (SheetV H0 (.agg #[wv, av]) s) := Lib.hid ⟨wv, av, rfl, hw, ha⟩
  obtain ⟨hwl, wa, wc, rfl⟩ := hw.slice
  obtain ⟨hal, aa, ac, rfl⟩ := ha.slice
  have hcp : cellsAt H p 0 2 = some [.slice wa s.words.length wc, .slice aa s.alts.length ac] := by simp [cellsAt, hgp]
  have hcq : cellAt H q 0 = some (.int .i64 line) := by simp [cellAt, hgq]
  have HFL := Lib.hid hfl
  have HG := Lib.hid hg
  have HS := Lib.hid hS
  have HGR := Lib.hid hgr
  have HX := Lib.hid hx
  have HB := Lib.hid hb
  have HRD := Lib.hid hrD
  have HSO := Lib.hid hso
  have HRO := Lib.hid hro
  clear hfl hg hS hgp hgq hgr hw ha hx hb hrD hso hro
  refine CallS.enter' Try.func106 rfl Try.ntmps106 (by simp) fun f hd hf => ?_
  have f0 := hf 0
  have f1 := hf 1
  have f2 := hf 2
  have f3 := hf 3
  simp at f0 f1 f2 f3
  clear hf
  repeat' (first | (with_reducible first | refine CodeS.seq ?_ | refine CodeS.region_k fun K hK => ?_ | refine opsP_go fun K2 hK2 => ?_ | refine Post.then_normal ?_ | refine Post.then_ret ?_ | refine Post.then_exit ?_ | refine Post.block_normal ?_ | refine Post.block_ret ?_ | refine Post.block_here ?_ | refine Post.scope_normal ?_ | refine Post.scope_ret ?_ | refine Post.scope_exit ?_ | refine Post.round_ret ?_ | refine Post.round_exit ?_ | refine CodeS.block ?_ | refine CodeS.skip ?_ | refine CodeS.ret ?_ | refine CodeS.exit ?_ | refine CodeS.scope ?_ | refine CodeS.label ?_) | ((with_reducible refine opsP_nil (hK _ _ ?_)); clear hK K) | ((with_reducible refine opsP_gd ?hj ?hlt fun K1 K3 d hdst h1 h3 => ?_); (case hj => rfl); (case hlt => exact Nat.le_of_ble_eq_true rfl); cases hdst; go_simp) | ((with_reducible refine CodeS.cond_k fun K1 K3 h1 h3 => ?_); go_simp) | (refine h1 ?_; clear h1 h3 K1 K3) | (refine h3 ?_; clear h1 h3 K1 K3) | ((refine Either.mk (fun hb => h1 ?_) (fun hb => h3 ?_)) <;> (clear h1 h3 K1 K3; (try have hb2 := of_decide hb); (try have hb2 := of_not_decide_lt hb); (try have hb2 := of_not_decide_le hb); (try have hb2 := of_not_decide_ltN hb); (try have hb2 := of_not_decide_leN hb))) | ((refine Either.mk (fun hb => h3 ?_) (fun hb => h1 ?_)) <;> (clear h1 h3 K1 K3; (try have hb2 := of_decide hb); (try have hb2 := of_not_decide_lt hb); (try have hb2 := of_not_decide_le hb); (try have hb2 := of_not_decide_ltN hb); (try have hb2 := of_not_decide_leN hb))) | (refine fun (K2 : _ → AHeap → Prop) hK2 => ?_) | ((with_reducible refine Post.block_off ?hn ?_); (case hn => decide)) | ((with_reducible first | refine Post.body_k ?hd (fun K hK => ?_) | refine Post.body_kn ?hd (fun K hK => ?_)); (case hd => (go_simp; done)); go_simp; refine hK _ _ ?_; clear hK K) | (go_simp; (try go_bits); (try first | ((with_reducible show CallS _ _ _ _ _ _); refine CallS.mono (stretches_e (s := s) HV.out (HX.out.push' _)) ?_; rintro qv H2 ⟨hq2, hx2⟩; (have HQ := Lib.hid hq2); (have HX2 := Lib.hid hx2); clear hq2 hx2; go_simp)); refine hK2 _ _ ?_; clear hK2 K2))
  have hcn : H.n < H2.n := by have := HX2.out.n; rw [AHeap.n_push] at this; omega
  have hc2 : H2.get H.n = .row [.func (.yield l) #[] #[]] 157 := by rw [HX2.out.get H.n (by rw [AHeap.n_push]; omega), AHeap.get_push_new]
  have hX02 : Ext H H2 := (Ext.push _).trans HX2.out
  have HQG := Lib.hid (HQ.out.gives hl0 hl1 HSO.out)
  have HLN := Lib.hid fun l2 x2 hf2 => HG.out.old (l2 := l2) (x := x2) HS.out hf2
  have hll : l < H.n := HG.out.lt HS.out (HG.out.own HS.out)
  refine CodeS.range_gives (ls := ls) (H0 := H2) (Rd := fun i => Rd i ∨ i = r ∨ i = H.n) (room := (strs s line).length) (S := CopyS S Rd L l (H2.n + 1) r H.n word) (D := fun i => i = H2.n + 1 ∨ D i) rfl HFL.out HQG.out (by go_simp) (Ext.refl _) (Nat.le_refl _) ?gen ?hS ?hRD ?hnd ?hend
  case hnd =>
    rintro (h | h)
    · omega
    · have := HG.out.lt HS.out h; omega
  case hRD =>
    intro i hi hD
    have hq2 : (H.push (AObj.row [Value.func (Fn.yield l) #[] #[]] 157)).n + 1 < H2.n := by obtain ⟨_, _, _, _, h, _⟩ := HQ.out; exact h
    rw [AHeap.n_push] at hi hq2
    have hXn := HX.out.n
    rcases hD with rfl | hD
    · rcases hi with h | h | h <;> omega
    · have h3 := HG.out.lt HS.out hD
      have h4 := HB.out i hD
      rcases hi with h | h | h <;> omega
  case hS =>
    refine ⟨D, [], rfl, ?_, ?_, ?_, ?_, ?_, ?_, ?_, HRD.out, ?_, ?_, ?_, fun i => Iff.rfl⟩
    · simpa [offS] using HG.out.keepx HS.out ((hX02.push' _).push' _)
    · rw [show H2.n + 1 = (H2.push (AObj.defs false)).n from rfl, AHeap.get_push_new]
    · rw [AHeap.n_push, AHeap.n_push]; omega
    · exact HG.out.noD HS.out (by omega)
    · exact HG.out.noRd HS.out (by omega)
    · rw [AHeap.get_push_old (by rw [AHeap.n_push]; omega), AHeap.get_push_old (by omega), hX02.get r hr]; exact HGR.out
    · rw [AHeap.n_push, AHeap.n_push]; omega
    · rw [AHeap.get_push_old (by rw [AHeap.n_push]; omega), AHeap.get_push_old hcn]; exact hc2
    · rw [AHeap.n_push, AHeap.n_push]; omega
    · exact HG.out.noD HS.out (Nat.le_refl _)
  case hend =>
    rintro f2 D' H' ht hd2 ⟨D0, ys, h1, h2, h3, h4, h5, h6, h7, h8, h9, h10, h11, h12, h13⟩ hst hdf
    have hys : ys = strs s line := strs_inj _ _ h1
    subst hys
    have hd3 : f2.defers = [{ target := .collected H2.n, args := #[] }] := by rw [hd2]; simp [AF.defers_upd, hd]
    have hD0 : ∀ i, D0 i → D i ∨ H2.n + 2 ≤ i := by
      intro i hi
      rcases hst.new i ((h13 i).2 (.inr hi)) with (rfl | h) | h
      · exact absurd hi h5
      · exact .inl h
      · rw [AHeap.n_push, AHeap.n_push] at h; exact .inr (by omega)
    have hdn : ¬ D0 H2.n := fun h => (hD0 _ h).elim (fun h0 => by have := HG.out.lt HS.out h0; omega) (by omega)
    have hdf2 : (H'.upd (H2.n + 1) (.loop .exhausted none)).get H2.n = .defs false := by rw [AHeap.get_upd_ne (by omega)]; exact hdf
    refine Post.block_normal (Post.body_markn hd3 hdf2 fun K hK => ?_)
    go_simp
    refine hK _ _ ⟨D0, HG.out.upd (HG.out.upd h2 h5 h6 _) hdn (HG.out.noRd HS.out (by omega)) _, ⟨?_, fun i hi hD => ?_, fun i hi => ?_⟩⟩
    · rw [AHeap.n_upd, AHeap.n_upd]; have := hst.n; rw [AHeap.n_push, AHeap.n_push] at this; omega
    · rw [AHeap.get_upd_ne (by omega), AHeap.get_upd_ne (by omega), hst.get i (by rw [AHeap.n_push, AHeap.n_push]; omega) (fun h => h.elim (fun e => by omega) hD), AHeap.get_push_old (by rw [AHeap.n_push]; omega), AHeap.get_push_old (by omega)]
      exact hX02.get i hi
    · rcases hD0 i hi with h | h
      · exact .inl h
      · exact .inr (by omega)
  case gen =>
    refine ⟨?_, ?_, ?_, ?_, ?_, ?_, ?_⟩
    · rintro L1 D1 H' ⟨D0, ys, h1, h2, h3, h4, h5, h6, h7, h8, h9, h10, h11, h12, h13⟩
      exact (h13 _).2 (.inl rfl)
    · rintro L1 D1 H' i ⟨D0, ys, h1, h2, h3, h4, h5, h6, h7, h8, h9, h10, h11, h12, h13⟩ hi
      rcases (h13 i).1 hi with rfl | h
      · exact h4
      · exact HG.out.lt h2 h
    · rintro L1 D1 H' i ⟨D0, ys, h1, h2, h3, h4, h5, h6, h7, h8, h9, h10, h11, h12, h13⟩ hi
      rcases hi with h | rfl | rfl
      · exact HG.out.rd h2 h
      · exact h8
      · exact h11
    · rintro L1 D1 H' ⟨D0, ys, h1, h2, h3, h4, h5, h6, h7, h8, h9, h10, h11, h12, h13⟩
      exact h3
    · rintro L1 D1 H' l2 x2 ⟨D0, ys, h1, h2, h3, h4, h5, h6, h7, h8, h9, h10, h11, h12, h13⟩ hf2
      simp only [findLoop] at hf2
      split at hf2
      · rename_i he; subst he; exact h4
      · exact HG.out.old h2 hf2
    · rintro L1 D1 H' H3 ⟨D0, ys, h1, h2, h3, h4, h5, h6, h7, h8, h9, h10, h11, h12, h13⟩ hn hk
      exact ⟨D0, ys, h1, HG.out.keep h2 hn fun i hi => hk i (hi.elim (fun h => .inl ((h13 i).2 (.inr h))) fun h => .inr (.inl h)), (hk _ (.inl ((h13 _).2 (.inl rfl)))).trans h3, by omega, h5, h6, (hk _ (.inr (.inr (.inl rfl)))).trans h7, by omega, h9, (hk _ (.inr (.inr (.inr rfl)))).trans h10, by omega, h12, h13⟩
    rintro loops2 L1 D1 H' _ hle hroom ⟨x, rfl, hb1, hb2⟩ ⟨D0, ys, rfl, h2, h3, h4, h5, h6, h7, h8, h9, h10, h11, h12, h13⟩
    have hfl1 := hle _ _ findLoop_head
    have hle0 : LExt ls loops2 := hle.drop fun l2 x2 hf2 e => by have := HLN.out l2 x2 hf2; omega
    refine RoundS.enter hfl1 rfl (by simp) h3 fun f' hd' hf' => ?_
    have g9 := hf' 9
    have g3 := hf' 3
    have g4 := hf' 4
    simp [paramsAt, AF.tmp_mk, AF.tmp_upd, f3] at g9 g3 g4
    dsimp only
    have hlen2 : (L ++ (offS ys word).map spanVal).length < room := by
      have e1 := offS_le ys word
      have e2 := HRO.out
      simp only [List.length_append, List.length_map] at hroom ⊢
      omega
    have HLE := Lib.hid hle0
    have HLEN := Lib.hid hlen2
    have HDI := Lib.hid h13
    have HH2 := Lib.hid h2
    have HN1 := Lib.hid h5
    have HN2 := Lib.hid h6
    have HN9 := Lib.hid h9
    have HN12 := Lib.hid h12
    have HIB := Lib.hid (And.intro hb1 hb2)
    clear hb1 hb2
    obtain ⟨lo, hi, ct, cm, cl⟩ := x
    simp only [Str.val] at g9
    clear h13 hfl1 hf' hroom hle hle0 hlen2 h2 h5 h6 h9 h12
    repeat' (first | (with_reducible first | refine CodeS.seq ?_ | refine CodeS.region_k fun K hK => ?_ | refine opsP_go fun K2 hK2 => ?_ | refine Post.then_normal ?_ | refine Post.then_ret ?_ | refine Post.then_exit ?_ | refine Post.block_normal ?_ | refine Post.block_ret ?_ | refine Post.block_here ?_ | refine Post.scope_normal ?_ | refine Post.scope_ret ?_ | refine Post.scope_exit ?_ | refine Post.round_ret ?_ | refine Post.round_exit ?_ | refine CodeS.block ?_ | refine CodeS.skip ?_ | refine CodeS.ret ?_ | refine CodeS.exit ?_ | refine CodeS.scope ?_ | refine CodeS.label ?_) | ((with_reducible refine opsP_nil (hK _ _ ?_)); clear hK K) | ((with_reducible refine opsP_gd ?hj ?hlt fun K1 K3 d hdst h1 h3 => ?_); (case hj => rfl); (case hlt => exact Nat.le_of_ble_eq_true rfl); cases hdst; go_simp) | ((with_reducible refine CodeS.cond_k fun K1 K3 h1 h3 => ?_); go_simp) | (refine h1 ?_; clear h1 h3 K1 K3) | (refine h3 ?_; clear h1 h3 K1 K3) | ((refine Either.mk (fun hb => h1 ?_) (fun hb => h3 ?_)) <;> (clear h1 h3 K1 K3; (try have hb2 := of_decide hb); (try have hb2 := of_not_decide_lt hb); (try have hb2 := of_not_decide_le hb); (try have hb2 := of_not_decide_ltN hb); (try have hb2 := of_not_decide_leN hb))) | ((refine Either.mk (fun hb => h3 ?_) (fun hb => h1 ?_)) <;> (clear h1 h3 K1 K3; (try have hb2 := of_decide hb); (try have hb2 := of_not_decide_lt hb); (try have hb2 := of_not_decide_le hb); (try have hb2 := of_not_decide_ltN hb); (try have hb2 := of_not_decide_leN hb))) | (refine fun (K2 : _ → AHeap → Prop) hK2 => ?_) | ((with_reducible refine Post.block_off ?hn ?_); (case hn => decide)) | ((with_reducible first | refine Post.body_k ?hd (fun K hK => ?_) | refine Post.body_kn ?hd (fun K hK => ?_)); (case hd => (go_simp; done)); go_simp; refine hK _ _ ?_; clear hK K) | (go_simp; (try go_bits); refine hK2 _ _ ?_; clear hK2 K2))
    refine ⟨?_, ?_⟩
    · rw [AHeap.get_push_old h4]; exact h3
    obtain ⟨G, hG⟩ : ∃ G, G = (H'.push (AObj.row [Value.int IntKind.i64 lo, Value.int IntKind.i64 hi, Value.int IntKind.i64 ct, Value.int IntKind.i64 cm, Value.bool cl] 149)).upd (H2.n + 1) (.loop .busy none) := ⟨_, rfl⟩
    rw [← hG]
    have hGn : G.n = H'.n + 1 := by rw [hG, AHeap.n_upd, AHeap.n_push]
    have hGk : ∀ i, i < H'.n → i ≠ H2.n + 1 → G.get i = H'.get i := by
      intro i hi hne
      rw [hG, AHeap.get_upd_ne hne, AHeap.get_push_old hi]
    have hGl : G.get (H2.n + 1) = .loop .busy none := by rw [hG]; exact AHeap.get_upd_same
    have hGi : G.get H'.n = .row [Value.int IntKind.i64 lo, Value.int IntKind.i64 hi, Value.int IntKind.i64 ct, Value.int IntKind.i64 cm, Value.bool cl] 149 := by
      rw [hG, AHeap.get_upd_ne (by omega), AHeap.get_push_new]
    have hi1 : cellsAt G H'.n 2 3 = some [Value.int IntKind.i64 ct, Value.int IntKind.i64 cm, Value.bool cl] := by simp [cellsAt, hGi]
    have hi2 : cellsAt G H'.n 0 2 = some [Value.int IntKind.i64 lo, Value.int IntKind.i64 hi] := by simp [cellsAt, hGi]
    have hGr : G.get r = .row [.int .i64 word] 3 := by rw [hGk r h8 (by omega)]; exact h7
    have hGc : G.get H.n = .row [.func (.yield l) #[] #[]] 157 := by rw [hGk _ h11 (by omega)]; exact h10
    have hir : cellAt G r 0 = some (.int .i64 word) := by simp [cellAt, hGr]
    have hic : cellAt G H.n 0 = some (.func (.yield l) #[] #[]) := by simp [cellAt, hGc]
    have HSG : Hid (S (L ++ (offS ys word).map spanVal) D0 G) := Lib.hid (HG.out.keep HH2.out (by omega) fun i hi => hGk i (hi.elim (fun h => HG.out.lt HH2.out h) fun h => HG.out.rd HH2.out h) (fun e => hi.elim (fun h => HN1.out (e ▸ h)) fun h => HN2.out (e ▸ h)))
    have HGK := Lib.hid hGk
    have HGN := Lib.hid hGn
    have HGL := Lib.hid hGl
    have HGR2 := Lib.hid hGr
    have HGC2 := Lib.hid hGc
    have hlt3 : H'.n < G.n := by omega
    clear hGk hG hGl hGn hGi hGr hGc
    generalize hof : Has.offers ⟨ct, cm, cl⟩ word = ofb
    have HOF := Lib.hid hof
    have HOC := Lib.hid fun (loops : List (Nat × LInfo)) (H : AHeap) => offers_s (loops := loops) (H := H) (c := ⟨ct, cm, cl⟩) (w := word)
    rw [hof] at HOC
    clear hof
    repeat' (first | (with_reducible first | refine CodeS.seq ?_ | refine CodeS.region_k fun K hK => ?_ | refine opsP_go fun K2 hK2 => ?_ | refine Post.then_normal ?_ | refine Post.then_ret ?_ | refine Post.then_exit ?_ | refine Post.block_normal ?_ | refine Post.block_ret ?_ | refine Post.block_here ?_ | refine Post.scope_normal ?_ | refine Post.scope_ret ?_ | refine Post.scope_exit ?_ | refine Post.round_ret ?_ | refine Post.round_exit ?_ | refine CodeS.block ?_ | refine CodeS.skip ?_ | refine CodeS.ret ?_ | refine CodeS.exit ?_ | refine CodeS.scope ?_ | refine CodeS.label ?_) | ((with_reducible refine opsP_nil (hK _ _ ?_)); clear hK K) | ((with_reducible refine opsP_gd ?hj ?hlt fun K1 K3 d hdst h1 h3 => ?_); (case hj => rfl); (case hlt => exact Nat.le_of_ble_eq_true rfl); cases hdst; go_simp) | ((with_reducible refine CodeS.cond_k fun K1 K3 h1 h3 => ?_); go_simp) | (refine h1 ?_; clear h1 h3 K1 K3) | (refine h3 ?_; clear h1 h3 K1 K3) | ((refine Either.mk (fun hb => h1 ?_) (fun hb => h3 ?_)) <;> (clear h1 h3 K1 K3; (try have hb2 := of_decide hb); (try have hb2 := of_not_decide_lt hb); (try have hb2 := of_not_decide_le hb); (try have hb2 := of_not_decide_ltN hb); (try have hb2 := of_not_decide_leN hb))) | ((refine Either.mk (fun hb => h3 ?_) (fun hb => h1 ?_)) <;> (clear h1 h3 K1 K3; (try have hb2 := of_decide hb); (try have hb2 := of_not_decide_lt hb); (try have hb2 := of_not_decide_le hb); (try have hb2 := of_not_decide_ltN hb); (try have hb2 := of_not_decide_leN hb))) | (refine fun (K2 : _ → AHeap → Prop) hK2 => ?_) | ((with_reducible refine Post.block_off ?hn ?_); (case hn => decide)) | ((with_reducible first | refine Post.body_k ?hd (fun K hK => ?_) | refine Post.body_kn ?hd (fun K hK => ?_)); (case hd => (go_simp; done)); go_simp; refine hK _ _ ?_; clear hK K) | (go_simp; (try go_bits); (try first | ((with_reducible show CallS _ _ _ _ _ _); refine CallS.mono (HOC.out _ _) ?_; rintro _ _ ⟨rfl, rfl⟩; go_simp) | ((refine RoundS.mono (HG.out.round (v := spanVal (lo, hi)) HLE.out HLEN.out ⟨_, rfl, HIB.out⟩ HSG.out) ?_); rintro _ G2 ⟨rfl, D2, hS2, hst2⟩; (have HS2 := Lib.hid hS2); (have HST2 := Lib.hid hst2); clear hS2 hst2; go_simp)); refine hK2 _ _ ?_; clear hK2 K2))
    · have hD2 : ¬ D2 (H2.n + 1) := fun h => (HST2.out.new _ h).elim HN1.out (by omega)
      have hl2 : G2.get (H2.n + 1) = .loop .busy none := (HST2.out.get _ (by omega) HN1.out).trans HGL.out
      have hn2 := HST2.out.n
      refine ⟨⟨.busy, none, hl2⟩, rfl, fun i => i = H2.n + 1 ∨ D2 i, ⟨D2, ys ++ [⟨lo, hi, ⟨ct, cm, cl⟩⟩], by simp, ?_, AHeap.get_upd_same, by rw [AHeap.n_upd]; omega, hD2, HN2.out, ?_, by rw [AHeap.n_upd]; omega, ?_, ?_, by rw [AHeap.n_upd]; omega, ?_, fun i => Iff.rfl⟩, ?_⟩
      · rw [offS_app]
        simp only [HOF.out, hb, if_true, List.map_append, List.map_cons, List.map_nil, ← List.append_assoc]
        exact HG.out.upd HS2.out hD2 HN2.out _
      · rw [AHeap.get_upd_ne (by omega), HST2.out.get r (by omega) HN9.out]; exact HGR2.out
      · exact fun h => (HST2.out.new _ h).elim HN9.out (by omega)
      · rw [AHeap.get_upd_ne (by omega), HST2.out.get _ (by omega) HN12.out]; exact HGC2.out
      · exact fun h => (HST2.out.new _ h).elim HN12.out (by omega)
      · refine ⟨by rw [AHeap.n_upd]; omega, fun i hi hd => ?_, fun i hd => ?_⟩
        · have hd1 : i ≠ H2.n + 1 := fun e => hd ((HDI.out i).2 (.inl e))
          have hd2 : ¬ D0 i := fun e => hd ((HDI.out i).2 (.inr e))
          rw [AHeap.get_upd_ne hd1, HST2.out.get i (by omega) hd2]
          exact HGK.out i hi hd1
        · rcases hd with h | h
          · exact .inl ((HDI.out i).2 (.inl h))
          · rcases HST2.out.new i h with h | h
            · exact .inl ((HDI.out i).2 (.inr h))
            · exact .inr (by omega)
    · refine ⟨⟨.busy, none, HGL.out⟩, rfl, fun i => i = H2.n + 1 ∨ D0 i, ⟨D0, ys ++ [⟨lo, hi, ⟨ct, cm, cl⟩⟩], by simp, ?_, AHeap.get_upd_same, by rw [AHeap.n_upd]; omega, HN1.out, HN2.out, ?_, by rw [AHeap.n_upd]; omega, HN9.out, ?_, by rw [AHeap.n_upd]; omega, HN12.out, fun i => Iff.rfl⟩, ?_⟩
      · rw [offS_app]
        simp only [HOF.out, hb, Bool.false_eq_true, if_false, List.append_nil]
        exact HG.out.upd HSG.out HN1.out HN2.out _
      · rw [AHeap.get_upd_ne (by omega)]; exact HGR2.out
      · rw [AHeap.get_upd_ne (by omega)]; exact HGC2.out
      · refine ⟨by rw [AHeap.n_upd]; omega, fun i hi hd => ?_, fun i hd => ?_⟩
        · have hd1 : i ≠ H2.n + 1 := fun e => hd ((HDI.out i).2 (.inl e))
          rw [AHeap.get_upd_ne hd1]
          exact HGK.out i hi hd1
        · rcases hd with h | h
          · exact .inl ((HDI.out i).2 (.inl h))
          · exact .inl ((HDI.out i).2 (.inr h))

theorem CopyAt.gives {Hb H : AHeap} {p q r : Nat} {v : Value} {s : Sheet} {line word : Int} (h : CopyAt Hb H p q r v s line word) (hl0 : 0 ≤ line) (hl1 : line < s.words.length) (hso : sorted 0 s.alts) : Gives Try.prog H (fun i => i < Hb.n ∨ i = p ∨ i = q ∨ i = r) (strs s line).length v spanIs ((offS (strs s line) word).map spanVal) := by
  obtain ⟨wv, av, rfl, h2, h3, h3r, h4, h5, h5r, h6, h7, h8⟩ := h
  refine ⟨106, _, rfl, ok106, ?_, fun loops ls H' l Rd room S L D hf hg hS hn hR hr => ?_⟩
  · rintro i (h | rfl | rfl | rfl)
    · exact Nat.lt_of_lt_of_le h h8.n
    · exact h2
    · exact h3
    · exact h3r
  · refine copyGives_e (H0 := Hb) hf hg hS (Nat.lt_of_lt_of_le h2 hn) (Nat.lt_of_lt_of_le h3 hn) (Nat.lt_of_lt_of_le h3r hn) ((hR p (.inr (.inl rfl))).1.trans h4) ((hR q (.inr (.inr (.inl rfl)))).1.trans h5) ((hR r (.inr (.inr (.inr rfl)))).1.trans h5r) h6 h7 ⟨Nat.le_trans h8.n hn, fun i hi => (hR i (.inl hi)).1.trans (h8.get i hi)⟩ (fun i hi => ?_) (hR r (.inr (.inr (.inr rfl)))).2 hl0 hl1 hso hr
    rcases Nat.lt_or_ge i Hb.n with h0 | h0
    · exact absurd hi (hR i (.inl h0)).2
    · exact h0
end Go.Proofs.Try
