/- Contracts of functions, walked. -/
import Derived.Test.YtgddlpegljkgpaaStS3
import Derived.Test.YtgddlpegljkgpaaAwB
set_option linter.all false
namespace Go.Proofs.Try
open Go Go.Am Go.RowKit
set_option maxRecDepth 100000

/-! What a line has, one stretch after another. -/

/-- The closure of the stretches of a line: its cells p and q, over a sheet that is there. -/
def SeqAt (Hb H : AHeap) (p q : Nat) (v : Value) (s : Sheet) (line : Int) : Prop := ∃ wv av, v = .func (.func 122) #[] #[.pointer (some ⟨p, 0, none⟩), .pointer (some ⟨q, 0, none⟩)] ∧ p < H.n ∧ q < H.n ∧ H.get p = .row [wv, av] 25 ∧ H.get q = .row [.int .i64 line] 3 ∧ Ints Hb wv s.words ∧ Alts Hb av s.alts ∧ Ext Hb H
theorem SeqAt.ext {Hb H H' : AHeap} {p q : Nat} {v : Value} {s : Sheet} {line : Int} (h : SeqAt Hb H p q v s line) (hx : Ext H H') : SeqAt Hb H' p q v s line := by
  obtain ⟨wv, av, h1, h2, h3, h4, h5, h6, h7, h8⟩ := h
  exact ⟨wv, av, h1, Nat.lt_of_lt_of_le h2 hx.n, Nat.lt_of_lt_of_le h3 hx.n, (hx.get p h2).trans h4, (hx.get q h3).trans h5, h6, h7, h8.trans hx⟩

theorem stretches_e {loops : List (Nat × LInfo)} {Hb H : AHeap} {sv : Value} {s : Sheet} {line : Int} (hv : SheetV Hb sv s) (hx : Ext Hb H) : CallS Try.prog loops 101 [sv, .int .i64 line] H fun v H' => SeqAt Hb H' H.n (H.n + 1) v s line ∧ Ext H H' := by
  obtain ⟨wv, av, rfl, hw, ha⟩ := hv
  obtain ⟨hwl, wa, wc, rfl⟩ := hw.slice
  obtain ⟨hal, aa, ac, rfl⟩ := ha.slice
  have HW := Lib.hid hw
  have HA := Lib.hid ha
  have HX := Lib.hid hx
  clear hw ha hx
  refine CallS.enter' Try.func101 rfl Try.ntmps101 (by simp) fun f hd hf => ?_
  have f0 := hf 0
  have f1 := hf 1
  simp at f0 f1
  clear hf
  repeat' (first | (with_reducible first | refine CodeS.seq ?_ | refine CodeS.region_k fun K hK => ?_ | refine opsP_go fun K2 hK2 => ?_ | refine Post.then_normal ?_ | refine Post.then_ret ?_ | refine Post.then_exit ?_ | refine Post.block_normal ?_ | refine Post.block_ret ?_ | refine Post.block_here ?_ | refine Post.scope_normal ?_ | refine Post.scope_ret ?_ | refine Post.scope_exit ?_ | refine Post.round_ret ?_ | refine Post.round_exit ?_ | refine CodeS.block ?_ | refine CodeS.skip ?_ | refine CodeS.ret ?_ | refine CodeS.exit ?_ | refine CodeS.scope ?_ | refine CodeS.label ?_) | ((with_reducible refine opsP_nil (hK _ _ ?_)); clear hK K) | ((with_reducible refine opsP_gd ?hj ?hlt fun K1 K3 d hdst h1 h3 => ?_); (case hj => rfl); (case hlt => exact Nat.le_of_ble_eq_true rfl); cases hdst; go_simp) | ((with_reducible refine CodeS.cond_k fun K1 K3 h1 h3 => ?_); go_simp) | (refine h1 ?_; clear h1 h3 K1 K3) | (refine h3 ?_; clear h1 h3 K1 K3) | ((refine Either.mk (fun hb => h1 ?_) (fun hb => h3 ?_)) <;> (clear h1 h3 K1 K3; (try have hb2 := of_decide hb); (try have hb2 := of_not_decide_lt hb); (try have hb2 := of_not_decide_le hb); (try have hb2 := of_not_decide_ltN hb); (try have hb2 := of_not_decide_leN hb))) | ((refine Either.mk (fun hb => h3 ?_) (fun hb => h1 ?_)) <;> (clear h1 h3 K1 K3; (try have hb2 := of_decide hb); (try have hb2 := of_not_decide_lt hb); (try have hb2 := of_not_decide_le hb); (try have hb2 := of_not_decide_ltN hb); (try have hb2 := of_not_decide_leN hb))) | (refine fun (K2 : _ → AHeap → Prop) hK2 => ?_) | ((with_reducible refine Post.block_off ?hn ?_); (case hn => decide)) | ((with_reducible first | refine Post.body_k ?hd (fun K hK => ?_) | refine Post.body_kn ?hd (fun K hK => ?_)); (case hd => (go_simp; done)); go_simp; refine hK _ _ ?_; clear hK K) | (go_simp; (try go_bits); refine hK2 _ _ ?_; clear hK2 K2))
  refine ⟨⟨_, _, rfl, by rw [AHeap.n_push, AHeap.n_push]; omega, by rw [AHeap.n_push, AHeap.n_push]; omega, ?_, ?_, HW.out, HA.out, (HX.out.push' _).push' _⟩, ((Ext.refl _).push' _).push' _⟩
  · rw [AHeap.get_push_old (by rw [AHeap.n_push]; omega), AHeap.get_push_new]
  · rw [← AHeap.n_push H, AHeap.get_push_new]

@[go_sem] theorem Has.val_mk {a b : Int} {l : Bool} : Has.val ⟨a, b, l⟩ = .agg #[.int .i64 a, .int .i64 b, .bool l] := by rw [Has.val]
@[go_sem] theorem Str.val_mk {a b c d : Int} {l : Bool} : Str.val ⟨a, b, ⟨c, d, l⟩⟩ = .agg #[.int .i64 a, .int .i64 b, .int .i64 c, .int .i64 d, .bool l] := by rw [Str.val]
theorem sorted_mem : ∀ (l : List Alt) (b : Int), sorted b l → ∀ a, a ∈ l → b ≤ a.day ∧ a.day ≤ 730
  | x :: t, b, h, a, ha => by
    rcases List.mem_cons.1 ha with rfl | ha
    · exact ⟨h.1, h.2.1⟩
    · have := sorted_mem t x.day h.2.2 a ha
      exact ⟨Int.le_trans h.1 this.1, this.2⟩

theorem go_pos (line : Int) : ∀ (l : List Alt) (b : Int) (c : Has), 0 < (go line b c l).length
  | [], _, _ => by simp [go]
  | a :: t, b, c => by
    rw [go]
    split
    · exact go_pos line t b c
    · split
      · exact go_pos line t b c
      · split
        · simp
        · exact go_pos line t _ _
theorem go_le (line : Int) : ∀ (l : List Alt) (b : Int) (c : Has), (go line b c l).length ≤ l.length + 1
  | [], _, _ => by simp [go]
  | a :: t, b, c => by
    rw [go, List.length_cons]
    split
    · have := go_le line t b c; omega
    · split
      · have := go_le line t b c; omega
      · split
        · have := go_le line t a.day (c.after a); rw [List.length_cons]; omega
        · have := go_le line t a.day (c.after a); omega

def Str.isVal (v : Value) : Prop := ∃ x : Str, v = x.val ∧ -1 ≤ x.hi ∧ x.hi ≤ 730

set_option maxHeartbeats 2000000 in
theorem gives_e {loops ls : List (Nat × LInfo)} {H H0 : AHeap} {s : Sheet} {line : Int} {l room : Nat} {Rd : Nat → Prop} {S : List Value → (Nat → Prop) → AHeap → Prop} {L : List Value} {D : Nat → Prop} {p q : Nat} {wv av : Value}
    (hfl : LExt ls loops) (hg : Gen Try.prog l ls Rd room Str.isVal S) (hS : S L D H) (hp : p < H.n) (hq : q < H.n) (hgp : H.get p = .row [wv, av] 25) (hgq : H.get q = .row [.int .i64 line] 3) (hw : Ints H0 wv s.words) (ha : Alts H0 av s.alts) (hx : Ext H0 H) (hb : ∀ i, D i → H0.n ≤ i) (hqD : ¬ D q)
    (hl0 : 0 ≤ line) (hl1 : line < s.words.length) (hso : sorted 0 s.alts) (hro : L.length + ((go line 0 ⟨s.words[line.toNat]!, 0, false⟩ s.alts).map Str.val).length ≤ room) :
    CallS Try.prog loops 122 [.func (.yield l) #[] #[], .pointer (some ⟨p, 0, none⟩), .pointer (some ⟨q, 0, none⟩)] H fun _ H' => ∃ D', S (L ++ (go line 0 ⟨s.words[line.toNat]!, 0, false⟩ s.alts).map Str.val) D' H' ∧ Step D H D' H' := by
  obtain ⟨hwl, wa, wc, rfl⟩ := hw.slice
  obtain ⟨hal, aa, ac, rfl⟩ := ha.slice
  obtain ⟨ln, rfl⟩ := Int.eq_ofNat_of_zero_le hl0
  have hlt : ln < s.words.length := by omega
  obtain ⟨b, o, sp, rfl, hb1, hcw⟩ := (hw.ext hx).at_ hlt
  have e0 : s.words[(ln : Int).toNat]! = s.words[ln] := by simp [hlt]
  rw [e0] at hro ⊢
  have hcp0 : cellAt H p 0 = some (.slice (some ⟨b, o, sp⟩) s.words.length wc) := by simp [cellAt, hgp]
  have hcp1 : cellAt H p 1 = some (.slice aa s.alts.length ac) := by simp [cellAt, hgp]
  have hcq : cellAt H q 0 = some (.int .i64 ln) := by simp [cellAt, hgq]
  have HB := Lib.hid hb
  have HQD := Lib.hid hqD
  clear hb hqD
  have HFL := Lib.hid hfl
  have HG := Lib.hid hg
  have HS := Lib.hid hS
  have HGP := Lib.hid hgp
  have HGQ := Lib.hid hgq
  have HW := Lib.hid hw
  have HA := Lib.hid ha
  have HX := Lib.hid hx
  have HSO := Lib.hid hso
  generalize s.words[ln] = w0 at hcw hro ⊢
  generalize hitems : (go (ln : Int) 0 ⟨w0, 0, false⟩ s.alts).map Str.val = items at hro ⊢
  have HRO := Lib.hid hro
  have HIT := Lib.hid hitems
  clear hro hfl hg hS hgp hgq hw ha hx hso hitems e0 hl0
  refine CallS.enter' Try.func122 rfl Try.ntmps122 (by simp) fun f hd hf => ?_
  have f0 := hf 0
  have f1 := hf 1
  have f2 := hf 2
  simp at f0 f1 f2
  clear hf
  repeat' (first | (with_reducible first | refine CodeS.seq ?_ | refine CodeS.region_k fun K hK => ?_ | refine opsP_go fun K2 hK2 => ?_ | refine Post.then_normal ?_ | refine Post.then_ret ?_ | refine Post.then_exit ?_ | refine Post.block_normal ?_ | refine Post.block_ret ?_ | refine Post.block_here ?_ | refine Post.scope_normal ?_ | refine Post.scope_ret ?_ | refine Post.scope_exit ?_ | refine Post.round_ret ?_ | refine Post.round_exit ?_ | refine CodeS.block ?_ | refine CodeS.skip ?_ | refine CodeS.ret ?_ | refine CodeS.exit ?_ | refine CodeS.scope ?_ | refine CodeS.label ?_) | ((with_reducible refine opsP_nil (hK _ _ ?_)); clear hK K) | ((with_reducible refine opsP_gd ?hj ?hlt fun K1 K3 d hdst h1 h3 => ?_); (case hj => rfl); (case hlt => exact Nat.le_of_ble_eq_true rfl); cases hdst; go_simp) | ((with_reducible refine CodeS.cond_k fun K1 K3 h1 h3 => ?_); go_simp) | (refine h1 ?_; clear h1 h3 K1 K3) | (refine h3 ?_; clear h1 h3 K1 K3) | ((refine Either.mk (fun hb => h1 ?_) (fun hb => h3 ?_)) <;> (clear h1 h3 K1 K3; (try have hb2 := of_decide hb); (try have hb2 := of_not_decide_lt hb); (try have hb2 := of_not_decide_le hb); (try have hb2 := of_not_decide_ltN hb); (try have hb2 := of_not_decide_leN hb))) | ((refine Either.mk (fun hb => h3 ?_) (fun hb => h1 ?_)) <;> (clear h1 h3 K1 K3; (try have hb2 := of_decide hb); (try have hb2 := of_not_decide_lt hb); (try have hb2 := of_not_decide_le hb); (try have hb2 := of_not_decide_ltN hb); (try have hb2 := of_not_decide_leN hb))) | (refine fun (K2 : _ → AHeap → Prop) hK2 => ?_) | ((with_reducible refine Post.block_off ?hn ?_); (case hn => decide)) | ((with_reducible first | refine Post.body_k ?hd (fun K hK => ?_) | refine Post.body_kn ?hd (fun K hK => ?_)); (case hd => (go_simp; done)); go_simp; refine hK _ _ ?_; clear hK K) | (go_simp; (try go_bits); refine hK2 _ _ ?_; clear hK2 K2))
  repeat' (first | (with_reducible first | refine CodeS.seq ?_ | refine CodeS.region_k fun K hK => ?_ | refine opsP_go fun K2 hK2 => ?_ | refine Post.then_normal ?_ | refine Post.then_ret ?_ | refine Post.then_exit ?_ | refine Post.block_normal ?_ | refine Post.block_ret ?_ | refine Post.block_here ?_ | refine Post.scope_normal ?_ | refine Post.scope_ret ?_ | refine Post.scope_exit ?_ | refine Post.round_ret ?_ | refine Post.round_exit ?_ | refine CodeS.block ?_ | refine CodeS.skip ?_ | refine CodeS.ret ?_ | refine CodeS.exit ?_ | refine CodeS.scope ?_ | refine CodeS.label ?_) | ((with_reducible refine opsP_nil (hK _ _ ?_)); clear hK K) | ((with_reducible refine opsP_gd ?hj ?hlt fun K1 K3 d hdst h1 h3 => ?_); (case hj => rfl); (case hlt => exact Nat.le_of_ble_eq_true rfl); cases hdst; go_simp) | ((with_reducible refine CodeS.cond_k fun K1 K3 h1 h3 => ?_); go_simp) | (refine h1 ?_; clear h1 h3 K1 K3) | (refine h3 ?_; clear h1 h3 K1 K3) | ((refine Either.mk (fun hb => h1 ?_) (fun hb => h3 ?_)) <;> (clear h1 h3 K1 K3; (try have hb2 := of_decide hb); (try have hb2 := of_not_decide_lt hb); (try have hb2 := of_not_decide_le hb); (try have hb2 := of_not_decide_ltN hb); (try have hb2 := of_not_decide_leN hb))) | ((refine Either.mk (fun hb => h3 ?_) (fun hb => h1 ?_)) <;> (clear h1 h3 K1 K3; (try have hb2 := of_decide hb); (try have hb2 := of_not_decide_lt hb); (try have hb2 := of_not_decide_le hb); (try have hb2 := of_not_decide_ltN hb); (try have hb2 := of_not_decide_leN hb))) | (refine fun (K2 : _ → AHeap → Prop) hK2 => ?_) | ((with_reducible refine Post.block_off ?hn ?_); (case hn => decide)) | ((with_reducible first | refine Post.body_k ?hd (fun K hK => ?_) | refine Post.body_kn ?hd (fun K hK => ?_)); (case hd => (go_simp; done)); go_simp; refine hK _ _ ?_; clear hK K) | ((with_reducible refine CodeS.tree_lit mixed rfl ?hok 20 fun K0 hK0 => ?_); (case hok => kernel_rfl)) | (with_reducible first | exact loudsP_nil | exact stableP_nil | refine treeP_lit ?_ | refine passP_nil ?_ | refine stableP_keep ?_) | ((with_reducible first | refine passP_skip ?h1 ?_ | refine loudsP_skip ?h1 ?_ | refine stepT_more ?h1 ?_); (case h1 => rfl)) | ((with_reducible refine stepT_done ?h1 ?_); (case h1 => rfl); refine hK0 _ _ ?_; clear hK0 K0) | ((with_reducible refine passP_loud ?h1 ?hg ?hl ?_); (case h1 => rfl); (case hg => rfl); (case hl => rfl)) | ((with_reducible refine passP_q ?h1 ?hl ?hlt fun K2 hK2 => ?_); (case h1 => rfl); (case hl => rfl); (case hlt => exact Nat.le_of_ble_eq_true rfl)) | ((with_reducible refine passP_g ?h1 ?hj ?hl ?hlt fun K1 K3 d hdst h1 h3 => ?_); (case h1 => rfl); (case hj => rfl); (case hl => rfl); (case hlt => exact Nat.le_of_ble_eq_true rfl); cases hdst; go_simp) | ((with_reducible refine passP_lg ?h1 ?hj ?hl ?hlt fun K1 K3 d hdst h1 h3 => ?_); (case h1 => rfl); (case hj => rfl); (case hl => rfl); (case hlt => exact Nat.le_of_ble_eq_true rfl); cases hdst; go_simp) | ((with_reducible refine loudsP_c ?h1 ?hlt (fun K2 hK2 => ?_) ?_); (case h1 => rfl); (case hlt => exact Nat.le_of_ble_eq_true rfl)) | ((with_reducible refine loudsP_cg ?h1 ?hlt ?hj ?hw (fun K2 hK2 => ?_) ?_); (case h1 => rfl); (case hlt => exact Nat.le_of_ble_eq_true rfl); (case hj => rfl); (case hw => (go_simp; done))) | ((with_reducible refine loudsP_v ?h1 ?hv ?hlt (fun K2 hK2 => ?_) ?_); (case h1 => rfl); (case hv => rfl); (case hlt => exact Nat.le_of_ble_eq_true rfl)) | ((with_reducible refine loudsP_u ?h1 ?hv (fun K2 hK2 => ?_) ?_); (case h1 => rfl); (case hv => rfl)) | ((with_reducible refine stableP_pre ?h1 ?_); (case h1 => (first | rfl | (dsimp only; decide +kernel)))) | ((with_reducible refine stableP_re ?h1 ?_); (case h1 => (go_simp; done))) | (go_simp; (try go_bits); (first | (refine hK2 _ _ ?_ ?_ <;> clear hK2 K2) | (refine hK2 _ _ ?_; clear hK2 K2))))
  repeat' (first | (with_reducible first | refine CodeS.seq ?_ | refine CodeS.region_k fun K hK => ?_ | refine opsP_go fun K2 hK2 => ?_ | refine Post.then_normal ?_ | refine Post.then_ret ?_ | refine Post.then_exit ?_ | refine Post.block_normal ?_ | refine Post.block_ret ?_ | refine Post.block_here ?_ | refine Post.scope_normal ?_ | refine Post.scope_ret ?_ | refine Post.scope_exit ?_ | refine Post.round_ret ?_ | refine Post.round_exit ?_ | refine CodeS.block ?_ | refine CodeS.skip ?_ | refine CodeS.ret ?_ | refine CodeS.exit ?_ | refine CodeS.scope ?_ | refine CodeS.label ?_) | ((with_reducible refine opsP_nil (hK _ _ ?_)); clear hK K) | ((with_reducible refine opsP_gd ?hj ?hlt fun K1 K3 d hdst h1 h3 => ?_); (case hj => rfl); (case hlt => exact Nat.le_of_ble_eq_true rfl); cases hdst; go_simp) | ((with_reducible refine CodeS.cond_k fun K1 K3 h1 h3 => ?_); go_simp) | (refine h1 ?_; clear h1 h3 K1 K3) | (refine h3 ?_; clear h1 h3 K1 K3) | ((refine Either.mk (fun hb => h1 ?_) (fun hb => h3 ?_)) <;> (clear h1 h3 K1 K3; (try have hb2 := of_decide hb); (try have hb2 := of_not_decide_lt hb); (try have hb2 := of_not_decide_le hb); (try have hb2 := of_not_decide_ltN hb); (try have hb2 := of_not_decide_leN hb))) | ((refine Either.mk (fun hb => h3 ?_) (fun hb => h1 ?_)) <;> (clear h1 h3 K1 K3; (try have hb2 := of_decide hb); (try have hb2 := of_not_decide_lt hb); (try have hb2 := of_not_decide_le hb); (try have hb2 := of_not_decide_ltN hb); (try have hb2 := of_not_decide_leN hb))) | (refine fun (K2 : _ → AHeap → Prop) hK2 => ?_) | ((with_reducible refine Post.block_off ?hn ?_); (case hn => decide)) | ((with_reducible first | refine Post.body_k ?hd (fun K hK => ?_) | refine Post.body_kn ?hd (fun K hK => ?_)); (case hd => (go_simp; done)); go_simp; refine hK _ _ ?_; clear hK K) | (go_simp; (try go_bits); refine hK2 _ _ ?_; clear hK2 K2))
  refine CodeS.loop (fun m f H' => ∃ (k : Nat) (b : Int) (c : Has) (D' : Nat → Prop) (L' : List Value), k ≤ s.alts.length ∧ m = s.alts.length - k ∧ f.tmp 19 = .int .i64 k ∧ f.tmp 18 = .int .i64 s.alts.length ∧ f.tmp 17 = .slice aa s.alts.length ac ∧ f.tmp 0 = .func (.yield l) #[] #[] ∧ f.tmp 2 = .pointer (some ⟨q, 0, none⟩) ∧ f.tmp 5 = .pointer (some ⟨H.n, 0, none⟩) ∧ f.tmp 4 = .int .i64 b ∧ f.defers = [] ∧ H.n < H'.n ∧ H'.get H.n = .row [.int .i64 c.text, .int .i64 c.margin, .bool c.lost] 147 ∧ Hid (¬ D' H.n) ∧ Hid (S L' D' H') ∧ Hid (Step D H D' H') ∧ Hid (L' ++ (go ln b c (s.alts.drop k)).map Str.val = L ++ items)) s.alts.length ?_ ?_
  · refine ⟨0, 0, ⟨w0, 0, false⟩, D, L, by simp, by simp, (by first | (go_simp; done) | (go_simp; go_num; done) | assumption), (by first | (go_simp; done) | (go_simp; go_num; done) | assumption), (by first | (go_simp; done) | (go_simp; go_num; done) | assumption), (by first | (go_simp; done) | (go_simp; go_num; done) | assumption), (by first | (go_simp; done) | (go_simp; go_num; done) | assumption), (by first | (go_simp; done) | (go_simp; go_num; done) | assumption), (by first | (go_simp; done) | (go_simp; go_num; done) | assumption), (by first | (go_simp; done) | (go_simp; go_num; done) | assumption), ?_, ?_, ?_, ?_, ?_, ?_⟩
    · rw [AHeap.n_push]; omega
    · exact AHeap.get_push_new
    · exact Lib.hid fun h0 => Nat.lt_irrefl _ (HG.out.lt HS.out h0)
    · exact Lib.hid (HG.out.keepx HS.out (Ext.push _))
    · exact Lib.hid ((Step.refl _ _).push _)
    · exact Lib.hid (by rw [List.drop_zero, HIT.out])
  clear f0 f1 f2 hd f
  rintro m f H' ⟨k, b', c, D', L', hk, rfl, f19, f18, f17, f0, f2, f5, f4, hd, hn5, hg5, HND, HS', HST, HGO⟩
  have hlen : L'.length < room := by
    have h1 := congrArg List.length HGO.out
    have h2 := go_pos ln (s.alts.drop k) b' c
    have h3 := HRO.out
    simp only [List.length_append, List.length_map] at h1
    omega
  have HLEN := Lib.hid hlen
  clear hlen
  obtain ⟨ct, cm, cl⟩ := c
  simp only at hg5
  have HXX := Lib.hid (HST.out.ext HX.out HB.out)
  have hcq' : cellAt H' q 0 = some (.int .i64 ln) := by
    have : H'.get q = .row [.int .i64 ln] 3 := (HST.out.get q hq HQD.out).trans HGQ.out
    simp [cellAt, this]
  have hqn' : q < H'.n := Nat.lt_of_lt_of_le hq HST.out.n
  have hc5 : cellsAt H' H.n 0 3 = some [.int .i64 ct, .int .i64 cm, .bool cl] := by simp [cellsAt, hg5]
  by_cases hlt2 : k < s.alts.length
  · obtain ⟨b2, o2, sp2, rfl, hb2, hx6, -⟩ := (HA.out.ext HXX.out).at_ hlt2
    have HD := Lib.hid (List.drop_eq_getElem_cons hlt2)
    have hday := sorted_mem _ _ HSO.out _ (List.getElem_mem hlt2)
    generalize s.alts[k] = a at hx6 HD hday
    obtain ⟨i, kd, dy, fr, to, wd⟩ := a
    obtain ⟨hday0, hday1⟩ := hday
    simp only at hday0 hday1
    simp only [Alt.cells] at hx6
    have HAF := Lib.hid (fun (loops : List (Nat × LInfo)) (H : AHeap) => after_s (loops := loops) (H := H) (c := ⟨ct, cm, cl⟩) (a := ⟨i, kd, dy, fr, to, wd⟩))
    generalize hnx : Has.after ⟨ct, cm, cl⟩ ⟨i, kd, dy, fr, to, wd⟩ = nx at HAF
    have HNX := Lib.hid hnx
    clear hnx
    obtain ⟨nt, nm, nl⟩ := nx
    have HIB : Hid (-1 ≤ dy - 1 ∧ dy - 1 ≤ 730) := Lib.hid (by omega)
    have hne7 : (H'.n = H.n) = False := by simp; omega
    have hne7' : (H.n = H'.n) = False := by simp; omega
    have hne8' : (H.n = H'.n + 1) = False := by simp; omega
    have hne8 : (H'.n + 1 = H.n) = False := by simp; omega
    repeat' (first | (with_reducible first | refine CodeS.seq ?_ | refine CodeS.region_k fun K hK => ?_ | refine opsP_go fun K2 hK2 => ?_ | refine Post.then_normal ?_ | refine Post.then_ret ?_ | refine Post.then_exit ?_ | refine Post.block_normal ?_ | refine Post.block_ret ?_ | refine Post.block_here ?_ | refine Post.scope_normal ?_ | refine Post.scope_ret ?_ | refine Post.scope_exit ?_ | refine Post.round_ret ?_ | refine Post.round_exit ?_ | refine CodeS.block ?_ | refine CodeS.skip ?_ | refine CodeS.ret ?_ | refine CodeS.exit ?_ | refine CodeS.scope ?_ | refine CodeS.label ?_) | ((with_reducible refine opsP_nil (hK _ _ ?_)); clear hK K) | ((with_reducible refine opsP_gd ?hj ?hlt fun K1 K3 d hdst h1 h3 => ?_); (case hj => rfl); (case hlt => exact Nat.le_of_ble_eq_true rfl); cases hdst; go_simp) | ((with_reducible refine CodeS.cond_k fun K1 K3 h1 h3 => ?_); go_simp) | (refine h1 ?_; clear h1 h3 K1 K3) | (refine h3 ?_; clear h1 h3 K1 K3) | ((refine Either.mk (fun hb => h1 ?_) (fun hb => h3 ?_)) <;> (clear h1 h3 K1 K3; (try have hb2 := of_decide hb); (try have hb2 := of_not_decide_lt hb); (try have hb2 := of_not_decide_le hb); (try have hb2 := of_not_decide_ltN hb); (try have hb2 := of_not_decide_leN hb))) | ((refine Either.mk (fun hb => h3 ?_) (fun hb => h1 ?_)) <;> (clear h1 h3 K1 K3; (try have hb2 := of_decide hb); (try have hb2 := of_not_decide_lt hb); (try have hb2 := of_not_decide_le hb); (try have hb2 := of_not_decide_ltN hb); (try have hb2 := of_not_decide_leN hb))) | (refine fun (K2 : _ → AHeap → Prop) hK2 => ?_) | ((with_reducible refine Post.block_off ?hn ?_); (case hn => decide)) | ((with_reducible first | refine Post.body_k ?hd (fun K hK => ?_) | refine Post.body_kn ?hd (fun K hK => ?_)); (case hd => (go_simp; done)); go_simp; refine hK _ _ ?_; clear hK K) | (go_simp; (try go_bits); (try first | ((with_reducible show CallS _ _ _ _ _ _); refine CallS.mono within_s ?_; rintro _ _ ⟨rfl, rfl⟩) | ((with_reducible show CallS _ _ _ _ _ _); refine CallS.mono (HAF.out _ _) ?_; rintro _ _ ⟨rfl, rfl⟩; go_simp) | ((refine eq147_k (c := ⟨nt, nm, nl⟩) (d := ⟨ct, cm, cl⟩) (by go_simp) (by go_simp) ?_); go_simp) | ((refine RoundS.mono (HG.out.round (v := Str.val ⟨b', dy - 1, ⟨ct, cm, cl⟩⟩) HFL.out HLEN.out ⟨_, rfl, HIB.out⟩ (HG.out.keepx HS'.out (((Ext.refl _).push' _).push' _))) ?_); rintro _ H3 ⟨rfl, D3, hS3, hst3⟩; (have HS3 := Lib.hid hS3); (have HST3 := Lib.hid hst3); (have hg53 : H3.get H.n = .row [.int .i64 ct, .int .i64 cm, .bool cl] 147 := (hst3.get H.n (by rw [AHeap.n_push, AHeap.n_push]; omega) HND.out).trans (by rw [AHeap.get_push_old (by rw [AHeap.n_push]; omega), AHeap.get_push_old hn5]; exact hg5)); (have h73 : cellAt H3 H'.n 2 = some (.int .i64 dy) := (cellAt_get (hst3.get H'.n (by rw [AHeap.n_push, AHeap.n_push]; omega) (fun h0 => Nat.lt_irrefl _ (HG.out.lt HS'.out h0)))).trans (by go_simp)); (have h83 : cellsAt H3 (H'.n + 1) 0 3 = some [.int .i64 nt, .int .i64 nm, .bool nl] := (cellsAt_get (hst3.get (H'.n + 1) (by rw [AHeap.n_push, AHeap.n_push]; omega) (fun h0 => absurd (HG.out.lt HS'.out h0) (by omega)))).trans (by go_simp)); clear hS3 hst3; go_simp)); refine hK2 _ _ ?_; clear hK2 K2))
    · have hw : win fr to ln = false := by simpa using hb
      refine Post.round_normal ⟨s.alts.length - (k + 1), by omega, k + 1, b', ⟨ct, cm, cl⟩, D', L', by omega, rfl, (by first | (go_simp; done) | (go_simp; go_num; done) | assumption), (by first | (go_simp; done) | (go_simp; go_num; done) | assumption), (by first | (go_simp; done) | (go_simp; go_num; done) | assumption), (by first | (go_simp; done) | (go_simp; go_num; done) | assumption), (by first | (go_simp; done) | (go_simp; go_num; done) | assumption), (by first | (go_simp; done) | (go_simp; go_num; done) | assumption), (by first | (go_simp; done) | (go_simp; go_num; done) | assumption), (by first | (go_simp; done) | (go_simp; go_num; done) | assumption), ?_, ?_, HND, ?_, ?_, ?_⟩
      · rw [AHeap.n_push]; omega
      · rw [AHeap.get_push_old hn5]; exact hg5
      · exact Lib.hid (HG.out.keepx HS'.out (Ext.push _))
      · exact Lib.hid (HST.out.push _)
      · refine Lib.hid ?_
        rw [← HGO.out, HD.out, go, if_pos hw]
    · have hw : ¬ win fr to ln = false := by simpa using ‹(!win fr to (ln : Int)) = false›
      have hsame : Has.after ⟨ct, cm, cl⟩ ⟨i, kd, dy, fr, to, wd⟩ = ⟨ct, cm, cl⟩ := by
        rw [HNX.out]; simpa using hb
      refine Post.round_normal ⟨s.alts.length - (k + 1), by omega, k + 1, b', ⟨ct, cm, cl⟩, D', L', by omega, rfl, (by first | (go_simp; done) | (go_simp; go_num; done) | assumption), (by first | (go_simp; done) | (go_simp; go_num; done) | assumption), (by first | (go_simp; done) | (go_simp; go_num; done) | assumption), (by first | (go_simp; done) | (go_simp; go_num; done) | assumption), (by first | (go_simp; done) | (go_simp; go_num; done) | assumption), (by first | (go_simp; done) | (go_simp; go_num; done) | assumption), (by first | (go_simp; done) | (go_simp; go_num; done) | assumption), (by first | (go_simp; done) | (go_simp; go_num; done) | assumption), ?_, ?_, HND, ?_, ?_, ?_⟩
      · rw [AHeap.n_push, AHeap.n_push]; omega
      · rw [AHeap.get_push_old (by rw [AHeap.n_push]; omega), AHeap.get_push_old hn5]; exact hg5
      · exact Lib.hid (HG.out.keepx HS'.out (((Ext.refl _).push' _).push' _))
      · exact Lib.hid ((HST.out.push _).push _)
      · refine Lib.hid ?_
        rw [← HGO.out, HD.out, go, if_neg hw, if_pos hsame]
    · repeat' (first | (with_reducible first | refine CodeS.seq ?_ | refine CodeS.region_k fun K hK => ?_ | refine opsP_go fun K2 hK2 => ?_ | refine Post.then_normal ?_ | refine Post.then_ret ?_ | refine Post.then_exit ?_ | refine Post.block_normal ?_ | refine Post.block_ret ?_ | refine Post.block_here ?_ | refine Post.scope_normal ?_ | refine Post.scope_ret ?_ | refine Post.scope_exit ?_ | refine Post.round_ret ?_ | refine Post.round_exit ?_ | refine CodeS.block ?_ | refine CodeS.skip ?_ | refine CodeS.ret ?_ | refine CodeS.exit ?_ | refine CodeS.scope ?_ | refine CodeS.label ?_) | ((with_reducible refine opsP_nil (hK _ _ ?_)); clear hK K) | ((with_reducible refine opsP_gd ?hj ?hlt fun K1 K3 d hdst h1 h3 => ?_); (case hj => rfl); (case hlt => exact Nat.le_of_ble_eq_true rfl); cases hdst; go_simp) | ((with_reducible refine CodeS.cond_k fun K1 K3 h1 h3 => ?_); go_simp) | (refine h1 ?_; clear h1 h3 K1 K3) | (refine h3 ?_; clear h1 h3 K1 K3) | ((refine Either.mk (fun hb => h1 ?_) (fun hb => h3 ?_)) <;> (clear h1 h3 K1 K3; (try have hb2 := of_decide hb); (try have hb2 := of_not_decide_lt hb); (try have hb2 := of_not_decide_le hb); (try have hb2 := of_not_decide_ltN hb); (try have hb2 := of_not_decide_leN hb))) | ((refine Either.mk (fun hb => h3 ?_) (fun hb => h1 ?_)) <;> (clear h1 h3 K1 K3; (try have hb2 := of_decide hb); (try have hb2 := of_not_decide_lt hb); (try have hb2 := of_not_decide_le hb); (try have hb2 := of_not_decide_ltN hb); (try have hb2 := of_not_decide_leN hb))) | (refine fun (K2 : _ → AHeap → Prop) hK2 => ?_) | ((with_reducible refine Post.block_off ?hn ?_); (case hn => decide)) | ((with_reducible first | refine Post.body_k ?hd (fun K hK => ?_) | refine Post.body_kn ?hd (fun K hK => ?_)); (case hd => (go_simp; done)); go_simp; refine hK _ _ ?_; clear hK K) | ((with_reducible refine CodeS.tree_lit mixed rfl ?hok 20 fun K0 hK0 => ?_); (case hok => kernel_rfl)) | (with_reducible first | exact loudsP_nil | exact stableP_nil | refine treeP_lit ?_ | refine passP_nil ?_ | refine stableP_keep ?_) | ((with_reducible first | refine passP_skip ?h1 ?_ | refine loudsP_skip ?h1 ?_ | refine stepT_more ?h1 ?_); (case h1 => rfl)) | ((with_reducible refine stepT_done ?h1 ?_); (case h1 => rfl); refine hK0 _ _ ?_; clear hK0 K0) | ((with_reducible refine passP_loud ?h1 ?hg ?hl ?_); (case h1 => rfl); (case hg => rfl); (case hl => rfl)) | ((with_reducible refine passP_q ?h1 ?hl ?hlt fun K2 hK2 => ?_); (case h1 => rfl); (case hl => rfl); (case hlt => exact Nat.le_of_ble_eq_true rfl)) | ((with_reducible refine passP_g ?h1 ?hj ?hl ?hlt fun K1 K3 d hdst h1 h3 => ?_); (case h1 => rfl); (case hj => rfl); (case hl => rfl); (case hlt => exact Nat.le_of_ble_eq_true rfl); cases hdst; go_simp) | ((with_reducible refine passP_lg ?h1 ?hj ?hl ?hlt fun K1 K3 d hdst h1 h3 => ?_); (case h1 => rfl); (case hj => rfl); (case hl => rfl); (case hlt => exact Nat.le_of_ble_eq_true rfl); cases hdst; go_simp) | ((with_reducible refine loudsP_c ?h1 ?hlt (fun K2 hK2 => ?_) ?_); (case h1 => rfl); (case hlt => exact Nat.le_of_ble_eq_true rfl)) | ((with_reducible refine loudsP_cg ?h1 ?hlt ?hj ?hw (fun K2 hK2 => ?_) ?_); (case h1 => rfl); (case hlt => exact Nat.le_of_ble_eq_true rfl); (case hj => rfl); (case hw => (go_simp; done))) | ((with_reducible refine loudsP_v ?h1 ?hv ?hlt (fun K2 hK2 => ?_) ?_); (case h1 => rfl); (case hv => rfl); (case hlt => exact Nat.le_of_ble_eq_true rfl)) | ((with_reducible refine loudsP_u ?h1 ?hv (fun K2 hK2 => ?_) ?_); (case h1 => rfl); (case hv => rfl)) | ((with_reducible refine stableP_pre ?h1 ?_); (case h1 => (first | rfl | (dsimp only; decide +kernel)))) | ((with_reducible refine stableP_re ?h1 ?_); (case h1 => (go_simp; done))) | (go_simp; (try go_bits); (first | (refine hK2 _ _ ?_ ?_ <;> clear hK2 K2) | (refine hK2 _ _ ?_; clear hK2 K2))))
      all_goals (repeat' (first | (with_reducible first | refine CodeS.seq ?_ | refine CodeS.region_k fun K hK => ?_ | refine opsP_go fun K2 hK2 => ?_ | refine Post.then_normal ?_ | refine Post.then_ret ?_ | refine Post.then_exit ?_ | refine Post.block_normal ?_ | refine Post.block_ret ?_ | refine Post.block_here ?_ | refine Post.scope_normal ?_ | refine Post.scope_ret ?_ | refine Post.scope_exit ?_ | refine Post.round_ret ?_ | refine Post.round_exit ?_ | refine CodeS.block ?_ | refine CodeS.skip ?_ | refine CodeS.ret ?_ | refine CodeS.exit ?_ | refine CodeS.scope ?_ | refine CodeS.label ?_) | ((with_reducible refine opsP_nil (hK _ _ ?_)); clear hK K) | ((with_reducible refine opsP_gd ?hj ?hlt fun K1 K3 d hdst h1 h3 => ?_); (case hj => rfl); (case hlt => exact Nat.le_of_ble_eq_true rfl); cases hdst; go_simp) | ((with_reducible refine CodeS.cond_k fun K1 K3 h1 h3 => ?_); go_simp) | (refine h1 ?_; clear h1 h3 K1 K3) | (refine h3 ?_; clear h1 h3 K1 K3) | ((refine Either.mk (fun hb => h1 ?_) (fun hb => h3 ?_)) <;> (clear h1 h3 K1 K3; (try have hb2 := of_decide hb); (try have hb2 := of_not_decide_lt hb); (try have hb2 := of_not_decide_le hb); (try have hb2 := of_not_decide_ltN hb); (try have hb2 := of_not_decide_leN hb))) | ((refine Either.mk (fun hb => h3 ?_) (fun hb => h1 ?_)) <;> (clear h1 h3 K1 K3; (try have hb2 := of_decide hb); (try have hb2 := of_not_decide_lt hb); (try have hb2 := of_not_decide_le hb); (try have hb2 := of_not_decide_ltN hb); (try have hb2 := of_not_decide_leN hb))) | (refine fun (K2 : _ → AHeap → Prop) hK2 => ?_) | ((with_reducible refine Post.block_off ?hn ?_); (case hn => decide)) | ((with_reducible first | refine Post.body_k ?hd (fun K hK => ?_) | refine Post.body_kn ?hd (fun K hK => ?_)); (case hd => (go_simp; done)); go_simp; refine hK _ _ ?_; clear hK K) | (go_simp; (try go_bits); refine hK2 _ _ ?_; clear hK2 K2)))
      all_goals
        have hw : ¬ win fr to ln = false := by simpa using ‹(!win fr to (ln : Int)) = false›
        have hch : ¬ Has.after ⟨ct, cm, cl⟩ ⟨i, kd, dy, fr, to, wd⟩ = ⟨ct, cm, cl⟩ := by
          rw [HNX.out]; simpa using ‹(decide (nt = ct) && (decide (nm = cm) && decide (nl = cl))) = false›
        have hT := Lib.hid ((((Step.refl D' H').push _).push _).trans HST3.out)
        have hND : ¬ D3 H.n := fun h0 => (HST3.out.new _ h0).elim HND.out (by rw [AHeap.n_push, AHeap.n_push]; omega)
        refine Post.round_normal ⟨s.alts.length - (k + 1), by omega, k + 1, dy, ⟨nt, nm, nl⟩, D3, _, by omega, rfl, (by first | (go_simp; done) | (go_simp; go_num; done) | assumption), (by first | (go_simp; done) | (go_simp; go_num; done) | assumption), (by first | (go_simp; done) | (go_simp; go_num; done) | assumption), (by first | (go_simp; done) | (go_simp; go_num; done) | assumption), (by first | (go_simp; done) | (go_simp; go_num; done) | assumption), (by first | (go_simp; done) | (go_simp; go_num; done) | assumption), (by first | (go_simp; done) | (go_simp; go_num; done) | assumption), (by first | (go_simp; done) | (go_simp; go_num; done) | assumption), ?_, ?_, Lib.hid hND, Lib.hid (HG.out.upd HS3.out hND (HG.out.noRd HS.out (Nat.le_refl _)) _), Lib.hid ((HST.out.trans hT.out).upd (.inr (Nat.le_refl _)) _), Lib.hid ?_⟩
        · rw [AHeap.n_upd]; exact Nat.lt_of_lt_of_le hn5 hT.out.n
        · rw [AHeap.get_upd_same]
        · rw [← HGO.out, HD.out, go, if_neg hw, if_neg hch, if_pos hb2, HNX.out]; simp
    · repeat' (first | (with_reducible first | refine CodeS.seq ?_ | refine CodeS.region_k fun K hK => ?_ | refine opsP_go fun K2 hK2 => ?_ | refine Post.then_normal ?_ | refine Post.then_ret ?_ | refine Post.then_exit ?_ | refine Post.block_normal ?_ | refine Post.block_ret ?_ | refine Post.block_here ?_ | refine Post.scope_normal ?_ | refine Post.scope_ret ?_ | refine Post.scope_exit ?_ | refine Post.round_ret ?_ | refine Post.round_exit ?_ | refine CodeS.block ?_ | refine CodeS.skip ?_ | refine CodeS.ret ?_ | refine CodeS.exit ?_ | refine CodeS.scope ?_ | refine CodeS.label ?_) | ((with_reducible refine opsP_nil (hK _ _ ?_)); clear hK K) | ((with_reducible refine opsP_gd ?hj ?hlt fun K1 K3 d hdst h1 h3 => ?_); (case hj => rfl); (case hlt => exact Nat.le_of_ble_eq_true rfl); cases hdst; go_simp) | ((with_reducible refine CodeS.cond_k fun K1 K3 h1 h3 => ?_); go_simp) | (refine h1 ?_; clear h1 h3 K1 K3) | (refine h3 ?_; clear h1 h3 K1 K3) | ((refine Either.mk (fun hb => h1 ?_) (fun hb => h3 ?_)) <;> (clear h1 h3 K1 K3; (try have hb2 := of_decide hb); (try have hb2 := of_not_decide_lt hb); (try have hb2 := of_not_decide_le hb); (try have hb2 := of_not_decide_ltN hb); (try have hb2 := of_not_decide_leN hb))) | ((refine Either.mk (fun hb => h3 ?_) (fun hb => h1 ?_)) <;> (clear h1 h3 K1 K3; (try have hb2 := of_decide hb); (try have hb2 := of_not_decide_lt hb); (try have hb2 := of_not_decide_le hb); (try have hb2 := of_not_decide_ltN hb); (try have hb2 := of_not_decide_leN hb))) | (refine fun (K2 : _ → AHeap → Prop) hK2 => ?_) | ((with_reducible refine Post.block_off ?hn ?_); (case hn => decide)) | ((with_reducible first | refine Post.body_k ?hd (fun K hK => ?_) | refine Post.body_kn ?hd (fun K hK => ?_)); (case hd => (go_simp; done)); go_simp; refine hK _ _ ?_; clear hK K) | ((with_reducible refine CodeS.tree_lit mixed rfl ?hok 20 fun K0 hK0 => ?_); (case hok => kernel_rfl)) | (with_reducible first | exact loudsP_nil | exact stableP_nil | refine treeP_lit ?_ | refine passP_nil ?_ | refine stableP_keep ?_) | ((with_reducible first | refine passP_skip ?h1 ?_ | refine loudsP_skip ?h1 ?_ | refine stepT_more ?h1 ?_); (case h1 => rfl)) | ((with_reducible refine stepT_done ?h1 ?_); (case h1 => rfl); refine hK0 _ _ ?_; clear hK0 K0) | ((with_reducible refine passP_loud ?h1 ?hg ?hl ?_); (case h1 => rfl); (case hg => rfl); (case hl => rfl)) | ((with_reducible refine passP_q ?h1 ?hl ?hlt fun K2 hK2 => ?_); (case h1 => rfl); (case hl => rfl); (case hlt => exact Nat.le_of_ble_eq_true rfl)) | ((with_reducible refine passP_g ?h1 ?hj ?hl ?hlt fun K1 K3 d hdst h1 h3 => ?_); (case h1 => rfl); (case hj => rfl); (case hl => rfl); (case hlt => exact Nat.le_of_ble_eq_true rfl); cases hdst; go_simp) | ((with_reducible refine passP_lg ?h1 ?hj ?hl ?hlt fun K1 K3 d hdst h1 h3 => ?_); (case h1 => rfl); (case hj => rfl); (case hl => rfl); (case hlt => exact Nat.le_of_ble_eq_true rfl); cases hdst; go_simp) | ((with_reducible refine loudsP_c ?h1 ?hlt (fun K2 hK2 => ?_) ?_); (case h1 => rfl); (case hlt => exact Nat.le_of_ble_eq_true rfl)) | ((with_reducible refine loudsP_cg ?h1 ?hlt ?hj ?hw (fun K2 hK2 => ?_) ?_); (case h1 => rfl); (case hlt => exact Nat.le_of_ble_eq_true rfl); (case hj => rfl); (case hw => (go_simp; done))) | ((with_reducible refine loudsP_v ?h1 ?hv ?hlt (fun K2 hK2 => ?_) ?_); (case h1 => rfl); (case hv => rfl); (case hlt => exact Nat.le_of_ble_eq_true rfl)) | ((with_reducible refine loudsP_u ?h1 ?hv (fun K2 hK2 => ?_) ?_); (case h1 => rfl); (case hv => rfl)) | ((with_reducible refine stableP_pre ?h1 ?_); (case h1 => (first | rfl | (dsimp only; decide +kernel)))) | ((with_reducible refine stableP_re ?h1 ?_); (case h1 => (go_simp; done))) | (go_simp; (try go_bits); (first | (refine hK2 _ _ ?_ ?_ <;> clear hK2 K2) | (refine hK2 _ _ ?_; clear hK2 K2))))
      all_goals (repeat' (first | (with_reducible first | refine CodeS.seq ?_ | refine CodeS.region_k fun K hK => ?_ | refine opsP_go fun K2 hK2 => ?_ | refine Post.then_normal ?_ | refine Post.then_ret ?_ | refine Post.then_exit ?_ | refine Post.block_normal ?_ | refine Post.block_ret ?_ | refine Post.block_here ?_ | refine Post.scope_normal ?_ | refine Post.scope_ret ?_ | refine Post.scope_exit ?_ | refine Post.round_ret ?_ | refine Post.round_exit ?_ | refine CodeS.block ?_ | refine CodeS.skip ?_ | refine CodeS.ret ?_ | refine CodeS.exit ?_ | refine CodeS.scope ?_ | refine CodeS.label ?_) | ((with_reducible refine opsP_nil (hK _ _ ?_)); clear hK K) | ((with_reducible refine opsP_gd ?hj ?hlt fun K1 K3 d hdst h1 h3 => ?_); (case hj => rfl); (case hlt => exact Nat.le_of_ble_eq_true rfl); cases hdst; go_simp) | ((with_reducible refine CodeS.cond_k fun K1 K3 h1 h3 => ?_); go_simp) | (refine h1 ?_; clear h1 h3 K1 K3) | (refine h3 ?_; clear h1 h3 K1 K3) | ((refine Either.mk (fun hb => h1 ?_) (fun hb => h3 ?_)) <;> (clear h1 h3 K1 K3; (try have hb2 := of_decide hb); (try have hb2 := of_not_decide_lt hb); (try have hb2 := of_not_decide_le hb); (try have hb2 := of_not_decide_ltN hb); (try have hb2 := of_not_decide_leN hb))) | ((refine Either.mk (fun hb => h3 ?_) (fun hb => h1 ?_)) <;> (clear h1 h3 K1 K3; (try have hb2 := of_decide hb); (try have hb2 := of_not_decide_lt hb); (try have hb2 := of_not_decide_le hb); (try have hb2 := of_not_decide_ltN hb); (try have hb2 := of_not_decide_leN hb))) | (refine fun (K2 : _ → AHeap → Prop) hK2 => ?_) | ((with_reducible refine Post.block_off ?hn ?_); (case hn => decide)) | ((with_reducible first | refine Post.body_k ?hd (fun K hK => ?_) | refine Post.body_kn ?hd (fun K hK => ?_)); (case hd => (go_simp; done)); go_simp; refine hK _ _ ?_; clear hK K) | (go_simp; (try go_bits); refine hK2 _ _ ?_; clear hK2 K2)))
      all_goals
        have hw : ¬ win fr to ln = false := by simpa using ‹(!win fr to (ln : Int)) = false›
        have hch : ¬ Has.after ⟨ct, cm, cl⟩ ⟨i, kd, dy, fr, to, wd⟩ = ⟨ct, cm, cl⟩ := by
          rw [HNX.out]; simpa using ‹(decide (nt = ct) && (decide (nm = cm) && decide (nl = cl))) = false›
        have hnb : ¬ b' < dy := by simpa using hb
        refine Post.round_normal ⟨s.alts.length - (k + 1), by omega, k + 1, dy, ⟨nt, nm, nl⟩, D', _, by omega, rfl, (by first | (go_simp; done) | (go_simp; go_num; done) | assumption), (by first | (go_simp; done) | (go_simp; go_num; done) | assumption), (by first | (go_simp; done) | (go_simp; go_num; done) | assumption), (by first | (go_simp; done) | (go_simp; go_num; done) | assumption), (by first | (go_simp; done) | (go_simp; go_num; done) | assumption), (by first | (go_simp; done) | (go_simp; go_num; done) | assumption), (by first | (go_simp; done) | (go_simp; go_num; done) | assumption), (by first | (go_simp; done) | (go_simp; go_num; done) | assumption), ?_, ?_, HND, Lib.hid (HG.out.keepx (HG.out.upd HS'.out HND.out (HG.out.noRd HS.out (Nat.le_refl _)) _) (((Ext.refl _).push' _).push' _)), Lib.hid (((HST.out.upd (.inr (Nat.le_refl _)) _).push _).push _), Lib.hid ?_⟩
        · rw [AHeap.n_push, AHeap.n_push, AHeap.n_upd]; omega
        · rw [AHeap.get_push_old (by rw [AHeap.n_push, AHeap.n_upd]; omega), AHeap.get_push_old (by rw [AHeap.n_upd]; omega), AHeap.get_upd_same]
        · rw [← HGO.out, HD.out, go, if_neg hw, if_neg hch, if_neg hnb, HNX.out]
  · have HIB2 : Hid (-1 ≤ (730 : Int) ∧ (730 : Int) ≤ 730) := Lib.hid (by decide)
    repeat' (first | (with_reducible first | refine CodeS.seq ?_ | refine CodeS.region_k fun K hK => ?_ | refine opsP_go fun K2 hK2 => ?_ | refine Post.then_normal ?_ | refine Post.then_ret ?_ | refine Post.then_exit ?_ | refine Post.block_normal ?_ | refine Post.block_ret ?_ | refine Post.block_here ?_ | refine Post.scope_normal ?_ | refine Post.scope_ret ?_ | refine Post.scope_exit ?_ | refine Post.round_ret ?_ | refine Post.round_exit ?_ | refine CodeS.block ?_ | refine CodeS.skip ?_ | refine CodeS.ret ?_ | refine CodeS.exit ?_ | refine CodeS.scope ?_ | refine CodeS.label ?_) | ((with_reducible refine opsP_nil (hK _ _ ?_)); clear hK K) | ((with_reducible refine opsP_gd ?hj ?hlt fun K1 K3 d hdst h1 h3 => ?_); (case hj => rfl); (case hlt => exact Nat.le_of_ble_eq_true rfl); cases hdst; go_simp) | ((with_reducible refine CodeS.cond_k fun K1 K3 h1 h3 => ?_); go_simp) | (refine h1 ?_; clear h1 h3 K1 K3) | (refine h3 ?_; clear h1 h3 K1 K3) | ((refine Either.mk (fun hb => h1 ?_) (fun hb => h3 ?_)) <;> (clear h1 h3 K1 K3; (try have hb2 := of_decide hb); (try have hb2 := of_not_decide_lt hb); (try have hb2 := of_not_decide_le hb); (try have hb2 := of_not_decide_ltN hb); (try have hb2 := of_not_decide_leN hb))) | ((refine Either.mk (fun hb => h3 ?_) (fun hb => h1 ?_)) <;> (clear h1 h3 K1 K3; (try have hb2 := of_decide hb); (try have hb2 := of_not_decide_lt hb); (try have hb2 := of_not_decide_le hb); (try have hb2 := of_not_decide_ltN hb); (try have hb2 := of_not_decide_leN hb))) | (refine fun (K2 : _ → AHeap → Prop) hK2 => ?_) | ((with_reducible refine Post.block_off ?hn ?_); (case hn => decide)) | ((with_reducible first | refine Post.body_k ?hd (fun K hK => ?_) | refine Post.body_kn ?hd (fun K hK => ?_)); (case hd => (go_simp; done)); go_simp; refine hK _ _ ?_; clear hK K) | (go_simp; (try go_bits); (try first | ((refine RoundS.mono (HG.out.round (v := Str.val ⟨b', 730, ⟨ct, cm, cl⟩⟩) HFL.out HLEN.out ⟨_, rfl, HIB2.out⟩ HS'.out) ?_); rintro _ H3 ⟨rfl, D3, hS3, hst3⟩)); refine hK2 _ _ ?_; clear hK2 K2))
    refine ⟨D3, ?_, HST.out.trans hst3⟩
    have e : L' ++ [Str.val ⟨b', 730, ⟨ct, cm, cl⟩⟩] = L ++ items := by
      rw [← HGO.out, List.drop_eq_nil_of_le (by omega)]; rfl
    rw [← e]; exact hS3

/-- What a line has, one stretch after another. -/
def strs (s : Sheet) (line : Int) : List Str := go line 0 ⟨s.words[line.toNat]!, 0, false⟩ s.alts
theorem SeqAt.gives {Hb H : AHeap} {p q : Nat} {v : Value} {s : Sheet} {line : Int} (h : SeqAt Hb H p q v s line) (hl0 : 0 ≤ line) (hl1 : line < s.words.length) (hso : sorted 0 s.alts) : Gives Try.prog H (fun i => i < Hb.n ∨ i = p ∨ i = q) (strs s line).length v Str.isVal ((strs s line).map Str.val) := by
  obtain ⟨wv, av, rfl, h2, h3, h4, h5, h6, h7, h8⟩ := h
  refine ⟨122, _, rfl, ok122, ?_, fun loops ls H' l Rd room S L D hf hg hS hn hR hr => ?_⟩
  · rintro i (h | rfl | rfl)
    · exact Nat.lt_of_lt_of_le h h8.n
    · exact h2
    · exact h3
  · refine gives_e (H0 := Hb) hf hg hS (Nat.lt_of_lt_of_le h2 hn) (Nat.lt_of_lt_of_le h3 hn) ((hR p (.inr (.inl rfl))).1.trans h4) ((hR q (.inr (.inr rfl))).1.trans h5) h6 h7 ⟨Nat.le_trans h8.n hn, fun i hi => (hR i (.inl hi)).1.trans (h8.get i hi)⟩ (fun i hi => ?_) (hR q (.inr (.inr rfl))).2 hl0 hl1 hso (by rw [List.length_map]; exact hr)
    rcases Nat.lt_or_ge i Hb.n with h0 | h0
    · exact absurd hi (hR i (.inl h0)).2
    · exact h0
end Go.Proofs.Try
