/- Contracts of functions, walked. -/
import Derived.Test.YtgddlpegljkgpaaStS1
import Derived.Test.YtgddlpegljkgpaaAwB
set_option linter.all false
namespace Go.Proofs.Try
open Go Go.Am Go.RowKit
set_option maxRecDepth 100000

/-! Check of package state. -/

structure Sheet where
  words : List Int
  alts : List Alt

def altCells (l : List Alt) : List Value := l.flatMap Alt.cells
theorem altCells_length : ∀ l : List Alt, (altCells l).length = l.length * 6
  | [] => rfl
  | a :: l => by
    have := altCells_length l
    simp only [altCells, List.flatMap_cons, List.length_append] at *
    rw [this]; simp [Alt.cells]; omega
theorem altCells_get : ∀ (l : List Alt) (k : Nat) (h : k < l.length) (j : Nat) (u : Value), (l[k]).cells[j]? = some u → (altCells l)[k * 6 + j]? = some u
  | a :: l, 0, _, j, u, hu => by
    simp only [altCells, List.flatMap_cons, Nat.zero_mul, Nat.zero_add]
    have hu' : a.cells[j]? = some u := hu
    rw [List.getElem?_append_left (List.getElem?_eq_some_iff.1 hu').1]; exact hu'
  | a :: l, k + 1, h, j, u, hu => by
    have := altCells_get l k (by simpa using h) j u (by simpa using hu)
    simp only [altCells, List.flatMap_cons]
    rw [List.getElem?_append_right (by simp [Alt.cells]; omega)]
    have e : (k + 1) * 6 + j - a.cells.length = k * 6 + j := by simp [Alt.cells]; omega
    rw [e]; exact this

def Alts (H : AHeap) (v : Value) (l : List Alt) : Prop := Cells H v 6 l.length (altCells l)
theorem Alts.ext {H H' : AHeap} {v : Value} {l : List Alt} (h : Alts H v l) (hx : Ext H H') : Alts H' v l := Cells.ext h hx
theorem Alts.slice {H : AHeap} {v : Value} {l : List Alt} (h : Alts H v l) : l.length ≤ 9223372036854775807 ∧ ∃ a c, v = .slice a l.length c := by
  obtain ⟨h1, h2, a', c', h3, h4⟩ := h
  exact ⟨h2, a', c', h3⟩
theorem Alts.at_ {H : AHeap} {a : Option Addr} {n c : Nat} {l : List Alt} (h : Alts H (.slice a n c) l) {k : Nat} (hk : k < l.length) : ∃ b o sp, a = some ⟨b, o, sp⟩ ∧ b < H.n ∧ cellsAt H b (o + k * 6) 6 = some (l[k]).cells ∧ ∀ j u, (l[k]).cells[j]? = some u → cellAt H b (o + k * 6 + j) = some u := by
  obtain ⟨h1, h2, a', c', h3, h4⟩ := h
  cases h3
  obtain ⟨b, o, sp, h5, h6, h7⟩ := h4 (by omega)
  have hc : ∀ j u, (l[k]).cells[j]? = some u → cellAt H b (o + k * 6 + j) = some u := fun j u hu => by
    rw [Nat.add_assoc]; exact h7 _ u (altCells_get l k hk j u hu)
  exact ⟨b, o, sp, h5, h6, cellsAt_of (us := (l[k]).cells) (by simp [Alt.cells]) hc, hc⟩

def SheetV (H : AHeap) (v : Value) (s : Sheet) : Prop := ∃ wv av, v = .agg #[wv, av] ∧ Ints H wv s.words ∧ Alts H av s.alts
theorem SheetV.ext {H H' : AHeap} {v : Value} {s : Sheet} (h : SheetV H v s) (hx : Ext H H') : SheetV H' v s := by
  obtain ⟨w, a, h1, h2, h3⟩ := h
  exact ⟨w, a, h1, h2.ext hx, h3.ext hx⟩

def errGo (n : Int) : Int → List Int → List Alt → Int
  | _, _, [] => 0
  | day, seen, a :: t => if a.right n = false ∨ a.day < day then 1 else if a.id ∈ seen then 6 else errGo n a.day (seen ++ [a.id]) t
def err (s : Sheet) : Int := if win 1 40 s.words.length = false ∨ wordsOk 1 s.words = false then 1 else if 40 < s.alts.length then 2 else errGo s.words.length 0 [] s.alts

def seenL (l : List Alt) : List (Int × Value) := l.map fun a => (a.id, a.val)
theorem look_seen : ∀ (l : List Alt) (k : Int), (lookL (seenL l) k).isSome = decide (k ∈ l.map (·.id))
  | [], k => by simp [lookL, seenL]
  | a :: l, k => by
    have := look_seen l k
    simp only [lookL, seenL, List.map_cons, List.find?_cons, List.mem_cons] at *
    by_cases h : k = a.id
    · simp [h]
    · have hb : (k == a.id) = false := by simpa using h
      rw [hb]; simp only [h, false_or]; exact this
theorem look_val : ∀ (l : List Alt) (k : Int), ∃ x : Alt, (lookL (seenL l) k).getD (.agg #[.int .i64 0, .int .i64 0, .int .i64 0, .int .i64 0, .int .i64 0, .int .i64 0]) = x.val
  | [], k => ⟨⟨0, 0, 0, 0, 0, 0⟩, rfl⟩
  | a :: l, k => by
    obtain ⟨x, hx⟩ := look_val l k
    simp only [lookL, seenL, List.map_cons, List.find?_cons] at *
    by_cases h : k = a.id
    · exact ⟨a, by simp [h]⟩
    · have hb : (k == a.id) = false := by simpa using h
      rw [hb]; exact ⟨x, hx⟩

theorem check_e {loops : List (Nat × LInfo)} {H : AHeap} {v : Value} {s : Sheet} (hv : SheetV H v s) : CallS Try.prog loops 27 [v] H fun r H' => r = .int .i64 (err s) ∧ Ext H H' := by
  obtain ⟨wv, av, rfl, hw, ha⟩ := hv
  obtain ⟨hwl, wa, wc, rfl⟩ := hw.slice
  obtain ⟨hal, aa, ac, rfl⟩ := ha.slice
  have HW := Lib.hid hw
  have HA := Lib.hid ha
  clear hw ha
  generalize he : err s = er
  have HE := Lib.hid he
  clear he
  refine CallS.enter' Try.func27 rfl Try.ntmps27 (by simp) fun f hd hf => ?_
  have f0 := hf 0
  simp at f0
  clear hf
  repeat' (first | (with_reducible first | refine CodeS.seq ?_ | refine CodeS.region_k fun K hK => ?_ | refine opsP_go fun K2 hK2 => ?_ | refine Post.then_normal ?_ | refine Post.then_ret ?_ | refine Post.then_exit ?_ | refine Post.block_normal ?_ | refine Post.block_ret ?_ | refine Post.block_here ?_ | refine Post.scope_normal ?_ | refine Post.scope_ret ?_ | refine Post.scope_exit ?_ | refine Post.round_ret ?_ | refine Post.round_exit ?_ | refine CodeS.block ?_ | refine CodeS.skip ?_ | refine CodeS.ret ?_ | refine CodeS.exit ?_ | refine CodeS.scope ?_ | refine CodeS.label ?_) | ((with_reducible refine opsP_nil (hK _ _ ?_)); clear hK K) | ((with_reducible refine opsP_gd ?hj ?hlt fun K1 K3 d hdst h1 h3 => ?_); (case hj => rfl); (case hlt => exact Nat.le_of_ble_eq_true rfl); cases hdst; go_simp) | ((with_reducible refine CodeS.cond_k fun K1 K3 h1 h3 => ?_); go_simp) | (refine h1 ?_; clear h1 h3 K1 K3) | (refine h3 ?_; clear h1 h3 K1 K3) | ((refine Either.mk (fun hb => h1 ?_) (fun hb => h3 ?_)) <;> (clear h1 h3 K1 K3; (try have hb2 := of_decide hb); (try have hb2 := of_not_decide_lt hb); (try have hb2 := of_not_decide_le hb); (try have hb2 := of_not_decide_ltN hb); (try have hb2 := of_not_decide_leN hb))) | ((refine Either.mk (fun hb => h3 ?_) (fun hb => h1 ?_)) <;> (clear h1 h3 K1 K3; (try have hb2 := of_decide hb); (try have hb2 := of_not_decide_lt hb); (try have hb2 := of_not_decide_le hb); (try have hb2 := of_not_decide_ltN hb); (try have hb2 := of_not_decide_leN hb))) | (refine fun (K2 : _ → AHeap → Prop) hK2 => ?_) | ((with_reducible refine Post.block_off ?hn ?_); (case hn => decide)) | ((with_reducible first | refine Post.body_k ?hd (fun K hK => ?_) | refine Post.body_kn ?hd (fun K hK => ?_)); (case hd => (go_simp; done)); go_simp; refine hK _ _ ?_; clear hK K) | (go_simp; (try go_bits); (try first | ((with_reducible show CallS _ _ _ _ _ _); refine CallS.mono within_s ?_; rintro _ _ ⟨rfl, rfl⟩) | ((with_reducible show CallS _ _ _ _ _ _); refine CallS.mono (areWords_s (HW.out.ext ((Ext.refl _).push' _))) ?_; rintro _ _ ⟨rfl, rfl⟩)); refine hK2 _ _ ?_; clear hK2 K2))
  · refine ⟨?_, (Ext.refl _).push' _⟩
    have hw : win 1 40 (s.words.length : Int) = false := by simpa using hb
    rw [← HE.out]; simp [err, hw]
  · refine ⟨?_, (Ext.refl _).push' _⟩
    have hw : wordsOk 1 s.words = false := by simpa using hb
    rw [← HE.out]; simp [err, hw]
  · refine ⟨?_, (Ext.refl _).push' _⟩
    rename_i hb1 hb0
    have hw0 : win 1 40 (s.words.length : Int) = true := by simpa using hb1
    have hw1 : wordsOk 1 s.words = true := by simpa using hb0
    rw [← HE.out]; simp [err, hw0, hw1]; omega
  · rename_i hb1 hb0 hb3
    have hw0 : win 1 40 (s.words.length : Int) = true := by simpa using hb1
    have hw1 : wordsOk 1 s.words = true := by simpa using hb0
    have HE2 : Hid (errGo s.words.length 0 [] s.alts = er) := Lib.hid (by rw [← HE.out]; simp [err, hw0, hw1]; omega)
    clear HE hb1 hb0 hb3 hb hb2 hw0 hw1
    refine CodeS.loop (fun m f H' => ∃ (k : Nat) (day : Int), k ≤ s.alts.length ∧ m = s.alts.length - k ∧ f.tmp 28 = .int .i64 k ∧ f.tmp 27 = .int .i64 s.alts.length ∧ f.tmp 26 = .slice aa s.alts.length ac ∧ f.tmp 1 = .pointer (some ⟨H.n, 0, none⟩) ∧ f.tmp 3 = .map (some (H.n + 1)) ∧ f.tmp 4 = .int .i64 day ∧ f.defers = [] ∧ Hid (errGo s.words.length day ((s.alts.take k).map (·.id)) (s.alts.drop k) = er) ∧ H.n + 1 < H'.n ∧ Ext H H' ∧ H'.get H.n = .row [Value.slice wa s.words.length wc, Value.slice aa s.alts.length ac] 25 ∧ MapIs H' (H.n + 1) (seenL (s.alts.take k))) s.alts.length ?_ ?_
    · refine ⟨0, 0, by simp, by simp, (by first | (go_simp; done) | (go_simp; go_num; done) | assumption), (by first | (go_simp; done) | (go_simp; go_num; done) | assumption), (by first | (go_simp; done) | (go_simp; go_num; done) | assumption), (by first | (go_simp; done) | (go_simp; go_num; done) | assumption), (by first | (go_simp; done) | (go_simp; go_num; done) | assumption), (by first | (go_simp; done) | (go_simp; go_num; done) | assumption), (by first | (go_simp; done) | (go_simp; go_num; done) | assumption), Lib.hid (by simpa using HE2.out), ?_, ?_, ?_, ?_⟩
      · rw [AHeap.n_push, AHeap.n_push]; omega
      · exact ((Ext.refl _).push' _).push' _
      · rw [AHeap.get_push_old (by rw [AHeap.n_push]; omega), AHeap.get_push_new]
      · exact MapIs.new
    clear f0 hd HE2 f
    rintro m f H' ⟨k, day, hk, rfl, f28, f27, f26, f1, f3, f4, hd, HG, hn, hx, hg, hm⟩
    have hc0 : cellAt H' H.n 0 = some (Value.slice wa s.words.length wc) := by simp [cellAt, hg]
    have hc1 : cellAt H' H.n 1 = some (Value.slice aa s.alts.length ac) := by simp [cellAt, hg]
    have hn0 : H.n < H'.n := by omega
    have HX := Lib.hid hx
    have HM := Lib.hid hm
    have HGT := Lib.hid hg
    clear hx hm hg
    by_cases hlt : k < s.alts.length
    · obtain ⟨b, o, sp, rfl, hb, hx6, -⟩ := (HA.out.ext HX.out).at_ hlt
      have HD := Lib.hid (List.drop_eq_getElem_cons hlt)
      have HT := Lib.hid (List.take_succ_eq_append_getElem hlt)
      generalize s.alts[k] = a at hx6 HD HT
      obtain ⟨i, kd, dy, fr, to, wd⟩ := a
      obtain ⟨⟨xi, xk, xd, xf, xt, xw⟩, hxv⟩ := look_val (s.alts.take k) i
      simp only [Alt.cells] at hx6
      simp only [Alt.val] at hxv
      have HIS := Lib.hid (look_seen (s.alts.take k) i)
      repeat' (first | (with_reducible first | refine CodeS.seq ?_ | refine CodeS.region_k fun K hK => ?_ | refine opsP_go fun K2 hK2 => ?_ | refine Post.then_normal ?_ | refine Post.then_ret ?_ | refine Post.then_exit ?_ | refine Post.block_normal ?_ | refine Post.block_ret ?_ | refine Post.block_here ?_ | refine Post.scope_normal ?_ | refine Post.scope_ret ?_ | refine Post.scope_exit ?_ | refine Post.round_ret ?_ | refine Post.round_exit ?_ | refine CodeS.block ?_ | refine CodeS.skip ?_ | refine CodeS.ret ?_ | refine CodeS.exit ?_ | refine CodeS.scope ?_ | refine CodeS.label ?_) | ((with_reducible refine opsP_nil (hK _ _ ?_)); clear hK K) | ((with_reducible refine opsP_gd ?hj ?hlt fun K1 K3 d hdst h1 h3 => ?_); (case hj => rfl); (case hlt => exact Nat.le_of_ble_eq_true rfl); cases hdst; go_simp) | ((with_reducible refine CodeS.cond_k fun K1 K3 h1 h3 => ?_); go_simp) | (refine h1 ?_; clear h1 h3 K1 K3) | (refine h3 ?_; clear h1 h3 K1 K3) | ((refine Either.mk (fun hb => h1 ?_) (fun hb => h3 ?_)) <;> (clear h1 h3 K1 K3; (try have hb2 := of_decide hb); (try have hb2 := of_not_decide_lt hb); (try have hb2 := of_not_decide_le hb); (try have hb2 := of_not_decide_ltN hb); (try have hb2 := of_not_decide_leN hb))) | ((refine Either.mk (fun hb => h3 ?_) (fun hb => h1 ?_)) <;> (clear h1 h3 K1 K3; (try have hb2 := of_decide hb); (try have hb2 := of_not_decide_lt hb); (try have hb2 := of_not_decide_le hb); (try have hb2 := of_not_decide_ltN hb); (try have hb2 := of_not_decide_leN hb))) | (refine fun (K2 : _ → AHeap → Prop) hK2 => ?_) | ((with_reducible refine Post.block_off ?hn ?_); (case hn => decide)) | ((with_reducible first | refine Post.body_k ?hd (fun K hK => ?_) | refine Post.body_kn ?hd (fun K hK => ?_)); (case hd => (go_simp; done)); go_simp; refine hK _ _ ?_; clear hK K) | (go_simp; (try go_bits); (try first | ((with_reducible show CallS _ _ _ _ _ _); refine CallS.mono (right_s (a := ⟨i, kd, dy, fr, to, wd⟩) hwl) ?_; rintro _ _ ⟨rfl, rfl⟩) | ((refine look_k ma111 un3 ze61 (HM.out.ext hn ((Ext.refl _).push' _)) ?_); go_simp) | ((refine update_k ma111 un3 (HM.out.ext hn (((Ext.refl _).push' _).push' _)) fun H2 hn2 hm2 hg2 => ?_); (have hq2 : cellAt H2 H'.n 2 = some (.int .i64 dy) := (cellAt_get (hg2 _ (by omega))).trans (by go_simp)); go_simp)); refine hK2 _ _ ?_; clear hK2 K2))
      · refine ⟨?_, HX.out.push' _⟩
        have hr : Alt.right ⟨i, kd, dy, fr, to, wd⟩ s.words.length = false := by simpa using hb
        rw [← HG.out, HD.out]; simp [errGo, hr]
      · refine ⟨?_, HX.out.push' _⟩
        have hr : dy < day := by simpa using hb
        rw [← HG.out, HD.out]; simp [errGo, hr]
      · refine ⟨?_, (HX.out.push' _).push' _⟩
        have hr : Alt.right ⟨i, kd, dy, fr, to, wd⟩ s.words.length = true := by simpa using ‹(!Alt.right ⟨i, kd, dy, fr, to, wd⟩ s.words.length) = false›
        have hi : i ∈ (s.alts.take k).map (·.id) := by rw [HIS.out] at hb; simpa using hb
        have hdy : ¬ dy < day := by simpa using ‹decide (dy < day) = false›
        rw [← HG.out, HD.out, errGo, if_neg (by simp [hr, hdy]), if_pos hi]
      · have hr : Alt.right ⟨i, kd, dy, fr, to, wd⟩ s.words.length = true := by simpa using ‹(!Alt.right ⟨i, kd, dy, fr, to, wd⟩ s.words.length) = false›
        have hi : i ∉ (s.alts.take k).map (·.id) := by rw [HIS.out] at hb; simpa using hb
        have hdy : ¬ dy < day := by simpa using ‹decide (dy < day) = false›
        have hnew : lookL (seenL (s.alts.take k)) i = none := by
          have hq := HIS.out
          rw [decide_eq_false hi] at hq
          cases hl : lookL (seenL (s.alts.take k)) i with
          | none => rfl
          | some y => rw [hl] at hq; cases hq
        refine Post.round_normal ⟨s.alts.length - (k + 1), by omega, k + 1, dy, by omega, rfl, (by first | (go_simp; done) | (go_simp; go_num; done) | assumption), (by first | (go_simp; done) | (go_simp; go_num; done) | assumption), (by first | (go_simp; done) | (go_simp; go_num; done) | assumption), (by first | (go_simp; done) | (go_simp; go_num; done) | assumption), (by first | (go_simp; done) | (go_simp; go_num; done) | assumption), (by first | (go_simp; done) | (go_simp; go_num; done) | assumption), (by first | (go_simp; done) | (go_simp; go_num; done) | assumption), Lib.hid ?_, ?_, ?_, ?_, ?_⟩
        · rw [← HG.out, HD.out, HT.out, errGo, if_neg (by simp [hr, hdy]), if_neg hi]; simp
        · rw [hn2, AHeap.n_push, AHeap.n_push]; omega
        · have hle := HX.out.n
          refine ⟨by rw [hn2, AHeap.n_push, AHeap.n_push]; omega, fun j hj => ?_⟩
          rw [hg2 _ (by omega), AHeap.get_push_old (by rw [AHeap.n_push]; omega), AHeap.get_push_old (by omega), HX.out.get j hj]
        · rw [hg2 _ (by omega), AHeap.get_push_old (by rw [AHeap.n_push]; omega), AHeap.get_push_old (by omega)]; exact HGT.out
        · rw [putL_none _ _ _ hnew] at hm2
          rw [HT.out]; simpa [seenL, Alt.val] using hm2
    · repeat' (first | (with_reducible first | refine CodeS.seq ?_ | refine CodeS.region_k fun K hK => ?_ | refine opsP_go fun K2 hK2 => ?_ | refine Post.then_normal ?_ | refine Post.then_ret ?_ | refine Post.then_exit ?_ | refine Post.block_normal ?_ | refine Post.block_ret ?_ | refine Post.block_here ?_ | refine Post.scope_normal ?_ | refine Post.scope_ret ?_ | refine Post.scope_exit ?_ | refine Post.round_ret ?_ | refine Post.round_exit ?_ | refine CodeS.block ?_ | refine CodeS.skip ?_ | refine CodeS.ret ?_ | refine CodeS.exit ?_ | refine CodeS.scope ?_ | refine CodeS.label ?_) | ((with_reducible refine opsP_nil (hK _ _ ?_)); clear hK K) | ((with_reducible refine opsP_gd ?hj ?hlt fun K1 K3 d hdst h1 h3 => ?_); (case hj => rfl); (case hlt => exact Nat.le_of_ble_eq_true rfl); cases hdst; go_simp) | ((with_reducible refine CodeS.cond_k fun K1 K3 h1 h3 => ?_); go_simp) | (refine h1 ?_; clear h1 h3 K1 K3) | (refine h3 ?_; clear h1 h3 K1 K3) | ((refine Either.mk (fun hb => h1 ?_) (fun hb => h3 ?_)) <;> (clear h1 h3 K1 K3; (try have hb2 := of_decide hb); (try have hb2 := of_not_decide_lt hb); (try have hb2 := of_not_decide_le hb); (try have hb2 := of_not_decide_ltN hb); (try have hb2 := of_not_decide_leN hb))) | ((refine Either.mk (fun hb => h3 ?_) (fun hb => h1 ?_)) <;> (clear h1 h3 K1 K3; (try have hb2 := of_decide hb); (try have hb2 := of_not_decide_lt hb); (try have hb2 := of_not_decide_le hb); (try have hb2 := of_not_decide_ltN hb); (try have hb2 := of_not_decide_leN hb))) | (refine fun (K2 : _ → AHeap → Prop) hK2 => ?_) | ((with_reducible refine Post.block_off ?hn ?_); (case hn => decide)) | ((with_reducible first | refine Post.body_k ?hd (fun K hK => ?_) | refine Post.body_kn ?hd (fun K hK => ?_)); (case hd => (go_simp; done)); go_simp; refine hK _ _ ?_; clear hK K) | (go_simp; (try go_bits); refine hK2 _ _ ?_; clear hK2 K2))
      refine ⟨?_, HX.out⟩
      rw [← HG.out, List.drop_eq_nil_of_le (by omega)]; rfl

theorem check_s {loops : List (Nat × LInfo)} {H : AHeap} {v : Value} {s : Sheet} (hv : SheetV H v s) : CallS Try.prog loops 27 [v] H fun r H' => r = .int .i64 (err s) ∧ H' = H :=
  (check_e hv).forget (R := fun v => v = .int .i64 (err s)) (by rintro v rfl; rfl)

/-! One of its lines. -/

def errLine (s : Sheet) (n : Int) : Int := if err s ≠ 0 then err s else if win 0 (s.words.length - 1) n then 0 else 1

theorem checkLine_s {loops : List (Nat × LInfo)} {H : AHeap} {v : Value} {s : Sheet} {n : Int} (hv : SheetV H v s) : CallS Try.prog loops 57 [v, .int .i64 n] H fun r H' => r = .int .i64 (errLine s n) ∧ H' = H := by
  refine CallS.forget (R := fun v => v = .int .i64 (errLine s n)) (by rintro v rfl; rfl) ?_
  have HV := Lib.hid hv
  obtain ⟨wv, av, rfl, hw, ha⟩ := hv
  obtain ⟨hwl, wa, wc, rfl⟩ := hw.slice
  obtain ⟨hal, aa, ac, rfl⟩ := ha.slice
  clear hw ha
  generalize he : errLine s n = er
  have HE := Lib.hid he
  clear he
  refine CallS.enter' Try.func57 rfl Try.ntmps57 (by simp) fun f hd hf => ?_
  have f0 := hf 0
  have f1 := hf 1
  simp at f0 f1
  clear hf
  repeat' (first | (with_reducible first | refine CodeS.seq ?_ | refine CodeS.region_k fun K hK => ?_ | refine opsP_go fun K2 hK2 => ?_ | refine Post.then_normal ?_ | refine Post.then_ret ?_ | refine Post.then_exit ?_ | refine Post.block_normal ?_ | refine Post.block_ret ?_ | refine Post.block_here ?_ | refine Post.scope_normal ?_ | refine Post.scope_ret ?_ | refine Post.scope_exit ?_ | refine Post.round_ret ?_ | refine Post.round_exit ?_ | refine CodeS.block ?_ | refine CodeS.skip ?_ | refine CodeS.ret ?_ | refine CodeS.exit ?_ | refine CodeS.scope ?_ | refine CodeS.label ?_) | ((with_reducible refine opsP_nil (hK _ _ ?_)); clear hK K) | ((with_reducible refine opsP_gd ?hj ?hlt fun K1 K3 d hdst h1 h3 => ?_); (case hj => rfl); (case hlt => exact Nat.le_of_ble_eq_true rfl); cases hdst; go_simp) | ((with_reducible refine CodeS.cond_k fun K1 K3 h1 h3 => ?_); go_simp) | (refine h1 ?_; clear h1 h3 K1 K3) | (refine h3 ?_; clear h1 h3 K1 K3) | ((refine Either.mk (fun hb => h1 ?_) (fun hb => h3 ?_)) <;> (clear h1 h3 K1 K3; (try have hb2 := of_decide hb); (try have hb2 := of_not_decide_lt hb); (try have hb2 := of_not_decide_le hb); (try have hb2 := of_not_decide_ltN hb); (try have hb2 := of_not_decide_leN hb))) | ((refine Either.mk (fun hb => h3 ?_) (fun hb => h1 ?_)) <;> (clear h1 h3 K1 K3; (try have hb2 := of_decide hb); (try have hb2 := of_not_decide_lt hb); (try have hb2 := of_not_decide_le hb); (try have hb2 := of_not_decide_ltN hb); (try have hb2 := of_not_decide_leN hb))) | (refine fun (K2 : _ → AHeap → Prop) hK2 => ?_) | ((with_reducible refine Post.block_off ?hn ?_); (case hn => decide)) | ((with_reducible first | refine Post.body_k ?hd (fun K hK => ?_) | refine Post.body_kn ?hd (fun K hK => ?_)); (case hd => (go_simp; done)); go_simp; refine hK _ _ ?_; clear hK K) | (go_simp; (try go_bits); (try first | ((with_reducible show CallS _ _ _ _ _ _); refine CallS.mono within_s ?_; rintro _ _ ⟨rfl, rfl⟩) | ((with_reducible show CallS _ _ _ _ _ _); refine CallS.mono (check_s (s := s) (HV.out.ext ((Ext.refl _).push' _))) ?_; rintro _ _ ⟨rfl, rfl⟩)); refine hK2 _ _ ?_; clear hK2 K2))
  · refine ⟨?_, (Ext.refl _).push' _⟩
    have h1 : err s ≠ 0 := by simpa using hb
    rw [← HE.out, errLine, if_pos h1]
  all_goals
    refine ⟨?_, (Ext.refl _).push' _⟩
    have h1 : err s = 0 := by simpa using ‹(err s != 0) = false›
    rw [← HE.out, errLine, if_neg (by simp [h1])]
    simp at hb
    simp [hb]
end Go.Proofs.Try
