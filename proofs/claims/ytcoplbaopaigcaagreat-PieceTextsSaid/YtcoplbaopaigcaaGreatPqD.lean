/- The leaves of a book, in the program and in the specification. -/
import Derived.Test.YtcoplbaopaigcaaGreatPqC
set_option linter.all false
namespace Go.Proofs.YtcoplbaopaigcaaGreat
open Go.RowKit
/-- The leaves of one quire, up to a number. -/
def upTo (i : Nat) (gl : List Int) (m : Nat) : List (Int × Int) :=
  ((List.range m).filter fun (k : Nat) => !gl.contains ((k : Int) + 1)).map fun (k : Nat) => ((i : Int), (k : Int) + 1)
/-- The leaves of the first k quires. -/
def firstL (l : List Q) : Nat → List (Int × Int)
  | 0 => []
  | k + 1 => firstL l k ++ match l[k]? with
    | some q => upTo k q.gl q.lv.toNat
    | none => []
def leavesL (l : List Q) : List (Int × Int) := firstL l l.length

theorem upTo_zero (i : Nat) (gl : List Int) : upTo i gl 0 = [] := rfl
theorem upTo_succ (i : Nat) (gl : List Int) (m : Nat) :
    upTo i gl (m + 1) = upTo i gl m ++ if gl.contains ((m : Int) + 1) = true then [] else [((i : Int), (m : Int) + 1)] := by
  unfold upTo
  rw [List.range_succ, List.filter_append, List.map_append]
  by_cases h : gl.contains ((m : Int) + 1) = true <;> simp at h <;> simp [h]
theorem firstL_succ {l : List Q} {k : Nat} (hk : k < l.length) : firstL l (k + 1) = firstL l k ++ upTo k l[k].gl l[k].lv.toNat := by
  rw [firstL, List.getElem?_eq_getElem hk]
theorem upTo_length (i : Nat) (gl : List Int) (m : Nat) : (upTo i gl m).length ≤ m := by
  unfold upTo
  rw [List.length_map]
  exact Nat.le_trans (List.length_filter_le _ _) (by simp)
theorem firstL_length (l : List Q) (h : ∀ q ∈ l, q.lv ≤ 24) : ∀ k, (firstL l k).length ≤ 24 * k := by
  intro k
  induction k with
  | zero => simp [firstL]
  | succ k ih =>
    rw [firstL, List.length_append]
    rcases hq : l[k]? with _ | q
    · simp; omega
    · have h1 := upTo_length k q.gl q.lv.toNat
      have h2 := h q (List.mem_of_getElem? hq)
      simp only
      omega
theorem mem_upTo {i : Nat} {gl : List Int} {m : Nat} {f : Int × Int} : f ∈ upTo i gl m ↔ f.1 = i ∧ 1 ≤ f.2 ∧ f.2 ≤ m ∧ f.2 ∉ gl := by
  unfold upTo
  obtain ⟨a, b⟩ := f
  simp only [List.mem_map, List.mem_filter, List.mem_range, Prod.mk.injEq]
  constructor
  · rintro ⟨k, ⟨hk, hg⟩, rfl, rfl⟩
    exact ⟨rfl, by omega, by omega, by simpa using hg⟩
  · rintro ⟨rfl, h1, h2, h3⟩
    exact ⟨(b - 1).toNat, ⟨by omega, by rw [show (((b - 1).toNat : Nat) : Int) + 1 = b by omega]; simpa using h3⟩, rfl, by omega⟩
theorem mem_firstL {l : List Q} {f : Int × Int} : ∀ k, k ≤ l.length → (f ∈ firstL l k ↔ ∃ i, ∃ h : i < l.length, i < k ∧ f.1 = i ∧ 1 ≤ f.2 ∧ f.2 ≤ l[i].lv ∧ f.2 ∉ l[i].gl) := by
  intro k
  induction k with
  | zero => intro _; simp [firstL]
  | succ k ih =>
    intro hk
    rw [firstL_succ (by omega), List.mem_append, ih (by omega), mem_upTo]
    constructor
    · rintro (⟨i, h, hi, h1⟩ | ⟨h1, h2, h3, h4⟩)
      · exact ⟨i, h, by omega, h1⟩
      · exact ⟨k, by omega, by omega, h1, h2, by omega, h4⟩
    · rintro ⟨i, h, hi, h1, h2, h3, h4⟩
      by_cases hik : i = k
      · subst hik; exact .inr ⟨h1, h2, by omega, h4⟩
      · exact .inl ⟨i, h, by omega, h1, h2, h3, h4⟩
theorem mem_leavesL {l : List Q} {f : Int × Int} : f ∈ leavesL l ↔ ∃ i, ∃ h : i < l.length, f.1 = i ∧ 1 ≤ f.2 ∧ f.2 ≤ l[i].lv ∧ f.2 ∉ l[i].gl := by
  unfold leavesL
  rw [mem_firstL _ (Nat.le_refl _)]
  constructor
  · rintro ⟨i, h, _, h1⟩; exact ⟨i, h, h1⟩
  · rintro ⟨i, h, h1⟩; exact ⟨i, h, h, h1⟩


theorem isLeaf_iff {l : List Q} {a b : Int} : isLeaf l a b = true ↔ (a, b) ∈ leavesL l := by
  rw [mem_leavesL]
  unfold isLeaf hasI
  constructor
  · intro h
    simp only [Bool.and_eq_true, win_iff] at h
    obtain ⟨⟨h0, h0'⟩, h1⟩ := h
    rcases hq : l[a.toNat]? with _ | q
    · rw [hq] at h1; cases h1
    · rw [hq] at h1
      simp only [Bool.and_eq_true, win_iff] at h1
      obtain ⟨hlt, he⟩ := List.getElem?_eq_some_iff.1 hq
      subst he
      exact ⟨a.toNat, hlt, by simp only; omega, h1.1.1, h1.1.2, by simpa using h1.2⟩
  · rintro ⟨i, h, h1, h2, h3, h4⟩
    simp only at h1
    subst h1
    simp only [Int.toNat_natCast, List.getElem?_eq_getElem h, Bool.and_eq_true, win_iff]
    exact ⟨⟨by omega, by omega⟩, ⟨h2, h3⟩, by simpa using h4⟩
theorem isLeaf_hasL (l : List Q) (a b : Int) : isLeaf l a b = hasL (a, b) (leavesL l) := by
  rw [Bool.eq_iff_iff, isLeaf_iff]; simp [hasL]
def cellsL (ls : List (Int × Int)) : List Value := ls.flatMap fun f => [.int .i64 f.1, .int .i64 f.2]
theorem cellsL_app (a b : List (Int × Int)) : cellsL (a ++ b) = cellsL a ++ cellsL b := by simp [cellsL]
theorem cellsL_length (ls : List (Int × Int)) : (cellsL ls).length = ls.length * 2 := by
  induction ls with
  | nil => rfl
  | cons a t ih =>
    show ([Value.int .i64 a.1, Value.int .i64 a.2] ++ cellsL t).length = _
    rw [List.length_append, ih]
    simp only [List.length_cons, List.length_nil]
    omega
theorem cellsL_get : ∀ (ls : List (Int × Int)) (k : Nat) (h : k < ls.length), (cellsL ls)[k * 2]? = some (.int .i64 ls[k].1) ∧ (cellsL ls)[k * 2 + 1]? = some (.int .i64 ls[k].2) := by
  intro ls
  induction ls with
  | nil => intro k h; simp at h
  | cons a t ih =>
    intro k h
    cases k with
    | zero => simp [cellsL]
    | succ k =>
      have := ih k (by simpa using h)
      simp only [cellsL, List.flatMap_cons] at *
      rw [show (k + 1) * 2 = k * 2 + 2 by omega, show k * 2 + 2 + 1 = k * 2 + 1 + 2 by omega]
      simpa using this
/-- What the call owns reads as a list of leaves. -/
theorem ls_of_own {w : World} {base : Nat} {v : Value} {ls : List (Int × Int)} (h : w.ownsRow base 90 2 v ls.length (cellsL ls)) :
    ∃ A c, v = .slice A ls.length c ∧ Ls w w.heap.size A ls.length ls := by
  rcases h.2 with ⟨rfl, h0⟩ | ⟨g, cap, cur, rfl, hb, hh, hc, hm, _⟩
  · exact ⟨none, 0, by rw [h0], rfl, by omega, by intro hn; omega⟩
  · refine ⟨_, _, rfl, rfl, by omega, fun hn => ⟨_, rfl, ?_, fun k hk => ?_⟩⟩
    · have := h.lt g rfl; exact this.2
    · have hce := h.cells (g := g) rfl
      obtain ⟨e0, e1⟩ := cellsL_get ls k hk
      refine ⟨hce _ _ e0, ?_⟩
      have := hce _ _ e1
      rw [← this]
      congr 1
      unfold Addr.add
      by_cases hk0 : k * 2 = 0 <;> simp [hk0]
theorem own_below {w w1 : World} {base : Nat} {e : TypeId} {size n : Nat} {v : Value} {xs : List Value} (h : w.ownsRow base e size v n xs) (hb : Below w.heap.size w w1) : w1.ownsRow base e size v n xs :=
  h.kept (row := none) ⟨hb.os, hb.tape, hb.output, hb.size, fun k hk _ => hb.block k hk⟩ (by cases v.ownBlock <;> simp)
end Go.Proofs.YtcoplbaopaigcaaGreat
namespace Go.Proofs.YtcoplbaopaigcaaGreat
open Go.RowKit
def Blk (w : World) (g : Nat) (t : TypeId) (cs : Array Value) : Prop := w.heap[g]? = some (.cells cs t (0, 0))
section
variable {w w' : World} {g : Nat} {t : TypeId} {cs : Array Value}
theorem Blk.lt (h : Blk w g t cs) : g < w.heap.size := by
  rcases Nat.lt_or_ge g w.heap.size with hlt | hge
  · exact hlt
  · unfold Blk at h; rw [Array.getElem?_eq_none hge] at h; cases h
theorem Blk.cell (h : Blk w g t cs) (i : Nat) : w.cell? ⟨g, i, none⟩ = cs[i]? := cell_of_row w g i cs t (0, 0) h
theorem Blk.new (w : World) (t : TypeId) (cs : Array Value) : Blk (w.alloc (.cells cs t)) w.heap.size t cs := heap_alloc_new w _
theorem Blk.alloc (h : Blk w g t cs) (o : Obj) : Blk (w.alloc o) g t cs := (Below.heap_alloc w o g h.lt).trans h
theorem Blk.below {B : Nat} (h : Blk w g t cs) (hb : Below B w w') (hg : g < B) : Blk w' g t cs := (hb.block g hg).trans h
theorem Blk.grown {row : Option Nat} (h : Blk w g t cs) (hb : w.grownBy w' row) (hg : some g ≠ row) : Blk w' g t cs := (hb.block g h.lt hg).trans h
theorem Blk.ne_ {g' : Nat} {t' : TypeId} {cs' : Array Value} (h : Blk w g t cs) (h' : Blk w g' t' cs') (hne : t ≠ t') : g ≠ g' := by
  rintro rfl
  unfold Blk at h h'
  rw [h] at h'
  injection h' with h'
  injection h' with _ ht
  exact hne ht
theorem own_blk_ne {base : Nat} {e : TypeId} {size n : Nat} {v : Value} {xs : List Value} (h : w.ownsRow base e size v n xs) (hg : Blk w g t cs) (hne : e ≠ t) : v.ownBlock ≠ some g := by
  rcases h.2 with ⟨rfl, _⟩ | ⟨g', cap, cur, rfl, _, hh, _⟩
  · simp [Value.ownBlock]
  · intro he
    have : g' = g := by simpa [Value.ownBlock] using he
    subst this
    exact Blk.ne_ (t := e) hh hg hne rfl
end
theorem info90 : (Tryz.prog.info? 90).map (fun i => (i.zero, i.size, i.bytes)) = some (some (.agg #[.int .i64 0, .int .i64 0]), 2, 16) := by kernel_rfl

theorem new2 (w : World) (t : TypeId) (x y : Value) : ∀ j u, [x, y][j]? = some u → (w.alloc (.cells #[x, y] t)).cell? ((⟨w.heap.size, 0, none⟩ : Addr).add j) = some u := by
  intro j u h
  have hb : Blk (w.alloc (.cells #[x, y] t)) w.heap.size t #[x, y] := Blk.new _ _ _
  have e : (⟨w.heap.size, 0, none⟩ : Addr).add j = ⟨w.heap.size, j, none⟩ := by unfold Addr.add; by_cases h0 : j = 0 <;> simp [h0]
  rw [e, hb.cell]
  simpa using h
theorem one2 (a b : Int) : ∀ u ∈ [Value.int .i64 a, Value.int .i64 b], u.oneCell' = true := by
  intro u hu
  simp only [List.mem_cons, List.not_mem_nil, or_false] at hu
  rcases hu with rfl | rfl <;> rfl
/-- It returns a list of leaves of its own. -/
def RetLs (ls : List (Int × Int)) (w : World) (e : Ending) (w' : World) : Prop := ∃ v, e = .returned v ∧ w'.ownsRow w.heap.size 90 2 v ls.length (cellsL ls) ∧ Below w.heap.size w w'
def LvRel (qs : List Q) (n : Nat) (w wr : World) (v i : Value) : Prop :=
  ∃ k : Nat, k ≤ n ∧ i = .int .i64 k ∧ Below w.heap.size w wr ∧ wr.ownsRow w.heap.size 90 2 v (firstL qs k).length (cellsL (firstL qs k))
def LvIn (qs : List Q) (k : Nat) (q : Q) (w : World) (bq : Nat) (wr : World) (v i : Value) : Prop :=
  ∃ m : Nat, (m : Int) ≤ q.lv ∧ i = .int .i64 ((m : Int) + 1) ∧ Below w.heap.size w wr ∧ Blk wr bq 168 #[.string q.s, .int .i64 q.lv, .slice q.A q.n q.c] ∧
    wr.ownsRow w.heap.size 90 2 v (firstL qs k ++ upTo k q.gl m).length (cellsL (firstL qs k ++ upTo k q.gl m))
theorem lv_next {qs : List Q} {k m bq : Nat} {q : Q} {w wi w1 : World} {u v1 : Value} (HOI : Hid (wi.ownsRow w.heap.size 90 2 u (firstL qs k ++ upTo k q.gl m).length (cellsL (firstL qs k ++ upTo k q.gl m))))
    (HBK : Hid (Blk wi bq 168 #[.string q.s, .int .i64 q.lv, .slice q.A q.n q.c])) (hbi : Below w.heap.size w wi)
    (HG1 : Hid ((wi.alloc (.cells #[.int .i64 k, .int .i64 ((m : Int) + 1)] 90)).grownBy w1 u.ownBlock))
    (HO1 : Hid (w1.ownsRow w.heap.size 90 2 v1 ((firstL qs k ++ upTo k q.gl m).length + 1) (cellsL (firstL qs k ++ upTo k q.gl m) ++ [.int .i64 k, .int .i64 ((m : Int) + 1)])))
    (hg : hasI ((m : Int) + 1) q.gl = false) (hm : (m : Int) + 1 ≤ q.lv) : LvIn qs k q w bq w1 v1 (.int .i64 ((m : Int) + 1 + 1)) := by
  refine ⟨m + 1, by omega, by go_num, ?_, ?_, ?_⟩
  · exact (hbi.alloc hbi.size _).grown HG1.out (by have := hbi.size; simp; omega) (fun g hgk => (HOI.out.lt g hgk).1)
  · exact (HBK.out.alloc _).grown HG1.out (fun e => own_blk_ne HOI.out HBK.out (by decide) e.symm)
  · have hc : ¬ q.gl.contains ((m : Int) + 1) = true := by unfold hasI at hg; rw [hg]; simp
    have e : firstL qs k ++ upTo k q.gl (m + 1) = (firstL qs k ++ upTo k q.gl m) ++ [((k : Int), (m : Int) + 1)] := by rw [upTo_succ, if_neg hc, List.append_assoc]
    rw [e, cellsL_app, List.length_append]
    exact HO1.out
set_option maxHeartbeats 4000000 in
set_option maxRecDepth 100000 in
theorem leavesOf_any (A : Option Addr) (n c : Nat) (qs : List Q) (w : World) (B : Nat) (hB : B ≤ w.heap.size) (hq : Qs w B A n qs) (h40 : n ≤ 40) (h24 : ∀ q ∈ qs, 2 ≤ q.lv ∧ q.lv ≤ 24) :
    Calls Tryz.prog 117 #[.slice A n c] w (RetLs (leavesL qs) w) := by
  have HL := hid hq.1
  have H24 := hid h24
  clear h24
  obtain ⟨i0, hi0, hz0, hz1, hz2⟩ := info_parts info90
  go_enter Tryz.func117, Tryz.ntmps117
  go_wp2
  go_loopw [3, 9] (fun v i wr => LvRel qs n w wr v i) (fun _ i _ => n - (intOf i).toNat)
  case atStart => exact ⟨0, Nat.zero_le _, rfl, Below.refl _ _, World.ownsRow_nil _ _ _ _⟩
  case round =>
    obtain ⟨k, hk, rfl, hbl, hown⟩ := hrel
    obtain ⟨wo, rfl⟩ : ∃ wo : World, wo = wr := ⟨_, rfl⟩
    have HO := hid hown
    clear hown
    by_cases hlt : k < n
    · obtain ⟨ad, p, q, rfl, hp, hqk, hfit, hat⟩ := (hq.below (hbl.mono hB)).at_ hlt
      have e0 := hat.c0
      have e1 := hat.c1
      have e2 := hat.c2
      have hBo : B ≤ wo.heap.size := Nat.le_trans hB hbl.size
      have hkl : k < qs.length := by rw [HL.out]; exact hlt
      have HQ := hid (show qs[k] = q by rw [List.getElem?_eq_getElem hkl] at hqk; exact Option.some.inj hqk)
      have HF := hid hfit
      clear hqk hfit
      have hlv := H24.out q (by rw [← HQ.out]; exact List.getElem_mem _)
      have hlen : (firstL qs k).length ≤ 24 * k := firstL_length qs (fun q h => (H24.out q h).2) k
      go_wp2
      go_loopw [3, 6] (fun v i wr => LvIn qs k q w wo.heap.size wr v i) (fun _ i _ => 30 - (intOf i).toNat)
      case atStart => exact ⟨0, by omega, rfl, hbl.alloc hbl.size _, Blk.new _ _ _, by rw [upTo_zero, List.append_nil]; exact HO.out.alloc _⟩
      case round =>
        clear e0 e1 e2
        obtain ⟨m, hm, rfl, hbi, hblk, howni⟩ := hrel
        obtain ⟨wi, rfl⟩ : ∃ wi : World, wi = wr := ⟨_, rfl⟩
        have HOI := hid howni
        have HBK := hid hblk
        have f1 : wi.cell? ⟨wo.heap.size, 1, none⟩ = some (.int .i64 q.lv) := by rw [hblk.cell]; rfl
        have f2 : wi.cell? ⟨wo.heap.size, 2, none⟩ = some (.slice q.A q.n q.c) := by rw [hblk.cell]; rfl
        clear howni hblk
        have hBi : B ≤ wi.heap.size := Nat.le_trans hB hbi.size
        have hup := upTo_length k q.gl m
        have hgr : Reads wi B 1 q.A q.n (q.gl.map (Value.int .i64)) := by
          obtain ⟨_, _, _, _, hx⟩ := ((hq.below (hbi.mono hB)).2.2.1 q (by rw [← HQ.out]; exact List.getElem_mem _))
          exact hx
        have HGR := hid hgr
        clear hgr
        by_cases hml : (m : Int) + 1 ≤ q.lv
        · by_cases hg : hasI ((m : Int) + 1) q.gl = true
          · go_wp2_with (go_at_call 98; refine (containsI_any q.A q.n q.c q.gl ((m : Int) + 1) wi B HGR.out HF.out.2.1).mono ?_; rintro e w' ⟨rfl, rfl⟩)
            go_roundw
            case rel => exact ⟨m + 1, by omega, by go_num, hbi, HBK.out, by rw [upTo_succ, if_pos (show q.gl.contains _ = true from hg), List.append_nil]; exact HOI.out⟩
            case measure => simp [intOf]; omega
          · have hg' : hasI ((m : Int) + 1) q.gl = false := by simpa using hg
            go_wp2_with (first
              | (go_at_call 98; refine (containsI_any q.A q.n q.c q.gl ((m : Int) + 1) wi B HGR.out HF.out.2.1).mono ?_; rintro e w' ⟨rfl, rfl⟩)
              | (at_builtin
                 refine wpList_append_own _ rfl (.tmp 25) (.tmp 29) 170 rfl w.heap.size 90 i0 _ 2 16 Tryz.underlying170 hi0 hz0 hz1 hz2 rfl (by decide) u3 _ _ rfl (HOI.out.alloc _) ⟨wi.heap.size, 0, none⟩ 1 1 [.int .i64 k, .int .i64 ((m : Int) + 1)] rfl rfl (new2 _ _ _ _) (one2 _ _) (by rw [List.length_append]; unfold maxLen; omega) (by rw [List.length_append]; omega) (by have := hbi.size; simp; omega) ?_
                 intro v1 w1 hown1 hg1 _hz
                 have HG1 := hid hg1
                 have HO1 := hid hown1
                 clear hg1 hown1 _hz))
            go_roundw
            case rel => exact lv_next HOI HBK hbi HG1 HO1 hg' (by omega)
            case measure => simp [intOf]; omega
        · have e : m = q.lv.toNat := by omega
          go_wp2
          go_roundw
          case rel => exact ⟨k + 1, by omega, by go_num, hbi, by rw [firstL_succ hkl, HQ.out, ← e]; exact HOI.out⟩
          case measure => simp [intOf]; omega
    · go_wp2
      refine bodyPost_ret (v := u3) (by simp [results, Tryz.results117, go_sem]) rfl ⟨u3, rfl, ?_, hbl⟩
      have e : leavesL qs = firstL qs k := by unfold leavesL; rw [HL.out]; congr 1; omega
      rw [e]; exact HO.out
end Go.Proofs.YtcoplbaopaigcaaGreat
namespace Go.Proofs.YtcoplbaopaigcaaGreat
open Go.RowKit
def LfIn (qs : List Q) (k : Nat) (q : Q) (w : World) (wr : World) (v i : Value) : Prop :=
  ∃ m : Nat, (m : Int) ≤ q.lv ∧ i = .int .i64 ((m : Int) + 1) ∧ Below w.heap.size w wr ∧
    wr.ownsRow w.heap.size 90 2 v (firstL qs k ++ upTo k q.gl m).length (cellsL (firstL qs k ++ upTo k q.gl m))
theorem isLeaf_at {qs : List Q} {k m : Nat} {q : Q} (hk : k < qs.length) (hq : qs[k] = q) (hm : (m : Int) + 1 ≤ q.lv) : isLeaf qs k ((m : Int) + 1) = !hasI ((m : Int) + 1) q.gl := by
  unfold isLeaf
  simp only [Int.toNat_natCast, List.getElem?_eq_getElem hk, hq]
  have h1 : win 0 ((qs.length : Int) - 1) (k : Int) = true := win_iff.2 ⟨by omega, by omega⟩
  have h2 : win 1 q.lv ((m : Int) + 1) = true := win_iff.2 ⟨by omega, by omega⟩
  rw [h1, h2]; simp
theorem lf_next {qs : List Q} {k m : Nat} {q : Q} {w wi w1 w2 : World} {u v1 : Value} (HOI : Hid (w2.ownsRow w.heap.size 90 2 u (firstL qs k ++ upTo k q.gl m).length (cellsL (firstL qs k ++ upTo k q.gl m))))
    (hbi : Below w.heap.size w wi) (hb2 : Below w.heap.size wi w2)
    (HG1 : Hid ((w2.alloc (.cells #[.int .i64 k, .int .i64 ((m : Int) + 1)] 90)).grownBy w1 u.ownBlock))
    (HO1 : Hid (w1.ownsRow w.heap.size 90 2 v1 ((firstL qs k ++ upTo k q.gl m).length + 1) (cellsL (firstL qs k ++ upTo k q.gl m) ++ [.int .i64 k, .int .i64 ((m : Int) + 1)])))
    (hg : hasI ((m : Int) + 1) q.gl = false) (hm : (m : Int) + 1 ≤ q.lv) : LfIn qs k q w w1 v1 (.int .i64 ((m : Int) + 1 + 1)) := by
  refine ⟨m + 1, by omega, by go_num, ?_, ?_⟩
  · have h2 := (hbi.trans hb2).size
    exact ((hbi.trans hb2).alloc h2 _).grown HG1.out (by simp; omega) (fun g hgk => (HOI.out.lt g hgk).1)
  · have hc : ¬ q.gl.contains ((m : Int) + 1) = true := by unfold hasI at hg; rw [hg]; simp
    have e : firstL qs k ++ upTo k q.gl (m + 1) = (firstL qs k ++ upTo k q.gl m) ++ [((k : Int), (m : Int) + 1)] := by rw [upTo_succ, if_neg hc, List.append_assoc]
    rw [e, cellsL_app, List.length_append]
    exact HO1.out
set_option maxHeartbeats 4000000 in
set_option maxRecDepth 100000 in
theorem leaves_any (A : Option Addr) (n c : Nat) (qs : List Q) (w : World) (B : Nat) (hB : B ≤ w.heap.size) (hq : Qs w B A n qs) (h40 : n ≤ 40) (h24 : ∀ q ∈ qs, 2 ≤ q.lv ∧ q.lv ≤ 24) :
    Calls Tryz.prog 120 #[.slice A n c] w (RetLs (leavesL qs) w) := by
  have HL := hid hq.1
  have H24 := hid h24
  clear h24
  obtain ⟨i0, hi0, hz0, hz1, hz2⟩ := info_parts info90
  go_enter Tryz.func120, Tryz.ntmps120
  go_wp2
  go_loopw [3, 4] (fun v i wr => LvRel qs n w wr v i) (fun _ i _ => n - (intOf i).toNat)
  case atStart => exact ⟨0, Nat.zero_le _, rfl, Below.refl _ _, World.ownsRow_nil _ _ _ _⟩
  case round =>
    obtain ⟨k, hk, rfl, hbl, hown⟩ := hrel
    obtain ⟨wo, rfl⟩ : ∃ wo : World, wo = wr := ⟨_, rfl⟩
    have HO := hid hown
    clear hown
    by_cases hlt : k < n
    · have hkl : k < qs.length := by rw [HL.out]; exact hlt
      obtain ⟨q, hqk⟩ : ∃ q, qs[k] = q := ⟨_, rfl⟩
      have HQ := hid hqk
      have hlv := H24.out q (by rw [← HQ.out]; exact List.getElem_mem _)
      have hlen : (firstL qs k).length ≤ 24 * k := firstL_length qs (fun q h => (H24.out q h).2) k
      clear hqk
      go_wp2
      go_loopw [3, 5] (fun v i wr => LfIn qs k q w wr v i) (fun _ i _ => 30 - (intOf i).toNat)
      case atStart => exact ⟨0, by omega, rfl, hbl, by rw [upTo_zero, List.append_nil]; exact HO.out⟩
      case round =>
        obtain ⟨m, hm, rfl, hbi, howni⟩ := hrel
        obtain ⟨wi, rfl⟩ : ∃ wi : World, wi = wr := ⟨_, rfl⟩
        have HOI := hid howni
        clear howni
        have hBi : B ≤ wi.heap.size := Nat.le_trans hB hbi.size
        have hup := upTo_length k q.gl m
        have hqi := hq.below (hbi.mono hB)
        obtain ⟨ad, p, q', rfl, hp, hqk, hfit, hat⟩ := hqi.at_ hlt
        obtain rfl : q' = q := by
          rw [List.getElem?_eq_getElem hkl, HQ.out] at hqk; exact (Option.some.inj hqk).symm
        have e1 := hat.c1
        clear hqk hfit
        by_cases hml : (m : Int) + 1 ≤ q'.lv
        · have HLF := hid (isLeaf_at hkl HQ.out hml)
          by_cases hg : hasI ((m : Int) + 1) q'.gl = true
          · have hlf : isLeaf qs (k : Int) ((m : Int) + 1) = false := by rw [HLF.out, hg]; rfl
            go_wp2_with (go_at_call 123; refine (leaf_any (some ad) n c qs (k : Int) ((m : Int) + 1) _ B (by simp; omega) (hqi.alloc hBi _)).mono ?_; rintro e w2 ⟨rfl, hb2⟩)
            go_roundw
            case rel => 
              have hb3 := ((Below.refl wi.heap.size wi).alloc (Nat.le_refl _) (Obj.cells #[Value.int IntKind.i64 k, Value.int IntKind.i64 ((m : Int) + 1)] 90)).trans (hb2.mono (by simp))
              refine ⟨m + 1, by omega, by go_num, hbi.trans (hb3.mono hbi.size), by rw [upTo_succ, if_pos (show q'.gl.contains _ = true from hg), List.append_nil]; exact own_below HOI.out hb3⟩
            case measure => simp [intOf]; omega
          · have hg' : hasI ((m : Int) + 1) q'.gl = false := by simpa using hg
            have hlf : isLeaf qs (k : Int) ((m : Int) + 1) = true := by rw [HLF.out, hg']; rfl
            go_wp2_with (first
              | (go_at_call 123; refine (leaf_any (some ad) n c qs (k : Int) ((m : Int) + 1) _ B (by simp; omega) (hqi.alloc hBi _)).mono ?_; rintro e w2 ⟨rfl, hb2⟩; obtain ⟨hc2, hf2⟩ := bcell hb2)
              | (at_builtin
                 have hb3 : Below wi.heap.size wi w2 := ((Below.refl wi.heap.size wi).alloc (Nat.le_refl _) (Obj.cells #[Value.int IntKind.i64 k, Value.int IntKind.i64 ((m : Int) + 1)] 90)).trans (hb2.mono (by simp))
                 have HO2 := hid (own_below HOI.out hb3)
                 have hs2 : w.heap.size ≤ w2.heap.size := Nat.le_trans hbi.size hb3.size
                 refine wpList_append_own _ rfl (.tmp 30) (.tmp 32) 170 rfl w.heap.size 90 i0 _ 2 16 Tryz.underlying170 hi0 hz0 hz1 hz2 rfl (by decide) u3 _ _ rfl (HO2.out.alloc _) ⟨w2.heap.size, 0, none⟩ 1 1 [.int .i64 k, .int .i64 ((m : Int) + 1)] rfl rfl (new2 _ _ _ _) (one2 _ _) (by rw [List.length_append]; unfold maxLen; omega) (by rw [List.length_append]; omega) (by simp; omega) ?_
                 intro v1 w1 hown1 hg1 _hz
                 have HB3 := hid hb3
                 have HG1 := hid hg1
                 have HO1 := hid hown1
                 clear hg1 hown1 _hz hb3))
            go_roundw
            case rel => exact lf_next HO2 hbi (HB3.out.mono hbi.size) HG1 HO1 hg' (by omega)
            case measure => simp [intOf]; omega
        · have e : m = q'.lv.toNat := by omega
          go_wp2
          go_roundw
          case rel => exact ⟨k + 1, by omega, by go_num, hbi, by rw [firstL_succ hkl, HQ.out, ← e]; exact HOI.out⟩
          case measure => simp [intOf]; omega
    · go_wp2
      refine bodyPost_ret (v := u3) (by simp [results, Tryz.results120, go_sem]) rfl ⟨u3, rfl, ?_, hbl⟩
      have e : leavesL qs = firstL qs k := by unfold leavesL; rw [HL.out]; congr 1; omega
      rw [e]; exact HO.out
end Go.Proofs.YtcoplbaopaigcaaGreat
