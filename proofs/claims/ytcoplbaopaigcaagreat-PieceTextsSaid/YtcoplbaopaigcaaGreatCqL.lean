/- The legs of pieces. -/
import Derived.Deep.RegionLaw
import Derived.BigRegion
import Derived.Test.YtcoplbaopaigcaaGreatCqK
set_option linter.all false
namespace Go.Proofs.YtcoplbaopaigcaaGreat
open Go.RowKit
def Pc.tr (q : Pc) : Tr := (q.id, q.ws.headD 0, q.ct)
def trs (ps : List Pc) : List Tr := ps.map Pc.tr
theorem trs_succ {ps : List Pc} {k : Nat} (hk : k < ps.length) : trs (ps.take (k + 1)) = trs (ps.take k) ++ [ps[k].tr] := by
  unfold trs; rw [← List.take_append_getElem hk, List.map_append]; rfl
theorem info126 : (Tryz.prog.info? 126).map (fun i => (i.zero, i.size, i.bytes)) = some (some (.agg #[.int .i64 0, .int .i64 0, .int .i64 0]), 3, 24) := by kernel_rfl
theorem new3 (w : World) (t : TypeId) (x y z : Value) : ∀ j u, [x, y, z][j]? = some u → (w.alloc (.cells #[x, y, z] t)).cell? ((⟨w.heap.size, 0, none⟩ : Addr).add j) = some u := by
  intro j u h
  have hb : Blk (w.alloc (.cells #[x, y, z] t)) w.heap.size t #[x, y, z] := Blk.new _ _ _
  have e : (⟨w.heap.size, 0, none⟩ : Addr).add j = ⟨w.heap.size, j, none⟩ := by unfold Addr.add; by_cases h0 : j = 0 <;> simp [h0]
  rw [e, hb.cell]
  simpa using h
theorem one3 (a b c : Int) : ∀ u ∈ [Value.int .i64 a, Value.int .i64 b, Value.int .i64 c], u.oneCell' = true := by
  intro u hu
  simp only [List.mem_cons, List.not_mem_nil, or_false] at hu
  rcases hu with rfl | rfl | rfl <;> rfl
theorem head_get {l : List Int} (h : 0 < l.length) : l[0] = l.headD 0 := by
  cases l with
  | nil => simp at h
  | cons a t => rfl
theorem below_drew_alloc (w : World) (o : Obj) : Below w.heap.size w (w.drew.alloc o) := ⟨rfl, rfl, rfl, by simp, fun k hk => heap_alloc_old w.drew o hk⟩
theorem step_append_own {P : Program} {ops : Array Oper} {o : Oper} {a : Act} {w : World} {K : Act → World → Prop} {Q : Exit → Act → World → Prop} {E : Prop} (hgd : o.guard = none) (s x : Operand) (t : TypeId)
    (ho : o.op = .call { callee := .builtin .append, args := #[s, x], argTypes := #[t, t] })
    (base : Nat) (e : TypeId) (i : TypeInfo) (z : Value) (size bytes : Nat) (ht : P.underlying t = some (.slice e)) (hi : P.info? e = some i) (hz : i.zero = some z)
    (hsize : i.size = size) (hby : i.bytes = bytes) (hzs : z.cells.size = size) (hsz : 0 < size)
    (v : Value) (n : Nat) (xs : List Value) (hs : a.eval s = v) (hown : w.ownsRow base e size v n xs)
    (ad : Addr) (m c : Nat) (news : List Value) (hx : a.eval x = .slice (some ad) m c) (hl : news.length = m * size) (hnews : ∀ j u, news[j]? = some u → w.cell? (ad.add j) = some u) (h1 : ∀ u ∈ news, u.oneCell' = true)
    (h63 : n + m ≤ maxLen) (hbytes : (n + m) * bytes ≤ 140737488355328) (hbase : base ≤ w.heap.size)
    (h : ∀ v' w', w'.ownsRow base e size v' (n + m) (xs ++ news) → w.grownBy w' v.ownBlock → K (a.put o.dst v') w') :
    if Region.wanted o (yielded ops a.tmps) = true then Oper.wp P o a w K Q else E := by
  have hw : Region.wanted o (yielded ops a.tmps) = true := by simp [Region.wanted, hgd]
  rw [if_pos hw]
  exact wp_append_own w s x t ho base e i z size bytes ht hi hz hsize hby hzs hsz v n xs hs hown ad m c news hx hl hnews h1 h63 hbytes hbase fun v' w' h2 h3 _ => h v' w' h2 h3
theorem add0 (p : Addr) : p.add 0 = p := by unfold Addr.add; simp
def LgRel (ps : List Pc) (n : Nat) (w wr : World) (v i : Value) : Prop :=
  ∃ k : Nat, k ≤ n ∧ i = .int .i64 k ∧ Below w.heap.size w wr ∧ wr.ownsRow w.heap.size 126 3 v (trs (ps.take k)).length (cells3 (trs (ps.take k)))
def RetG (gs : List Tr) (w : World) (e : Ending) (w' : World) : Prop := ∃ A c gs', e = .returned (.slice A gs.length c) ∧ gs'.Perm gs ∧ L3 w' w'.heap.size A gs.length gs' ∧ Below w.heap.size w w'
theorem lg_next {ps : List Pc} {n k : Nat} {q : Pc} {w w5 w1 W : World} {u v1 : Value} {y : Int} (hkl : k < ps.length) (hkn : k < n) (HQ : Hid (ps[k] = q)) (HY : Hid (q.ws.headD 0 = y))
    (HBW : Hid (Below w.heap.size w w5)) (HOW : Hid (w5.ownsRow w.heap.size 126 3 u (trs (ps.take k)).length (cells3 (trs (ps.take k))))) (hW : Below w5.heap.size w5 W)
    (HG1 : Hid (W.grownBy w1 u.ownBlock)) (HO1 : Hid (w1.ownsRow w.heap.size 126 3 v1 ((trs (ps.take k)).length + 1) (cells3 (trs (ps.take k)) ++ [.int .i64 q.id, .int .i64 y, .int .i64 q.ct]))) :
    LgRel ps n w w1 v1 (.int .i64 ((k : Int) + 1)) := by
  refine ⟨k + 1, by omega, by go_num, ?_, ?_⟩
  · exact (HBW.out.trans (hW.mono HBW.out.size)).grown HG1.out (by have := HBW.out.size; have := hW.size; omega) (fun g hgk => (HOW.out.lt g hgk).1)
  · have e : trs (ps.take (k + 1)) = trs (ps.take k) ++ [(q.id, y, q.ct)] := by rw [trs_succ hkl, HQ.out, ← HY.out]; rfl
    rw [e, cells3_app, List.length_append]
    exact HO1.out
set_option maxHeartbeats 20000000 in
set_option maxRecDepth 100000 in
theorem legsOf_any (A : Option Addr) (n c : Nat) (ps : List Pc) (w : World) (B : Nat) (hB : B ≤ w.heap.size) (hq : Ps w B A n ps) (h24 : n ≤ 24) (hok : ∀ q ∈ ps, q.okB = true) :
    Calls Tryz.prog 68 #[.slice A n c] w (RetG (trs ps) w) := by
  have HL := hid hq.1
  have HK := hid hok
  clear hok
  obtain ⟨i0, hi0, hz0, hz1, hz2⟩ := info_parts info126
  go_enter Tryz.func68, Tryz.ntmps68
  go_wp2
  go_loopw [3, 8] (fun v i wr => LgRel ps n w wr v i) (fun _ i _ => n - (intOf i).toNat)
  case atStart => exact ⟨0, Nat.zero_le _, rfl, Below.refl _ _, World.ownsRow_nil _ _ _ _⟩
  case round =>
    obtain ⟨k, hk, rfl, hbl, hown⟩ := hrel
    obtain ⟨wo, rfl⟩ : ∃ wo : World, wo = wr := ⟨_, rfl⟩
    have HO := hid hown
    clear hown
    by_cases hlt : k < n
    · obtain ⟨ad, p, q, rfl, hp, hqk, hfit, hat⟩ := (hq.below (hbl.mono hB)).at_ hlt
      have e0 := hat.c0
      have e1 := hat.c1
      have e2 := hat.c2
      have hBo : B ≤ wo.heap.size := Nat.le_trans hB hbl.size
      have hkl : k < ps.length := by rw [HL.out]; exact hlt
      have HQ := hid (show ps[k] = q by rw [List.getElem?_eq_getElem hkl] at hqk; exact Option.some.inj hqk)
      have hpp := pok_parts (HK.out q (by rw [← HQ.out]; exact List.getElem_mem _))
      obtain ⟨hn1, hn2⟩ : 1 ≤ q.n ∧ q.n ≤ 40 := ⟨hpp.2.2.1, hpp.2.2.2.1⟩
      have hr := hfit.2.2.2
      have hql : q.ws.length = q.n := by have := hr.1; simpa using this
      have hw0 : 0 < q.ws.length := by omega
      obtain ⟨adw, hA, hcw⟩ := reads_int (k := 0) hr (by omega) hw0
      have HH := hid (show q.ws[0] = q.ws.headD 0 from head_get hw0)
      have hab : adw.block < B := by
        obtain ⟨ad2, e, hb, _⟩ := hr.2 (by omega)
        rw [hA] at e; cases e; exact hb
      obtain ⟨y, hy⟩ : ∃ y, q.ws[0] = y := ⟨_, rfl⟩
      rw [hy] at hcw
      have HY := hid hy
      clear hqk hfit hr hpp hy
      rw [hA] at e1
      obtain ⟨qn, hqn⟩ : ∃ m, q.n = m := ⟨_, rfl⟩
      rw [hqn] at e1 hn1 hn2
      have hcw' : ∀ o, (wo.alloc o).cell? (adw.add 0) = some (.int .i64 y) := fun o => (World.cell?_alloc_lt wo o _ (by rw [block_of_add]; omega)).trans hcw
      go_wp2
      have hbk := Blk.new wo 107 #[.int .i64 q.id, .slice (some adw) qn q.c, .int .i64 q.ct]
      have hyw := hcw' (.cells #[.int .i64 q.id, .slice (some adw) qn q.c, .int .i64 q.ct] 107)
      have HOW := hid (HO.out.alloc (.cells #[.int .i64 q.id, .slice (some adw) qn q.c, .int .i64 q.ct] 107))
      have HBW := hid (hbl.alloc hbl.size (.cells #[.int .i64 q.id, .slice (some adw) qn q.c, .int .i64 q.ct] 107))
      clear hcw' hcw e0 e1 e2 hat
      generalize wo.alloc (.cells #[.int .i64 q.id, .slice (some adw) qn q.c, .int .i64 q.ct] 107) = w5 at hbk hyw HOW HBW ⊢
      generalize wo.heap.size = b5 at hbk ⊢
      have f0 : w5.cell? ⟨b5, 0, none⟩ = some (.int .i64 q.id) := by rw [hbk.cell]; rfl
      have f1 : w5.cell? ⟨b5, 1, none⟩ = some (.slice (some adw) qn q.c) := by rw [hbk.cell]; rfl
      have f2 : w5.cell? ⟨b5, 2, none⟩ = some (.int .i64 q.ct) := by rw [hbk.cell]; rfl
      clear hbk
      rw [add0] at hyw
      have hq0 : 0 < qn := by omega
      have hq1 : (0 : Int) < qn := by omega
      have hl24 : (trs (ps.take k)).length ≤ 24 := by unfold trs; simp; omega
      generalize hQ : Exit.inBlock 1 _ = QQ
      have HEND : Hid (∀ (v1 : Value) (w1 : World), LgRel ps n w w1 v1 (.int .i64 ((k : Int) + 1)) → ∀ a : Act, a = (Act.mk #[Value.slice (some ad) n c, undef, Value.slice none 0 0, v1, undef,
              Value.pointer (some { block := b5, off := 0 }), Value.slice (some ad) n c, Value.int IntKind.i64 ↑n,
              Value.int IntKind.i64 ↑k, Value.bool true, Value.pointer (some p),
              Value.agg #[Value.int IntKind.i64 q.id, Value.slice (some adw) qn q.c, Value.int IntKind.i64 q.ct], u3,
              Value.pointer (some { block := b5, off := 0 }), Value.int IntKind.i64 q.id,
              Value.pointer (some { block := b5, off := 1 }), Value.slice (some adw) qn q.c, Value.pointer (some adw),
              Value.int IntKind.i64 y, Value.pointer (some { block := b5, off := 2 }), Value.int IntKind.i64 q.ct,
              Value.agg #[Value.int IntKind.i64 q.id, Value.int IntKind.i64 y, Value.int IntKind.i64 q.ct],
              Value.slice (some { block := w5.heap.size, off := 0 }) 1 1, v1, u24, undef, undef, undef] []) → QQ Exit.normal a w1) := by
        refine hid ?_
        intro v1 w1 hrel a ha
        subst ha
        have HR := hid hrel
        clear hrel
        subst hQ
        go_wp2
        go_roundw
        case rel => exact HR.out
        case measure => simp [intOf]; omega
      subst hQ
      go_region_law (refine step_append_own rfl (.tmp 12) (.tmp 22) 123 rfl w.heap.size 126 i0 _ 3 24 Tryz.underlying123 hi0 hz0 hz1 hz2 rfl (by decide) u3 _ _ rfl (own_below HOW.out (below_drew_alloc w5 _)) ⟨w5.heap.size, 0, none⟩ 1 1 [.int .i64 q.id, .int .i64 y, .int .i64 q.ct] rfl rfl (new3 _ _ _ _ _) (one3 _ _ _) (by unfold maxLen; omega) (by omega) (by have := HBW.out.size; simp; omega) ?_; intro v1 w1 hown1 hg1; have HG1 := hid hg1; have HO1 := hid hown1; clear hg1 hown1)
      all_goals (refine HEND.out _ _ (lg_next hkl hlt HQ (hid (HH.out.symm.trans HY.out)) HBW HOW (below_drew_alloc w5 _) HG1 HO1) _ ?_; rfl)
    · have HX := hid (show k = n by omega)
      have hB2 := hbl.size
      have HS := hid (sortG_any HO.out (fun p hp => by
        unfold trs at hp
        obtain ⟨q, hq, rfl⟩ := List.mem_map.1 hp
        have := pok_parts (HK.out q (List.mem_of_mem_take hq))
        exact ⟨this.1, this.2.1⟩) (show (trs (ps.take k)).length ≤ 24 by unfold trs; simp; omega) hB2)
      go_wp2_with (go_at_call 126; refine HS.out.mono ?_; rintro e w1 ⟨rfl, A', c', gs', hv, hpm, hl3, hb1⟩; subst hv)
      go_ret
      have e : trs (ps.take k) = trs ps := by rw [show k = ps.length by rw [HL.out, HX.out]]; simp
      rw [e] at hpm hl3
      refine ⟨A', c', gs', ?_, hpm, hl3, hbl.trans hb1⟩
      rw [← e]
      first | rfl | simp
end Go.Proofs.YtcoplbaopaigcaaGreat
