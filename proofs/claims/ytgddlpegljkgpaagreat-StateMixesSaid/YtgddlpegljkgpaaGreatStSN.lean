/- Contracts of functions, walked. -/
import Derived.Test.YtgddlpegljkgpaaGreatStSA
import Derived.Test.YtgddlpegljkgpaaGreatAmS
import Derived.Test.YtgddlpegljkgpaaGreatStS3
import Derived.Test.YtgddlpegljkgpaaGreatAwB
set_option linter.all false
namespace Go.Proofs.Tryz
open Go Go.Am Go.RowKit
set_option maxRecDepth 100000

theorem head_s {loops : List (Nat × LInfo)} {H : AHeap} : CallS Tryz.prog loops 8 [] H fun r H' => r = .bool true ∧ H' = H := CallS.of_calls rfl rfl sanity_calls
theorem insideL_off (l : List Str) (w d : Int) : insideL (offS l w) d = l.any fun x => x.has.offers w && x.covers d := by
  induction l with
  | nil => rfl
  | cons x t ih =>
    have e : offS (x :: t) w = (if x.has.offers w = true then [(x.lo, x.hi)] else []) ++ offS t w := by
      unfold offS
      by_cases h : x.has.offers w = true <;> simp [h]
    rw [e, List.any_cons, ← ih]
    by_cases h : x.has.offers w = true <;> simp [h, insideL, Str.covers]
def hasOn (s : Sheet) (line d : Int) : Has := atDay line d ⟨s.words[line.toNat]!, 0, false⟩ s.alts
end Go.Proofs.Tryz
namespace Go.Co

abbrev Sp := Int × Int
def ins (l : List Sp) (d : Int) : Bool := l.any fun x => decide (x.1 ≤ d) && decide (d ≤ x.2)
theorem ins_cons (x : Sp) (l : List Sp) (d : Int) : ins (x :: l) d = ((decide (x.1 ≤ d) && decide (d ≤ x.2)) || ins l d) := rfl

def ordS : Int → List Sp → Prop
  | _, [] => True
  | b, x :: t => b ≤ x.1 ∧ x.1 ≤ x.2 ∧ x.2 ≤ 730 ∧ ordS (x.2 + 2) t
theorem ordS_mono : ∀ (l : List Sp) {b b' : Int}, b ≤ b' → ordS b' l → ordS b l
  | [], _, _, _, _ => trivial
  | _ :: _, _, _, h, hs => ⟨Int.le_trans h hs.1, hs.2⟩
theorem ordS_ins : ∀ (l : List Sp) {b : Int}, ordS b l → ∀ d, ins l d = true → b ≤ d ∧ d ≤ 730
  | [], _, _, d, h => by cases h
  | x :: t, b, hs, d, h => by
    obtain ⟨h1, h2, h3, h4⟩ := hs
    rw [ins_cons, Bool.or_eq_true] at h
    rcases h with h | h
    · simp only [Bool.and_eq_true, decide_eq_true_eq] at h; omega
    · have := ordS_ins t h4 d h; omega

def nextS : List Sp → Int → Int
  | [], _ => 731
  | x :: t, f => if f ≤ x.2 then max f x.1 else nextS t f

def NextOk (p : Int → Bool) (f d : Int) : Prop := (d = 731 ∧ ∀ e, f ≤ e → p e = false) ∨ (d ≤ 730 ∧ f ≤ d ∧ p d = true ∧ ∀ e, f ≤ e → p e = true → d ≤ e)
theorem nextS_ok : ∀ (l : List Sp) {b : Int}, ordS b l → ∀ f, NextOk (ins l) f (nextS l f)
  | [], _, _, f => .inl ⟨rfl, fun _ _ => rfl⟩
  | x :: t, b, hs, f => by
    obtain ⟨h1, h2, h3, h4⟩ := hs
    rw [nextS]
    by_cases hf : f ≤ x.2
    · rw [if_pos hf]
      refine .inr ⟨by omega, by omega, ?_, fun e he hp => ?_⟩
      · rw [ins_cons]; simp only [Bool.or_eq_true, Bool.and_eq_true, decide_eq_true_eq]; left; omega
      · rw [ins_cons, Bool.or_eq_true] at hp
        rcases hp with hp | hp
        · simp only [Bool.and_eq_true, decide_eq_true_eq] at hp; omega
        · have := ordS_ins t h4 e hp; omega
    · rw [if_neg hf]
      have hne : ∀ e, f ≤ e → ins (x :: t) e = ins t e := by
        intro e he
        rw [ins_cons]
        have : decide (e ≤ x.2) = false := by simp; omega
        simp [this]
      rcases nextS_ok t h4 f with ⟨h5, h6⟩ | ⟨h5, h6, h7, h8⟩
      · exact .inl ⟨h5, fun e he => by rw [hne e he]; exact h6 e he⟩
      · exact .inr ⟨h5, h6, by rw [hne _ h6]; exact h7, fun e he hp => h8 e he (by rw [← hne e he]; exact hp)⟩

def cutS (lo hi : Int) : List Sp → List Sp
  | [] => []
  | x :: t => if max x.1 lo ≤ min x.2 hi then (max x.1 lo, min x.2 hi) :: cutS lo hi t else cutS lo hi t
theorem cutS_le (lo hi : Int) : ∀ l : List Sp, (cutS lo hi l).length ≤ l.length
  | [] => Nat.le_refl _
  | x :: t => by
    have := cutS_le lo hi t
    rw [cutS]; split <;> simp <;> omega
theorem cutS_ord (lo hi : Int) : ∀ (l : List Sp) {b : Int}, ordS b l → ordS (max b lo) (cutS lo hi l)
  | [], _, _ => trivial
  | x :: t, b, hs => by
    obtain ⟨h1, h2, h3, h4⟩ := hs
    have := cutS_ord lo hi t h4
    rw [cutS]
    split
    · refine ⟨by simp only; omega, by simpa using by omega, by simp only; omega, ordS_mono _ (by simp only; omega) this⟩
    · exact ordS_mono _ (by omega) this
theorem cutS_ins (lo hi d : Int) : ∀ (l : List Sp), ins (cutS lo hi l) d = (ins l d && (decide (lo ≤ d) && decide (d ≤ hi)))
  | [] => rfl
  | x :: t => by
    have := cutS_ins lo hi d t
    rw [cutS]
    split
    · rw [ins_cons, ins_cons, this, Bool.eq_iff_iff]
      simp only [Bool.or_eq_true, Bool.and_eq_true, decide_eq_true_eq]
      constructor
      · rintro (h | h)
        · exact ⟨.inl (by omega), by omega, by omega⟩
        · exact ⟨.inr h.1, h.2⟩
      · rintro ⟨h | h, h2⟩
        · left; omega
        · exact .inr ⟨h, h2⟩
    · rw [ins_cons, this, Bool.eq_iff_iff]
      simp only [Bool.or_eq_true, Bool.and_eq_true, decide_eq_true_eq]
      constructor
      · rintro ⟨h, h2⟩; exact ⟨.inr h, h2⟩
      · rintro ⟨h | h, h2⟩
        · omega
        · exact ⟨h, h2⟩

def lowL (per : Nat) (days : List Int) (line : Nat) : Int :=
  if per ≤ line then max (if 1 ≤ line then days.getD (line - 1) 0 else 0) (days.getD (line - per) 0 + 1) else if 1 ≤ line then days.getD (line - 1) 0 else 0
def early (nx : Nat → Int → Int) (per : Nat) (frm : Int) : Nat → List Int → List Int
  | 0, days => days
  | k + 1, days => if nx days.length (max frm (lowL per days days.length)) = 731 then days else early nx per frm k (days ++ [nx days.length (max frm (lowL per days days.length))])

end Go.Co
namespace Go.Proofs.Tryz
open Go Go.Am Go.RowKit Go.Co
set_option maxRecDepth 100000

theorem insideL_ins (l : List (Int × Int)) (d : Int) : insideL l d = ins l d := rfl
theorem joinS_nil (x : Int × Int) : joinS [] x = [x] := rfl
theorem joinS_one (y x : Int × Int) : joinS [y] x = if y.2 + 1 = x.1 then [(y.1, x.2)] else [y, x] := by simp [joinS]
theorem joinS_two (y z : Int × Int) (t : List (Int × Int)) (x : Int × Int) : joinS (y :: z :: t) x = y :: joinS (z :: t) x := by
  unfold joinS
  have h : (y :: z :: t).getLast? = (z :: t).getLast? := by simp [List.getLast?_cons_cons]
  rw [h]
  cases (z :: t).getLast? with
  | none => rfl
  | some u =>
    simp only
    split <;> simp
theorem joinS_ord (x : Int × Int) (h1 : x.1 ≤ x.2) (h2 : x.2 ≤ 730) : ∀ (acc : List (Int × Int)) {c : Int}, ordS c acc → (∀ d, ins acc d = true → d + 1 ≤ x.1) → c ≤ x.1 → ordS c (joinS acc x)
  | [], c, _, _, h => by rw [joinS_nil]; exact ⟨h, h1, h2, trivial⟩
  | [y], c, ho, hd, h => by
    obtain ⟨g1, g2, g3, g4⟩ := ho
    have := hd y.2 (by rw [ins_cons]; simp [g2])
    rw [joinS_one]
    split
    · exact ⟨g1, by simp only; omega, h2, trivial⟩
    · exact ⟨g1, g2, g3, by omega, h1, h2, trivial⟩
  | y :: z :: t, c, ho, hd, h => by
    obtain ⟨g1, g2, g3, g4⟩ := ho
    have g5 := g4
    obtain ⟨k1, k2, k3, k4⟩ := g5
    have := hd z.2 (by rw [ins_cons, ins_cons]; simp [k2])
    rw [joinS_two]
    exact ⟨g1, g2, g3, joinS_ord x h1 h2 (z :: t) g4 (fun d hdd => hd d (by rw [ins_cons, hdd]; simp)) (by omega)⟩
theorem ordS_le : ∀ (l : List (Int × Int)) {c : Int}, ordS c l → ∀ y, y ∈ l → y.1 ≤ y.2
  | x :: t, c, h, y, hy => by
    rcases List.mem_cons.1 hy with rfl | hy
    · exact h.2.1
    · exact ordS_le t h.2.2.2 y hy
theorem joinS_ins {acc : List (Int × Int)} {x : Int × Int} {c : Int} (ho : ordS c acc) (hx : x.1 ≤ x.2) (d : Int) : ins (joinS acc x) d = (ins acc d || (decide (x.1 ≤ d) && decide (d ≤ x.2))) :=
  (joinS_ok acc x d (ordS_le acc ho) hx).2

def ordW : Int → List (Int × Int) → Prop
  | _, [] => True
  | b, x :: t => b ≤ x.1 ∧ x.1 ≤ x.2 ∧ x.2 ≤ 730 ∧ ordW (x.2 + 1) t
theorem ordW_mono : ∀ (l : List (Int × Int)) {b b' : Int}, b ≤ b' → ordW b' l → ordW b l
  | [], _, _, _, _ => trivial
  | _ :: _, _, _, h, hs => ⟨Int.le_trans h hs.1, hs.2⟩
theorem joinL_ord : ∀ (l acc : List (Int × Int)) {b : Int}, 0 ≤ b → ordS 0 acc → (∀ d, ins acc d = true → d + 1 ≤ b) → ordW b l → ordS 0 (l.foldl joinS acc)
  | [], acc, _, _, h, _, _ => h
  | x :: t, acc, b, hb, h, hd, hw => by
    obtain ⟨g1, g2, g3, g4⟩ := hw
    rw [List.foldl_cons]
    refine joinL_ord t _ (b := x.2 + 1) (by omega) (joinS_ord x g2 g3 acc h (fun d h5 => by have := hd d h5; omega) (by omega)) (fun d h5 => ?_) g4
    rw [joinS_ins h g2, Bool.or_eq_true] at h5
    rcases h5 with h5 | h5
    · have := hd d h5; omega
    · simp only [Bool.and_eq_true, decide_eq_true_eq] at h5; omega
theorem go_ordW (line w : Int) : ∀ (l : List Alt) (b : Int) (c : Has), sorted b l → b ≤ 730 → ordW b (offS (go line b c l) w)
  | [], b, c, _, h => by
    unfold offS
    rw [go]
    by_cases hc : c.offers w = true
    · simp only [List.filter_cons, hc, if_true, List.filter_nil, List.map_cons, List.map_nil]
      exact ⟨Int.le_refl _, h, Int.le_refl _, trivial⟩
    · simp only [List.filter_cons, hc, List.filter_nil]
      exact trivial
  | a :: t, b, c, hs, h => by
    obtain ⟨s1, s2, s3⟩ := hs
    rw [go]
    split
    · exact go_ordW line w t b c (sorted_mono t s1 s3) h
    · split
      · exact go_ordW line w t b c (sorted_mono t s1 s3) h
      · split
        · rename_i hlt
          have ih := go_ordW line w t a.day (c.after a) s3 s2
          unfold offS at ih ⊢
          by_cases hc : c.offers w = true
          · simp only [List.filter_cons, hc, if_true, List.map_cons]
            exact ⟨Int.le_refl _, by simp only; omega, by simp only; omega, ordW_mono _ (by simp only; omega) ih⟩
          · simp only [List.filter_cons, hc]
            exact ordW_mono _ s1 ih
        · exact ordW_mono _ s1 (go_ordW line w t a.day (c.after a) s3 s2)
theorem whenS_ord {s : Sheet} {line w : Int} (hs : sorted 0 s.alts) : ordS 0 (joinL (offS (strs s line) w)) :=
  joinL_ord _ [] (b := 0) (Int.le_refl _) trivial (fun d h => by cases h) (go_ordW line w s.alts 0 _ hs (by omega))
theorem whenS_ins {s : Sheet} {line w d : Int} (hs : sorted 0 s.alts) : ins (joinL (offS (strs s line) w)) d = (decide (0 ≤ d) && (decide (d ≤ 730) && (hasOn s line d).offers w)) := by
  by_cases hd : 0 ≤ d ∧ d ≤ 730
  · obtain ⟨hd0, hd1⟩ := hd
    rw [← insideL_ins, joinL, joinL_ok d _ [] (by simp) ?_, insideL_off, strs, go_any line d w s.alts 0 _ hs hd0 hd1]
    · simp [insideL, hasOn, hd0, hd1]
    · intro y hy
      unfold offS at hy
      obtain ⟨x, hx, rfl⟩ := List.mem_map.1 hy
      have hx2 := (List.mem_filter.1 hx).1
      exact (go_lo line s.alts 0 _ hs (by omega) x hx2).2
  · cases h : ins (joinL (offS (strs s line) w)) d with
    | true => exact absurd (ordS_ins _ (whenS_ord hs) d h) hd
    | false =>
      symm
      rw [Bool.eq_false_iff]
      intro h2
      simp only [Bool.and_eq_true, decide_eq_true_eq] at h2
      exact hd ⟨h2.1, h2.2.1⟩
end Go.Proofs.Tryz
namespace Go.Proofs.Tryz
open Go Go.Am Go.RowKit
set_option maxRecDepth 100000

section
variable {H : AHeap} {β : Type} {kk : K β}
theorem st7 : structOk Tryz.prog 7 = true := by kernel_rfl
@[go_sem] theorem bu7 {parts : List (Nat × Value)} : aBuild Tryz.prog 7 parts H kk = match fillB Tryz.prog 7 [.int .i64 0, .int .i64 0, .bool false, .int .u8 0] parts with
    | some l => if l.all oneV = true then kk (.agg l.toArray) H else none
    | none => none := aBuild_struct st7 ze7
theorem st8 : structOk Tryz.prog 8 = true := by kernel_rfl
@[go_sem] theorem bu8 {parts : List (Nat × Value)} : aBuild Tryz.prog 8 parts H kk = match fillB Tryz.prog 8 [.int .i64 0, .int .i64 0, .bool false, .int .u8 0] parts with
    | some l => if l.all oneV = true then kk (.agg l.toArray) H else none
    | none => none := aBuild_struct st8 ze8
theorem st14 : structOk Tryz.prog 14 = true := by kernel_rfl
@[go_sem] theorem bu14 {parts : List (Nat × Value)} : aBuild Tryz.prog 14 parts H kk = match fillB Tryz.prog 14 [.string ⟨#[]⟩, .int .u64 0] parts with
    | some l => if l.all oneV = true then kk (.agg l.toArray) H else none
    | none => none := aBuild_struct st14 ze14
theorem st19 : structOk Tryz.prog 19 = true := by kernel_rfl
@[go_sem] theorem bu19 {parts : List (Nat × Value)} : aBuild Tryz.prog 19 parts H kk = match fillB Tryz.prog 19 [.pointer none] parts with
    | some l => if l.all oneV = true then kk (.agg l.toArray) H else none
    | none => none := aBuild_struct st19 ze19
theorem st25 : structOk Tryz.prog 25 = true := by kernel_rfl
@[go_sem] theorem bu25 {parts : List (Nat × Value)} : aBuild Tryz.prog 25 parts H kk = match fillB Tryz.prog 25 [.slice none 0 0, .slice none 0 0] parts with
    | some l => if l.all oneV = true then kk (.agg l.toArray) H else none
    | none => none := aBuild_struct st25 ze25
theorem st27 : structOk Tryz.prog 27 = true := by kernel_rfl
@[go_sem] theorem bu27 {parts : List (Nat × Value)} : aBuild Tryz.prog 27 parts H kk = match fillB Tryz.prog 27 [.slice none 0 0, .int .i64 0, .int .i64 0, .int .i64 0] parts with
    | some l => if l.all oneV = true then kk (.agg l.toArray) H else none
    | none => none := aBuild_struct st27 ze27
theorem st37 : structOk Tryz.prog 37 = true := by kernel_rfl
@[go_sem] theorem bu37 {parts : List (Nat × Value)} : aBuild Tryz.prog 37 parts H kk = match fillB Tryz.prog 37 [.slice none 0 0, .int .i64 0] parts with
    | some l => if l.all oneV = true then kk (.agg l.toArray) H else none
    | none => none := aBuild_struct st37 ze37
theorem st58 : structOk Tryz.prog 58 = true := by kernel_rfl
@[go_sem] theorem bu58 {parts : List (Nat × Value)} : aBuild Tryz.prog 58 parts H kk = match fillB Tryz.prog 58 [.int .i64 0, .int .i64 0, .int .i64 0, .int .i64 0, .int .i64 0, .int .i64 0] parts with
    | some l => if l.all oneV = true then kk (.agg l.toArray) H else none
    | none => none := aBuild_struct st58 ze58
theorem st126 : structOk Tryz.prog 126 = true := by kernel_rfl
@[go_sem] theorem bu126 {parts : List (Nat × Value)} : aBuild Tryz.prog 126 parts H kk = match fillB Tryz.prog 126 [.int .i64 0, .int .i64 0, .bool false] parts with
    | some l => if l.all oneV = true then kk (.agg l.toArray) H else none
    | none => none := aBuild_struct st126 ze126
theorem st79 : structOk Tryz.prog 79 = true := by kernel_rfl
@[go_sem] theorem bu79 {parts : List (Nat × Value)} : aBuild Tryz.prog 79 parts H kk = match fillB Tryz.prog 79 [.slice none 0 0, .int .i64 0] parts with
    | some l => if l.all oneV = true then kk (.agg l.toArray) H else none
    | none => none := aBuild_struct st79 ze79
theorem st86 : structOk Tryz.prog 86 = true := by kernel_rfl
@[go_sem] theorem bu86 {parts : List (Nat × Value)} : aBuild Tryz.prog 86 parts H kk = match fillB Tryz.prog 86 [.slice none 0 0, .int .i64 0, .slice none 0 0, .slice none 0 0] parts with
    | some l => if l.all oneV = true then kk (.agg l.toArray) H else none
    | none => none := aBuild_struct st86 ze86
theorem st200 : structOk Tryz.prog 200 = true := by kernel_rfl
@[go_sem] theorem bu200 {parts : List (Nat × Value)} : aBuild Tryz.prog 200 parts H kk = match fillB Tryz.prog 200 [.pointer none, .pointer none, .pointer none, .string ⟨#[]⟩] parts with
    | some l => if l.all oneV = true then kk (.agg l.toArray) H else none
    | none => none := aBuild_struct st200 ze200
theorem st203 : structOk Tryz.prog 203 = true := by kernel_rfl
@[go_sem] theorem bu203 {parts : List (Nat × Value)} : aBuild Tryz.prog 203 parts H kk = match fillB Tryz.prog 203 [] parts with
    | some l => if l.all oneV = true then kk (.agg l.toArray) H else none
    | none => none := aBuild_struct st203 ze203
theorem st211 : structOk Tryz.prog 211 = true := by kernel_rfl
@[go_sem] theorem bu211 {parts : List (Nat × Value)} : aBuild Tryz.prog 211 parts H kk = match fillB Tryz.prog 211 [.int .u64 0, .int .u64 0, .int .u32 0, .int .u8 0, .int .u8 0, .int .u8 0, .int .u8 0, .nilFunc, .pointer none, .int .i32 0, .int .i32 0] parts with
    | some l => if l.all oneV = true then kk (.agg l.toArray) H else none
    | none => none := aBuild_struct st211 ze211
end
end Go.Proofs.Tryz
namespace Go.Proofs.Tryz
open Go Go.Am Go.RowKit
set_option maxRecDepth 100000


structure Copy where
  words : List Int
  beg : Int
  fin : Int
  per : Int

def CopyV (H : AHeap) (v : Value) (c : Copy) : Prop := ∃ wv, v = .agg #[wv, .int .i64 c.beg, .int .i64 c.fin, .int .i64 c.per] ∧ Ints H wv c.words
theorem CopyV.ext {H H' : AHeap} {v : Value} {c : Copy} (h : CopyV H v c) (hx : Ext H H') : CopyV H' v c := by
  obtain ⟨w, h1, h2⟩ := h
  exact ⟨w, h1, h2.ext hx⟩

theorem nat_neb {a b : Nat} : ((a : Int) != (b : Int)) = !decide (a = b) := by rw [Bool.eq_iff_iff]; simp; omega
theorem brief_s {loops : List (Nat × LInfo)} {H : AHeap} {cv : Value} {c : Copy} (hc : CopyV H cv c) : CallS Tryz.prog loops 10 [cv] H fun r H' => r = .bool (decide (c.words.length ≤ 50)) ∧ H' = H := by
  refine CallS.forget (R := fun v => v = .bool (decide (c.words.length ≤ 50))) (by rintro v rfl; rfl) ?_
  obtain ⟨wv, rfl, hw⟩ := hc
  obtain ⟨hwl, wa, wc, rfl⟩ := hw.slice
  clear hw
  refine CallS.enter' Tryz.func10 rfl Tryz.ntmps10 (by simp) fun f hd hf => ?_
  have f0 := hf 0
  simp at f0
  clear hf
  repeat' (first|(with_reducible first|refine zA ?_|refine zB fun K hK=>?_|refine zC fun K2 hK2=>?_|refine zD ?_|refine zE ?_|refine zF ?_|refine zG ?_|refine zH ?_|refine zI ?_|refine zM ?_|refine zN ?_|refine zO ?_|refine zP ?_|refine zQ ?_|refine zR ?_)|((with_reducible refine zU (hK _ _ ?_));clear hK K)|((with_reducible refine zV ?_ ?_ fun K1 K3 d hdst h1 h3=>?_);rfl;exact yB rfl;cases hdst;go_simp)|((with_reducible refine zW fun K1 K3 h1 h3=>?_);go_simp)|((first|refine h1 ?_|refine h3 ?_);clear h1 h3 K1 K3)|((first|refine zX (fun hb=>h1 ?_) (fun hb=>h3 ?_)|refine zX (fun hb=>h3 ?_) (fun hb=>h1 ?_))<;>(clear h1 h3 K1 K3;(try have hb2:=yC hb);(try have hb2:=yD hb);(try have hb2:=yE hb);(try have hb2:=yF hb);(try have hb2:=yG hb)))|(refine fun (K2:_→AHeap→Prop) hK2=>?_)|((with_reducible refine zY ?_ ?_);decide)|((with_reducible first|refine zZ ?_ (fun K hK=>?_)|refine yA ?_ (fun K hK=>?_));(focus go_simp;done);go_simp;refine hK _ _ ?_;clear hK K)|(go_simp;(try go_bits);refine hK2 _ _ ?_;clear hK2 K2))
  refine ⟨?_, (Ext.refl _).push' _⟩
  simp only [Value.bool.injEq]
  rw [decide_eq_decide]; omega

def copyOk (s : Sheet) (c : Copy) : Bool := decide (c.words.length = s.words.length) && (wordsOk 0 c.words && (win 0 c.fin c.beg && (win 0 730 c.fin && win 1 40 c.per)))
def errCopy (s : Sheet) (c : Copy) : Int := if err s ≠ 0 then err s else if copyOk s c then 0 else 1
theorem errCopy_ok {s : Sheet} {c : Copy} (h : errCopy s c = 0) : err s = 0 ∧ c.words.length = s.words.length ∧ wordsOk 0 c.words = true ∧ 0 ≤ c.beg ∧ c.beg ≤ c.fin ∧ c.fin ≤ 730 ∧ 1 ≤ c.per ∧ c.per ≤ 40 := by
  unfold errCopy at h
  split at h
  · rename_i h1; exact absurd h h1
  · rename_i h1
    split at h
    · rename_i h2
      simp only [copyOk, Bool.and_eq_true, decide_eq_true_eq, win_iff] at h2
      exact ⟨by simpa using h1, h2.1, h2.2.1, h2.2.2.1.1, h2.2.2.1.2, h2.2.2.2.1.2, h2.2.2.2.2.1, h2.2.2.2.2.2⟩
    · cases h

theorem checkCopy_s {loops : List (Nat × LInfo)} {H : AHeap} {sv cv : Value} {s : Sheet} {c : Copy} (hs : SheetV H sv s) (hc : CopyV H cv c) : CallS Tryz.prog loops 42 [sv, cv] H fun r H' => r = .int .i64 (errCopy s c) ∧ H' = H := by
  refine CallS.forget (R := fun v => v = .int .i64 (errCopy s c)) (by rintro v rfl; rfl) ?_
  have HV := Lib.hid hs
  have HC := Lib.hid hc
  obtain ⟨wv, av, rfl, hw, ha⟩ := hs
  obtain ⟨hwl, wa, wc, rfl⟩ := hw.slice
  obtain ⟨hal, aa, ac, rfl⟩ := ha.slice
  obtain ⟨cv, rfl, hcw⟩ := hc
  obtain ⟨hcl, ca, cc, rfl⟩ := hcw.slice
  have HCW := Lib.hid hcw
  clear hw ha hcw
  generalize he : errCopy s c = er
  have HE := Lib.hid he
  clear he
  refine CallS.enter' Tryz.func42 rfl Tryz.ntmps42 (by simp) fun f hd hf => ?_
  have f0 := hf 0
  have f1 := hf 1
  simp at f0 f1
  clear hf
  repeat' (first|(with_reducible first|refine zA ?_|refine zB fun K hK=>?_|refine zC fun K2 hK2=>?_|refine zD ?_|refine zE ?_|refine zF ?_|refine zG ?_|refine zH ?_|refine zI ?_|refine zM ?_|refine zN ?_|refine zO ?_|refine zP ?_|refine zQ ?_|refine zR ?_)|((with_reducible refine zU (hK _ _ ?_));clear hK K)|((with_reducible refine zV ?_ ?_ fun K1 K3 d hdst h1 h3=>?_);rfl;exact yB rfl;cases hdst;go_simp)|((with_reducible refine zW fun K1 K3 h1 h3=>?_);go_simp)|((first|refine h1 ?_|refine h3 ?_);clear h1 h3 K1 K3)|((first|refine zX (fun hb=>h1 ?_) (fun hb=>h3 ?_)|refine zX (fun hb=>h3 ?_) (fun hb=>h1 ?_))<;>(clear h1 h3 K1 K3;(try have hb2:=yC hb);(try have hb2:=yD hb);(try have hb2:=yE hb);(try have hb2:=yF hb);(try have hb2:=yG hb)))|(refine fun (K2:_→AHeap→Prop) hK2=>?_)|((with_reducible refine zY ?_ ?_);decide)|((with_reducible first|refine zZ ?_ (fun K hK=>?_)|refine yA ?_ (fun K hK=>?_));(focus go_simp;done);go_simp;refine hK _ _ ?_;clear hK K)|(go_simp;(try go_bits);(try first |((with_reducible show CallS _ _ _ _ _ _);first|(refine CallS.mono within_s ?_; rintro _ _ ⟨rfl, rfl⟩)|(refine CallS.mono (check_s (s := s) (HV.out.ext (((Ext.refl _).push' _).push' _))) ?_; rintro _ _ ⟨rfl, rfl⟩)|(refine CallS.mono (areWords_s (HCW.out.ext (((Ext.refl _).push' _).push' _))) ?_; rintro _ _ ⟨rfl, rfl⟩)));refine hK2 _ _ ?_;clear hK2 K2))
  all_goals
    refine ⟨?_, ((Ext.refl _).push' _).push' _⟩
    rw [← HE.out]
  · have h1 : err s ≠ 0 := by simpa using hb
    rw [errCopy, if_pos h1]
  all_goals
    have h1 : err s = 0 := by simpa using ‹(err s != 0) = false›
    rw [errCopy, if_neg (by simp [h1])]
  all_goals simp_all [copyOk, nat_neb]

end Go.Proofs.Tryz
namespace Go.Proofs.Tryz
open Go Go.Am Go.RowKit Go.Co
set_option maxRecDepth 100000


theorem cutS_app (lo hi : Int) (x : Int × Int) (t : List (Int × Int)) : cutS lo hi (x :: t) = (if max x.1 lo ≤ min x.2 hi then [(max x.1 lo, min x.2 hi)] else []) ++ cutS lo hi t := by
  rw [cutS]; split <;> rfl

theorem cut_e {loops : List (Nat × LInfo)} {H : AHeap} {v : Value} {l : List (Int × Int)} {lo hi : Int} (hv : Spans H v l) (hl : l.length ≤ 1000) : CallS Tryz.prog loops 89 [v, .agg #[.int .i64 lo, .int .i64 hi]] H fun r H' => Own H' H.n r 68 2 (spanCells (cutS lo hi l)) ∧ Ext H H' := by
  obtain ⟨hlen, a, c, rfl⟩ := hv.slice
  have HV := Lib.hid hv
  clear hv
  generalize hr : cutS lo hi l = res
  have HE := Lib.hid hr
  clear hr
  refine CallS.enter' Tryz.func89 rfl Tryz.ntmps89 (by simp) fun f hd hf => ?_
  have f0 := hf 0
  have f1 := hf 1
  simp at f0 f1
  clear hf
  repeat' (first|(with_reducible first|refine zA ?_|refine zB fun K hK=>?_|refine zC fun K2 hK2=>?_|refine zD ?_|refine zE ?_|refine zF ?_|refine zG ?_|refine zH ?_|refine zI ?_|refine zM ?_|refine zN ?_|refine zO ?_|refine zP ?_|refine zQ ?_|refine zR ?_)|((with_reducible refine zU (hK _ _ ?_));clear hK K)|((with_reducible refine zV ?_ ?_ fun K1 K3 d hdst h1 h3=>?_);rfl;exact yB rfl;cases hdst;go_simp)|((with_reducible refine zW fun K1 K3 h1 h3=>?_);go_simp)|((first|refine h1 ?_|refine h3 ?_);clear h1 h3 K1 K3)|((first|refine zX (fun hb=>h1 ?_) (fun hb=>h3 ?_)|refine zX (fun hb=>h3 ?_) (fun hb=>h1 ?_))<;>(clear h1 h3 K1 K3;(try have hb2:=yC hb);(try have hb2:=yD hb);(try have hb2:=yE hb);(try have hb2:=yF hb);(try have hb2:=yG hb)))|(refine fun (K2:_→AHeap→Prop) hK2=>?_)|((with_reducible refine zY ?_ ?_);decide)|((with_reducible first|refine zZ ?_ (fun K hK=>?_)|refine yA ?_ (fun K hK=>?_));(focus go_simp;done);go_simp;refine hK _ _ ?_;clear hK K)|(go_simp;(try go_bits);refine hK2 _ _ ?_;clear hK2 K2))
  refine CodeS.loop (fun m f H' => ∃ (k : Nat) (v : Value) (acc : List (Int × Int)), k ≤ l.length ∧ m = l.length - k ∧ f.tmp 10 = .int .i64 k ∧ f.tmp 9 = .int .i64 l.length ∧ f.tmp 8 = .slice a l.length c ∧ f.tmp 3 = .pointer (some ⟨H.n, 0, none⟩) ∧ f.tmp 5 = v ∧ f.defers = [] ∧ Hid (acc ++ cutS lo hi (l.drop k) = res) ∧ acc.length ≤ k ∧ H.n < H'.n ∧ Ext H H' ∧ H'.get H.n = .row [.int .i64 lo, .int .i64 hi] 68 ∧ Own H' (H.n + 1) v 68 2 (spanCells acc)) l.length ?_ ?_
  · refine ⟨0, .slice none 0 0, [], by simp, by simp, (by first|go_simp<;>go_num|assumption), (by first|go_simp<;>go_num|assumption), (by first|go_simp<;>go_num|assumption), (by first|go_simp<;>go_num|assumption), (by first|go_simp<;>go_num|assumption), (by first|go_simp<;>go_num|assumption), Lib.hid (by simpa using HE.out), by simp, by rw [AHeap.n_push]; omega, Ext.push _, AHeap.get_push_new, Own.nil⟩
  clear f0 f1 hd f HE
  rintro m f H' ⟨k, v, acc, hk, rfl, f10, f9, f8, f3, f5, hd, HG, hal, hn, hx, hg0, ho⟩
  have hc0 : cellAt H' H.n 0 = some (.int .i64 lo) := by simp [cellAt, hg0]
  have hc1 : cellAt H' H.n 1 = some (.int .i64 hi) := by simp [cellAt, hg0]
  have HX := Lib.hid hx
  have HO := Lib.hid ho
  have HG0 := Lib.hid hg0
  have hne : ¬ (H.n = H'.n) := by omega
  clear hx ho hg0
  by_cases hlt : k < l.length
  · obtain ⟨b, o, sp, rfl, hb, hx2⟩ := (HV.out.ext HX.out).cells_at hlt
    have HD := Lib.hid (List.drop_eq_getElem_cons hlt)
    generalize l[k] = y at hx2 HD
    obtain ⟨p, q⟩ := y
    simp only at hx2
    have hbig : ((spanCells acc).length + 2) * max 16 1 ≤ 1073741824 := by rw [spanCells_length]; simp; omega
    have HBIG := Lib.hid hbig
    clear hbig
    repeat' (first|(with_reducible first|refine zA ?_|refine zB fun K hK=>?_|refine zC fun K2 hK2=>?_|refine zD ?_|refine zE ?_|refine zF ?_|refine zG ?_|refine zH ?_|refine zI ?_|refine zM ?_|refine zN ?_|refine zO ?_|refine zP ?_|refine zQ ?_|refine zR ?_)|((with_reducible refine zU (hK _ _ ?_));clear hK K)|((with_reducible refine zV ?_ ?_ fun K1 K3 d hdst h1 h3=>?_);rfl;exact yB rfl;cases hdst;go_simp)|((with_reducible refine zW fun K1 K3 h1 h3=>?_);go_simp)|((first|refine h1 ?_|refine h3 ?_);clear h1 h3 K1 K3)|((first|refine zX (fun hb=>h1 ?_) (fun hb=>h3 ?_)|refine zX (fun hb=>h3 ?_) (fun hb=>h1 ?_))<;>(clear h1 h3 K1 K3;(try have hb2:=yC hb);(try have hb2:=yD hb);(try have hb2:=yE hb);(try have hb2:=yF hb);(try have hb2:=yG hb)))|(refine fun (K2:_→AHeap→Prop) hK2=>?_)|((with_reducible refine zY ?_ ?_);decide)|((with_reducible first|refine zZ ?_ (fun K hK=>?_)|refine yA ?_ (fun K hK=>?_));(focus go_simp;done);go_simp;refine hK _ _ ?_;clear hK K)|(go_simp;(try go_bits);(try first | ((refine one_k el64 sz68 ze68 rfl (by decide) (by decide) rfl rfl ?_); go_simp) | ((refine append_k2 el64 sz68 by68 ze68 rfl (by decide) (HO.out.ext ((Ext.push _).trans (Ext.push _))) (srcCells_new rfl) (by decide) rfl (by rw [List.all_append, spanCells_one]; rfl) HBIG.out (by simp only [AHeap.n_push]; omega) fun v2 H4 ho4 hg4 => ?_); (have HO4 := Lib.hid ho4); (have HG4 := Lib.hid hg4); clear ho4 hg4; go_simp));refine hK2 _ _ ?_;clear hK2 K2))
    · have hle : max p lo ≤ min q hi := by simpa using hb
      have hx4 : Ext H H4 := HG4.out.ext (HO.out.ext ((Ext.push _).trans (Ext.push _))) (by omega) ((HX.out.push' _).push' _)
      refine Post.round_normal ⟨l.length - (k + 1), by omega, k + 1, v2, acc ++ [(max p lo, min q hi)], by omega, rfl, (by first|go_simp<;>go_num|assumption), (by first|go_simp<;>go_num|assumption), (by first|go_simp<;>go_num|assumption), (by first|go_simp<;>go_num|assumption), (by first|go_simp<;>go_num|assumption), (by first|go_simp<;>go_num|assumption), Lib.hid ?_, by simp; omega, ?_, hx4, ?_, ?_⟩
      · rw [← HG.out, HD.out, cutS_app, if_pos hle]; simp
      · have := HG4.out.1; simp only [AHeap.n_push] at this; omega
      · rw [HG4.out.2 _ (by simp only [AHeap.n_push]; omega) (fun b n hv hn => by have := (own_block HO.out hv hn).1; omega), AHeap.get_push_old (by simp only [AHeap.n_push]; omega), AHeap.get_push_old hn]; exact HG0.out
      · rw [spanCells_app]; exact HO4.out.mono (by simp only [AHeap.n_push]; omega)
    · have hle : ¬ max p lo ≤ min q hi := by simpa using hb
      refine Post.round_normal ⟨l.length - (k + 1), by omega, k + 1, v, acc, by omega, rfl, (by first|go_simp<;>go_num|assumption), (by first|go_simp<;>go_num|assumption), (by first|go_simp<;>go_num|assumption), (by first|go_simp<;>go_num|assumption), (by first|go_simp<;>go_num|assumption), (by first|go_simp<;>go_num|assumption), Lib.hid ?_, by omega, by rw [AHeap.n_push]; omega, HX.out.push' _, ?_, HO.out.ext (Ext.push _)⟩
      · rw [← HG.out, HD.out, cutS_app, if_neg hle]; simp
      · rw [AHeap.get_push_old hn]; exact HG0.out
  · repeat' (first|(with_reducible first|refine zA ?_|refine zB fun K hK=>?_|refine zC fun K2 hK2=>?_|refine zD ?_|refine zE ?_|refine zF ?_|refine zG ?_|refine zH ?_|refine zI ?_|refine zM ?_|refine zN ?_|refine zO ?_|refine zP ?_|refine zQ ?_|refine zR ?_)|((with_reducible refine zU (hK _ _ ?_));clear hK K)|((with_reducible refine zV ?_ ?_ fun K1 K3 d hdst h1 h3=>?_);rfl;exact yB rfl;cases hdst;go_simp)|((with_reducible refine zW fun K1 K3 h1 h3=>?_);go_simp)|((first|refine h1 ?_|refine h3 ?_);clear h1 h3 K1 K3)|((first|refine zX (fun hb=>h1 ?_) (fun hb=>h3 ?_)|refine zX (fun hb=>h3 ?_) (fun hb=>h1 ?_))<;>(clear h1 h3 K1 K3;(try have hb2:=yC hb);(try have hb2:=yD hb);(try have hb2:=yE hb);(try have hb2:=yF hb);(try have hb2:=yG hb)))|(refine fun (K2:_→AHeap→Prop) hK2=>?_)|((with_reducible refine zY ?_ ?_);decide)|((with_reducible first|refine zZ ?_ (fun K hK=>?_)|refine yA ?_ (fun K hK=>?_));(focus go_simp;done);go_simp;refine hK _ _ ?_;clear hK K)|(go_simp;(try go_bits);refine hK2 _ _ ?_;clear hK2 K2))
    refine ⟨?_, HX.out⟩
    have hr : acc = res := by rw [← HG.out, List.drop_eq_nil_of_le (by omega)]; simp [cutS]
    rw [← hr]
    exact HO.out.mono (by omega)

theorem until87_s {loops : List (Nat × LInfo)} {H : AHeap} {x : Int × Int} {q : Nat} {d : Int} (hq : q < H.n) (hg : cellAt H q 0 = some (.int .i64 d)) : CallS Tryz.prog loops 119 [spanVal x, .pointer (some ⟨q, 0, none⟩)] H fun v H' => v = .bool (decide (d ≤ x.2)) ∧ H' = H := by
  refine CallS.forget (R := fun v => v = .bool (decide (d ≤ x.2))) (by rintro v rfl; rfl) ?_
  obtain ⟨lo, hi⟩ := x
  refine CallS.enter' Tryz.func119 rfl Tryz.ntmps119 (by simp) fun f hd hf => ?_
  have f0 := hf 0
  have f1 := hf 1
  simp [spanVal] at f0 f1
  clear hf
  repeat' (first|(with_reducible first|refine zA ?_|refine zB fun K hK=>?_|refine zC fun K2 hK2=>?_|refine zD ?_|refine zE ?_|refine zF ?_|refine zG ?_|refine zH ?_|refine zI ?_|refine zM ?_|refine zN ?_|refine zO ?_|refine zP ?_|refine zQ ?_|refine zR ?_)|((with_reducible refine zU (hK _ _ ?_));clear hK K)|((with_reducible refine zV ?_ ?_ fun K1 K3 d hdst h1 h3=>?_);rfl;exact yB rfl;cases hdst;go_simp)|((with_reducible refine zW fun K1 K3 h1 h3=>?_);go_simp)|((first|refine h1 ?_|refine h3 ?_);clear h1 h3 K1 K3)|((first|refine zX (fun hb=>h1 ?_) (fun hb=>h3 ?_)|refine zX (fun hb=>h3 ?_) (fun hb=>h1 ?_))<;>(clear h1 h3 K1 K3;(try have hb2:=yC hb);(try have hb2:=yD hb);(try have hb2:=yE hb);(try have hb2:=yF hb);(try have hb2:=yG hb)))|(refine fun (K2:_→AHeap→Prop) hK2=>?_)|((with_reducible refine zY ?_ ?_);decide)|((with_reducible first|refine zZ ?_ (fun K hK=>?_)|refine yA ?_ (fun K hK=>?_));(focus go_simp;done);go_simp;refine hK _ _ ?_;clear hK K)|(go_simp;(try go_bits);refine hK2 _ _ ?_;clear hK2 K2))
  exact ⟨rfl, (Ext.refl _).push' _⟩
def findD (l : List (Int × Int)) (d : Int) : Option (Int × Int) := l.find? fun x => decide (d ≤ x.2)
theorem findD_next (l : List (Int × Int)) (d : Int) : nextS l d = match findD l d with | some x => max d x.1 | none => 731 := by
  induction l with
  | nil => rfl
  | cons x t ih =>
    rw [nextS]
    by_cases h : d ≤ x.2
    · simp [findD, h]
    · rw [if_neg h, ih]; simp [findD, h]
theorem find87_e {loops : List (Nat × LInfo)} {H : AHeap} {lv : Value} {l : List (Int × Int)} {q : Nat} {d : Int} (hl : Spans H lv l) (hq : q < H.n) (hg : cellAt H q 0 = some (.int .i64 d)) : CallS Tryz.prog loops 118 [lv, .func (.func 119) #[] #[.pointer (some ⟨q, 0, none⟩)]] H fun v H' => v = .tuple #[spanVal ((findD l d).getD (0, 0)), .bool (findD l d).isSome] ∧ Ext H H' := by
  obtain ⟨hlen, a, c, rfl⟩ := hl.slice
  have HV := Lib.hid hl
  clear hl
  generalize he : findD l d = er
  have HE := Lib.hid he
  clear he
  refine CallS.enter' Tryz.func118 rfl Tryz.ntmps118 (by simp) fun f hd hf => ?_
  have f0 := hf 0
  have f1 := hf 1
  simp at f0 f1
  clear hf
  repeat' (first|(with_reducible first|refine zA ?_|refine zB fun K hK=>?_|refine zC fun K2 hK2=>?_|refine zD ?_|refine zE ?_|refine zF ?_|refine zG ?_|refine zH ?_|refine zI ?_|refine zM ?_|refine zN ?_|refine zO ?_|refine zP ?_|refine zQ ?_|refine zR ?_)|((with_reducible refine zU (hK _ _ ?_));clear hK K)|((with_reducible refine zV ?_ ?_ fun K1 K3 d hdst h1 h3=>?_);rfl;exact yB rfl;cases hdst;go_simp)|((with_reducible refine zW fun K1 K3 h1 h3=>?_);go_simp)|((first|refine h1 ?_|refine h3 ?_);clear h1 h3 K1 K3)|((first|refine zX (fun hb=>h1 ?_) (fun hb=>h3 ?_)|refine zX (fun hb=>h3 ?_) (fun hb=>h1 ?_))<;>(clear h1 h3 K1 K3;(try have hb2:=yC hb);(try have hb2:=yD hb);(try have hb2:=yE hb);(try have hb2:=yF hb);(try have hb2:=yG hb)))|(refine fun (K2:_→AHeap→Prop) hK2=>?_)|((with_reducible refine zY ?_ ?_);decide)|((with_reducible first|refine zZ ?_ (fun K hK=>?_)|refine yA ?_ (fun K hK=>?_));(focus go_simp;done);go_simp;refine hK _ _ ?_;clear hK K)|(go_simp;(try go_bits);refine hK2 _ _ ?_;clear hK2 K2))
  refine CodeS.loop (fun m f H' => ∃ k : Nat, k ≤ l.length ∧ m = l.length - k ∧ f.tmp 11 = .int .i64 k ∧ f.tmp 9 = .slice a l.length c ∧ f.tmp 10 = .int .i64 l.length ∧ f.tmp 1 = .func (.func 119) #[] #[.pointer (some ⟨q, 0, none⟩)] ∧ f.tmp 4 = .pointer (some ⟨H.n, 0, none⟩) ∧ f.defers = [] ∧ H.n < H'.n ∧ H'.get H.n = .row [.int .i64 0, .int .i64 0] 68 ∧ Hid (findD (l.drop k) d = er) ∧ Hid (Ext H H')) l.length ?_ ?_
  · exact ⟨0, by simp, by simp, (by first|go_simp<;>go_num|assumption), (by first|go_simp<;>go_num|assumption), (by first|go_simp<;>go_num|assumption), (by first|go_simp<;>go_num|assumption), (by first|go_simp<;>go_num|assumption), (by first|go_simp<;>go_num|assumption), by rw [AHeap.n_push]; omega, AHeap.get_push_new, Lib.hid (by simpa using HE.out), Lib.hid (Ext.push _)⟩
  clear f0 f1 hd f HE
  rintro m f H' ⟨k, hk, rfl, f11, f9, f10, f1, f4, hd, hn, hg4, HG, HX⟩
  have hq' : q < H'.n := Nat.lt_of_lt_of_le hq HX.out.n
  have hg' : cellAt H' q 0 = some (.int .i64 d) := (HX.out.cellAt hq).trans hg
  have hne : (H'.n = H.n) = False := by simp; omega
  have hne' : (H.n = H'.n) = False := by simp; omega
  by_cases hlt : k < l.length
  · obtain ⟨b, o, sp, rfl, hb, hx⟩ := (HV.out.ext HX.out).cells_at hlt
    have HD := Lib.hid (List.drop_eq_getElem_cons hlt)
    generalize l[k] = y at hx HD
    obtain ⟨lo, hi⟩ := y
    simp only at hx
    repeat' (first|(with_reducible first|refine zA ?_|refine zB fun K hK=>?_|refine zC fun K2 hK2=>?_|refine zD ?_|refine zE ?_|refine zF ?_|refine zG ?_|refine zH ?_|refine zI ?_|refine zM ?_|refine zN ?_|refine zO ?_|refine zP ?_|refine zQ ?_|refine zR ?_)|((with_reducible refine zU (hK _ _ ?_));clear hK K)|((with_reducible refine zV ?_ ?_ fun K1 K3 d hdst h1 h3=>?_);rfl;exact yB rfl;cases hdst;go_simp)|((with_reducible refine zW fun K1 K3 h1 h3=>?_);go_simp)|((first|refine h1 ?_|refine h3 ?_);clear h1 h3 K1 K3)|((first|refine zX (fun hb=>h1 ?_) (fun hb=>h3 ?_)|refine zX (fun hb=>h3 ?_) (fun hb=>h1 ?_))<;>(clear h1 h3 K1 K3;(try have hb2:=yC hb);(try have hb2:=yD hb);(try have hb2:=yE hb);(try have hb2:=yF hb);(try have hb2:=yG hb)))|(refine fun (K2:_→AHeap→Prop) hK2=>?_)|((with_reducible refine zY ?_ ?_);decide)|((with_reducible first|refine zZ ?_ (fun K hK=>?_)|refine yA ?_ (fun K hK=>?_));(focus go_simp;done);go_simp;refine hK _ _ ?_;clear hK K)|(go_simp;(try go_bits);(try first | ((with_reducible show CallS _ _ _ _ _ _);refine CallS.mono (until87_s (x := (lo, hi)) (d := d) (by rw [AHeap.n_push]; omega) (by rw [cellAt_old hq']; exact hg')) ?_; rintro _ _ ⟨rfl, rfl⟩));refine hK2 _ _ ?_;clear hK2 K2))
    · have hh : d ≤ hi := by simpa using hb
      have hr : er = some (lo, hi) := by
        rw [← HG.out, HD.out, findD, List.find?_cons]; simp [hh]
      rw [hr]
      exact ⟨rfl, (HX.out.upd (Nat.le_refl _) _).push' _⟩
    · have hh : ¬ d ≤ hi := by simpa using hb
      refine Post.round_normal ⟨l.length - (k + 1), by omega, k + 1, by omega, rfl, (by first|go_simp<;>go_num|assumption), (by first|go_simp<;>go_num|assumption), (by first|go_simp<;>go_num|assumption), (by first|go_simp<;>go_num|assumption), (by first|go_simp<;>go_num|assumption), (by first|go_simp<;>go_num|assumption), ?_, ?_, Lib.hid ?_, Lib.hid (HX.out.push' _)⟩
      · rw [AHeap.n_push]; omega
      · rw [AHeap.get_push_old hn]; exact hg4
      · rw [← HG.out, HD.out, findD, findD, List.find?_cons]; simp [hh]
  · repeat' (first|(with_reducible first|refine zA ?_|refine zB fun K hK=>?_|refine zC fun K2 hK2=>?_|refine zD ?_|refine zE ?_|refine zF ?_|refine zG ?_|refine zH ?_|refine zI ?_|refine zM ?_|refine zN ?_|refine zO ?_|refine zP ?_|refine zQ ?_|refine zR ?_)|((with_reducible refine zU (hK _ _ ?_));clear hK K)|((with_reducible refine zV ?_ ?_ fun K1 K3 d hdst h1 h3=>?_);rfl;exact yB rfl;cases hdst;go_simp)|((with_reducible refine zW fun K1 K3 h1 h3=>?_);go_simp)|((first|refine h1 ?_|refine h3 ?_);clear h1 h3 K1 K3)|((first|refine zX (fun hb=>h1 ?_) (fun hb=>h3 ?_)|refine zX (fun hb=>h3 ?_) (fun hb=>h1 ?_))<;>(clear h1 h3 K1 K3;(try have hb2:=yC hb);(try have hb2:=yD hb);(try have hb2:=yE hb);(try have hb2:=yF hb);(try have hb2:=yG hb)))|(refine fun (K2:_→AHeap→Prop) hK2=>?_)|((with_reducible refine zY ?_ ?_);decide)|((with_reducible first|refine zZ ?_ (fun K hK=>?_)|refine yA ?_ (fun K hK=>?_));(focus go_simp;done);go_simp;refine hK _ _ ?_;clear hK K)|(go_simp;(try go_bits);refine hK2 _ _ ?_;clear hK2 K2))
    have hr : er = none := by rw [← HG.out, List.drop_eq_nil_of_le (by omega)]; rfl
    rw [hr]
    exact ⟨rfl, (HX.out.upd (Nat.le_refl _) _).push' _⟩

def Rows (H : AHeap) (v : Value) (L : List (List (Int × Int))) : Prop := ∃ vs, Cells H v 1 L.length vs ∧ ∀ (i : Nat) (h : i < L.length), ∃ u, vs[i]? = some u ∧ Spans H u L[i]
theorem Rows.ext {H H' : AHeap} {v : Value} {L : List (List (Int × Int))} (h : Rows H v L) (hx : Ext H H') : Rows H' v L := by
  obtain ⟨vs, h1, h2⟩ := h
  exact ⟨vs, h1.ext hx, fun i hi => by obtain ⟨u, h3, h4⟩ := h2 i hi; exact ⟨u, h3, h4.ext hx⟩⟩
theorem Rows.slice {H : AHeap} {v : Value} {L : List (List (Int × Int))} (h : Rows H v L) : L.length ≤ 9223372036854775807 ∧ ∃ a c, v = .slice a L.length c := by
  obtain ⟨vs, ⟨h1, h2, a', c', h3, h4⟩, h5⟩ := h
  exact ⟨h2, a', c', h3⟩
theorem Rows.at_ {H : AHeap} {a : Option Addr} {n c : Nat} {L : List (List (Int × Int))} (h : Rows H (.slice a n c) L) {k : Nat} (hk : k < L.length) : ∃ b o sp u, a = some ⟨b, o, sp⟩ ∧ b < H.n ∧ cellAt H b (o + k) = some u ∧ Spans H u L[k] := by
  obtain ⟨vs, ⟨h1, h2, a', c', h3, h4⟩, h5⟩ := h
  cases h3
  obtain ⟨b, o, sp, h5', h6, h7⟩ := h4 (by omega)
  obtain ⟨u, h8, h9⟩ := h5 k hk
  exact ⟨b, o, sp, u, h5', h6, h7 k u h8, h9⟩
structure Course where
  open_ : List (List (Int × Int))
  per : Int
def CourseV (H : AHeap) (v : Value) (x : Course) : Prop := ∃ ov, v = .agg #[ov, .int .i64 x.per] ∧ Rows H ov x.open_
theorem CourseV.ext {H H' : AHeap} {v : Value} {x : Course} (h : CourseV H v x) (hx : Ext H H') : CourseV H' v x := by
  obtain ⟨w, h1, h2⟩ := h
  exact ⟨w, h1, h2.ext hx⟩
def Course.at_ (x : Course) (i : Nat) : List (Int × Int) := x.open_.getD i []

theorem next_s {loops : List (Nat × LInfo)} {H : AHeap} {v : Value} {x : Course} {k : Nat} {d : Int} (hv : CourseV H v x) (hk : k < x.open_.length) : CallS Tryz.prog loops 96 [v, .int .i64 k, .int .i64 d] H fun r H' => r = .int .i64 (nextS (x.at_ k) d) ∧ H' = H := by
  refine CallS.forget (R := fun v => v = .int .i64 (nextS (x.at_ k) d)) (by rintro v rfl; rfl) ?_
  obtain ⟨ov, rfl, ho⟩ := hv
  obtain ⟨hol, oa, oc, rfl⟩ := ho.slice
  obtain ⟨b, o, sp, u, rfl, hb, hc, hu⟩ := ho.at_ hk
  have HU := Lib.hid hu
  have hat : x.at_ k = x.open_[k] := by simp [Course.at_, hk]
  rw [hat, findD_next]
  generalize x.open_[k] = l at HU
  clear hu ho hat
  obtain ⟨hll, la, lc, rfl⟩ := HU.out.slice
  generalize hfd : findD l d = fd
  have HFD := Lib.hid hfd
  clear hfd
  refine CallS.enter' Tryz.func96 rfl Tryz.ntmps96 (by simp) fun f hd hf => ?_
  have f0 := hf 0
  have f1 := hf 1
  have f2 := hf 2
  simp at f0 f1 f2
  clear hf
  rcases fd with _ | ⟨lo, hi⟩
  · repeat' (first|(with_reducible first|refine zA ?_|refine zB fun K hK=>?_|refine zC fun K2 hK2=>?_|refine zD ?_|refine zE ?_|refine zF ?_|refine zG ?_|refine zH ?_|refine zI ?_|refine zM ?_|refine zN ?_|refine zO ?_|refine zP ?_|refine zQ ?_|refine zR ?_)|((with_reducible refine zU (hK _ _ ?_));clear hK K)|((with_reducible refine zV ?_ ?_ fun K1 K3 d hdst h1 h3=>?_);rfl;exact yB rfl;cases hdst;go_simp)|((with_reducible refine zW fun K1 K3 h1 h3=>?_);go_simp)|((first|refine h1 ?_|refine h3 ?_);clear h1 h3 K1 K3)|((first|refine zX (fun hb=>h1 ?_) (fun hb=>h3 ?_)|refine zX (fun hb=>h3 ?_) (fun hb=>h1 ?_))<;>(clear h1 h3 K1 K3;(try have hb2:=yC hb);(try have hb2:=yD hb);(try have hb2:=yE hb);(try have hb2:=yF hb);(try have hb2:=yG hb)))|(refine fun (K2:_→AHeap→Prop) hK2=>?_)|((with_reducible refine zY ?_ ?_);decide)|((with_reducible first|refine zZ ?_ (fun K hK=>?_)|refine yA ?_ (fun K hK=>?_));(focus go_simp;done);go_simp;refine hK _ _ ?_;clear hK K)|(go_simp;(try go_bits);(try first | ((with_reducible show CallS _ _ _ _ _ _);refine CallS.mono (find87_e (d := d) (HU.out.ext (((Ext.refl _).push' _).push' _)) (by simp only [AHeap.n_push]; omega) (by go_simp)) ?_; rintro _ H2 ⟨rfl, hx⟩; rw [HFD.out]; (have HX := Lib.hid hx); clear hx; go_simp));refine hK2 _ _ ?_;clear hK2 K2))
    exact ⟨rfl, (((Ext.refl _).push' _).push' _).trans (HX.out.push' _)⟩
  · repeat' (first|(with_reducible first|refine zA ?_|refine zB fun K hK=>?_|refine zC fun K2 hK2=>?_|refine zD ?_|refine zE ?_|refine zF ?_|refine zG ?_|refine zH ?_|refine zI ?_|refine zM ?_|refine zN ?_|refine zO ?_|refine zP ?_|refine zQ ?_|refine zR ?_)|((with_reducible refine zU (hK _ _ ?_));clear hK K)|((with_reducible refine zV ?_ ?_ fun K1 K3 d hdst h1 h3=>?_);rfl;exact yB rfl;cases hdst;go_simp)|((with_reducible refine zW fun K1 K3 h1 h3=>?_);go_simp)|((first|refine h1 ?_|refine h3 ?_);clear h1 h3 K1 K3)|((first|refine zX (fun hb=>h1 ?_) (fun hb=>h3 ?_)|refine zX (fun hb=>h3 ?_) (fun hb=>h1 ?_))<;>(clear h1 h3 K1 K3;(try have hb2:=yC hb);(try have hb2:=yD hb);(try have hb2:=yE hb);(try have hb2:=yF hb);(try have hb2:=yG hb)))|(refine fun (K2:_→AHeap→Prop) hK2=>?_)|((with_reducible refine zY ?_ ?_);decide)|((with_reducible first|refine zZ ?_ (fun K hK=>?_)|refine yA ?_ (fun K hK=>?_));(focus go_simp;done);go_simp;refine hK _ _ ?_;clear hK K)|(go_simp;(try go_bits);(try first | ((with_reducible show CallS _ _ _ _ _ _);refine CallS.mono (find87_e (d := d) (HU.out.ext (((Ext.refl _).push' _).push' _)) (by simp only [AHeap.n_push]; omega) (by go_simp)) ?_; rintro _ H2 ⟨rfl, hx⟩; rw [HFD.out]; (have HX := Lib.hid hx); (have hcd : cellAt H2 (H.n + 1) 0 = some (.int .i64 d) := (hx.cellAt (by simp only [AHeap.n_push]; omega)).trans (by go_simp)); (have hnd : H.n + 1 < H2.n := by have := hx.n; simp only [AHeap.n_push] at this; omega); clear hx; go_simp));refine hK2 _ _ ?_;clear hK2 K2))
    exact ⟨rfl, (((Ext.refl _).push' _).push' _).trans (HX.out.push' _)⟩
end Go.Proofs.Tryz
namespace Go.Proofs.Tryz
open Go Go.Am Go.RowKit Go.Co
set_option maxRecDepth 100000


theorem isOpen1_s {loops : List (Nat × LInfo)} {H : AHeap} {x : Int × Int} {q : Nat} {d : Int} (hq : q < H.n) (hg : cellAt H q 0 = some (.int .i64 d)) : CallS Tryz.prog loops 91 [spanVal x, .pointer (some ⟨q, 0, none⟩)] H fun v H' => v = .bool (win x.1 x.2 d) ∧ H' = H := by
  refine CallS.forget (R := fun v => v = .bool (win x.1 x.2 d)) (by rintro v rfl; rfl) ?_
  obtain ⟨lo, hi⟩ := x
  refine CallS.enter' Tryz.func91 rfl Tryz.ntmps91 (by simp) fun f hd hf => ?_
  have f0 := hf 0
  have f1 := hf 1
  simp [spanVal] at f0 f1
  clear hf
  repeat' (first|(with_reducible first|refine zA ?_|refine zB fun K hK=>?_|refine zC fun K2 hK2=>?_|refine zD ?_|refine zE ?_|refine zF ?_|refine zG ?_|refine zH ?_|refine zI ?_|refine zM ?_|refine zN ?_|refine zO ?_|refine zP ?_|refine zQ ?_|refine zR ?_)|((with_reducible refine zU (hK _ _ ?_));clear hK K)|((with_reducible refine zV ?_ ?_ fun K1 K3 d hdst h1 h3=>?_);rfl;exact yB rfl;cases hdst;go_simp)|((with_reducible refine zW fun K1 K3 h1 h3=>?_);go_simp)|((first|refine h1 ?_|refine h3 ?_);clear h1 h3 K1 K3)|((first|refine zX (fun hb=>h1 ?_) (fun hb=>h3 ?_)|refine zX (fun hb=>h3 ?_) (fun hb=>h1 ?_))<;>(clear h1 h3 K1 K3;(try have hb2:=yC hb);(try have hb2:=yD hb);(try have hb2:=yE hb);(try have hb2:=yF hb);(try have hb2:=yG hb)))|(refine fun (K2:_→AHeap→Prop) hK2=>?_)|((with_reducible refine zY ?_ ?_);decide)|((with_reducible first|refine zZ ?_ (fun K hK=>?_)|refine yA ?_ (fun K hK=>?_));(focus go_simp;done);go_simp;refine hK _ _ ?_;clear hK K)|(go_simp;(try go_bits);(try first | ((with_reducible show CallS _ _ _ _ _ _);refine CallS.mono within_s ?_; rintro _ _ ⟨rfl, rfl⟩));refine hK2 _ _ ?_;clear hK2 K2))
  exact ⟨rfl, (Ext.refl _).push' _⟩

def ixF (d : Int) : Int → List (Int × Int) → Int
  | _, [] => -1
  | k, x :: t => if win x.1 x.2 d = true then k else ixF d (k + 1) t
theorem ixF_ins (d : Int) : ∀ (l : List (Int × Int)) (k : Int), 0 ≤ k → decide (0 ≤ ixF d k l) = ins l d
  | [], _, _ => by simp [ixF, ins]
  | x :: t, k, hk => by
    rw [ixF]
    have e : ins (x :: t) d = (win x.1 x.2 d || ins t d) := rfl
    by_cases h : win x.1 x.2 d = true
    · rw [if_pos h, e, h]; simp [hk]
    · rw [if_neg h, ixF_ins d t (k + 1) (by omega), e]; simp [h]
theorem indexF_e {loops : List (Nat × LInfo)} {H : AHeap} {v : Value} {l : List (Int × Int)} {q : Nat} {d : Int} (hv : Spans H v l) (hq : q < H.n) (hg : cellAt H q 0 = some (.int .i64 d)) : CallS Tryz.prog loops 115 [v, .func (.func 91) #[] #[.pointer (some ⟨q, 0, none⟩)]] H fun r H' => r = .int .i64 (ixF d 0 l) ∧ H' = H := by
  obtain ⟨hlen, a, c, rfl⟩ := hv.slice
  have HV := Lib.hid hv
  clear hv
  generalize he : ixF d 0 l = er
  have HE := Lib.hid he
  clear he
  refine CallS.enter' Tryz.func115 rfl Tryz.ntmps115 (by simp) fun f hd hf => ?_
  have f0 := hf 0
  have f1 := hf 1
  simp at f0 f1
  clear hf
  repeat' (first|(with_reducible first|refine zA ?_|refine zB fun K hK=>?_|refine zC fun K2 hK2=>?_|refine zD ?_|refine zE ?_|refine zF ?_|refine zG ?_|refine zH ?_|refine zI ?_|refine zM ?_|refine zN ?_|refine zO ?_|refine zP ?_|refine zQ ?_|refine zR ?_)|((with_reducible refine zU (hK _ _ ?_));clear hK K)|((with_reducible refine zV ?_ ?_ fun K1 K3 d hdst h1 h3=>?_);rfl;exact yB rfl;cases hdst;go_simp)|((with_reducible refine zW fun K1 K3 h1 h3=>?_);go_simp)|((first|refine h1 ?_|refine h3 ?_);clear h1 h3 K1 K3)|((first|refine zX (fun hb=>h1 ?_) (fun hb=>h3 ?_)|refine zX (fun hb=>h3 ?_) (fun hb=>h1 ?_))<;>(clear h1 h3 K1 K3;(try have hb2:=yC hb);(try have hb2:=yD hb);(try have hb2:=yE hb);(try have hb2:=yF hb);(try have hb2:=yG hb)))|(refine fun (K2:_→AHeap→Prop) hK2=>?_)|((with_reducible refine zY ?_ ?_);decide)|((with_reducible first|refine zZ ?_ (fun K hK=>?_)|refine yA ?_ (fun K hK=>?_));(focus go_simp;done);go_simp;refine hK _ _ ?_;clear hK K)|(go_simp;(try go_bits);refine hK2 _ _ ?_;clear hK2 K2))
  refine CodeS.loop (fun m f H' => ∃ k : Nat, k ≤ l.length ∧ m = l.length - k ∧ f.tmp 8 = .int .i64 k ∧ f.tmp 0 = .slice a l.length c ∧ f.tmp 7 = .int .i64 l.length ∧ f.tmp 1 = .func (.func 91) #[] #[.pointer (some ⟨q, 0, none⟩)] ∧ f.defers = [] ∧ Hid (ixF d k (l.drop k) = er) ∧ H' = H) l.length ?_ ?_
  · exact ⟨0, by simp, by simp, (by first|go_simp<;>go_num|assumption), (by first|go_simp<;>go_num|assumption), (by first|go_simp<;>go_num|assumption), (by first|go_simp<;>go_num|assumption), (by first|go_simp<;>go_num|assumption), Lib.hid (by simpa using HE.out), rfl⟩
  clear f0 f1 hd f HE
  rintro m f H' ⟨k, hk, rfl, f8, f0, f7, f1, hd, HG, rfl⟩
  by_cases hlt : k < l.length
  · obtain ⟨b, o, sp, rfl, hb, hx⟩ := HV.out.cells_at hlt
    have HD := Lib.hid (List.drop_eq_getElem_cons hlt)
    generalize l[k] = y at hx HD
    obtain ⟨lo, hi⟩ := y
    simp only at hx
    have HO := Lib.hid (fun (loops : List (Nat × LInfo)) => isOpen1_s (loops := loops) (x := (lo, hi)) hq hg)
    generalize hww : win lo hi d = ww
    have HWW := Lib.hid hww
    simp only [hww] at HO
    clear hww
    repeat' (first|(with_reducible first|refine zA ?_|refine zB fun K hK=>?_|refine zC fun K2 hK2=>?_|refine zD ?_|refine zE ?_|refine zF ?_|refine zG ?_|refine zH ?_|refine zI ?_|refine zM ?_|refine zN ?_|refine zO ?_|refine zP ?_|refine zQ ?_|refine zR ?_)|((with_reducible refine zU (hK _ _ ?_));clear hK K)|((with_reducible refine zV ?_ ?_ fun K1 K3 d hdst h1 h3=>?_);rfl;exact yB rfl;cases hdst;go_simp)|((with_reducible refine zW fun K1 K3 h1 h3=>?_);go_simp)|((first|refine h1 ?_|refine h3 ?_);clear h1 h3 K1 K3)|((first|refine zX (fun hb=>h1 ?_) (fun hb=>h3 ?_)|refine zX (fun hb=>h3 ?_) (fun hb=>h1 ?_))<;>(clear h1 h3 K1 K3;(try have hb2:=yC hb);(try have hb2:=yD hb);(try have hb2:=yE hb);(try have hb2:=yF hb);(try have hb2:=yG hb)))|(refine fun (K2:_→AHeap→Prop) hK2=>?_)|((with_reducible refine zY ?_ ?_);decide)|((with_reducible first|refine zZ ?_ (fun K hK=>?_)|refine yA ?_ (fun K hK=>?_));(focus go_simp;done);go_simp;refine hK _ _ ?_;clear hK K)|(go_simp;(try go_bits);(try first | ((with_reducible show CallS _ _ _ _ _ _);refine CallS.mono (HO.out _) ?_; rintro _ _ ⟨rfl, rfl⟩));refine hK2 _ _ ?_;clear hK2 K2))
    · refine ⟨?_, rfl⟩
      have hw : win lo hi d = true := by rw [HWW.out]; simpa using hb
      rw [← HG.out, HD.out, ixF]; simp [hw]
    · have hw : ¬ win lo hi d = true := by rw [HWW.out]; simpa using hb
      refine Post.round_normal ⟨l.length - (k + 1), by omega, k + 1, by omega, rfl, (by first|go_simp<;>go_num|assumption), (by first|go_simp<;>go_num|assumption), (by first|go_simp<;>go_num|assumption), (by first|go_simp<;>go_num|assumption), (by first|go_simp<;>go_num|assumption), Lib.hid ?_, rfl⟩
      rw [← HG.out, HD.out, ixF, if_neg hw]; simp
  · repeat' (first|(with_reducible first|refine zA ?_|refine zB fun K hK=>?_|refine zC fun K2 hK2=>?_|refine zD ?_|refine zE ?_|refine zF ?_|refine zG ?_|refine zH ?_|refine zI ?_|refine zM ?_|refine zN ?_|refine zO ?_|refine zP ?_|refine zQ ?_|refine zR ?_)|((with_reducible refine zU (hK _ _ ?_));clear hK K)|((with_reducible refine zV ?_ ?_ fun K1 K3 d hdst h1 h3=>?_);rfl;exact yB rfl;cases hdst;go_simp)|((with_reducible refine zW fun K1 K3 h1 h3=>?_);go_simp)|((first|refine h1 ?_|refine h3 ?_);clear h1 h3 K1 K3)|((first|refine zX (fun hb=>h1 ?_) (fun hb=>h3 ?_)|refine zX (fun hb=>h3 ?_) (fun hb=>h1 ?_))<;>(clear h1 h3 K1 K3;(try have hb2:=yC hb);(try have hb2:=yD hb);(try have hb2:=yE hb);(try have hb2:=yF hb);(try have hb2:=yG hb)))|(refine fun (K2:_→AHeap→Prop) hK2=>?_)|((with_reducible refine zY ?_ ?_);decide)|((with_reducible first|refine zZ ?_ (fun K hK=>?_)|refine yA ?_ (fun K hK=>?_));(focus go_simp;done);go_simp;refine hK _ _ ?_;clear hK K)|(go_simp;(try go_bits);refine hK2 _ _ ?_;clear hK2 K2))
    refine ⟨?_, rfl⟩
    rw [← HG.out, List.drop_eq_nil_of_le (by omega)]; rfl
theorem containsF_e {loops : List (Nat × LInfo)} {H : AHeap} {v : Value} {l : List (Int × Int)} {q : Nat} {d : Int} (hv : Spans H v l) (hq : q < H.n) (hg : cellAt H q 0 = some (.int .i64 d)) : CallS Tryz.prog loops 90 [v, .func (.func 91) #[] #[.pointer (some ⟨q, 0, none⟩)]] H fun r H' => r = .bool (ins l d) ∧ H' = H := by
  obtain ⟨hlen, a, c, rfl⟩ := hv.slice
  have HV := Lib.hid hv
  clear hv
  rw [← ixF_ins d l 0 (by omega)]
  refine CallS.enter' Tryz.func90 rfl Tryz.ntmps90 (by simp) fun f hd hf => ?_
  have f0 := hf 0
  have f1 := hf 1
  simp at f0 f1
  clear hf
  repeat' (first|(with_reducible first|refine zA ?_|refine zB fun K hK=>?_|refine zC fun K2 hK2=>?_|refine zD ?_|refine zE ?_|refine zF ?_|refine zG ?_|refine zH ?_|refine zI ?_|refine zM ?_|refine zN ?_|refine zO ?_|refine zP ?_|refine zQ ?_|refine zR ?_)|((with_reducible refine zU (hK _ _ ?_));clear hK K)|((with_reducible refine zV ?_ ?_ fun K1 K3 d hdst h1 h3=>?_);rfl;exact yB rfl;cases hdst;go_simp)|((with_reducible refine zW fun K1 K3 h1 h3=>?_);go_simp)|((first|refine h1 ?_|refine h3 ?_);clear h1 h3 K1 K3)|((first|refine zX (fun hb=>h1 ?_) (fun hb=>h3 ?_)|refine zX (fun hb=>h3 ?_) (fun hb=>h1 ?_))<;>(clear h1 h3 K1 K3;(try have hb2:=yC hb);(try have hb2:=yD hb);(try have hb2:=yE hb);(try have hb2:=yF hb);(try have hb2:=yG hb)))|(refine fun (K2:_→AHeap→Prop) hK2=>?_)|((with_reducible refine zY ?_ ?_);decide)|((with_reducible first|refine zZ ?_ (fun K hK=>?_)|refine yA ?_ (fun K hK=>?_));(focus go_simp;done);go_simp;refine hK _ _ ?_;clear hK K)|(go_simp;(try go_bits);(try first | ((with_reducible show CallS _ _ _ _ _ _);refine CallS.mono (indexF_e HV.out hq hg) ?_; rintro _ _ ⟨rfl, rfl⟩));refine hK2 _ _ ?_;clear hK2 K2))
  all_goals (exact ⟨rfl, rfl⟩)

theorem isOpen_s {loops : List (Nat × LInfo)} {H : AHeap} {v : Value} {x : Course} {k : Nat} {d : Int} (hv : CourseV H v x) (hk : k < x.open_.length) : CallS Tryz.prog loops 44 [v, .int .i64 k, .int .i64 d] H fun r H' => r = .bool (ins (x.at_ k) d) ∧ H' = H := by
  refine CallS.forget (R := fun v => v = .bool (ins (x.at_ k) d)) (by rintro v rfl; rfl) ?_
  obtain ⟨ov, rfl, ho⟩ := hv
  obtain ⟨hol, oa, oc, rfl⟩ := ho.slice
  obtain ⟨b, o, sp, u, rfl, hb, hc, hu⟩ := ho.at_ hk
  have HU := Lib.hid hu
  have hat : x.at_ k = x.open_[k] := by simp [Course.at_, hk]
  rw [hat]
  generalize x.open_[k] = l at HU
  clear hu ho hat
  obtain ⟨hll, la, lc, rfl⟩ := HU.out.slice
  refine CallS.enter' Tryz.func44 rfl Tryz.ntmps44 (by simp) fun f hd hf => ?_
  have f0 := hf 0
  have f1 := hf 1
  have f2 := hf 2
  simp at f0 f1 f2
  clear hf
  repeat' (first|(with_reducible first|refine zA ?_|refine zB fun K hK=>?_|refine zC fun K2 hK2=>?_|refine zD ?_|refine zE ?_|refine zF ?_|refine zG ?_|refine zH ?_|refine zI ?_|refine zM ?_|refine zN ?_|refine zO ?_|refine zP ?_|refine zQ ?_|refine zR ?_)|((with_reducible refine zU (hK _ _ ?_));clear hK K)|((with_reducible refine zV ?_ ?_ fun K1 K3 d hdst h1 h3=>?_);rfl;exact yB rfl;cases hdst;go_simp)|((with_reducible refine zW fun K1 K3 h1 h3=>?_);go_simp)|((first|refine h1 ?_|refine h3 ?_);clear h1 h3 K1 K3)|((first|refine zX (fun hb=>h1 ?_) (fun hb=>h3 ?_)|refine zX (fun hb=>h3 ?_) (fun hb=>h1 ?_))<;>(clear h1 h3 K1 K3;(try have hb2:=yC hb);(try have hb2:=yD hb);(try have hb2:=yE hb);(try have hb2:=yF hb);(try have hb2:=yG hb)))|(refine fun (K2:_→AHeap→Prop) hK2=>?_)|((with_reducible refine zY ?_ ?_);decide)|((with_reducible first|refine zZ ?_ (fun K hK=>?_)|refine yA ?_ (fun K hK=>?_));(focus go_simp;done);go_simp;refine hK _ _ ?_;clear hK K)|(go_simp;(try go_bits);(try first | ((with_reducible show CallS _ _ _ _ _ _);refine CallS.mono (containsF_e (d := d) (HU.out.ext (((Ext.refl _).push' _).push' _)) (by simp only [AHeap.n_push]; omega) (by go_simp)) ?_; rintro _ _ ⟨rfl, rfl⟩));refine hK2 _ _ ?_;clear hK2 K2))
  exact ⟨rfl, ((Ext.refl _).push' _).push' _⟩

end Go.Proofs.Tryz
namespace Go.Proofs.Tryz
open Go Go.Am Go.RowKit Go.Co
set_option maxRecDepth 100000

def Course.nx (x : Course) (i : Nat) (f : Int) : Int := nextS (x.at_ i) f
def Course.ord (x : Course) : Prop := ∀ i, ordS 0 (x.at_ i)
theorem Course.nx_ok {x : Course} (h : x.ord) (i : Nat) (f : Int) : NextOk (ins (x.at_ i)) f (x.nx i f) := nextS_ok _ (h i) f
def Course.early (x : Course) (p : Nat) (frm : Int) : List Int := Co.early x.nx p frm x.open_.length []

end Go.Proofs.Tryz
