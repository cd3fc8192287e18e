/- Contracts of functions, walked. -/
import Derived.Lib.Hide
import Derived.Test.YtgddlpegljkgpaaGreatStS0
import Derived.Test.YtgddlpegljkgpaaGreatAwB
set_option linter.all false
namespace Go.Proofs.Tryz
open Go Go.Am Go.RowKit
set_option maxRecDepth 100000


def win (lo hi n : Int) : Bool := decide (lo ≤ n) && decide (n ≤ hi)
theorem win_iff {lo hi n : Int} : win lo hi n = true ↔ lo ≤ n ∧ n ≤ hi := by simp [win]
theorem within_s {loops : List (Nat × LInfo)} {H : AHeap} {n lo hi : Int} : CallS Tryz.prog loops 73 [.int .i64 n, .int .i64 lo, .int .i64 hi] H fun v H' => v = .bool (win lo hi n) ∧ H' = H := by
  refine CallS.enter' Tryz.func73 rfl Tryz.ntmps73 (by simp) fun f hd hf => ?_
  have f0 := hf 0
  have f1 := hf 1
  have f2 := hf 2
  simp at f0 f1 f2
  clear hf
  unfold win
  repeat' (first|(with_reducible first|refine zA ?_|refine zB fun K hK=>?_|refine zC fun K2 hK2=>?_|refine zD ?_|refine zE ?_|refine zF ?_|refine zG ?_|refine zH ?_|refine zI ?_|refine zM ?_|refine zN ?_|refine zO ?_|refine zP ?_|refine zQ ?_|refine zR ?_)|((with_reducible refine zU (hK _ _ ?_));clear hK K)|((with_reducible refine zV ?_ ?_ fun K1 K3 d hdst h1 h3=>?_);rfl;exact yB rfl;cases hdst;go_simp)|((with_reducible refine zW fun K1 K3 h1 h3=>?_);go_simp)|((first|refine h1 ?_|refine h3 ?_);clear h1 h3 K1 K3)|((first|refine zX (fun hb=>h1 ?_) (fun hb=>h3 ?_)|refine zX (fun hb=>h3 ?_) (fun hb=>h1 ?_))<;>(clear h1 h3 K1 K3;(try have hb2:=yC hb);(try have hb2:=yD hb);(try have hb2:=yE hb);(try have hb2:=yF hb);(try have hb2:=yG hb)))|(refine fun (K2:_→AHeap→Prop) hK2=>?_)|((with_reducible refine zY ?_ ?_);decide)|((with_reducible first|refine zZ ?_ (fun K hK=>?_)|refine yA ?_ (fun K hK=>?_));(focus go_simp;done);go_simp;refine hK _ _ ?_;clear hK K)|(go_simp;(try go_bits);refine hK2 _ _ ?_;clear hK2 K2))
  all_goals (refine ⟨?_, rfl⟩; simp [*])

structure Alt where
  id : Int
  kind : Int
  day : Int
  frm : Int
  to : Int
  word : Int
  deriving DecidableEq

def Alt.cells (a : Alt) : List Value := [.int .i64 a.id, .int .i64 a.kind, .int .i64 a.day, .int .i64 a.frm, .int .i64 a.to, .int .i64 a.word]
def Alt.val (a : Alt) : Value := .agg #[.int .i64 a.id, .int .i64 a.kind, .int .i64 a.day, .int .i64 a.frm, .int .i64 a.to, .int .i64 a.word]

def Alt.suits (a : Alt) : Bool := if a.kind = 1 ∨ a.kind = 2 then a.word == 0 else if a.kind = 3 ∨ a.kind = 4 then (a.to == a.frm) && win 1 9999 a.word else false

theorem suits_e {loops : List (Nat × LInfo)} {H : AHeap} {a : Alt} : CallS Tryz.prog loops 125 [a.val] H fun v H' => v = .bool a.suits ∧ Ext H H' := by
  obtain ⟨i, kd, dy, fr, to, wd⟩ := a
  refine CallS.enter' Tryz.func125 rfl Tryz.ntmps125 (by simp) fun f hd hf => ?_
  have f0 := hf 0
  simp [Alt.val] at f0
  clear hf
  repeat' (first|(with_reducible first|refine zA ?_|refine zB fun K hK=>?_|refine zC fun K2 hK2=>?_|refine zD ?_|refine zE ?_|refine zF ?_|refine zG ?_|refine zH ?_|refine zI ?_|refine zM ?_|refine zN ?_|refine zO ?_|refine zP ?_|refine zQ ?_|refine zR ?_)|((with_reducible refine zU (hK _ _ ?_));clear hK K)|((with_reducible refine zV ?_ ?_ fun K1 K3 d hdst h1 h3=>?_);rfl;exact yB rfl;cases hdst;go_simp)|((with_reducible refine zW fun K1 K3 h1 h3=>?_);go_simp)|((first|refine h1 ?_|refine h3 ?_);clear h1 h3 K1 K3)|((first|refine zX (fun hb=>h1 ?_) (fun hb=>h3 ?_)|refine zX (fun hb=>h3 ?_) (fun hb=>h1 ?_))<;>(clear h1 h3 K1 K3;(try have hb2:=yC hb);(try have hb2:=yD hb);(try have hb2:=yE hb);(try have hb2:=yF hb);(try have hb2:=yG hb)))|(refine fun (K2:_→AHeap→Prop) hK2=>?_)|((with_reducible refine zY ?_ ?_);decide)|((with_reducible first|refine zZ ?_ (fun K hK=>?_)|refine yA ?_ (fun K hK=>?_));(focus go_simp;done);go_simp;refine hK _ _ ?_;clear hK K)|(go_simp;(try go_bits);(try first | ((with_reducible show CallS _ _ _ _ _ _);refine CallS.mono within_s ?_; rintro _ _ ⟨rfl, rfl⟩));refine hK2 _ _ ?_;clear hK2 K2))
  all_goals (refine ⟨?_, (Ext.refl _).push' _⟩; simp_all [Alt.suits])
theorem suits_s {loops : List (Nat × LInfo)} {H : AHeap} {a : Alt} : CallS Tryz.prog loops 125 [a.val] H fun v H' => v = .bool a.suits ∧ H' = H :=
  (suits_e.forget (R := fun v => v = .bool a.suits) (by rintro v rfl; rfl))

def Alt.right (a : Alt) (lines : Int) : Bool := win 1 1099511627776 a.id && (win 0 730 a.day && (win 0 a.to a.frm && (win 0 (lines - 1) a.to && a.suits)))

theorem right_s {loops : List (Nat × LInfo)} {H : AHeap} {a : Alt} {n : Nat} (hn : n ≤ 9223372036854775807) : CallS Tryz.prog loops 104 [a.val, .int .i64 n] H fun v H' => v = .bool (a.right n) ∧ H' = H := by
  refine CallS.forget (R := fun v => v = .bool (a.right n)) (by rintro v rfl; rfl) ?_
  have hsuit := fun (loops : List (Nat × LInfo)) (H : AHeap) => suits_s (loops := loops) (H := H) (a := a)
  unfold Alt.right
  generalize a.suits = ss at hsuit ⊢
  obtain ⟨i, kd, dy, fr, to, wd⟩ := a
  refine CallS.enter' Tryz.func104 rfl Tryz.ntmps104 (by simp) fun f hd hf => ?_
  have f0 := hf 0
  have f1 := hf 1
  simp [Alt.val] at f0 f1
  clear hf
  have HS := Lib.hid hsuit
  clear hsuit
  repeat' (first|(with_reducible first|refine zA ?_|refine zB fun K hK=>?_|refine zC fun K2 hK2=>?_|refine zD ?_|refine zE ?_|refine zF ?_|refine zG ?_|refine zH ?_|refine zI ?_|refine zM ?_|refine zN ?_|refine zO ?_|refine zP ?_|refine zQ ?_|refine zR ?_)|((with_reducible refine zU (hK _ _ ?_));clear hK K)|((with_reducible refine zV ?_ ?_ fun K1 K3 d hdst h1 h3=>?_);rfl;exact yB rfl;cases hdst;go_simp)|((with_reducible refine zW fun K1 K3 h1 h3=>?_);go_simp)|((first|refine h1 ?_|refine h3 ?_);clear h1 h3 K1 K3)|((first|refine zX (fun hb=>h1 ?_) (fun hb=>h3 ?_)|refine zX (fun hb=>h3 ?_) (fun hb=>h1 ?_))<;>(clear h1 h3 K1 K3;(try have hb2:=yC hb);(try have hb2:=yD hb);(try have hb2:=yE hb);(try have hb2:=yF hb);(try have hb2:=yG hb)))|(refine fun (K2:_→AHeap→Prop) hK2=>?_)|((with_reducible refine zY ?_ ?_);decide)|((with_reducible first|refine zZ ?_ (fun K hK=>?_)|refine yA ?_ (fun K hK=>?_));(focus go_simp;done);go_simp;refine hK _ _ ?_;clear hK K)|(go_simp;(try go_bits);(try first |((with_reducible show CallS _ _ _ _ _ _);first|(refine CallS.mono within_s ?_; rintro _ _ ⟨rfl, rfl⟩)|(refine CallS.mono (HS.out _ _) ?_; rintro _ _ ⟨rfl, rfl⟩)));refine hK2 _ _ ?_;clear hK2 K2))
  all_goals (refine ⟨?_, (Ext.refl _).push' _⟩; simp_all)

def Cells (H : AHeap) (v : Value) (size n : Nat) (xs : List Value) : Prop :=
  xs.length = n * size ∧ n ≤ 9223372036854775807 ∧ ∃ a c, v = .slice a n c ∧ (0 < n → ∃ b o sp, a = some ⟨b, o, sp⟩ ∧ b < H.n ∧ ∀ j u, xs[j]? = some u → cellAt H b (o + j) = some u)
theorem Cells.ext {H H' : AHeap} {v : Value} {size n : Nat} {xs : List Value} (h : Cells H v size n xs) (hx : Ext H H') : Cells H' v size n xs := by
  obtain ⟨h1, h2, a, c, h3, h4⟩ := h
  refine ⟨h1, h2, a, c, h3, fun hn => ?_⟩
  obtain ⟨b, o, sp, h5, h6, h7⟩ := h4 hn
  exact ⟨b, o, sp, h5, Nat.lt_of_lt_of_le h6 hx.n, fun j u hu => by rw [hx.cellAt h6]; exact h7 j u hu⟩
def Ints (H : AHeap) (v : Value) (xs : List Int) : Prop := Cells H v 1 xs.length (xs.map (Value.int .i64))
theorem Ints.ext {H H' : AHeap} {v : Value} {xs : List Int} (h : Ints H v xs) (hx : Ext H H') : Ints H' v xs := Cells.ext h hx
theorem Ints.at_ {H : AHeap} {a : Option Addr} {n c : Nat} {xs : List Int} (h : Ints H (.slice a n c) xs) {k : Nat} (hk : k < xs.length) : ∃ b o sp, a = some ⟨b, o, sp⟩ ∧ b < H.n ∧ cellAt H b (o + k) = some (.int .i64 xs[k]) := by
  obtain ⟨h1, h2, a', c', h3, h4⟩ := h
  cases h3
  obtain ⟨b, o, sp, h5, h6, h7⟩ := h4 (by omega)
  exact ⟨b, o, sp, h5, h6, h7 k _ (by simp [hk])⟩
theorem Ints.slice {H : AHeap} {v : Value} {xs : List Int} (h : Ints H v xs) : xs.length ≤ 9223372036854775807 ∧ ∃ a c, v = .slice a xs.length c := by
  obtain ⟨h1, h2, a', c', h3, h4⟩ := h
  exact ⟨h2, a', c', h3⟩

def wordsOk (least : Int) (xs : List Int) : Bool := xs.all (win least 9999)

theorem areWords_s {loops : List (Nat × LInfo)} {H : AHeap} {v : Value} {xs : List Int} {least : Int} (hv : Ints H v xs) : CallS Tryz.prog loops 88 [v, .int .i64 least] H fun r H' => r = .bool (wordsOk least xs) ∧ H' = H := by
  obtain ⟨hlen, a, c, rfl⟩ := hv.slice
  have HV := Lib.hid hv
  clear hv
  refine CallS.enter' Tryz.func88 rfl Tryz.ntmps88 (by simp) fun f hd hf => ?_
  have f0 := hf 0
  have f1 := hf 1
  simp at f0 f1
  clear hf
  repeat' (first|(with_reducible first|refine zA ?_|refine zB fun K hK=>?_|refine zC fun K2 hK2=>?_|refine zD ?_|refine zE ?_|refine zF ?_|refine zG ?_|refine zH ?_|refine zI ?_|refine zM ?_|refine zN ?_|refine zO ?_|refine zP ?_|refine zQ ?_|refine zR ?_)|((with_reducible refine zU (hK _ _ ?_));clear hK K)|((with_reducible refine zV ?_ ?_ fun K1 K3 d hdst h1 h3=>?_);rfl;exact yB rfl;cases hdst;go_simp)|((with_reducible refine zW fun K1 K3 h1 h3=>?_);go_simp)|((first|refine h1 ?_|refine h3 ?_);clear h1 h3 K1 K3)|((first|refine zX (fun hb=>h1 ?_) (fun hb=>h3 ?_)|refine zX (fun hb=>h3 ?_) (fun hb=>h1 ?_))<;>(clear h1 h3 K1 K3;(try have hb2:=yC hb);(try have hb2:=yD hb);(try have hb2:=yE hb);(try have hb2:=yF hb);(try have hb2:=yG hb)))|(refine fun (K2:_→AHeap→Prop) hK2=>?_)|((with_reducible refine zY ?_ ?_);decide)|((with_reducible first|refine zZ ?_ (fun K hK=>?_)|refine yA ?_ (fun K hK=>?_));(focus go_simp;done);go_simp;refine hK _ _ ?_;clear hK K)|(go_simp;(try go_bits);refine hK2 _ _ ?_;clear hK2 K2))
  refine CodeS.loop (fun m f H' => ∃ k : Nat, k ≤ xs.length ∧ m = xs.length - k ∧ f.tmp 9 = .int .i64 k ∧ f.tmp 7 = .slice a xs.length c ∧ f.tmp 8 = .int .i64 xs.length ∧ f.tmp 1 = .int .i64 least ∧ f.defers = [] ∧ Hid (wordsOk least (xs.drop k) = wordsOk least xs) ∧ H' = H) xs.length ?_ ?_
  · exact ⟨0, by simp, by simp, by go_simp, by go_simp, by go_simp, by go_simp, by go_simp, Lib.hid (by simp), rfl⟩
  clear f0 f1 hd f
  rintro m f H' ⟨k, hk, rfl, f9, f7, f8, f1, hd, HG, rfl⟩
  by_cases hlt : k < xs.length
  · obtain ⟨b, o, sp, rfl, hb, hx⟩ := HV.out.at_ hlt
    have HD := Lib.hid (List.drop_eq_getElem_cons hlt)
    generalize xs[k] = y at hx HD
    repeat' (first|(with_reducible first|refine zA ?_|refine zB fun K hK=>?_|refine zC fun K2 hK2=>?_|refine zD ?_|refine zE ?_|refine zF ?_|refine zG ?_|refine zH ?_|refine zI ?_|refine zM ?_|refine zN ?_|refine zO ?_|refine zP ?_|refine zQ ?_|refine zR ?_)|((with_reducible refine zU (hK _ _ ?_));clear hK K)|((with_reducible refine zV ?_ ?_ fun K1 K3 d hdst h1 h3=>?_);rfl;exact yB rfl;cases hdst;go_simp)|((with_reducible refine zW fun K1 K3 h1 h3=>?_);go_simp)|((first|refine h1 ?_|refine h3 ?_);clear h1 h3 K1 K3)|((first|refine zX (fun hb=>h1 ?_) (fun hb=>h3 ?_)|refine zX (fun hb=>h3 ?_) (fun hb=>h1 ?_))<;>(clear h1 h3 K1 K3;(try have hb2:=yC hb);(try have hb2:=yD hb);(try have hb2:=yE hb);(try have hb2:=yF hb);(try have hb2:=yG hb)))|(refine fun (K2:_→AHeap→Prop) hK2=>?_)|((with_reducible refine zY ?_ ?_);decide)|((with_reducible first|refine zZ ?_ (fun K hK=>?_)|refine yA ?_ (fun K hK=>?_));(focus go_simp;done);go_simp;refine hK _ _ ?_;clear hK K)|(go_simp;(try go_bits);(try first | ((with_reducible show CallS _ _ _ _ _ _);refine CallS.mono within_s ?_; rintro _ _ ⟨rfl, rfl⟩));refine hK2 _ _ ?_;clear hK2 K2))
    · refine ⟨?_, rfl⟩
      have hw : win least 9999 y = false := by simpa using hb
      rw [← HG.out, HD.out]; simp [wordsOk, hw]
    · have hw : win least 9999 y = true := by simpa using hb
      refine Post.round_normal ⟨xs.length - (k + 1), by omega, k + 1, by omega, rfl, (by first|go_simp<;>go_num|assumption), (by first|go_simp<;>go_num|assumption), (by first|go_simp<;>go_num|assumption), (by first|go_simp<;>go_num|assumption), (by first|go_simp<;>go_num|assumption), Lib.hid ?_, rfl⟩
      rw [← HG.out, HD.out]; simp [wordsOk, hw]
  · repeat' (first|(with_reducible first|refine zA ?_|refine zB fun K hK=>?_|refine zC fun K2 hK2=>?_|refine zD ?_|refine zE ?_|refine zF ?_|refine zG ?_|refine zH ?_|refine zI ?_|refine zM ?_|refine zN ?_|refine zO ?_|refine zP ?_|refine zQ ?_|refine zR ?_)|((with_reducible refine zU (hK _ _ ?_));clear hK K)|((with_reducible refine zV ?_ ?_ fun K1 K3 d hdst h1 h3=>?_);rfl;exact yB rfl;cases hdst;go_simp)|((with_reducible refine zW fun K1 K3 h1 h3=>?_);go_simp)|((first|refine h1 ?_|refine h3 ?_);clear h1 h3 K1 K3)|((first|refine zX (fun hb=>h1 ?_) (fun hb=>h3 ?_)|refine zX (fun hb=>h3 ?_) (fun hb=>h1 ?_))<;>(clear h1 h3 K1 K3;(try have hb2:=yC hb);(try have hb2:=yD hb);(try have hb2:=yE hb);(try have hb2:=yF hb);(try have hb2:=yG hb)))|(refine fun (K2:_→AHeap→Prop) hK2=>?_)|((with_reducible refine zY ?_ ?_);decide)|((with_reducible first|refine zZ ?_ (fun K hK=>?_)|refine yA ?_ (fun K hK=>?_));(focus go_simp;done);go_simp;refine hK _ _ ?_;clear hK K)|(go_simp;(try go_bits);refine hK2 _ _ ?_;clear hK2 K2))
    refine ⟨?_, rfl⟩
    rw [← HG.out, List.drop_eq_nil_of_le (by omega)]; rfl
end Go.Proofs.Tryz
namespace Go.Proofs.Tryz
open Go Go.Am Go.RowKit
set_option maxRecDepth 100000


structure Sheet where
  words : List Int
  alts : List Alt

def altCells (l : List Alt) : List Value := l.flatMap Alt.cells
theorem altCells_length : ∀ l : List Alt, (altCells l).length = l.length * 6
  | [] => rfl
  | a :: l => by
    have := altCells_length l
    simp only [altCells, List.flatMap_cons, List.length_append] at *
    rw [this]; simp [Alt.cells]; omega
theorem altCells_get : ∀ (l : List Alt) (k : Nat) (h : k < l.length) (j : Nat) (u : Value), (l[k]).cells[j]? = some u → (altCells l)[k * 6 + j]? = some u
  | a :: l, 0, _, j, u, hu => by
    simp only [altCells, List.flatMap_cons, Nat.zero_mul, Nat.zero_add]
    have hu' : a.cells[j]? = some u := hu
    rw [List.getElem?_append_left (List.getElem?_eq_some_iff.1 hu').1]; exact hu'
  | a :: l, k + 1, h, j, u, hu => by
    have := altCells_get l k (by simpa using h) j u (by simpa using hu)
    simp only [altCells, List.flatMap_cons]
    rw [List.getElem?_append_right (by simp [Alt.cells]; omega)]
    have e : (k + 1) * 6 + j - a.cells.length = k * 6 + j := by simp [Alt.cells]; omega
    rw [e]; exact this

def Alts (H : AHeap) (v : Value) (l : List Alt) : Prop := Cells H v 6 l.length (altCells l)
theorem Alts.ext {H H' : AHeap} {v : Value} {l : List Alt} (h : Alts H v l) (hx : Ext H H') : Alts H' v l := Cells.ext h hx
theorem Alts.slice {H : AHeap} {v : Value} {l : List Alt} (h : Alts H v l) : l.length ≤ 9223372036854775807 ∧ ∃ a c, v = .slice a l.length c := by
  obtain ⟨h1, h2, a', c', h3, h4⟩ := h
  exact ⟨h2, a', c', h3⟩
theorem Alts.at_ {H : AHeap} {a : Option Addr} {n c : Nat} {l : List Alt} (h : Alts H (.slice a n c) l) {k : Nat} (hk : k < l.length) : ∃ b o sp, a = some ⟨b, o, sp⟩ ∧ b < H.n ∧ cellsAt H b (o + k * 6) 6 = some (l[k]).cells ∧ ∀ j u, (l[k]).cells[j]? = some u → cellAt H b (o + k * 6 + j) = some u := by
  obtain ⟨h1, h2, a', c', h3, h4⟩ := h
  cases h3
  obtain ⟨b, o, sp, h5, h6, h7⟩ := h4 (by omega)
  have hc : ∀ j u, (l[k]).cells[j]? = some u → cellAt H b (o + k * 6 + j) = some u := fun j u hu => by
    rw [Nat.add_assoc]; exact h7 _ u (altCells_get l k hk j u hu)
  exact ⟨b, o, sp, h5, h6, cellsAt_of (us := (l[k]).cells) (by simp [Alt.cells]) hc, hc⟩

def SheetV (H : AHeap) (v : Value) (s : Sheet) : Prop := ∃ wv av, v = .agg #[wv, av] ∧ Ints H wv s.words ∧ Alts H av s.alts
theorem SheetV.ext {H H' : AHeap} {v : Value} {s : Sheet} (h : SheetV H v s) (hx : Ext H H') : SheetV H' v s := by
  obtain ⟨w, a, h1, h2, h3⟩ := h
  exact ⟨w, a, h1, h2.ext hx, h3.ext hx⟩

def errGo (n : Int) : Int → List Int → List Alt → Int
  | _, _, [] => 0
  | day, seen, a :: t => if a.right n = false ∨ a.day < day then 1 else if a.id ∈ seen then 6 else errGo n a.day (seen ++ [a.id]) t
def err (s : Sheet) : Int := if win 1 40 s.words.length = false ∨ wordsOk 1 s.words = false then 1 else if 40 < s.alts.length then 2 else errGo s.words.length 0 [] s.alts

def seenL (l : List Alt) : List (Int × Value) := l.map fun a => (a.id, a.val)
theorem look_seen : ∀ (l : List Alt) (k : Int), (lookL (seenL l) k).isSome = decide (k ∈ l.map (·.id))
  | [], k => by simp [lookL, seenL]
  | a :: l, k => by
    have := look_seen l k
    simp only [lookL, seenL, List.map_cons, List.find?_cons, List.mem_cons] at *
    by_cases h : k = a.id
    · simp [h]
    · have hb : (k == a.id) = false := by simpa using h
      rw [hb]; simp only [h, false_or]; exact this
theorem look_val : ∀ (l : List Alt) (k : Int), ∃ x : Alt, (lookL (seenL l) k).getD (.agg #[.int .i64 0, .int .i64 0, .int .i64 0, .int .i64 0, .int .i64 0, .int .i64 0]) = x.val
  | [], k => ⟨⟨0, 0, 0, 0, 0, 0⟩, rfl⟩
  | a :: l, k => by
    obtain ⟨x, hx⟩ := look_val l k
    simp only [lookL, seenL, List.map_cons, List.find?_cons] at *
    by_cases h : k = a.id
    · exact ⟨a, by simp [h]⟩
    · have hb : (k == a.id) = false := by simpa using h
      rw [hb]; exact ⟨x, hx⟩

theorem check_e {loops : List (Nat × LInfo)} {H : AHeap} {v : Value} {s : Sheet} (hv : SheetV H v s) : CallS Tryz.prog loops 75 [v] H fun r H' => r = .int .i64 (err s) ∧ Ext H H' := by
  obtain ⟨wv, av, rfl, hw, ha⟩ := hv
  obtain ⟨hwl, wa, wc, rfl⟩ := hw.slice
  obtain ⟨hal, aa, ac, rfl⟩ := ha.slice
  have HW := Lib.hid hw
  have HA := Lib.hid ha
  clear hw ha
  generalize he : err s = er
  have HE := Lib.hid he
  clear he
  refine CallS.enter' Tryz.func75 rfl Tryz.ntmps75 (by simp) fun f hd hf => ?_
  have f0 := hf 0
  simp at f0
  clear hf
  repeat' (first|(with_reducible first|refine zA ?_|refine zB fun K hK=>?_|refine zC fun K2 hK2=>?_|refine zD ?_|refine zE ?_|refine zF ?_|refine zG ?_|refine zH ?_|refine zI ?_|refine zM ?_|refine zN ?_|refine zO ?_|refine zP ?_|refine zQ ?_|refine zR ?_)|((with_reducible refine zU (hK _ _ ?_));clear hK K)|((with_reducible refine zV ?_ ?_ fun K1 K3 d hdst h1 h3=>?_);rfl;exact yB rfl;cases hdst;go_simp)|((with_reducible refine zW fun K1 K3 h1 h3=>?_);go_simp)|((first|refine h1 ?_|refine h3 ?_);clear h1 h3 K1 K3)|((first|refine zX (fun hb=>h1 ?_) (fun hb=>h3 ?_)|refine zX (fun hb=>h3 ?_) (fun hb=>h1 ?_))<;>(clear h1 h3 K1 K3;(try have hb2:=yC hb);(try have hb2:=yD hb);(try have hb2:=yE hb);(try have hb2:=yF hb);(try have hb2:=yG hb)))|(refine fun (K2:_→AHeap→Prop) hK2=>?_)|((with_reducible refine zY ?_ ?_);decide)|((with_reducible first|refine zZ ?_ (fun K hK=>?_)|refine yA ?_ (fun K hK=>?_));(focus go_simp;done);go_simp;refine hK _ _ ?_;clear hK K)|(go_simp;(try go_bits);(try first |((with_reducible show CallS _ _ _ _ _ _);first|(refine CallS.mono within_s ?_; rintro _ _ ⟨rfl, rfl⟩)|(refine CallS.mono (areWords_s (HW.out.ext ((Ext.refl _).push' _))) ?_; rintro _ _ ⟨rfl, rfl⟩)));refine hK2 _ _ ?_;clear hK2 K2))
  · refine ⟨?_, (Ext.refl _).push' _⟩
    have hw : win 1 40 (s.words.length : Int) = false := by simpa using hb
    rw [← HE.out]; simp [err, hw]
  · refine ⟨?_, (Ext.refl _).push' _⟩
    have hw : wordsOk 1 s.words = false := by simpa using hb
    rw [← HE.out]; simp [err, hw]
  · refine ⟨?_, (Ext.refl _).push' _⟩
    rename_i hb1 hb0
    have hw0 : win 1 40 (s.words.length : Int) = true := by simpa using hb1
    have hw1 : wordsOk 1 s.words = true := by simpa using hb0
    rw [← HE.out]; simp [err, hw0, hw1]; omega
  · rename_i hb1 hb0 hb3
    have hw0 : win 1 40 (s.words.length : Int) = true := by simpa using hb1
    have hw1 : wordsOk 1 s.words = true := by simpa using hb0
    have HE2 : Hid (errGo s.words.length 0 [] s.alts = er) := Lib.hid (by rw [← HE.out]; simp [err, hw0, hw1]; omega)
    clear HE hb1 hb0 hb3 hb hb2 hw0 hw1
    refine CodeS.loop (fun m f H' => ∃ (k : Nat) (day : Int), k ≤ s.alts.length ∧ m = s.alts.length - k ∧ f.tmp 28 = .int .i64 k ∧ f.tmp 27 = .int .i64 s.alts.length ∧ f.tmp 26 = .slice aa s.alts.length ac ∧ f.tmp 1 = .pointer (some ⟨H.n, 0, none⟩) ∧ f.tmp 3 = .map (some (H.n + 1)) ∧ f.tmp 4 = .int .i64 day ∧ f.defers = [] ∧ Hid (errGo s.words.length day ((s.alts.take k).map (·.id)) (s.alts.drop k) = er) ∧ H.n + 1 < H'.n ∧ Ext H H' ∧ H'.get H.n = .row [Value.slice wa s.words.length wc, Value.slice aa s.alts.length ac] 25 ∧ MapIs H' (H.n + 1) (seenL (s.alts.take k))) s.alts.length ?_ ?_
    · refine ⟨0, 0, by simp, by simp, (by first|go_simp<;>go_num|assumption), (by first|go_simp<;>go_num|assumption), (by first|go_simp<;>go_num|assumption), (by first|go_simp<;>go_num|assumption), (by first|go_simp<;>go_num|assumption), (by first|go_simp<;>go_num|assumption), (by first|go_simp<;>go_num|assumption), Lib.hid (by simpa using HE2.out), ?_, ?_, ?_, ?_⟩
      · rw [AHeap.n_push, AHeap.n_push]; omega
      · exact ((Ext.refl _).push' _).push' _
      · rw [AHeap.get_push_old (by rw [AHeap.n_push]; omega), AHeap.get_push_new]
      · exact MapIs.new
    clear f0 hd HE2 f
    rintro m f H' ⟨k, day, hk, rfl, f28, f27, f26, f1, f3, f4, hd, HG, hn, hx, hg, hm⟩
    have hc0 : cellAt H' H.n 0 = some (Value.slice wa s.words.length wc) := by simp [cellAt, hg]
    have hc1 : cellAt H' H.n 1 = some (Value.slice aa s.alts.length ac) := by simp [cellAt, hg]
    have hn0 : H.n < H'.n := by omega
    have HX := Lib.hid hx
    have HM := Lib.hid hm
    have HGT := Lib.hid hg
    clear hx hm hg
    by_cases hlt : k < s.alts.length
    · obtain ⟨b, o, sp, rfl, hb, hx6, -⟩ := (HA.out.ext HX.out).at_ hlt
      have HD := Lib.hid (List.drop_eq_getElem_cons hlt)
      have HT := Lib.hid (List.take_succ_eq_append_getElem hlt)
      generalize s.alts[k] = a at hx6 HD HT
      obtain ⟨i, kd, dy, fr, to, wd⟩ := a
      obtain ⟨⟨xi, xk, xd, xf, xt, xw⟩, hxv⟩ := look_val (s.alts.take k) i
      simp only [Alt.cells] at hx6
      simp only [Alt.val] at hxv
      have HIS := Lib.hid (look_seen (s.alts.take k) i)
      repeat' (first|(with_reducible first|refine zA ?_|refine zB fun K hK=>?_|refine zC fun K2 hK2=>?_|refine zD ?_|refine zE ?_|refine zF ?_|refine zG ?_|refine zH ?_|refine zI ?_|refine zM ?_|refine zN ?_|refine zO ?_|refine zP ?_|refine zQ ?_|refine zR ?_)|((with_reducible refine zU (hK _ _ ?_));clear hK K)|((with_reducible refine zV ?_ ?_ fun K1 K3 d hdst h1 h3=>?_);rfl;exact yB rfl;cases hdst;go_simp)|((with_reducible refine zW fun K1 K3 h1 h3=>?_);go_simp)|((first|refine h1 ?_|refine h3 ?_);clear h1 h3 K1 K3)|((first|refine zX (fun hb=>h1 ?_) (fun hb=>h3 ?_)|refine zX (fun hb=>h3 ?_) (fun hb=>h1 ?_))<;>(clear h1 h3 K1 K3;(try have hb2:=yC hb);(try have hb2:=yD hb);(try have hb2:=yE hb);(try have hb2:=yF hb);(try have hb2:=yG hb)))|(refine fun (K2:_→AHeap→Prop) hK2=>?_)|((with_reducible refine zY ?_ ?_);decide)|((with_reducible first|refine zZ ?_ (fun K hK=>?_)|refine yA ?_ (fun K hK=>?_));(focus go_simp;done);go_simp;refine hK _ _ ?_;clear hK K)|(go_simp;(try go_bits);(try first | ((with_reducible show CallS _ _ _ _ _ _);refine CallS.mono (right_s (a := ⟨i, kd, dy, fr, to, wd⟩) hwl) ?_; rintro _ _ ⟨rfl, rfl⟩) | ((refine look_k ma136 un3 ze58 (HM.out.ext hn ((Ext.refl _).push' _)) ?_); go_simp) | ((refine update_k ma136 un3 (HM.out.ext hn (((Ext.refl _).push' _).push' _)) fun H2 hn2 hm2 hg2 => ?_); (have hq2 : cellAt H2 H'.n 2 = some (.int .i64 dy) := (cellAt_get (hg2 _ (by omega))).trans (by go_simp)); go_simp));refine hK2 _ _ ?_;clear hK2 K2))
      · refine ⟨?_, HX.out.push' _⟩
        have hr : Alt.right ⟨i, kd, dy, fr, to, wd⟩ s.words.length = false := by simpa using hb
        rw [← HG.out, HD.out]; simp [errGo, hr]
      · refine ⟨?_, HX.out.push' _⟩
        have hr : dy < day := by simpa using hb
        rw [← HG.out, HD.out]; simp [errGo, hr]
      · refine ⟨?_, (HX.out.push' _).push' _⟩
        have hr : Alt.right ⟨i, kd, dy, fr, to, wd⟩ s.words.length = true := by simpa using ‹(!Alt.right ⟨i, kd, dy, fr, to, wd⟩ s.words.length) = false›
        have hi : i ∈ (s.alts.take k).map (·.id) := by rw [HIS.out] at hb; simpa using hb
        have hdy : ¬ dy < day := by simpa using ‹decide (dy < day) = false›
        rw [← HG.out, HD.out, errGo, if_neg (by simp [hr, hdy]), if_pos hi]
      · have hr : Alt.right ⟨i, kd, dy, fr, to, wd⟩ s.words.length = true := by simpa using ‹(!Alt.right ⟨i, kd, dy, fr, to, wd⟩ s.words.length) = false›
        have hi : i ∉ (s.alts.take k).map (·.id) := by rw [HIS.out] at hb; simpa using hb
        have hdy : ¬ dy < day := by simpa using ‹decide (dy < day) = false›
        have hnew : lookL (seenL (s.alts.take k)) i = none := by
          have hq := HIS.out
          rw [decide_eq_false hi] at hq
          cases hl : lookL (seenL (s.alts.take k)) i with
          | none => rfl
          | some y => rw [hl] at hq; cases hq
        refine Post.round_normal ⟨s.alts.length - (k + 1), by omega, k + 1, dy, by omega, rfl, (by first|go_simp<;>go_num|assumption), (by first|go_simp<;>go_num|assumption), (by first|go_simp<;>go_num|assumption), (by first|go_simp<;>go_num|assumption), (by first|go_simp<;>go_num|assumption), (by first|go_simp<;>go_num|assumption), (by first|go_simp<;>go_num|assumption), Lib.hid ?_, ?_, ?_, ?_, ?_⟩
        · rw [← HG.out, HD.out, HT.out, errGo, if_neg (by simp [hr, hdy]), if_neg hi]; simp
        · rw [hn2, AHeap.n_push, AHeap.n_push]; omega
        · have hle := HX.out.n
          refine ⟨by rw [hn2, AHeap.n_push, AHeap.n_push]; omega, fun j hj => ?_⟩
          rw [hg2 _ (by omega), AHeap.get_push_old (by rw [AHeap.n_push]; omega), AHeap.get_push_old (by omega), HX.out.get j hj]
        · rw [hg2 _ (by omega), AHeap.get_push_old (by rw [AHeap.n_push]; omega), AHeap.get_push_old (by omega)]; exact HGT.out
        · rw [putL_none _ _ _ hnew] at hm2
          rw [HT.out]; simpa [seenL, Alt.val] using hm2
    · repeat' (first|(with_reducible first|refine zA ?_|refine zB fun K hK=>?_|refine zC fun K2 hK2=>?_|refine zD ?_|refine zE ?_|refine zF ?_|refine zG ?_|refine zH ?_|refine zI ?_|refine zM ?_|refine zN ?_|refine zO ?_|refine zP ?_|refine zQ ?_|refine zR ?_)|((with_reducible refine zU (hK _ _ ?_));clear hK K)|((with_reducible refine zV ?_ ?_ fun K1 K3 d hdst h1 h3=>?_);rfl;exact yB rfl;cases hdst;go_simp)|((with_reducible refine zW fun K1 K3 h1 h3=>?_);go_simp)|((first|refine h1 ?_|refine h3 ?_);clear h1 h3 K1 K3)|((first|refine zX (fun hb=>h1 ?_) (fun hb=>h3 ?_)|refine zX (fun hb=>h3 ?_) (fun hb=>h1 ?_))<;>(clear h1 h3 K1 K3;(try have hb2:=yC hb);(try have hb2:=yD hb);(try have hb2:=yE hb);(try have hb2:=yF hb);(try have hb2:=yG hb)))|(refine fun (K2:_→AHeap→Prop) hK2=>?_)|((with_reducible refine zY ?_ ?_);decide)|((with_reducible first|refine zZ ?_ (fun K hK=>?_)|refine yA ?_ (fun K hK=>?_));(focus go_simp;done);go_simp;refine hK _ _ ?_;clear hK K)|(go_simp;(try go_bits);refine hK2 _ _ ?_;clear hK2 K2))
      refine ⟨?_, HX.out⟩
      rw [← HG.out, List.drop_eq_nil_of_le (by omega)]; rfl

theorem check_s {loops : List (Nat × LInfo)} {H : AHeap} {v : Value} {s : Sheet} (hv : SheetV H v s) : CallS Tryz.prog loops 75 [v] H fun r H' => r = .int .i64 (err s) ∧ H' = H :=
  (check_e hv).forget (R := fun v => v = .int .i64 (err s)) (by rintro v rfl; rfl)


end Go.Proofs.Tryz
namespace Go.Proofs.Tryz
open Go Go.Am Go.RowKit


structure Has where
  text : Int
  margin : Int
  lost : Bool
  deriving DecidableEq

def Has.cells (c : Has) : List Value := [.int .i64 c.text, .int .i64 c.margin, .bool c.lost]
def Has.val (c : Has) : Value := .agg #[.int .i64 c.text, .int .i64 c.margin, .bool c.lost]
def Has.after (c : Has) (a : Alt) : Has := if c.lost then c else if a.kind = 1 then ⟨0, c.margin, c.lost⟩ else if a.kind = 2 then ⟨0, 0, true⟩ else if a.kind = 3 then ⟨c.text, a.word, c.lost⟩ else if a.kind = 4 then ⟨a.word, 0, false⟩ else c
def Has.reads (c : Has) : List Int := (if c.text = 0 then [] else [c.text]) ++ (if c.margin = 0 ∨ c.margin = c.text then [] else [c.margin])
def Has.offers (c : Has) (w : Int) : Bool := if w = 0 then (c.text == 0 && c.margin == 0) else (c.text == w || c.margin == w)

structure Str where
  lo : Int
  hi : Int
  has : Has
  deriving DecidableEq
def Str.cells (x : Str) : List Value := [.int .i64 x.lo, .int .i64 x.hi, .int .i64 x.has.text, .int .i64 x.has.margin, .bool x.has.lost]
def Str.val (x : Str) : Value := .agg #[.int .i64 x.lo, .int .i64 x.hi, .int .i64 x.has.text, .int .i64 x.has.margin, .bool x.has.lost]

def go (line : Int) : Int → Has → List Alt → List Str
  | b, c, [] => [⟨b, 730, c⟩]
  | b, c, a :: t => if win a.frm a.to line = false then go line b c t else if c.after a = c then go line b c t else if b < a.day then ⟨b, a.day - 1, c⟩ :: go line a.day (c.after a) t else go line a.day (c.after a) t
def atDay (line d : Int) : Has → List Alt → Has
  | c, [] => c
  | c, a :: t => if win a.frm a.to line = true ∧ a.day ≤ d then atDay line d (c.after a) t else atDay line d c t

def sorted : Int → List Alt → Prop
  | _, [] => True
  | b, a :: t => b ≤ a.day ∧ a.day ≤ 730 ∧ sorted a.day t
theorem sorted_mono : ∀ (l : List Alt) {b b' : Int}, b ≤ b' → sorted b' l → sorted b l
  | [], _, _, _, _ => trivial
  | _ :: _, _, _, h, hs => ⟨Int.le_trans h hs.1, hs.2⟩

theorem atDay_below (line d : Int) (c : Has) : ∀ (l : List Alt) (b : Int), sorted b l → d < b → atDay line d c l = c
  | [], _, _, _ => rfl
  | a :: t, b, h, hd => by
    have h1 := h.1
    rw [atDay, if_neg (by omega)]
    exact atDay_below line d c t b (sorted_mono t h1 h.2.2) hd

def Str.covers (x : Str) (d : Int) : Bool := win x.lo x.hi d
theorem go_lo (line : Int) : ∀ (l : List Alt) (b : Int) (c : Has), sorted b l → b ≤ 730 → ∀ x, x ∈ go line b c l → b ≤ x.lo ∧ x.lo ≤ x.hi
  | [], b, c, _, h, x, hx => by
    simp only [go, List.mem_singleton] at hx
    subst hx; exact ⟨Int.le_refl _, h⟩
  | a :: t, b, c, hs, h, x, hx => by
    obtain ⟨s1, s2, s3⟩ := hs
    have hsb : sorted b t := sorted_mono t s1 s3
    rw [go] at hx
    split at hx
    · exact go_lo line t b c hsb h x hx
    · split at hx
      · exact go_lo line t b c hsb h x hx
      · split at hx
        · rcases List.mem_cons.1 hx with rfl | hx
          · exact ⟨Int.le_refl _, by simp; omega⟩
          · have := go_lo line t a.day (c.after a) s3 s2 x hx
            exact ⟨by omega, this.2⟩
        · have := go_lo line t a.day (c.after a) s3 s2 x hx
          exact ⟨by omega, this.2⟩

theorem any_below (line d w : Int) (l : List Alt) (b : Int) (c : Has) (hs : sorted b l) (hb : b ≤ 730) (hd : d < b) : (go line b c l).any (fun x => x.has.offers w && x.covers d) = false := by
  rw [List.any_eq_false]
  intro x hx
  have := go_lo line l b c hs hb x hx
  simp only [Bool.and_eq_true, not_and]
  intro _
  simp only [Str.covers, win_iff]
  omega

theorem go_any (line d w : Int) : ∀ (l : List Alt) (b : Int) (c : Has), sorted b l → b ≤ d → d ≤ 730 → (go line b c l).any (fun x => x.has.offers w && x.covers d) = (atDay line d c l).offers w
  | [], b, c, _, h1, h2 => by simp [go, atDay, Str.covers, win, h1, h2]
  | a :: t, b, c, hs, h1, h2 => by
    obtain ⟨s1, s2, s3⟩ := hs
    have hsb : sorted b t := sorted_mono t s1 s3
    rw [go]
    by_cases hw : win a.frm a.to line = false
    · rw [if_pos hw, atDay, if_neg (by simp [hw])]
      exact go_any line d w t b c hsb h1 h2
    · rw [if_neg hw]
      have hw' : win a.frm a.to line = true := by simpa using hw
      by_cases hc : c.after a = c
      · rw [if_pos hc]
        have : atDay line d c (a :: t) = atDay line d c t := by
          rw [atDay]
          split
          · rw [hc]
          · rfl
        rw [this]
        exact go_any line d w t b c hsb h1 h2
      · rw [if_neg hc]
        by_cases hd : a.day ≤ d
        · have hat : atDay line d c (a :: t) = atDay line d (c.after a) t := by rw [atDay, if_pos ⟨hw', hd⟩]
          rw [hat, ← go_any line d w t a.day (c.after a) s3 hd h2]
          by_cases hb : b < a.day
          · rw [if_pos hb]
            have : Str.covers ⟨b, a.day - 1, c⟩ d = false := by simp [Str.covers, win]; omega
            simp [this]
          · rw [if_neg hb]
        · have hb : b < a.day := by omega
          have hat : atDay line d c (a :: t) = c := by rw [atDay, if_neg (fun h => hd h.2), atDay_below line d c t a.day s3 (by omega)]
          rw [if_pos hb, hat, List.any_cons, any_below line d w t a.day _ s3 s2 (by omega)]
          have : Str.covers ⟨b, a.day - 1, c⟩ d = true := by simp [Str.covers, win]; omega
          simp [this]


def joinS (acc : List (Int × Int)) (x : Int × Int) : List (Int × Int) := match acc.getLast? with
  | some y => if y.2 + 1 = x.1 then acc.dropLast ++ [(y.1, x.2)] else acc ++ [x]
  | none => acc ++ [x]
def joinL (l : List (Int × Int)) : List (Int × Int) := l.foldl joinS []
def insideL (l : List (Int × Int)) (d : Int) : Bool := l.any fun x => win x.1 x.2 d

theorem joinS_ok (acc : List (Int × Int)) (x : Int × Int) (d : Int) (ha : ∀ y, y ∈ acc → y.1 ≤ y.2) (hx : x.1 ≤ x.2) : (∀ y, y ∈ joinS acc x → y.1 ≤ y.2) ∧ insideL (joinS acc x) d = (insideL acc d || win x.1 x.2 d) := by
  have hplain : (∀ y, y ∈ acc ++ [x] → y.1 ≤ y.2) ∧ insideL (acc ++ [x]) d = (insideL acc d || win x.1 x.2 d) := by
    refine ⟨fun y hy => ?_, by simp [insideL]⟩
    rcases List.mem_append.1 hy with h | h
    · exact ha y h
    · rw [List.mem_singleton.1 h]; exact hx
  unfold joinS
  cases hl : acc.getLast? with
  | none => exact hplain
  | some y =>
    simp only
    split
    · rename_i he
      have hacc : acc = acc.dropLast ++ [y] := by
        have hne : acc ≠ [] := by rintro rfl; simp at hl
        have h2 : acc.getLast hne = y := by
          rw [List.getLast?_eq_some_getLast hne] at hl; exact Option.some.inj hl
        rw [← h2]; exact (List.dropLast_concat_getLast hne).symm
      have hy : y.1 ≤ y.2 := ha y (by rw [hacc]; simp)
      refine ⟨fun z hz => ?_, ?_⟩
      · rcases List.mem_append.1 hz with h | h
        · exact ha z ((List.dropLast_subset acc) h)
        · rw [List.mem_singleton.1 h]; simp only; omega
      · conv => rhs; rw [hacc]
        simp only [insideL, List.any_append, List.any_cons, List.any_nil, Bool.or_false]
        have : win y.1 x.2 d = (win y.1 y.2 d || win x.1 x.2 d) := by
          rw [Bool.eq_iff_iff]; simp only [Bool.or_eq_true, win_iff]; omega
        rw [this, Bool.or_assoc]
    · exact hplain

theorem joinL_ok (d : Int) : ∀ (l acc : List (Int × Int)), (∀ y, y ∈ acc → y.1 ≤ y.2) → (∀ y, y ∈ l → y.1 ≤ y.2) → insideL (l.foldl joinS acc) d = (insideL acc d || insideL l d)
  | [], acc, _, _ => by simp [insideL]
  | x :: l, acc, ha, hl => by
    obtain ⟨h1, h2⟩ := joinS_ok acc x d ha (hl x (List.mem_cons_self ..))
    rw [List.foldl_cons, joinL_ok d l _ h1 (fun y hy => hl y (List.mem_cons_of_mem _ hy)), h2]
    simp [insideL, Bool.or_assoc]


theorem errGo_sorted (n : Int) : ∀ (l : List Alt) (day : Int) (seen : List Int), errGo n day seen l = 0 → sorted day l
  | [], _, _, _ => trivial
  | a :: t, day, seen, h => by
    rw [errGo] at h
    split at h
    · cases h
    · split at h
      · cases h
      · rename_i h1 h2
        have hr : a.right n = true := by
          cases hx : a.right n with
          | true => rfl
          | false => exact absurd (.inl hx) h1
        have hd : day ≤ a.day := by
          rcases Int.lt_or_le a.day day with hx | hx
          · exact absurd (.inr hx) h1
          · exact hx
        simp only [Alt.right, Bool.and_eq_true, win_iff] at hr
        exact ⟨hd, hr.2.1.2, errGo_sorted n t a.day _ h⟩
theorem err_ok {s : Sheet} (h : err s = 0) : sorted 0 s.alts ∧ win 1 40 s.words.length = true ∧ wordsOk 1 s.words = true ∧ s.alts.length ≤ 40 := by
  unfold err at h
  split at h
  · cases h
  · split at h
    · cases h
    · rename_i h1 h2
      have h3 := errGo_sorted _ _ _ _ h
      refine ⟨h3, ?_, ?_, by omega⟩
      · cases hx : win 1 40 (s.words.length : Int) with
        | true => rfl
        | false => exact absurd (.inl hx) h1
      · cases hx : wordsOk 1 s.words with
        | true => rfl
        | false => exact absurd (.inr hx) h1
end Go.Proofs.Tryz
namespace Go.Proofs.Tryz
open Go Go.Am Go.RowKit
set_option maxRecDepth 100000


theorem pureOf_pure {α : Type} (x : α) : pureOf Tryz.prog (pure x : Sem α) = some x := rfl
theorem pEq3 (d : Nat) (a b : Int) : pureOf Tryz.prog (Op.equalIn (d + 1) 3 (.int .i64 a) (.int .i64 b)) = some (a == b) := by kernel_rfl
theorem pEq4 (d : Nat) (a b : Bool) : pureOf Tryz.prog (Op.equalIn (d + 1) 4 (.bool a) (.bool b)) = some (a == b) := by kernel_rfl
theorem part3_0 (a b : Value) : pureOf Tryz.prog (part 3 #[a, b] 0) = some a := by kernel_rfl
theorem part3_1 (a b : Value) : pureOf Tryz.prog (part 3 #[a, b] 1) = some b := by kernel_rfl
theorem part147_0 (a b c : Value) : pureOf Tryz.prog (part 143 #[a, b, c] 0) = some (.agg #[a, b]) := by kernel_rfl
theorem part147_1 (a b c : Value) : pureOf Tryz.prog (part 4 #[a, b, c] 2) = some c := by kernel_rfl
theorem pEq143 (d : Nat) (a b a' b' : Int) : pureOf Tryz.prog (Op.equalIn (d + 2) 143 (.agg #[.int .i64 a, .int .i64 b]) (.agg #[.int .i64 a', .int .i64 b'])) = some (a == a' && b == b') := by
  rw [Op.equalIn]
  rw [pureOf_bind, show pureOf Tryz.prog (underlying 143) = some (.array 2 3) by kernel_rfl]
  dsimp only [Option.bind]
  rw [pureOf_bind, show pureOf Tryz.prog (sizeOf 3) = some 1 by kernel_rfl]
  dsimp only [Option.bind]
  simp only [Std.Legacy.Range.forIn_eq_forIn_range', Std.Legacy.Range.size, List.range'_succ, List.range'_zero, List.forIn_cons, List.forIn_nil]
  simp only [pureOf_bind, Nat.zero_mul, Nat.zero_add, Nat.one_mul, part3_0, pEq3, Option.bind_some]
  cases (a == a')
  · rfl
  · simp only [Bool.not_true, Bool.false_eq_true, if_false, pureOf_pure, Option.bind_some, pureOf_bind, part3_1, pEq3]
    cases (b == b') <;> rfl

theorem un145 : ∃ f0 f1 : Field, pureOf Tryz.prog (underlying 145) = some (.struct #[f0, f1]) ∧ (f0.name != "_") = true ∧ (f1.name != "_") = true ∧ f0.type = 143 ∧ f1.type = 4 ∧ f0.offset = 0 ∧ f1.offset = 2 :=
  ⟨(fieldOf Tryz.prog 145 0).getD default, (fieldOf Tryz.prog 145 1).getD default, by kernel_rfl, by kernel_rfl, by kernel_rfl, by kernel_rfl, by kernel_rfl, by kernel_rfl, by kernel_rfl⟩
theorem pEq145 (d : Nat) (a b a' b' : Int) (l l' : Bool) : pureOf Tryz.prog (Op.equalIn (d + 3) 145 (.agg #[.int .i64 a, .int .i64 b, .bool l]) (.agg #[.int .i64 a', .int .i64 b', .bool l'])) = some (a == a' && b == b' && l == l') := by
  obtain ⟨f0, f1, hfs, h1, h2, h3, h4, h5, h6⟩ := un145
  rw [Op.equalIn]
  rw [pureOf_bind, hfs]
  dsimp only [Option.bind]
  rw [pureOf_bind, show pureOf Tryz.prog program = some Tryz.prog from rfl]
  dsimp only [Option.bind]
  rw [show Tryz.prog.stoodInHeld 145 = false by kernel_rfl, if_neg (by simp)]
  simp only [List.forIn_toArray, List.forIn_cons, List.forIn_nil]
  rw [if_pos (bne_iff_ne.1 h1)]
  simp only [if_pos (bne_iff_ne.1 h2), h3, h4, h5, h6, pureOf_bind, part147_0, pEq143, Option.bind_some]
  cases (a == a' && b == b')
  · rfl
  · simp only [Bool.not_true, Bool.false_eq_true, if_false, pureOf_pure, Option.bind_some, pureOf_bind, part147_1, pEq4]
    cases (l == l') <;> rfl

theorem eqF147 (x y : Operand) (c d : Has) : pureOf Tryz.prog (do eqGuard .eql 145 x y c.val d.val; binOp .eql 145 c.val d.val) = some (.bool (decide (c = d))) := by
  obtain ⟨a, b, l⟩ := c
  obtain ⟨a', b', l'⟩ := d
  rw [pureOf_bind, show pureOf Tryz.prog (eqGuard .eql 145 x y (Has.val ⟨a, b, l⟩) (Has.val ⟨a', b', l'⟩)) = some () by kernel_rfl]
  dsimp only [Option.bind]
  rw [show binOp .eql 145 (Has.val ⟨a, b, l⟩) (Has.val ⟨a', b', l'⟩) = (do pure (.bool (← Op.equal 145 (Has.val ⟨a, b, l⟩) (Has.val ⟨a', b', l'⟩)))) from rfl]
  rw [pureOf_bind, show Op.equal 145 (Has.val ⟨a, b, l⟩) (Has.val ⟨a', b', l'⟩) = Op.equalIn (9997 + 3) 145 (Has.val ⟨a, b, l⟩) (Has.val ⟨a', b', l'⟩) from rfl, Has.val, Has.val, pEq145]
  simp only [Option.bind_some, pureOf_pure, Option.some.injEq, Value.bool.injEq, Has.mk.injEq]
  rw [Bool.eq_iff_iff]
  simp [and_assoc]
theorem eqF145 (x y : Operand) (a b a' b' : Int) : pureOf Tryz.prog (do eqGuard .eql 143 x y (.agg #[.int .i64 a, .int .i64 b]) (.agg #[.int .i64 a', .int .i64 b']); binOp .eql 143 (.agg #[.int .i64 a, .int .i64 b]) (.agg #[.int .i64 a', .int .i64 b'])) = some (.bool (a == a' && b == b')) := by
  rw [pureOf_bind, show pureOf Tryz.prog (eqGuard .eql 143 x y (.agg #[.int .i64 a, .int .i64 b]) (.agg #[.int .i64 a', .int .i64 b'])) = some () by kernel_rfl]
  dsimp only [Option.bind]
  rw [show binOp .eql 143 (.agg #[.int .i64 a, .int .i64 b]) (.agg #[.int .i64 a', .int .i64 b']) = (do pure (.bool (← Op.equal 143 (.agg #[.int .i64 a, .int .i64 b]) (.agg #[.int .i64 a', .int .i64 b'])))) from rfl]
  rw [pureOf_bind, show Op.equal 143 (.agg #[.int .i64 a, .int .i64 b]) (.agg #[.int .i64 a', .int .i64 b']) = Op.equalIn (9998 + 2) 143 (.agg #[.int .i64 a, .int .i64 b]) (.agg #[.int .i64 a', .int .i64 b']) from rfl, pEq143]
  rfl

section
variable {H : AHeap} {kp : Value → AHeap → Option Prop} {ev : Operand → Value} {dst : Option Tmp} {ty t' : TypeId} {src : String} {af : Array Edge} {g : Option (Nat × Bool)} {x y : Operand} {β : Type} {kk : K β} {other : Unit → Option β}
theorem eq147_k {c d : Has} (hx : ev x = c.val) (hy : ev y = d.val) (h : Holds (kp (.bool (decide (c = d))) H)) : Holds (aPlain Tryz.prog ⟨dst, .binOp .eql 145 x y t', ty, src, af, g⟩ ev H kp) := by
  have hr : pureOf Tryz.prog (execOp ev ⟨dst, .binOp .eql 145 x y t', ty, src, af, g⟩) = some (.value (.bool (decide (c = d)))) := by
    have h0 : execOp ev ⟨dst, .binOp .eql 145 x y t', ty, src, af, g⟩ = (do pure (.value (← (do eqGuard .eql 145 x y (ev x) (ev y); binOp .eql 145 (ev x) (ev y))))) := rfl
    rw [h0, hx, hy, pureOf_bind, eqF147]; rfl
  rw [plain_of rfl, hr]
  have ho : (Op.binOp .eql 145 x y t').operands.toList.all (fun x => plainV 6 (ev x)) = true := by
    show (#[x, y].toList.all fun x => plainV 6 (ev x)) = _
    simp [hx, hy]; exact ⟨rfl, rfl⟩
  rw [if_pos ho]; exact h
theorem eq145_k {a b a' b' : Int} (hx : ev x = .agg #[.int .i64 a, .int .i64 b]) (hy : ev y = .agg #[.int .i64 a', .int .i64 b']) (h : Holds (kp (.bool (a == a' && b == b')) H)) : Holds (aPlain Tryz.prog ⟨dst, .binOp .eql 143 x y t', ty, src, af, g⟩ ev H kp) := by
  have hr : pureOf Tryz.prog (execOp ev ⟨dst, .binOp .eql 143 x y t', ty, src, af, g⟩) = some (.value (.bool (a == a' && b == b'))) := by
    have h0 : execOp ev ⟨dst, .binOp .eql 143 x y t', ty, src, af, g⟩ = (do pure (.value (← (do eqGuard .eql 143 x y (ev x) (ev y); binOp .eql 143 (ev x) (ev y))))) := rfl
    rw [h0, hx, hy, pureOf_bind, eqF145]; rfl
  rw [plain_of rfl, hr]
  have ho : (Op.binOp .eql 143 x y t').operands.toList.all (fun x => plainV 6 (ev x)) = true := by
    show (#[x, y].toList.all fun x => plainV 6 (ev x)) = _
    simp [hx, hy]; exact ⟨rfl, rfl⟩
  rw [if_pos ho]; exact h

@[go_sem] theorem aBin_boolN {t : TypeId} {a b : Bool} : aBin Tryz.prog .neq t (.bool a) (.bool b) H kk other = other () := by
  have h : nilEq Tryz.prog t (.bool a) (.bool b) = none := by
    unfold nilEq
    split <;> simp_all
  simp only [aBin, aEq, h]
@[go_sem] theorem aBin_agg {t : TypeId} {a b : Array Value} : aBin Tryz.prog .eql t (.agg a) (.agg b) H kk other = other () := by
  have h : nilEq Tryz.prog t (.agg a) (.agg b) = none := by
    unfold nilEq
    split <;> simp_all
  simp only [aBin, aEq, h]

theorem st145 : structOk Tryz.prog 145 = true := by kernel_rfl
theorem st147 : structOk Tryz.prog 147 = true := by kernel_rfl
theorem st68 : structOk Tryz.prog 68 = true := by kernel_rfl
@[go_sem] theorem bu145 {parts : List (Nat × Value)} : aBuild Tryz.prog 145 parts H kk = match fillB Tryz.prog 145 [.int .i64 0, .int .i64 0, .bool false] parts with
    | some l => if l.all oneV = true then kk (.agg l.toArray) H else none
    | none => none := aBuild_struct st145 ze145
@[go_sem] theorem bu147 {parts : List (Nat × Value)} : aBuild Tryz.prog 147 parts H kk = match fillB Tryz.prog 147 [.int .i64 0, .int .i64 0, .int .i64 0, .int .i64 0, .bool false] parts with
    | some l => if l.all oneV = true then kk (.agg l.toArray) H else none
    | none => none := aBuild_struct st147 ze147
@[go_sem] theorem bu68 {parts : List (Nat × Value)} : aBuild Tryz.prog 68 parts H kk = match fillB Tryz.prog 68 [.int .i64 0, .int .i64 0] parts with
    | some l => if l.all oneV = true then kk (.agg l.toArray) H else none
    | none => none := aBuild_struct st68 ze68
@[go_sem] theorem bu143 {parts : List (Nat × Value)} : aBuild Tryz.prog 143 parts H kk = match partsCells Tryz.prog 1 [.int .i64 0, .int .i64 0] parts with
    | some l => if l.all oneV = true then kk (.agg l.toArray) H else none
    | none => none := aBuild_array ar143 sz3 ze143
end
end Go.Proofs.Tryz
namespace Go.Proofs.Tryz
open Go Go.Am Go.RowKit
set_option maxRecDepth 100000


theorem after_e {loops : List (Nat × LInfo)} {H : AHeap} {c : Has} {a : Alt} : CallS Tryz.prog loops 129 [c.val, a.val] H fun v H' => v = (c.after a).val ∧ Ext H H' := by
  obtain ⟨ct, cm, cl⟩ := c
  obtain ⟨i, kd, dy, fr, to, wd⟩ := a
  refine CallS.enter' Tryz.func129 rfl Tryz.ntmps129 (by simp) fun f hd hf => ?_
  have f0 := hf 0
  have f1 := hf 1
  simp [Alt.val, Has.val] at f0 f1
  clear hf
  repeat' (first|(with_reducible first|refine zA ?_|refine zB fun K hK=>?_|refine zC fun K2 hK2=>?_|refine zD ?_|refine zE ?_|refine zF ?_|refine zG ?_|refine zH ?_|refine zI ?_|refine zM ?_|refine zN ?_|refine zO ?_|refine zP ?_|refine zQ ?_|refine zR ?_)|((with_reducible refine zU (hK _ _ ?_));clear hK K)|((with_reducible refine zV ?_ ?_ fun K1 K3 d hdst h1 h3=>?_);rfl;exact yB rfl;cases hdst;go_simp)|((with_reducible refine zW fun K1 K3 h1 h3=>?_);go_simp)|((first|refine h1 ?_|refine h3 ?_);clear h1 h3 K1 K3)|((first|refine zX (fun hb=>h1 ?_) (fun hb=>h3 ?_)|refine zX (fun hb=>h3 ?_) (fun hb=>h1 ?_))<;>(clear h1 h3 K1 K3;(try have hb2:=yC hb);(try have hb2:=yD hb);(try have hb2:=yE hb);(try have hb2:=yF hb);(try have hb2:=yG hb)))|(refine fun (K2:_→AHeap→Prop) hK2=>?_)|((with_reducible refine zY ?_ ?_);decide)|((with_reducible first|refine zZ ?_ (fun K hK=>?_)|refine yA ?_ (fun K hK=>?_));(focus go_simp;done);go_simp;refine hK _ _ ?_;clear hK K)|(go_simp;(try go_bits);refine hK2 _ _ ?_;clear hK2 K2))
  all_goals (refine ⟨?_, (((Ext.refl _).push' _).push' _).push' _⟩; simp_all [Has.after, Has.val])
theorem after_s {loops : List (Nat × LInfo)} {H : AHeap} {c : Has} {a : Alt} : CallS Tryz.prog loops 129 [c.val, a.val] H fun v H' => v = (c.after a).val ∧ H' = H :=
  after_e.forget (R := fun v => v = (c.after a).val) (by rintro v rfl; rfl)

def ixGo (w : Int) : Int → List Int → Int
  | _, [] => -1
  | k, x :: t => if w = x then k else ixGo w (k + 1) t
theorem ixGo_mem (w : Int) : ∀ (l : List Int) (k : Int), 0 ≤ k → decide (0 ≤ ixGo w k l) = decide (w ∈ l)
  | [], _, _ => by simp [ixGo]
  | x :: t, k, hk => by
    rw [ixGo]
    by_cases h : w = x
    · simp [h, hk]
    · rw [if_neg h, ixGo_mem w t (k + 1) (by omega)]; simp [h]

theorem index_s {loops : List (Nat × LInfo)} {H : AHeap} {v : Value} {xs : List Int} {w : Int} (hv : Ints H v xs) : CallS Tryz.prog loops 146 [v, .int .i64 w] H fun r H' => r = .int .i64 (ixGo w 0 xs) ∧ H' = H := by
  obtain ⟨hlen, a, c, rfl⟩ := hv.slice
  have HV := Lib.hid hv
  clear hv
  generalize he : ixGo w 0 xs = er
  have HE := Lib.hid he
  clear he
  refine CallS.enter' Tryz.func146 rfl Tryz.ntmps146 (by simp) fun f hd hf => ?_
  have f0 := hf 0
  have f1 := hf 1
  simp at f0 f1
  clear hf
  repeat' (first|(with_reducible first|refine zA ?_|refine zB fun K hK=>?_|refine zC fun K2 hK2=>?_|refine zD ?_|refine zE ?_|refine zF ?_|refine zG ?_|refine zH ?_|refine zI ?_|refine zM ?_|refine zN ?_|refine zO ?_|refine zP ?_|refine zQ ?_|refine zR ?_)|((with_reducible refine zU (hK _ _ ?_));clear hK K)|((with_reducible refine zV ?_ ?_ fun K1 K3 d hdst h1 h3=>?_);rfl;exact yB rfl;cases hdst;go_simp)|((with_reducible refine zW fun K1 K3 h1 h3=>?_);go_simp)|((first|refine h1 ?_|refine h3 ?_);clear h1 h3 K1 K3)|((first|refine zX (fun hb=>h1 ?_) (fun hb=>h3 ?_)|refine zX (fun hb=>h3 ?_) (fun hb=>h1 ?_))<;>(clear h1 h3 K1 K3;(try have hb2:=yC hb);(try have hb2:=yD hb);(try have hb2:=yE hb);(try have hb2:=yF hb);(try have hb2:=yG hb)))|(refine fun (K2:_→AHeap→Prop) hK2=>?_)|((with_reducible refine zY ?_ ?_);decide)|((with_reducible first|refine zZ ?_ (fun K hK=>?_)|refine yA ?_ (fun K hK=>?_));(focus go_simp;done);go_simp;refine hK _ _ ?_;clear hK K)|(go_simp;(try go_bits);refine hK2 _ _ ?_;clear hK2 K2))
  refine CodeS.loop (fun m f H' => ∃ k : Nat, k ≤ xs.length ∧ m = xs.length - k ∧ f.tmp 8 = .int .i64 k ∧ f.tmp 0 = .slice a xs.length c ∧ f.tmp 7 = .int .i64 xs.length ∧ f.tmp 1 = .int .i64 w ∧ f.defers = [] ∧ Hid (ixGo w k (xs.drop k) = er) ∧ H' = H) xs.length ?_ ?_
  · exact ⟨0, by simp, by simp, by go_simp, by go_simp, by go_simp, by go_simp, by go_simp, Lib.hid (by simpa using HE.out), rfl⟩
  clear f0 f1 hd f HE
  rintro m f H' ⟨k, hk, rfl, f8, f0, f7, f1, hd, HG, rfl⟩
  by_cases hlt : k < xs.length
  · obtain ⟨b, o, sp, rfl, hb, hx⟩ := HV.out.at_ hlt
    have HD := Lib.hid (List.drop_eq_getElem_cons hlt)
    generalize xs[k] = y at hx HD
    repeat' (first|(with_reducible first|refine zA ?_|refine zB fun K hK=>?_|refine zC fun K2 hK2=>?_|refine zD ?_|refine zE ?_|refine zF ?_|refine zG ?_|refine zH ?_|refine zI ?_|refine zM ?_|refine zN ?_|refine zO ?_|refine zP ?_|refine zQ ?_|refine zR ?_)|((with_reducible refine zU (hK _ _ ?_));clear hK K)|((with_reducible refine zV ?_ ?_ fun K1 K3 d hdst h1 h3=>?_);rfl;exact yB rfl;cases hdst;go_simp)|((with_reducible refine zW fun K1 K3 h1 h3=>?_);go_simp)|((first|refine h1 ?_|refine h3 ?_);clear h1 h3 K1 K3)|((first|refine zX (fun hb=>h1 ?_) (fun hb=>h3 ?_)|refine zX (fun hb=>h3 ?_) (fun hb=>h1 ?_))<;>(clear h1 h3 K1 K3;(try have hb2:=yC hb);(try have hb2:=yD hb);(try have hb2:=yE hb);(try have hb2:=yF hb);(try have hb2:=yG hb)))|(refine fun (K2:_→AHeap→Prop) hK2=>?_)|((with_reducible refine zY ?_ ?_);decide)|((with_reducible first|refine zZ ?_ (fun K hK=>?_)|refine yA ?_ (fun K hK=>?_));(focus go_simp;done);go_simp;refine hK _ _ ?_;clear hK K)|(go_simp;(try go_bits);refine hK2 _ _ ?_;clear hK2 K2))
    · refine ⟨?_, rfl⟩
      have hw : w = y := by simpa using hb
      rw [← HG.out, HD.out, ixGo, if_pos hw]
    · rename_i hq
      have hw : ¬ w = y := by simpa using hb
      refine Post.round_normal ⟨xs.length - (k + 1), by omega, k + 1, by omega, rfl, (by first|go_simp<;>go_num|assumption), (by first|go_simp<;>go_num|assumption), (by first|go_simp<;>go_num|assumption), (by first|go_simp<;>go_num|assumption), (by first|go_simp<;>go_num|assumption), Lib.hid ?_, rfl⟩
      rw [← HG.out, HD.out, ixGo, if_neg hw]; simp
  · repeat' (first|(with_reducible first|refine zA ?_|refine zB fun K hK=>?_|refine zC fun K2 hK2=>?_|refine zD ?_|refine zE ?_|refine zF ?_|refine zG ?_|refine zH ?_|refine zI ?_|refine zM ?_|refine zN ?_|refine zO ?_|refine zP ?_|refine zQ ?_|refine zR ?_)|((with_reducible refine zU (hK _ _ ?_));clear hK K)|((with_reducible refine zV ?_ ?_ fun K1 K3 d hdst h1 h3=>?_);rfl;exact yB rfl;cases hdst;go_simp)|((with_reducible refine zW fun K1 K3 h1 h3=>?_);go_simp)|((first|refine h1 ?_|refine h3 ?_);clear h1 h3 K1 K3)|((first|refine zX (fun hb=>h1 ?_) (fun hb=>h3 ?_)|refine zX (fun hb=>h3 ?_) (fun hb=>h1 ?_))<;>(clear h1 h3 K1 K3;(try have hb2:=yC hb);(try have hb2:=yD hb);(try have hb2:=yE hb);(try have hb2:=yF hb);(try have hb2:=yG hb)))|(refine fun (K2:_→AHeap→Prop) hK2=>?_)|((with_reducible refine zY ?_ ?_);decide)|((with_reducible first|refine zZ ?_ (fun K hK=>?_)|refine yA ?_ (fun K hK=>?_));(focus go_simp;done);go_simp;refine hK _ _ ?_;clear hK K)|(go_simp;(try go_bits);refine hK2 _ _ ?_;clear hK2 K2))
    refine ⟨?_, rfl⟩
    rw [← HG.out, List.drop_eq_nil_of_le (by omega)]; rfl
theorem contains_s {loops : List (Nat × LInfo)} {H : AHeap} {v : Value} {xs : List Int} {w : Int} (hv : Ints H v xs) : CallS Tryz.prog loops 130 [v, .int .i64 w] H fun r H' => r = .bool (decide (w ∈ xs)) ∧ H' = H := by
  obtain ⟨hlen, a, c, rfl⟩ := hv.slice
  have HV := Lib.hid hv
  clear hv
  rw [← ixGo_mem w xs 0 (by omega)]
  refine CallS.enter' Tryz.func130 rfl Tryz.ntmps130 (by simp) fun f hd hf => ?_
  have f0 := hf 0
  have f1 := hf 1
  simp at f0 f1
  clear hf
  repeat' (first|(with_reducible first|refine zA ?_|refine zB fun K hK=>?_|refine zC fun K2 hK2=>?_|refine zD ?_|refine zE ?_|refine zF ?_|refine zG ?_|refine zH ?_|refine zI ?_|refine zM ?_|refine zN ?_|refine zO ?_|refine zP ?_|refine zQ ?_|refine zR ?_)|((with_reducible refine zU (hK _ _ ?_));clear hK K)|((with_reducible refine zV ?_ ?_ fun K1 K3 d hdst h1 h3=>?_);rfl;exact yB rfl;cases hdst;go_simp)|((with_reducible refine zW fun K1 K3 h1 h3=>?_);go_simp)|((first|refine h1 ?_|refine h3 ?_);clear h1 h3 K1 K3)|((first|refine zX (fun hb=>h1 ?_) (fun hb=>h3 ?_)|refine zX (fun hb=>h3 ?_) (fun hb=>h1 ?_))<;>(clear h1 h3 K1 K3;(try have hb2:=yC hb);(try have hb2:=yD hb);(try have hb2:=yE hb);(try have hb2:=yF hb);(try have hb2:=yG hb)))|(refine fun (K2:_→AHeap→Prop) hK2=>?_)|((with_reducible refine zY ?_ ?_);decide)|((with_reducible first|refine zZ ?_ (fun K hK=>?_)|refine yA ?_ (fun K hK=>?_));(focus go_simp;done);go_simp;refine hK _ _ ?_;clear hK K)|(go_simp;(try go_bits);(try first | ((with_reducible show CallS _ _ _ _ _ _);refine CallS.mono (index_s HV.out) ?_; rintro _ _ ⟨rfl, rfl⟩));refine hK2 _ _ ?_;clear hK2 K2))
  all_goals (exact ⟨rfl, rfl⟩)

theorem ints_of_own {H : AHeap} {base : Nat} {v : Value} {l : List Int} (h : Own H base v 3 1 (l.map (Value.int .i64))) (hl : l.length ≤ 9223372036854775807) : Ints H v l := by
  rcases h with ⟨rfl, h2⟩ | ⟨b, n, rfl, h2, h3, h4, h5, h6⟩
  · have : l = [] := by simpa using h2
    subst this
    exact ⟨rfl, by simp, none, 0, rfl, by simp⟩
  · have hn : n = l.length := by simpa using h5.symm
    subst hn
    refine ⟨by simp, hl, _, _, rfl, fun _ => ⟨b, 0, none, rfl, h3, fun j u hu => ?_⟩⟩
    simp only [cellAt, h4, Nat.zero_add]; exact hu

theorem Has.wordsIn {H : AHeap} {ct cm : Int} {cl : Bool} {e : TypeId} : Ints (H.push (.row [.int .i64 ct, .int .i64 cm, .bool cl] e)) (.slice (some ⟨H.n, 0, some 0⟩) 2 2) [ct, cm] :=
  ⟨rfl, by simp, _, _, rfl, fun _ => ⟨H.n, 0, some 0, rfl, by rw [AHeap.n_push]; omega, fun j u hu => by
    rw [Nat.zero_add, cellAt_new]
    match j, hu with
    | 0, hu => exact hu
    | 1, hu => exact hu
    | j + 2, hu => simp at hu⟩⟩

theorem offers_e {loops : List (Nat × LInfo)} {H : AHeap} {c : Has} {w : Int} : CallS Tryz.prog loops 114 [c.val, .int .i64 w] H fun v H' => v = .bool (c.offers w) ∧ Ext H H' := by
  obtain ⟨ct, cm, cl⟩ := c
  refine CallS.enter' Tryz.func114 rfl Tryz.ntmps114 (by simp) fun f hd hf => ?_
  have f0 := hf 0
  have f1 := hf 1
  simp [Has.val] at f0 f1
  clear hf
  repeat' (first|(with_reducible first|refine zA ?_|refine zB fun K hK=>?_|refine zC fun K2 hK2=>?_|refine zD ?_|refine zE ?_|refine zF ?_|refine zG ?_|refine zH ?_|refine zI ?_|refine zM ?_|refine zN ?_|refine zO ?_|refine zP ?_|refine zQ ?_|refine zR ?_)|((with_reducible refine zU (hK _ _ ?_));clear hK K)|((with_reducible refine zV ?_ ?_ fun K1 K3 d hdst h1 h3=>?_);rfl;exact yB rfl;cases hdst;go_simp)|((with_reducible refine zW fun K1 K3 h1 h3=>?_);go_simp)|((first|refine h1 ?_|refine h3 ?_);clear h1 h3 K1 K3)|((first|refine zX (fun hb=>h1 ?_) (fun hb=>h3 ?_)|refine zX (fun hb=>h3 ?_) (fun hb=>h1 ?_))<;>(clear h1 h3 K1 K3;(try have hb2:=yC hb);(try have hb2:=yD hb);(try have hb2:=yE hb);(try have hb2:=yF hb);(try have hb2:=yG hb)))|(refine fun (K2:_→AHeap→Prop) hK2=>?_)|((with_reducible refine zY ?_ ?_);decide)|((with_reducible first|refine zZ ?_ (fun K hK=>?_)|refine yA ?_ (fun K hK=>?_));(focus go_simp;done);go_simp;refine hK _ _ ?_;clear hK K)|(go_simp;(try go_bits);(try first | ((refine eq145_k (a := ct) (b := cm) (a' := 0) (b' := 0) (by go_simp) (by go_simp) ?_); go_simp) | ((rw [aSliceArr_k ar143 sz3]); go_simp) | ((with_reducible show CallS _ _ _ _ _ _);refine CallS.mono (contains_s Has.wordsIn) ?_; rintro _ _ ⟨rfl, rfl⟩));refine hK2 _ _ ?_;clear hK2 K2))
  all_goals (refine ⟨?_, (Ext.refl _).push' _⟩)
  · have hw : w = 0 := by simpa using hb
    simp [Has.offers, hw]
  · have hw : ¬ w = 0 := by simpa using hb
    simp only [Has.offers, if_neg hw, Value.bool.injEq]
    rw [Bool.eq_iff_iff]
    simp only [List.mem_cons, List.not_mem_nil, or_false, decide_eq_true_eq, Bool.or_eq_true, beq_iff_eq]
    constructor <;> rintro (h | h) <;> first | (left; omega) | (right; omega)
theorem offers_s {loops : List (Nat × LInfo)} {H : AHeap} {c : Has} {w : Int} : CallS Tryz.prog loops 114 [c.val, .int .i64 w] H fun v H' => v = .bool (c.offers w) ∧ H' = H :=
  offers_e.forget (R := fun v => v = .bool (c.offers w)) (by rintro v rfl; rfl)

end Go.Proofs.Tryz
