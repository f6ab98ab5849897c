/- Numbers of any size behind a pointer: give, NewInt. -/
import Derived.Test.YtlicdeppfhmfjaaGreatDoorBigR
namespace Go.Proofs.YtlicdeppfhmfjaaGreatDoor.words
open Go.RowKit
set_option maxRecDepth 100000

/-- Every block that was there, but z, is as it was. -/
structure Ex (w w' : World) (z : Nat) : Prop where
  os : w'.os = w.os
  tape : w'.tape = w.tape
  output : w'.output = w.output
  size : w.heap.size ≤ w'.heap.size
  block : ∀ k, k < w.heap.size → k ≠ z → w'.heap[k]? = w.heap[k]?

theorem Ex.below {w0 w w' : World} {z : Nat} (hb : Below w0.heap.size w0 w) (h : Ex w w' z) (hz : w0.heap.size ≤ z) : Below w0.heap.size w0 w' :=
  hb.trans ⟨h.os, h.tape, h.output, h.size, fun k hk => h.block k (Nat.lt_of_lt_of_le hk hb.size) (by omega)⟩
theorem Ex.of {w w1 w' : World} {z : Nat} (hb : Below w.heap.size w w1) (h : Ex w1 w' z) : Ex w w' z :=
  ⟨h.os.trans hb.os, h.tape.trans hb.tape, h.output.trans hb.output, Nat.le_trans hb.size h.size, fun k hk hz => (h.block k (Nat.lt_of_lt_of_le hk hb.size) hz).trans (hb.block k hk)⟩
theorem Ex.trans {w w1 w' : World} {z : Nat} (h : Ex w w1 z) (h' : Ex w1 w' z) : Ex w w' z :=
  ⟨h'.os.trans h.os, h'.tape.trans h.tape, h'.output.trans h.output, Nat.le_trans h.size h'.size, fun k hk hz => (h'.block k (Nat.lt_of_lt_of_le hk h.size) hz).trans (h.block k hk hz)⟩

/-- Block z holds a number of any size, of whatever worth. -/
def Ob (w : World) (z : Nat) : Prop := ∃ s a n c, w.heap[z]? = some (.cells #[.bool s, .slice a n c] 104 (0, 0))
/-- Block z holds the number m, which is not below 0. -/
def Bg (w : World) (z m : Nat) : Prop := ∃ a n c, w.heap[z]? = some (.cells #[.bool false, .slice a n c] 104 (0, 0)) ∧ Ru w a n c (dig m)

theorem Bg.ob {w : World} {z m : Nat} (h : Bg w z m) : Ob w z := let ⟨a, n, c, h1, _⟩ := h; ⟨false, a, n, c, h1⟩
theorem heap_lt {w : World} {z : Nat} {o : Obj} (h : w.heap[z]? = some o) : z < w.heap.size := by
  by_cases hh : z < w.heap.size
  · exact hh
  · rw [Array.getElem?_eq_none (by omega)] at h; cases h
theorem Ob.lt {w : World} {z : Nat} (h : Ob w z) : z < w.heap.size := let ⟨_, _, _, _, h⟩ := h; heap_lt h
theorem Ob.below {w w' : World} {z : Nat} (h : Ob w z) (hb : Below w.heap.size w w') : Ob w' z := by
  have hl := h.lt
  obtain ⟨s, a, n, c, h1⟩ := h
  exact ⟨s, a, n, c, by rw [hb.block z hl]; exact h1⟩
theorem Bg.below {w w' : World} {z m : Nat} (h : Bg w z m) (hb : Below w.heap.size w w') : Bg w' z m := by
  have hl := h.ob.lt
  obtain ⟨a, n, c, h1, h2⟩ := h
  exact ⟨a, n, c, by rw [hb.block z hl]; exact h1, h2.below hb⟩

/-- Words lie in no number's own block. -/
theorem Ty.ne {w : World} {b z : Nat} (h : Ty w b) (ho : Ob w z) : b ≠ z := by
  intro e
  subst e
  obtain ⟨cs, fr, h1⟩ := h
  obtain ⟨s, a, n, c, h2⟩ := ho
  rw [h1] at h2
  simp at h2
theorem Ru.ex {w w' : World} {z : Nat} {a : Option Addr} {n cap : Nat} {l : List Nat} (h : Ru w a n cap l) (ho : Ob w z) (he : Ex w w' z) : Ru w' a n cap l := by
  refine ⟨h.len, h.lt, h.nil, h.room, ?_, fun b off s e hn => (h.typ b off s e hn).same (he.block b (h.typ b off s e hn).lt ((h.typ b off s e hn).ne ho))⟩
  rcases h.cell with h0 | ⟨b, off, rfl, hc⟩
  · exact .inl h0
  · refine .inr ⟨b, off, rfl, fun i hi => ?_⟩
    have h1 := hc i hi
    have hlt := World.block_lt_of_cell? w _ h1
    have hne : b ≠ z := by
      intro e
      subst e
      obtain ⟨s, a', n', c', h2⟩ := ho
      simp only [World.cell?, h2] at h1
      match hj : off + i, h1 with
      | 0, h1 => simp at h1
      | 1, h1 => simp at h1
      | k + 2, h1 => simp at h1
    rw [World.cell?_of_block (w := w) (a := ⟨b, off + i, none⟩) (he.block b hlt hne)]
    exact h1
theorem Bg.ex {w w' : World} {z y m : Nat} (h : Bg w y m) (ho : Ob w z) (he : Ex w w' z) (hne : y ≠ z) : Bg w' y m := by
  have hl := h.ob.lt
  obtain ⟨a, n, c, h1, h2⟩ := h
  exact ⟨a, n, c, by rw [he.block y hl hne]; exact h1, h2.ex ho he⟩

theorem ob_cells {w : World} {z : Nat} {s : Bool} {v : Value} (h : w.heap[z]? = some (.cells #[.bool s, v] 104 (0, 0))) :
    w.cell? ⟨z, 0, none⟩ = some (.bool s) ∧ w.cell? ⟨z, 1, none⟩ = some v ∧ w.frozen? ⟨z, 0, none⟩ = false ∧ w.frozen? ⟨z, 1, none⟩ = false := by
  refine ⟨?_, ?_, ?_, ?_⟩ <;> simp [World.cell?, World.frozen?, h]

theorem ob_set {w : World} {z : Nat} {s : Bool} {v : Value} (h : w.heap[z]? = some (.cells #[.bool s, v] 104 (0, 0))) (u : Value) (t : Bool) :
    ((w.setCell ⟨z, 1, none⟩ u).setCell ⟨z, 0, none⟩ (.bool t)).heap[z]? = some (.cells #[.bool t, u] 104 (0, 0)) ∧ Ex w ((w.setCell ⟨z, 1, none⟩ u).setCell ⟨z, 0, none⟩ (.bool t)) z := by
  refine ⟨by simp [World.setCell, Array.getElem?_modify, h], rfl, rfl, rfl, by simp [World.setCell], fun k _ hz => ?_⟩
  simp only [World.setCell, Array.getElem?_modify]
  rw [if_neg (fun e => hz e.symm), if_neg (fun e => hz e.symm)]

/-- A number was given back behind the pointer z. -/
def GivePost (w : World) (z : Nat) (v : Value) (e : Ending) (w' : World) : Prop :=
  e = .returned (.pointer (some ⟨z, 0, none⟩)) ∧ w'.heap[z]? = some (.cells #[.bool false, v] 104 (0, 0)) ∧ Ex w w' z

theorem give_any (z : Nat) (a : Option Addr) (n cap : Nat) (w : World) (ho : Ob w z) :
    Calls Tryz.prog 101 #[.pointer (some ⟨z, 0, none⟩), .bool false, .slice a n cap] w fun e w' => GivePost w z (.slice a n cap) e w' := by
  obtain ⟨s, a', n', c', h⟩ := ho
  obtain ⟨c0, c1, f0, f1⟩ := ob_cells h
  have hs := ob_set h (.slice a n cap) false
  have HS : Hid (((w.setCell ⟨z, 1, none⟩ (.slice a n cap)).setCell ⟨z, 0, none⟩ (.bool false)).heap[z]? = some (.cells #[.bool false, .slice a n cap] 104 (0, 0)) ∧ Ex w ((w.setCell ⟨z, 1, none⟩ (.slice a n cap)).setCell ⟨z, 0, none⟩ (.bool false)) z) := hs
  clear hs h
  go_enter Tryz.func101, Tryz.ntmps101
  go_wp2_with fail
  go_ret
  exact ⟨rfl, HS.out.1, HS.out.2⟩

theorem ob_new (w : World) : Ob (w.alloc (.cells #[.bool false, .slice none 0 0] 104)) w.heap.size := by
  refine ⟨false, none, 0, 0, ?_⟩
  show (w.heap.push _)[w.heap.size]? = _
  rw [Array.getElem?_push_size]

/-- SetInt64 of a number that is not below 0. -/
theorem setInt_any (z x : Nat) (w : World) (ho : Ob w z) (hx : x < 9223372036854775808) :
    Calls Tryz.prog 103 #[.pointer (some ⟨z, 0, none⟩), .int .i64 (x : Int)] w fun e w' => e = .returned (.pointer (some ⟨z, 0, none⟩)) ∧ Bg w' z x ∧ Ex w w' z := by
  have h0 : ¬ ((x : Nat) : Int) < 0 := by omega
  have h1 : decide (((x : Nat) : Int) < 0) = false := decide_eq_false h0
  have HO : Hid (Ob w z) := ho
  clear ho
  go_enter Tryz.func103, Tryz.ntmps103
  go_wp2_with fail
  refine (words_any x _ (by omega)).mono ?_
  rintro e w1 ⟨a, n, cap, rfl, hr, hb⟩
  have HR : Hid (Ru w1 a n cap (dig x)) := hr
  have HB : Hid (Below w.heap.size w w1) := hb
  clear hr hb
  go_wp2_with fail
  refine (give_any z a n cap _ (HO.out.below HB.out)).mono ?_
  rintro e w2 ⟨rfl, h2, hex⟩
  have HF : Hid (Bg w2 z x ∧ Ex w w2 z) := ⟨⟨a, n, cap, h2, HR.out.ex (HO.out.below HB.out) hex⟩, Ex.of HB.out hex⟩
  clear h2 hex
  go_wp2_with fail
  go_ret
  exact ⟨rfl, HF.out.1, HF.out.2⟩

/-- NewInt of a number that is not below 0: a new block. -/
def NewPost (w : World) (x : Nat) (e : Ending) (w' : World) : Prop := ∃ z, e = .returned (.pointer (some ⟨z, 0, none⟩)) ∧ w.heap.size ≤ z ∧ Bg w' z x ∧ Below w.heap.size w w'
theorem NewPost.mk {w w' : World} {x z : Nat} (h1 : w.heap.size ≤ z) (h2 : Bg w' z x) (h3 : Below w.heap.size w w') : NewPost w x (.returned (.pointer (some ⟨z, 0, none⟩))) w' := ⟨z, rfl, h1, h2, h3⟩

theorem newInt_any (x : Nat) (w : World) (hx : x < 9223372036854775808) :
    Calls Tryz.prog 65 #[.int .i64 (x : Int)] w fun e w' => NewPost w x e w' := by
  have HO : Hid (Ob (w.alloc (.cells #[.bool false, .slice none 0 0] 104)) w.heap.size) := ob_new w
  have HB : Hid (Below w.heap.size w (w.alloc (.cells #[.bool false, .slice none 0 0] 104))) := (Below.refl _ w).alloc (Nat.le_refl _) _
  go_enter Tryz.func65, Tryz.ntmps65
  go_wp2_with fail
  refine (setInt_any w.heap.size x _ HO.out hx).mono ?_
  rintro e w1 ⟨rfl, h1, h2⟩
  have HP : Hid (NewPost w x (.returned (.pointer (some ⟨w.heap.size, 0, none⟩))) w1) := NewPost.mk (Nat.le_refl _) h1 (h2.below HB.out (Nat.le_refl _))
  clear h1 h2
  go_wp2_with fail
  go_ret
  exact HP.out

end Go.Proofs.YtlicdeppfhmfjaaGreatDoor.words
