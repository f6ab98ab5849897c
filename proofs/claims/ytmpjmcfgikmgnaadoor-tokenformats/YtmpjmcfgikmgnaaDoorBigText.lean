/- A number of any size as decimal digits. -/
import Derived.Test.YtmpjmcfgikmgnaaDoorBigTwin
import Derived.Test.YtmpjmcfgikmgnaaDoorWShow
import Derived.Deep.AppendLies
namespace Go.Proofs.YtmpjmcfgikmgnaaDoor.words
open Go.RowKit
set_option maxRecDepth 100000

def lenOf : Value → Nat
  | .slice _ n _ => n
  | _ => 0
theorem own_len {w : World} {base e k : Nat} {v : Value} {n : Nat} {xs : List Value} (h : w.ownsRow base e k v n xs) : lenOf v = n := by
  rcases h.2 with ⟨rfl, rfl⟩ | ⟨g, cap, cur, rfl, _⟩ <;> rfl
theorem own_below {w w' : World} {base e k : Nat} {v : Value} {n : Nat} {xs : List Value} (h : w.ownsRow base e k v n xs) (hb : Below w.heap.size w w') : w'.ownsRow base e k v n xs :=
  ⟨h.1, h.2.imp id fun ⟨g, cap, cur, h1, h2, h3, h4⟩ => ⟨g, cap, cur, h1, h2, by rw [hb.block g (heap_lt h3)]; exact h3, h4⟩⟩
theorem own_lt {w : World} {base e k : Nat} {v : Value} {n : Nat} {xs : List Value} (h : w.ownsRow base e k v n xs) {g : Nat} (hg : v.ownBlock = some g) : base ≤ g ∧ g < w.heap.size := by
  rcases h.2 with ⟨rfl, rfl⟩ | ⟨g', cap, cur, rfl, hb, h3, _⟩
  · simp [Value.ownBlock] at hg
  · simp [Value.ownBlock] at hg
    subst hg
    exact ⟨hb, heap_lt h3⟩
/-- Words that lie apart from a row that has grown. -/
theorem Ru.grown {w w' : World} {a : Option Addr} {n cap : Nat} {l : List Nat} {row : Option Nat} (h : Ru w a n cap l) (hg : w.grownBy w' row) (hne : ∀ b off, a = some ⟨b, off, none⟩ → some b ≠ row) : Ru w' a n cap l := by
  refine ⟨h.len, h.lt, h.nil, h.room, ?_, fun b off s e hn => (h.typ b off s e hn).same (hg.block b (h.typ b off s e hn).lt (by
    rcases h.cell with h0 | ⟨b', off', e', _⟩
    · exact absurd h0 hn
    · rw [e'] at e
      obtain ⟨rfl, rfl, rfl⟩ := (by simpa using e : b' = b ∧ off' = off ∧ none = s)
      exact hne _ _ e'))⟩
  rcases h.cell with h0 | ⟨b, off, rfl, hc⟩
  · exact .inl h0
  · refine .inr ⟨b, off, rfl, fun i hi => ?_⟩
    have h1 := hc i hi
    rw [World.cell?_of_block (w := w) (a := ⟨b, off + i, none⟩) (hg.block b (World.block_lt_of_cell? w _ h1) (hne b off rfl))]
    exact h1

/-- What the digits so far, the least first, and the rest of the number make. -/
def TextInv (m M : Nat) (ds : List Int) : Prop := M ≤ m ∧ ((M = 0 ∧ ds ≠ [] ∧ decL m = ds.reverse) ∨ (0 < M ∧ decL m = decL M ++ ds.reverse))
theorem text_more {m M : Nat} {ds : List Int} (h : TextInv m M ds) (h0 : 0 < M) : TextInv m (M / 10) (ds ++ [48 + ((M % 10 : Nat) : Int)]) := by
  obtain ⟨hle, h⟩ := h
  have he : decL m = decL M ++ ds.reverse := by
    rcases h with h | h
    · omega
    · exact h.2
  refine ⟨by omega, ?_⟩
  by_cases h10 : M < 10
  · left
    refine ⟨by omega, by simp, ?_⟩
    rw [he, decL_one h10, Nat.mod_eq_of_lt h10]
    simp
  · right
    refine ⟨by omega, ?_⟩
    rw [he, decL_more h10]
    simp
theorem text_len {m M : Nat} {ds : List Int} (h : TextInv m M ds) (h0 : 0 < M) : ds.length < (decL m).length := by
  rcases h.2 with h | ⟨_, h⟩
  · omega
  · rw [h]
    have : 0 < (decL M).length := List.length_pos_iff.2 (decL_ne M)
    simp; omega
theorem dig_mono {M m : Nat} (h : M ≤ m) : (dig M).length ≤ (dig m).length := by
  rcases Nat.lt_or_ge (dig m).length (dig M).length with h1 | h1
  · have := len_less h1; omega
  · exact h1

theorem info_u8 : (Tryd.prog.info? 5).map (fun i => (i.zero, i.size, i.bytes)) = some (some (.int .u8 0), 1, 1) := by kernel_rfl

/-- A row of bytes that the call owns. -/
def RB (w : World) (base g cap L : Nat) (f : Nat → Int) : Prop := w.ownsRow base 5 1 (.slice (some ⟨g, 0, none⟩) L cap) L ((List.range L).map fun k => Value.int .u8 (f k))
theorem RB.cell {w : World} {base g cap L : Nat} {f : Nat → Int} (h : RB w base g cap L f) {i : Nat} (hi : i < L) : w.cell? ⟨g, i, none⟩ = some (.int .u8 (f i)) := by
  have := World.ownsRow.cellAt h i (by omega)
  rw [this]
  simp [hi]
theorem RB.free {w : World} {base g cap L : Nat} {f : Nat → Int} (h : RB w base g cap L f) (i : Nat) : w.frozen? ⟨g, i, none⟩ = false := World.ownsRow.frozenAt h i
theorem RB.set {w : World} {base g cap L : Nat} {f : Nat → Int} (h : RB w base g cap L f) (i : Nat) (v : Int) : RB (w.setCell ⟨g, i, none⟩ (.int .u8 v)) base g cap L (updd f i v) := by
  have := (World.ownsRow.stored h i (.int .u8 v)).1
  unfold RB
  rw [show ((List.range L).map fun k => Value.int .u8 (updd f i v k)) = ((List.range L).map fun k => Value.int .u8 (f k)).set i (.int .u8 v) from ?_]
  · exact this
  · apply List.ext_getElem?
    intro k
    by_cases hk : k < L
    · by_cases e : k = i
      · subst e; simp [updd, hk]
      · rw [List.getElem?_set_ne (by omega)]; simp [updd, hk, e]
    · rw [List.getElem?_eq_none (by simp; omega), List.getElem?_eq_none (by simp; omega)]
theorem RB.drewN {w : World} {base g cap L : Nat} {f : Nat → Int} (h : RB w base g cap L f) (q : Nat) : RB (w.drewN q) base g cap L f := h
theorem RB.lt {w : World} {base g cap L : Nat} {f : Nat → Int} (h : RB w base g cap L f) : base ≤ g := (own_lt h (g := g) rfl).1

theorem conv_row (w : World) (base g cap L : Nat) (f : Nat → Int) (h : RB w base g cap L f) :
    (convert 91 9 (.slice (some ⟨g, 0, none⟩) L cap)).run Tryd.prog w = .ok (.string (strOf ((List.range L).map f))) w := by
  rw [run_convert_bytes_string _ _ _ _ _ _ _ Tryd.underlying91 Tryd.underlying5 Tryd.underlying9, run_bytesToString _ _ _ _ ((List.range L).map f)]
  · rfl
  · have := run_loadCells (P := Tryd.prog) w ⟨g, 0, none⟩ L (fun i => .int .u8 (f i)) (fun j hj => by rw [Addr.add_lit, Nat.zero_add]; exact h.cell (by omega))
    rw [this]
    congr 2
    simp

/-- The places below i, and those as far from the end, have changed. -/
def Turned (L i : Nat) (d f : Nat → Int) : Prop := ∀ k, k < L → f k = if k < i ∨ L - 1 - i < k then d (L - 1 - k) else d k
theorem turned_step {L i : Nat} {d f : Nat → Int} (h : Turned L i d f) (hi : i < L - 1 - i) : Turned L (i + 1) d (updd (updd f i (f (L - 1 - i))) (L - 1 - i) (f i)) := by
  intro k hk
  have h1 := h i (by omega)
  have h2 := h (L - 1 - i) (by omega)
  have h3 := h k hk
  rw [if_neg (by omega)] at h1 h2
  unfold updd
  by_cases e1 : k = L - 1 - i
  · rw [if_pos e1, if_pos (by omega), h1]; congr 1; omega
  · rw [if_neg e1]
    by_cases e2 : k = i
    · rw [if_pos e2, if_pos (by omega), h2]; congr 1; omega
    · rw [if_neg e2, h3]
      by_cases e3 : k < i ∨ L - 1 - i < k
      · rw [if_pos e3, if_pos (by omega)]
      · rw [if_neg e3, if_neg (by omega)]
theorem turned_end {L i : Nat} {d f : Nat → Int} (h : Turned L i d f) (hi : ¬ i < L - 1 - i) (ds : List Int) (hL : ds.length = L) (hd : ∀ k, d k = ds.getD k 0) : (List.range L).map f = ds.reverse := by
  apply List.ext_getElem (by simp [hL])
  intro k h1 h2
  have hk : k < L := by simpa using h1
  rw [List.getElem_reverse, List.getElem_map, List.getElem_range, h k hk]
  have e : d (L - 1 - k) = ds[ds.length - 1 - k] := by
    subst hL
    rw [hd]
    simp [List.getD, List.getElem?_eq_getElem (show ds.length - 1 - k < ds.length by omega)]
  by_cases c : k < i ∨ L - 1 - i < k
  · rw [if_pos c, e]
  · rw [if_neg c, ← e]; congr 1; omega

end Go.Proofs.YtmpjmcfgikmgnaaDoor.words
