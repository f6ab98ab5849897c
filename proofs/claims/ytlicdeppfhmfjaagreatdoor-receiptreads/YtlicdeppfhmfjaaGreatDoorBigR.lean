/- Slices of words: how they lie, and what trim and words make of them. -/
import Derived.Test.YtlicdeppfhmfjaaGreatDoorBigN
import Derived.Test.YtlicdeppfhmfjaaGreatDoorTrio
import Derived.OwnWalk
import Derived.Deep.RegionHeld
namespace Go.Proofs.YtlicdeppfhmfjaaGreatDoor.words
open Go.RowKit
set_option maxRecDepth 100000

/-- Block b is a row of words. -/
def Ty (w : World) (b : Nat) : Prop := ∃ cs fr, w.heap[b]? = some (.cells cs 83 fr)
theorem Ty.lt {w : World} {b : Nat} (h : Ty w b) : b < w.heap.size := by
  obtain ⟨cs, fr, h⟩ := h
  by_cases hh : b < w.heap.size
  · exact hh
  · rw [Array.getElem?_eq_none (by omega)] at h; cases h
theorem Ty.same {w w' : World} {b : Nat} (h : Ty w b) (e : w'.heap[b]? = w.heap[b]?) : Ty w' b := by
  obtain ⟨cs, fr, h⟩ := h
  exact ⟨cs, fr, e.trans h⟩
theorem ty_new (w : World) (cs : Array Value) : Ty (w.alloc (.cells cs 83)) w.heap.size := by
  refine ⟨cs, (0, 0), ?_⟩
  show (w.heap.push _)[w.heap.size]? = _
  rw [Array.getElem?_push_size]

/-- The slice a, of length n, holds the words l. -/
structure Ru (w : World) (a : Option Addr) (n cap : Nat) (l : List Nat) : Prop where
  len : l.length = n
  lt : ∀ x ∈ l, x < 4294967296
  nil : a = none → cap = 0
  room : n ≤ cap
  cell : n = 0 ∨ ∃ b off, a = some ⟨b, off, none⟩ ∧ ∀ i, i < n → w.cell? ⟨b, off + i, none⟩ = some (.int .u32 ((l.getD i 0 : Nat) : Int))
  typ : ∀ b off s, a = some ⟨b, off, s⟩ → n ≠ 0 → Ty w b

theorem Ru.below {w w' : World} {a : Option Addr} {n cap : Nat} {l : List Nat} (h : Ru w a n cap l) (hb : Below w.heap.size w w') : Ru w' a n cap l := by
  refine ⟨h.len, h.lt, h.nil, h.room, ?_, fun b off s e hn => (h.typ b off s e hn).same (hb.block b (h.typ b off s e hn).lt)⟩
  rcases h.cell with h0 | ⟨b, off, rfl, hc⟩
  · exact .inl h0
  · refine .inr ⟨b, off, rfl, fun i hi => ?_⟩
    have h1 := hc i hi
    rw [hb.cell (p := ⟨b, off + i, none⟩) (World.block_lt_of_cell? w _ h1)]
    exact h1

theorem Ru.at {w : World} {a : Option Addr} {n cap : Nat} {l : List Nat} (h : Ru w a n cap l) {i : Nat} (hi : i < n) : ∃ b off, a = some ⟨b, off, none⟩ ∧ w.cell? ⟨b, off + i, none⟩ = some (.int .u32 ((l.getD i 0 : Nat) : Int)) := by
  rcases h.cell with h0 | ⟨b, off, rfl, hc⟩
  · omega
  · exact ⟨b, off, rfl, hc i hi⟩
theorem Ru.word {w : World} {a : Option Addr} {n cap : Nat} {l : List Nat} (h : Ru w a n cap l) (i : Nat) : l.getD i 0 < 4294967296 := by
  by_cases hi : i < l.length
  · exact h.lt _ (by simp [List.getD, List.getElem?_eq_getElem hi])
  · simp [List.getD, List.getElem?_eq_none (show l.length ≤ i by omega)]

/-- A slice was given back that holds a number's words; what was there stands. -/
def Gives (w : World) (m : Nat) (e : Ending) (w' : World) : Prop := ∃ a n cap, e = .returned (.slice a n cap) ∧ Ru w' a n cap (dig m) ∧ Below w.heap.size w w'
theorem Gives.mk {w w' : World} {m n cap : Nat} {a : Option Addr} (h1 : Ru w' a n cap (dig m)) (h2 : Below w.heap.size w w') : Gives w m (.returned (.slice a n cap)) w' := ⟨a, n, cap, rfl, h1, h2⟩

theorem slice_top (a : Option Addr) (n cap k : Nat) (w : World) (hk : k ≤ n) (hn : n ≤ cap) (ha : a = none → cap = 0) : (Instr.slice 102 (.slice a n cap) none (some (.int .i64 (k : Int))) none).run Tryz.prog w = .ok (.slice a k cap) w := by
  have h1 : k ≤ cap := by omega
  cases a with
  | none =>
    have := ha rfl
    have : k = 0 := by omega
    subst_vars
    simp [Instr.slice, Instr.sliceBounds, Instr.sliceBound, asIntOf, run_underlying Tryz.underlying102, go_sem]
  | some x => simp [Instr.slice, Instr.sliceBounds, Instr.sliceBound, asIntOf, run_underlying Tryz.underlying102, h1, go_sem]

set_option maxHeartbeats 1000000 in
theorem trim_any (a : Option Addr) (n cap : Nat) (l : List Nat) (w : World) (h : Ru w a n cap l) (hn : n ≤ 1000) :
    Calls Tryz.prog 143 #[.slice a n cap] w fun e w' => Gives w (nv l) e w' := by
  have HR : Hid (Ru w a n cap l) := h
  clear h
  go_enter Tryz.func143, Tryz.ntmps143
  go_wp2_with fail
  go_loop [3] (fun v => ∃ k : Nat, k ≤ n ∧ v = .int .i64 k ∧ ∀ i, k ≤ i → i < n → l.getD i 0 = 0) (fun v => (intOf v).toNat)
  case atStart => exact ⟨n, Nat.le_refl _, rfl, fun i h1 h2 => by omega⟩
  case round =>
    obtain ⟨k, hk, rfl, hz⟩ := hrel
    have HZ : Hid (∀ i, k ≤ i → i < n → l.getD i 0 = 0) := hz
    clear hz
    have fin : (k = 0 ∨ l.getD (k - 1) 0 ≠ 0) → Gives w (nv l) (.returned (.slice a k cap)) w := fun hh => by
      have e := trim_dig l k HR.out.lt (by rw [HR.out.len]; exact hk) (fun i h1 h2 => HZ.out i h1 (by rw [HR.out.len] at h2; exact h2)) hh
      refine Gives.mk ?_ (Below.refl _ _)
      rw [← e]
      refine ⟨by rw [List.length_take, HR.out.len]; omega, fun x hx => HR.out.lt x (List.mem_of_mem_take hx), HR.out.nil, Nat.le_trans hk HR.out.room, ?_, fun b off s e hn => HR.out.typ b off s e (by omega)⟩
      rcases HR.out.cell with h0 | ⟨b, off, rfl, hc⟩
      · exact .inl (by omega)
      · refine .inr ⟨b, off, rfl, fun i hi => ?_⟩
        rw [hc i (by omega)]
        congr 3
        simp [List.getD, hi]
    have HF : Hid ((k = 0 ∨ l.getD (k - 1) 0 ≠ 0) → Gives w (nv l) (.returned (.slice a k cap)) w) := fin
    have hsl := slice_top a n cap k w hk HR.out.room HR.out.nil
    clear fin
    by_cases hk0 : k = 0
    · subst hk0
      go_wp2_with fail
      go_ret
      exact HF.out (.inl (by trivial))
    · obtain ⟨b, off, rfl, hc⟩ := HR.out.at (i := k - 1) (by omega)
      have e1 : (k : Int) - 1 = ((k - 1 : Nat) : Int) := by omega
      have kp : (0 : Int) < (k : Int) := by omega
      by_cases hzero : l.getD (k - 1) 0 = 0
      · rw [hzero] at hc
        have HN : Hid (∀ i, k - 1 ≤ i → i < n → l.getD i 0 = 0) := fun i h1 h2 => by
          by_cases e : i = k - 1
          · rw [e]; exact hzero
          · exact HZ.out i (by omega) h2
        clear HF hsl hzero
        have hg : k - 1 < n := by omega
        generalize hgg : k - 1 = g at *
        go_wp2_with fail
        go_round
        case rel => exact ⟨g, by omega, by go_num, HN.out⟩
        case measure => simp [intOf]; omega
      · have hb : ((((l.getD (k - 1) 0 : Nat) : Int)) == 0) = false := beq_eq_false_iff_ne.2 (by omega)
        have HH : Hid (l.getD (k - 1) 0 ≠ 0) := hzero
        clear hzero
        have hg : k - 1 < n := by omega
        generalize ((l.getD (k - 1) 0 : Nat) : Int) = y at hb hc
        generalize hgg : k - 1 = g at hc e1 hg
        go_wp2_with fail
        go_ret
        exact HF.out (.inr HH.out)

theorem ru_two (w : World) (x y : Nat) (hx : x < 4294967296) (hy : y < 4294967296) : Ru (w.alloc (.cells #[.int .u32 (x : Int), .int .u32 (y : Int)] 83)) (some ⟨w.heap.size, 0, none⟩) 2 2 [x, y] := by
  refine ⟨rfl, ?_, (fun h => by cases h), Nat.le_refl _, .inr ⟨w.heap.size, 0, rfl, fun i hi => ?_⟩, fun b off s e _ => by obtain ⟨rfl, -, -⟩ := (by simpa using e : w.heap.size = b ∧ 0 = off ∧ none = s); exact ty_new _ _⟩
  · intro z hz; simp at hz; omega
  · match i, hi with
    | 0, _ => simp
    | 1, _ => simp

theorem words_any (x : Nat) (w : World) (hx : x < 18446744073709551616) :
    Calls Tryz.prog 144 #[.int .u64 (x : Int)] w fun e w' => Gives w x e w' := by
  have h1 : x % 4294967296 < 4294967296 := Nat.mod_lt _ (by decide)
  have h2 : x / 4294967296 < 4294967296 := by omega
  have hr := ru_two w (x % 4294967296) (x / 4294967296) h1 h2
  have HV : Hid (nv [x % 4294967296, x / 4294967296] = x) := (by simp only [nv]; omega : nv [x % 4294967296, x / 4294967296] = x)
  have e1 : ((x : Nat) : Int) % 4294967296 = ((x % 4294967296 : Nat) : Int) := by omega
  have e2 : ((x : Nat) : Int) / 4294967296 = ((x / 4294967296 : Nat) : Int) := by omega
  have HR : Hid (Ru (w.alloc (.cells #[.int .u32 ((x % 4294967296 : Nat) : Int), .int .u32 ((x / 4294967296 : Nat) : Int)] 83)) (some ⟨w.heap.size, 0, none⟩) 2 2 [x % 4294967296, x / 4294967296]) := hr
  have HB : Hid (Below w.heap.size w (w.alloc (.cells #[.int .u32 ((x % 4294967296 : Nat) : Int), .int .u32 ((x / 4294967296 : Nat) : Int)] 83))) := (Below.refl _ w).alloc (Nat.le_refl _) _
  clear hr h1
  generalize x % 4294967296 = lo at *
  generalize x / 4294967296 = hi at *
  go_enter Tryz.func144, Tryz.ntmps144
  go_wp2_with fail
  refine (trim_any _ _ _ _ _ HR.out (by omega)).mono ?_
  rintro e w' ⟨a, n, cap, rfl, hr, hb⟩
  rw [HV.out] at hr
  have HG : Hid (Gives w x (.returned (.slice a n cap)) w') := Gives.mk hr (HB.out.trans (hb.mono HB.out.size))
  clear hr hb
  go_wp2_with fail
  go_ret
  exact HG.out

end Go.Proofs.YtlicdeppfhmfjaaGreatDoor.words
