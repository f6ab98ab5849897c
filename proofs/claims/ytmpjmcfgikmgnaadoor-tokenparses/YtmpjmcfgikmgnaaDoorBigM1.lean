/- Numbers of any size as lists of words, the least first: plain facts. Slices of words: how they lie, and what trim and words make of them. Numbers of any size behind a pointer: give, NewInt. The sum of numbers of any size. What vendmeterbig.add gives back. What vendmeterbig.mul gives back. What (*Int).Mul and (*Int).Add make. A wide number as a number of any size: plain facts. Numbers of any size are compared. The worth of a wide number. -/
import Derived.Test.YtmpjmcfgikmgnaaDoorWide
import Derived.Test.YtmpjmcfgikmgnaaDoorTrio
import Derived.OwnWalk
import Derived.Deep.RegionHeld
namespace Go.Proofs.YtmpjmcfgikmgnaaDoor.words

/-- The number that words make. -/
def nv : List Nat → Nat
  | [] => 0
  | x :: l => x + 4294967296 * nv l
/-- A number's words, without a nought at the end. -/
def digF : Nat → Nat → List Nat
  | 0, _ => []
  | k + 1, m => if m = 0 then [] else (m % 4294967296) :: digF k (m / 4294967296)
def dig (m : Nat) : List Nat := digF m m

theorem digF_same : ∀ (k j m : Nat), m ≤ k → m ≤ j → digF k m = digF j m := by
  intro k
  induction k with
  | zero =>
    intro j m h1 h2
    have : m = 0 := by omega
    subst this
    cases j with
    | zero => rfl
    | succ j => simp [digF]
  | succ k ih =>
    intro j m h1 h2
    by_cases h0 : m = 0
    · subst h0
      cases j with
      | zero => simp [digF]
      | succ j => simp [digF]
    · obtain ⟨j', rfl⟩ : ∃ j', j = j' + 1 := ⟨j - 1, by omega⟩
      rw [digF, digF, if_neg h0, if_neg h0, ih j' (m / 4294967296) (by omega) (by omega)]
theorem dig_zero : dig 0 = [] := rfl
theorem dig_pos {m : Nat} (h : m ≠ 0) : dig m = (m % 4294967296) :: dig (m / 4294967296) := by
  obtain ⟨k, rfl⟩ : ∃ k, m = k + 1 := ⟨m - 1, by omega⟩
  unfold dig
  rw [digF, if_neg h, digF_same k _ _ (by omega) (Nat.le_refl _)]
theorem nv_dig (m : Nat) : nv (dig m) = m := by
  induction m using Nat.strongRecOn with
  | _ m ih =>
    by_cases h : m = 0
    · subst h; rw [dig_zero]; rfl
    · rw [dig_pos h, nv, ih (m / 4294967296) (by omega)]; omega
theorem dig_lt (m : Nat) : ∀ x ∈ dig m, x < 4294967296 := by
  induction m using Nat.strongRecOn with
  | _ m ih =>
    by_cases h : m = 0
    · subst h; rw [dig_zero]; intro x hx; cases hx
    · rw [dig_pos h]
      intro x hx
      rcases List.mem_cons.1 hx with rfl | hx
      · omega
      · exact ih (m / 4294967296) (by omega) x hx
theorem dig_nil {m : Nat} (h : dig m = []) : m = 0 := by
  by_cases h0 : m = 0
  · exact h0
  · rw [dig_pos h0] at h; cases h

theorem getD_cons_succ (x : Nat) (r : List Nat) (i : Nat) : (x :: r).getD (i + 1) 0 = r.getD i 0 := by simp [List.getD]

/-- What is left of words when the noughts at their end are taken off. -/
theorem trim_dig : ∀ (l : List Nat) (n : Nat), (∀ x ∈ l, x < 4294967296) → n ≤ l.length → (∀ i, n ≤ i → i < l.length → l.getD i 0 = 0) → (n = 0 ∨ l.getD (n - 1) 0 ≠ 0) → l.take n = dig (nv l)
  | [], n, _, hn, _, _ => by
    have : n = 0 := by simpa using hn
    subst this; rw [nv, dig_zero]; rfl
  | x :: r, 0, hlt, _, hz, _ => by
    have hx : x = 0 := by simpa using hz 0 (Nat.le_refl _) (by simp)
    have hr := trim_dig r 0 (fun y hy => hlt y (List.mem_cons_of_mem _ hy)) (Nat.zero_le _) (fun i _ hi => by
      have := hz (i + 1) (Nat.zero_le _) (by simp; omega)
      rwa [getD_cons_succ] at this) (.inl rfl)
    have h0 : nv r = 0 := dig_nil (by rw [← hr]; rfl)
    rw [nv, hx, h0, dig_zero]; rfl
  | x :: r, k + 1, hlt, hn, hz, hne => by
    have hx := hlt x (List.mem_cons_self ..)
    have hr := trim_dig r k (fun y hy => hlt y (List.mem_cons_of_mem _ hy)) (by simp at hn; omega) (fun i hi hi2 => by
      have := hz (i + 1) (by omega) (by simp; omega)
      rwa [getD_cons_succ] at this) (by
      by_cases hk : k = 0
      · exact .inl hk
      · right
        rcases hne with h | h
        · omega
        · have e : k + 1 - 1 = (k - 1) + 1 := by omega
          rw [e, getD_cons_succ] at h
          exact h)
    have hnz : nv (x :: r) ≠ 0 := by
      intro h0
      rw [nv] at h0
      rcases hne with h | h
      · omega
      · by_cases hk : k = 0
        · subst hk; simp at h; omega
        · have h1 : nv r = 0 := by omega
          rw [h1, dig_zero] at hr
          have h2 : r.length = 0 ∨ k = 0 := by
            have := congrArg List.length hr
            simp only [List.length_take, List.length_nil] at this
            omega
          simp at hn; omega
    rw [List.take_succ_cons, hr, dig_pos hnz]
    congr 1
    · rw [nv]; omega
    · congr 1; rw [nv]; omega

theorem dig_inj {m n : Nat} (h : dig m = dig n) : m = n := by rw [← nv_dig m, h, nv_dig]

theorem dig_len {m : Nat} : ∀ k : Nat, m < 4294967296 ^ k → (dig m).length ≤ k := by
  intro k
  induction k generalizing m with
  | zero => intro h; have : m = 0 := by simpa using h
            subst this; rw [dig_zero]; simp
  | succ k ih =>
    intro h
    by_cases h0 : m = 0
    · subst h0; rw [dig_zero]; simp
    · rw [dig_pos h0]
      have := ih (m := m / 4294967296) (by rw [Nat.pow_succ] at h; exact Nat.div_lt_of_lt_mul (by rw [Nat.mul_comm]; exact h))
      simp; omega

/-- A word ahead. -/
theorem dig_shift (m x : Nat) (hx : x < 4294967296) (h : m ≠ 0 ∨ x ≠ 0) : dig (m * 4294967296 + x) = x :: dig m := by
  rw [dig_pos (by omega)]
  congr 1
  · omega
  · congr 1; omega

end Go.Proofs.YtmpjmcfgikmgnaaDoor.words
namespace Go.Proofs.YtmpjmcfgikmgnaaDoor.words
open Go.RowKit
set_option maxRecDepth 100000

/-- Block b is a row of words. -/
def Ty (w : World) (b : Nat) : Prop := ∃ cs fr, w.heap[b]? = some (.cells cs 28 fr)
theorem Ty.lt {w : World} {b : Nat} (h : Ty w b) : b < w.heap.size := by
  obtain ⟨cs, fr, h⟩ := h
  by_cases hh : b < w.heap.size
  · exact hh
  · rw [Array.getElem?_eq_none (by omega)] at h; cases h
theorem Ty.same {w w' : World} {b : Nat} (h : Ty w b) (e : w'.heap[b]? = w.heap[b]?) : Ty w' b := by
  obtain ⟨cs, fr, h⟩ := h
  exact ⟨cs, fr, e.trans h⟩
theorem ty_new (w : World) (cs : Array Value) : Ty (w.alloc (.cells cs 28)) w.heap.size := by
  refine ⟨cs, (0, 0), ?_⟩
  show (w.heap.push _)[w.heap.size]? = _
  rw [Array.getElem?_push_size]

/-- The slice a, of length n, holds the words l. -/
structure Ru (w : World) (a : Option Addr) (n cap : Nat) (l : List Nat) : Prop where
  len : l.length = n
  lt : ∀ x ∈ l, x < 4294967296
  nil : a = none → cap = 0
  room : n ≤ cap
  cell : n = 0 ∨ ∃ b off, a = some ⟨b, off, none⟩ ∧ ∀ i, i < n → w.cell? ⟨b, off + i, none⟩ = some (.int .u32 ((l.getD i 0 : Nat) : Int))
  typ : ∀ b off s, a = some ⟨b, off, s⟩ → n ≠ 0 → Ty w b

theorem Ru.below {w w' : World} {a : Option Addr} {n cap : Nat} {l : List Nat} (h : Ru w a n cap l) (hb : Below w.heap.size w w') : Ru w' a n cap l := by
  refine ⟨h.len, h.lt, h.nil, h.room, ?_, fun b off s e hn => (h.typ b off s e hn).same (hb.block b (h.typ b off s e hn).lt)⟩
  rcases h.cell with h0 | ⟨b, off, rfl, hc⟩
  · exact .inl h0
  · refine .inr ⟨b, off, rfl, fun i hi => ?_⟩
    have h1 := hc i hi
    rw [hb.cell (p := ⟨b, off + i, none⟩) (World.block_lt_of_cell? w _ h1)]
    exact h1

theorem Ru.at {w : World} {a : Option Addr} {n cap : Nat} {l : List Nat} (h : Ru w a n cap l) {i : Nat} (hi : i < n) : ∃ b off, a = some ⟨b, off, none⟩ ∧ w.cell? ⟨b, off + i, none⟩ = some (.int .u32 ((l.getD i 0 : Nat) : Int)) := by
  rcases h.cell with h0 | ⟨b, off, rfl, hc⟩
  · omega
  · exact ⟨b, off, rfl, hc i hi⟩
theorem Ru.word {w : World} {a : Option Addr} {n cap : Nat} {l : List Nat} (h : Ru w a n cap l) (i : Nat) : l.getD i 0 < 4294967296 := by
  by_cases hi : i < l.length
  · exact h.lt _ (by simp [List.getD, List.getElem?_eq_getElem hi])
  · simp [List.getD, List.getElem?_eq_none (show l.length ≤ i by omega)]

/-- A slice was given back that holds a number's words; what was there stands. -/
def Gives (w : World) (m : Nat) (e : Ending) (w' : World) : Prop := ∃ a n cap, e = .returned (.slice a n cap) ∧ Ru w' a n cap (dig m) ∧ Below w.heap.size w w'
theorem Gives.mk {w w' : World} {m n cap : Nat} {a : Option Addr} (h1 : Ru w' a n cap (dig m)) (h2 : Below w.heap.size w w') : Gives w m (.returned (.slice a n cap)) w' := ⟨a, n, cap, rfl, h1, h2⟩

theorem slice_top (a : Option Addr) (n cap k : Nat) (w : World) (hk : k ≤ n) (hn : n ≤ cap) (ha : a = none → cap = 0) : (Instr.slice 59 (.slice a n cap) none (some (.int .i64 (k : Int))) none).run Tryd.prog w = .ok (.slice a k cap) w := by
  have h1 : k ≤ cap := by omega
  cases a with
  | none =>
    have := ha rfl
    have : k = 0 := by omega
    subst_vars
    simp [Instr.slice, Instr.sliceBounds, Instr.sliceBound, asIntOf, run_underlying Tryd.underlying59, go_sem]
  | some x => simp [Instr.slice, Instr.sliceBounds, Instr.sliceBound, asIntOf, run_underlying Tryd.underlying59, h1, go_sem]

set_option maxHeartbeats 1000000 in
theorem trim_any (a : Option Addr) (n cap : Nat) (l : List Nat) (w : World) (h : Ru w a n cap l) (hn : n ≤ 1000) :
    Calls Tryd.prog 82 #[.slice a n cap] w fun e w' => Gives w (nv l) e w' := by
  have HR : Hid (Ru w a n cap l) := h
  clear h
  go_enter Tryd.func82, Tryd.ntmps82
  go_wp2_with fail
  go_loop [3] (fun v => ∃ k : Nat, k ≤ n ∧ v = .int .i64 k ∧ ∀ i, k ≤ i → i < n → l.getD i 0 = 0) (fun v => (intOf v).toNat)
  case atStart => exact ⟨n, Nat.le_refl _, rfl, fun i h1 h2 => by omega⟩
  case round =>
    obtain ⟨k, hk, rfl, hz⟩ := hrel
    have HZ : Hid (∀ i, k ≤ i → i < n → l.getD i 0 = 0) := hz
    clear hz
    have fin : (k = 0 ∨ l.getD (k - 1) 0 ≠ 0) → Gives w (nv l) (.returned (.slice a k cap)) w := fun hh => by
      have e := trim_dig l k HR.out.lt (by rw [HR.out.len]; exact hk) (fun i h1 h2 => HZ.out i h1 (by rw [HR.out.len] at h2; exact h2)) hh
      refine Gives.mk ?_ (Below.refl _ _)
      rw [← e]
      refine ⟨by rw [List.length_take, HR.out.len]; omega, fun x hx => HR.out.lt x (List.mem_of_mem_take hx), HR.out.nil, Nat.le_trans hk HR.out.room, ?_, fun b off s e hn => HR.out.typ b off s e (by omega)⟩
      rcases HR.out.cell with h0 | ⟨b, off, rfl, hc⟩
      · exact .inl (by omega)
      · refine .inr ⟨b, off, rfl, fun i hi => ?_⟩
        rw [hc i (by omega)]
        congr 3
        simp [List.getD, hi]
    have HF : Hid ((k = 0 ∨ l.getD (k - 1) 0 ≠ 0) → Gives w (nv l) (.returned (.slice a k cap)) w) := fin
    have hsl := slice_top a n cap k w hk HR.out.room HR.out.nil
    clear fin
    by_cases hk0 : k = 0
    · subst hk0
      go_wp2_with fail
      go_ret
      exact HF.out (.inl (by trivial))
    · obtain ⟨b, off, rfl, hc⟩ := HR.out.at (i := k - 1) (by omega)
      have e1 : (k : Int) - 1 = ((k - 1 : Nat) : Int) := by omega
      have kp : (0 : Int) < (k : Int) := by omega
      by_cases hzero : l.getD (k - 1) 0 = 0
      · rw [hzero] at hc
        have HN : Hid (∀ i, k - 1 ≤ i → i < n → l.getD i 0 = 0) := fun i h1 h2 => by
          by_cases e : i = k - 1
          · rw [e]; exact hzero
          · exact HZ.out i (by omega) h2
        clear HF hsl hzero
        have hg : k - 1 < n := by omega
        generalize hgg : k - 1 = g at *
        go_wp2_with fail
        go_round
        case rel => exact ⟨g, by omega, by go_num, HN.out⟩
        case measure => simp [intOf]; omega
      · have hb : ((((l.getD (k - 1) 0 : Nat) : Int)) == 0) = false := beq_eq_false_iff_ne.2 (by omega)
        have HH : Hid (l.getD (k - 1) 0 ≠ 0) := hzero
        clear hzero
        have hg : k - 1 < n := by omega
        generalize ((l.getD (k - 1) 0 : Nat) : Int) = y at hb hc
        generalize hgg : k - 1 = g at hc e1 hg
        go_wp2_with fail
        go_ret
        exact HF.out (.inr HH.out)

theorem ru_two (w : World) (x y : Nat) (hx : x < 4294967296) (hy : y < 4294967296) : Ru (w.alloc (.cells #[.int .u32 (x : Int), .int .u32 (y : Int)] 28)) (some ⟨w.heap.size, 0, none⟩) 2 2 [x, y] := by
  refine ⟨rfl, ?_, (fun h => by cases h), Nat.le_refl _, .inr ⟨w.heap.size, 0, rfl, fun i hi => ?_⟩, fun b off s e _ => by obtain ⟨rfl, -, -⟩ := (by simpa using e : w.heap.size = b ∧ 0 = off ∧ none = s); exact ty_new _ _⟩
  · intro z hz; simp at hz; omega
  · match i, hi with
    | 0, _ => simp
    | 1, _ => simp

theorem words_any (x : Nat) (w : World) (hx : x < 18446744073709551616) :
    Calls Tryd.prog 83 #[.int .u64 (x : Int)] w fun e w' => Gives w x e w' := by
  have h1 : x % 4294967296 < 4294967296 := Nat.mod_lt _ (by decide)
  have h2 : x / 4294967296 < 4294967296 := by omega
  have hr := ru_two w (x % 4294967296) (x / 4294967296) h1 h2
  have HV : Hid (nv [x % 4294967296, x / 4294967296] = x) := (by simp only [nv]; omega : nv [x % 4294967296, x / 4294967296] = x)
  have e1 : ((x : Nat) : Int) % 4294967296 = ((x % 4294967296 : Nat) : Int) := by omega
  have e2 : ((x : Nat) : Int) / 4294967296 = ((x / 4294967296 : Nat) : Int) := by omega
  have HR : Hid (Ru (w.alloc (.cells #[.int .u32 ((x % 4294967296 : Nat) : Int), .int .u32 ((x / 4294967296 : Nat) : Int)] 28)) (some ⟨w.heap.size, 0, none⟩) 2 2 [x % 4294967296, x / 4294967296]) := hr
  have HB : Hid (Below w.heap.size w (w.alloc (.cells #[.int .u32 ((x % 4294967296 : Nat) : Int), .int .u32 ((x / 4294967296 : Nat) : Int)] 28))) := (Below.refl _ w).alloc (Nat.le_refl _) _
  clear hr h1
  generalize x % 4294967296 = lo at *
  generalize x / 4294967296 = hi at *
  go_enter Tryd.func83, Tryd.ntmps83
  go_wp2_with fail
  refine (trim_any _ _ _ _ _ HR.out (by omega)).mono ?_
  rintro e w' ⟨a, n, cap, rfl, hr, hb⟩
  rw [HV.out] at hr
  have HG : Hid (Gives w x (.returned (.slice a n cap)) w') := Gives.mk hr (HB.out.trans (hb.mono HB.out.size))
  clear hr hb
  go_wp2_with fail
  go_ret
  exact HG.out

end Go.Proofs.YtmpjmcfgikmgnaaDoor.words
namespace Go.Proofs.YtmpjmcfgikmgnaaDoor.words
open Go.RowKit
set_option maxRecDepth 100000

/-- Every block that was there, but z, is as it was. -/
structure Ex (w w' : World) (z : Nat) : Prop where
  os : w'.os = w.os
  tape : w'.tape = w.tape
  output : w'.output = w.output
  size : w.heap.size ≤ w'.heap.size
  block : ∀ k, k < w.heap.size → k ≠ z → w'.heap[k]? = w.heap[k]?

theorem Ex.below {w0 w w' : World} {z : Nat} (hb : Below w0.heap.size w0 w) (h : Ex w w' z) (hz : w0.heap.size ≤ z) : Below w0.heap.size w0 w' :=
  hb.trans ⟨h.os, h.tape, h.output, h.size, fun k hk => h.block k (Nat.lt_of_lt_of_le hk hb.size) (by omega)⟩
theorem Ex.of {w w1 w' : World} {z : Nat} (hb : Below w.heap.size w w1) (h : Ex w1 w' z) : Ex w w' z :=
  ⟨h.os.trans hb.os, h.tape.trans hb.tape, h.output.trans hb.output, Nat.le_trans hb.size h.size, fun k hk hz => (h.block k (Nat.lt_of_lt_of_le hk hb.size) hz).trans (hb.block k hk)⟩
theorem Ex.trans {w w1 w' : World} {z : Nat} (h : Ex w w1 z) (h' : Ex w1 w' z) : Ex w w' z :=
  ⟨h'.os.trans h.os, h'.tape.trans h.tape, h'.output.trans h.output, Nat.le_trans h.size h'.size, fun k hk hz => (h'.block k (Nat.lt_of_lt_of_le hk h.size) hz).trans (h.block k hk hz)⟩

/-- Block z holds a number of any size, of whatever worth. -/
def Ob (w : World) (z : Nat) : Prop := ∃ s a n c, w.heap[z]? = some (.cells #[.bool s, .slice a n c] 61 (0, 0))
/-- Block z holds the number m, which is not below 0. -/
def Bg (w : World) (z m : Nat) : Prop := ∃ a n c, w.heap[z]? = some (.cells #[.bool false, .slice a n c] 61 (0, 0)) ∧ Ru w a n c (dig m)

theorem Bg.ob {w : World} {z m : Nat} (h : Bg w z m) : Ob w z := let ⟨a, n, c, h1, _⟩ := h; ⟨false, a, n, c, h1⟩
theorem heap_lt {w : World} {z : Nat} {o : Obj} (h : w.heap[z]? = some o) : z < w.heap.size := by
  by_cases hh : z < w.heap.size
  · exact hh
  · rw [Array.getElem?_eq_none (by omega)] at h; cases h
theorem Ob.lt {w : World} {z : Nat} (h : Ob w z) : z < w.heap.size := let ⟨_, _, _, _, h⟩ := h; heap_lt h
theorem Ob.below {w w' : World} {z : Nat} (h : Ob w z) (hb : Below w.heap.size w w') : Ob w' z := by
  have hl := h.lt
  obtain ⟨s, a, n, c, h1⟩ := h
  exact ⟨s, a, n, c, by rw [hb.block z hl]; exact h1⟩
theorem Bg.below {w w' : World} {z m : Nat} (h : Bg w z m) (hb : Below w.heap.size w w') : Bg w' z m := by
  have hl := h.ob.lt
  obtain ⟨a, n, c, h1, h2⟩ := h
  exact ⟨a, n, c, by rw [hb.block z hl]; exact h1, h2.below hb⟩

/-- Words lie in no number's own block. -/
theorem Ty.ne {w : World} {b z : Nat} (h : Ty w b) (ho : Ob w z) : b ≠ z := by
  intro e
  subst e
  obtain ⟨cs, fr, h1⟩ := h
  obtain ⟨s, a, n, c, h2⟩ := ho
  rw [h1] at h2
  simp at h2
theorem Ru.ex {w w' : World} {z : Nat} {a : Option Addr} {n cap : Nat} {l : List Nat} (h : Ru w a n cap l) (ho : Ob w z) (he : Ex w w' z) : Ru w' a n cap l := by
  refine ⟨h.len, h.lt, h.nil, h.room, ?_, fun b off s e hn => (h.typ b off s e hn).same (he.block b (h.typ b off s e hn).lt ((h.typ b off s e hn).ne ho))⟩
  rcases h.cell with h0 | ⟨b, off, rfl, hc⟩
  · exact .inl h0
  · refine .inr ⟨b, off, rfl, fun i hi => ?_⟩
    have h1 := hc i hi
    have hlt := World.block_lt_of_cell? w _ h1
    have hne : b ≠ z := by
      intro e
      subst e
      obtain ⟨s, a', n', c', h2⟩ := ho
      simp only [World.cell?, h2] at h1
      match hj : off + i, h1 with
      | 0, h1 => simp at h1
      | 1, h1 => simp at h1
      | k + 2, h1 => simp at h1
    rw [World.cell?_of_block (w := w) (a := ⟨b, off + i, none⟩) (he.block b hlt hne)]
    exact h1
theorem Bg.ex {w w' : World} {z y m : Nat} (h : Bg w y m) (ho : Ob w z) (he : Ex w w' z) (hne : y ≠ z) : Bg w' y m := by
  have hl := h.ob.lt
  obtain ⟨a, n, c, h1, h2⟩ := h
  exact ⟨a, n, c, by rw [he.block y hl hne]; exact h1, h2.ex ho he⟩

theorem ob_cells {w : World} {z : Nat} {s : Bool} {v : Value} (h : w.heap[z]? = some (.cells #[.bool s, v] 61 (0, 0))) :
    w.cell? ⟨z, 0, none⟩ = some (.bool s) ∧ w.cell? ⟨z, 1, none⟩ = some v ∧ w.frozen? ⟨z, 0, none⟩ = false ∧ w.frozen? ⟨z, 1, none⟩ = false := by
  refine ⟨?_, ?_, ?_, ?_⟩ <;> simp [World.cell?, World.frozen?, h]

theorem ob_set {w : World} {z : Nat} {s : Bool} {v : Value} (h : w.heap[z]? = some (.cells #[.bool s, v] 61 (0, 0))) (u : Value) (t : Bool) :
    ((w.setCell ⟨z, 1, none⟩ u).setCell ⟨z, 0, none⟩ (.bool t)).heap[z]? = some (.cells #[.bool t, u] 61 (0, 0)) ∧ Ex w ((w.setCell ⟨z, 1, none⟩ u).setCell ⟨z, 0, none⟩ (.bool t)) z := by
  refine ⟨by simp [World.setCell, Array.getElem?_modify, h], rfl, rfl, rfl, by simp [World.setCell], fun k _ hz => ?_⟩
  simp only [World.setCell, Array.getElem?_modify]
  rw [if_neg (fun e => hz e.symm), if_neg (fun e => hz e.symm)]

/-- A number was given back behind the pointer z. -/
def GivePost (w : World) (z : Nat) (v : Value) (e : Ending) (w' : World) : Prop :=
  e = .returned (.pointer (some ⟨z, 0, none⟩)) ∧ w'.heap[z]? = some (.cells #[.bool false, v] 61 (0, 0)) ∧ Ex w w' z

theorem give_any (z : Nat) (a : Option Addr) (n cap : Nat) (w : World) (ho : Ob w z) :
    Calls Tryd.prog 65 #[.pointer (some ⟨z, 0, none⟩), .bool false, .slice a n cap] w fun e w' => GivePost w z (.slice a n cap) e w' := by
  obtain ⟨s, a', n', c', h⟩ := ho
  obtain ⟨c0, c1, f0, f1⟩ := ob_cells h
  have hs := ob_set h (.slice a n cap) false
  have HS : Hid (((w.setCell ⟨z, 1, none⟩ (.slice a n cap)).setCell ⟨z, 0, none⟩ (.bool false)).heap[z]? = some (.cells #[.bool false, .slice a n cap] 61 (0, 0)) ∧ Ex w ((w.setCell ⟨z, 1, none⟩ (.slice a n cap)).setCell ⟨z, 0, none⟩ (.bool false)) z) := hs
  clear hs h
  go_enter Tryd.func65, Tryd.ntmps65
  go_wp2_with fail
  go_ret
  exact ⟨rfl, HS.out.1, HS.out.2⟩

theorem ob_new (w : World) : Ob (w.alloc (.cells #[.bool false, .slice none 0 0] 61)) w.heap.size := by
  refine ⟨false, none, 0, 0, ?_⟩
  show (w.heap.push _)[w.heap.size]? = _
  rw [Array.getElem?_push_size]

/-- SetInt64 of a number that is not below 0. -/
theorem setInt_any (z x : Nat) (w : World) (ho : Ob w z) (hx : x < 9223372036854775808) :
    Calls Tryd.prog 67 #[.pointer (some ⟨z, 0, none⟩), .int .i64 (x : Int)] w fun e w' => e = .returned (.pointer (some ⟨z, 0, none⟩)) ∧ Bg w' z x ∧ Ex w w' z := by
  have h0 : ¬ ((x : Nat) : Int) < 0 := by omega
  have h1 : decide (((x : Nat) : Int) < 0) = false := decide_eq_false h0
  have HO : Hid (Ob w z) := ho
  clear ho
  go_enter Tryd.func67, Tryd.ntmps67
  go_wp2_with fail
  refine (words_any x _ (by omega)).mono ?_
  rintro e w1 ⟨a, n, cap, rfl, hr, hb⟩
  have HR : Hid (Ru w1 a n cap (dig x)) := hr
  have HB : Hid (Below w.heap.size w w1) := hb
  clear hr hb
  go_wp2_with fail
  refine (give_any z a n cap _ (HO.out.below HB.out)).mono ?_
  rintro e w2 ⟨rfl, h2, hex⟩
  have HF : Hid (Bg w2 z x ∧ Ex w w2 z) := ⟨⟨a, n, cap, h2, HR.out.ex (HO.out.below HB.out) hex⟩, Ex.of HB.out hex⟩
  clear h2 hex
  go_wp2_with fail
  go_ret
  exact ⟨rfl, HF.out.1, HF.out.2⟩

/-- NewInt of a number that is not below 0: a new block. -/
def NewPost (w : World) (x : Nat) (e : Ending) (w' : World) : Prop := ∃ z, e = .returned (.pointer (some ⟨z, 0, none⟩)) ∧ w.heap.size ≤ z ∧ Bg w' z x ∧ Below w.heap.size w w'
theorem NewPost.mk {w w' : World} {x z : Nat} (h1 : w.heap.size ≤ z) (h2 : Bg w' z x) (h3 : Below w.heap.size w w') : NewPost w x (.returned (.pointer (some ⟨z, 0, none⟩))) w' := ⟨z, rfl, h1, h2, h3⟩

theorem newInt_any (x : Nat) (w : World) (hx : x < 9223372036854775808) :
    Calls Tryd.prog 34 #[.int .i64 (x : Int)] w fun e w' => NewPost w x e w' := by
  have HO : Hid (Ob (w.alloc (.cells #[.bool false, .slice none 0 0] 61)) w.heap.size) := ob_new w
  have HB : Hid (Below w.heap.size w (w.alloc (.cells #[.bool false, .slice none 0 0] 61))) := (Below.refl _ w).alloc (Nat.le_refl _) _
  go_enter Tryd.func34, Tryd.ntmps34
  go_wp2_with fail
  refine (setInt_any w.heap.size x _ HO.out hx).mono ?_
  rintro e w1 ⟨rfl, h1, h2⟩
  have HP : Hid (NewPost w x (.returned (.pointer (some ⟨w.heap.size, 0, none⟩))) w1) := NewPost.mk (Nat.le_refl _) h1 (h2.below HB.out (Nat.le_refl _))
  clear h1 h2
  go_wp2_with fail
  go_ret
  exact HP.out

end Go.Proofs.YtmpjmcfgikmgnaaDoor.words
namespace Go.Proofs.YtmpjmcfgikmgnaaDoor.words
open Go.RowKit
set_option maxRecDepth 100000

/-- The number that the first n words of f make. -/
def nf (f : Nat → Nat) : Nat → Nat
  | 0 => 0
  | n + 1 => nf f n + 4294967296 ^ n * f n
theorem nf_congr {f g : Nat → Nat} {n : Nat} (h : ∀ i, i < n → f i = g i) : nf f n = nf g n := by
  induction n with
  | zero => rfl
  | succ n ih => rw [nf, nf, ih fun i hi => h i (by omega), h n (by omega)]
theorem nf_cons (f : Nat → Nat) (n : Nat) : nf f (n + 1) = f 0 + 4294967296 * nf (fun i => f (i + 1)) n := by
  induction n with
  | zero => simp [nf]
  | succ n ih =>
    rw [nf, ih, nf, Nat.mul_add, Nat.pow_succ]
    have : 4294967296 ^ n * 4294967296 * f (n + 1) = 4294967296 * (4294967296 ^ n * f (n + 1)) := by
      rw [Nat.mul_comm (4294967296 ^ n) 4294967296, Nat.mul_assoc]
    omega
theorem nv_nf (l : List Nat) : nv l = nf (fun i => l.getD i 0) l.length := by
  induction l with
  | nil => rfl
  | cons x r ih =>
    rw [List.length_cons, nf_cons, nv, ih]
    congr 1
theorem nv_range (f : Nat → Nat) (n : Nat) : nv ((List.range n).map f) = nf f n := by
  rw [nv_nf]
  rw [List.length_map, List.length_range]
  exact nf_congr fun i hi => by simp [List.getD, hi]
theorem nf_zero {f : Nat → Nat} {n : Nat} (h : ∀ i, i < n → f i = 0) : nf f n = 0 := by
  induction n with
  | zero => rfl
  | succ n ih => rw [nf, ih fun i hi => h i (by omega), h n (by omega)]; simp
theorem nf_more {f : Nat → Nat} {m n : Nat} (hmn : m ≤ n) (h : ∀ i, m ≤ i → f i = 0) : nf f n = nf f m := by
  induction n with
  | zero => have : m = 0 := by omega
            subst this; rfl
  | succ n ih =>
    by_cases e : m = n + 1
    · subst e; rfl
    · rw [nf, h n (by omega), ih (by omega)]; simp
theorem nv_more (l : List Nat) {n : Nat} (h : l.length ≤ n) : nv l = nf (fun i => l.getD i 0) n := by
  rw [nv_nf, nf_more h]
  intro i hi
  simp [List.getD, List.getElem?_eq_none hi]

/-- Block g holds the n words f. -/
def RowU (w : World) (g n : Nat) (f : Nat → Nat) : Prop := w.heap[g]? = some (.cells ((List.range n).map fun i => Value.int .u32 ((f i : Nat) : Int)).toArray 28 (0, 0))
variable {w w' : World} {g n : Nat} {f : Nat → Nat}
theorem RowU.cell (h : RowU w g n f) {i : Nat} (hi : i < n) : w.cell? ⟨g, i, none⟩ = some (.int .u32 ((f i : Nat) : Int)) := by unfold RowU at h; simp [World.cell?, h, hi]
theorem RowU.free (h : RowU w g n f) (i : Nat) : w.frozen? ⟨g, i, none⟩ = false := by unfold RowU at h; simp [World.frozen?, h]
def updU (f : Nat → Nat) (i v : Nat) : Nat → Nat := fun k => if k = i then v else f k
theorem RowU.set (h : RowU w g n f) (i v : Nat) : RowU (w.setCell ⟨g, i, none⟩ (.int .u32 ((v : Nat) : Int))) g n (updU f i v) := by
  unfold RowU at *
  simp only [World.setCell, Array.getElem?_modify, h, if_true, Option.map_some]
  congr 2
  simp only [Option.isSome_none, Bool.false_eq_true, if_false]
  apply Array.ext'
  simp only [Array.toList_setIfInBounds]
  apply List.ext_getElem?
  intro k
  by_cases hk : k < n
  · by_cases e : k = i
    · subst e; simp [updU, hk]
    · rw [List.getElem?_set_ne (by omega)]; simp [updU, hk, e]
  · rw [List.getElem?_eq_none (by simp; omega), List.getElem?_eq_none (by simp; omega)]
theorem RowU.ru (h : RowU w g n f) (hf : ∀ i, i < n → f i < 4294967296) : Ru w (some ⟨g, 0, none⟩) n n ((List.range n).map f) := by
  refine ⟨by simp, fun x hx => ?_, (fun h => by cases h), Nat.le_refl _, .inr ⟨g, 0, rfl, fun i hi => ?_⟩, fun b off s e _ => by obtain ⟨rfl, -, -⟩ := (by simpa using e : g = b ∧ 0 = off ∧ none = s); exact ⟨_, _, h⟩⟩
  · obtain ⟨i, hi, rfl⟩ := List.mem_map.1 hx
    exact hf i (by simpa using hi)
  · rw [Nat.zero_add, h.cell hi]
    simp [List.getD, hi]

theorem rowU_made {w1 : World} {n g base : Nat} (h : w1.ownsRow base 28 1 (.slice (some ⟨g, 0, none⟩) n n) n (madeCells #[Value.int .u32 0] n).toList) : RowU w1 g n (fun _ => 0) := by
  rcases h.2 with ⟨h1, _⟩ | ⟨g', cap, cur, h1, _, h2, _, _, h3, h4⟩
  · cases h1
  · simp only [Value.slice.injEq, Option.some.injEq, Addr.mk.injEq] at h1
    obtain ⟨⟨rfl, -⟩, -, rfl⟩ := h1
    unfold RowU
    rw [h2]
    congr 2
    apply Array.ext'
    have e1 : cur.toList = (madeCells #[Value.int .u32 0] n).toList := by
      rw [← h4, List.take_of_length_le (by simp; omega)]
    rw [e1, toList_madeCells_one]
    apply List.ext_getElem?
    intro k
    by_cases hk : k < n
    · simp [hk]
    · rw [List.getElem?_eq_none (by simp; omega), List.getElem?_eq_none (by simp; omega)]

theorem info_u32 : (Tryd.prog.info? 28).map (fun i => (i.zero, i.size, i.bytes)) = some (some (.int .u32 0), 1, 4) := by kernel_rfl

/-- One word more of a sum. -/
theorem add_step {S A B P c x y : Nat} (h : S + P * c = A + B) : S + P * ((c + x + y) % 4294967296) + P * 4294967296 * ((c + x + y) / 4294967296) = (A + P * x) + (B + P * y) := by
  have e : (c + x + y) % 4294967296 + 4294967296 * ((c + x + y) / 4294967296) = c + x + y := by omega
  have e2 : P * ((c + x + y) % 4294967296) + P * 4294967296 * ((c + x + y) / 4294967296) = P * c + P * x + P * y := by
    rw [Nat.mul_assoc, ← Nat.mul_add, e, Nat.mul_add, Nat.mul_add]
  omega

end Go.Proofs.YtmpjmcfgikmgnaaDoor.words
namespace Go.Proofs.YtmpjmcfgikmgnaaDoor.words
open Go.RowKit
set_option maxRecDepth 100000

set_option maxHeartbeats 2000000 in
theorem add_ge (a b : Option Addr) (n k ca cb : Nat) (la lb : List Nat) (w : World) (ha : Ru w a n ca la) (hbb : Ru w b k cb lb) (hkn : k ≤ n) (hn : n ≤ 100) :
    Calls Tryd.prog 84 #[.slice a n ca, .slice b k cb] w fun e w' => Gives w (nv la + nv lb) e w' := by
  obtain ⟨i0, hi, hz0, hz1, hz2⟩ := info_parts info_u32
  have HA : Hid (Ru w a n ca la) := ha
  have HBB : Hid (Ru w b k cb lb) := hbb
  have hsw : ¬ (n : Int) < (k : Int) := by omega
  clear ha hbb
  go_enter Tryd.func84, Tryd.ntmps84
  go_wp2_with (first
    | (at_make; refine wpList_make_full _ rfl _ _ 59 rfl w.heap.size 28 i0 (.int .u32 0) 1 Tryd.underlying59 hi hz0 hz1 _ _ _ _ (n + 1) rfl rfl ?c0 ?c1 ?c2 ?c3 ?c4 ?_))
  try (case c0 => first | rfl | (congr 1; omega))
  try (case c1 => first | rfl | (congr 1; omega))
  case c2 => first | omega | (rw [hz2]; omega)
  case c3 => unfold maxLen; omega
  try (case c4 => simp)
  intro w1 hown hgr
  have HR1 : Hid (RowU w1 w.heap.size (n + 1) (fun _ => 0)) := rowU_made hown
  have HB1 : Hid (Below w.heap.size w w1) := (Below.refl _ _).grown hgr (Nat.le_refl _) (fun k hk => by cases hk)
  clear hown hgr hi hz0 hz1 hz2
  go_wp2_with fail
  go_loopw [6, 7] (fun cv iv wr => ∃ (i c : Nat) (f : Nat → Nat), i ≤ n ∧ iv = .int .i64 i ∧ cv = .int .u64 c ∧ c ≤ 2 ∧ RowU wr w.heap.size (n + 1) f ∧ (∀ j, j < n + 1 → f j < 4294967296) ∧ Below w.heap.size w wr ∧ nf f i + 4294967296 ^ i * c = nf (fun j => la.getD j 0) i + nf (fun j => lb.getD j 0) i) (fun _ iv _ => n - (intOf iv).toNat)
  case atStart => exact ⟨0, 0, fun _ => 0, Nat.zero_le _, rfl, rfl, by omega, HR1.out, fun _ _ => (by decide : 0 < 4294967296), HB1.out, rfl⟩
  case round =>
    obtain ⟨i, c, f, hin, rfl, rfl, hc2, hrow, hfb, hb, heq⟩ := hrel
    by_cases hlt : i < n
    · obtain ⟨ba, oa, rfl, hca⟩ := (HA.out.below hb).at hlt
      have r0 := hrow.cell (i := i) (by omega)
      have f0 := hrow.free i
      obtain ⟨fi, hfi⟩ : ∃ fi : Int, ((f i : Nat) : Int) = fi := ⟨_, rfl⟩
      rw [hfi] at r0
      clear hfi
      by_cases hik : i < k
      · have hx := HA.out.word i
        obtain ⟨bb, ob, rfl, hcb⟩ := (HBB.out.below hb).at hik
        have hy := HBB.out.word i
        have hst := add_step (S := nf f i) (A := nf (fun j => la.getD j 0) i) (B := nf (fun j => lb.getD j 0) i) (P := 4294967296 ^ i) (c := c) (x := la.getD i 0) (y := lb.getD i 0) heq
        obtain ⟨x, hxx⟩ : ∃ x, la.getD i 0 = x := ⟨_, rfl⟩
        have HX : Hid (la.getD i 0 = x) := hxx
        rw [hxx] at hx hst hca
        clear hxx
        obtain ⟨y, hyy⟩ : ∃ y, lb.getD i 0 = y := ⟨_, rfl⟩
        have HY : Hid (lb.getD i 0 = y) := hyy
        rw [hyy] at hy hst hcb
        clear hyy
        have e0 : (c : Int) + (x : Int) + (y : Int) = ((c + x + y : Nat) : Int) := by omega
        have HV : Hid (c + x + y < 8589934600) := (by omega : c + x + y < 8589934600)
        generalize hq : c + x + y = q at *
        have hqb : (q : Int) < 8589934600 := by have := HV.out; omega
        have e1 : ((q : Nat) : Int) % 4294967296 = ((q % 4294967296 : Nat) : Int) := by omega
        have e2 : ((q : Nat) : Int) / 4294967296 = ((q / 4294967296 : Nat) : Int) := by omega
        have HN : Hid (RowU (wr.setCell ⟨w.heap.size, i, none⟩ (.int .u32 ((q % 4294967296 : Nat) : Int))) w.heap.size (n + 1) (updU f i (q % 4294967296))) := hrow.set _ _
        have HBN : Hid (Below w.heap.size w (wr.setCell ⟨w.heap.size, i, none⟩ (.int .u32 ((q % 4294967296 : Nat) : Int)))) := below_set hb _ _ _ (Nat.le_refl _)
        have HF : Hid (∀ j, j < n + 1 → updU f i (q % 4294967296) j < 4294967296) := fun j hj => by
          unfold updU
          split
          · omega
          · exact hfb j hj
        have HC : Hid (q / 4294967296 ≤ 2) := by
          have := HV.out
          exact (by omega : q / 4294967296 ≤ 2)
        have HE : Hid (nf (updU f i (q % 4294967296)) (i + 1) + 4294967296 ^ (i + 1) * (q / 4294967296) = nf (fun j => la.getD j 0) (i + 1) + nf (fun j => lb.getD j 0) (i + 1)) := by
          have e3 : nf (updU f i (q % 4294967296)) i = nf f i := nf_congr fun j hj => by unfold updU; rw [if_neg (by omega)]
          have e4 : updU f i (q % 4294967296) i = q % 4294967296 := by unfold updU; rw [if_pos rfl]
          have goal : nf (updU f i (q % 4294967296)) (i + 1) + 4294967296 ^ (i + 1) * (q / 4294967296) = nf (fun j => la.getD j 0) (i + 1) + nf (fun j => lb.getD j 0) (i + 1) := by
            rw [nf, nf, nf, e3, e4, Nat.pow_succ]
            have hX : la.getD i 0 = x := HX.out
            have hY : lb.getD i 0 = y := HY.out
            rw [hX, hY]
            exact hst
          exact goal
        clear hst heq hfb HX HY
        generalize q % 4294967296 = u at *
        generalize hqq : q / 4294967296 = c2 at *
        clear hqq
        go_wp2_with fail
        go_roundw
        case rel => exact ⟨i + 1, c2, _, by omega, by go_num, rfl, HC.out, HN.out, HF.out, HBN.out, HE.out⟩
        case measure => simp [intOf]; omega
      · have hx := HA.out.word i
        have hy0 : lb.getD i 0 = 0 := by simp [List.getD, List.getElem?_eq_none (show lb.length ≤ i by rw [HBB.out.len]; omega)]
        have hst := add_step (S := nf f i) (A := nf (fun j => la.getD j 0) i) (B := nf (fun j => lb.getD j 0) i) (P := 4294967296 ^ i) (c := c) (x := la.getD i 0) (y := 0) heq
        rw [Nat.add_zero] at hst
        obtain ⟨x, hxx⟩ : ∃ x, la.getD i 0 = x := ⟨_, rfl⟩
        have HX : Hid (la.getD i 0 = x) := hxx
        have HY : Hid (lb.getD i 0 = 0) := hy0
        rw [hxx] at hx hst hca
        clear hxx hy0
        have e0 : (c : Int) + (x : Int) = ((c + x : Nat) : Int) := by omega
        have HV : Hid (c + x < 8589934600) := (by omega : c + x < 8589934600)
        generalize hq : c + x = q at *
        have hqb : (q : Int) < 8589934600 := by have := HV.out; omega
        have e1 : ((q : Nat) : Int) % 4294967296 = ((q % 4294967296 : Nat) : Int) := by omega
        have e2 : ((q : Nat) : Int) / 4294967296 = ((q / 4294967296 : Nat) : Int) := by omega
        have HN : Hid (RowU (wr.setCell ⟨w.heap.size, i, none⟩ (.int .u32 ((q % 4294967296 : Nat) : Int))) w.heap.size (n + 1) (updU f i (q % 4294967296))) := hrow.set _ _
        have HBN : Hid (Below w.heap.size w (wr.setCell ⟨w.heap.size, i, none⟩ (.int .u32 ((q % 4294967296 : Nat) : Int)))) := below_set hb _ _ _ (Nat.le_refl _)
        have HF : Hid (∀ j, j < n + 1 → updU f i (q % 4294967296) j < 4294967296) := fun j hj => by
          unfold updU
          split
          · omega
          · exact hfb j hj
        have HC : Hid (q / 4294967296 ≤ 2) := by
          have := HV.out
          exact (by omega : q / 4294967296 ≤ 2)
        have HE : Hid (nf (updU f i (q % 4294967296)) (i + 1) + 4294967296 ^ (i + 1) * (q / 4294967296) = nf (fun j => la.getD j 0) (i + 1) + nf (fun j => lb.getD j 0) (i + 1)) := by
          have e3 : nf (updU f i (q % 4294967296)) i = nf f i := nf_congr fun j hj => by unfold updU; rw [if_neg (by omega)]
          have e4 : updU f i (q % 4294967296) i = q % 4294967296 := by unfold updU; rw [if_pos rfl]
          have goal : nf (updU f i (q % 4294967296)) (i + 1) + 4294967296 ^ (i + 1) * (q / 4294967296) = nf (fun j => la.getD j 0) (i + 1) + nf (fun j => lb.getD j 0) (i + 1) := by
            rw [nf, nf, nf, e3, e4, Nat.pow_succ]
            have hX : la.getD i 0 = x := HX.out
            have hY : lb.getD i 0 = 0 := HY.out
            rw [hX, hY]
            exact hst
          exact goal
        clear hst heq hfb HX HY
        generalize q % 4294967296 = u at *
        generalize hqq : q / 4294967296 = c2 at *
        clear hqq
        go_wp2_with fail
        go_roundw
        case rel => exact ⟨i + 1, c2, _, by omega, by go_num, rfl, HC.out, HN.out, HF.out, HBN.out, HE.out⟩
        case measure => simp [intOf]; omega
    · obtain rfl : i = n := by omega
      have hvb : c < 4294967296 := by omega
      have r0 := hrow.cell (i := i) (by omega)
      have f0 := hrow.free i
      obtain ⟨fi, hfi⟩ : ∃ fi : Int, ((f i : Nat) : Int) = fi := ⟨_, rfl⟩
      rw [hfi] at r0
      clear hfi
      have e1 : ((c : Nat) : Int) % 4294967296 = ((c : Nat) : Int) := by omega
      have HN : Hid (RowU (wr.setCell ⟨w.heap.size, i, none⟩ (.int .u32 ((c : Nat) : Int))) w.heap.size (i + 1) (updU f i c)) := hrow.set _ _
      have HBN : Hid (Below w.heap.size w (wr.setCell ⟨w.heap.size, i, none⟩ (.int .u32 ((c : Nat) : Int)))) := below_set hb _ _ _ (Nat.le_refl _)
      have HF : Hid (∀ j, j < i + 1 → updU f i c j < 4294967296) := fun j hj => by
        unfold updU
        split
        · omega
        · exact hfb j hj
      have HE : Hid (nv ((List.range (i + 1)).map (updU f i c)) = nv la + nv lb) := by
        have e3 : nf (updU f i c) i = nf f i := nf_congr fun j hj => by unfold updU; rw [if_neg (by omega)]
        have e4 : updU f i c i = c := by unfold updU; rw [if_pos rfl]
        have goal : nv ((List.range (i + 1)).map (updU f i c)) = nv la + nv lb := by
          rw [nv_range, nf, e3, e4, heq, ← nv_more la (by rw [HA.out.len]; exact Nat.le_refl _), ← nv_more lb (by rw [HBB.out.len]; omega)]
        exact goal
      clear hrow hfb hb heq hlt
      go_wp2_with fail
      refine (trim_any _ _ _ _ _ (HN.out.ru HF.out) (by omega)).mono ?_
      rintro e w3 ⟨a3, n3, c3, rfl, hr3, hb3⟩
      rw [HE.out] at hr3
      have HG : Hid (Gives w (nv la + nv lb) (.returned (.slice a3 n3 c3)) w3) := Gives.mk hr3 (HBN.out.trans (hb3.mono HBN.out.size))
      clear hr3 hb3
      go_wp2_with fail
      go_ret
      exact HG.out

set_option maxHeartbeats 2000000 in
theorem add_lt (a b : Option Addr) (n k ca cb : Nat) (la lb : List Nat) (w : World) (ha : Ru w a n ca la) (hbb : Ru w b k cb lb) (hkn : k < n) (hn : n ≤ 100) :
    Calls Tryd.prog 84 #[.slice b k cb, .slice a n ca] w fun e w' => Gives w (nv la + nv lb) e w' := by
  obtain ⟨i0, hi, hz0, hz1, hz2⟩ := info_parts info_u32
  have HA : Hid (Ru w a n ca la) := ha
  have HBB : Hid (Ru w b k cb lb) := hbb
  have hsw : (k : Int) < (n : Int) := by omega
  clear ha hbb
  go_enter Tryd.func84, Tryd.ntmps84
  go_wp2_with (first
    | (at_make; refine wpList_make_full _ rfl _ _ 59 rfl w.heap.size 28 i0 (.int .u32 0) 1 Tryd.underlying59 hi hz0 hz1 _ _ _ _ (n + 1) rfl rfl ?c0 ?c1 ?c2 ?c3 ?c4 ?_))
  try (case c0 => first | rfl | (congr 1; omega))
  try (case c1 => first | rfl | (congr 1; omega))
  case c2 => first | omega | (rw [hz2]; omega)
  case c3 => unfold maxLen; omega
  try (case c4 => simp)
  intro w1 hown hgr
  have HR1 : Hid (RowU w1 w.heap.size (n + 1) (fun _ => 0)) := rowU_made hown
  have HB1 : Hid (Below w.heap.size w w1) := (Below.refl _ _).grown hgr (Nat.le_refl _) (fun k hk => by cases hk)
  clear hown hgr hi hz0 hz1 hz2
  go_wp2_with fail
  go_loopw [6, 7] (fun cv iv wr => ∃ (i c : Nat) (f : Nat → Nat), i ≤ n ∧ iv = .int .i64 i ∧ cv = .int .u64 c ∧ c ≤ 2 ∧ RowU wr w.heap.size (n + 1) f ∧ (∀ j, j < n + 1 → f j < 4294967296) ∧ Below w.heap.size w wr ∧ nf f i + 4294967296 ^ i * c = nf (fun j => la.getD j 0) i + nf (fun j => lb.getD j 0) i) (fun _ iv _ => n - (intOf iv).toNat)
  case atStart => exact ⟨0, 0, fun _ => 0, Nat.zero_le _, rfl, rfl, by omega, HR1.out, fun _ _ => (by decide : 0 < 4294967296), HB1.out, rfl⟩
  case round =>
    obtain ⟨i, c, f, hin, rfl, rfl, hc2, hrow, hfb, hb, heq⟩ := hrel
    by_cases hlt : i < n
    · obtain ⟨ba, oa, rfl, hca⟩ := (HA.out.below hb).at hlt
      have r0 := hrow.cell (i := i) (by omega)
      have f0 := hrow.free i
      obtain ⟨fi, hfi⟩ : ∃ fi : Int, ((f i : Nat) : Int) = fi := ⟨_, rfl⟩
      rw [hfi] at r0
      clear hfi
      by_cases hik : i < k
      · have hx := HA.out.word i
        obtain ⟨bb, ob, rfl, hcb⟩ := (HBB.out.below hb).at hik
        have hy := HBB.out.word i
        have hst := add_step (S := nf f i) (A := nf (fun j => la.getD j 0) i) (B := nf (fun j => lb.getD j 0) i) (P := 4294967296 ^ i) (c := c) (x := la.getD i 0) (y := lb.getD i 0) heq
        obtain ⟨x, hxx⟩ : ∃ x, la.getD i 0 = x := ⟨_, rfl⟩
        have HX : Hid (la.getD i 0 = x) := hxx
        rw [hxx] at hx hst hca
        clear hxx
        obtain ⟨y, hyy⟩ : ∃ y, lb.getD i 0 = y := ⟨_, rfl⟩
        have HY : Hid (lb.getD i 0 = y) := hyy
        rw [hyy] at hy hst hcb
        clear hyy
        have e0 : (c : Int) + (x : Int) + (y : Int) = ((c + x + y : Nat) : Int) := by omega
        have HV : Hid (c + x + y < 8589934600) := (by omega : c + x + y < 8589934600)
        generalize hq : c + x + y = q at *
        have hqb : (q : Int) < 8589934600 := by have := HV.out; omega
        have e1 : ((q : Nat) : Int) % 4294967296 = ((q % 4294967296 : Nat) : Int) := by omega
        have e2 : ((q : Nat) : Int) / 4294967296 = ((q / 4294967296 : Nat) : Int) := by omega
        have HN : Hid (RowU (wr.setCell ⟨w.heap.size, i, none⟩ (.int .u32 ((q % 4294967296 : Nat) : Int))) w.heap.size (n + 1) (updU f i (q % 4294967296))) := hrow.set _ _
        have HBN : Hid (Below w.heap.size w (wr.setCell ⟨w.heap.size, i, none⟩ (.int .u32 ((q % 4294967296 : Nat) : Int)))) := below_set hb _ _ _ (Nat.le_refl _)
        have HF : Hid (∀ j, j < n + 1 → updU f i (q % 4294967296) j < 4294967296) := fun j hj => by
          unfold updU
          split
          · omega
          · exact hfb j hj
        have HC : Hid (q / 4294967296 ≤ 2) := by
          have := HV.out
          exact (by omega : q / 4294967296 ≤ 2)
        have HE : Hid (nf (updU f i (q % 4294967296)) (i + 1) + 4294967296 ^ (i + 1) * (q / 4294967296) = nf (fun j => la.getD j 0) (i + 1) + nf (fun j => lb.getD j 0) (i + 1)) := by
          have e3 : nf (updU f i (q % 4294967296)) i = nf f i := nf_congr fun j hj => by unfold updU; rw [if_neg (by omega)]
          have e4 : updU f i (q % 4294967296) i = q % 4294967296 := by unfold updU; rw [if_pos rfl]
          have goal : nf (updU f i (q % 4294967296)) (i + 1) + 4294967296 ^ (i + 1) * (q / 4294967296) = nf (fun j => la.getD j 0) (i + 1) + nf (fun j => lb.getD j 0) (i + 1) := by
            rw [nf, nf, nf, e3, e4, Nat.pow_succ]
            have hX : la.getD i 0 = x := HX.out
            have hY : lb.getD i 0 = y := HY.out
            rw [hX, hY]
            exact hst
          exact goal
        clear hst heq hfb HX HY
        generalize q % 4294967296 = u at *
        generalize hqq : q / 4294967296 = c2 at *
        clear hqq
        go_wp2_with fail
        go_roundw
        case rel => exact ⟨i + 1, c2, _, by omega, by go_num, rfl, HC.out, HN.out, HF.out, HBN.out, HE.out⟩
        case measure => simp [intOf]; omega
      · have hx := HA.out.word i
        have hy0 : lb.getD i 0 = 0 := by simp [List.getD, List.getElem?_eq_none (show lb.length ≤ i by rw [HBB.out.len]; omega)]
        have hst := add_step (S := nf f i) (A := nf (fun j => la.getD j 0) i) (B := nf (fun j => lb.getD j 0) i) (P := 4294967296 ^ i) (c := c) (x := la.getD i 0) (y := 0) heq
        rw [Nat.add_zero] at hst
        obtain ⟨x, hxx⟩ : ∃ x, la.getD i 0 = x := ⟨_, rfl⟩
        have HX : Hid (la.getD i 0 = x) := hxx
        have HY : Hid (lb.getD i 0 = 0) := hy0
        rw [hxx] at hx hst hca
        clear hxx hy0
        have e0 : (c : Int) + (x : Int) = ((c + x : Nat) : Int) := by omega
        have HV : Hid (c + x < 8589934600) := (by omega : c + x < 8589934600)
        generalize hq : c + x = q at *
        have hqb : (q : Int) < 8589934600 := by have := HV.out; omega
        have e1 : ((q : Nat) : Int) % 4294967296 = ((q % 4294967296 : Nat) : Int) := by omega
        have e2 : ((q : Nat) : Int) / 4294967296 = ((q / 4294967296 : Nat) : Int) := by omega
        have HN : Hid (RowU (wr.setCell ⟨w.heap.size, i, none⟩ (.int .u32 ((q % 4294967296 : Nat) : Int))) w.heap.size (n + 1) (updU f i (q % 4294967296))) := hrow.set _ _
        have HBN : Hid (Below w.heap.size w (wr.setCell ⟨w.heap.size, i, none⟩ (.int .u32 ((q % 4294967296 : Nat) : Int)))) := below_set hb _ _ _ (Nat.le_refl _)
        have HF : Hid (∀ j, j < n + 1 → updU f i (q % 4294967296) j < 4294967296) := fun j hj => by
          unfold updU
          split
          · omega
          · exact hfb j hj
        have HC : Hid (q / 4294967296 ≤ 2) := by
          have := HV.out
          exact (by omega : q / 4294967296 ≤ 2)
        have HE : Hid (nf (updU f i (q % 4294967296)) (i + 1) + 4294967296 ^ (i + 1) * (q / 4294967296) = nf (fun j => la.getD j 0) (i + 1) + nf (fun j => lb.getD j 0) (i + 1)) := by
          have e3 : nf (updU f i (q % 4294967296)) i = nf f i := nf_congr fun j hj => by unfold updU; rw [if_neg (by omega)]
          have e4 : updU f i (q % 4294967296) i = q % 4294967296 := by unfold updU; rw [if_pos rfl]
          have goal : nf (updU f i (q % 4294967296)) (i + 1) + 4294967296 ^ (i + 1) * (q / 4294967296) = nf (fun j => la.getD j 0) (i + 1) + nf (fun j => lb.getD j 0) (i + 1) := by
            rw [nf, nf, nf, e3, e4, Nat.pow_succ]
            have hX : la.getD i 0 = x := HX.out
            have hY : lb.getD i 0 = 0 := HY.out
            rw [hX, hY]
            exact hst
          exact goal
        clear hst heq hfb HX HY
        generalize q % 4294967296 = u at *
        generalize hqq : q / 4294967296 = c2 at *
        clear hqq
        go_wp2_with fail
        go_roundw
        case rel => exact ⟨i + 1, c2, _, by omega, by go_num, rfl, HC.out, HN.out, HF.out, HBN.out, HE.out⟩
        case measure => simp [intOf]; omega
    · obtain rfl : i = n := by omega
      have hvb : c < 4294967296 := by omega
      have r0 := hrow.cell (i := i) (by omega)
      have f0 := hrow.free i
      obtain ⟨fi, hfi⟩ : ∃ fi : Int, ((f i : Nat) : Int) = fi := ⟨_, rfl⟩
      rw [hfi] at r0
      clear hfi
      have e1 : ((c : Nat) : Int) % 4294967296 = ((c : Nat) : Int) := by omega
      have HN : Hid (RowU (wr.setCell ⟨w.heap.size, i, none⟩ (.int .u32 ((c : Nat) : Int))) w.heap.size (i + 1) (updU f i c)) := hrow.set _ _
      have HBN : Hid (Below w.heap.size w (wr.setCell ⟨w.heap.size, i, none⟩ (.int .u32 ((c : Nat) : Int)))) := below_set hb _ _ _ (Nat.le_refl _)
      have HF : Hid (∀ j, j < i + 1 → updU f i c j < 4294967296) := fun j hj => by
        unfold updU
        split
        · omega
        · exact hfb j hj
      have HE : Hid (nv ((List.range (i + 1)).map (updU f i c)) = nv la + nv lb) := by
        have e3 : nf (updU f i c) i = nf f i := nf_congr fun j hj => by unfold updU; rw [if_neg (by omega)]
        have e4 : updU f i c i = c := by unfold updU; rw [if_pos rfl]
        have goal : nv ((List.range (i + 1)).map (updU f i c)) = nv la + nv lb := by
          rw [nv_range, nf, e3, e4, heq, ← nv_more la (by rw [HA.out.len]; exact Nat.le_refl _), ← nv_more lb (by rw [HBB.out.len]; omega)]
        exact goal
      clear hrow hfb hb heq hlt
      go_wp2_with fail
      refine (trim_any _ _ _ _ _ (HN.out.ru HF.out) (by omega)).mono ?_
      rintro e w3 ⟨a3, n3, c3, rfl, hr3, hb3⟩
      rw [HE.out] at hr3
      have HG : Hid (Gives w (nv la + nv lb) (.returned (.slice a3 n3 c3)) w3) := Gives.mk hr3 (HBN.out.trans (hb3.mono HBN.out.size))
      clear hr3 hb3
      go_wp2_with fail
      go_ret
      exact HG.out

theorem add_any (a b : Option Addr) (n k ca cb : Nat) (la lb : List Nat) (w : World) (ha : Ru w a n ca la) (hb : Ru w b k cb lb) (hn : n ≤ 100) (hk : k ≤ 100) :
    Calls Tryd.prog 84 #[.slice a n ca, .slice b k cb] w fun e w' => Gives w (nv la + nv lb) e w' := by
  by_cases h : k ≤ n
  · exact add_ge a b n k ca cb la lb w ha hb h hn
  · rw [Nat.add_comm]
    exact add_lt b a k n cb ca lb la w hb ha (by omega) hk

end Go.Proofs.YtmpjmcfgikmgnaaDoor.words
namespace Go.Proofs.YtmpjmcfgikmgnaaDoor.words
open Go.RowKit
set_option maxRecDepth 100000

theorem nf_upd (f : Nat → Nat) (i v : Nat) : ∀ n : Nat, i < n → nf (updU f i v) n + 4294967296 ^ i * f i = nf f n + 4294967296 ^ i * v
  | 0, h => by omega
  | n + 1, h => by
    rw [nf, nf]
    by_cases e : i = n
    · subst e
      have e1 : nf (updU f i v) i = nf f i := nf_congr fun j hj => by unfold updU; rw [if_neg (by omega)]
      have e2 : updU f i v i = v := by unfold updU; rw [if_pos rfl]
      rw [e1, e2]; omega
    · have := nf_upd f i v n (by omega)
      have e2 : updU f i v n = f n := by unfold updU; rw [if_neg (by omega)]
      rw [e2]; omega

theorem mul_step {F F2 N Q R c u x y Y q : Nat} (h : F + Q * R * c = N + Q * (x * Y)) (hq : q = c + (x * y + u)) (hu : F2 + Q * R * u = F + Q * R * (q % 4294967296)) :
    F2 + Q * R * 4294967296 * (q / 4294967296) = N + Q * (x * (Y + R * y)) := by
  have e : q % 4294967296 + 4294967296 * (q / 4294967296) = q := by omega
  have e2 : Q * R * (q % 4294967296) + Q * R * 4294967296 * (q / 4294967296) = Q * R * c + Q * R * (x * y) + Q * R * u := by
    rw [Nat.mul_assoc (Q * R), ← Nat.mul_add, e, hq, Nat.mul_add, Nat.mul_add]; omega
  have e3 : Q * (x * (Y + R * y)) = Q * (x * Y) + Q * R * (x * y) := by
    rw [Nat.mul_add, Nat.mul_add, Nat.mul_assoc Q R, Nat.mul_left_comm x R y]
  rw [e3]
  omega

theorem word_mul {x y : Nat} (hx : x < 4294967296) (hy : y < 4294967296) : x * y ≤ 18446744065119617025 := by
  have : x * y ≤ 4294967295 * 4294967295 := Nat.mul_le_mul (by omega) (by omega)
  omega

set_option maxHeartbeats 4000000 in
theorem mul_some (a b : Option Addr) (n k ca cb : Nat) (la lb : List Nat) (w : World) (ha : Ru w a n ca la) (hbb : Ru w b k cb lb) (n0 : 0 < n) (k0 : 0 < k) (hn : n ≤ 100) (hk : k ≤ 100) :
    Calls Tryd.prog 66 #[.slice a n ca, .slice b k cb] w fun e w' => Gives w (nv la * nv lb) e w' := by
  obtain ⟨i0, hi, hz0, hz1, hz2⟩ := info_parts info_u32
  have HA : Hid (Ru w a n ca la) := ha
  have HBB : Hid (Ru w b k cb lb) := hbb
  have z1 : ((n : Int) == 0) = false := beq_eq_false_iff_ne.2 (by omega)
  have z2 : ((k : Int) == 0) = false := beq_eq_false_iff_ne.2 (by omega)
  clear ha hbb
  go_enter Tryd.func66, Tryd.ntmps66
  go_wp2_with (first
    | (at_make; refine wpList_make_full _ rfl _ _ 59 rfl w.heap.size 28 i0 (.int .u32 0) 1 Tryd.underlying59 hi hz0 hz1 _ _ _ _ (n + k) rfl rfl ?c0 ?c1 ?c2 ?c3 ?c4 ?_))
  try (case c0 => first | rfl | (congr 1; omega))
  try (case c1 => first | rfl | (congr 1; omega))
  case c2 => first | omega | (rw [hz2]; omega)
  case c3 => unfold maxLen; omega
  try (case c4 => simp)
  intro w1 hown hgr
  have HR1 : Hid (RowU w1 w.heap.size (n + k) (fun _ => 0)) := rowU_made hown
  have HB1 : Hid (Below w.heap.size w w1) := (Below.refl _ _).grown hgr (Nat.le_refl _) (fun k hk => by cases hk)
  clear hown hgr hi hz0 hz1 hz2
  go_wp2_with fail
  go_loopw [6] (fun iv wr => ∃ (i : Nat) (f : Nat → Nat), i ≤ n ∧ iv = .int .i64 i ∧ RowU wr w.heap.size (n + k) f ∧ (∀ j, j < n + k → f j < 4294967296) ∧ Below w.heap.size w wr ∧ nf f (i + k) = nf (fun j => la.getD j 0) i * nv lb) (fun iv _ => n - (intOf iv).toNat)
  case atStart => exact ⟨0, fun _ => 0, Nat.zero_le _, rfl, HR1.out, fun _ _ => (by decide : 0 < 4294967296), HB1.out, by rw [nf_zero fun _ _ => rfl, nf, Nat.zero_mul]⟩
  case round =>
    obtain ⟨i, f, hin, rfl, hrow, hfb, hb, heq⟩ := hrel
    by_cases hlt : i < n
    · obtain ⟨x, hxx⟩ : ∃ x, la.getD i 0 = x := ⟨_, rfl⟩
      have hx : x < 4294967296 := by rw [← hxx]; exact HA.out.word i
      have HX : Hid (la.getD i 0 = x) := hxx
      have HAC : Hid (∀ wr, Below w.heap.size w wr → ∃ ba oa, a = some ⟨ba, oa, none⟩ ∧ wr.cell? ⟨ba, oa + i, none⟩ = some (.int .u32 (x : Int))) := fun wr hb => by
        obtain ⟨ba, oa, e, hc⟩ := (HA.out.below hb).at hlt
        rw [hxx] at hc
        exact ⟨ba, oa, e, hc⟩
      have HQ : Hid (nf f (i + k) = nf (fun j => la.getD j 0) i * nv lb) := heq
      have HRW : Hid (RowU wr w.heap.size (n + k) f ∧ (∀ j, j < n + k → f j < 4294967296) ∧ Below w.heap.size w wr) := ⟨hrow, hfb, hb⟩
      clear hxx hrow hfb hb heq
      go_wp2_with fail
      go_loopw [7, 8] (fun cv jv wr => ∃ (j c : Nat) (h : Nat → Nat), j ≤ k ∧ jv = .int .i64 j ∧ cv = .int .u64 c ∧ c < 4294967296 ∧ RowU wr w.heap.size (n + k) h ∧ (∀ t, t < n + k → h t < 4294967296) ∧ Below w.heap.size w wr ∧
        nf h (i + k) + 4294967296 ^ i * 4294967296 ^ j * c = nf (fun j => la.getD j 0) i * nv lb + 4294967296 ^ i * (x * nf (fun j => lb.getD j 0) j)) (fun _ jv _ => k - (intOf jv).toNat)
      case atStart => exact ⟨0, 0, f, Nat.zero_le _, rfl, rfl, by omega, HRW.out.1, HRW.out.2.1, HRW.out.2.2, by rw [HQ.out]; simp [nf]⟩
      case round =>
        obtain ⟨j, c, h, hjk, rfl, rfl, hc, hrow, hfb, hb, heq⟩ := hrel
        by_cases hlj : j < k
        · obtain ⟨ba, oa, rfl, hca⟩ := HAC.out _ hb
          obtain ⟨bb, ob, rfl, hcb⟩ := (HBB.out.below hb).at hlj
          obtain ⟨y, hyy⟩ : ∃ y, lb.getD j 0 = y := ⟨_, rfl⟩
          have hy : y < 4294967296 := by rw [← hyy]; exact HBB.out.word j
          have HY : Hid (lb.getD j 0 = y) := hyy
          rw [hyy] at hcb
          obtain ⟨u, huu⟩ : ∃ u, h (i + j) = u := ⟨_, rfl⟩
          have hu : u < 4294967296 := by rw [← huu]; exact hfb _ (by omega)
          have r0 := hrow.cell (i := i + j) (by omega)
          have f0 := hrow.free (i + j)
          rw [huu] at r0
          have hxy := word_mul hx hy
          have e0 : (c : Int) + ((x : Int) * (y : Int) + (u : Int)) = ((c + (x * y + u) : Nat) : Int) := by rw [Int.natCast_add, Int.natCast_add, Int.natCast_mul]
          have p1 : 0 ≤ (x : Int) * (y : Int) := Int.mul_nonneg (by omega) (by omega)
          have p2 : (x : Int) * (y : Int) ≤ 18446744065119617025 := by rw [← Int.natCast_mul]; omega
          have hqb : c + (x * y + u) < 18446744073709551616 := by omega
          have hup := nf_upd h (i + j) ((c + (x * y + u)) % 4294967296) (i + k) (by omega)
          rw [huu, Nat.pow_add] at hup
          have hst := mul_step heq rfl hup
          generalize hqq : c + (x * y + u) = q at *
          have HNX : Hid (nf (updU h (i + j) (q % 4294967296)) (i + k) + 4294967296 ^ i * 4294967296 ^ (j + 1) * (q / 4294967296) = nf (fun j => la.getD j 0) i * nv lb + 4294967296 ^ i * (x * nf (fun j => lb.getD j 0) (j + 1))) := by
            have goal : nf (updU h (i + j) (q % 4294967296)) (i + k) + 4294967296 ^ i * 4294967296 ^ (j + 1) * (q / 4294967296) = nf (fun j => la.getD j 0) i * nv lb + 4294967296 ^ i * (x * nf (fun j => lb.getD j 0) (j + 1)) := by
              rw [nf, Nat.pow_succ, ← Nat.mul_assoc (4294967296 ^ i)]
              have hY : lb.getD j 0 = y := HY.out
              rw [hY]
              exact hst
            exact goal
          have e1 : ((q : Nat) : Int) % 4294967296 = ((q % 4294967296 : Nat) : Int) := by omega
          have e2 : ((q : Nat) : Int) / 4294967296 = ((q / 4294967296 : Nat) : Int) := by omega
          have HN : Hid (RowU (wr.setCell ⟨w.heap.size, i + j, none⟩ (.int .u32 ((q % 4294967296 : Nat) : Int))) w.heap.size (n + k) (updU h (i + j) (q % 4294967296))) := hrow.set _ _
          have HBN : Hid (Below w.heap.size w (wr.setCell ⟨w.heap.size, i + j, none⟩ (.int .u32 ((q % 4294967296 : Nat) : Int)))) := below_set hb _ _ _ (Nat.le_refl _)
          have HF : Hid (∀ t, t < n + k → updU h (i + j) (q % 4294967296) t < 4294967296) := fun t ht => by
            unfold updU
            split
            · omega
            · exact hfb t ht
          have HC : Hid (q / 4294967296 < 4294967296) := (by omega : q / 4294967296 < 4294967296)
          clear hst heq hfb hup hyy huu hrow hb HX HAC HQ HRW hqq hxy
          generalize q % 4294967296 = v at *
          generalize hcc : q / 4294967296 = c2 at *
          clear hcc
          go_wp2_with fail
          go_quiet (fail)
          go_wp2_with fail
          go_roundw
          case rel => exact ⟨j + 1, c2, _, by omega, by go_num, rfl, HC.out, HN.out, HF.out, ⟨HBN.out.os, HBN.out.tape, HBN.out.output, HBN.out.size, HBN.out.block⟩, HNX.out⟩
          case measure => simp [intOf]; omega
        · obtain rfl : j = k := by omega
          have r0 := hrow.cell (i := i + j) (by omega)
          have f0 := hrow.free (i + j)
          obtain ⟨fi, hfi⟩ : ∃ fi : Int, ((h (i + j) : Nat) : Int) = fi := ⟨_, rfl⟩
          rw [hfi] at r0
          clear hfi
          have e1 : ((c : Nat) : Int) % 4294967296 = ((c : Nat) : Int) := by omega
          have cb : (c : Int) < 4294967296 := by omega
          have HN : Hid (RowU (wr.setCell ⟨w.heap.size, i + j, none⟩ (.int .u32 ((c : Nat) : Int))) w.heap.size (n + j) (updU h (i + j) c)) := hrow.set _ _
          have HBN : Hid (Below w.heap.size w (wr.setCell ⟨w.heap.size, i + j, none⟩ (.int .u32 ((c : Nat) : Int)))) := below_set hb _ _ _ (Nat.le_refl _)
          have HF : Hid (∀ t, t < n + j → updU h (i + j) c t < 4294967296) := fun t ht => by
            unfold updU
            split
            · exact hc
            · exact hfb t ht
          have HE : Hid (nf (updU h (i + j) c) (i + 1 + j) = nf (fun j => la.getD j 0) (i + 1) * nv lb) := by
            have e3 : nf (updU h (i + j) c) (i + j) = nf h (i + j) := nf_congr fun t ht => by unfold updU; rw [if_neg (by omega)]
            have e4 : updU h (i + j) c (i + j) = c := by unfold updU; rw [if_pos rfl]
            have e5 : nv lb = nf (fun j => lb.getD j 0) j := nv_more lb (by rw [HBB.out.len]; exact Nat.le_refl _)
            have goal : nf (updU h (i + j) c) (i + 1 + j) = nf (fun j => la.getD j 0) (i + 1) * nv lb := by
              rw [show i + 1 + j = (i + j) + 1 by omega, nf, nf, e3, e4, Nat.pow_add, heq, ← e5, Nat.add_mul]
              have hX : la.getD i 0 = x := HX.out
              rw [hX, Nat.mul_assoc]
            exact goal
          clear hrow hfb hb heq hlj HX HAC HQ HRW
          go_wp2_with fail
          go_roundw
          case rel => exact ⟨i + 1, _, by omega, by go_num, HN.out, HF.out, HBN.out, HE.out⟩
          case measure => simp [intOf]; omega
    · obtain rfl : i = n := by omega
      have HN : Hid (Ru wr (some ⟨w.heap.size, 0, none⟩) (i + k) (i + k) ((List.range (i + k)).map f)) := hrow.ru hfb
      have HB : Hid (Below w.heap.size w wr) := hb
      have HE : Hid (nv ((List.range (i + k)).map f) = nv la * nv lb) := by
        have goal : nv ((List.range (i + k)).map f) = nv la * nv lb := by
          rw [nv_range, heq, ← nv_more la (by rw [HA.out.len]; exact Nat.le_refl _)]
        exact goal
      clear hrow hfb hb heq hlt
      go_wp2_with fail
      refine (trim_any _ _ _ _ _ HN.out (by omega)).mono ?_
      rintro e w3 ⟨a3, n3, c3, rfl, hr3, hb3⟩
      rw [HE.out] at hr3
      have HG : Hid (Gives w (nv la * nv lb) (.returned (.slice a3 n3 c3)) w3) := Gives.mk hr3 (HB.out.trans (hb3.mono HB.out.size))
      clear hr3 hb3
      go_wp2_with fail
      go_ret
      exact HG.out

theorem ru_nil (w : World) : Ru w none 0 0 [] := ⟨rfl, fun x hx => (by cases hx), fun _ => rfl, Nat.le_refl _, .inl rfl, fun _ _ _ e _ => by cases e⟩

theorem mul_any (a b : Option Addr) (n k ca cb : Nat) (la lb : List Nat) (w : World) (ha : Ru w a n ca la) (hbb : Ru w b k cb lb) (hn : n ≤ 100) (hk : k ≤ 100) :
    Calls Tryd.prog 66 #[.slice a n ca, .slice b k cb] w fun e w' => Gives w (nv la * nv lb) e w' := by
  by_cases n0 : n = 0
  · subst n0
    have el : la = [] := List.eq_nil_of_length_eq_zero ha.len
    have e : nv la * nv lb = 0 := by rw [el]; simp [nv]
    rw [e]
    have HG : Hid (Gives w 0 (.returned (.slice none 0 0)) w) := Gives.mk (by rw [dig_zero]; exact ru_nil w) (Below.refl _ _)
    clear ha hbb el e
    go_enter Tryd.func66, Tryd.ntmps66
    go_wp2_with fail
    go_ret
    exact HG.out
  · by_cases k0 : k = 0
    · subst k0
      have el : lb = [] := List.eq_nil_of_length_eq_zero hbb.len
      have e : nv la * nv lb = 0 := by rw [el]; simp [nv]
      rw [e]
      have z1 : ((n : Int) == 0) = false := beq_eq_false_iff_ne.2 (by omega)
      have HG : Hid (Gives w 0 (.returned (.slice none 0 0)) w) := Gives.mk (by rw [dig_zero]; exact ru_nil w) (Below.refl _ _)
      clear ha hbb el e
      go_enter Tryd.func66, Tryd.ntmps66
      go_wp2_with fail
      go_ret
      exact HG.out
    · exact mul_some a b n k ca cb la lb w ha hbb (by omega) (by omega) hn hk

end Go.Proofs.YtmpjmcfgikmgnaaDoor.words
namespace Go.Proofs.YtmpjmcfgikmgnaaDoor.words
open Go.RowKit
set_option maxRecDepth 100000

theorem Bg.parts {w : World} {z m : Nat} (h : Bg w z m) : ∃ a n c, w.cell? ⟨z, 0, none⟩ = some (.bool false) ∧ w.cell? ⟨z, 1, none⟩ = some (.slice a n c) ∧ Ru w a n c (dig m) := by
  obtain ⟨a, n, c, h1, h2⟩ := h
  obtain ⟨c0, c1, _, _⟩ := ob_cells h1
  exact ⟨a, n, c, c0, c1, h2⟩

/-- What a number's operation leaves: z is r; all else stands. -/
def OpPost (w : World) (z r : Nat) (e : Ending) (w' : World) : Prop := e = .returned (.pointer (some ⟨z, 0, none⟩)) ∧ Bg w' z r ∧ Ex w w' z

theorem cell_bel {w w1 : World} {p : Addr} {v : Value} (hb : Below w.heap.size w w1) (h : w.cell? p = some v) : w1.cell? p = some v := (hb.cell (World.block_lt_of_cell? w p h)).trans h
theorem cell_ex {w w1 : World} {z y i : Nat} {v : Value} (he : Ex w w1 z) (h : w.cell? ⟨y, i, none⟩ = some v) (hne : y ≠ z) : w1.cell? ⟨y, i, none⟩ = some v :=
  (World.cell?_of_block (w := w) (a := ⟨y, i, none⟩) (he.block y (World.block_lt_of_cell? w _ h) hne)).trans h

/-- Behind 'give' no number is below 0. -/
theorem neg_ex {w w1 : World} {z x : Nat} {v u : Value} (he : Ex w w1 z) (hz : w1.heap[z]? = some (.cells #[.bool false, u] 61 (0, 0))) (h : w.cell? ⟨x, 0, none⟩ = some v) (hv : v = .bool false) : w1.cell? ⟨x, 0, none⟩ = some (.bool false) := by
  subst hv
  by_cases e : x = z
  · subst e; exact (ob_cells hz).1
  · exact cell_ex he h e

/-- A sum's words, and that it is not below 0. -/
def SumGives (w : World) (m : Nat) (e : Ending) (w' : World) : Prop := ∃ a n cap, e = .returned (.tuple #[.bool false, .slice a n cap]) ∧ Ru w' a n cap (dig m) ∧ Below w.heap.size w w'
theorem SumGives.mk {w w' : World} {m n cap : Nat} {a : Option Addr} (h1 : Ru w' a n cap (dig m)) (h2 : Below w.heap.size w w') : SumGives w m (.returned (.tuple #[.bool false, .slice a n cap])) w' := ⟨a, n, cap, rfl, h1, h2⟩

theorem sum_plus (a b : Option Addr) (n k ca cb : Nat) (la lb : List Nat) (w : World) (ha : Ru w a n ca la) (hb : Ru w b k cb lb) (hn : n ≤ 100) (hk : k ≤ 100) :
    Calls Tryd.prog 68 #[.bool false, .slice a n ca, .bool false, .slice b k cb] w fun e w' => SumGives w (nv la + nv lb) e w' := by
  have hq : (false == false) = true := rfl
  have HA : Hid (Calls Tryd.prog 84 #[.slice a n ca, .slice b k cb] w fun e w' => Gives w (nv la + nv lb) e w') := add_any a b n k ca cb la lb w ha hb hn hk
  clear ha hb
  go_enter Tryd.func68, Tryd.ntmps68
  go_wp2_with fail
  refine HA.out.mono ?_
  rintro e w1 ⟨a3, n3, c3, rfl, hr, hb⟩
  have HG : Hid (SumGives w (nv la + nv lb) (.returned (.tuple #[.bool false, .slice a3 n3 c3])) w1) := SumGives.mk hr hb
  clear hr hb
  go_wp2_with fail
  go_ret2
  exact HG.out

set_option maxHeartbeats 4000000 in
theorem Mul_any (z x y m k : Nat) (w : World) (hx : Bg w x m) (hy : Bg w y k) (hz : Ob w z) (hyz : y ≠ z) (hm : (dig m).length ≤ 100) (hk : (dig k).length ≤ 100) :
    Calls Tryd.prog 33 #[.pointer (some ⟨z, 0, none⟩), .pointer (some ⟨x, 0, none⟩), .pointer (some ⟨y, 0, none⟩)] w fun e w' => OpPost w z (m * k) e w' := by
  obtain ⟨xa, xn, xc, x0, x1, xr⟩ := hx.parts
  obtain ⟨ya, yn, yc, y0, y1, yr⟩ := hy.parts
  have hne : (false != false) = false := rfl
  have HM : Hid (∀ w', Below w.heap.size w w' → Calls Tryd.prog 66 #[.slice xa xn xc, .slice ya yn yc] w' fun e w'' => Gives w' (m * k) e w'') := fun w' hb => by
    have := mul_any xa ya xn yn xc yc _ _ w' (xr.below hb) (yr.below hb) (by rw [← xr.len]; exact hm) (by rw [← yr.len]; exact hk)
    rwa [nv_dig, nv_dig] at this
  have HZ : Hid (Ob w z) := hz
  have KW : Hid (Below w.heap.size w w.drew) := (Below.refl _ w).drew
  have KS : Hid (w.drew.cell? ⟨x, 0, none⟩ = some (.bool false) ∧ w.drew.cell? ⟨y, 0, none⟩ = some (.bool false) ∧ w.drew.cell? ⟨y, 1, none⟩ = some (.slice ya yn yc)) := ⟨x0, y0, y1⟩
  clear hx hy hz xr yr hm hk
  go_enter Tryd.func33, Tryd.ntmps33
  go_wp2_with fail
  refine wp_region_held_drew (S := fun w1 => w1.cell? ⟨x, 0, none⟩ = some (.bool false) ∧ w1.cell? ⟨y, 0, none⟩ = some (.bool false) ∧ w1.cell? ⟨y, 1, none⟩ = some (.slice ya yn yc)) (by kernel_rfl) KS.out ?_
  intro hS0
  refine wpAnyH_take (i := 0) (v := ?v1) rfl (by kernel_rfl) (by kernel_rfl) (by kernel_rfl) (fun _ _ _ h => h) (Or.inl ⟨by rfl, ?y1⟩) (by assumption) ?_
  case y1 => (intro w hSw; (try dsimp only at hSw); go_simp; try (with_reducible rfl))
  try simp only [Act.put]
  try simp only [List.setIfInBounds_toArray]
  try simp only [List.set_cons_succ]
  try simp only [List.set_cons_zero]
  refine wpAnyH_take (i := 1) (v := ?v2) rfl (by kernel_rfl) (by kernel_rfl) (by kernel_rfl) (fun _ _ _ h => h) (Or.inl ⟨by rfl, ?y2⟩) (by assumption) ?_
  case y2 => (intro w hSw; (try dsimp only at hSw); go_simp; try (with_reducible rfl))
  try simp only [Act.put]
  try simp only [List.setIfInBounds_toArray]
  try simp only [List.set_cons_succ]
  try simp only [List.set_cons_zero]
  refine wpAnyH_take (i := 2) (v := ?v3) rfl (by kernel_rfl) (by kernel_rfl) (by kernel_rfl) (fun _ _ _ h => h) (Or.inl ⟨by rfl, ?y3⟩) (by assumption) ?_
  case y3 => (intro w hSw; (try dsimp only at hSw); go_simp; try (with_reducible rfl))
  try simp only [Act.put]
  try simp only [List.setIfInBounds_toArray]
  try simp only [List.set_cons_succ]
  try simp only [List.set_cons_zero]
  refine wpAnyH_take (i := 3) (v := ?v4) rfl (by kernel_rfl) (by kernel_rfl) (by kernel_rfl) (fun _ _ _ h => h) (Or.inl ⟨by rfl, ?y4⟩) (by assumption) ?_
  case y4 => (intro w hSw; (try dsimp only at hSw); go_simp; try (with_reducible rfl))
  try simp only [Act.put]
  try simp only [List.setIfInBounds_toArray]
  try simp only [List.set_cons_succ]
  try simp only [List.set_cons_zero]
  refine wpAnyH_take (i := 4) (v := ?v5) rfl (by kernel_rfl) (by kernel_rfl) (by kernel_rfl) (fun _ _ _ h => h) (Or.inl ⟨by rfl, ?y5⟩) (by assumption) ?_
  case y5 => (intro w hSw; (try dsimp only at hSw); go_simp; try (with_reducible rfl))
  try simp only [Act.put]
  try simp only [List.setIfInBounds_toArray]
  try simp only [List.set_cons_succ]
  try simp only [List.set_cons_zero]
  refine wpAnyH_take (i := 5) (v := ?v6) rfl (by kernel_rfl) (by kernel_rfl) (by kernel_rfl) (fun _ _ _ h => h) (Or.inl ⟨by rfl, ?y6⟩) (by assumption) ?_
  case y6 => (intro w hSw; (try dsimp only at hSw); go_simp; try (with_reducible rfl))
  try simp only [Act.put]
  try simp only [List.setIfInBounds_toArray]
  try simp only [List.set_cons_succ]
  try simp only [List.set_cons_zero]
  refine wpAnyH_take (i := 6) (v := ?v7) rfl (by kernel_rfl) (by kernel_rfl) (by kernel_rfl) (fun _ _ _ h => h) (Or.inl ⟨by rfl, ?y7⟩) (by assumption) ?_
  case y7 => (intro w hSw; (try dsimp only at hSw); go_simp; try (with_reducible rfl))
  try simp only [Act.put]
  try simp only [List.setIfInBounds_toArray]
  try simp only [List.set_cons_succ]
  try simp only [List.set_cons_zero]
  refine wpAnyH_take (i := 7) (v := ?v8) rfl (by kernel_rfl) (by kernel_rfl) (by kernel_rfl) (fun _ _ _ h => h) (Or.inl ⟨by rfl, ?y8⟩) (by assumption) ?_
  case y8 => (intro w hSw; (try dsimp only at hSw); go_simp; try (with_reducible rfl))
  try simp only [Act.put]
  try simp only [List.setIfInBounds_toArray]
  try simp only [List.set_cons_succ]
  try simp only [List.set_cons_zero]
  refine wpAnyH_take (i := 8) (v := ?v9) rfl (by kernel_rfl) (by kernel_rfl) (by kernel_rfl) (fun _ _ _ h => h) (Or.inl ⟨by rfl, ?y9⟩) (by assumption) ?_
  case y9 => (intro w hSw; (try dsimp only at hSw); go_simp; try (with_reducible rfl))
  try simp only [Act.put]
  try simp only [List.setIfInBounds_toArray]
  try simp only [List.set_cons_succ]
  try simp only [List.set_cons_zero]
  refine wpAnyH_take (i := 9) (v := ?v10) rfl (by kernel_rfl) (by kernel_rfl) (by kernel_rfl) (fun _ _ _ h => h) (Or.inl ⟨by rfl, ?y10⟩) (by assumption) ?_
  case y10 => (intro w hSw; (try dsimp only at hSw); go_simp; try (with_reducible rfl))
  try simp only [Act.put]
  try simp only [List.setIfInBounds_toArray]
  try simp only [List.set_cons_succ]
  try simp only [List.set_cons_zero]
  refine wpAnyH_take (i := 10) (v := ?v11) rfl (by kernel_rfl) (by kernel_rfl) (by kernel_rfl) (fun _ _ _ h => h) (Or.inl ⟨by rfl, ?y11⟩) (by assumption) ?_
  case y11 => (intro w hSw; (try dsimp only at hSw); go_simp; try (with_reducible rfl))
  try simp only [Act.put]
  try simp only [List.setIfInBounds_toArray]
  try simp only [List.set_cons_succ]
  try simp only [List.set_cons_zero]
  refine wpAnyH_take (i := 11) (v := ?v12) rfl (by kernel_rfl) (by kernel_rfl) (by kernel_rfl) (fun _ _ _ h => h) (Or.inl ⟨by rfl, ?y12⟩) (by assumption) ?_
  case y12 => (intro w hSw; (try dsimp only at hSw); go_simp; try (with_reducible rfl))
  try simp only [Act.put]
  try simp only [List.setIfInBounds_toArray]
  try simp only [List.set_cons_succ]
  try simp only [List.set_cons_zero]
  refine wpAnyH_take (i := 12) (v := ?v13) rfl (by kernel_rfl) (by kernel_rfl) (by kernel_rfl) (fun _ _ _ h => h) (Or.inl ⟨by rfl, ?y13⟩) (by assumption) ?_
  case y13 => (intro w hSw; (try dsimp only at hSw); go_simp; try (with_reducible rfl))
  try simp only [Act.put]
  try simp only [List.setIfInBounds_toArray]
  try simp only [List.set_cons_succ]
  try simp only [List.set_cons_zero]
  refine wpAnyH_take (i := 14) (v := ?v14) rfl (by kernel_rfl) (by kernel_rfl) (by kernel_rfl) (fun _ _ _ h => h) (Or.inl ⟨by rfl, ?y14⟩) (by assumption) ?_
  case y14 => (intro w hSw; (try dsimp only at hSw); go_simp; try (with_reducible rfl))
  try simp only [Act.put]
  try simp only [List.setIfInBounds_toArray]
  try simp only [List.set_cons_succ]
  try simp only [List.set_cons_zero]
  refine wpAnyH_take (i := 15) (v := ?v15) rfl (by kernel_rfl) (by kernel_rfl) (by kernel_rfl) (fun _ _ _ h => h) (Or.inl ⟨by rfl, ?y15⟩) (by assumption) ?_
  case y15 => (intro w hSw; (try dsimp only at hSw); go_simp; try (with_reducible rfl))
  try simp only [Act.put]
  try simp only [List.setIfInBounds_toArray]
  try simp only [List.set_cons_succ]
  try simp only [List.set_cons_zero]
  refine wpAnyH_take (i := 16) (v := ?v16) rfl (by kernel_rfl) (by kernel_rfl) (by kernel_rfl) (fun _ _ _ h => h) (Or.inl ⟨by rfl, ?y16⟩) (by assumption) ?_
  case y16 => (intro w hSw; (try dsimp only at hSw); go_simp; try (with_reducible rfl))
  try simp only [Act.put]
  try simp only [List.setIfInBounds_toArray]
  try simp only [List.set_cons_succ]
  try simp only [List.set_cons_zero]
  refine wpAnyH_take (i := 17) (v := ?v17) rfl (by kernel_rfl) (by kernel_rfl) (by kernel_rfl) (fun _ _ _ h => h) (Or.inl ⟨by rfl, ?y17⟩) (by assumption) ?_
  case y17 => (intro w hSw; (try dsimp only at hSw); go_simp; try (with_reducible rfl))
  try simp only [Act.put]
  try simp only [List.setIfInBounds_toArray]
  try simp only [List.set_cons_succ]
  try simp only [List.set_cons_zero]
  refine wpAnyH_ready (rs := [13]) (by kernel_rfl) (by simp) ?_
  refine AllReadyH.cons rfl (fun K hK => ?_) AllReadyH.nil
  go_simp
  refine hK.out _ _ KS.out (fun hHeld => ?_)
  clear hK K
  refine wpAnyH_ready (rs := [18]) (by kernel_rfl) (by simp) ?_
  refine AllReadyH.cons rfl (fun K hK => ?_) AllReadyH.nil
  go_simp
  go_wp2_with fail
  refine (HM.out _ KW.out).mono ?_
  rintro e w1 ⟨ra, rn, rc, rfl, hr, hb⟩
  have B1 : Hid (Below w.heap.size w w1) := KW.out.trans (hb.mono KW.out.size)
  have K1 : Hid (w1.cell? ⟨x, 0, none⟩ = some (.bool false) ∧ w1.cell? ⟨y, 0, none⟩ = some (.bool false) ∧ w1.cell? ⟨y, 1, none⟩ = some (.slice ya yn yc)) := ⟨cell_bel hb KS.out.1, cell_bel hb KS.out.2.1, cell_bel hb KS.out.2.2⟩
  have R1 : Hid (Ru w1 ra rn rc (dig (m * k))) := hr
  clear hb hr
  try go_simp
  refine hK.out _ _ K1.out (fun hHeld => ?_)
  clear hK K
  refine wpAnyH_ready (rs := [19]) (by kernel_rfl) (by simp) ?_
  refine AllReadyH.cons rfl (fun K hK => ?_) AllReadyH.nil
  go_simp
  go_wp2_with fail
  refine (give_any z _ _ _ _ (HZ.out.below B1.out)).mono ?_
  rintro e w2 ⟨rfl, h2, hex⟩
  have K2 : Hid (w2.cell? ⟨x, 0, none⟩ = some (.bool false) ∧ w2.cell? ⟨y, 0, none⟩ = some (.bool false) ∧ w2.cell? ⟨y, 1, none⟩ = some (.slice ya yn yc)) := ⟨neg_ex hex h2 K1.out.1 rfl, cell_ex hex K1.out.2.1 hyz, cell_ex hex K1.out.2.2 hyz⟩
  have F2 : Hid (Bg w2 z (m * k) ∧ Ex w w2 z) := ⟨⟨_, _, _, h2, R1.out.ex (HZ.out.below B1.out) hex⟩, Ex.of B1.out hex⟩
  clear h2 hex
  try go_simp
  refine hK.out _ _ K2.out (fun hHeld => ?_)
  clear hK K
  refine wpAnyH_ready (rs := [20]) (by kernel_rfl) (by simp) ?_
  refine AllReadyH.cons rfl (fun K hK => ?_) AllReadyH.nil
  go_simp
  refine hK.out _ _ K2.out (fun hHeld => ?_)
  clear hK K
  refine wpAnyH_done (by kernel_rfl) ?_ _
  go_wp2_with fail
  go_ret
  exact ⟨rfl, F2.out.1, F2.out.2⟩

set_option maxHeartbeats 4000000 in
theorem Add_any (z x y m k : Nat) (w : World) (hx : Bg w x m) (hy : Bg w y k) (hz : Ob w z) (hyz : y ≠ z) (hm : (dig m).length ≤ 100) (hk : (dig k).length ≤ 100) :
    Calls Tryd.prog 35 #[.pointer (some ⟨z, 0, none⟩), .pointer (some ⟨x, 0, none⟩), .pointer (some ⟨y, 0, none⟩)] w fun e w' => OpPost w z (m + k) e w' := by
  obtain ⟨xa, xn, xc, x0, x1, xr⟩ := hx.parts
  obtain ⟨ya, yn, yc, y0, y1, yr⟩ := hy.parts
  have hne : (false != false) = false := rfl
  have HM : Hid (∀ w', Below w.heap.size w w' → Calls Tryd.prog 68 #[.bool false, .slice xa xn xc, .bool false, .slice ya yn yc] w' fun e w'' => SumGives w' (m + k) e w'') := fun w' hb => by
    have := sum_plus xa ya xn yn xc yc _ _ w' (xr.below hb) (yr.below hb) (by rw [← xr.len]; exact hm) (by rw [← yr.len]; exact hk)
    rwa [nv_dig, nv_dig] at this
  have HZ : Hid (Ob w z) := hz
  have KW : Hid (Below w.heap.size w w.drew) := (Below.refl _ w).drew
  have KS : Hid (w.drew.cell? ⟨x, 0, none⟩ = some (.bool false) ∧ w.drew.cell? ⟨y, 0, none⟩ = some (.bool false) ∧ w.drew.cell? ⟨y, 1, none⟩ = some (.slice ya yn yc)) := ⟨x0, y0, y1⟩
  clear hx hy hz xr yr hm hk
  go_enter Tryd.func35, Tryd.ntmps35
  go_wp2_with fail
  refine wp_region_held_drew (S := fun w1 => w1.cell? ⟨x, 0, none⟩ = some (.bool false) ∧ w1.cell? ⟨y, 0, none⟩ = some (.bool false) ∧ w1.cell? ⟨y, 1, none⟩ = some (.slice ya yn yc)) (by kernel_rfl) KS.out ?_
  intro hS0
  refine wpAnyH_take (i := 0) (v := ?v18) rfl (by kernel_rfl) (by kernel_rfl) (by kernel_rfl) (fun _ _ _ h => h) (Or.inl ⟨by rfl, ?y18⟩) (by assumption) ?_
  case y18 => (intro w hSw; (try dsimp only at hSw); go_simp; try (with_reducible rfl))
  try simp only [Act.put]
  try simp only [List.setIfInBounds_toArray]
  try simp only [List.set_cons_succ]
  try simp only [List.set_cons_zero]
  refine wpAnyH_take (i := 1) (v := ?v19) rfl (by kernel_rfl) (by kernel_rfl) (by kernel_rfl) (fun _ _ _ h => h) (Or.inl ⟨by rfl, ?y19⟩) (by assumption) ?_
  case y19 => (intro w hSw; (try dsimp only at hSw); go_simp; try (with_reducible rfl))
  try simp only [Act.put]
  try simp only [List.setIfInBounds_toArray]
  try simp only [List.set_cons_succ]
  try simp only [List.set_cons_zero]
  refine wpAnyH_take (i := 2) (v := ?v20) rfl (by kernel_rfl) (by kernel_rfl) (by kernel_rfl) (fun _ _ _ h => h) (Or.inl ⟨by rfl, ?y20⟩) (by assumption) ?_
  case y20 => (intro w hSw; (try dsimp only at hSw); go_simp; try (with_reducible rfl))
  try simp only [Act.put]
  try simp only [List.setIfInBounds_toArray]
  try simp only [List.set_cons_succ]
  try simp only [List.set_cons_zero]
  refine wpAnyH_take (i := 3) (v := ?v21) rfl (by kernel_rfl) (by kernel_rfl) (by kernel_rfl) (fun _ _ _ h => h) (Or.inl ⟨by rfl, ?y21⟩) (by assumption) ?_
  case y21 => (intro w hSw; (try dsimp only at hSw); go_simp; try (with_reducible rfl))
  try simp only [Act.put]
  try simp only [List.setIfInBounds_toArray]
  try simp only [List.set_cons_succ]
  try simp only [List.set_cons_zero]
  refine wpAnyH_take (i := 4) (v := ?v22) rfl (by kernel_rfl) (by kernel_rfl) (by kernel_rfl) (fun _ _ _ h => h) (Or.inl ⟨by rfl, ?y22⟩) (by assumption) ?_
  case y22 => (intro w hSw; (try dsimp only at hSw); go_simp; try (with_reducible rfl))
  try simp only [Act.put]
  try simp only [List.setIfInBounds_toArray]
  try simp only [List.set_cons_succ]
  try simp only [List.set_cons_zero]
  refine wpAnyH_take (i := 5) (v := ?v23) rfl (by kernel_rfl) (by kernel_rfl) (by kernel_rfl) (fun _ _ _ h => h) (Or.inl ⟨by rfl, ?y23⟩) (by assumption) ?_
  case y23 => (intro w hSw; (try dsimp only at hSw); go_simp; try (with_reducible rfl))
  try simp only [Act.put]
  try simp only [List.setIfInBounds_toArray]
  try simp only [List.set_cons_succ]
  try simp only [List.set_cons_zero]
  refine wpAnyH_take (i := 6) (v := ?v24) rfl (by kernel_rfl) (by kernel_rfl) (by kernel_rfl) (fun _ _ _ h => h) (Or.inl ⟨by rfl, ?y24⟩) (by assumption) ?_
  case y24 => (intro w hSw; (try dsimp only at hSw); go_simp; try (with_reducible rfl))
  try simp only [Act.put]
  try simp only [List.setIfInBounds_toArray]
  try simp only [List.set_cons_succ]
  try simp only [List.set_cons_zero]
  refine wpAnyH_take (i := 7) (v := ?v25) rfl (by kernel_rfl) (by kernel_rfl) (by kernel_rfl) (fun _ _ _ h => h) (Or.inl ⟨by rfl, ?y25⟩) (by assumption) ?_
  case y25 => (intro w hSw; (try dsimp only at hSw); go_simp; try (with_reducible rfl))
  try simp only [Act.put]
  try simp only [List.setIfInBounds_toArray]
  try simp only [List.set_cons_succ]
  try simp only [List.set_cons_zero]
  refine wpAnyH_take (i := 9) (v := ?v26) rfl (by kernel_rfl) (by kernel_rfl) (by kernel_rfl) (fun _ _ _ h => h) (Or.inl ⟨by rfl, ?y26⟩) (by assumption) ?_
  case y26 => (intro w hSw; (try dsimp only at hSw); go_simp; try (with_reducible rfl))
  try simp only [Act.put]
  try simp only [List.setIfInBounds_toArray]
  try simp only [List.set_cons_succ]
  try simp only [List.set_cons_zero]
  refine wpAnyH_take (i := 10) (v := ?v27) rfl (by kernel_rfl) (by kernel_rfl) (by kernel_rfl) (fun _ _ _ h => h) (Or.inl ⟨by rfl, ?y27⟩) (by assumption) ?_
  case y27 => (intro w hSw; (try dsimp only at hSw); go_simp; try (with_reducible rfl))
  try simp only [Act.put]
  try simp only [List.setIfInBounds_toArray]
  try simp only [List.set_cons_succ]
  try simp only [List.set_cons_zero]
  refine wpAnyH_take (i := 11) (v := ?v28) rfl (by kernel_rfl) (by kernel_rfl) (by kernel_rfl) (fun _ _ _ h => h) (Or.inl ⟨by rfl, ?y28⟩) (by assumption) ?_
  case y28 => (intro w hSw; (try dsimp only at hSw); go_simp; try (with_reducible rfl))
  try simp only [Act.put]
  try simp only [List.setIfInBounds_toArray]
  try simp only [List.set_cons_succ]
  try simp only [List.set_cons_zero]
  refine wpAnyH_take (i := 12) (v := ?v29) rfl (by kernel_rfl) (by kernel_rfl) (by kernel_rfl) (fun _ _ _ h => h) (Or.inl ⟨by rfl, ?y29⟩) (by assumption) ?_
  case y29 => (intro w hSw; (try dsimp only at hSw); go_simp; try (with_reducible rfl))
  try simp only [Act.put]
  try simp only [List.setIfInBounds_toArray]
  try simp only [List.set_cons_succ]
  try simp only [List.set_cons_zero]
  refine wpAnyH_take (i := 13) (v := ?v30) rfl (by kernel_rfl) (by kernel_rfl) (by kernel_rfl) (fun _ _ _ h => h) (Or.inl ⟨by rfl, ?y30⟩) (by assumption) ?_
  case y30 => (intro w hSw; (try dsimp only at hSw); go_simp; try (with_reducible rfl))
  try simp only [Act.put]
  try simp only [List.setIfInBounds_toArray]
  try simp only [List.set_cons_succ]
  try simp only [List.set_cons_zero]
  refine wpAnyH_take (i := 14) (v := ?v31) rfl (by kernel_rfl) (by kernel_rfl) (by kernel_rfl) (fun _ _ _ h => h) (Or.inl ⟨by rfl, ?y31⟩) (by assumption) ?_
  case y31 => (intro w hSw; (try dsimp only at hSw); go_simp; try (with_reducible rfl))
  try simp only [Act.put]
  try simp only [List.setIfInBounds_toArray]
  try simp only [List.set_cons_succ]
  try simp only [List.set_cons_zero]
  refine wpAnyH_take (i := 15) (v := ?v32) rfl (by kernel_rfl) (by kernel_rfl) (by kernel_rfl) (fun _ _ _ h => h) (Or.inl ⟨by rfl, ?y32⟩) (by assumption) ?_
  case y32 => (intro w hSw; (try dsimp only at hSw); go_simp; try (with_reducible rfl))
  try simp only [Act.put]
  try simp only [List.setIfInBounds_toArray]
  try simp only [List.set_cons_succ]
  try simp only [List.set_cons_zero]
  refine wpAnyH_take (i := 16) (v := ?v33) rfl (by kernel_rfl) (by kernel_rfl) (by kernel_rfl) (fun _ _ _ h => h) (Or.inl ⟨by rfl, ?y33⟩) (by assumption) ?_
  case y33 => (intro w hSw; (try dsimp only at hSw); go_simp; try (with_reducible rfl))
  try simp only [Act.put]
  try simp only [List.setIfInBounds_toArray]
  try simp only [List.set_cons_succ]
  try simp only [List.set_cons_zero]
  refine wpAnyH_ready (rs := [8]) (by kernel_rfl) (by simp) ?_
  refine AllReadyH.cons rfl (fun K hK => ?_) AllReadyH.nil
  go_simp
  refine hK.out _ _ KS.out (fun hHeld => ?_)
  clear hK K
  refine wpAnyH_ready (rs := [17]) (by kernel_rfl) (by simp) ?_
  refine AllReadyH.cons rfl (fun K hK => ?_) AllReadyH.nil
  go_simp
  go_wp2_with fail
  refine (HM.out _ KW.out).mono ?_
  rintro e w1 ⟨ra, rn, rc, rfl, hr, hb⟩
  have B1 : Hid (Below w.heap.size w w1) := KW.out.trans (hb.mono KW.out.size)
  have K1 : Hid (w1.cell? ⟨x, 0, none⟩ = some (.bool false) ∧ w1.cell? ⟨y, 0, none⟩ = some (.bool false) ∧ w1.cell? ⟨y, 1, none⟩ = some (.slice ya yn yc)) := ⟨cell_bel hb KS.out.1, cell_bel hb KS.out.2.1, cell_bel hb KS.out.2.2⟩
  have R1 : Hid (Ru w1 ra rn rc (dig (m + k))) := hr
  clear hb hr
  try go_simp
  refine hK.out _ _ K1.out (fun hHeld => ?_)
  clear hK K
  refine wpAnyH_take (i := 18) (v := ?v34) rfl (by kernel_rfl) (by kernel_rfl) (by kernel_rfl) (fun _ _ _ h => h) (Or.inl ⟨by rfl, ?y34⟩) (by assumption) ?_
  case y34 => (intro w hSw; (try dsimp only at hSw); go_simp; try (with_reducible rfl))
  try simp only [Act.put]
  try simp only [List.setIfInBounds_toArray]
  try simp only [List.set_cons_succ]
  try simp only [List.set_cons_zero]
  refine wpAnyH_take (i := 19) (v := ?v35) rfl (by kernel_rfl) (by kernel_rfl) (by kernel_rfl) (fun _ _ _ h => h) (Or.inl ⟨by rfl, ?y35⟩) (by assumption) ?_
  case y35 => (intro w hSw; (try dsimp only at hSw); go_simp; try (with_reducible rfl))
  try simp only [Act.put]
  try simp only [List.setIfInBounds_toArray]
  try simp only [List.set_cons_succ]
  try simp only [List.set_cons_zero]
  refine wpAnyH_ready (rs := [20]) (by kernel_rfl) (by simp) ?_
  refine AllReadyH.cons rfl (fun K hK => ?_) AllReadyH.nil
  go_simp
  go_wp2_with fail
  refine (give_any z _ _ _ _ (HZ.out.below B1.out)).mono ?_
  rintro e w2 ⟨rfl, h2, hex⟩
  have K2 : Hid (w2.cell? ⟨x, 0, none⟩ = some (.bool false) ∧ w2.cell? ⟨y, 0, none⟩ = some (.bool false) ∧ w2.cell? ⟨y, 1, none⟩ = some (.slice ya yn yc)) := ⟨neg_ex hex h2 K1.out.1 rfl, cell_ex hex K1.out.2.1 hyz, cell_ex hex K1.out.2.2 hyz⟩
  have F2 : Hid (Bg w2 z (m + k) ∧ Ex w w2 z) := ⟨⟨_, _, _, h2, R1.out.ex (HZ.out.below B1.out) hex⟩, Ex.of B1.out hex⟩
  clear h2 hex
  try go_simp
  refine hK.out _ _ K2.out (fun hHeld => ?_)
  clear hK K
  refine wpAnyH_ready (rs := [21]) (by kernel_rfl) (by simp) ?_
  refine AllReadyH.cons rfl (fun K hK => ?_) AllReadyH.nil
  go_simp
  refine hK.out _ _ K2.out (fun hHeld => ?_)
  clear hK K
  refine wpAnyH_done (by kernel_rfl) ?_ _
  go_wp2_with fail
  go_ret
  exact ⟨rfl, F2.out.1, F2.out.2⟩

end Go.Proofs.YtmpjmcfgikmgnaaDoor.words
namespace Go.Proofs.YtmpjmcfgikmgnaaDoor.words
open Go.RowKit
set_option maxRecDepth 100000

theorem len100 {m : Nat} (h : m < 4294967296 ^ 8) : (dig m).length ≤ 100 := by
  have := dig_len 8 h
  omega
theorem Trio.ex {w w' : World} {G z : Nat} {y0 y1 y2 : Value} (h : Trio w G y0 y1 y2) (he : Ex w w' z) (hne : G ≠ z) : Trio w' G y0 y1 y2 := by
  have hlt := h.lt
  unfold Trio at *
  rw [he.block G hlt hne]; exact h

/-- A step of big96: the words so far times 2^32, and the next one. -/
theorem big_bd {m x : Nat} (k : Nat) (hm : m < 4294967296 ^ k) (hx : x < 4294967296) : m * 4294967296 < 4294967296 ^ (k + 1) ∧ m * 4294967296 + x < 4294967296 ^ (k + 1) := by
  rw [Nat.pow_succ]
  have : (m + 1) * 4294967296 ≤ 4294967296 ^ k * 4294967296 := Nat.mul_le_mul_right _ hm
  rw [Nat.add_mul] at this
  omega

def big96V (a b c : Nat) : Nat := ((0 * 4294967296 + c) * 4294967296 + b) * 4294967296 + a

end Go.Proofs.YtmpjmcfgikmgnaaDoor.words
namespace Go.Proofs.YtmpjmcfgikmgnaaDoor.words
open Go.RowKit
set_option maxRecDepth 100000

theorem nf_lt {f : Nat → Nat} : ∀ {n : Nat}, (∀ i, i < n → f i < 4294967296) → nf f n < 4294967296 ^ n
  | 0, _ => by simp [nf]
  | n + 1, h => by
    have h1 := nf_lt (f := f) (n := n) fun i hi => h i (by omega)
    have h2 := h n (by omega)
    rw [nf, Nat.pow_succ]
    have : 4294967296 ^ n * (f n + 1) ≤ 4294967296 ^ n * 4294967296 := Nat.mul_le_mul_left _ (by omega)
    rw [Nat.mul_add] at this
    omega
theorem nf_top {f g : Nat → Nat} {i : Nat} (hf : ∀ j, j < i → f j < 4294967296) (h : f i < g i) : nf f (i + 1) < nf g (i + 1) := by
  have h1 := nf_lt (f := f) (n := i) hf
  rw [nf, nf]
  have : 4294967296 ^ i * (f i + 1) ≤ 4294967296 ^ i * g i := Nat.mul_le_mul_left _ h
  rw [Nat.mul_add] at this
  omega
theorem nf_above {f g : Nat → Nat} {i : Nat} (h : nf f i < nf g i) : ∀ {n : Nat}, i ≤ n → (∀ j, i ≤ j → j < n → f j = g j) → nf f n < nf g n
  | 0, hn, _ => by have : i = 0 := by omega
                   subst this; exact h
  | n + 1, hn, he => by
    by_cases e : i = n + 1
    · subst e; exact h
    · have := nf_above h (n := n) (by omega) fun j h1 h2 => he j h1 (by omega)
      rw [nf, nf, he n (by omega) (by omega)]
      omega
theorem dig_nf (m : Nat) : nf (fun i => (dig m).getD i 0) (dig m).length = m := by rw [← nv_nf, nv_dig]
theorem dig_word (m i : Nat) : (dig m).getD i 0 < 4294967296 := by
  by_cases hi : i < (dig m).length
  · exact dig_lt m _ (by simp [List.getD, List.getElem?_eq_getElem hi])
  · simp [List.getD, List.getElem?_eq_none (show (dig m).length ≤ i by omega)]
theorem dig_low (m : Nat) : m < 4294967296 ^ (dig m).length := by
  have := nf_lt (f := fun i => (dig m).getD i 0) (n := (dig m).length) fun i _ => dig_word m i
  rwa [dig_nf] at this
theorem dig_high : ∀ (m k : Nat), (dig m).length = k + 1 → 4294967296 ^ k ≤ m := by
  intro m k
  induction k generalizing m with
  | zero =>
    intro h
    have : m ≠ 0 := by intro e; rw [e, dig_zero] at h; simp at h
    simp; omega
  | succ k ih =>
    intro h
    have h0 : m ≠ 0 := by intro e; rw [e, dig_zero] at h; simp at h
    rw [dig_pos h0] at h
    have := ih (m / 4294967296) (by simpa using h)
    rw [Nat.pow_succ]
    have h2 := Nat.mul_le_mul_right 4294967296 this
    omega
theorem len_less {m k : Nat} (h : (dig m).length < (dig k).length) : m < k := by
  have h1 := dig_low m
  have h2 := dig_high k ((dig k).length - 1) (by omega)
  have h3 : 4294967296 ^ (dig m).length ≤ 4294967296 ^ ((dig k).length - 1) := Nat.pow_le_pow_right (by decide) (by omega)
  omega
theorem word_less {m k i : Nat} (hl : (dig m).length = (dig k).length) (hi : i < (dig m).length) (hab : ∀ j, i + 1 ≤ j → j < (dig m).length → (dig m).getD j 0 = (dig k).getD j 0) (h : (dig m).getD i 0 < (dig k).getD i 0) : m < k := by
  have h1 := nf_top (f := fun j => (dig m).getD j 0) (g := fun j => (dig k).getD j 0) (i := i) (fun j _ => dig_word m j) h
  have h2 := nf_above h1 (n := (dig m).length) (by omega) hab
  rw [dig_nf] at h2
  rw [hl, dig_nf] at h2
  exact h2
theorem same_words {m k : Nat} (hl : (dig m).length = (dig k).length) (h : ∀ j, j < (dig m).length → (dig m).getD j 0 = (dig k).getD j 0) : m = k := by
  apply dig_inj
  apply List.ext_getElem hl
  intro i h1 h2
  have := h i h1
  simpa [List.getD, List.getElem?_eq_getElem h1, List.getElem?_eq_getElem h2] using this

theorem cmp3_lt {x y : Int} (h : x < y) : cmp3 x y = -1 := by unfold cmp3; rw [if_pos h]
theorem cmp3_gt {x y : Int} (h : y < x) : cmp3 x y = 1 := by unfold cmp3; rw [if_neg (by omega), if_pos h]
theorem cmp3_eq (x : Int) : cmp3 x x = 0 := by unfold cmp3; rw [if_neg (by omega), if_neg (by omega)]

theorem drew2 (w : World) (a b : Nat) : (w.drewN a).drewN b = w.drewN (a + b) := by simp [World.drewN, Nat.add_assoc]
theorem drew3 (w : World) (a b c : Nat) : ((w.drewN a).drewN b).drewN c = w.drewN (a + b + c) := by rw [drew2, drew2, Nat.add_assoc]

/-- A comparison was answered; only draws were made. -/
def CmpPost (w : World) (m k : Nat) (e : Ending) (w' : World) : Prop := e = .returned (.int .i64 (cmp3 m k)) ∧ ∃ q, w' = w.drewN q

set_option maxHeartbeats 1000000 in
theorem bigcmp_any (a b : Option Addr) (n k ca cb m1 m2 : Nat) (w : World) (ha : Ru w a n ca (dig m1)) (hb : Ru w b k cb (dig m2)) (hn : n ≤ 100) (hk : k ≤ 100) :
    Calls Tryd.prog 85 #[.slice a n ca, .slice b k cb] w fun e w' => CmpPost w m1 m2 e w' := by
  have el1 := ha.len
  have el2 := hb.len
  by_cases hl : n = k
  · subst hl
    have HA : Hid (Ru w a n ca (dig m1)) := ha
    have HB : Hid (Ru w b n cb (dig m2)) := hb
    have hne : ((n : Int) != (n : Int)) = false := by simp
    have HL : Hid ((dig m1).length = n ∧ (dig m2).length = n) := ⟨el1, el2⟩
    clear ha hb el1 el2
    go_enter Tryd.func85, Tryd.ntmps85
    go_wp2_with fail
    go_loopw [5] (fun v wr => ∃ i q : Nat, i ≤ n ∧ v = .int .i64 ((i : Int) - 1) ∧ wr = w.drewN q ∧ ∀ j, i ≤ j → j < n → (dig m1).getD j 0 = (dig m2).getD j 0) (fun v _ => (intOf v + 1).toNat)
    case atStart => exact ⟨n, 0, Nat.le_refl _, rfl, rfl, fun j h1 h2 => by omega⟩
    case round =>
      obtain ⟨i, q, hin, rfl, rfl, hab⟩ := hrel
      have HAB : Hid (∀ j, i ≤ j → j < n → (dig m1).getD j 0 = (dig m2).getD j 0) := hab
      clear hab
      by_cases hi0 : i = 0
      · subst hi0
        have HE : Hid (cmp3 (m1 : Int) (m2 : Int) = 0) := by
          have e : m1 = m2 := same_words (by rw [HL.out.1, HL.out.2]) fun j hj => HAB.out j (Nat.zero_le _) (by rw [HL.out.1] at hj; exact hj)
          have goal : cmp3 (m1 : Int) (m2 : Int) = 0 := by rw [e]; exact cmp3_eq _
          exact goal
        go_wp2_with fail
        go_ret
        exact ⟨by rw [HE.out]; rfl, q, rfl⟩
      · obtain ⟨g, rfl⟩ : ∃ g, i = g + 1 := ⟨i - 1, by omega⟩
        have eg : ((g + 1 : Nat) : Int) - 1 = (g : Int) := by omega
        rw [eg]
        obtain ⟨ba, oa, rfl, hca⟩ := HA.out.at (i := g) (by omega)
        obtain ⟨bb, ob, rfl, hcb⟩ := HB.out.at (i := g) (by omega)
        have hca' : (w.drewN q).cell? ⟨ba, oa + g, none⟩ = some (.int .u32 (((dig m1).getD g 0 : Nat) : Int)) := hca
        have hcb' : (w.drewN q).cell? ⟨bb, ob + g, none⟩ = some (.int .u32 (((dig m2).getD g 0 : Nat) : Int)) := hcb
        have gn : (g : Int) < (n : Int) := by omega
        by_cases he : (dig m1).getD g 0 = (dig m2).getD g 0
        · rw [he] at hca' hca
          have HN : Hid (∀ j, g ≤ j → j < n → (dig m1).getD j 0 = (dig m2).getD j 0) := fun j h1 h2 => by
            by_cases e : j = g
            · rw [e]; exact he
            · exact HAB.out j (by omega) h2
          clear he eg
          generalize (((dig m2).getD g 0 : Nat) : Int) = y at *
          have hyy : (y != y) = false := by simp
          go_wp2_with fail
          go_quiet (fail)
          go_wp2_with fail
          go_roundw
          case rel => exact ⟨g, _, by omega, by go_num, rfl, HN.out⟩
          case measure => first | (simp [intOf]; done) | (simp [intOf]; omega)
        · have hnb : ((((dig m1).getD g 0 : Nat) : Int) != (((dig m2).getD g 0 : Nat) : Int)) = true := bne_iff_ne.2 (by omega)
          by_cases hlt : (dig m1).getD g 0 < (dig m2).getD g 0
          · have HE : Hid (cmp3 (m1 : Int) (m2 : Int) = -1) := by
              have e := word_less (m := m1) (k := m2) (i := g) (by rw [HL.out.1, HL.out.2]) (by rw [HL.out.1]; omega) (fun j h1 h2 => HAB.out j h1 (by rw [HL.out.1] at h2; exact h2)) hlt
              have goal : cmp3 (m1 : Int) (m2 : Int) = -1 := cmp3_lt (by omega)
              exact goal
            have hd : decide ((((dig m1).getD g 0 : Nat) : Int) < (((dig m2).getD g 0 : Nat) : Int)) = true := decide_eq_true (by omega)
            clear he eg hlt
            generalize (((dig m1).getD g 0 : Nat) : Int) = x at *
            generalize (((dig m2).getD g 0 : Nat) : Int) = y at *
            go_wp2_with fail
            go_quiet (fail)
            go_wp2_with fail
            go_quiet (fail)
            go_wp2_with fail
            go_ret
            exact ⟨by rw [HE.out]; rfl, _, drew3 _ _ _ _⟩
          · have HE : Hid (cmp3 (m1 : Int) (m2 : Int) = 1) := by
              have e := word_less (m := m2) (k := m1) (i := g) (by rw [HL.out.1, HL.out.2]) (by rw [HL.out.2]; omega) (fun j h1 h2 => (HAB.out j h1 (by rw [HL.out.2] at h2; exact h2)).symm) (by omega)
              have goal : cmp3 (m1 : Int) (m2 : Int) = 1 := cmp3_gt (by omega)
              exact goal
            have hd : decide ((((dig m1).getD g 0 : Nat) : Int) < (((dig m2).getD g 0 : Nat) : Int)) = false := decide_eq_false (by omega)
            clear he eg hlt
            generalize (((dig m1).getD g 0 : Nat) : Int) = x at *
            generalize (((dig m2).getD g 0 : Nat) : Int) = y at *
            go_wp2_with fail
            go_quiet (fail)
            go_wp2_with fail
            go_quiet (fail)
            go_wp2_with fail
            go_ret
            exact ⟨by rw [HE.out]; rfl, _, drew3 _ _ _ _⟩
  · have hne : ((n : Int) != (k : Int)) = true := bne_iff_ne.2 (by omega)
    by_cases hlt : n < k
    · have HE : Hid (cmp3 (m1 : Int) (m2 : Int) = -1) := by
        have e := len_less (m := m1) (k := m2) (by rw [el1, el2]; exact hlt)
        have goal : cmp3 (m1 : Int) (m2 : Int) = -1 := cmp3_lt (by omega)
        exact goal
      have hd : (n : Int) < (k : Int) := by omega
      clear ha hb el1 el2
      go_enter Tryd.func85, Tryd.ntmps85
      go_wp2_with fail
      go_ret
      exact ⟨by rw [HE.out]; rfl, 0, rfl⟩
    · have HE : Hid (cmp3 (m1 : Int) (m2 : Int) = 1) := by
        have e := len_less (m := m2) (k := m1) (by rw [el1, el2]; omega)
        have goal : cmp3 (m1 : Int) (m2 : Int) = 1 := cmp3_gt (by omega)
        exact goal
      have hd : ¬ (n : Int) < (k : Int) := by omega
      clear ha hb el1 el2
      go_enter Tryd.func85, Tryd.ntmps85
      go_wp2_with fail
      go_ret
      exact ⟨by rw [HE.out]; rfl, 0, rfl⟩

end Go.Proofs.YtmpjmcfgikmgnaaDoor.words
namespace Go.Proofs.YtmpjmcfgikmgnaaDoor.words
open Go.RowKit
set_option maxRecDepth 100000

theorem big96_val {a b c : Nat} : ((big96V a b c : Nat) : Int) = W3.val ⟨a, b, c⟩ := by
  unfold big96V W3.val
  simp only
  omega
theorem big96_len {a b c : Nat} (ha : a < 4294967296) (hb : b < 4294967296) (hc : c < 4294967296) : (dig (big96V a b c)).length ≤ 100 := by
  refine len100 ?_
  have : big96V a b c < 4294967296 ^ 3 := by unfold big96V; omega
  exact Nat.lt_of_lt_of_le this (Nat.pow_le_pow_right (by decide) (by decide))

end Go.Proofs.YtmpjmcfgikmgnaaDoor.words
