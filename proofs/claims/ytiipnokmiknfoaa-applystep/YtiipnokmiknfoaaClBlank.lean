/- Words that are blank. -/
import Derived.Test.YtiipnokmiknfoaaClRow
import Derived.Deep.OwnRows
namespace Go.Proofs.Ytiipnokmiknfoaa.cell
open Go.RowKit
set_option maxRecDepth 100000

theorem may_yes (n : Int) (w : World) (h1 : 1 ≤ n) (h2 : n ≤ 2048) :
    Calls Try.prog 21 #[.int .i64 n] w fun e w' => e = .returned (.bool true) ∧ w' = w := by
  go_enter Try.func21, Try.ntmps21
  go_wp2
  go_ret
  exact ⟨rfl, rfl⟩
theorem may_no (n : Int) (w : World) (h : n < 1 ∨ 2048 < n) :
    Calls Try.prog 21 #[.int .i64 n] w fun e w' => e = .returned (.bool false) ∧ w' = w := by
  by_cases h0 : n < 1
  · clear h
    go_enter Try.func21, Try.ntmps21
    go_wp2
    go_ret
    exact ⟨rfl, rfl⟩
  · have h1 : 1 ≤ n := by omega
    have h2 : decide (n ≤ 2048) = false := by simp; omega
    clear h h0
    go_enter Try.func21, Try.ntmps21
    go_wp2
    go_ret
    exact ⟨rfl, rfl⟩
theorem in_yes (n lo hi : Int) (w : World) (h1 : lo ≤ n) (h2 : n ≤ hi) :
    Calls Try.prog 22 #[.int .i64 n, .int .i64 lo, .int .i64 hi] w fun e w' => e = .returned (.bool true) ∧ w' = w := by
  go_enter Try.func22, Try.ntmps22
  go_wp2
  go_ret
  exact ⟨rfl, rfl⟩
theorem in_no (n lo hi : Int) (w : World) (h : n < lo ∨ hi < n) :
    Calls Try.prog 22 #[.int .i64 n, .int .i64 lo, .int .i64 hi] w fun e w' => e = .returned (.bool false) ∧ w' = w := by
  by_cases h0 : n < lo
  · clear h
    go_enter Try.func22, Try.ntmps22
    go_wp2
    go_ret
    exact ⟨rfl, rfl⟩
  · have h1 : lo ≤ n := by omega
    have h2 : decide (n ≤ hi) = false := by simp; omega
    clear h h0
    go_enter Try.func22, Try.ntmps22
    go_wp2
    go_ret
    exact ⟨rfl, rfl⟩

/-- A row of words in a block of its own. -/
def arr (zs : List Int) : Array Value := (zs.map (Value.int .u32)).toArray
theorem arr_set (zs : List Int) (i : Nat) (v : Int) : (arr zs).setIfInBounds i (.int .u32 v) = arr (zs.set i v) := by
  unfold arr
  apply Array.ext'
  simp [List.map_set]
theorem Blk.rowU {w : World} {G n : Nat} {zs : List Int} {t : TypeId} (h : Blk w G (arr zs) t) (hn : zs.length = n) : RowU w (some ⟨G, 0, none⟩) n zs := by
  refine ⟨hn, .inr ⟨G, 0, rfl, fun i hi => ?_⟩⟩
  rw [Nat.zero_add, h.cell i]
  unfold arr
  simp [List.getD, show i < zs.length by omega]
theorem Blk.word {w : World} {G : Nat} {zs : List Int} {t : TypeId} (h : Blk w G (arr zs) t) (i : Nat) (hi : i < zs.length) : w.cell? ⟨G, i, none⟩ = some (.int .u32 (zs.getD i 0)) := by
  rw [h.cell i]
  unfold arr
  simp [List.getD, hi]
theorem made_zero (n : Nat) : madeCells (Value.int .u32 0).cells (n * 1) = arr (List.replicate n 0) := by
  unfold madeCells arr
  apply Array.ext'
  simp [Value.cells]
  apply List.ext_getElem
  · simp
  · intro i h1 h2
    simp [Nat.mod_one]
/-- Words and an answer were given back. -/
def GaveR (w : World) (zs : List Int) (c : Int) (e : Ending) (w' : World) : Prop :=
  ∃ a cap, e = .returned (.tuple #[.slice a zs.length cap, .int .i64 c]) ∧ RowU w' a zs.length zs ∧ (a = none → cap = 0) ∧ Below w.heap.size w w'
theorem GaveR.mk {w w' : World} {zs : List Int} {c : Int} {a : Option Addr} {n cap : Nat} (hr : RowU w' a n zs) (hn : a = none → cap = 0) (hb : Below w.heap.size w w') : GaveR w zs c (.returned (.tuple #[.slice a n cap, .int .i64 c])) w' := by
  obtain ⟨h1, h2⟩ := hr
  subst h1
  exact ⟨a, cap, rfl, ⟨rfl, h2⟩, hn, hb⟩
theorem make_u32 (n : Nat) (h : n ≤ 100000) (w : World) : (Instr.makeSlice 22 (.int .i64 (n : Int)) (.int .i64 (n : Int))).run Try.prog w = .ok (.slice (some ⟨w.heap.size, 0, none⟩) n n) (w.alloc (.cells (arr (List.replicate n 0)) 39)) := by
  obtain ⟨i0, hi, hz0, hz1, hz2⟩ := info_parts info_u32
  have := run_make (P := Try.prog) w 22 39 i0 (.int .u32 0) Try.underlying22 hi hz0 .i64 .i64 n n (by omega) (by omega) (by rw [hz2]; omega) (by omega)
  rw [hz1] at this
  simp only [Int.toNat_natCast] at this
  rw [made_zero] at this
  exact this

theorem blank_yes (n : Nat) (w : World) (h1 : 1 ≤ n) (h2 : n ≤ 2048) :
    Calls Try.prog 8 #[.int .i64 (n : Int)] w fun e w' => GaveR w (List.replicate n 0) 0 e w' := by
  have HM : Hid (∀ W, Calls Try.prog 21 #[.int .i64 (n : Int)] W fun e w' => e = .returned (.bool true) ∧ w' = W) := fun W => may_yes _ W (by omega) (by omega)
  have hmk : ∀ W : World, (Instr.makeSlice 22 (.int .i64 (n : Int)) (.int .i64 (n : Int))).run Try.prog W = .ok (.slice (some ⟨W.heap.size, 0, none⟩) n n) (W.alloc (.cells (arr (List.replicate n 0)) 39)) := make_u32 n (by omega)
  have HL : Hid ((List.replicate n (0 : Int)).length = n) := List.length_replicate
  generalize List.replicate n (0 : Int) = zs at *
  go_enter Try.func8, Try.ntmps8
  go_wp2_with fail
  refine (HM.out _).mono ?_
  rintro e w1 ⟨rfl, rfl⟩
  go_wp2_with fail
  go_ret2
  exact GaveR.mk (Blk.rowU (Blk.new _ _ _) HL.out) (fun h => by cases h) ((Below.refl _ _).alloc (Nat.le_refl _) _)
theorem blank_no (n : Int) (w : World) (h : n < 1 ∨ 2048 < n) :
    Calls Try.prog 8 #[.int .i64 n] w fun e w' => GaveR w [] 1 e w' := by
  have HM : Hid (∀ W, Calls Try.prog 21 #[.int .i64 n] W fun e w' => e = .returned (.bool false) ∧ w' = W) := fun W => may_no _ W h
  clear h
  go_enter Try.func8, Try.ntmps8
  go_wp2_with fail
  refine (HM.out _).mono ?_
  rintro e w1 ⟨rfl, rfl⟩
  go_wp2_with fail
  go_ret2
  exact ⟨none, 0, rfl, RowU.nil _ _, fun _ => rfl, Below.refl _ _⟩


/-- What the document says of blank words. -/
theorem repl_snoc (k : Nat) : List.replicate k (0 : Int) ++ [0] = List.replicate (k + 1) 0 := (List.replicate_succ').symm
set_option maxHeartbeats 1000000 in
theorem blanked_yes (n : Nat) (w : World) (h1 : 1 ≤ n) (h2 : n ≤ 2048) :
    Calls Try.prog 9 #[.int .i64 (n : Int)] w fun e w' => GaveR w (List.replicate n 0) 0 e w' := by
  have HM : Hid (∀ W, Calls Try.prog 22 #[.int .i64 (n : Int), .int .i64 1, .int .i64 2048] W fun e w' => e = .returned (.bool true) ∧ w' = W) := fun W => in_yes _ _ _ W (by omega) (by omega)
  go_enter Try.func9, Try.ntmps9
  go_wp2_with fail
  refine (HM.out _).mono ?_
  rintro e w1 ⟨rfl, rfl⟩
  go_wp2_with fail
  go_loopw [4, 5] (fun v i wr => ∃ (k : Nat) (V : Value), V = v ∧ k ≤ n ∧ i = .int .i64 (k : Int) ∧ Ws wr w1.heap.size V (List.replicate k 0) ∧ Below w1.heap.size w1 wr) (fun _ i _ => n - (intOf i).toNat)
  case atStart => exact ⟨0, _, rfl, Nat.zero_le _, rfl, Ws.zero _ _, Below.refl _ _⟩
  case round =>
    obtain ⟨k, V, hV, hk, rfl, hown, hb⟩ := hrel
    subst hV
    have HO : Hid (Ws wr w1.heap.size V (List.replicate k 0)) := hown
    have HB : Hid (Below w1.heap.size w1 wr) := hb
    clear hown hb
    by_cases hlt : k < n
    · have HG : Hid ((wr.alloc (.cells #[.int .u32 0] 39)).cell? ⟨wr.heap.size, 0, none⟩ = some (.int .u32 0)) := (Blk.new wr #[.int .u32 0] 39).cell 0
      have HOA : Hid (Ws (wr.alloc (.cells #[.int .u32 0] 39)) w1.heap.size V (List.replicate k 0)) := HO.out.alloc _
      have HSZ : Hid (w1.heap.size ≤ (wr.alloc (.cells #[.int .u32 0] 39)).heap.size) := by have := HB.out.size; show _ ≤ _; simp; omega
      go_wp2_with (first
        | (at_builtin; refine wp_word rfl _ _ rfl w1.heap.size wr.heap.size _ (List.replicate k 0) 0 rfl rfl HOA.out HG.out (by simp; omega) HSZ.out ?_)
        | go_in)
      intro v' w4 hL4 hg4
      have HL4 : Hid (Ws w4 w1.heap.size v' (List.replicate (k + 1) 0)) := by rw [repl_snoc] at hL4; exact hL4
      have HB4 : Hid (Below w1.heap.size w1 w4) := own_bel HOA.out hg4 (HB.out.alloc HB.out.size _) (Nat.le_refl _) HSZ.out
      clear hL4 hg4 HOA HO HB HG HSZ
      go_wp2_with fail
      go_roundw
      case rel => exact ⟨k + 1, _, rfl, by omega, by go_num, HL4.out, HB4.out⟩
      case measure => simp [intOf]; omega
    · obtain rfl : k = n := by omega
      obtain ⟨a, cap, rfl, hr, hn, hc⟩ := HO.out.row
      rw [List.length_replicate] at hr
      have HR : Hid (RowU wr a k (List.replicate k 0)) := hr
      have HN : Hid (a = none → cap = 0) := hn
      clear hr hn hc HO
      rw [List.length_replicate]
      go_wp2_with fail
      go_ret2
      exact GaveR.mk HR.out HN.out HB.out
theorem blanked_no (n : Int) (w : World) (h : n < 1 ∨ 2048 < n) :
    Calls Try.prog 9 #[.int .i64 n] w fun e w' => GaveR w [] 1 e w' := by
  have HM : Hid (∀ W, Calls Try.prog 22 #[.int .i64 n, .int .i64 1, .int .i64 2048] W fun e w' => e = .returned (.bool false) ∧ w' = W) := fun W => in_no _ _ _ W h
  clear h
  go_enter Try.func9, Try.ntmps9
  go_wp2_with fail
  refine (HM.out _).mono ?_
  rintro e w1 ⟨rfl, rfl⟩
  go_wp2_with fail
  go_ret2
  exact ⟨none, 0, rfl, RowU.nil _ _, fun _ => rfl, Below.refl _ _⟩

end Go.Proofs.Ytiipnokmiknfoaa.cell
