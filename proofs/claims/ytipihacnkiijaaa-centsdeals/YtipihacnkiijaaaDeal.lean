/- What cents.Deal gives back. -/
import Derived.Test.YtipihacnkiijaaaMost
import Derived.Test.YtipihacnkiijaaaAdd
namespace Go.Proofs.Ytipihacnkiijaaa.cents
open Go.RowKit

theorem caps_drew {w : World} {T W S : Nat} {total all : Int} {a : Option Addr} {len cap : Nat} {zs : List Int} (hc : Caps w T W S total all a len cap zs) : Caps w.drew T W S total all a len cap zs :=
  ⟨hc.c1, hc.c2, hc.c3, hc.row⟩

/-- The share of place k, rounded down. -/
def share (total all : Int) (zs : List Int) (k : Nat) : Int := total * zs.getD k 0 / all
/-- How many of the first t places are the place i. -/
def bump (f : Nat → Int) : Nat → Nat → Int
  | 0, _ => 0
  | t + 1, i => bump f t i + (if f t = (i : Int) then 1 else 0)

set_option maxHeartbeats 1000000 in
theorem deal_size (total : Int) (a : Option Addr) (len cap : Nat) (w : World) (h : len = 0 ∨ 50 < len) (hl : len * 8 ≤ 140737488351232) :
    Calls Try.prog 10 #[.int .i64 total, .slice a len cap] w fun e w' => e = .returned (.tuple #[.slice none 0 0, .int .i64 1]) ∧ Below w.heap.size w w' := by
  by_cases h0 : len = 0
  · subst h0
    go_enter Try.func10, Try.ntmps10
    go_wp2_with fail
    go_ret2
    exact ⟨rfl, bel2 _ _ _⟩
  · have h1 : ((len : Int) == 0) = false := by simp; omega
    have h2 : (50 : Int) < (len : Int) := by omega
    clear h h0
    go_enter Try.func10, Try.ntmps10
    go_wp2_with fail
    go_ret2
    exact ⟨rfl, bel2 _ _ _⟩

theorem bel3 (w : World) (o1 o2 o3 : Obj) : Below w.heap.size w (((w.alloc o1).alloc o2).alloc o3) := (bel2 w o1 o2).alloc (by simp; omega) _
theorem bel4 (w : World) (o1 o2 o3 o4 : Obj) : Below w.heap.size w ((((w.alloc o1).alloc o2).alloc o3).alloc o4) := (bel3 w o1 o2 o3).alloc (by simp; omega) _

set_option maxHeartbeats 1000000 in
theorem deal_range (total : Int) (a : Option Addr) (len cap : Nat) (zs : List Int) (w : World) (hr : Row w a len zs) (h0 : 0 < len) (h1 : len ≤ 50) (h : (total < 0 ∨ 1000000000000 < total) ∨ okAll 0 1000000 zs = false) :
    Calls Try.prog 10 #[.int .i64 total, .slice a len cap] w fun e w' => e = .returned (.tuple #[.slice none 0 0, .int .i64 2]) ∧ Below w.heap.size w w' := by
  have e1 : ((len : Int) == 0) = false := by simp; omega
  have HR : Hid (Row w a len zs) := hr
  clear hr
  by_cases ht : total < 0 ∨ 1000000000000 < total
  · clear h
    go_enter Try.func10, Try.ntmps10
    go_wp2_with fail
    refine (within_one_no _ _ _ _ _ (by simp) ht).mono ?_
    rintro e w' ⟨rfl, rfl⟩
    clear ht
    go_wp2_with fail
    go_ret2
    exact ⟨rfl, bel3 _ _ _ _⟩
  · have hok : okAll 0 1000000 zs = false := by rcases h with h | h; exact absurd h ht; exact h
    have t0 : 0 ≤ total := by omega
    have t1 : total ≤ 1000000000000 := by omega
    have HK : Hid (okAll 0 1000000 zs = false) := hok
    clear h ht hok
    go_enter Try.func10, Try.ntmps10
    go_wp2_with fail
    refine (within_one_yes _ _ _ _ _ (by simp) t0 t1).mono ?_
    rintro e w' ⟨rfl, rfl⟩
    go_wp2_with fail
    refine (within_any 0 1000000 a len cap zs _ (HR.out.below (bel3 _ _ _ _)) (by unfold maxLen; omega)).mono ?_
    rintro e w' ⟨rfl, rfl⟩
    rw [HK.out]
    go_wp2_with fail
    go_ret2
    exact ⟨rfl, bel3 _ _ _ _⟩

theorem okW {zs : List Int} (h : okAll 0 1000000 zs = true) : ∀ z ∈ zs, 0 ≤ z ∧ z ≤ 1000000 := okAll_bd h

set_option maxHeartbeats 1000000 in
theorem deal_zero (total : Int) (a : Option Addr) (len cap : Nat) (zs : List Int) (w : World) (hr : Row w a len zs) (h0 : 0 < len) (h1 : len ≤ 50) (t0 : 0 ≤ total) (t1 : total ≤ 1000000000000) (hok : okAll 0 1000000 zs = true) (hs : zs.sum = 0) :
    Calls Try.prog 10 #[.int .i64 total, .slice a len cap] w fun e w' => e = .returned (.tuple #[.slice none 0 0, .int .i64 4]) ∧ Below w.heap.size w w' := by
  have e1 : ((len : Int) == 0) = false := by simp; omega
  have HR : Hid (Row w a len zs) := hr
  have HK : Hid (okAll 0 1000000 zs = true) := hok
  have HS : Hid (zs.sum = 0) := hs
  clear hr hok hs
  go_enter Try.func10, Try.ntmps10
  go_wp2_with fail
  refine (within_one_yes _ _ _ _ _ (by simp) t0 t1).mono ?_
  rintro e w' ⟨rfl, rfl⟩
  go_wp2_with fail
  refine (within_any 0 1000000 a len cap zs _ (HR.out.below (bel3 _ _ _ _)) (by unfold maxLen; omega)).mono ?_
  rintro e w' ⟨rfl, rfl⟩
  rw [HK.out]
  go_wp2_with fail
  refine (add_any a len cap zs _ (HR.out.below (bel3 _ _ _ _)) h1 (fun z hz => by have := okW HK.out z hz; omega)).mono ?_
  rintro e w' ⟨rfl, rfl⟩
  rw [HS.out]
  go_wp2_with fail
  go_ret2
  exact ⟨rfl, bel4 _ _ _ _ _⟩

end Go.Proofs.Ytipihacnkiijaaa.cents
