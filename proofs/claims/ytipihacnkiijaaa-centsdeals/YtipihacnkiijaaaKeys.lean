/- The comparison of two places by what was rounded away of their shares. -/
import Derived.Test.YtipihacnkiijaaaStable
import Derived.Deep.RegionWith
namespace Go.Proofs.Ytipihacnkiijaaa.cents
open Go.RowKit

/-- What was rounded away at place z. -/
def lost (total all : Int) (zs : List Int) (z : Int) : Int := total * zs.getD z.toNat 0 % all

/-- What the closure of Deal holds: the total, the weights and their sum, each in a variable of its own. -/
structure Caps (w : World) (T W S : Nat) (total all : Int) (a : Option Addr) (len cap : Nat) (zs : List Int) : Prop where
  c1 : w.cell? ⟨T, 0, none⟩ = some (.int .i64 total)
  c2 : w.cell? ⟨W, 0, none⟩ = some (.slice a len cap)
  c3 : w.cell? ⟨S, 0, none⟩ = some (.int .i64 all)
  row : Row w a len zs

structure Fit (total all : Int) (len : Nat) (zs : List Int) : Prop where
  t0 : 0 ≤ total
  t1 : total ≤ 1000000000000
  w0 : ∀ z ∈ zs, 0 ≤ z ∧ z ≤ 1000000
  a0 : 0 < all
  a1 : all ≤ 50000000
  l0 : len ≤ 50

abbrev lostV (T W S : Nat) : Value := .func (.func 21) #[] #[.pointer (some ⟨T, 0, none⟩), .pointer (some ⟨W, 0, none⟩), .pointer (some ⟨S, 0, none⟩)]

set_option maxHeartbeats 1000000 in
theorem lost_any {w : World} {T W S : Nat} {total all : Int} {a : Option Addr} {len cap : Nat} {zs : List Int} (hc : Caps w T W S total all a len cap zs) (hf : Fit total all len zs) (z : Int) (h0 : 0 ≤ z) (h1 : z < len) :
    Calls Try.prog 21 #[.int .i64 z, .pointer (some ⟨T, 0, none⟩), .pointer (some ⟨W, 0, none⟩), .pointer (some ⟨S, 0, none⟩)] w fun e w' => e = .returned (.int .i64 (lost total all zs z)) ∧ ∃ q, w' = w.drewN q := by
  obtain ⟨k, rfl⟩ := Int.eq_ofNat_of_zero_le h0
  have hk : k < len := by omega
  obtain ⟨c1, c2, c3, hz, hr⟩ := hc
  rcases hr with hr | ⟨b, off, rfl, hcell⟩
  · omega
  have ck := hcell k hk
  have hzk := hf.w0 (zs.getD k 0) (by simp [List.getD, List.getElem?_eq_getElem (show k < zs.length by omega)])
  have hp := prod_bd total (zs.getD k 0) _ _ hf.t0 hf.t1 hzk.1 hzk.2
  have ha0 := hf.a0
  have ha1 := hf.a1
  have e : lost total all zs (k : Int) = total * zs.getD k 0 % all := by unfold lost; simp
  rw [e]
  clear hcell e hf hzk
  generalize zs.getD k 0 = y at *
  obtain ⟨p1, p2⟩ := hp
  go_enter Try.func21, Try.ntmps21
  go_wp2_with fail
  go_quiet (fail)
  go_wp2_with fail
  go_ret
  exact ⟨rfl, _, rfl⟩

theorem compare_any (key : Int → Int) (x y : Int) (w : World) :
    Calls Try.prog 35 #[.int .i64 (key y), .int .i64 (key x)] w fun e w' => e = .returned (.int .i64 (cv key x y)) ∧ w' = w := by
  unfold cv
  generalize key x = p
  generalize key y = q
  by_cases h1 : q < p
  · rw [if_pos h1]
    go_enter Try.func35, Try.ntmps35
    go_wp2
    go_ret
    exact ⟨rfl, rfl⟩
  · rw [if_neg h1]
    by_cases h2 : p < q
    · rw [if_pos h2]
      go_enter Try.func35, Try.ntmps35
      go_wp2
      go_ret
      exact ⟨rfl, rfl⟩
    · rw [if_neg h2]
      go_enter Try.func35, Try.ntmps35
      go_wp2
      go_ret
      exact ⟨rfl, rfl⟩

theorem Caps.drewN {w : World} {T W S : Nat} {total all : Int} {a : Option Addr} {len cap : Nat} {zs : List Int} (hc : Caps w T W S total all a len cap zs) (N : Nat) : Caps (w.drewN N) T W S total all a len cap zs :=
  ⟨hc.c1, hc.c2, hc.c3, hc.row⟩

set_option maxHeartbeats 1000000 in
theorem cmp_any {w : World} {T W S B : Nat} {total all : Int} {a : Option Addr} {len cap : Nat} {zs : List Int} (hc : Caps w T W S total all a len cap zs) (hf : Fit total all len zs) (hB : w.cell? ⟨B, 0, none⟩ = some (lostV T W S)) (x y : Int)
    (x0 : 0 ≤ x) (x1 : x < len) (y0 : 0 ≤ y) (y1 : y < len) :
    Calls Try.prog 34 #[.int .i64 x, .int .i64 y, .pointer (some ⟨B, 0, none⟩)] w fun e w' => e = .returned (.int .i64 (cv (lost total all zs) x y)) ∧ ∃ q, w' = w.drewN q := by
  have HY : Hid (∀ N, Calls Try.prog 21 #[.int .i64 y, .pointer (some ⟨T, 0, none⟩), .pointer (some ⟨W, 0, none⟩), .pointer (some ⟨S, 0, none⟩)] (w.drewN N) fun e w' => e = .returned (.int .i64 (lost total all zs y)) ∧ ∃ q, w' = (w.drewN N).drewN q) := fun N => lost_any (hc.drewN N) hf y y0 y1
  have HX : Hid (∀ N, Calls Try.prog 21 #[.int .i64 x, .pointer (some ⟨T, 0, none⟩), .pointer (some ⟨W, 0, none⟩), .pointer (some ⟨S, 0, none⟩)] (w.drewN N) fun e w' => e = .returned (.int .i64 (lost total all zs x)) ∧ ∃ q, w' = (w.drewN N).drewN q) := fun N => lost_any (hc.drewN N) hf x x0 x1
  clear hc hf
  by_cases e : x = y
  · subst e
    go_enter Try.func34, Try.ntmps34
    go_wp2_with fail
    go_quiet (first
      | (go_at_call 21; exact Calls.quiet_of (HX.out _))
      | (go_at_call 35; exact Calls.quiet_of_same (compare_any _ _ _ _)))
    go_wp2_with fail
    go_ret
    exact ⟨rfl, _, rfl⟩
  · clear e
    go_enter Try.func34, Try.ntmps34
    go_wp2_with fail
    go_quiet (first
      | (go_at_call_of 21 (Value.int .i64 y); exact Calls.quiet_of (HY.out _))
      | (go_at_call_of 21 (Value.int .i64 x); exact Calls.quiet_of (HX.out _))
      | (go_at_call 35; exact Calls.quiet_of_same (compare_any _ _ _ _)))
    go_wp2_with fail
    go_ret
    exact ⟨rfl, _, rfl⟩

end Go.Proofs.Ytipihacnkiijaaa.cents
