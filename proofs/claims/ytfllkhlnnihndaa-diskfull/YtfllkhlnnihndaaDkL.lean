/- Disks: how long the record is that begins at a place, as the document says. -/
import Derived.Test.YtfllkhlnnihndaaDkN
import Derived.Test.YtfllkhlnnihndaaWRow
import Derived.WalkKit
import Derived.Test.YtfllkhlnnihndaaProg
namespace Go.Proofs.Ytfllkhlnnihndaa.disk
open Go.RowKit Go.Proofs.Ytfllkhlnnihndaa.cell
set_option maxRecDepth 100000
set_option linter.unusedVariables false

set_option maxHeartbeats 1000000 in
theorem length_any (a : Option Addr) (n cap p : Nat) (c : List Int) (w : World) (h : RowU w a n c) (hn : n ≤ 2048) (hp : p ≤ n) (hw : ∀ x ∈ c, 0 ≤ x ∧ x < 4294967296) :
    Calls Try.prog 27 #[.slice a n cap, .int .i64 (p : Int)] w fun e w' => e = .returned (.int .i64 (lenAt c p)) ∧ w' = w := by
  have hl := h.1
  by_cases h0 : p = n
  · have hz : lenAt c p = 0 := by unfold lenAt; rw [if_pos (.inl (by omega))]
    rw [hz]
    have e0 : ((p : Int) == (n : Int)) = true := by simp; omega
    clear hz h hw hl hp
    go_enter Try.func27, Try.ntmps27
    go_wp2_with fail
    go_ret
    exact ⟨rfl, rfl⟩
  · obtain ⟨b, o, rfl, lb, hc⟩ := h.at (by omega)
    have c0 := hc p (by omega)
    have hlt : p < n := by omega
    have e0 : ((p : Int) == (n : Int)) = false := by simp; omega
    have hz := hw (c.getD p 0) (by rw [List.getD_eq_getElem?_getD, List.getElem?_eq_getElem (by omega)]; exact List.getElem_mem _)
    have HL : Hid (lenAt c p = if p = c.length ∨ c.getD p 0 = 0 then 0 else if 64 < c.getD p 0 then -1 else if (c.length : Int) ≤ p + c.getD p 0 then -1 else c.getD p 0) := rfl
    have HN : Hid (c.length = n) := hl
    generalize c.getD p 0 = z at *
    obtain ⟨z0, z1⟩ := hz
    clear h hw hc lb hp h0 hl
    by_cases h1 : z = 0
    · have hv : lenAt c p = 0 := by rw [HL.out, if_pos (.inr h1)]
      rw [hv]
      subst h1
      clear hv HL
      go_enter Try.func27, Try.ntmps27
      go_wp2_with fail
      go_ret
      exact ⟨rfl, rfl⟩
    · have e1 : (z == 0) = false := by simpa using h1
      by_cases h2 : 64 < z
      · have hv : lenAt c p = -1 := by rw [HL.out, if_neg (by have := HN.out; omega), if_pos h2]
        rw [hv]
        clear hv HL h1
        go_enter Try.func27, Try.ntmps27
        go_wp2_with fail
        go_ret
        exact ⟨rfl, rfl⟩
      · have h64 : z ≤ 64 := by omega
        by_cases h3 : (n : Int) ≤ p + z
        · have hv : lenAt c p = -1 := by rw [HL.out, if_neg (by have := HN.out; omega), if_neg h2, if_pos (by have := HN.out; omega)]
          rw [hv]
          clear hv HL h1
          go_enter Try.func27, Try.ntmps27
          go_wp2_with fail
          go_ret
          exact ⟨rfl, rfl⟩
        · have hv : lenAt c p = z := by rw [HL.out, if_neg (by have := HN.out; omega), if_neg h2, if_neg (by have := HN.out; omega)]
          rw [hv]
          clear hv HL h1
          go_enter Try.func27, Try.ntmps27
          go_wp2_with fail
          go_ret
          exact ⟨rfl, rfl⟩

end Go.Proofs.Ytfllkhlnnihndaa.disk
