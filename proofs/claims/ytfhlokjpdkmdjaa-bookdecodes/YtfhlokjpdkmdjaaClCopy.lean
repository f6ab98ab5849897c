/- Copies of words. -/
import Derived.Test.YtfhlokjpdkmdjaaClGvU
namespace Go.Proofs.Ytfhlokjpdkmdjaa.cell
open Go.RowKit
set_option maxRecDepth 100000

set_option maxHeartbeats 400000 in
theorem words_any (a : Option Addr) (len cap : Nat) (zs : List Int) (w : World) (hr : RowU w a len zs) (hn : a = none → cap = 0) (hl : len * 4 ≤ 140737488351232) :
    Calls Try.prog 12 #[.slice a len cap] w fun e w' => GaveU w zs e w' := by
  obtain ⟨i0, hi, hz0, hz1, hz2⟩ := info_parts info_u32
  obtain ⟨hz, hr⟩ := hr
  cases a with
  | none =>
    have hc := hn rfl
    have h0 : len = 0 := by rcases hr with h | ⟨b, off, h, _⟩; exact h; cases h
    subst hc h0
    obtain rfl : zs = [] := List.eq_nil_of_length_eq_zero hz
    have happ : ∀ w : World, (Builtin.append_ #[28, 28] 28 #[.slice none 0 0, .slice none 0 0]).run Try.prog w = .ok (.slice none 0 0) w := fun w => by kernel_rfl
    go_enter Try.func12, Try.ntmps12
    go_wp2
    go_ret
    exact GaveU.mk (Ws.zero _ _) (Below.refl _ _)
  | some x =>
    go_enter Try.func12, Try.ntmps12
    go_wp2_with (first
      | (at_builtin; refine wpList_append_own _ rfl _ _ 28 rfl w.heap.size 67 i0 (.int .u32 0) 1 4 Try.underlying28 hi hz0 hz1 hz2 rfl (by decide) _ _ _ rfl (World.ownsRow_nil _ _ _ _) x len cap (zs.map (.int .u32)) rfl ?c0 ?c1 ?c2 ?c3 ?c4 ?c5 ?_)
      | go_in)
    case c0 => simp [hz]
    case c5 => exact Nat.le_refl _
    case c1 =>
      intro j u hu
      rcases hr with h | ⟨b, off, h, hc⟩
      · rw [List.getElem?_eq_none (by simp; omega)] at hu; cases hu
      · obtain rfl := Option.some.inj h
        by_cases hj : j < zs.length
        · simp [List.getElem?_eq_getElem hj] at hu
          subst hu
          have := hc j (by omega)
          simpa [Addr.add_lit, List.getD, List.getElem?_eq_getElem hj] using this
        · rw [List.getElem?_eq_none (by simp; omega)] at hu; cases hu
    case c2 => intro u hu; obtain ⟨z, _, rfl⟩ := List.mem_map.1 hu; rfl
    case c3 => unfold maxLen; omega
    case c4 => omega
    intro v' w' hown hg _
    have HW : Hid (Ws w' w.heap.size v' zs) := by show w'.ownsRow _ _ _ _ _ _; rw [hz]; simpa using hown
    have HG : Hid (Below w.heap.size w w') := (Below.refl _ _).grown hg (Nat.le_refl _) (fun k hk => by simp [Value.ownBlock] at hk)
    clear hown hg
    go_wp2
    go_ret
    exact GaveU.mk HW.out HG.out

end Go.Proofs.Ytfhlokjpdkmdjaa.cell
