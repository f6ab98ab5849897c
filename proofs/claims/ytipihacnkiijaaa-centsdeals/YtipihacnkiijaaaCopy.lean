/- The copy of a slice. -/
import Derived.Test.YtipihacnkiijaaaInts
namespace Go.Proofs.Ytipihacnkiijaaa.cents
open Go.RowKit

/-- A slice was given back that reads as zs; nothing that was there has turned. -/
def Gave (w : World) (len : Nat) (zs : List Int) (e : Ending) (w' : World) : Prop :=
  ∃ a' cap', e = .returned (.slice a' len cap') ∧ Row w' a' len zs ∧ Below w.heap.size w w'
theorem Gave.mk {w w' : World} {len : Nat} {zs : List Int} {a' : Option Addr} {cap' : Nat} (h1 : Row w' a' len zs) (h2 : Below w.heap.size w w') : Gave w len zs (.returned (.slice a' len cap')) w' := ⟨a', cap', rfl, h1, h2⟩

set_option maxHeartbeats 400000 in
theorem ints_any (a : Option Addr) (len cap : Nat) (zs : List Int) (w : World) (hr : Row w a len zs) (hn : a = none → cap = 0) (hl : len * 8 ≤ 140737488351232) :
    Calls Try.prog 9 #[.slice a len cap] w fun e w' => Gave w len zs e w' := by
  obtain ⟨i0, hi, hz0, hz1, hz2⟩ := info_parts info_int
  obtain ⟨hz, hr⟩ := hr
  cases a with
  | none =>
    have hc := hn rfl
    have h0 : len = 0 := by rcases hr with h | ⟨b, off, h, _⟩; exact h; cases h
    subst hc h0
    obtain rfl : zs = [] := List.eq_nil_of_length_eq_zero hz
    have happ : ∀ w : World, (Builtin.append_ #[22, 22] 22 #[.slice none 0 0, .slice none 0 0]).run Try.prog w = .ok (.slice none 0 0) w := fun w => by kernel_rfl
    go_enter Try.func9, Try.ntmps9
    go_wp2
    go_ret
    exact Gave.mk ⟨rfl, .inl rfl⟩ (Below.refl _ _)
  | some x =>
    go_enter Try.func9, Try.ntmps9
    go_wp2_with (first
      | (at_builtin; refine wpList_append_own _ rfl _ _ 22 rfl w.heap.size 3 i0 (.int .i64 0) 1 8 Try.underlying22 hi hz0 hz1 hz2 rfl (by decide) _ _ _ rfl (World.ownsRow_nil _ _ _ _) x len cap (zs.map (.int .i64)) rfl ?c0 ?c1 ?c2 ?c3 ?c4 ?c5 ?_)
      | go_in)
    case c0 => simp [hz]
    case c5 => exact Nat.le_refl _
    case c1 =>
      intro j u hu
      rcases hr with h | ⟨b, off, h, hc⟩
      · rw [List.getElem?_eq_none (by simp; omega)] at hu; cases hu
      · obtain rfl := Option.some.inj h
        by_cases hj : j < zs.length
        · simp [List.getElem?_eq_getElem hj] at hu
          subst hu
          have := hc j (by omega)
          simpa [Addr.add_lit, List.getD, List.getElem?_eq_getElem hj] using this
        · rw [List.getElem?_eq_none (by simp; omega)] at hu; cases hu
    case c2 => intro u hu; obtain ⟨z, _, rfl⟩ := List.mem_map.1 hu; rfl
    case c3 => unfold maxLen; omega
    case c4 => omega
    intro v' w' hown hg _
    obtain ⟨a', cap', hv, hrow, _⟩ := own_row (n := len) (zs := zs) (by simpa using hown)
    rw [hv]
    go_wp2
    go_ret
    exact Gave.mk hrow ((Below.refl _ _).grown hg (Nat.le_refl _) (fun k hk => by simp [Value.ownBlock] at hk))

end Go.Proofs.Ytipihacnkiijaaa.cents
