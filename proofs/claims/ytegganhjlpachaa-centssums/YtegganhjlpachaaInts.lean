/- What the small functions over slices of integers give back: the copy of a slice, and whether two slices are alike. -/
import Derived.Test.YtegganhjlpachaaWithin
import Derived.OwnWalk
import Derived.BigRegion
import Derived.DataReads
namespace Go.Proofs.Ytegganhjlpachaa.cents
open Go.RowKit

theorem info_int : (Try.prog.info? 3).map (fun i => (i.zero, i.size, i.bytes)) = some (some (.int .i64 0), 1, 8) := by kernel_rfl

theorem own_row {w : World} {base n : Nat} {v : Value} {zs : List Int} (h : w.ownsRow base 3 1 v n (zs.map (.int .i64))) :
    ∃ a cap, v = .slice a n cap ∧ Row w a n zs ∧ n ≤ cap := by
  have hl : zs.length = n := by simpa using h.1
  rcases h.2 with ⟨rfl, rfl⟩ | ⟨g, cap, cur, rfl, _, _, hc, _⟩
  · exact ⟨none, 0, rfl, ⟨hl, .inl rfl⟩, Nat.le_refl _⟩
  · refine ⟨_, cap, rfl, ⟨hl, .inr ⟨g, 0, rfl, fun i hi => ?_⟩⟩, hc⟩
    have := h.cells (g := g) rfl i (.int .i64 (zs.getD i 0)) (by simp [List.getElem?_eq_getElem (show i < zs.length by omega), List.getD])
    simpa [Addr.add_lit] using this

theorem block_lt {w : World} {a : Addr} {v : Value} (h : w.cell? a = some v) : a.block < w.heap.size := by
  by_cases hh : a.block < w.heap.size
  · exact hh
  · simp [World.cell?, Array.getElem?_eq_none (show w.heap.size ≤ a.block by omega)] at h

theorem Row.below {w w' : World} {a : Option Addr} {n : Nat} {zs : List Int} (h : Row w a n zs) (hb : Below w.heap.size w w') : Row w' a n zs := by
  refine ⟨h.1, ?_⟩
  rcases h.2 with h0 | ⟨b, off, rfl, hc⟩
  · exact .inl h0
  · refine .inr ⟨b, off, rfl, fun i hi => ?_⟩
    have h1 := hc i hi
    have h2 : b < w.heap.size := block_lt h1
    rw [hb.cell (p := ⟨b, off + i, none⟩) h2]
    exact h1

/-- What the frame of a law hands to the walk of a slice that came in, as the contracts want it. -/
theorem arg_of_isRow {w : World} {a : Option Addr} {len cap : Nat} {zs : List Int}
    (h : (a = none ∧ len = 0 ∧ cap = 0 ∧ zs = []) ∨ ∃ x, a = some x ∧ len ≤ cap ∧ cap * 8 ≤ 140737488351232 ∧ zs.length = cap ∧ (∀ i, i < zs.length → w.cell? (x.add i) = some (.int .i64 (zs.getD i 0))) ∧ ∀ n ∈ zs, (Lit.int .i64 n).wf = true) :
    Row w a len (zs.take len) ∧ (a = none → cap = 0) ∧ len * 8 ≤ 140737488351232 := by
  rcases h with ⟨rfl, rfl, rfl, rfl⟩ | ⟨x, rfl, h1, h2, h3, h4, h5⟩
  · exact ⟨⟨rfl, .inl rfl⟩, fun _ => rfl, by omega⟩
  · refine ⟨⟨by rw [List.length_take]; omega, ?_⟩, (fun h => by cases h), by omega⟩
    by_cases h0 : len = 0
    · exact .inl h0
    · refine .inr ?_
      obtain ⟨b, off, spot⟩ := x
      have hs : spot = none := by simpa [Addr.add] using World.cell?_spot (h4 0 (by omega))
      subst hs
      refine ⟨b, off, rfl, fun i hi => ?_⟩
      have := h4 i (by omega)
      rw [Addr.add_lit] at this
      rw [this]
      congr 2
      simp [hi]

/-- A slice was given back that reads as zs; nothing that was there has turned. -/
def Gave (w : World) (len : Nat) (zs : List Int) (e : Ending) (w' : World) : Prop :=
  ∃ a' cap', e = .returned (.slice a' len cap') ∧ Row w' a' len zs ∧ Below w.heap.size w w'
theorem Gave.mk {w w' : World} {len : Nat} {zs : List Int} {a' : Option Addr} {cap' : Nat} (h1 : Row w' a' len zs) (h2 : Below w.heap.size w w') : Gave w len zs (.returned (.slice a' len cap')) w' := ⟨a', cap', rfl, h1, h2⟩

set_option maxHeartbeats 400000 in
theorem ints_any (a : Option Addr) (len cap : Nat) (zs : List Int) (w : World) (hr : Row w a len zs) (hn : a = none → cap = 0) (hl : len * 8 ≤ 140737488351232) :
    Calls Try.prog 8 #[.slice a len cap] w fun e w' => Gave w len zs e w' := by
  obtain ⟨i0, hi, hz0, hz1, hz2⟩ := info_parts info_int
  obtain ⟨hz, hr⟩ := hr
  cases a with
  | none =>
    have hc := hn rfl
    have h0 : len = 0 := by rcases hr with h | ⟨b, off, h, _⟩; exact h; cases h
    subst hc h0
    obtain rfl : zs = [] := List.eq_nil_of_length_eq_zero hz
    have happ : ∀ w : World, (Builtin.append_ #[22, 22] 22 #[.slice none 0 0, .slice none 0 0]).run Try.prog w = .ok (.slice none 0 0) w := fun w => by kernel_rfl
    go_enter Try.func8, Try.ntmps8
    go_wp2
    go_ret
    exact Gave.mk ⟨rfl, .inl rfl⟩ (Below.refl _ _)
  | some x =>
    go_enter Try.func8, Try.ntmps8
    go_wp2_with (first
      | (at_builtin; refine wpList_append_own _ rfl _ _ 22 rfl w.heap.size 3 i0 (.int .i64 0) 1 8 Try.underlying22 hi hz0 hz1 hz2 rfl (by decide) _ _ _ rfl (World.ownsRow_nil _ _ _ _) x len cap (zs.map (.int .i64)) rfl ?c0 ?c1 ?c2 ?c3 ?c4 ?c5 ?_)
      | go_in)
    case c0 => simp [hz]
    case c5 => exact Nat.le_refl _
    case c1 =>
      intro j u hu
      rcases hr with h | ⟨b, off, h, hc⟩
      · rw [List.getElem?_eq_none (by simp; omega)] at hu; cases hu
      · obtain rfl := Option.some.inj h
        by_cases hj : j < zs.length
        · simp [List.getElem?_eq_getElem hj] at hu
          subst hu
          have := hc j (by omega)
          simpa [Addr.add_lit, List.getD, List.getElem?_eq_getElem hj] using this
        · rw [List.getElem?_eq_none (by simp; omega)] at hu; cases hu
    case c2 => intro u hu; obtain ⟨z, _, rfl⟩ := List.mem_map.1 hu; rfl
    case c3 => unfold maxLen; omega
    case c4 => omega
    intro v' w' hown hg _
    obtain ⟨a', cap', hv, hrow, _⟩ := own_row (n := len) (zs := zs) (by simpa using hown)
    rw [hv]
    go_wp2
    go_ret
    exact Gave.mk hrow ((Below.refl _ _).grown hg (Nat.le_refl _) (fun k hk => by simp [Value.ownBlock] at hk))

end Go.Proofs.Ytegganhjlpachaa.cents
