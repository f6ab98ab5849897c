/- Copies of words and of writes. -/
import Derived.Test.YtiipnokmiknfoaaClRow
namespace Go.Proofs.Ytiipnokmiknfoaa.cell
open Go.RowKit
set_option maxRecDepth 100000

/-- Words were given back that nobody else holds. -/
def GaveU (w : World) (zs : List Int) (e : Ending) (w' : World) : Prop := ∃ v, e = .returned v ∧ Ws w' w.heap.size v zs ∧ Below w.heap.size w w'
def GaveW (w : World) (zs : List Wr) (e : Ending) (w' : World) : Prop := ∃ v, e = .returned v ∧ Lw w' w.heap.size v zs ∧ Below w.heap.size w w'
theorem GaveU.mk {w w' : World} {zs : List Int} {v : Value} (h1 : Ws w' w.heap.size v zs) (h2 : Below w.heap.size w w') : GaveU w zs (.returned v) w' := ⟨v, rfl, h1, h2⟩
theorem GaveW.mk {w w' : World} {zs : List Wr} {v : Value} (h1 : Lw w' w.heap.size v zs) (h2 : Below w.heap.size w w') : GaveW w zs (.returned v) w' := ⟨v, rfl, h1, h2⟩

set_option maxHeartbeats 400000 in
theorem words_any (a : Option Addr) (len cap : Nat) (zs : List Int) (w : World) (hr : RowU w a len zs) (hn : a = none → cap = 0) (hl : len * 4 ≤ 140737488351232) :
    Calls Try.prog 11 #[.slice a len cap] w fun e w' => GaveU w zs e w' := by
  obtain ⟨i0, hi, hz0, hz1, hz2⟩ := info_parts info_u32
  obtain ⟨hz, hr⟩ := hr
  cases a with
  | none =>
    have hc := hn rfl
    have h0 : len = 0 := by rcases hr with h | ⟨b, off, h, _⟩; exact h; cases h
    subst hc h0
    obtain rfl : zs = [] := List.eq_nil_of_length_eq_zero hz
    have happ : ∀ w : World, (Builtin.append_ #[22, 22] 22 #[.slice none 0 0, .slice none 0 0]).run Try.prog w = .ok (.slice none 0 0) w := fun w => by kernel_rfl
    go_enter Try.func11, Try.ntmps11
    go_wp2
    go_ret
    exact GaveU.mk (Ws.zero _ _) (Below.refl _ _)
  | some x =>
    go_enter Try.func11, Try.ntmps11
    go_wp2_with (first
      | (at_builtin; refine wpList_append_own _ rfl _ _ 22 rfl w.heap.size 39 i0 (.int .u32 0) 1 4 Try.underlying22 hi hz0 hz1 hz2 rfl (by decide) _ _ _ rfl (World.ownsRow_nil _ _ _ _) x len cap (zs.map (.int .u32)) rfl ?c0 ?c1 ?c2 ?c3 ?c4 ?c5 ?_)
      | go_in)
    case c0 => simp [hz]
    case c5 => exact Nat.le_refl _
    case c1 =>
      intro j u hu
      rcases hr with h | ⟨b, off, h, hc⟩
      · rw [List.getElem?_eq_none (by simp; omega)] at hu; cases hu
      · obtain rfl := Option.some.inj h
        by_cases hj : j < zs.length
        · simp [List.getElem?_eq_getElem hj] at hu
          subst hu
          have := hc j (by omega)
          simpa [Addr.add_lit, List.getD, List.getElem?_eq_getElem hj] using this
        · rw [List.getElem?_eq_none (by simp; omega)] at hu; cases hu
    case c2 => intro u hu; obtain ⟨z, _, rfl⟩ := List.mem_map.1 hu; rfl
    case c3 => unfold maxLen; omega
    case c4 => omega
    intro v' w' hown hg _
    have HW : Hid (Ws w' w.heap.size v' zs) := by show w'.ownsRow _ _ _ _ _ _; rw [hz]; simpa using hown
    have HG : Hid (Below w.heap.size w w') := (Below.refl _ _).grown hg (Nat.le_refl _) (fun k hk => by simp [Value.ownBlock] at hk)
    clear hown hg
    go_wp2
    go_ret
    exact GaveU.mk HW.out HG.out

theorem cellsW_get {w : World} {b off len : Nat} {zs : List Wr} (hz : zs.length = len) (hc : ∀ i, i < len → w.cell? ⟨b, off + i * 2, none⟩ = some (.int .i64 (zs.getD i wr0).p) ∧ w.cell? ⟨b, off + i * 2 + 1, none⟩ = some (.int .u32 (zs.getD i wr0).d)) (j : Nat) (u : Value) (hu : (cellsW zs)[j]? = some u) : w.cell? ⟨b, off + j, none⟩ = some u := by
  have hj : j < (cellsW zs).length := by
    by_cases h : j < (cellsW zs).length
    · exact h
    · rw [List.getElem?_eq_none (by omega)] at hu; cases hu
  rw [cellsW_len] at hj
  have h1 := cellsW_at zs (j / 2) (by omega)
  have h2 := hc (j / 2) (by omega)
  rcases Nat.mod_two_eq_zero_or_one j with e | e
  · have e2 : j / 2 * 2 = j := by omega
    rw [e2] at h1 h2
    rw [h1.1] at hu
    rw [h2.1]; exact hu
  · have e2 : j / 2 * 2 + 1 = j := by omega
    rw [Nat.add_assoc, e2] at h2
    rw [e2] at h1
    rw [h1.2] at hu
    rw [h2.2]; exact hu

set_option maxHeartbeats 400000 in
theorem writes_any (a : Option Addr) (len cap : Nat) (zs : List Wr) (w : World) (hr : RowW w a len zs) (hn : a = none → cap = 0) (hl : len * 16 ≤ 140737488351232) :
    Calls Try.prog 12 #[.slice a len cap] w fun e w' => GaveW w zs e w' := by
  obtain ⟨i0, hi, hz0, hz1, hz2⟩ := info_parts info_wr
  obtain ⟨hz, hr⟩ := hr
  cases a with
  | none =>
    have hc := hn rfl
    have h0 : len = 0 := by rcases hr with h | ⟨b, off, h, _⟩; exact h; cases h
    subst hc h0
    obtain rfl : zs = [] := List.eq_nil_of_length_eq_zero hz
    have happ : ∀ w : World, (Builtin.append_ #[28, 28] 28 #[.slice none 0 0, .slice none 0 0]).run Try.prog w = .ok (.slice none 0 0) w := fun w => by kernel_rfl
    go_enter Try.func12, Try.ntmps12
    go_wp2
    go_ret
    exact GaveW.mk (Lw.zero _ _) (Below.refl _ _)
  | some x =>
    go_enter Try.func12, Try.ntmps12
    go_wp2_with (first
      | (at_builtin; refine wpList_append_own _ rfl _ _ 28 rfl w.heap.size 42 i0 (.agg #[.int .i64 0, .int .u32 0]) 2 16 Try.underlying28 hi hz0 hz1 hz2 rfl (by decide) _ _ _ rfl (World.ownsRow_nil _ _ _ _) x len cap (cellsW zs) rfl ?c0 ?c1 ?c2 ?c3 ?c4 ?c5 ?_)
      | go_in)
    case c0 => rw [cellsW_len, hz]
    case c5 => exact Nat.le_refl _
    case c1 =>
      intro j u hu
      rcases hr with h | ⟨b, off, h, hc⟩
      · rw [List.getElem?_eq_none (by rw [cellsW_len]; omega)] at hu; cases hu
      · obtain rfl := Option.some.inj h
        rw [Addr.add_lit]
        exact cellsW_get hz hc j u hu
    case c2 => exact oneW zs
    case c3 => unfold maxLen; omega
    case c4 => omega
    intro v' w' hown hg _
    have HW : Hid (Lw w' w.heap.size v' zs) := by show w'.ownsRow _ _ _ _ _ _; rw [hz]; simpa using hown
    have HG : Hid (Below w.heap.size w w') := (Below.refl _ _).grown hg (Nat.le_refl _) (fun k hk => by simp [Value.ownBlock] at hk)
    clear hown hg
    go_wp2
    go_ret
    exact GaveW.mk HW.out HG.out

end Go.Proofs.Ytiipnokmiknfoaa.cell
