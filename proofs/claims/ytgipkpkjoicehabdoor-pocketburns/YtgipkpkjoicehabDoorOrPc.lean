/- Pairs are copied. -/
import Derived.Test.YtgipkpkjoicehabDoorOrPg


namespace Go.Proofs.YtgipkpkjoicehabDoor.ora
open Go.RowKit
set_option maxRecDepth 100000
set_option linter.unusedVariables false
set_option linter.unusedSimpArgs false
/-- Pairs were given back, in memory of its own. -/
def GaveV (w : World) (l : List Pr) (e : Ending) (w' : World) : Prop := ∃ v, e = .returned v ∧ Pw w' w.heap.size v l ∧ Below w.heap.size w w'
set_option maxHeartbeats 400000 in
theorem pclone_some (x : Addr) (len cap : Nat) (l : List Pr) (w : World) (hr : RowP w (some x) len l) (hl : len ≤ 1000) :
    Calls Tryd.prog 52 #[.slice (some x) len cap] w fun e w' => GaveV w l e w' := by
  obtain ⟨i0, hi, hz0, hz1, hz2⟩ := info_parts info_pr
  obtain ⟨hz, hr⟩ := hr
  have HO : Hid ((w.alloc (.cells #[] 109)).ownsRow w.heap.size 109 4 (.slice (some ⟨w.heap.size, 0, none⟩) 0 0) 0 []) := World.ownsRow_lit w #[] 0 (Nat.le_refl _) (by unfold maxLen; omega) rfl
  have HSZ : Hid (w.heap.size ≤ (w.alloc (.cells #[] 109)).heap.size) := palloc_le (Nat.le_refl _) _
  have heq : ∀ W : World, (binOp BinOp.eql 23 (.slice (some x) len cap) (.slice none 0 0)).run Tryd.prog W = .ok (.bool false) W := fun W => by kernel_rfl
  go_enter Tryd.func52, Tryd.ntmps52
  go_wp2_with (first
    | (at_builtin; refine wpList_append_own _ rfl _ _ 23 rfl w.heap.size 109 i0 (.agg #[.int .i64 0, .int .i64 0, .int .i64 0, .int .i64 0]) 4 32 Tryd.underlying23 hi hz0 hz1 hz2 rfl (by decide) _ _ _ rfl HO.out x len cap (cellsP l) rfl ?c0 ?c1 ?c2 ?c3 ?c4 HSZ.out ?_)
    | go_in)
  case c0 => rw [cellsP_len, hz]
  case c1 =>
    intro j u hu
    rcases hr with h | ⟨b, off, h, hc⟩
    · have : l = [] := List.length_eq_zero_iff.1 (by omega)
      subst this
      simp [cellsP] at hu
    · obtain rfl := Option.some.inj h
      have := cellsP_get hz hc j u hu
      rw [Addr.add_lit, World.cell?_alloc_lt w _ _ (World.block_lt_of_cell? w _ this)]
      exact this
  case c2 => exact oneP l
  case c3 => unfold maxLen; omega
  case c4 => omega
  intro v' w' hown hg _
  have HW : Hid (Pw w' w.heap.size v' l) := by show w'.ownsRow _ _ _ _ _ _; rw [hz]; simpa using hown
  have HG : Hid (Below w.heap.size w w') := pown_bel HO.out hg ((Below.refl _ _).alloc (Nat.le_refl _) _) (Nat.le_refl _) HSZ.out
  clear hown hg
  go_wp2
  go_ret
  exact ⟨v', rfl, HW.out, HG.out⟩
theorem pclone_none (cap : Nat) (w : World) :
    Calls Tryd.prog 52 #[.slice none 0 cap] w fun e w' => GaveV w [] e w' := by
  have heq : ∀ W : World, (binOp BinOp.eql 23 (.slice none 0 cap) (.slice none 0 0)).run Tryd.prog W = .ok (.bool true) W := fun W => by kernel_rfl
  go_enter Tryd.func52, Tryd.ntmps52
  go_wp2_with fail
  go_ret
  exact ⟨_, rfl, Pw.zero _ _, Below.refl _ _⟩
theorem pclone_any (a : Option Addr) (len cap : Nat) (l : List Pr) (w : World) (hr : RowP w a len l) (hl : len ≤ 1000) :
    Calls Tryd.prog 52 #[.slice a len cap] w fun e w' => GaveV w l e w' := by
  cases a with
  | some x => exact pclone_some x len cap l w hr hl
  | none =>
    have h0 : len = 0 := by
      rcases hr.2 with h | ⟨_, _, h, _⟩
      · exact h
      · cases h
    subst h0
    have : l = [] := List.length_eq_zero_iff.1 hr.1
    subst this
    exact pclone_none cap w

end Go.Proofs.YtgipkpkjoicehabDoor.ora
