/- The program's oracle: May, Verify, Issue. -/
import Derived.Test.YtllnafjfbmhimaaOrPg


namespace Go.Proofs.Ytllnafjfbmhimaa.ora
open Go.RowKit
set_option maxRecDepth 100000
set_option linter.unusedVariables false
set_option linter.unusedSimpArgs false

theorem pom (a : Option Addr) (n cap : Nat) (l : List Pr) (w : World) (hr : RowP w a n l) :
    Calls Try.prog 9 #[.agg #[.slice a n cap]] w fun e w' => Told w (May l) e w' := by
  have HB0 : Hid (Bo w (w.alloc (.cells #[.slice a n cap] 24)) a n cap l) := Bo.new hr
  have HM : Hid (∀ W, RowP W a n l → Calls Try.prog 18 #[.agg #[.slice a n cap]] W fun e w' => Given W l e w') := fun W h => given_any a n cap l W h
  clear hr
  have c0 := HB0.out.box.cell 0
  go_enter Try.func9, Try.ntmps9
  go_wp2_with fail
  refine (HM.out _ HB0.out.row).mono ?_
  rintro e w1 ⟨hb, ⟨hm, B, rfl, _⟩ | ⟨hm, rfl⟩⟩
  · have HF : Hid (May l ∧ Below w.heap.size w w1) := ⟨hm, bel_step HB0.out.bel hb⟩
    clear hm hb
    go_wp2_with fail
    go_ret
    exact Told.yes HF.out.1 HF.out.2
  · have HF : Hid (¬ May l ∧ Below w.heap.size w w1) := ⟨hm, bel_step HB0.out.bel hb⟩
    clear hm hb
    go_wp2_with fail
    go_ret
    exact Told.no HF.out.1 HF.out.2
set_option maxHeartbeats 1000000 in
theorem pov (a : Option Addr) (n cap : Nat) (l : List Pr) (m r b t : Int) (w : World) (hr : RowP w a n l) :
    Calls Try.prog 14 #[.agg #[.slice a n cap], .int .i64 m, .int .i64 r, .int .i64 b, .int .i64 t] w fun e w' => Told w (Is l m r b t) e w' := by
  have HB0 : Hid (Bo w (w.alloc (.cells #[.slice a n cap] 24)) a n cap l) := Bo.new hr
  have HM : Hid (∀ W, RowP W a n l → Calls Try.prog 18 #[.agg #[.slice a n cap]] W fun e w' => Given W l e w') := fun W h => given_any a n cap l W h
  clear hr
  have c0 := HB0.out.box.cell 0
  go_enter Try.func14, Try.ntmps14
  go_wp2_with fail
  refine (HM.out _ HB0.out.row).mono ?_
  rintro e w1 ⟨hb, ⟨hm, B, rfl, hmp⟩ | ⟨hm, rfl⟩⟩
  · have HBB : Hid (Below w.heap.size w w1) := bel_step HB0.out.bel hb
    have hlk := look_run hmp m r b
    rcases find_or l m r b with ⟨i, hi⟩ | hno
    · rw [look_at hi] at hlk
      simp only [Option.getD_some, Option.isSome_some] at hlk
      have HIS : Hid (Is l m r b t ↔ (l.getD i pr0).t = t) := ⟨fun h => by obtain ⟨_, j, hj, hx⟩ := h; have := hi.one hj; subst this; exact hx, fun h => ⟨hm, i, hi, h⟩⟩
      clear hb hmp hm hi HB0 c0
      generalize (l.getD i pr0).t = pt at *
      by_cases hx : pt = t
      · have hq : (t == pt) = true := by simp [hx]
        have HF : Hid (Is l m r b t) := HIS.out.2 hx
        clear hx
        go_wp2_with fail
        go_ret
        exact Told.yes HF.out HBB.out
      · have hq : (t == pt) = false := by simp; exact fun h => hx h.symm
        have HF : Hid (¬ Is l m r b t) := fun h => hx (HIS.out.1 h)
        clear hx
        go_wp2_with fail
        go_ret
        exact Told.no HF.out HBB.out
    · rw [look_no hno] at hlk
      simp only [Option.getD_none, Option.isSome_none] at hlk
      have HF : Hid (¬ Is l m r b t) := fun h => by obtain ⟨_, j, hj, _⟩ := h; exact hj.not hno
      clear hb hmp hm hno HB0 c0
      go_wp2_with fail
      go_ret
      exact Told.no HF.out HBB.out
  · have HBB : Hid (Below w.heap.size w w1) := bel_step HB0.out.bel hb
    have hlk := look_nil w1 m r b
    have HF : Hid (¬ Is l m r b t) := fun h => hm h.1
    clear hb hm HB0 c0
    go_wp2_with fail
    go_ret
    exact Told.no HF.out HBB.out

/-- Pairs were given back, in memory of its own. -/
def GaveV (w : World) (l : List Pr) (e : Ending) (w' : World) : Prop := ∃ v, e = .returned v ∧ Pw w' w.heap.size v l ∧ Below w.heap.size w w'
set_option maxHeartbeats 400000 in
theorem pclone_some (x : Addr) (len cap : Nat) (l : List Pr) (w : World) (hr : RowP w (some x) len l) (hl : len ≤ 1000) :
    Calls Try.prog 23 #[.slice (some x) len cap] w fun e w' => GaveV w l e w' := by
  obtain ⟨i0, hi, hz0, hz1, hz2⟩ := info_parts info_pr
  obtain ⟨hz, hr⟩ := hr
  have HO : Hid ((w.alloc (.cells #[] 43)).ownsRow w.heap.size 43 4 (.slice (some ⟨w.heap.size, 0, none⟩) 0 0) 0 []) := World.ownsRow_lit w #[] 0 (Nat.le_refl _) (by unfold maxLen; omega) rfl
  have HSZ : Hid (w.heap.size ≤ (w.alloc (.cells #[] 43)).heap.size) := palloc_le (Nat.le_refl _) _
  have heq : ∀ W : World, (binOp BinOp.eql 22 (.slice (some x) len cap) (.slice none 0 0)).run Try.prog W = .ok (.bool false) W := fun W => by kernel_rfl
  go_enter Try.func23, Try.ntmps23
  go_wp2_with (first
    | (at_builtin; refine wpList_append_own _ rfl _ _ 22 rfl w.heap.size 43 i0 (.agg #[.int .i64 0, .int .i64 0, .int .i64 0, .int .i64 0]) 4 32 Try.underlying22 hi hz0 hz1 hz2 rfl (by decide) _ _ _ rfl HO.out x len cap (cellsP l) rfl ?c0 ?c1 ?c2 ?c3 ?c4 HSZ.out ?_)
    | go_in)
  case c0 => rw [cellsP_len, hz]
  case c1 =>
    intro j u hu
    rcases hr with h | ⟨b, off, h, hc⟩
    · have : l = [] := List.length_eq_zero_iff.1 (by omega)
      subst this
      simp [cellsP] at hu
    · obtain rfl := Option.some.inj h
      have := cellsP_get hz hc j u hu
      rw [Addr.add_lit, World.cell?_alloc_lt w _ _ (World.block_lt_of_cell? w _ this)]
      exact this
  case c2 => exact oneP l
  case c3 => unfold maxLen; omega
  case c4 => omega
  intro v' w' hown hg _
  have HW : Hid (Pw w' w.heap.size v' l) := by show w'.ownsRow _ _ _ _ _ _; rw [hz]; simpa using hown
  have HG : Hid (Below w.heap.size w w') := pown_bel HO.out hg ((Below.refl _ _).alloc (Nat.le_refl _) _) (Nat.le_refl _) HSZ.out
  clear hown hg
  go_wp2
  go_ret
  exact ⟨v', rfl, HW.out, HG.out⟩
theorem pclone_none (cap : Nat) (w : World) :
    Calls Try.prog 23 #[.slice none 0 cap] w fun e w' => GaveV w [] e w' := by
  have heq : ∀ W : World, (binOp BinOp.eql 22 (.slice none 0 cap) (.slice none 0 0)).run Try.prog W = .ok (.bool true) W := fun W => by kernel_rfl
  go_enter Try.func23, Try.ntmps23
  go_wp2_with fail
  go_ret
  exact ⟨_, rfl, Pw.zero _ _, Below.refl _ _⟩
theorem pclone_any (a : Option Addr) (len cap : Nat) (l : List Pr) (w : World) (hr : RowP w a len l) (hl : len ≤ 1000) :
    Calls Try.prog 23 #[.slice a len cap] w fun e w' => GaveV w l e w' := by
  cases a with
  | some x => exact pclone_some x len cap l w hr hl
  | none =>
    have h0 : len = 0 := by
      rcases hr.2 with h | ⟨_, _, h, _⟩
      · exact h
      · cases h
    subst h0
    have : l = [] := List.length_eq_zero_iff.1 hr.1
    subst this
    exact pclone_none cap w

end Go.Proofs.Ytllnafjfbmhimaa.ora
