/- The program's oracle: May, Verify, Issue. -/
import Derived.Test.YtgipkpkjoicehabDoorOrPg


namespace Go.Proofs.YtgipkpkjoicehabDoor.ora
open Go.RowKit
set_option maxRecDepth 100000
set_option linter.unusedVariables false
set_option linter.unusedSimpArgs false

theorem pom (a : Option Addr) (n cap : Nat) (l : List Pr) (w : World) (hr : RowP w a n l) :
    Calls Tryd.prog 45 #[.agg #[.slice a n cap]] w fun e w' => Told w (May l) e w' := by
  have HB0 : Hid (Bo w (w.alloc (.cells #[.slice a n cap] 25)) a n cap l) := Bo.new hr
  have HM : Hid (∀ W, RowP W a n l → Calls Tryd.prog 49 #[.agg #[.slice a n cap]] W fun e w' => Given W l e w') := fun W h => given_any a n cap l W h
  clear hr
  have c0 := HB0.out.box.cell 0
  go_enter Tryd.func45, Tryd.ntmps45
  go_wp2_with fail
  refine (HM.out _ HB0.out.row).mono ?_
  rintro e w1 ⟨hb, ⟨hm, B, rfl, _⟩ | ⟨hm, rfl⟩⟩
  · have HF : Hid (May l ∧ Below w.heap.size w w1) := ⟨hm, bel_step HB0.out.bel hb⟩
    clear hm hb
    go_wp2_with fail
    go_ret
    exact Told.yes HF.out.1 HF.out.2
  · have HF : Hid (¬ May l ∧ Below w.heap.size w w1) := ⟨hm, bel_step HB0.out.bel hb⟩
    clear hm hb
    go_wp2_with fail
    go_ret
    exact Told.no HF.out.1 HF.out.2
set_option maxHeartbeats 1000000 in
theorem pov (a : Option Addr) (n cap : Nat) (l : List Pr) (m r b t : Int) (w : World) (hr : RowP w a n l) :
    Calls Tryd.prog 87 #[.agg #[.slice a n cap], .int .i64 m, .int .i64 r, .int .i64 b, .int .i64 t] w fun e w' => Told w (Is l m r b t) e w' := by
  have HB0 : Hid (Bo w (w.alloc (.cells #[.slice a n cap] 25)) a n cap l) := Bo.new hr
  have HM : Hid (∀ W, RowP W a n l → Calls Tryd.prog 49 #[.agg #[.slice a n cap]] W fun e w' => Given W l e w') := fun W h => given_any a n cap l W h
  clear hr
  have c0 := HB0.out.box.cell 0
  go_enter Tryd.func87, Tryd.ntmps87
  go_wp2_with fail
  refine (HM.out _ HB0.out.row).mono ?_
  rintro e w1 ⟨hb, ⟨hm, B, rfl, hmp⟩ | ⟨hm, rfl⟩⟩
  · have HBB : Hid (Below w.heap.size w w1) := bel_step HB0.out.bel hb
    have hlk := look_run hmp m r b
    rcases find_or l m r b with ⟨i, hi⟩ | hno
    · rw [look_at hi] at hlk
      simp only [Option.getD_some, Option.isSome_some] at hlk
      have HIS : Hid (Is l m r b t ↔ (l.getD i pr0).t = t) := ⟨fun h => by obtain ⟨_, j, hj, hx⟩ := h; have := hi.one hj; subst this; exact hx, fun h => ⟨hm, i, hi, h⟩⟩
      clear hb hmp hm hi HB0 c0
      generalize (l.getD i pr0).t = pt at *
      by_cases hx : pt = t
      · have hq : (t == pt) = true := by simp [hx]
        have HF : Hid (Is l m r b t) := HIS.out.2 hx
        clear hx
        go_wp2_with fail
        go_ret
        exact Told.yes HF.out HBB.out
      · have hq : (t == pt) = false := by simp; exact fun h => hx h.symm
        have HF : Hid (¬ Is l m r b t) := fun h => hx (HIS.out.1 h)
        clear hx
        go_wp2_with fail
        go_ret
        exact Told.no HF.out HBB.out
    · rw [look_no hno] at hlk
      simp only [Option.getD_none, Option.isSome_none] at hlk
      have HF : Hid (¬ Is l m r b t) := fun h => by obtain ⟨_, j, hj, _⟩ := h; exact hj.not hno
      clear hb hmp hm hno HB0 c0
      go_wp2_with fail
      go_ret
      exact Told.no HF.out HBB.out
  · have HBB : Hid (Below w.heap.size w w1) := bel_step HB0.out.bel hb
    have hlk := look_nil w1 m r b
    have HF : Hid (¬ Is l m r b t) := fun h => hm h.1
    clear hb hm HB0 c0
    go_wp2_with fail
    go_ret
    exact Told.no HF.out HBB.out

end Go.Proofs.YtgipkpkjoicehabDoor.ora
