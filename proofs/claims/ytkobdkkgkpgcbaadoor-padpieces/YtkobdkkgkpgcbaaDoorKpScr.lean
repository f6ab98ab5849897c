/- The scripts of the keypad, as the statements draw them; a digit, and its taking back. -/
import Derived.Test.YtkobdkkgkpgcbaaDoorKpTxt
import Derived.Test.YtkobdkkgkpgcbaaDoorCkPick
namespace Go.Proofs.YtkobdkkgkpgcbaaDoor.keypad
open Go.Proofs.YtkobdkkgkpgcbaaDoor.check
open Go.RowKit

/-- The script that a raw number draws. -/
def scr (n : Int) : Nat := (pick n 6).toNat
theorem scr_lt (n : Int) : scr n < 6 := pick_toNat n 6 (by decide)

set_option maxHeartbeats 1000000 in
theorem script_at (n : Int) (k : Nat) (w : World) (hk : k < 6) (HP : Hid (∀ W, Calls Tryd.prog 18 #[.int .i64 n, .int .i64 6] W fun e w' => e = .returned (.int .i64 (k : Int)) ∧ w' = W)) :
    Calls Tryd.prog 17 #[.int .i64 n] w fun e w' => e = .returned (.int .i32 (nt k)) ∧ w' = w := by
  match k, hk with
  | 0, _ =>
    go_enter Tryd.func17, Tryd.ntmps17
    go_wp2_with fail
    refine (HP.out _).mono ?_
    rintro e w1 ⟨rfl, rfl⟩
    go_wp2_with fail
    go_ret
    exact ⟨rfl, rfl⟩
  | 1, _ =>
    go_enter Tryd.func17, Tryd.ntmps17
    go_wp2_with fail
    refine (HP.out _).mono ?_
    rintro e w1 ⟨rfl, rfl⟩
    go_wp2_with fail
    go_ret
    exact ⟨rfl, rfl⟩
  | 2, _ =>
    go_enter Tryd.func17, Tryd.ntmps17
    go_wp2_with fail
    refine (HP.out _).mono ?_
    rintro e w1 ⟨rfl, rfl⟩
    go_wp2_with fail
    go_ret
    exact ⟨rfl, rfl⟩
  | 3, _ =>
    go_enter Tryd.func17, Tryd.ntmps17
    go_wp2_with fail
    refine (HP.out _).mono ?_
    rintro e w1 ⟨rfl, rfl⟩
    go_wp2_with fail
    go_ret
    exact ⟨rfl, rfl⟩
  | 4, _ =>
    go_enter Tryd.func17, Tryd.ntmps17
    go_wp2_with fail
    refine (HP.out _).mono ?_
    rintro e w1 ⟨rfl, rfl⟩
    go_wp2_with fail
    go_ret
    exact ⟨rfl, rfl⟩
  | 5, _ =>
    go_enter Tryd.func17, Tryd.ntmps17
    go_wp2_with fail
    refine (HP.out _).mono ?_
    rintro e w1 ⟨rfl, rfl⟩
    go_wp2_with fail
    go_ret
    exact ⟨rfl, rfl⟩

theorem script_any (n : Int) (w : World) (hn : (Lit.int .i64 n).wf = true) :
    Calls Tryd.prog 17 #[.int .i64 n] w fun e w' => e = .returned (.int .i32 (nt (scr n))) ∧ w' = w :=
  script_at n (scr n) w (scr_lt n) (fun W => picked_nat n 6 W hn (by decide) (by decide))

theorem keyD_nt (i k : Nat) (hi : i < 6) (hk : k < 10) : keyD (nt i + (k : Int)) = k := by
  rw [keyD_hit (nt i + (k : Int)) i hi (by omega) (by omega)]; omega
theorem nil_form {w : World} {base : Nat} {v : Value} (h : Lies w base v []) : ∃ a c, v = .slice a 0 c := by
  rcases h.form with ⟨rfl, _⟩ | ⟨g, c, rfl, _⟩
  · exact ⟨_, _, rfl⟩
  · exact ⟨_, _, rfl⟩
/-- A digit is pressed, where there is room. -/
theorem press_dig (d : ByteArray) (b : Bool) (r : Int) (k : Nat) (w : World) (hr : keyD r = k) (hd : d.size ≤ 29) (ha : allD d.data.toList = true) (ht : NTab w) :
    Calls Tryd.prog 9 #[.agg #[.string d, .bool b], .int .i32 r] w fun e w' => ∃ a c, e = .returned (.tuple #[.agg #[.string (d ++ one (k : Int)), .bool b], .slice a 0 c, .int .i64 0]) ∧ Below w.heap.size w w' := by
  have h35 : r ≠ 35 := by intro e; subst e; revert hr; show (-1 : Int) = (k : Int) → False; omega
  have e0 : pad ⟨d, b⟩ r = ⟨d ++ one (k : Int), b⟩ := by unfold pad; rw [hr, if_pos (by omega), if_neg (by show ¬ d.size = 30; omega)]
  have e1 : ents ⟨d, b⟩ r = [] := if_neg h35
  refine (press_any ⟨d, b⟩ r w ⟨by show d.size ≤ 30; omega, ha⟩ ht).mono ?_
  rintro e w' ⟨v, rfl, hL, hb⟩
  rw [e1] at hL
  obtain ⟨a, c, rfl⟩ := nil_form hL
  rw [e0]
  exact ⟨a, c, rfl, hb⟩
/-- .. and taken back. -/
theorem press_back (d : ByteArray) (b : Bool) (k : Nat) (w : World) (hk : k < 10) (hd : d.size ≤ 29) (ha : allD d.data.toList = true) (ht : NTab w) :
    Calls Tryd.prog 9 #[.agg #[.string (d ++ one (k : Int)), .bool b], .int .i32 42] w fun e w' => ∃ a c, e = .returned (.tuple #[.agg #[.string d, .bool b], .slice a 0 c, .int .i64 0]) ∧ Below w.heap.size w w' := by
  have hz : (d ++ one (k : Int)).size = d.size + 1 := by rw [ByteArray.size_append, one_size _ (by omega) (by omega)]
  have e0 : pad ⟨d ++ one (k : Int), b⟩ 42 = ⟨d, b⟩ := by
    show (⟨(d ++ one (k : Int)).extract 0 ((d ++ one (k : Int)).size - 1), b⟩ : Pad) = _
    rw [hz, Nat.add_sub_cancel]
    have : (d ++ one (k : Int)).extract 0 d.size = d := ba_ext (by rw [ext_list, app_list, ← len_eq, List.take_left])
    rw [this]
  have hok : (⟨d ++ one (k : Int), b⟩ : Pad).ok := ⟨by show (d ++ one (k : Int)).size ≤ 30; omega, by show allD (d ++ one (k : Int)).data.toList = true; rw [app_list, allD_append, ha, one_D _ (by omega) (by omega)]; rfl⟩
  refine (press_any ⟨d ++ one (k : Int), b⟩ 42 w hok ht).mono ?_
  rintro e w' ⟨v, rfl, hL, hb⟩
  obtain ⟨a, c, rfl⟩ := nil_form hL
  rw [e0]
  exact ⟨a, c, rfl, hb⟩
theorem ne_grown (d : ByteArray) (k : Nat) (hk : k < 10) : ((d ++ one (k : Int)).toList == d.toList) = false := by
  rw [beq_eq_false_iff_ne]
  intro e
  rw [ByteArray.toList_eq, ByteArray.toList_eq] at e
  have := congrArg List.length e
  rw [len_eq, len_eq, ByteArray.size_append, one_size _ (by omega) (by omega)] at this
  omega

end Go.Proofs.YtkobdkkgkpgcbaaDoor.keypad
