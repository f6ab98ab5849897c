/- Entries, compared. -/
import Derived.Test.YtkobdkkgkpgcbaaDoorKpRef
namespace Go.Proofs.YtkobdkkgkpgcbaaDoor.keypad
open Go.Proofs.YtkobdkkgkpgcbaaDoor.check
open Go.RowKit
set_option linter.unusedSimpArgs false
set_option maxRecDepth 100000

theorem cellsE_at (l : List Ent) (k : Nat) (e : Ent) (h : l[k]? = some e) : (cellsE l)[k * 2]? = some (.string e.t) ∧ (cellsE l)[k * 2 + 1]? = some (.int .i64 e.c) := by
  induction l generalizing k with
  | nil => simp at h
  | cons x l ih =>
    cases k with
    | zero => simp at h; subst h; exact ⟨rfl, rfl⟩
    | succ k =>
      simp only [List.getElem?_cons_succ] at h
      have := ih k h
      rw [show (k + 1) * 2 = k * 2 + 1 + 1 by omega]
      exact this
theorem Lies.at {w : World} {base g cap : Nat} {l : List Ent} (h : Lies w base (.slice (some ⟨g, 0, none⟩) l.length cap) l) (k : Nat) (hk : k < l.length) :
    w.cell? ⟨g, k * 2, none⟩ = some (.string l[k].t) ∧ w.cell? ⟨g, k * 2 + 1, none⟩ = some (.int .i64 l[k].c) := by
  have h1 := World.ownsRow.cellAt h (k * 2) (by omega)
  have h2 := World.ownsRow.cellAt h (k * 2 + 1) (by omega)
  have h3 := cellsE_at l k l[k] (List.getElem?_eq_getElem hk)
  rw [h1, h2]; exact h3
theorem Lies.form {w : World} {base : Nat} {v : Value} {l : List Ent} (h : Lies w base v l) : (v = .slice none 0 0 ∧ l = []) ∨ ∃ g cap, v = .slice (some ⟨g, 0, none⟩) l.length cap ∧ l.length ≤ cap ∧ cap ≤ maxLen := by
  rcases h.2 with ⟨hv, hn⟩ | ⟨g, cap, cur, hv, _, _, h1, h2, _⟩
  · exact .inl ⟨hv, List.eq_nil_of_length_eq_zero hn⟩
  · exact .inr ⟨g, cap, hv, h1, h2⟩

set_option maxHeartbeats 2000000 in
theorem same_law (v u : Value) (l : List Ent) (b1 b2 : Nat) (w : World) (hv : Lies w b1 v l) (hu : Lies w b2 u l) (hl : l.length ≤ 1000000) :
    Calls Tryd.prog 11 #[v, u] w fun e w' => e = .returned (.bool true) ∧ Below w.heap.size w w' := by
  by_cases h0 : l.length = 0
  · have hl0 : l = [] := List.eq_nil_of_length_eq_zero h0
    subst hl0
    obtain ⟨a1, c1, rfl⟩ : ∃ a c, v = .slice a 0 c := by
      rcases hv.form with ⟨rfl, _⟩ | ⟨g, c, rfl, _⟩
      · exact ⟨_, _, rfl⟩
      · exact ⟨_, _, rfl⟩
    obtain ⟨a2, c2, rfl⟩ : ∃ a c, u = .slice a 0 c := by
      rcases hu.form with ⟨rfl, _⟩ | ⟨g, c, rfl, _⟩
      · exact ⟨_, _, rfl⟩
      · exact ⟨_, _, rfl⟩
    clear hv hu hl h0
    go_enter Tryd.func11, Tryd.ntmps11
    go_wp2_with fail
    go_loop [5] (fun v => v = .int .i64 0) (fun _ => 0)
    case atStart => rfl
    case round =>
      subst hrel
      go_wp2_with fail
      go_ret
      exact ⟨rfl, Below.refl _ _⟩
  · rcases hv.form with ⟨rfl, rfl⟩ | ⟨g1, c1, rfl, _, _⟩
    · exact absurd rfl h0
    rcases hu.form with ⟨rfl, rfl⟩ | ⟨g2, c2, rfl, _, _⟩
    · exact absurd rfl h0
    have HV : Hid (∀ k, k < l.length → ∃ t c, w.cell? ⟨g1, k * 2, none⟩ = some (.string t) ∧ w.cell? ⟨g1, k * 2 + 1, none⟩ = some (.int .i64 c) ∧ w.cell? ⟨g2, k * 2, none⟩ = some (.string t) ∧ w.cell? ⟨g2, k * 2 + 1, none⟩ = some (.int .i64 c)) := fun k hk => ⟨_, _, (hv.at k hk).1, (hv.at k hk).2, (hu.at k hk).1, (hu.at k hk).2⟩
    clear hv hu
    generalize l.length = n at *
    go_enter Tryd.func11, Tryd.ntmps11
    go_wp2_with fail
    go_loopw [5] (fun v wr => ∃ k : Nat, k ≤ n ∧ v = .int .i64 (k : Int) ∧ (∀ a x, w.cell? a = some x → wr.cell? a = some x) ∧ Below w.heap.size w wr) (fun v _ => n - (intOf v).toNat)
    case atStart => exact ⟨0, Nat.zero_le _, rfl, fun _ _ h => h, Below.refl _ _⟩
    case round =>
      obtain ⟨k, hk, rfl, hsm, hbl⟩ := hrel
      by_cases hlt : k < n
      · obtain ⟨t, c, h1, h2, h3, h4⟩ := HV.out k hlt
        have x1 := hsm _ _ h1
        have x2 := hsm _ _ h2
        have x3 := hsm _ _ h3
        have x4 := hsm _ _ h4
        have hq : ∀ wz : World, (Op.equalIn 10000 40 (.agg #[.string t, .int .i64 c]) (.agg #[.string t, .int .i64 c])).run Tryd.prog wz = .ok true wz := fun wz => by rw [eqN]; simp
        have HSM : Hid (∀ a x, w.cell? a = some x → wr.cell? a = some x) := hsm
        have HBL : Hid (Below w.heap.size w wr) := hbl
        clear h1 h2 h3 h4 hsm hbl
        go_wp2_with fail
        go_region
        go_wp2_with fail
        go_roundw
        case rel => exact ⟨k + 1, by omega, by go_num, HSM.out, bel_drew1 HBL.out⟩
        case measure => simp [intOf]; omega
      · go_wp2_with fail
        go_ret
        exact ⟨rfl, hbl⟩

set_option maxHeartbeats 2000000 in
theorem same_keep (v u : Value) (l : List Ent) (b1 b2 : Nat) (w : World) (hv : Lies w b1 v l) (hu : Lies w b2 u l) (hl : l.length ≤ 1000000) :
    Calls Tryd.prog 15 #[v, u] w fun e w' => e = .returned (.bool true) ∧ Below w.heap.size w w' := by
  by_cases h0 : l.length = 0
  · have hl0 : l = [] := List.eq_nil_of_length_eq_zero h0
    subst hl0
    obtain ⟨a1, c1, rfl⟩ : ∃ a c, v = .slice a 0 c := by
      rcases hv.form with ⟨rfl, _⟩ | ⟨g, c, rfl, _⟩
      · exact ⟨_, _, rfl⟩
      · exact ⟨_, _, rfl⟩
    obtain ⟨a2, c2, rfl⟩ : ∃ a c, u = .slice a 0 c := by
      rcases hu.form with ⟨rfl, _⟩ | ⟨g, c, rfl, _⟩
      · exact ⟨_, _, rfl⟩
      · exact ⟨_, _, rfl⟩
    clear hv hu hl h0
    go_enter Tryd.func15, Tryd.ntmps15
    go_wp2_with fail
    go_loop [5] (fun v => v = .int .i64 0) (fun _ => 0)
    case atStart => rfl
    case round =>
      subst hrel
      go_wp2_with fail
      go_ret
      exact ⟨rfl, Below.refl _ _⟩
  · rcases hv.form with ⟨rfl, rfl⟩ | ⟨g1, c1, rfl, _, _⟩
    · exact absurd rfl h0
    rcases hu.form with ⟨rfl, rfl⟩ | ⟨g2, c2, rfl, _, _⟩
    · exact absurd rfl h0
    have HV : Hid (∀ k, k < l.length → ∃ t c, w.cell? ⟨g1, k * 2, none⟩ = some (.string t) ∧ w.cell? ⟨g1, k * 2 + 1, none⟩ = some (.int .i64 c) ∧ w.cell? ⟨g2, k * 2, none⟩ = some (.string t) ∧ w.cell? ⟨g2, k * 2 + 1, none⟩ = some (.int .i64 c)) := fun k hk => ⟨_, _, (hv.at k hk).1, (hv.at k hk).2, (hu.at k hk).1, (hu.at k hk).2⟩
    clear hv hu
    generalize l.length = n at *
    go_enter Tryd.func15, Tryd.ntmps15
    go_wp2_with fail
    go_loopw [5] (fun v wr => ∃ k : Nat, k ≤ n ∧ v = .int .i64 (k : Int) ∧ (∀ a x, w.cell? a = some x → wr.cell? a = some x) ∧ Below w.heap.size w wr) (fun v _ => n - (intOf v).toNat)
    case atStart => exact ⟨0, Nat.zero_le _, rfl, fun _ _ h => h, Below.refl _ _⟩
    case round =>
      obtain ⟨k, hk, rfl, hsm, hbl⟩ := hrel
      by_cases hlt : k < n
      · obtain ⟨t, c, h1, h2, h3, h4⟩ := HV.out k hlt
        have x1 := hsm _ _ h1
        have x2 := hsm _ _ h2
        have x3 := hsm _ _ h3
        have x4 := hsm _ _ h4
        have hq : ∀ wz : World, (Op.equalIn 10000 40 (.agg #[.string t, .int .i64 c]) (.agg #[.string t, .int .i64 c])).run Tryd.prog wz = .ok true wz := fun wz => by rw [eqN]; simp
        have HSM : Hid (∀ a x, w.cell? a = some x → wr.cell? a = some x) := hsm
        have HBL : Hid (Below w.heap.size w wr) := hbl
        clear h1 h2 h3 h4 hsm hbl
        go_wp2_with fail
        go_region
        go_wp2_with fail
        go_roundw
        case rel => exact ⟨k + 1, by omega, by go_num, HSM.out, bel_drew1 HBL.out⟩
        case measure => simp [intOf]; omega
      · go_wp2_with fail
        go_ret
        exact ⟨rfl, hbl⟩

end Go.Proofs.YtkobdkkgkpgcbaaDoor.keypad
