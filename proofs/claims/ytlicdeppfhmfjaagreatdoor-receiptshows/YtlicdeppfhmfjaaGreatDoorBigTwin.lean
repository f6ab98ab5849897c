/- A copy of a number's words. -/
import Derived.Test.YtlicdeppfhmfjaaGreatDoorBigSmall
namespace Go.Proofs.YtlicdeppfhmfjaaGreatDoor.words
open Go.RowKit
set_option maxRecDepth 100000

theorem own_ru {w : World} {base : Nat} {v : Value} {n : Nat} {l : List Nat} (h : w.ownsRow base 83 1 v n (l.map fun (x : Nat) => Value.int .u32 (x : Int))) (hl : l.length = n) (hlt : ∀ x ∈ l, x < 4294967296) :
    ∃ a cap, v = .slice a n cap ∧ Ru w a n cap l := by
  rcases h.2 with ⟨rfl, rfl⟩ | ⟨g, cap, cur, rfl, hb, hg, hnc, _, hcs, htake⟩
  · exact ⟨none, 0, rfl, hl, hlt, fun _ => rfl, Nat.le_refl _, .inl rfl, fun _ _ _ e _ => by cases e⟩
  · refine ⟨_, cap, rfl, hl, hlt, (fun e => by cases e), hnc, .inr ⟨g, 0, rfl, fun i hi => ?_⟩, fun b off s e _ => by obtain ⟨rfl, -, -⟩ := (by simpa using e : g = b ∧ 0 = off ∧ none = s); exact ⟨_, _, hg⟩⟩
    have := h.cellAt i (by omega)
    rw [Nat.zero_add, this]
    simp [List.getD, List.getElem?_eq_getElem (show i < l.length by omega)]

set_option maxHeartbeats 400000 in
theorem twin_any (a : Option Addr) (n cap m : Nat) (w : World) (hr : Ru w a n cap (dig m)) (hl : n ≤ 100) :
    Calls Tryz.prog 148 #[.slice a n cap] w fun e w' => Gives w m e w' := by
  obtain ⟨i0, hi, hz0, hz1, hz2⟩ := info_parts info_u32
  cases a with
  | none =>
    have hc := hr.nil rfl
    have h0 : n = 0 := by have := hr.room; omega
    subst hc h0
    have happ : ∀ w : World, (Builtin.append_ #[102, 102] 102 #[.slice none 0 0, .slice none 0 0]).run Tryz.prog w = .ok (.slice none 0 0) w := fun w => by kernel_rfl
    have HG : Hid (Gives w m (.returned (.slice none 0 0)) w) := Gives.mk hr (Below.refl _ _)
    clear hr
    go_enter Tryz.func148, Tryz.ntmps148
    go_wp2
    go_ret
    exact HG.out
  | some x =>
    have HR : Hid (Ru w (some x) n cap (dig m)) := hr
    clear hr
    go_enter Tryz.func148, Tryz.ntmps148
    go_wp2_with (first
      | (at_builtin; refine wpList_append_own _ rfl _ _ 102 rfl w.heap.size 83 i0 (.int .u32 0) 1 4 Tryz.underlying102 hi hz0 hz1 hz2 rfl (by decide) _ _ _ rfl (World.ownsRow_nil _ _ _ _) x n cap ((dig m).map fun (x : Nat) => Value.int .u32 (x : Int)) rfl ?c0 ?c1 ?c2 ?c3 ?c4 ?c5 ?_)
      | go_in)
    case c0 => simp [HR.out.len]
    case c5 => exact Nat.le_refl _
    case c1 =>
      intro j u hu
      rcases HR.out.cell with h | ⟨b, off, h, hc⟩
      · rw [List.getElem?_eq_none (by simp [HR.out.len]; omega)] at hu; cases hu
      · obtain rfl := Option.some.inj h
        by_cases hj : j < (dig m).length
        · simp [List.getElem?_eq_getElem hj] at hu
          subst hu
          have := hc j (by rw [HR.out.len] at hj; exact hj)
          simpa [Addr.add_lit, List.getD, List.getElem?_eq_getElem hj] using this
        · rw [List.getElem?_eq_none (by simp; omega)] at hu; cases hu
    case c2 => intro u hu; obtain ⟨z, _, rfl⟩ := List.mem_map.1 hu; rfl
    case c3 => unfold maxLen; omega
    case c4 => omega
    intro v' w' hown hg _
    obtain ⟨a', cap', hv, hrow⟩ := own_ru (l := dig m) (n := n) (by simpa using hown) HR.out.len HR.out.lt
    rw [hv]
    have HG : Hid (Gives w m (.returned (.slice a' n cap')) w') := Gives.mk hrow ((Below.refl _ _).grown hg (Nat.le_refl _) (fun k hk => by simp [Value.ownBlock] at hk))
    clear hown hg hrow
    go_wp2
    go_ret
    exact HG.out

end Go.Proofs.YtlicdeppfhmfjaaGreatDoor.words
