/- What keying gives, in four kinds: plain facts. -/
import Derived.Test.YtmpapnblpjnlmabDoorMtP
namespace Go.Proofs.YtmpapnblpjnlmabDoor.met
open Go.Proofs.YtmpapnblpjnlmabDoor.ora Go.Proofs.YtmpapnblpjnlmabDoor.token

theorem judge_codes {h : Int} {b : Nat} {i e : Int} (hm : win.May h b) (hj : win.JudgeIs h b i e) : e = 0 ∨ e = 2 ∨ e = 13 ∨ e = 14 := by
  rcases hj with ⟨h1, _⟩ | ⟨_, _, h1⟩ | ⟨_, _, _, h1⟩ | ⟨_, _, _, _, h1⟩ | ⟨_, _, _, _, h1⟩
  · exact absurd hm h1
  · exact .inr (.inl h1)
  · exact .inr (.inr (.inl h1))
  · exact .inr (.inr (.inr h1))
  · exact .inl h1
theorem flaw_amount {c i a t : Int} (h : flawT c i a t = 0) : (c = 0 → 1 ≤ a) ∧ 0 ≤ a ∧ 0 ≤ c ∧ c ≤ 3 := by
  obtain ⟨k, hk, rfl, rfl, rfl, rfl⟩ := flaw_ok h
  have h1 := hk.c3
  refine ⟨fun h0 => ?_, by omega, by omega, by omega⟩
  have := hk.a0
  omega
theorem KeyIs.kinds {m : Mt} {l : List Pr} {c i a t bo : Int} {m' : Mt} {x e : Int} (h : KeyIs m l c i a t bo m' x e) :
    (m' = mt0 ∧ x = 0 ∧ e = 5) ∨ (e = 0 ∧ m.rev ≤ m'.rev ∧ x = max 0 (m'.cr - m.cr) ∧ (c = 0 ↔ 0 < x) ∧ (0 ≤ m.cr ∧ m.cr ≤ 99999999) ∧ (0 ≤ m'.cr ∧ m'.cr ≤ 99999999)) ∨
      (m' = m ∧ x = 0 ∧ e ≠ 0 ∧ e ≠ 5 ∧ e ≠ 12) ∨ (m' = badTry m ∧ x = 0 ∧ e = 12 ∧ m.may) := by
  rcases h with ⟨_, rfl, rfl, rfl⟩ | ⟨_, hf, rfl, rfl, rfl⟩ | ⟨_, _, _, rfl, rfl, rfl⟩ | ⟨hm, hf, _, hc, rfl, rfl, rfl⟩ | ⟨_, _, _, _, _, _, rfl, rfl, rfl⟩ | ⟨hm, _, _, _, _, _, rfl, rfl, rfl⟩ | ⟨hm, _, _, _, _, hj, hn, rfl, rfl⟩ | ⟨_, _, _, _, _, _, _, rfl, rfl, rfl⟩ | ⟨_, _, _, _, _, _, _, _, rfl, rfl, rfl⟩ | ⟨hm, hf, _, hc, _, _, hfu, hky, rfl, rfl, rfl⟩
  · exact .inl ⟨rfl, rfl, rfl⟩
  · rcases flawT_three c i a t with h | h | h <;> first | exact absurd h hf | exact .inr (.inr (.inl ⟨rfl, rfl, by omega, by omega, by omega⟩))
  · exact .inr (.inr (.inl ⟨rfl, rfl, by decide, by decide, by decide⟩))
  · have hcr := hm.1.cr
    exact .inr (.inl ⟨rfl, Int.le_refl _, by omega, by omega, hcr, hcr⟩)
  · exact .inr (.inr (.inl ⟨rfl, rfl, by decide, by decide, by decide⟩))
  · exact .inr (.inr (.inr ⟨rfl, rfl, rfl, hm.1⟩))
  · rcases judge_codes hm.1.win hj with h | h | h | h <;> first | exact absurd h hn | exact .inr (.inr (.inl ⟨rfl, rfl, by omega, by omega, by omega⟩))
  · exact .inr (.inr (.inl ⟨rfl, rfl, by decide, by decide, by decide⟩))
  · exact .inr (.inr (.inl ⟨rfl, rfl, by decide, by decide, by decide⟩))
  · obtain ⟨f1, f2, f3, f4⟩ := flaw_amount hf
    have hcr := hm.1.cr
    refine .inr (.inl ⟨rfl, ?_, ?_, ?_, hcr, ?_⟩)
    · unfold taken; simp only []; split <;> omega
    · unfold taken; simp only []; split <;> (try split) <;> omega
    · split
      · rename_i h0; have := f1 h0; omega
      · omega
    · unfold taken; simp only []; split <;> (try split) <;> omega

end Go.Proofs.YtmpapnblpjnlmabDoor.met
