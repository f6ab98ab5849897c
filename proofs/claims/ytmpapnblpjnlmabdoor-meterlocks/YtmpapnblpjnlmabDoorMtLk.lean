/- Bad tries, and the lock: plain facts. -/
import Derived.Test.YtmpapnblpjnlmabDoorMtZ
namespace Go.Proofs.YtmpapnblpjnlmabDoor.met
open Go.Proofs.YtmpapnblpjnlmabDoor.ora Go.Proofs.YtmpapnblpjnlmabDoor.token

/-- The meter behind j bad tries; with so many ticks of lock left. -/
def mtTry (me : Int) (j : Nat) : Mt := ⟨me, 0, 0, 0, 0, if j < 5 then (j : Int) else 0, if j < 5 then 0 else 30⟩
def mtLock (me lk : Int) : Mt := ⟨me, 0, 0, 0, 0, 0, lk⟩
theorem try_zero (me : Int) : mtTry me 0 = mtNew me := rfl
theorem try_five (me : Int) : mtTry me 5 = mtLock me 30 := rfl
theorem try_may {me : Int} (h : 0 ≤ me ∧ me ≤ 49) (j : Nat) : (mtTry me j).may := by
  refine ⟨h, ⟨Int.le_refl _, show (0 : Int) ≤ 15 by decide⟩, ⟨Int.le_refl _, show (0 : Int) ≤ 99999999 by decide⟩, ?_, ?_, ?_, .inl ⟨rfl, rfl⟩⟩
  · unfold mtTry; simp only []; split <;> omega
  · unfold mtTry; simp only []; split <;> omega
  · rintro ⟨h1, h2⟩
    unfold mtTry at h1 h2; simp only [] at h1 h2
    split at h1 <;> split at h2 <;> omega
theorem try_next (me : Int) (j : Nat) (hj : j < 5) : badTry (mtTry me j) = mtTry me (j + 1) := by
  unfold badTry mtTry
  simp only [if_pos hj]
  by_cases h : j + 1 < 5
  · rw [if_neg (show ¬ (j : Int) + 1 ≥ 5 by omega), if_pos h, if_pos h]
    simp
  · rw [if_pos (show (j : Int) + 1 ≥ 5 by omega), if_neg h, if_neg h]
theorem lock_may {me lk : Int} (h : 0 ≤ me ∧ me ≤ 49) (h0 : 0 ≤ lk) (h1 : lk ≤ 30) : (mtLock me lk).may :=
  ⟨h, ⟨Int.le_refl _, show (0 : Int) ≤ 15 by decide⟩, ⟨Int.le_refl _, show (0 : Int) ≤ 99999999 by decide⟩, ⟨Int.le_refl _, show (0 : Int) ≤ 4 by decide⟩, ⟨h0, h1⟩, fun hx => hx.1 rfl, .inl ⟨rfl, rfl⟩⟩
/-- While it is locked. -/
theorem key_locked {m : Mt} {l : List Pr} {c i a t bo : Int} {m' : Mt} {x e : Int} (h : KeyIs m l c i a t bo m' x e) (hm : m.may) (hl : May l) (hf : flawT c i a t = 0) (hk : 0 < m.lock) : m' = m ∧ x = 0 ∧ e = 10 :=
  h.one (KeyIs.locked ⟨hm, hl⟩ hf (by omega))
theorem tick_lock {me lk ld : Int} (h : 0 ≤ me ∧ me ≤ 49) (h0 : 0 < lk) (h1 : lk ≤ 30) (hl : 0 ≤ ld ∧ ld ≤ 1000) {m' : Mt} {x e : Int} (ht : TickIs (mtLock me lk) ld m' x e) : m' = mtLock me (lk - 1) ∧ x = 0 ∧ e = 0 := by
  obtain ⟨rfl, rfl, rfl⟩ := ht.one (TickIs.ok (lock_may h (by omega) h1) hl)
  refine ⟨?_, ?_, rfl⟩
  · unfold ticked mtLock
    simp only []
    rw [if_pos (show (0 : Int) ≤ ld from hl.1), if_pos h0]
  · unfold burnt mtLock
    simp only []
    rw [if_pos (show (0 : Int) ≤ ld from hl.1)]
/-- A token that is not the one that was sold. -/
theorem not_sold {me bo bo' tt tg : Int} (h : bo' ≠ bo ∨ tg ≠ tt) (rev : Int) : ¬ Here [⟨me, 0, bo, tt⟩] me rev bo' tg ∧ ¬ Early [⟨me, 0, bo, tt⟩] me rev bo' tg := by
  constructor
  · rintro ⟨j, hj, _, h2, h3, _⟩
    obtain rfl : j = 0 := by simp at hj; exact hj
    have h2 : bo = bo' := h2
    have h3 : tt = tg := h3
    omega
  · rintro ⟨j, hj, _, h2, h3, _⟩
    obtain rfl : j = 0 := by simp at hj; exact hj
    have h2 : bo = bo' := h2
    have h3 : tt = tg := h3
    omega
theorem body_apart {k : Tok} (hk : k.ok) {i a : Nat} (hi : a ≤ 2097151) (h : ¬ (k.c = 0 ∧ k.i = i ∧ k.a = a)) : (k.body : Int) ≠ ((Tok.body ⟨0, i, a, 0⟩ : Nat) : Int) ∨ 1048575 < i := by
  have h2 := hk.a2; have h3 := hk.i2; have h4 := hk.c3
  by_cases hb : 1048575 < i
  · exact .inr hb
  · left
    intro e
    have e2 : k.c * 2199023255552 + k.i * 2097152 + k.a = 0 * 2199023255552 + i * 2097152 + a := by
      have : k.body = Tok.body ⟨0, i, a, 0⟩ := by omega
      exact this
    exact h (by omega)

end Go.Proofs.YtmpapnblpjnlmabDoor.met
