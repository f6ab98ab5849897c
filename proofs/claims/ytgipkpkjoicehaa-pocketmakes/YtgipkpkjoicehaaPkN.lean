/- A pocket's slots: plain facts. -/
import Derived.Test.YtgipkpkjoicehaaSlN
import Derived.Test.YtgipkpkjoicehaaMtP
namespace Go.Proofs.Ytgipkpkjoicehaa.pkt
open Go.Proofs.Ytgipkpkjoicehaa.met Go.Proofs.Ytgipkpkjoicehaa.slot Go.Proofs.Ytgipkpkjoicehaa.cell

/-- What booting gives. -/
def BootIs (xs : List Int) (m : Mt) (e : Int) : Prop :=
  (xs.length ≠ 12 ∧ m = mt0 ∧ e = 1) ∨ (xs.length = 12 ∧ which xs 5 = 2 ∧ m = mt0 ∧ e = 17) ∨ (xs.length = 12 ∧ which xs 5 ≤ 1 ∧ ReadIs (rcd xs 5 (which xs 5)) m e)
theorem BootIs.one {xs : List Int} {m m' : Mt} {e e' : Int} (h : BootIs xs m e) (h' : BootIs xs m' e') : m = m' ∧ e = e' := by
  rcases h with ⟨a0, rfl, rfl⟩ | ⟨a0, a1, rfl, rfl⟩ | ⟨a0, a1, a2⟩ <;> rcases h' with ⟨b0, rfl, rfl⟩ | ⟨b0, b1, rfl, rfl⟩ | ⟨b0, b1, b2⟩ <;>
    first | exact ⟨rfl, rfl⟩ | exact absurd a0 b0 | exact absurd b0 a0 | exact a2.one b2 | omega
theorem which_le (xs : List Int) (n : Nat) : which xs n ≤ 2 := cnt_le _ _
theorem rcd_word {xs : List Int} (h : ∀ x ∈ xs, 0 ≤ x ∧ x < 4294967296) (n s : Nat) : ∀ x ∈ rcd xs n s, 0 ≤ x ∧ x < 4294967296 := by
  intro x hx
  obtain ⟨i, _, rfl⟩ := List.mem_map.1 hx
  by_cases hi : beg n s + 1 + i < xs.length
  · rw [show xs.getD (beg n s + 1 + i) 0 = xs[beg n s + 1 + i] by simp [List.getD, List.getElem?_eq_getElem hi]]; exact h _ (List.getElem_mem hi)
  · rw [show xs.getD (beg n s + 1 + i) 0 = 0 by simp [List.getD, List.getElem?_eq_none (Nat.le_of_not_lt hi)]]; decide
/-- A meter that may be, and whose bits are a word of 64. -/
structure Mw (m : Mt) : Prop where
  may : m.may
  b : m.b < 18446744073709551616
theorem rdL_b {l : List Int} (h5 : l.length = 5) (h : ∀ x ∈ l, 0 ≤ x ∧ x < 4294967296) : (rdL l).b < 18446744073709551616 := by
  have e := list5 h5
  have h3 : 0 ≤ l.getD 3 0 ∧ l.getD 3 0 < 4294967296 := h _ (by rw [e]; simp)
  have h4 : 0 ≤ l.getD 4 0 ∧ l.getD 4 0 < 4294967296 := h _ (by rw [e]; simp)
  show ((l.getD 4 0) * 4294967296 + l.getD 3 0).toNat < _
  omega
theorem wds_len (m : Mt) : (wds m).length = 5 := rfl
theorem wds_words {m : Mt} (h : Mw m) : ∀ x ∈ wds m, 0 ≤ x ∧ x < 4294967296 := by
  have h1 := h.may.cr; have h2 := four_bd h.may; have h3 := may_high h.may; have h4 := h.b
  intro x hx
  simp only [wds, List.mem_cons, List.not_mem_nil, or_false] at hx
  rcases hx with rfl | rfl | rfl | rfl | rfl <;> omega
theorem wds_inj {m m' : Mt} (h : m.may) (h' : m'.may) (e : wds m = wds m') : m = m' := by rw [← rdL_wds h, ← rdL_wds h', e]
/-- Slots that boot hold the words of what they boot to. -/
theorem BootIs.sure {xs : List Int} {m : Mt} (hw : ∀ x ∈ rcd xs 5 (which xs 5), 0 ≤ x ∧ x < 4294967296) (h : BootIs xs m 0) : Holds xs 5 (wds m) ∧ Mw m := by
  rcases h with ⟨_, _, e⟩ | ⟨_, _, _, e⟩ | ⟨a0, a1, h⟩
  · exact absurd e (by decide)
  · exact absurd e (by decide)
  · rcases h with ⟨h, _⟩ | ⟨_, _, _, e⟩ | ⟨h5, hm, rfl, _⟩
    · exact absurd (rcd_len _ _ _) h
    · exact absurd e (by decide)
    · have hl := rcd_len xs 5 (which xs 5)
      exact ⟨⟨a0, a1, (wds_rdL hl hw).symm⟩, hm, rdL_b hl hw⟩
theorem boot_holds {xs : List Int} {m : Mt} (h : Holds xs 5 (wds m)) (hm : m.may) : BootIs xs m 0 := by
  refine .inr (.inr ⟨h.len, h.one, ?_⟩)
  rw [h.is]
  have := ReadIs.ok (l := wds m) (fun hx => hx rfl) (by rw [rdL_wds hm]; exact hm)
  rwa [rdL_wds hm] at this
theorem holds_word {xs : List Int} {m : Mt} (h : Holds xs 5 (wds m)) (hm : Mw m) : ∀ x ∈ rcd xs 5 (which xs 5), 0 ≤ x ∧ x < 4294967296 := by rw [h.is]; exact wds_words hm
/-- The writes of a step. -/
def WrIs (xs : List Int) (m m' : Mt) (ls : List Wr) : Prop := (m' = m ∧ ls = []) ∨ (m' ≠ m ∧ ls = sto xs (wds m') 5)
theorem WrIs.one {xs : List Int} {m m' : Mt} {ls ls' : List Wr} (h : WrIs xs m m' ls) (h' : WrIs xs m m' ls') : ls = ls' := by
  rcases h with ⟨a, rfl⟩ | ⟨a, rfl⟩ <;> rcases h' with ⟨b, rfl⟩ | ⟨b, rfl⟩ <;> first | rfl | exact absurd a b | exact absurd b a
theorem WrIs.len {xs : List Int} {m m' : Mt} {ls : List Wr} (h : WrIs xs m m' ls) : (m' = m ∧ ls.length = 0) ∨ (m' ≠ m ∧ ls.length = 7) := by
  rcases h with ⟨a, rfl⟩ | ⟨a, rfl⟩
  · exact .inl ⟨a, rfl⟩
  · exact .inr ⟨a, sto_len _ _ _⟩
/-- What a new pocket is. -/
def mk (me : Int) : List Int := [1, 0, me, 0, 0, 0, 0, 0, 0, 0, 0, 0]
def MakeIs (me : Int) (xs : List Int) (e : Int) : Prop := ((0 ≤ me ∧ me ≤ 49) ∧ xs = mk me ∧ e = 0) ∨ (¬ (0 ≤ me ∧ me ≤ 49) ∧ xs = [] ∧ e = 2)
theorem MakeIs.one {me : Int} {xs xs' : List Int} {e e' : Int} (h : MakeIs me xs e) (h' : MakeIs me xs' e') : xs = xs' ∧ e = e' := by
  rcases h with ⟨a0, rfl, rfl⟩ | ⟨a0, rfl, rfl⟩ <;> rcases h' with ⟨b0, rfl, rfl⟩ | ⟨b0, rfl, rfl⟩ <;> first | exact ⟨rfl, rfl⟩ | contradiction
theorem new_mw {me : Int} (h : 0 ≤ me ∧ me ≤ 49) : Mw (mtNew me) := ⟨⟨h, ⟨by show (0 : Int) ≤ 0; decide, by show (0 : Int) ≤ 15; decide⟩, ⟨by show (0 : Int) ≤ 0; decide, by show (0 : Int) ≤ 99999999; decide⟩, ⟨by show (0 : Int) ≤ 0; decide, by show (0 : Int) ≤ 4; decide⟩, ⟨by show (0 : Int) ≤ 0; decide, by show (0 : Int) ≤ 30; decide⟩, fun hx => hx.1 rfl, .inl ⟨rfl, rfl⟩⟩, by show (0 : Nat) < _; decide⟩
theorem wds_new (me : Int) : wds (mtNew me) = [0, me, 0, 0, 0] := by
  show [0, me + 256 * (0 + 256 * (0 + 256 * 0)), 0, ((0 % 4294967296 : Nat) : Int), ((0 / 4294967296 : Nat) : Int)] = _
  simp
theorem mk_holds (me : Int) : Holds (mk me) 5 (wds (mtNew me)) := by
  rw [wds_new]
  exact ⟨rfl, by show cnt 1 0 ≤ 1; decide, rfl⟩
theorem tick_mw {m m' : Mt} {ld x : Int} (h : Mw m) (ht : TickIs m ld m' x 0) : Mw m' := by
  rcases ht with ⟨_, _, _, e⟩ | ⟨_, _, _, _, e⟩ | ⟨h1, h2, rfl, _, _⟩
  · exact absurd e (by decide)
  · exact absurd e (by decide)
  · exact ⟨ticked_may h1 h2, h.b⟩
/-- What a tick of a pocket gives. -/
def TickedIs (xs : List Int) (ld : Int) (ls : List Wr) (x e : Int) : Prop :=
  (∃ m, BootIs xs m e ∧ e ≠ 0 ∧ ls = [] ∧ x = 0) ∨ (∃ m m' y, BootIs xs m 0 ∧ TickIs m ld m' y e ∧ e ≠ 0 ∧ ls = [] ∧ x = 0) ∨ (∃ m m', BootIs xs m 0 ∧ TickIs m ld m' x 0 ∧ e = 0 ∧ WrIs xs m m' ls)
theorem TickedIs.one {xs : List Int} {ld : Int} {ls ls' : List Wr} {x x' e e' : Int} (h : TickedIs xs ld ls x e) (h' : TickedIs xs ld ls' x' e') : ls = ls' ∧ x = x' ∧ e = e' := by
  rcases h with ⟨m, a0, a1, rfl, rfl⟩ | ⟨m, m1, y, a0, a2, a1, rfl, rfl⟩ | ⟨m, m1, a0, a2, rfl, a3⟩ <;> rcases h' with ⟨n, b0, b1, rfl, rfl⟩ | ⟨n, n1, z, b0, b2, b1, rfl, rfl⟩ | ⟨n, n1, b0, b2, rfl, b3⟩
  · exact ⟨rfl, rfl, (a0.one b0).2⟩
  · exact absurd (a0.one b0).2 a1
  · exact absurd (a0.one b0).2 a1
  · exact absurd (b0.one a0).2 b1
  · obtain ⟨rfl, _⟩ := a0.one b0; exact ⟨rfl, rfl, (a2.one b2).2.2⟩
  · obtain ⟨rfl, _⟩ := a0.one b0; exact absurd (a2.one b2).2.2 a1
  · exact absurd (b0.one a0).2 b1
  · obtain ⟨rfl, _⟩ := a0.one b0; exact absurd (b2.one a2).2.2 b1
  · obtain ⟨rfl, _⟩ := a0.one b0
    obtain ⟨rfl, rfl, _⟩ := a2.one b2
    exact ⟨a3.one b3, rfl, rfl⟩

end Go.Proofs.Ytgipkpkjoicehaa.pkt
