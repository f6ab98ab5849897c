/- Meters: what beginning, ticking, words and reading give: plain facts. -/
import Derived.Test.YtnhidiefchamlaaDoorMtW
namespace Go.Proofs.YtnhidiefchamlaaDoor.met
open Go.Proofs.YtnhidiefchamlaaDoor.ora Go.Proofs.YtnhidiefchamlaaDoor.token

/-- What beginning gives. -/
def mtNew (me : Int) : Mt := ⟨me, 0, 0, 0, 0, 0, 0⟩
def BeginIs (me : Int) (m : Mt) (e : Int) : Prop := ((0 ≤ me ∧ me ≤ 49) ∧ m = mtNew me ∧ e = 0) ∨ (¬ (0 ≤ me ∧ me ≤ 49) ∧ m = mt0 ∧ e = 2)
theorem BeginIs.ok {me : Int} (h : 0 ≤ me ∧ me ≤ 49) : BeginIs me (mtNew me) 0 := .inl ⟨h, rfl, rfl⟩
theorem BeginIs.range {me : Int} (h : ¬ (0 ≤ me ∧ me ≤ 49)) : BeginIs me mt0 2 := .inr ⟨h, rfl, rfl⟩
theorem BeginIs.one {me : Int} {m m' : Mt} {e e' : Int} (h : BeginIs me m e) (h' : BeginIs me m' e') : m = m' ∧ e = e' := by
  rcases h with ⟨a0, rfl, rfl⟩ | ⟨a0, rfl, rfl⟩ <;> rcases h' with ⟨b0, rfl, rfl⟩ | ⟨b0, rfl, rfl⟩ <;> first | exact ⟨rfl, rfl⟩ | contradiction
/-- What a tick gives. -/
def ticked (m : Mt) (ld : Int) : Mt := { m with cr := if m.cr ≤ ld then 0 else m.cr - ld, lock := if 0 < m.lock then m.lock - 1 else m.lock }
def burnt (m : Mt) (ld : Int) : Int := if m.cr ≤ ld then m.cr else ld
def TickIs (m : Mt) (ld : Int) (m' : Mt) (x e : Int) : Prop := (¬ m.may ∧ m' = mt0 ∧ x = 0 ∧ e = 5) ∨ (m.may ∧ ¬ (0 ≤ ld ∧ ld ≤ 1000) ∧ m' = m ∧ x = 0 ∧ e = 2) ∨ (m.may ∧ (0 ≤ ld ∧ ld ≤ 1000) ∧ m' = ticked m ld ∧ x = burnt m ld ∧ e = 0)
theorem TickIs.state {m : Mt} {ld : Int} (h : ¬ m.may) : TickIs m ld mt0 0 5 := .inl ⟨h, rfl, rfl, rfl⟩
theorem TickIs.range {m : Mt} {ld : Int} (h : m.may) (hl : ¬ (0 ≤ ld ∧ ld ≤ 1000)) : TickIs m ld m 0 2 := .inr (.inl ⟨h, hl, rfl, rfl, rfl⟩)
theorem TickIs.ok {m : Mt} {ld : Int} (h : m.may) (hl : 0 ≤ ld ∧ ld ≤ 1000) : TickIs m ld (ticked m ld) (burnt m ld) 0 := .inr (.inr ⟨h, hl, rfl, rfl, rfl⟩)
theorem TickIs.one {m : Mt} {ld : Int} {m1 m2 : Mt} {x1 x2 e1 e2 : Int} (h1 : TickIs m ld m1 x1 e1) (h2 : TickIs m ld m2 x2 e2) : m1 = m2 ∧ x1 = x2 ∧ e1 = e2 := by
  rcases h1 with ⟨a0, rfl, rfl, rfl⟩ | ⟨a0, a1, rfl, rfl, rfl⟩ | ⟨a0, a1, rfl, rfl, rfl⟩ <;> rcases h2 with ⟨b0, rfl, rfl, rfl⟩ | ⟨b0, b1, rfl, rfl, rfl⟩ | ⟨b0, b1, rfl, rfl, rfl⟩ <;> first | exact ⟨rfl, rfl, rfl⟩ | contradiction
theorem ticked_may {m : Mt} (h : m.may) {ld : Int} (hl : 0 ≤ ld ∧ ld ≤ 1000) : (ticked m ld).may := by
  have h3 := h.cr; have h5 := h.lock; have h6 := h.one
  refine ⟨h.me, h.rev, ?_, h.bad, ?_, ?_, h.win⟩
  · unfold ticked; simp only []; split <;> omega
  · unfold ticked; simp only []; split <;> omega
  · rintro ⟨a1, a2⟩
    unfold ticked at a1 a2; simp only [] at a1 a2
    split at a2
    · exact h6 ⟨a1, by omega⟩
    · exact h6 ⟨a1, a2⟩
/-- What a meter's words are. -/
def WordsIs (m : Mt) (l : List Int) (e : Int) : Prop := (m.may ∧ l = wds m ∧ e = 0) ∨ (¬ m.may ∧ l = [] ∧ e = 5)
theorem WordsIs.ok {m : Mt} (h : m.may) : WordsIs m (wds m) 0 := .inl ⟨h, rfl, rfl⟩
theorem WordsIs.state {m : Mt} (h : ¬ m.may) : WordsIs m [] 5 := .inr ⟨h, rfl, rfl⟩
theorem WordsIs.one {m : Mt} {l l' : List Int} {e e' : Int} (h : WordsIs m l e) (h' : WordsIs m l' e') : l = l' ∧ e = e' := by
  rcases h with ⟨a0, rfl, rfl⟩ | ⟨a0, rfl, rfl⟩ <;> rcases h' with ⟨b0, rfl, rfl⟩ | ⟨b0, rfl, rfl⟩ <;> first | exact ⟨rfl, rfl⟩ | contradiction
/-- What reading gives. -/
def rdL (l : List Int) : Mt := rd (l.getD 0 0) (l.getD 1 0) (l.getD 2 0) (l.getD 3 0) (l.getD 4 0)
def ReadIs (l : List Int) (m : Mt) (e : Int) : Prop := (l.length ≠ 5 ∧ m = mt0 ∧ e = 1) ∨ (¬ (l.length ≠ 5) ∧ ¬ (rdL l).may ∧ m = mt0 ∧ e = 5) ∨ (¬ (l.length ≠ 5) ∧ (rdL l).may ∧ m = rdL l ∧ e = 0)
theorem ReadIs.size {l : List Int} (h : l.length ≠ 5) : ReadIs l mt0 1 := .inl ⟨h, rfl, rfl⟩
theorem ReadIs.state {l : List Int} (h : ¬ (l.length ≠ 5)) (hm : ¬ (rdL l).may) : ReadIs l mt0 5 := .inr (.inl ⟨h, hm, rfl, rfl⟩)
theorem ReadIs.ok {l : List Int} (h : ¬ (l.length ≠ 5)) (hm : (rdL l).may) : ReadIs l (rdL l) 0 := .inr (.inr ⟨h, hm, rfl, rfl⟩)
theorem ReadIs.one {l : List Int} {m m' : Mt} {e e' : Int} (h : ReadIs l m e) (h' : ReadIs l m' e') : m = m' ∧ e = e' := by
  rcases h with ⟨a0, rfl, rfl⟩ | ⟨a0, a1, rfl, rfl⟩ | ⟨a0, a1, rfl, rfl⟩ <;> rcases h' with ⟨b0, rfl, rfl⟩ | ⟨b0, b1, rfl, rfl⟩ | ⟨b0, b1, rfl, rfl⟩ <;> first | exact ⟨rfl, rfl⟩ | contradiction
theorem list5 {l : List Int} (h : l.length = 5) : l = [l.getD 0 0, l.getD 1 0, l.getD 2 0, l.getD 3 0, l.getD 4 0] := by
  match l, h with
  | [a, b, c, d, e], _ => rfl
theorem rdL_wds {m : Mt} (h : m.may) : rdL (wds m) = m := rd_wds h
theorem wds_rdL {l : List Int} (h : l.length = 5) (hw : ∀ x ∈ l, 0 ≤ x ∧ x < 4294967296) : wds (rdL l) = l := by
  have e := list5 h
  have h3 : 0 ≤ l.getD 3 0 ∧ l.getD 3 0 < 4294967296 := hw _ (by rw [e]; simp)
  have h4 : 0 ≤ l.getD 4 0 ∧ l.getD 4 0 < 4294967296 := hw _ (by rw [e]; simp)
  unfold rdL
  rw [wds_rd h3.1 h3.2 h4.1]
  exact e.symm

end Go.Proofs.YtnhidiefchamlaaDoor.met
