/- Books: plain facts. -/
import Derived.Test.YtfhlokjpdkmdjaaBkN
import Derived.Test.YtfhlokjpdkmdjaaSoN
import Derived.Test.YtfhlokjpdkmdjaaAcN
namespace Go.Proofs.Ytfhlokjpdkmdjaa.book
open Go.Proofs.Ytfhlokjpdkmdjaa.acc (Ac Tm Bi TFault TRight OweIs SellIs GrantIs RekeyIs)
set_option linter.unusedVariables false

/-- A customer: an account, and what was sold to it. -/
structure Cm where
  a : Ac
  so : List So
def cm0 : Cm := ⟨acc.ac0, []⟩
def billOf (v : Ev) : Bi := ⟨v.id, v.te, v.de, v.fe, v.pr, v.ch, v.un⟩
/-- The token that an event tells of. -/
def soldOf (c : Cm) (v : Ev) : So := if v.kd = 4 then ⟨v.id, 2, c.a.rv + 1, v.tg, c.a.rv⟩ else ⟨v.id, 0, v.un, v.tg, c.a.rv⟩
/-- What Sell, Grant or Rekey tell of an event. -/
def Tells (t : Tm) (c : Cm) (v : Ev) (b : Ac) (l : Bi) (e : Int) : Prop := (v.kd = 2 ∧ SellIs c.a t v.te v.mo b l e) ∨ (v.kd = 3 ∧ GrantIs c.a t v.mo b l e) ∨ (v.kd = 4 ∧ RekeyIs c.a b l e)
theorem Tells.one {t : Tm} {c : Cm} {v : Ev} {b b' : Ac} {l l' : Bi} {e e' : Int} (h : Tells t c v b l e) (h' : Tells t c v b' l' e') : b = b' ∧ l = l' ∧ e = e' := by
  rcases h with ⟨p, q⟩ | ⟨p, q⟩ | ⟨p, q⟩ <;> rcases h' with ⟨p', q'⟩ | ⟨p', q'⟩ | ⟨p', q'⟩ <;> first | exact q.one q' | omega
/-- A customer behind an event that is no Register. -/
def HapIs (t : Tm) (c : Cm) (v : Ev) (c' : Cm) (f : Int) : Prop :=
  (v.kd = 5 ∧ ∃ b, OweIs c.a ⟨v.ow, v.bp⟩ b f ∧ (f = 0 → c' = ⟨b, c.so⟩)) ∨
  (v.kd ≠ 5 ∧ ∃ b l e, Tells t c v b l e ∧ ((e ≠ 0 ∧ f = e) ∨ (e = 0 ∧ l ≠ billOf v ∧ f = 8) ∨ (e = 0 ∧ l = billOf v ∧ f = 0 ∧ c' = ⟨b, c.so ++ [soldOf c v]⟩)))
theorem HapIs.one {t : Tm} {c c' d' : Cm} {v : Ev} {f g : Int} (h : HapIs t c v c' f) (h' : HapIs t c v d' g) : f = g ∧ (f = 0 → c' = d') := by
  rcases h with ⟨p, b, q, r⟩ | ⟨p, b, l, e, q, r⟩ <;> rcases h' with ⟨p', b', q', r'⟩ | ⟨p', b', l', e', q', r'⟩
  · obtain ⟨rfl, rfl⟩ := q.one q'
    exact ⟨rfl, fun h => (r h).trans (r' h).symm⟩
  · exact absurd p p'
  · exact absurd p' p
  · obtain ⟨rfl, rfl, rfl⟩ := q.one q'
    rcases r with ⟨x, rfl⟩ | ⟨x, y, rfl⟩ | ⟨x, y, rfl, z⟩ <;> rcases r' with ⟨x', rfl⟩ | ⟨x', y', rfl⟩ | ⟨x', y', rfl, z'⟩ <;> first | exact ⟨rfl, fun h => absurd h x⟩ | exact ⟨rfl, fun h => absurd h (by decide)⟩ | exact ⟨rfl, fun _ => z.trans z'.symm⟩ | contradiction
/-- The first customer with a meter. -/
def FirstAt (bk : List Cm) (me : Int) (k : Nat) : Prop := k < bk.length ∧ (bk.getD k cm0).a.me = me ∧ ∀ j, j < k → (bk.getD j cm0).a.me ≠ me
def NoneAt (bk : List Cm) (me : Int) : Prop := ∀ j, j < bk.length → (bk.getD j cm0).a.me ≠ me
theorem FirstAt.one {bk : List Cm} {me : Int} {k k' : Nat} (h : FirstAt bk me k) (h' : FirstAt bk me k') : k = k' := by
  rcases Nat.lt_trichotomy k k' with c | c | c
  · exact absurd h.2.1 (h'.2.2 k c)
  · exact c
  · exact absurd h'.2.1 (h.2.2 k' c)
theorem FirstAt.some {bk : List Cm} {me : Int} {k : Nat} (h : FirstAt bk me k) : ¬ NoneAt bk me := fun hn => hn k h.1 h.2.1
/-- What an event does to a book, or why it does not happen. -/
def StepIs (t : Tm) (bk : List Cm) (v : Ev) (bk' : List Cm) (f : Int) : Prop :=
  (¬ EMay v ∧ f = 5) ∨ (EMay v ∧ v.kd = 1 ∧ ¬ NoneAt bk v.me ∧ f = 21) ∨ (EMay v ∧ v.kd = 1 ∧ NoneAt bk v.me ∧ f = 0 ∧ bk' = bk ++ [⟨⟨v.me, 0, 1, 0, 0, -1, []⟩, []⟩]) ∨
  (EMay v ∧ v.kd ≠ 1 ∧ NoneAt bk v.me ∧ f = 18) ∨ (EMay v ∧ v.kd ≠ 1 ∧ ∃ k c', FirstAt bk v.me k ∧ HapIs t (bk.getD k cm0) v c' f ∧ (f = 0 → bk' = bk.set k c'))
theorem StepIs.one {t : Tm} {bk b b' : List Cm} {v : Ev} {f f' : Int} (h : StepIs t bk v b f) (h' : StepIs t bk v b' f') : f = f' ∧ (f = 0 → b = b') := by
  rcases h with ⟨p, rfl⟩ | ⟨p, q, r, rfl⟩ | ⟨p, q, r, rfl, s⟩ | ⟨p, q, r, rfl⟩ | ⟨p, q, k, c, hk, hh, hs⟩ <;> rcases h' with ⟨p', rfl⟩ | ⟨p', q', r', rfl⟩ | ⟨p', q', r', rfl, s'⟩ | ⟨p', q', r', rfl⟩ | ⟨p', q', k', c', hk', hh', hs'⟩ <;> first | contradiction | exact ⟨rfl, fun h => absurd h (by decide)⟩ | exact ⟨rfl, fun _ => s.trans s'.symm⟩ | exact absurd r hk'.some | exact absurd r' hk.some | skip
  obtain rfl := hk.one hk'
  obtain ⟨rfl, e⟩ := hh.one hh'
  exact ⟨rfl, fun h => by rw [hs h, hs' h, e h]⟩
/-- The book of events. -/
def BookIs (t : Tm) (l : List Ev) (bk : List Cm) (at_ f : Int) : Prop :=
  (TFault t f ∧ f ≠ 0 ∧ bk = [] ∧ at_ = 0) ∨ (TRight t ∧ 120 < l.length ∧ bk = [] ∧ at_ = 0 ∧ f = 1) ∨
  (TRight t ∧ l.length ≤ 120 ∧ ∃ (k : Nat) (st : Nat → List Cm), st 0 = [] ∧ (∀ i, i < k → StepIs t (st i) (l.getD i ev0) (st (i + 1)) 0) ∧
    ((k = l.length ∧ bk = st k ∧ at_ = 0 ∧ f = 0) ∨ (k < l.length ∧ (∃ x, StepIs t (st k) (l.getD k ev0) x f) ∧ f ≠ 0 ∧ bk = [] ∧ at_ = (k : Int))))
theorem states_one {t : Tm} {l : List Ev} {k k' : Nat} {st st' : Nat → List Cm} (h0 : st 0 = []) (h0' : st' 0 = []) (h : ∀ i, i < k → StepIs t (st i) (l.getD i ev0) (st (i + 1)) 0) (h' : ∀ i, i < k' → StepIs t (st' i) (l.getD i ev0) (st' (i + 1)) 0) : ∀ i, i ≤ k → i ≤ k' → st i = st' i
  | 0, _, _ => h0.trans h0'.symm
  | i + 1, hk, hk' => by
    have ih := states_one h0 h0' h h' i (by omega) (by omega)
    have q := h i (by omega)
    have q' := h' i (by omega)
    rw [ih] at q
    exact (q.one q').2 rfl
theorem BookIs.one {t : Tm} {l : List Ev} {b b' : List Cm} {a a' f f' : Int} (h : BookIs t l b a f) (h' : BookIs t l b' a' f') : b = b' ∧ a = a' ∧ f = f' := by
  rcases h with ⟨p, q, rfl, rfl⟩ | ⟨p, q, rfl, rfl, rfl⟩ | ⟨p, q, k, st, s0, s1, s2⟩ <;> rcases h' with ⟨p', q', rfl, rfl⟩ | ⟨p', q', rfl, rfl, rfl⟩ | ⟨p', q', k', st', s0', s1', s2'⟩
  · exact ⟨rfl, rfl, p.one p'⟩
  · exact absurd (p.ok.2 p') q
  · exact absurd (p.ok.2 p') q
  · exact absurd (p'.ok.2 p) q'
  · exact ⟨rfl, rfl, rfl⟩
  · omega
  · exact absurd (p'.ok.2 p) q'
  · omega
  · have same := states_one s0 s0' s1 s1'
    rcases s2 with ⟨e, rfl, rfl, rfl⟩ | ⟨e, ⟨x, hx⟩, hf, rfl, rfl⟩ <;> rcases s2' with ⟨e', rfl, rfl, rfl⟩ | ⟨e', ⟨x', hx'⟩, hf', rfl, rfl⟩
    · have : k = k' := by omega
      subst this
      exact ⟨same k (Nat.le_refl _) (Nat.le_refl _), rfl, rfl⟩
    · have q := s1 k' (by omega)
      rw [same k' (by omega) (Nat.le_refl _)] at q
      exact absurd ((q.one hx').1.symm) hf'
    · have q := s1' k (by omega)
      rw [← same k (Nat.le_refl _) (by omega)] at q
      exact absurd ((q.one hx).1.symm) hf
    · rcases Nat.lt_trichotomy k k' with c | c | c
      · have q := s1' k c
        rw [← same k (Nat.le_refl _) (by omega)] at q
        exact absurd ((q.one hx).1.symm) hf
      · subst c
        rw [same k (Nat.le_refl _) (Nat.le_refl _)] at hx
        exact ⟨rfl, rfl, (hx.one hx').1⟩
      · have q := s1 k' c
        rw [same k' (by omega) (Nat.le_refl _)] at q
        exact absurd ((q.one hx').1.symm) hf'
/-- Where it stands while the events are gone through. -/
theorem run_more {t : Tm} {l : List Ev} {k : Nat} {st : Nat → List Cm} {bk : List Cm} (h : ∀ i, i < k → StepIs t (st i) (l.getD i ev0) (st (i + 1)) 0) (hs : StepIs t (st k) (l.getD k ev0) bk 0) : ∃ st' : Nat → List Cm, st' 0 = st 0 ∧ st' (k + 1) = bk ∧ (∀ i, i < k + 1 → StepIs t (st' i) (l.getD i ev0) (st' (i + 1)) 0) := by
  refine ⟨fun i => if i ≤ k then st i else bk, if_pos (Nat.zero_le _), if_neg (by omega), fun i hi => ?_⟩
  show StepIs t (if i ≤ k then st i else bk) _ (if i + 1 ≤ k then st (i + 1) else bk) 0
  by_cases e : i = k
  · subst e
    rw [if_pos (Nat.le_refl _), if_neg (by omega)]
    exact hs
  · rw [if_pos (by omega), if_pos (by omega)]
    exact h i (by omega)

end Go.Proofs.Ytfhlokjpdkmdjaa.book
