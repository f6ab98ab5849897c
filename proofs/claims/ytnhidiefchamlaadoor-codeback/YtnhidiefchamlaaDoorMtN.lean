/- Meters: plain facts. -/
import Derived.Test.YtnhidiefchamlaaDoorWnN
import Derived.Test.YtnhidiefchamlaaDoorOrN
import Derived.Test.YtnhidiefchamlaaDoorTkFlN
namespace Go.Proofs.YtnhidiefchamlaaDoor.met
open Go.Proofs.YtnhidiefchamlaaDoor.ora Go.Proofs.YtnhidiefchamlaaDoor.token

/-- A meter. -/
structure Mt where
  me : Int
  rev : Int
  cr : Int
  h : Int
  b : Nat
  bad : Int
  lock : Int
def mt0 : Mt := ⟨0, 0, 0, 0, 0, 0, 0⟩
/-- May it be? -/
structure Mt.may (m : Mt) : Prop where
  me : 0 ≤ m.me ∧ m.me ≤ 49
  rev : 0 ≤ m.rev ∧ m.rev ≤ 15
  cr : 0 ≤ m.cr ∧ m.cr ≤ 99999999
  bad : 0 ≤ m.bad ∧ m.bad ≤ 4
  lock : 0 ≤ m.lock ∧ m.lock ≤ 30
  one : ¬ (m.bad ≠ 0 ∧ m.lock ≠ 0)
  win : win.May m.h m.b
/-- Sold to this meter under its key; under an earlier one. -/
def Here (l : List Pr) (me rev bo t : Int) : Prop := ∃ j, j < l.length ∧ (l.getD j pr0).m = me ∧ (l.getD j pr0).b = bo ∧ (l.getD j pr0).t = t ∧ (l.getD j pr0).r = rev
def Early (l : List Pr) (me rev bo t : Int) : Prop := ∃ j, j < l.length ∧ (l.getD j pr0).m = me ∧ (l.getD j pr0).b = bo ∧ (l.getD j pr0).t = t ∧ (l.getD j pr0).r < rev
theorem here_is {l : List Pr} (hm : May l) (me rev bo t : Int) : Is l me rev bo t ↔ Here l me rev bo t := by
  constructor
  · rintro ⟨_, i, hi, ht⟩
    exact ⟨i, hi.lt, hi.is.1, hi.is.2.2, ht, hi.is.2.1⟩
  · rintro ⟨j, hj, h1, h2, h3, h4⟩
    refine ⟨hm, j, ?_, h3⟩
    have := (hm.each j hj).2
    rw [h1, h2, h4] at this
    exact this
theorem early_is {l : List Pr} (hm : May l) (me rev bo t : Int) : Early l me rev bo t ↔ ∃ r, r < rev ∧ Is l me r bo t := by
  constructor
  · rintro ⟨j, hj, h1, h2, h3, h4⟩
    exact ⟨_, h4, (here_is hm _ _ _ _).2 ⟨j, hj, h1, h2, h3, rfl⟩⟩
  · rintro ⟨r, hr, h⟩
    obtain ⟨j, hj, h1, h2, h3, h4⟩ := (here_is hm _ _ _ _).1 h
    exact ⟨j, hj, h1, h2, h3, by rw [h4]; exact hr⟩
/-- A bad try. -/
def badTry (m : Mt) : Mt := if m.bad + 1 ≥ 5 then { m with bad := 0, lock := 30 } else { m with bad := m.bad + 1 }
/-- A token is taken. -/
def taken (m : Mt) (c i a : Int) : Mt :=
  ⟨m.me, if c = 2 then a else m.rev, if c = 0 then m.cr + a else if c = 1 then 0 else m.cr, max m.h i, win.took m.h m.b i, 0, m.lock⟩
/-- What keying a token in gives. -/
def KeyIs (m : Mt) (l : List Pr) (c i a t bo : Int) (m' : Mt) (x e : Int) : Prop :=
  ((¬ (m.may ∧ May l)) ∧ m' = mt0 ∧ x = 0 ∧ e = 5) ∨
    ((m.may ∧ May l) ∧ (¬ (flawT c i a t = 0)) ∧ m' = m ∧ x = 0 ∧ e = flawT c i a t) ∨
    ((m.may ∧ May l) ∧ flawT c i a t = 0 ∧ (¬ (m.lock ≤ 0)) ∧ m' = m ∧ x = 0 ∧ e = 10) ∨
    ((m.may ∧ May l) ∧ flawT c i a t = 0 ∧ m.lock ≤ 0 ∧ (¬ (c ≠ 3)) ∧ m' = m ∧ x = 0 ∧ e = 0) ∨
    ((m.may ∧ May l) ∧ flawT c i a t = 0 ∧ m.lock ≤ 0 ∧ c ≠ 3 ∧ (¬ Here l m.me m.rev bo t) ∧ Early l m.me m.rev bo t ∧ m' = m ∧ x = 0 ∧ e = 11) ∨
    ((m.may ∧ May l) ∧ flawT c i a t = 0 ∧ m.lock ≤ 0 ∧ c ≠ 3 ∧ (¬ Here l m.me m.rev bo t) ∧ (¬ Early l m.me m.rev bo t) ∧ m' = badTry m ∧ x = 0 ∧ e = 12) ∨
    ((m.may ∧ May l) ∧ flawT c i a t = 0 ∧ m.lock ≤ 0 ∧ c ≠ 3 ∧ Here l m.me m.rev bo t ∧ win.JudgeIs m.h m.b i e ∧ e ≠ 0 ∧ m' = m ∧ x = 0) ∨
    ((m.may ∧ May l) ∧ flawT c i a t = 0 ∧ m.lock ≤ 0 ∧ c ≠ 3 ∧ Here l m.me m.rev bo t ∧ win.JudgeIs m.h m.b i 0 ∧ (¬ ¬ (c = 0 ∧ 99999999 - m.cr < a)) ∧ m' = m ∧ x = 0 ∧ e = 15) ∨
    ((m.may ∧ May l) ∧ flawT c i a t = 0 ∧ m.lock ≤ 0 ∧ c ≠ 3 ∧ Here l m.me m.rev bo t ∧ win.JudgeIs m.h m.b i 0 ∧ (¬ (c = 0 ∧ 99999999 - m.cr < a)) ∧ (¬ ¬ (c = 2 ∧ a ≤ m.rev)) ∧ m' = m ∧ x = 0 ∧ e = 24) ∨
    ((m.may ∧ May l) ∧ flawT c i a t = 0 ∧ m.lock ≤ 0 ∧ c ≠ 3 ∧ Here l m.me m.rev bo t ∧ win.JudgeIs m.h m.b i 0 ∧ (¬ (c = 0 ∧ 99999999 - m.cr < a)) ∧ (¬ (c = 2 ∧ a ≤ m.rev)) ∧ m' = taken m c i a ∧ x = (if c = 0 then a else 0) ∧ e = 0)
theorem KeyIs.state {m : Mt} {l : List Pr} {c i a t bo : Int} (h0 : ¬ (m.may ∧ May l)) : KeyIs m l c i a t bo mt0 0 5 := .inl ⟨h0, rfl, rfl, rfl⟩
theorem KeyIs.flaw {m : Mt} {l : List Pr} {c i a t bo : Int} (h0 : (m.may ∧ May l)) (h1 : ¬ (flawT c i a t = 0)) : KeyIs m l c i a t bo m 0 (flawT c i a t) := .inr (.inl ⟨h0, h1, rfl, rfl, rfl⟩)
theorem KeyIs.locked {m : Mt} {l : List Pr} {c i a t bo : Int} (h0 : (m.may ∧ May l)) (h1 : flawT c i a t = 0) (h2 : ¬ (m.lock ≤ 0)) : KeyIs m l c i a t bo m 0 10 := .inr (.inr (.inl ⟨h0, h1, h2, rfl, rfl, rfl⟩))
theorem KeyIs.test {m : Mt} {l : List Pr} {c i a t bo : Int} (h0 : (m.may ∧ May l)) (h1 : flawT c i a t = 0) (h2 : m.lock ≤ 0) (h3 : ¬ (c ≠ 3)) : KeyIs m l c i a t bo m 0 0 := .inr (.inr (.inr (.inl ⟨h0, h1, h2, h3, rfl, rfl, rfl⟩)))
theorem KeyIs.old {m : Mt} {l : List Pr} {c i a t bo : Int} (h0 : (m.may ∧ May l)) (h1 : flawT c i a t = 0) (h2 : m.lock ≤ 0) (h3 : c ≠ 3) (h4 : ¬ Here l m.me m.rev bo t) (h5 : Early l m.me m.rev bo t) : KeyIs m l c i a t bo m 0 11 := .inr (.inr (.inr (.inr (.inl ⟨h0, h1, h2, h3, h4, h5, rfl, rfl, rfl⟩))))
theorem KeyIs.tag {m : Mt} {l : List Pr} {c i a t bo : Int} (h0 : (m.may ∧ May l)) (h1 : flawT c i a t = 0) (h2 : m.lock ≤ 0) (h3 : c ≠ 3) (h4 : ¬ Here l m.me m.rev bo t) (h5 : ¬ Early l m.me m.rev bo t) : KeyIs m l c i a t bo (badTry m) 0 12 := .inr (.inr (.inr (.inr (.inr (.inl ⟨h0, h1, h2, h3, h4, h5, rfl, rfl, rfl⟩)))))
theorem KeyIs.judge {m : Mt} {l : List Pr} {c i a t bo : Int} (e : Int) (h0 : (m.may ∧ May l)) (h1 : flawT c i a t = 0) (h2 : m.lock ≤ 0) (h3 : c ≠ 3) (h4 : Here l m.me m.rev bo t) (h5 : win.JudgeIs m.h m.b i e) (h6 : e ≠ 0) : KeyIs m l c i a t bo m 0 e := .inr (.inr (.inr (.inr (.inr (.inr (.inl ⟨h0, h1, h2, h3, h4, h5, h6, rfl, rfl⟩))))))
theorem KeyIs.full {m : Mt} {l : List Pr} {c i a t bo : Int} (h0 : (m.may ∧ May l)) (h1 : flawT c i a t = 0) (h2 : m.lock ≤ 0) (h3 : c ≠ 3) (h4 : Here l m.me m.rev bo t) (h5 : win.JudgeIs m.h m.b i 0) (h6 : ¬ ¬ (c = 0 ∧ 99999999 - m.cr < a)) : KeyIs m l c i a t bo m 0 15 := .inr (.inr (.inr (.inr (.inr (.inr (.inr (.inl ⟨h0, h1, h2, h3, h4, h5, h6, rfl, rfl, rfl⟩)))))))
theorem KeyIs.key {m : Mt} {l : List Pr} {c i a t bo : Int} (h0 : (m.may ∧ May l)) (h1 : flawT c i a t = 0) (h2 : m.lock ≤ 0) (h3 : c ≠ 3) (h4 : Here l m.me m.rev bo t) (h5 : win.JudgeIs m.h m.b i 0) (h6 : ¬ (c = 0 ∧ 99999999 - m.cr < a)) (h7 : ¬ ¬ (c = 2 ∧ a ≤ m.rev)) : KeyIs m l c i a t bo m 0 24 := .inr (.inr (.inr (.inr (.inr (.inr (.inr (.inr (.inl ⟨h0, h1, h2, h3, h4, h5, h6, h7, rfl, rfl, rfl⟩))))))))
theorem KeyIs.take {m : Mt} {l : List Pr} {c i a t bo : Int} (h0 : (m.may ∧ May l)) (h1 : flawT c i a t = 0) (h2 : m.lock ≤ 0) (h3 : c ≠ 3) (h4 : Here l m.me m.rev bo t) (h5 : win.JudgeIs m.h m.b i 0) (h6 : ¬ (c = 0 ∧ 99999999 - m.cr < a)) (h7 : ¬ (c = 2 ∧ a ≤ m.rev)) : KeyIs m l c i a t bo (taken m c i a) (if c = 0 then a else 0) 0 := .inr (.inr (.inr (.inr (.inr (.inr (.inr (.inr (.inr (⟨h0, h1, h2, h3, h4, h5, h6, h7, rfl, rfl, rfl⟩)))))))))
theorem KeyIs.one {m : Mt} {l : List Pr} {c i a t bo : Int} {m1 m2 : Mt} {x1 x2 e1 e2 : Int} (h1 : KeyIs m l c i a t bo m1 x1 e1) (h2 : KeyIs m l c i a t bo m2 x2 e2) : m1 = m2 ∧ x1 = x2 ∧ e1 = e2 := by
  rcases h1 with ⟨a0, rfl, rfl, rfl⟩ | ⟨a0, a1, rfl, rfl, rfl⟩ | ⟨a0, a1, a2, rfl, rfl, rfl⟩ | ⟨a0, a1, a2, a3, rfl, rfl, rfl⟩ | ⟨a0, a1, a2, a3, a4, a5, rfl, rfl, rfl⟩ | ⟨a0, a1, a2, a3, a4, a5, rfl, rfl, rfl⟩ | ⟨a0, a1, a2, a3, a4, aj, an, rfl, rfl⟩ | ⟨a0, a1, a2, a3, a4, aj, a6, rfl, rfl, rfl⟩ | ⟨a0, a1, a2, a3, a4, aj, a6, a7, rfl, rfl, rfl⟩ | ⟨a0, a1, a2, a3, a4, aj, a6, a7, rfl, rfl, rfl⟩ <;>
    rcases h2 with ⟨b0, rfl, rfl, rfl⟩ | ⟨b0, b1, rfl, rfl, rfl⟩ | ⟨b0, b1, b2, rfl, rfl, rfl⟩ | ⟨b0, b1, b2, b3, rfl, rfl, rfl⟩ | ⟨b0, b1, b2, b3, b4, b5, rfl, rfl, rfl⟩ | ⟨b0, b1, b2, b3, b4, b5, rfl, rfl, rfl⟩ | ⟨b0, b1, b2, b3, b4, bj, bn, rfl, rfl⟩ | ⟨b0, b1, b2, b3, b4, bj, b6, rfl, rfl, rfl⟩ | ⟨b0, b1, b2, b3, b4, bj, b6, b7, rfl, rfl, rfl⟩ | ⟨b0, b1, b2, b3, b4, bj, b6, b7, rfl, rfl, rfl⟩ <;>
      first
        | exact ⟨rfl, rfl, rfl⟩
        | contradiction
        | exact ⟨rfl, rfl, aj.one bj⟩
        | exact absurd (aj.one bj) an
        | exact absurd (bj.one aj) bn

end Go.Proofs.YtnhidiefchamlaaDoor.met
