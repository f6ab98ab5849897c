/- Tokens that were sold, keyed: plain facts. -/
import Derived.Test.YtmpapnblpjnlmabDoorMtD
namespace Go.Proofs.YtmpapnblpjnlmabDoor.met
open Go.Proofs.YtmpapnblpjnlmabDoor.ora Go.Proofs.YtmpapnblpjnlmabDoor.token

theorem body_bd {k : Tok} (h : k.ok) : 0 ≤ (k.body : Int) ∧ (k.body : Int) ≤ 8796093022207 := by
  have h1 := h.c3; have h2 := h.i2; have h3 := h.a2
  unfold Tok.body; omega
theorem pr_may {m : Mt} (hm : m.may) {k : Tok} (hk : k.ok) : (Pr.mk m.me m.rev (k.body : Int) (k.t : Int)).may := ⟨hm.me, hm.rev, body_bd hk, by show 0 ≤ (k.t : Int); omega, by show (k.t : Int) ≤ 65535; have := hk.t2; omega⟩
/-- The first that is sold. -/
theorem first_sold {m : Mt} (hm : m.may) {k : Tok} (hk : k.ok) {ls : List Pr} {tg f : Int} (h : IssueIs [] m.me m.rev (k.body : Int) (k.t : Int) ls tg f) : ls = [⟨m.me, m.rev, (k.body : Int), (k.t : Int)⟩] ∧ tg = (k.t : Int) ∧ f = 0 := by
  have h2 : IssueIs [] m.me m.rev (k.body : Int) (k.t : Int) ([] ++ [⟨m.me, m.rev, (k.body : Int), (k.t : Int)⟩]) (k.t : Int) 0 := .inr (.inr (.inr (.inr ⟨May.nil, pr_may hm hk, fun j hj => by simp at hj, by decide, rfl, rfl, rfl⟩)))
  exact h.one h2
theorem one_may {p : Pr} (h : p.may) : May [p] := by
  have := May.app (l := []) (m := p.m) (r := p.r) (b := p.b) (d := p.t) May.nil h (fun j hj => by simp at hj) (by decide)
  exact this
theorem one_here (me rev bo t : Int) : Here [⟨me, rev, bo, t⟩] me rev bo t := ⟨0, Nat.zero_lt_one, rfl, rfl, rfl, rfl⟩
/-- Nothing was taken yet: each number may be. -/
theorem judge_new {i : Int} (h1 : 1 ≤ i) (h2 : i ≤ 1048575) : win.JudgeIs 0 0 i 0 := by
  refine .inr (.inr (.inr (.inr ⟨.inl ⟨rfl, rfl⟩, ⟨h1, h2⟩, by omega, fun hm => ?_, rfl⟩)))
  have := ((win.mem_all 0 0 i).1 hm).2.1
  omega
theorem judge_taken {h : Int} {b : Nat} {i : Int} (hj : win.JudgeIs h b i 0) : win.JudgeIs (max h i) (win.took h b i) i 14 := by
  rcases hj with ⟨_, e⟩ | ⟨_, _, e⟩ | ⟨_, _, _, e⟩ | ⟨_, _, _, _, e⟩ | ⟨hm, hr, ho, hn, _⟩
  · exact absurd e (by decide)
  · exact absurd e (by decide)
  · exact absurd e (by decide)
  · exact absurd e (by decide)
  · have hb : win.took h b i < 2 ^ 64 := win.took_lt hn
    have hbit := fun t ht => win.took_bit hn t ht
    have hh : 0 ≤ h ∧ h ≤ 1048575 := by rcases hm with ⟨a, _⟩ | ⟨a, c, _⟩ <;> omega
    have him : i ∈ win.mem (max h i) (win.took h b i) 64 := (win.mem_all _ _ _).2 ⟨by omega, by omega, by
      rw [hbit _ (by omega)]
      exact decide_eq_true (.inr (by omega))⟩
    have hmay : win.May (max h i) (win.took h b i) := by
      refine .inr ⟨by omega, by omega, ?_, fun t ht htb => ?_⟩
      · rw [hbit 0 (by decide)]
        refine decide_eq_true ?_
        by_cases hc : i ≤ h
        · left
          rw [show max h i = h by omega]
          rcases hm with ⟨a, c⟩ | ⟨a, c, d, _⟩
          · omega
          · exact (win.mem_all _ _ _).2 ⟨by omega, by omega, by rw [show (h - (h - ((0 : Nat) : Int))).toNat = 0 by omega]; exact d⟩
        · right; omega
      · rw [hbit t ht] at htb
        rcases of_decide_eq_true htb with hx | hx
        · obtain ⟨a1, a2, a3⟩ := (win.mem_all _ _ _).1 hx
          rcases hm with ⟨a, c⟩ | ⟨a, c, _, d⟩
          · rw [c] at a3; simp at a3
          · have := d _ (by omega) a3
            omega
        · omega
    exact .inr (.inr (.inr (.inl ⟨hmay, hr, by omega, him, rfl⟩)))
/-- What keying gives of a token that was sold here, under this key. -/
theorem key_sold {m : Mt} {l : List Pr} {c i a t bo : Int} {m' : Mt} {x e : Int} (h : KeyIs m l c i a t bo m' x e) (hm : m.may) (hl : May l) (hf : flawT c i a t = 0) (hk : m.lock ≤ 0) (hc : c ≠ 3) (hh : Here l m.me m.rev bo t) (hj : win.JudgeIs m.h m.b i 0) :
    (c = 0 ∧ 99999999 - m.cr < a ∧ m' = m ∧ x = 0 ∧ e = 15) ∨ (c = 2 ∧ a ≤ m.rev ∧ m' = m ∧ x = 0 ∧ e = 24) ∨ (¬ (c = 0 ∧ 99999999 - m.cr < a) ∧ ¬ (c = 2 ∧ a ≤ m.rev) ∧ m' = taken m c i a ∧ x = (if c = 0 then a else 0) ∧ e = 0) := by
  by_cases h1 : c = 0 ∧ 99999999 - m.cr < a
  · obtain ⟨r1, r2, r3⟩ := h.one (KeyIs.full ⟨hm, hl⟩ hf hk hc hh hj (fun hn => hn h1))
    exact .inl ⟨h1.1, h1.2, r1, r2, r3⟩
  · by_cases h2 : c = 2 ∧ a ≤ m.rev
    · obtain ⟨r1, r2, r3⟩ := h.one (KeyIs.key ⟨hm, hl⟩ hf hk hc hh hj h1 (fun hn => hn h2))
      exact .inr (.inl ⟨h2.1, h2.2, r1, r2, r3⟩)
    · obtain ⟨r1, r2, r3⟩ := h.one (KeyIs.take ⟨hm, hl⟩ hf hk hc hh hj h1 h2)
      exact .inr (.inr ⟨h1, h2, r1, r2, r3⟩)
/-- Keyed again. -/
theorem taken_may {m : Mt} (hm : m.may) {c i a : Int} (hj : win.JudgeIs m.h m.b i 0) (ha : 0 ≤ a) (h1 : ¬ (c = 0 ∧ 99999999 - m.cr < a)) (h2 : c = 2 → a ≤ 15) : (taken m c i a).may := by
  have e1 := hm.me; have e2 := hm.rev; have e3 := hm.cr; have e4 := hm.bad; have e5 := hm.lock
  refine ⟨e1, ?_, ?_, ⟨Int.le_refl _, show (0 : Int) ≤ 4 by decide⟩, e5, fun hx => hx.1 rfl, ?_⟩
  · unfold taken; simp only []; split
    · rename_i hc; have := h2 hc; omega
    · exact e2
  · unfold taken; simp only []; split
    · omega
    · split <;> omega
  · rcases judge_taken hj with ⟨_, e⟩ | ⟨_, _, e⟩ | ⟨_, _, _, e⟩ | ⟨hmm, _, _, _, _⟩ | ⟨_, _, _, _, e⟩
    · exact absurd e (by decide)
    · exact absurd e (by decide)
    · exact absurd e (by decide)
    · exact hmm
    · exact absurd e (by decide)
theorem key_again {m : Mt} {l : List Pr} {c i a t bo : Int} {m' : Mt} {x e : Int} (hm : m.may) (hl : May l) (hf : flawT c i a t = 0) (hk : m.lock ≤ 0) (hc : c ≠ 3) (hc2 : c ≠ 2) (hh : Here l m.me m.rev bo t) (hj : win.JudgeIs m.h m.b i 0) (ha : 0 ≤ a) (h1 : ¬ (c = 0 ∧ 99999999 - m.cr < a))
    (h : KeyIs (taken m c i a) l c i a t bo m' x e) : m' = taken m c i a ∧ x = 0 ∧ e = 14 := by
  have hr : (taken m c i a).rev = m.rev := by unfold taken; simp only []; rw [if_neg hc2]
  have hh2 : Here l (taken m c i a).me (taken m c i a).rev bo t := by rw [hr]; exact hh
  obtain ⟨r1, r2, r3⟩ := h.one (KeyIs.judge 14 ⟨taken_may hm hj ha h1 (fun hx => absurd hx hc2), hl⟩ hf hk hc hh2 (judge_taken hj) (by decide))
  exact ⟨r1, r2, r3⟩
/-- Nobody sold this here. -/
theorem key_none {m : Mt} {l : List Pr} {c i a t bo : Int} {m' : Mt} {x e : Int} (h : KeyIs m l c i a t bo m' x e) (hm : m.may) (hl : May l) (hf : flawT c i a t = 0) (hk : m.lock ≤ 0) (hc : c ≠ 3) (h1 : ¬ Here l m.me m.rev bo t) (h2 : ¬ Early l m.me m.rev bo t) : m' = badTry m ∧ x = 0 ∧ e = 12 :=
  h.one (KeyIs.tag ⟨hm, hl⟩ hf hk hc h1 h2)

end Go.Proofs.YtmpapnblpjnlmabDoor.met
