import Derived.Test.YtgipkpkjoicehabDoorJPocketBurns1
import Derived.Test.YtgipkpkjoicehabDoorMtD
import Derived.Test.YtgipkpkjoicehabDoorTkN
import Derived.Test.YtgipkpkjoicehabDoorWRow
import Derived.Deep.OwnRows
import Derived.Test.YtgipkpkjoicehabDoorMpR
import Derived.Test.YtgipkpkjoicehabDoorLet
import Derived.Laws.StructEq
import Derived.Test.YtgipkpkjoicehabDoorMpW
import Derived.Test.YtgipkpkjoicehabDoorMtI
import Derived.Test.YtgipkpkjoicehabDoorMjI
import Derived.Test.YtgipkpkjoicehabDoorTkMade
import Derived.Test.YtgipkpkjoicehabDoorTkOpen
import Derived.Test.YtgipkpkjoicehabDoorOrPi
import Derived.Laws.CopyOwn
import Derived.Deep.RegionHeld
import Derived.Test.YtgipkpkjoicehabDoorOrD
import Derived.Test.YtgipkpkjoicehabDoorCallFirst
import Derived.Test.YtgipkpkjoicehabDoorOpAt
import Derived.Deep.DeepCutAuto
import Derived.Test.YtgipkpkjoicehabDoorMpM
import Derived.Shelf.Strings.Repeat
import Derived.Test.YtgipkpkjoicehabDoorProg

/- A pocket's answers. -/
namespace Go.Proofs.YtgipkpkjoicehabDoor.pkt
open Go.RowKit Go.Proofs.YtgipkpkjoicehabDoor.met Go.Proofs.YtgipkpkjoicehabDoor.slot Go.Proofs.YtgipkpkjoicehabDoor.cell
set_option maxRecDepth 100000
set_option linter.unusedVariables false

/-- A meter and an answer were given back. -/
def BootPost (w : World) (xs : List Int) (e : Ending) (w' : World) : Prop := ∃ m f, e = .returned (.tuple #[Mt.v m, .int .i64 f]) ∧ BootIs xs m f ∧ Below w.heap.size w w'
/-- Writes that a step gave back. -/
structure Wg (w : World) (a : Option Addr) (n cap : Nat) (ls : List Wr) : Prop where
  row : RowW w a n ls
  nil : a = none → cap = 0
  le : n ≤ cap
  few : n ≤ 7
theorem Wg.below {w w' : World} {a : Option Addr} {n cap : Nat} {ls : List Wr} (h : Wg w a n cap ls) (hb : Below w.heap.size w w') : Wg w' a n cap ls := ⟨h.row.below hb, h.nil, h.le, h.few⟩
theorem Wg.none (w : World) : Wg w none 0 0 [] := ⟨RowW.nil _ _, fun _ => rfl, Nat.le_refl _, by decide⟩
def WritesPost (w : World) (xs : List Int) (m m' : Mt) (e : Ending) (w' : World) : Prop := ∃ a n cap ls, e = .returned (.slice a n cap) ∧ Wg w' a n cap ls ∧ WrIs xs m m' ls ∧ Below w.heap.size w w'
def TickedPost (w : World) (xs : List Int) (ld : Int) (e : Ending) (w' : World) : Prop := ∃ a n cap ls x f, e = .returned (.tuple #[.slice a n cap, .int .i64 x, .int .i64 f]) ∧ Wg w' a n cap ls ∧ TickedIs xs ld ls x f ∧ Below w.heap.size w w'
/-- Slots that came, or were made. -/
structure Sg (w : World) (a : Option Addr) (n cap : Nat) (xs : List Int) : Prop where
  row : RowU w a n xs
  nil : a = none → cap = 0
  le : n ≤ cap
theorem Sg.below {w w' : World} {a : Option Addr} {n cap : Nat} {xs : List Int} (h : Sg w a n cap xs) (hb : Below w.heap.size w w') : Sg w' a n cap xs := ⟨h.row.below hb, h.nil, h.le⟩
def MakePost (w : World) (me : Int) (e : Ending) (w' : World) : Prop := ∃ a n cap xs f, e = .returned (.tuple #[.slice a n cap, .int .i64 f]) ∧ Sg w' a n cap xs ∧ MakeIs me xs f ∧ Below w.heap.size w w'

end Go.Proofs.YtgipkpkjoicehabDoor.pkt

/- Tokens that were sold, keyed: plain facts. -/
namespace Go.Proofs.YtgipkpkjoicehabDoor.met
open Go.Proofs.YtgipkpkjoicehabDoor.ora Go.Proofs.YtgipkpkjoicehabDoor.token

theorem body_bd {k : Tok} (h : k.ok) : 0 ≤ (k.body : Int) ∧ (k.body : Int) ≤ 8796093022207 := by
  have h1 := h.c3; have h2 := h.i2; have h3 := h.a2
  unfold Tok.body; omega
theorem pr_may {m : Mt} (hm : m.may) {k : Tok} (hk : k.ok) : (Pr.mk m.me m.rev (k.body : Int) (k.t : Int)).may := ⟨hm.me, hm.rev, body_bd hk, by show 0 ≤ (k.t : Int); omega, by show (k.t : Int) ≤ 65535; have := hk.t2; omega⟩
/-- The first that is sold. -/
theorem first_sold {m : Mt} (hm : m.may) {k : Tok} (hk : k.ok) {ls : List Pr} {tg f : Int} (h : IssueIs [] m.me m.rev (k.body : Int) (k.t : Int) ls tg f) : ls = [⟨m.me, m.rev, (k.body : Int), (k.t : Int)⟩] ∧ tg = (k.t : Int) ∧ f = 0 := by
  have h2 : IssueIs [] m.me m.rev (k.body : Int) (k.t : Int) ([] ++ [⟨m.me, m.rev, (k.body : Int), (k.t : Int)⟩]) (k.t : Int) 0 := .inr (.inr (.inr (.inr ⟨May.nil, pr_may hm hk, fun j hj => by simp at hj, by decide, rfl, rfl, rfl⟩)))
  exact h.one h2
theorem one_may {p : Pr} (h : p.may) : May [p] := by
  have := May.app (l := []) (m := p.m) (r := p.r) (b := p.b) (d := p.t) May.nil h (fun j hj => by simp at hj) (by decide)
  exact this
theorem one_here (me rev bo t : Int) : Here [⟨me, rev, bo, t⟩] me rev bo t := ⟨0, Nat.zero_lt_one, rfl, rfl, rfl, rfl⟩
/-- Nothing was taken yet: each number may be. -/
theorem judge_new {i : Int} (h1 : 1 ≤ i) (h2 : i ≤ 1048575) : win.JudgeIs 0 0 i 0 := by
  refine .inr (.inr (.inr (.inr ⟨.inl ⟨rfl, rfl⟩, ⟨h1, h2⟩, by omega, fun hm => ?_, rfl⟩)))
  have := ((win.mem_all 0 0 i).1 hm).2.1
  omega
theorem judge_taken {h : Int} {b : Nat} {i : Int} (hj : win.JudgeIs h b i 0) : win.JudgeIs (max h i) (win.took h b i) i 14 := by
  rcases hj with ⟨_, e⟩ | ⟨_, _, e⟩ | ⟨_, _, _, e⟩ | ⟨_, _, _, _, e⟩ | ⟨hm, hr, ho, hn, _⟩
  · exact absurd e (by decide)
  · exact absurd e (by decide)
  · exact absurd e (by decide)
  · exact absurd e (by decide)
  · have hb : win.took h b i < 2 ^ 64 := win.took_lt hn
    have hbit := fun t ht => win.took_bit hn t ht
    have hh : 0 ≤ h ∧ h ≤ 1048575 := by rcases hm with ⟨a, _⟩ | ⟨a, c, _⟩ <;> omega
    have him : i ∈ win.mem (max h i) (win.took h b i) 64 := (win.mem_all _ _ _).2 ⟨by omega, by omega, by
      rw [hbit _ (by omega)]
      exact decide_eq_true (.inr (by omega))⟩
    have hmay : win.May (max h i) (win.took h b i) := by
      refine .inr ⟨by omega, by omega, ?_, fun t ht htb => ?_⟩
      · rw [hbit 0 (by decide)]
        refine decide_eq_true ?_
        by_cases hc : i ≤ h
        · left
          rw [show max h i = h by omega]
          rcases hm with ⟨a, c⟩ | ⟨a, c, d, _⟩
          · omega
          · exact (win.mem_all _ _ _).2 ⟨by omega, by omega, by rw [show (h - (h - ((0 : Nat) : Int))).toNat = 0 by omega]; exact d⟩
        · right; omega
      · rw [hbit t ht] at htb
        rcases of_decide_eq_true htb with hx | hx
        · obtain ⟨a1, a2, a3⟩ := (win.mem_all _ _ _).1 hx
          rcases hm with ⟨a, c⟩ | ⟨a, c, _, d⟩
          · rw [c] at a3; simp at a3
          · have := d _ (by omega) a3
            omega
        · omega
    exact .inr (.inr (.inr (.inl ⟨hmay, hr, by omega, him, rfl⟩)))
/-- What keying gives of a token that was sold here, under this key. -/
theorem key_sold {m : Mt} {l : List Pr} {c i a t bo : Int} {m' : Mt} {x e : Int} (h : KeyIs m l c i a t bo m' x e) (hm : m.may) (hl : May l) (hf : flawT c i a t = 0) (hk : m.lock ≤ 0) (hc : c ≠ 3) (hh : Here l m.me m.rev bo t) (hj : win.JudgeIs m.h m.b i 0) :
    (c = 0 ∧ 99999999 - m.cr < a ∧ m' = m ∧ x = 0 ∧ e = 15) ∨ (c = 2 ∧ a ≤ m.rev ∧ m' = m ∧ x = 0 ∧ e = 24) ∨ (¬ (c = 0 ∧ 99999999 - m.cr < a) ∧ ¬ (c = 2 ∧ a ≤ m.rev) ∧ m' = taken m c i a ∧ x = (if c = 0 then a else 0) ∧ e = 0) := by
  by_cases h1 : c = 0 ∧ 99999999 - m.cr < a
  · obtain ⟨r1, r2, r3⟩ := h.one (KeyIs.full ⟨hm, hl⟩ hf hk hc hh hj (fun hn => hn h1))
    exact .inl ⟨h1.1, h1.2, r1, r2, r3⟩
  · by_cases h2 : c = 2 ∧ a ≤ m.rev
    · obtain ⟨r1, r2, r3⟩ := h.one (KeyIs.key ⟨hm, hl⟩ hf hk hc hh hj h1 (fun hn => hn h2))
      exact .inr (.inl ⟨h2.1, h2.2, r1, r2, r3⟩)
    · obtain ⟨r1, r2, r3⟩ := h.one (KeyIs.take ⟨hm, hl⟩ hf hk hc hh hj h1 h2)
      exact .inr (.inr ⟨h1, h2, r1, r2, r3⟩)
/-- Keyed again. -/
theorem taken_may {m : Mt} (hm : m.may) {c i a : Int} (hj : win.JudgeIs m.h m.b i 0) (ha : 0 ≤ a) (h1 : ¬ (c = 0 ∧ 99999999 - m.cr < a)) (h2 : c = 2 → a ≤ 15) : (taken m c i a).may := by
  have e1 := hm.me; have e2 := hm.rev; have e3 := hm.cr; have e4 := hm.bad; have e5 := hm.lock
  refine ⟨e1, ?_, ?_, ⟨Int.le_refl _, show (0 : Int) ≤ 4 by decide⟩, e5, fun hx => hx.1 rfl, ?_⟩
  · unfold taken; simp only []; split
    · rename_i hc; have := h2 hc; omega
    · exact e2
  · unfold taken; simp only []; split
    · omega
    · split <;> omega
  · rcases judge_taken hj with ⟨_, e⟩ | ⟨_, _, e⟩ | ⟨_, _, _, e⟩ | ⟨hmm, _, _, _, _⟩ | ⟨_, _, _, _, e⟩
    · exact absurd e (by decide)
    · exact absurd e (by decide)
    · exact absurd e (by decide)
    · exact hmm
    · exact absurd e (by decide)
theorem key_again {m : Mt} {l : List Pr} {c i a t bo : Int} {m' : Mt} {x e : Int} (hm : m.may) (hl : May l) (hf : flawT c i a t = 0) (hk : m.lock ≤ 0) (hc : c ≠ 3) (hc2 : c ≠ 2) (hh : Here l m.me m.rev bo t) (hj : win.JudgeIs m.h m.b i 0) (ha : 0 ≤ a) (h1 : ¬ (c = 0 ∧ 99999999 - m.cr < a))
    (h : KeyIs (taken m c i a) l c i a t bo m' x e) : m' = taken m c i a ∧ x = 0 ∧ e = 14 := by
  have hr : (taken m c i a).rev = m.rev := by unfold taken; simp only []; rw [if_neg hc2]
  have hh2 : Here l (taken m c i a).me (taken m c i a).rev bo t := by rw [hr]; exact hh
  obtain ⟨r1, r2, r3⟩ := h.one (KeyIs.judge 14 ⟨taken_may hm hj ha h1 (fun hx => absurd hx hc2), hl⟩ hf hk hc hh2 (judge_taken hj) (by decide))
  exact ⟨r1, r2, r3⟩
/-- Nobody sold this here. -/
theorem key_none {m : Mt} {l : List Pr} {c i a t bo : Int} {m' : Mt} {x e : Int} (h : KeyIs m l c i a t bo m' x e) (hm : m.may) (hl : May l) (hf : flawT c i a t = 0) (hk : m.lock ≤ 0) (hc : c ≠ 3) (h1 : ¬ Here l m.me m.rev bo t) (h2 : ¬ Early l m.me m.rev bo t) : m' = badTry m ∧ x = 0 ∧ e = 12 :=
  h.one (KeyIs.tag ⟨hm, hl⟩ hf hk hc h1 h2)

end Go.Proofs.YtgipkpkjoicehabDoor.met

/- A pocket that is keyed: plain facts. -/
namespace Go.Proofs.YtgipkpkjoicehabDoor.pkt
open Go.Proofs.YtgipkpkjoicehabDoor.met Go.Proofs.YtgipkpkjoicehabDoor.slot Go.Proofs.YtgipkpkjoicehabDoor.cell Go.Proofs.YtgipkpkjoicehabDoor.ora Go.Proofs.YtgipkpkjoicehabDoor.token

/-- The token that a text tells. -/
def tk (s : List UInt8) : Tok := tokOf (dv s / 97)
theorem tk_of {s : List UInt8} (h : parseE s = 0) : parseV s = (tk s).v ∧ (tk s).ok := by
  have e : parseV s = (tk s).v := by unfold parseV; rw [if_pos h]; rfl
  refine ⟨e, ?_⟩
  obtain ⟨k, hk, _, hf⟩ := fmt_parse h
  have : tk s = k := by
    rw [← hf]; unfold tk; rw [fmt_dv, show 97 * k.num / 97 = k.num by omega, tokOf_num hk]
  rw [this]; exact hk
theorem tk_fmt {k : Tok} (hk : k.ok) : tk (fmtL (97 * k.num)) = k := by
  unfold tk; rw [fmt_dv, show 97 * k.num / 97 = k.num by omega, tokOf_num hk]
/-- What is refused, but for what nobody sold, leaves the meter as it was. -/
theorem key_keep {m : Mt} {l : List Pr} {c i a t bo : Int} {m' : Mt} {x e : Int} (h : KeyIs m l c i a t bo m' x e) (hm : m.may) (hl : May l) (h0 : e ≠ 0) (h12 : e ≠ 12) : m' = m ∧ x = 0 := by
  rcases h with ⟨a0, _⟩ | ⟨_, _, r1, r2, _⟩ | ⟨_, _, _, r1, r2, _⟩ | ⟨_, _, _, _, _, _, r3⟩ | ⟨_, _, _, _, _, _, r1, r2, _⟩ | ⟨_, _, _, _, _, _, _, _, r3⟩ | ⟨_, _, _, _, _, _, _, r1, r2⟩ | ⟨_, _, _, _, _, _, _, r1, r2, _⟩ | ⟨_, _, _, _, _, _, _, _, r1, r2, _⟩ | ⟨_, _, _, _, _, _, _, _, _, _, r3⟩
  · exact absurd ⟨hm, hl⟩ a0
  · exact ⟨r1, r2⟩
  · exact ⟨r1, r2⟩
  · exact absurd r3 h0
  · exact ⟨r1, r2⟩
  · exact absurd r3 h12
  · exact ⟨r1, r2⟩
  · exact ⟨r1, r2⟩
  · exact ⟨r1, r2⟩
  · exact absurd r3 h0
theorem bad_mw {m : Mt} (h : Mw m) (hk : m.lock ≤ 0) : Mw (badTry m) := by
  have h1 := h.may
  have h4 := h1.bad; have h5 := h1.lock
  unfold badTry
  split
  · exact ⟨⟨h1.me, h1.rev, h1.cr, ⟨by show (0 : Int) ≤ 0; decide, by show (0 : Int) ≤ 4; decide⟩, ⟨by show (0 : Int) ≤ 30; decide, by show (30 : Int) ≤ 30; decide⟩, fun hx => hx.1 rfl, h1.win⟩, h.b⟩
  · exact ⟨⟨h1.me, h1.rev, h1.cr, ⟨by show 0 ≤ m.bad + 1; omega, by show m.bad + 1 ≤ 4; omega⟩, h5, fun hx => by have h2 : m.lock ≠ 0 := hx.2; omega, h1.win⟩, h.b⟩
/-- What comes of keying may be. -/
theorem key_mw {m : Mt} {l : List Pr} {k : Tok} {bo : Int} {m' : Mt} {x e : Int} (h : KeyIs m l k.c k.i k.a k.t bo m' x e) (hm : Mw m) (hl : May l) (hk : k.ok) : Mw m' := by
  by_cases h0 : e = 0 ∨ e = 12
  · rcases h with ⟨a0, _⟩ | ⟨_, _, rfl, _⟩ | ⟨_, _, _, rfl, _⟩ | ⟨_, _, _, _, rfl, _⟩ | ⟨_, _, _, _, _, _, rfl, _⟩ | ⟨_, _, hlk, _, _, _, rfl, _⟩ | ⟨_, _, _, _, _, _, _, rfl, _⟩ | ⟨_, _, _, _, _, _, _, rfl, _⟩ | ⟨_, _, _, _, _, _, _, _, rfl, _⟩ | ⟨_, _, _, _, _, hj, h1, h2, rfl, _⟩
    · exact absurd ⟨hm.may, hl⟩ a0
    · exact hm
    · exact hm
    · exact hm
    · exact hm
    · exact bad_mw hm hlk
    · exact hm
    · exact hm
    · exact hm
    · refine ⟨taken_may hm.may hj (by omega) h1 (fun hc => ?_), ?_⟩
      · have hc2 : k.c = 2 := by omega
        have := hk.ac hc2
        omega
      · show win.took m.h m.b k.i < _
        rcases hj with ⟨_, e⟩ | ⟨_, _, e⟩ | ⟨_, _, _, e⟩ | ⟨_, _, _, _, e⟩ | ⟨_, _, _, hn, _⟩
        · exact absurd e (by decide)
        · exact absurd e (by decide)
        · exact absurd e (by decide)
        · exact absurd e (by decide)
        · have := win.took_lt hn
          omega
  · rw [(key_keep h hm.may hl (fun hx => h0 (.inl hx)) (fun hx => h0 (.inr hx))).1]; exact hm
theorem key_mw2 {m : Mt} {l : List Pr} {k : Tok} {bo : Int} {m' : Mt} {x e : Int} (h : KeyIs m l k.c k.i k.a k.t bo m' x e) (hm : Mw m) (hk : k.ok) (he : ¬ (e ≠ 0 ∧ e ≠ 12)) : Mw m' := by
  by_cases hl : May l
  · exact key_mw h hm hl hk
  · obtain ⟨_, _, r3⟩ := h.one (KeyIs.state (fun hx => hl hx.2))
    rw [r3] at he
    exact absurd ⟨by decide, by decide⟩ he
theorem key_me {m : Mt} {l : List Pr} {c i a t bo : Int} {m' : Mt} {x e : Int} (h : KeyIs m l c i a t bo m' x e) (hm : m.may) (hl : May l) : m'.me = m.me := by
  rcases h with ⟨a0, _⟩ | ⟨_, _, rfl, _⟩ | ⟨_, _, _, rfl, _⟩ | ⟨_, _, _, _, rfl, _⟩ | ⟨_, _, _, _, _, _, rfl, _⟩ | ⟨_, _, _, _, _, _, rfl, _⟩ | ⟨_, _, _, _, _, _, _, rfl, _⟩ | ⟨_, _, _, _, _, _, _, rfl, _⟩ | ⟨_, _, _, _, _, _, _, _, rfl, _⟩ | ⟨_, _, _, _, _, _, _, _, rfl, _⟩
  · exact absurd ⟨hm, hl⟩ a0
  all_goals first | rfl | (unfold badTry; split <;> rfl)

/-- What keying digits into a pocket gives. -/
def KeyedIs (xs : List Int) (l : List Pr) (s : List UInt8) (ls : List Wr) (x e : Int) : Prop :=
  (∃ m, BootIs xs m e ∧ e ≠ 0 ∧ ls = [] ∧ x = 0) ∨ (∃ m, BootIs xs m 0 ∧ parseE s = e ∧ e ≠ 0 ∧ ls = [] ∧ x = 0) ∨
    (∃ m m' y, BootIs xs m 0 ∧ parseE s = 0 ∧ KeyIs m l (tk s).c (tk s).i (tk s).a (tk s).t (bodyI (tk s).c (tk s).i (tk s).a) m' y e ∧ (e ≠ 0 ∧ e ≠ 12) ∧ ls = [] ∧ x = 0) ∨
    (∃ m m', BootIs xs m 0 ∧ parseE s = 0 ∧ KeyIs m l (tk s).c (tk s).i (tk s).a (tk s).t (bodyI (tk s).c (tk s).i (tk s).a) m' x e ∧ ¬ (e ≠ 0 ∧ e ≠ 12) ∧ WrIs xs m m' ls)
theorem KeyedIs.one {xs : List Int} {l : List Pr} {s : List UInt8} {ls ls' : List Wr} {x x' e e' : Int} (h : KeyedIs xs l s ls x e) (h' : KeyedIs xs l s ls' x' e') : ls = ls' ∧ x = x' ∧ e = e' := by
  rcases h with ⟨m, a0, a1, rfl, rfl⟩ | ⟨m, a0, a2, a1, rfl, rfl⟩ | ⟨m, m1, y, a0, a2, a3, a1, rfl, rfl⟩ | ⟨m, m1, a0, a2, a3, a1, a4⟩ <;>
    rcases h' with ⟨n, b0, b1, rfl, rfl⟩ | ⟨n, b0, b2, b1, rfl, rfl⟩ | ⟨n, n1, z, b0, b2, b3, b1, rfl, rfl⟩ | ⟨n, n1, b0, b2, b3, b1, b4⟩
  · exact ⟨rfl, rfl, (a0.one b0).2⟩
  · exact absurd (a0.one b0).2 a1
  · exact absurd (a0.one b0).2 a1
  · exact absurd (a0.one b0).2 a1
  · exact absurd (b0.one a0).2 b1
  · exact ⟨rfl, rfl, a2.symm.trans b2⟩
  · exact absurd (a2.symm.trans b2) a1
  · exact absurd (a2.symm.trans b2) a1
  · exact absurd (b0.one a0).2 b1
  · exact absurd (b2.symm.trans a2) b1
  · obtain ⟨rfl, _⟩ := a0.one b0; exact ⟨rfl, rfl, (a3.one b3).2.2⟩
  · obtain ⟨rfl, _⟩ := a0.one b0; rw [(a3.one b3).2.2] at a1; exact absurd a1 b1
  · exact absurd (b0.one a0).2 b1
  · exact absurd (b2.symm.trans a2) b1
  · obtain ⟨rfl, _⟩ := a0.one b0; rw [(a3.one b3).2.2] at a1; exact absurd b1 a1
  · obtain ⟨rfl, _⟩ := a0.one b0
    obtain ⟨rfl, rfl, rfl⟩ := a3.one b3
    exact ⟨a4.one b4, rfl, rfl⟩
/-- Digits that tell a token, keyed into a pocket that boots, at an oracle that may be. -/
theorem KeyedIs.held {xs : List Int} {l : List Pr} {s : List UInt8} {ls : List Wr} {x e : Int} (h : KeyedIs xs l s ls x e) {m : Mt} (hb : BootIs xs m 0) (hp : parseE s = 0) (hm : m.may) (hl : May l) :
    ∃ m', KeyIs m l (tk s).c (tk s).i (tk s).a (tk s).t (bodyI (tk s).c (tk s).i (tk s).a) m' x e ∧ WrIs xs m m' ls := by
  rcases h with ⟨n, a0, a1, rfl, rfl⟩ | ⟨n, a0, a2, a1, rfl, rfl⟩ | ⟨n, n1, y, a0, a2, a3, a1, rfl, rfl⟩ | ⟨n, n1, a0, a2, a3, a1, a4⟩
  · exact absurd (a0.one hb).2 a1
  · exact absurd (a2.symm.trans hp) a1
  · obtain ⟨rfl, _⟩ := a0.one hb
    obtain ⟨rfl, rfl⟩ := key_keep a3 hm hl a1.1 a1.2
    exact ⟨_, a3, .inl ⟨rfl, rfl⟩⟩
  · obtain ⟨rfl, _⟩ := a0.one hb
    exact ⟨n1, a3, a4⟩
/-- The same of a token's own digits. -/
theorem KeyedIs.sold {xs : List Int} {l : List Pr} {k : Tok} (hk : k.ok) {ls : List Wr} {x e : Int} (h : KeyedIs xs l (fmtL (97 * k.num)) ls x e) {m : Mt} (hb : BootIs xs m 0) (hm : m.may) (hl : May l) :
    ∃ m', KeyIs m l k.c k.i k.a k.t (bodyI k.c k.i k.a) m' x e ∧ WrIs xs m m' ls := by
  have := h.held hb (parse_fmt hk).1 hm hl
  rwa [tk_fmt hk] at this
/-- Slots behind all the writes of a step hold the meter behind it; behind fewer, the one ahead of it. -/
theorem wr_all {xs : List Int} {m m' : Mt} {ls : List Wr} (h : WrIs xs m m' ls) (hh : Holds xs 5 (wds m)) : Holds (wrt xs ls) 5 (wds m') := by
  rcases h with ⟨rfl, rfl⟩ | ⟨_, rfl⟩
  · exact hh
  · exact store_all hh rfl
theorem wr_cut {xs : List Int} {m m' : Mt} {ls : List Wr} (h : WrIs xs m m' ls) (hh : Holds xs 5 (wds m)) {k : Nat} (hk : k < ls.length) : Holds (wrt xs (ls.take k)) 5 (wds m) := by
  rcases h with ⟨rfl, rfl⟩ | ⟨_, rfl⟩
  · exact absurd hk (Nat.not_lt_zero _)
  · exact store_cut hh (by rw [sto_len] at hk; exact hk)
theorem wr_in {xs : List Int} {m m' : Mt} {ls : List Wr} (h : WrIs xs m m' ls) : allN 12 ls = true := by
  rcases h with ⟨_, rfl⟩ | ⟨_, rfl⟩
  · rfl
  · exact sto_in xs _ 5
/-- A token that was sold here just now. -/
theorem issue_tok {l ls : List Pr} {m : Mt} (hm : m.may) {k : Tok} (hk : k.ok) {tg f : Int} (h : IssueIs l m.me m.rev (k.body : Int) (k.t : Int) ls tg f) (hl : May l) (hn : l.length < 500) :
    f = 0 ∧ May ls ∧ ls.length ≤ l.length + 1 ∧ ∃ t : Nat, tg = (t : Int) ∧ (⟨k.c, k.i, k.a, t⟩ : Tok).ok ∧ Here ls m.me m.rev (bodyI k.c k.i k.a) (t : Int) := by
  obtain ⟨r1, r2, r3, _, r5, r6, ⟨j, hj, ht⟩, _⟩ := h.ok hl (pr_may hm hk) hn
  obtain ⟨t, rfl⟩ := Int.eq_ofNat_of_zero_le r5
  refine ⟨r1, r2, r3, t, rfl, ⟨hk.c3, hk.i1, hk.i2, by show t ≤ 65535; omega, hk.a2, hk.a0, hk.ac, hk.az⟩, j, hj.lt, hj.is.1, ?_, ht, hj.is.2.1⟩
  rw [body_tok]; exact hj.is.2.2
/-- One step of many: a token is sold and keyed. -/
def Step (m : Mt) (l : List Pr) (k : Tok) (m' : Mt) (l' : List Pr) : Prop :=
  ∃ t x e, IssueIs l m.me m.rev (k.body : Int) (k.t : Int) l' t 0 ∧ KeyIs m l' k.c k.i k.a t (bodyI k.c k.i k.a) m' x e
/-- The first k of many. -/
def Run (me : Int) (ks : Nat → Tok) : Nat → Mt → List Pr → Prop
  | 0, m, l => m = mtNew me ∧ l = []
  | n + 1, m', l' => ∃ m l, Run me ks n m l ∧ Step m l (ks n) m' l'

end Go.Proofs.YtgipkpkjoicehabDoor.pkt

/- A pocket's answers to what is keyed. -/
namespace Go.Proofs.YtgipkpkjoicehabDoor.pkt
open Go.RowKit Go.Proofs.YtgipkpkjoicehabDoor.met Go.Proofs.YtgipkpkjoicehabDoor.slot Go.Proofs.YtgipkpkjoicehabDoor.cell Go.Proofs.YtgipkpkjoicehabDoor.ora

def KeyedPost (w : World) (xs : List Int) (l : List Pr) (s : ByteArray) (e : Ending) (w' : World) : Prop := ∃ a n cap ls x f, e = .returned (.tuple #[.slice a n cap, .int .i64 x, .int .i64 f]) ∧ Wg w' a n cap ls ∧ KeyedIs xs l s.data.toList ls x f ∧ Below w.heap.size w w'

end Go.Proofs.YtgipkpkjoicehabDoor.pkt

/- Words that are given back. -/
namespace Go.Proofs.YtgipkpkjoicehabDoor.cell
open Go.RowKit
set_option maxRecDepth 100000

/-- Words were given back that nobody else holds. -/
def GaveU (w : World) (zs : List Int) (e : Ending) (w' : World) : Prop := ∃ v, e = .returned v ∧ Ws w' w.heap.size v zs ∧ Below w.heap.size w w'
theorem GaveU.mk {w w' : World} {zs : List Int} {v : Value} (h1 : Ws w' w.heap.size v zs) (h2 : Below w.heap.size w w') : GaveU w zs (.returned v) w' := ⟨v, rfl, h1, h2⟩

end Go.Proofs.YtgipkpkjoicehabDoor.cell

/- Rows of words in blocks of their own. -/
namespace Go.Proofs.YtgipkpkjoicehabDoor.cell
open Go.RowKit
set_option maxRecDepth 100000

/-- A row of words in a block of its own. -/
def arr (zs : List Int) : Array Value := (zs.map (Value.int .u32)).toArray
theorem arr_set (zs : List Int) (i : Nat) (v : Int) : (arr zs).setIfInBounds i (.int .u32 v) = arr (zs.set i v) := by
  unfold arr
  apply Array.ext'
  simp [List.map_set]
theorem Blk.rowU {w : World} {G n : Nat} {zs : List Int} {t : TypeId} (h : Blk w G (arr zs) t) (hn : zs.length = n) : RowU w (some ⟨G, 0, none⟩) n zs := by
  refine ⟨hn, .inr ⟨G, 0, rfl, fun i hi => ?_⟩⟩
  rw [Nat.zero_add, h.cell i]
  unfold arr
  simp [List.getD, show i < zs.length by omega]
theorem Blk.word {w : World} {G : Nat} {zs : List Int} {t : TypeId} (h : Blk w G (arr zs) t) (i : Nat) (hi : i < zs.length) : w.cell? ⟨G, i, none⟩ = some (.int .u32 (zs.getD i 0)) := by
  rw [h.cell i]
  unfold arr
  simp [List.getD, hi]
theorem made_zero (n : Nat) : madeCells (Value.int .u32 0).cells (n * 1) = arr (List.replicate n 0) := by
  unfold madeCells arr
  apply Array.ext'
  simp [Value.cells]
  apply List.ext_getElem
  · simp
  · intro i h1 h2
    simp [Nat.mod_one]
/-- Words and an answer were given back. -/
def GaveR (w : World) (zs : List Int) (c : Int) (e : Ending) (w' : World) : Prop :=
  ∃ a cap, e = .returned (.tuple #[.slice a zs.length cap, .int .i64 c]) ∧ RowU w' a zs.length zs ∧ (a = none → cap = 0) ∧ Below w.heap.size w w'
theorem GaveR.mk {w w' : World} {zs : List Int} {c : Int} {a : Option Addr} {n cap : Nat} (hr : RowU w' a n zs) (hn : a = none → cap = 0) (hb : Below w.heap.size w w') : GaveR w zs c (.returned (.tuple #[.slice a n cap, .int .i64 c])) w' := by
  obtain ⟨h1, h2⟩ := hr
  subst h1
  exact ⟨a, cap, rfl, ⟨rfl, h2⟩, hn, hb⟩
theorem make_u32 (n : Nat) (h : n ≤ 100000) (w : World) : (Instr.makeSlice 22 (.int .i64 (n : Int)) (.int .i64 (n : Int))).run Tryd.prog w = .ok (.slice (some ⟨w.heap.size, 0, none⟩) n n) (w.alloc (.cells (arr (List.replicate n 0)) 60)) := by
  obtain ⟨i0, hi, hz0, hz1, hz2⟩ := info_parts info_u32
  have := run_make (P := Tryd.prog) w 22 60 i0 (.int .u32 0) Tryd.underlying22 hi hz0 .i64 .i64 n n (by omega) (by omega) (by rw [hz2]; omega) (by omega)
  rw [hz1] at this
  simp only [Int.toNat_natCast] at this
  rw [made_zero] at this
  exact this

end Go.Proofs.YtgipkpkjoicehabDoor.cell

/- Writes that are given back. -/
namespace Go.Proofs.YtgipkpkjoicehabDoor.cell
open Go.RowKit
set_option maxRecDepth 100000

/-- Writes and an answer were given back. -/
def GaveL (w : World) (ls : List Wr) (c : Int) (e : Ending) (w' : World) : Prop :=
  ∃ v, e = .returned (.tuple #[v, .int .i64 c]) ∧ Lw w' w.heap.size v ls ∧ Below w.heap.size w w'
theorem GaveL.mk {w w' : World} {ls : List Wr} {c : Int} {v : Value} (h : Lw w' w.heap.size v ls) (hb : Below w.heap.size w w') : GaveL w ls c (.returned (.tuple #[v, .int .i64 c])) w' := ⟨v, rfl, h, hb⟩
theorem pair_cell (w : World) (p d : Int) : (w.alloc (.cells #[.int .i64 p, .int .u32 d] 62)).cell? ⟨w.heap.size, 0, none⟩ = some (.int .i64 p) ∧ (w.alloc (.cells #[.int .i64 p, .int .u32 d] 62)).cell? ⟨w.heap.size, 1, none⟩ = some (.int .u32 d) :=
  ⟨(Blk.new w _ _).cell 0, (Blk.new w _ _).cell 1⟩
theorem word_cell (w : World) (d : Int) : (w.alloc (.cells #[.int .u32 d] 60)).cell? ⟨w.heap.size, 0, none⟩ = some (.int .u32 d) := (Blk.new w _ _).cell 0
/-- The same as GaveR, and the room is told. -/
def GaveC (w : World) (zs : List Int) (c : Int) (e : Ending) (w' : World) : Prop :=
  ∃ a cap, e = .returned (.tuple #[.slice a zs.length cap, .int .i64 c]) ∧ RowU w' a zs.length zs ∧ (a = none → cap = 0) ∧ zs.length ≤ cap ∧ Below w.heap.size w w'
theorem GaveC.mk {w w' : World} {zs : List Int} {c : Int} {a : Option Addr} {n cap : Nat} (hr : RowU w' a n zs) (hn : a = none → cap = 0) (hc : n ≤ cap) (hb : Below w.heap.size w w') : GaveC w zs c (.returned (.tuple #[.slice a n cap, .int .i64 c])) w' := by
  obtain ⟨h1, h2⟩ := hr
  subst h1
  exact ⟨a, cap, rfl, ⟨rfl, h2⟩, hn, hc, hb⟩
theorem GaveC.gave {w w' : World} {zs : List Int} {c : Int} {e : Ending} (h : GaveC w zs c e w') : GaveR w zs c e w' := by
  obtain ⟨a, cap, h1, h2, h3, _, h5⟩ := h
  exact ⟨a, cap, h1, h2, h3, h5⟩

end Go.Proofs.YtgipkpkjoicehabDoor.cell

/- Slots: which one counts. -/
namespace Go.Proofs.YtgipkpkjoicehabDoor.slot
open Go.RowKit Go.Proofs.YtgipkpkjoicehabDoor.cell
set_option maxRecDepth 100000
set_option linter.unusedVariables false

theorem smay_yes (n : Int) (w : World) (h1 : 1 ≤ n) (h2 : n ≤ 64) :
    Calls Tryd.prog 39 #[.int .i64 n] w fun e w' => e = .returned (.bool true) ∧ w' = w := by
  go_enter Tryd.func39, Tryd.ntmps39
  go_wp2
  go_ret
  exact ⟨rfl, rfl⟩
theorem smay_no (n : Int) (w : World) (h : n < 1 ∨ 64 < n) :
    Calls Tryd.prog 39 #[.int .i64 n] w fun e w' => e = .returned (.bool false) ∧ w' = w := by
  by_cases h0 : n < 1
  · clear h
    go_enter Tryd.func39, Tryd.ntmps39
    go_wp2
    go_ret
    exact ⟨rfl, rfl⟩
  · have h1 : 1 ≤ n := by omega
    have h2 : decide (n ≤ 64) = false := by simp; omega
    clear h h0
    go_enter Tryd.func39, Tryd.ntmps39
    go_wp2
    go_ret
    exact ⟨rfl, rfl⟩
theorem sgood_any (m : Int) (w : World) :
    Calls Tryd.prog 60 #[.int .u32 m] w fun e w' => e = .returned (.bool (good m)) ∧ w' = w := by
  by_cases h0 : m < 1
  · have e1 : good m = false := by simp [good]; omega
    rw [e1]; clear e1
    go_enter Tryd.func60, Tryd.ntmps60
    go_wp2
    go_ret
    exact ⟨rfl, rfl⟩
  · have h1 : 1 ≤ m := by omega
    by_cases h3 : m ≤ 3
    · have e1 : good m = true := by simp [good]; omega
      rw [e1]; clear e1 h0
      go_enter Tryd.func60, Tryd.ntmps60
      go_wp2
      go_ret
      exact ⟨rfl, rfl⟩
    · have e1 : good m = false := by simp [good]; omega
      have h2 : decide (m ≤ 3) = false := by simp; omega
      rw [e1]; clear e1 h0 h3
      go_enter Tryd.func60, Tryd.ntmps60
      go_wp2
      go_ret
      exact ⟨rfl, rfl⟩
theorem sbehind_any (m : Int) (w : World) (h : good m = true) :
    Calls Tryd.prog 61 #[.int .u32 m] w fun e w' => e = .returned (.int .u32 (behind m)) ∧ w' = w := by
  rw [good_iff] at h
  have h3 : m = 1 ∨ m = 2 ∨ m = 3 := by omega
  clear h
  rcases h3 with rfl | rfl | rfl
  all_goals
    go_enter Tryd.func61, Tryd.ntmps61
    go_wp2
    go_ret
    exact ⟨rfl, rfl⟩

/-- Three numbers were given back; nothing was changed. -/
def Pl (w : World) (x y c : Int) (e : Ending) (w' : World) : Prop :=
  e = .returned (.tuple #[.int .i64 x, .int .i64 y, .int .i64 c]) ∧ Below w.heap.size w w'
theorem places_size (a : Option Addr) (m c1 : Nat) (n : Int) (w : World) (h : n < 1 ∨ 64 < n ∨ (m : Int) ≠ 2 * n + 2) :
    Calls Tryd.prog 33 #[.slice a m c1, .int .i64 n] w fun e w' => Pl w 0 0 1 e w' := by
  by_cases h0 : n < 1 ∨ 64 < n
  · have HM : Hid (∀ W, Calls Tryd.prog 39 #[.int .i64 n] W fun e w' => e = .returned (.bool false) ∧ w' = W) := fun W => smay_no _ W h0
    clear h h0
    go_enter Tryd.func33, Tryd.ntmps33
    go_wp2_with fail
    refine (HM.out _).mono ?_
    rintro e w1 ⟨rfl, rfl⟩
    go_wp2_with fail
    go_ret3
    exact ⟨rfl, Below.refl _ _⟩
  · have HM : Hid (∀ W, Calls Tryd.prog 39 #[.int .i64 n] W fun e w' => e = .returned (.bool true) ∧ w' = W) := fun W => smay_yes _ W (by omega) (by omega)
    have h1 : 1 ≤ n := by omega
    have h2 : n ≤ 64 := by omega
    have hne : ((m : Int) != 2 * (n + 1)) = true := by simp; omega
    clear h h0
    go_enter Tryd.func33, Tryd.ntmps33
    go_wp2_with fail
    refine (HM.out _).mono ?_
    rintro e w1 ⟨rfl, rfl⟩
    go_wp2_with fail
    go_ret3
    exact ⟨rfl, Below.refl _ _⟩

set_option maxHeartbeats 1000000 in
theorem places_any (a : Option Addr) (m c1 n : Nat) (xs : List Int) (w : World) (h : RowU w a m xs) (h1 : 1 ≤ n) (h2 : n ≤ 64) (hm : m = 2 * n + 2) :
    Calls Tryd.prog 33 #[.slice a m c1, .int .i64 (n : Int)] w fun e w' =>
      (which xs n = 0 → Pl w 0 ((n : Int) + 1) 0 e w') ∧ (which xs n = 1 → Pl w ((n : Int) + 1) 0 0 e w') ∧ (which xs n = 2 → Pl w 0 0 17 e w') := by
  have HM : Hid (∀ W, Calls Tryd.prog 39 #[.int .i64 (n : Int)] W fun e w' => e = .returned (.bool true) ∧ w' = W) := fun W => smay_yes _ W (by omega) (by omega)
  have hne : ((m : Int) != 2 * ((n : Int) + 1)) = false := by simp; omega
  obtain ⟨b, o, rfl, hb, hc⟩ := h.at (by omega)
  have c0 : w.cell? ⟨b, o, none⟩ = some (.int .u32 (xs.getD 0 0)) := hc 0 (by omega)
  have hm0 : 0 < m := by omega
  have cn := hc (n + 1) (by omega)
  have hn1 : n + 1 < m := by omega
  have HW : Hid (which xs n = cnt (xs.getD 0 0) (xs.getD (n + 1) 0)) := rfl
  clear hc hb h hm
  generalize which xs n = wh at *
  generalize xs.getD 0 0 = x at *
  generalize xs.getD (n + 1) 0 = y at *
  have HGX : Hid (∀ W, Calls Tryd.prog 60 #[.int .u32 x] W fun e w' => e = .returned (.bool (good x)) ∧ w' = W) := fun W => sgood_any x W
  have HGY : Hid (∀ W, Calls Tryd.prog 60 #[.int .u32 y] W fun e w' => e = .returned (.bool (good y)) ∧ w' = W) := fun W => sgood_any y W
  by_cases hx : good x = true
  · have HBX : Hid (∀ W, Calls Tryd.prog 61 #[.int .u32 x] W fun e w' => e = .returned (.int .u32 (behind x)) ∧ w' = W) := fun W => sbehind_any x W hx
    rw [hx] at HGX
    by_cases hy : behind x = y
    · have hyg : good y = true := by rw [← hy]; exact (good_behind hx).1
      have hq : (y == behind x) = true := by simp [hy]
      have HR : Hid (wh = 1) := by show _ = _; rw [HW.out]; simp [cnt, hx, hyg, hy]
      clear hx hyg hy HW
      generalize behind x = z at *
      go_enter Tryd.func33, Tryd.ntmps33
      go_wp2_with fail
      refine (HM.out _).mono ?_
      rintro e w1 ⟨rfl, rfl⟩
      go_wp2_with fail
      go_region
      all_goals go_wp2_with fail
      refine (HGX.out _).mono ?_
      rintro e w2 ⟨rfl, rfl⟩
      go_wp2_with fail
      refine (HGX.out _).mono ?_
      rintro e w2 ⟨rfl, rfl⟩
      go_wp2_with fail
      refine (HBX.out _).mono ?_
      rintro e w2 ⟨rfl, rfl⟩
      go_wp2_with fail
      go_ret3
      refine ⟨fun h => ?_, fun _ => ⟨rfl, (Below.refl _ _).drew⟩, fun h => ?_⟩
      all_goals (have := HR.out; omega)
    · have hq : (y == behind x) = false := by simp; exact fun h => hy h.symm
      have HR : Hid (wh = 0) := by show _ = _; rw [HW.out]; cases hyg : good y <;> simp [cnt, hx, hyg, hy]
      clear hx hy HW
      generalize behind x = z at *
      go_enter Tryd.func33, Tryd.ntmps33
      go_wp2_with fail
      refine (HM.out _).mono ?_
      rintro e w1 ⟨rfl, rfl⟩
      go_wp2_with fail
      go_region
      all_goals go_wp2_with fail
      refine (HGX.out _).mono ?_
      rintro e w2 ⟨rfl, rfl⟩
      go_wp2_with fail
      refine (HGX.out _).mono ?_
      rintro e w2 ⟨rfl, rfl⟩
      go_wp2_with fail
      refine (HBX.out _).mono ?_
      rintro e w2 ⟨rfl, rfl⟩
      go_wp2_with fail
      go_ret3
      refine ⟨fun _ => ⟨rfl, (Below.refl _ _).drew⟩, fun h => ?_, fun h => ?_⟩
      all_goals (have := HR.out; omega)
  · have hx' : good x = false := by simpa using hx
    rw [hx'] at HGX
    by_cases hy : good y = true
    · rw [hy] at HGY
      have HR : Hid (wh = 1) := by show _ = _; rw [HW.out]; simp [cnt, hx', hy]
      clear hx hx' hy HW
      go_enter Tryd.func33, Tryd.ntmps33
      go_wp2_with fail
      refine (HM.out _).mono ?_
      rintro e w1 ⟨rfl, rfl⟩
      go_wp2_with fail
      go_region
      all_goals go_wp2_with fail
      refine (HGX.out _).mono ?_
      rintro e w2 ⟨rfl, rfl⟩
      go_wp2_with fail
      refine (HGY.out _).mono ?_
      rintro e w2 ⟨rfl, rfl⟩
      go_wp2_with fail
      refine (HGX.out _).mono ?_
      rintro e w2 ⟨rfl, rfl⟩
      go_wp2_with fail
      go_ret3
      refine ⟨fun h => ?_, fun _ => ⟨rfl, (Below.refl _ _).drew⟩, fun h => ?_⟩
      all_goals (have := HR.out; omega)
    · have hy' : good y = false := by simpa using hy
      rw [hy'] at HGY
      have HR : Hid (wh = 2) := by show _ = _; rw [HW.out]; simp [cnt, hx', hy']
      clear hx hx' hy hy' HW
      go_enter Tryd.func33, Tryd.ntmps33
      go_wp2_with fail
      refine (HM.out _).mono ?_
      rintro e w1 ⟨rfl, rfl⟩
      go_wp2_with fail
      go_region
      all_goals go_wp2_with fail
      refine (HGX.out _).mono ?_
      rintro e w2 ⟨rfl, rfl⟩
      go_wp2_with fail
      refine (HGY.out _).mono ?_
      rintro e w2 ⟨rfl, rfl⟩
      go_wp2_with fail
      go_ret3
      refine ⟨fun h => ?_, fun h => ?_, fun _ => ⟨rfl, (Below.refl _ _).drew⟩⟩
      all_goals (have := HR.out; omega)

end Go.Proofs.YtgipkpkjoicehabDoor.slot

/- Slots: the record is loaded. -/
namespace Go.Proofs.YtgipkpkjoicehabDoor.slot
open Go.RowKit Go.Proofs.YtgipkpkjoicehabDoor.cell
set_option maxRecDepth 100000
set_option linter.unusedVariables false

set_option maxHeartbeats 400000 in
theorem clone_any (x : Addr) (len cap : Nat) (zs : List Int) (w : World) (hr : RowU w (some x) len zs) (hl : len ≤ 100000) :
    Calls Tryd.prog 34 #[.slice (some x) len cap] w fun e w' => GaveU w zs e w' := by
  obtain ⟨i0, hi, hz0, hz1, hz2⟩ := info_parts info_u32
  obtain ⟨hz, hr⟩ := hr
  have hown : (w.alloc (.cells #[] 60)).ownsRow w.heap.size 60 1 (.slice (some ⟨w.heap.size, 0, none⟩) 0 0) 0 [] := World.ownsRow_lit w #[] 0 (Nat.le_refl _) (by unfold maxLen; omega) rfl
  have HO : Hid ((w.alloc (.cells #[] 60)).ownsRow w.heap.size 60 1 (.slice (some ⟨w.heap.size, 0, none⟩) 0 0) 0 []) := hown
  have HSZ : Hid (w.heap.size ≤ (w.alloc (.cells #[] 60)).heap.size) := alloc_le (Nat.le_refl _) _
  clear hown
  have heq : ∀ W : World, (binOp BinOp.eql 22 (.slice (some x) len cap) (.slice none 0 0)).run Tryd.prog W = .ok (.bool false) W := fun W => by kernel_rfl
  go_enter Tryd.func34, Tryd.ntmps34
  go_wp2_with (first
    | (at_builtin; refine wpList_append_own _ rfl _ _ 22 rfl w.heap.size 60 i0 (.int .u32 0) 1 4 Tryd.underlying22 hi hz0 hz1 hz2 rfl (by decide) _ _ _ rfl HO.out x len cap (zs.map (.int .u32)) rfl ?c0 ?c1 ?c2 ?c3 ?c4 HSZ.out ?_)
    | go_in)
  case c0 => simp [hz]
  case c1 =>
    intro j u hu
    rcases hr with h | ⟨b, off, h, hc⟩
    · rw [List.getElem?_eq_none (by simp; omega)] at hu; cases hu
    · obtain rfl := Option.some.inj h
      by_cases hj : j < zs.length
      · simp [List.getElem?_eq_getElem hj] at hu
        subst hu
        have := hc j (by omega)
        rw [Addr.add_lit, World.cell?_alloc_lt w _ _ (World.block_lt_of_cell? w _ this)]
        simpa [List.getD, List.getElem?_eq_getElem hj] using this
      · rw [List.getElem?_eq_none (by simp; omega)] at hu; cases hu
  case c2 => intro u hu; obtain ⟨z, _, rfl⟩ := List.mem_map.1 hu; rfl
  case c3 => unfold maxLen; omega
  case c4 => omega
  intro v' w' hown hg _
  have HW : Hid (Ws w' w.heap.size v' zs) := by show w'.ownsRow _ _ _ _ _ _; rw [hz]; simpa using hown
  have HG : Hid (Below w.heap.size w w') := own_bel HO.out hg ((Below.refl _ _).alloc (Nat.le_refl _) _) (Nat.le_refl _) HSZ.out
  clear hown hg
  go_wp2
  go_ret
  exact GaveU.mk HW.out HG.out

theorem places_of (a : Option Addr) (m c1 n s : Nat) (xs : List Int) (w : World) (h : RowU w a m xs) (h1 : 1 ≤ n) (h2 : n ≤ 64) (hm : m = 2 * n + 2) (hs : which xs n = s) (hs1 : s ≤ 1) :
    Calls Tryd.prog 33 #[.slice a m c1, .int .i64 (n : Int)] w fun e w' => Pl w ((beg n s : Nat) : Int) ((beg n (1 - s) : Nat) : Int) 0 e w' := by
  refine (places_any a m c1 n xs w h h1 h2 hm).mono fun e w' hp => ?_
  have h3 : s = 0 ∨ s = 1 := by omega
  rcases h3 with rfl | rfl
  · have := hp.1 hs
    simpa [beg] using this
  · have := hp.2.1 hs
    simpa [beg] using this
theorem RowU.mid {w : World} {b o m : Nat} {xs : List Int} (h : RowU w (some ⟨b, o, none⟩) m xs) (n s : Nat) (hm : beg n s + 1 + n ≤ m) : RowU w (some ⟨b, o + (beg n s + 1), none⟩) n (rcd xs n s) := by
  refine ⟨rcd_len _ _ _, .inr ⟨b, o + (beg n s + 1), rfl, fun i hi => ?_⟩⟩
  rcases h.2 with h0 | ⟨b', o', he, hc⟩
  · omega
  · obtain ⟨rfl, rfl, _⟩ := Addr.mk.inj (Option.some.inj he)
    rw [rcd_at _ _ _ _ hi, ← hc (beg n s + 1 + i) (by omega), ← Nat.add_assoc o, ← Nat.add_assoc o]
    simp only [Nat.add_assoc]
set_option maxHeartbeats 1000000 in
theorem load_yes (a : Option Addr) (m c1 n s : Nat) (xs : List Int) (w : World) (h : RowU w a m xs) (hc : m ≤ c1) (h1 : 1 ≤ n) (h2 : n ≤ 64) (hm : m = 2 * n + 2) (hs : which xs n = s) (hs1 : s ≤ 1) :
    Calls Tryd.prog 14 #[.slice a m c1, .int .i64 (n : Int)] w fun e w' => GaveR w (rcd xs n s) 0 e w' := by
  have HP : Hid (Calls Tryd.prog 33 #[.slice a m c1, .int .i64 (n : Int)] w fun e w' => Pl w ((beg n s : Nat) : Int) ((beg n (1 - s) : Nat) : Int) 0 e w') := places_of a m c1 n s xs w h h1 h2 hm hs hs1
  have hb := beg_lt (n := n) hs1
  obtain ⟨b, o, rfl, _, _⟩ := h.at (by omega)
  have HC : Hid (∀ W cc, Below w.heap.size w W → Calls Tryd.prog 34 #[.slice (some ⟨b, o + (beg n s + 1), none⟩) n cc] W fun e w' => GaveU W (rcd xs n s) e w') := fun W cc hb' => clone_any _ n cc _ W (RowU.mid (h.below hb') n s (by omega)) (by omega)
  have HL : Hid ((rcd xs n s).length = n) := rcd_len _ _ _
  have hb1 : beg n s + 1 + n ≤ m := by omega
  have hb2 : beg n s + 1 < c1 := by omega
  have hm2 : m ≤ 130 := by omega
  clear h hm hs hs1 hb
  generalize rcd xs n s = rs at *
  generalize beg n s = C at *
  generalize beg n (1 - s) = O at *
  go_enter Tryd.func14, Tryd.ntmps14
  go_wp2_with fail
  refine HP.out.mono ?_
  rintro e w1 ⟨rfl, hb1⟩
  have HB1 : Hid (Below w.heap.size w w1) := hb1
  clear hb1
  go_wp2_with fail
  refine (HC.out _ _ HB1.out).mono ?_
  rintro e w2 ⟨v, rfl, hv, hb2⟩
  have HB2 : Hid (Below w.heap.size w w2) := bel_step HB1.out hb2
  obtain ⟨x, cx, rfl, rx, hx1, hx2⟩ := hv.row
  have hl := HL.out
  rw [hl] at rx ⊢
  have HX : Hid (RowU w2 x n rs ∧ (x = none → cx = 0)) := ⟨rx, hx1⟩
  clear hv rx hx1 hx2 hb2 hl
  go_wp2_with fail
  go_ret2
  exact GaveR.mk HX.out.1 HX.out.2 HB2.out
theorem load_blank (a : Option Addr) (m c1 n : Nat) (xs : List Int) (w : World) (h : RowU w a m xs) (h1 : 1 ≤ n) (h2 : n ≤ 64) (hm : m = 2 * n + 2) (hs : which xs n = 2) :
    Calls Tryd.prog 14 #[.slice a m c1, .int .i64 (n : Int)] w fun e w' => GaveR w [] 17 e w' := by
  have HP : Hid (Calls Tryd.prog 33 #[.slice a m c1, .int .i64 (n : Int)] w fun e w' => Pl w 0 0 17 e w') := (places_any a m c1 n xs w h h1 h2 hm).mono fun e w' hp => hp.2.2 hs
  clear h h1 h2 hm hs
  go_enter Tryd.func14, Tryd.ntmps14
  go_wp2_with fail
  refine HP.out.mono ?_
  rintro e w1 ⟨rfl, hb1⟩
  have HB1 : Hid (Below w.heap.size w w1) := hb1
  clear hb1
  go_wp2_with fail
  go_ret2
  exact ⟨none, 0, rfl, RowU.nil _ _, fun _ => rfl, HB1.out⟩
theorem load_size (a : Option Addr) (m c1 : Nat) (n : Int) (w : World) (h : n < 1 ∨ 64 < n ∨ (m : Int) ≠ 2 * n + 2) :
    Calls Tryd.prog 14 #[.slice a m c1, .int .i64 n] w fun e w' => GaveR w [] 1 e w' := by
  have HP : Hid (Calls Tryd.prog 33 #[.slice a m c1, .int .i64 n] w fun e w' => Pl w 0 0 1 e w') := places_size a m c1 n w h
  clear h
  go_enter Tryd.func14, Tryd.ntmps14
  go_wp2_with fail
  refine HP.out.mono ?_
  rintro e w1 ⟨rfl, hb1⟩
  have HB1 : Hid (Below w.heap.size w w1) := hb1
  clear hb1
  go_wp2_with fail
  go_ret2
  exact ⟨none, 0, rfl, RowU.nil _ _, fun _ => rfl, HB1.out⟩

end Go.Proofs.YtgipkpkjoicehabDoor.slot

/- The program boots a pocket. -/
namespace Go.Proofs.YtgipkpkjoicehabDoor.pkt
open Go.RowKit Go.Proofs.YtgipkpkjoicehabDoor.met Go.Proofs.YtgipkpkjoicehabDoor.slot Go.Proofs.YtgipkpkjoicehabDoor.cell
set_option maxRecDepth 100000
set_option linter.unusedVariables false
set_option linter.unusedSimpArgs false

set_option maxHeartbeats 1000000 in
theorem pboot_no (a : Option Addr) (n cap : Nat) (f : Int) (w : World) (hf : f ≠ 0) (hL : ∀ W, Below w.heap.size w W → Calls Tryd.prog 14 #[.slice a n cap, .int .i64 5] W fun e w' => GaveR W [] f e w') :
    Calls Tryd.prog 7 #[.slice a n cap] w fun e w' => e = .returned (.tuple #[.agg #[.int .i64 0, .int .i64 0, .int .i64 0, .int .i64 0, .int .u64 0, .int .i64 0, .int .i64 0], .int .i64 f]) ∧ Below w.heap.size w w' := by
  have HL : Hid (∀ W, Below w.heap.size w W → Calls Tryd.prog 14 #[.slice a n cap, .int .i64 5] W fun e w' => GaveR W [] f e w') := hL
  have hd : (f != 0) = true := by simpa using hf
  clear hL hf
  have H0r : Hid (Blk (w.alloc (.cells #[.int .i64 0, .int .i64 0, .int .i64 0, .int .i64 0, .int .u64 0, .int .i64 0, .int .i64 0] 36)) (w.heap.size) #[.int .i64 0, .int .i64 0, .int .i64 0, .int .i64 0, .int .u64 0, .int .i64 0, .int .i64 0] 36) := Blk.new w _ _
  have H0B : Hid (Below w.heap.size w (w.alloc (.cells #[.int .i64 0, .int .i64 0, .int .i64 0, .int .i64 0, .int .u64 0, .int .i64 0, .int .i64 0] 36))) := (Below.refl w.heap.size w).alloc (by simp) _
  go_enter Tryd.func7, Tryd.ntmps7
  go_wp2_with fail
  refine (HL.out _ H0B.out).mono ?_
  rintro e w1 ⟨x1, c1, rfl, hr1, _, hb1⟩
  have H1r : Hid (Blk w1 (w.heap.size) #[.int .i64 0, .int .i64 0, .int .i64 0, .int .i64 0, .int .u64 0, .int .i64 0, .int .i64 0] 36) := H0r.out.next hb1
  have H1B : Hid (Below w.heap.size w w1) := bel_step H0B.out hb1
  clear H0r H0B hb1 HL
  go_wp2_with (first | (refine wp_letAll rfl 36 _ _ rfl (w.heap.size) rfl #[.int .i64 0, .int .i64 0, .int .i64 0, .int .i64 0, .int .u64 0, .int .i64 0, .int .i64 0] rfl (by kernel_rfl) (by simp [Value.oneCell']) #[.int .i64 0, .int .i64 0, .int .i64 0, .int .i64 0, .int .u64 0, .int .i64 0, .int .i64 0] 36 H1r.out rfl ?_) | fail)
  intro WF hU
  have H2r : Hid (Blk WF (w.heap.size) #[.int .i64 0, .int .i64 0, .int .i64 0, .int .i64 0, .int .u64 0, .int .i64 0, .int .i64 0] 36) := hU.blk
  have H2B : Hid (Below w.heap.size w WF) := hU.bel _ _ (by omega) H1B.out
  clear hU H1r H1B  
  have HBF : Hid (Below w.heap.size w WF) := H2B.out
  have Rr0 : Hid (WF.cell? ⟨w.heap.size, 0, none⟩ = some (.int .i64 0)) := H2r.out.cell 0
  have Rr1 : Hid (WF.cell? ⟨w.heap.size, 1, none⟩ = some (.int .i64 0)) := H2r.out.cell 1
  have Rr2 : Hid (WF.cell? ⟨w.heap.size, 2, none⟩ = some (.int .i64 0)) := H2r.out.cell 2
  have Rr3 : Hid (WF.cell? ⟨w.heap.size, 3, none⟩ = some (.int .i64 0)) := H2r.out.cell 3
  have Rr4 : Hid (WF.cell? ⟨w.heap.size, 4, none⟩ = some (.int .u64 0)) := H2r.out.cell 4
  have Rr5 : Hid (WF.cell? ⟨w.heap.size, 5, none⟩ = some (.int .i64 0)) := H2r.out.cell 5
  have Rr6 : Hid (WF.cell? ⟨w.heap.size, 6, none⟩ = some (.int .i64 0)) := H2r.out.cell 6
  go_wp2_with fail
  exact bodyPost_ret (v := .tuple #[.agg #[.int .i64 0, .int .i64 0, .int .i64 0, .int .i64 0, .int .u64 0, .int .i64 0, .int .i64 0], .int .i64 f]) (by simp [results, Tryd.results7, Rr0.out, Rr1.out, Rr2.out, Rr3.out, Rr4.out, Rr5.out, Rr6.out, go_sem]) rfl ⟨rfl, HBF.out⟩
set_option maxHeartbeats 1000000 in
theorem pboot_yes (a : Option Addr) (n cap : Nat) (rs : List Int) (w : World) (hn : rs.length = 5) (hL : ∀ W, Below w.heap.size w W → Calls Tryd.prog 14 #[.slice a n cap, .int .i64 5] W fun e w' => GaveR W rs 0 e w') (hR : ∀ W r c, RowU W r 5 rs → Calls Tryd.prog 15 #[.slice r 5 c] W fun e w' => ReadPost W rs e w') :
    Calls Tryd.prog 7 #[.slice a n cap] w fun e w' => ReadPost w rs e w' := by
  have HL : Hid (∀ W, Below w.heap.size w W → Calls Tryd.prog 14 #[.slice a n cap, .int .i64 5] W fun e w' => GaveR W rs 0 e w') := hL
  have HR : Hid (∀ W r c, RowU W r 5 rs → Calls Tryd.prog 15 #[.slice r 5 c] W fun e w' => ReadPost W rs e w') := hR
  have HN : Hid (rs.length = 5) := hn
  clear hL hR hn
  have H0r : Hid (Blk (w.alloc (.cells #[.int .i64 0, .int .i64 0, .int .i64 0, .int .i64 0, .int .u64 0, .int .i64 0, .int .i64 0] 36)) (w.heap.size) #[.int .i64 0, .int .i64 0, .int .i64 0, .int .i64 0, .int .u64 0, .int .i64 0, .int .i64 0] 36) := Blk.new w _ _
  have H0B : Hid (Below w.heap.size w (w.alloc (.cells #[.int .i64 0, .int .i64 0, .int .i64 0, .int .i64 0, .int .u64 0, .int .i64 0, .int .i64 0] 36))) := (Below.refl w.heap.size w).alloc (by simp) _
  go_enter Tryd.func7, Tryd.ntmps7
  go_wp2_with fail
  refine (HL.out _ H0B.out).mono ?_
  rintro e w1 ⟨x1, c1, rfl, hr1, _, hb1⟩
  have H1r : Hid (Blk w1 (w.heap.size) #[.int .i64 0, .int .i64 0, .int .i64 0, .int .i64 0, .int .u64 0, .int .i64 0, .int .i64 0] 36) := H0r.out.next hb1
  have H1B : Hid (Below w.heap.size w w1) := bel_step H0B.out hb1
  have HX : Hid (RowU w1 x1 5 rs) := by have := HN.out; rw [this] at hr1; exact hr1
  have hn := HN.out
  rw [hn]
  clear H0r H0B hb1 hr1 hn HL HN
  go_wp2_with fail
  refine (HR.out _ _ _ HX.out).mono ?_
  rintro e w2 ⟨m2, f2, rfl, hi2, hb2⟩
  have H2r : Hid (Blk w2 (w.heap.size) #[.int .i64 0, .int .i64 0, .int .i64 0, .int .i64 0, .int .u64 0, .int .i64 0, .int .i64 0] 36) := H1r.out.next hb2
  have H2B : Hid (Below w.heap.size w w2) := bel_step H1B.out hb2
  have HI : Hid (ReadIs rs m2 f2) := hi2
  obtain ⟨me2, rev2, cr2, h2, b2, bad2, lock2⟩ := m2
  unfold Mt.v Mt.cells
  simp only []
  clear H1r H1B hb2 hi2 HR HX
  go_wp2_with (first | (refine wp_letAll rfl 36 _ _ rfl (w.heap.size) rfl #[.int .i64 me2, .int .i64 rev2, .int .i64 cr2, .int .i64 h2, .int .u64 (b2 : Int), .int .i64 bad2, .int .i64 lock2] rfl (by kernel_rfl) (by simp [Value.oneCell']) #[.int .i64 0, .int .i64 0, .int .i64 0, .int .i64 0, .int .u64 0, .int .i64 0, .int .i64 0] 36 H2r.out rfl ?_) | fail)
  intro WF hU
  have H3r : Hid (Blk WF (w.heap.size) #[.int .i64 me2, .int .i64 rev2, .int .i64 cr2, .int .i64 h2, .int .u64 (b2 : Int), .int .i64 bad2, .int .i64 lock2] 36) := hU.blk
  have H3B : Hid (Below w.heap.size w WF) := hU.bel _ _ (by omega) H2B.out
  clear hU H2r H2B  
  have HBF : Hid (Below w.heap.size w WF) := H3B.out
  have Rr0 : Hid (WF.cell? ⟨w.heap.size, 0, none⟩ = some (.int .i64 me2)) := H3r.out.cell 0
  have Rr1 : Hid (WF.cell? ⟨w.heap.size, 1, none⟩ = some (.int .i64 rev2)) := H3r.out.cell 1
  have Rr2 : Hid (WF.cell? ⟨w.heap.size, 2, none⟩ = some (.int .i64 cr2)) := H3r.out.cell 2
  have Rr3 : Hid (WF.cell? ⟨w.heap.size, 3, none⟩ = some (.int .i64 h2)) := H3r.out.cell 3
  have Rr4 : Hid (WF.cell? ⟨w.heap.size, 4, none⟩ = some (.int .u64 (b2 : Int))) := H3r.out.cell 4
  have Rr5 : Hid (WF.cell? ⟨w.heap.size, 5, none⟩ = some (.int .i64 bad2)) := H3r.out.cell 5
  have Rr6 : Hid (WF.cell? ⟨w.heap.size, 6, none⟩ = some (.int .i64 lock2)) := H3r.out.cell 6
  go_wp2_with fail
  exact bodyPost_ret (v := .tuple #[.agg #[.int .i64 me2, .int .i64 rev2, .int .i64 cr2, .int .i64 h2, .int .u64 (b2 : Int), .int .i64 bad2, .int .i64 lock2], .int .i64 f2]) (by simp [results, Tryd.results7, Rr0.out, Rr1.out, Rr2.out, Rr3.out, Rr4.out, Rr5.out, Rr6.out, go_sem]) rfl ⟨⟨me2, rev2, cr2, h2, b2, bad2, lock2⟩, f2, rfl, HI.out, HBF.out⟩
theorem pboot (a : Option Addr) (n cap : Nat) (xs : List Int) (w : World) (h : RowU w a n xs) (hc : n ≤ cap) (hw : ∀ x ∈ rcd xs 5 (which xs 5), 0 ≤ x ∧ x < 4294967296) :
    Calls Tryd.prog 7 #[.slice a n cap] w fun e w' => BootPost w xs e w' := by
  have hl := h.1
  by_cases h12 : n = 12
  · subst h12
    by_cases h2 : which xs 5 = 2
    · refine (pboot_no a 12 cap 17 w (by decide) (fun W hB => load_blank a 12 cap 5 xs W (h.below hB) (by decide) (by decide) rfl h2)).mono ?_
      rintro e w' ⟨rfl, hb⟩
      exact ⟨mt0, 17, rfl, .inr (.inl ⟨hl, h2, rfl, rfl⟩), hb⟩
    · have h1 : which xs 5 ≤ 1 := by have := which_le xs 5; omega
      refine (pboot_yes a 12 cap (rcd xs 5 (which xs 5)) w (rcd_len _ _ _) (fun W hB => load_yes a 12 cap 5 _ xs W (h.below hB) hc (by decide) (by decide) rfl rfl h1) (fun W r c hr => pread r 5 c _ W hr hw)).mono ?_
      rintro e w' ⟨m, f, rfl, hi, hb⟩
      exact ⟨m, f, rfl, .inr (.inr ⟨hl, h1, hi⟩), hb⟩
  · refine (pboot_no a n cap 1 w (by decide) (fun W hB => load_size a n cap 5 W (.inr (.inr (by omega))))).mono ?_
    rintro e w' ⟨rfl, hb⟩
    exact ⟨mt0, 1, rfl, .inl ⟨by omega, rfl, rfl⟩, hb⟩

end Go.Proofs.YtgipkpkjoicehabDoor.pkt

/- The load of a whole block, under a test that came out so. -/
namespace Go.Proofs.YtgipkpkjoicehabDoor
open Go.RowKit

theorem wp_wholeG {P : Program} {ops : Array Oper} {rest : List Oper} {o : Oper} {a : Act} {w : World} {Q : Exit → Act → World → Prop} (hw : Region.wanted o (yielded ops a.tmps) = true) (ty : TypeId) (x : Operand) (ho : o.op = .load ty x)
    (g : Nat) (hx : a.eval x = .pointer (some ⟨g, 0, none⟩)) (t : TypeId) (cs : Array Value) (d : TypeDesc) (hB : Blk w g cs t)
    (hu : P.underlying ty = some d) (hd : d.isRow = true) (hi : (P.info? ty).map (·.size) = some cs.size)
    (h : wpList P ops Q rest (a.put o.dst (.agg cs)) w) : wpList P ops Q (o :: rest) a w :=
  wpList_step fun K hK => by
    rw [if_pos hw]
    exact wp_load_mid (P := P) (op := o) (a := a) (w := w) (K := K) (Q := Q) ty x ho g 0 hx cs.toList d (fun j v hv => by rw [Nat.zero_add, hB.cell j]; simpa using hv) hu hd (by simpa using hi) (by simpa using hK _ _ h)

end Go.Proofs.YtgipkpkjoicehabDoor

/- Meters, compared. -/
namespace Go.Proofs.YtgipkpkjoicehabDoor.met
open Go.RowKit
set_option maxRecDepth 100000
set_option linter.unusedSimpArgs false

theorem meI (d : Nat) (a b : Int) (w : World) : (Op.equalIn (d + 1) 3 (.int .i64 a) (.int .i64 b)).run Tryd.prog w = .ok (a == b) w := run_equalIn_int w d _ _ _ a b Tryd.underlying3
theorem meU (d : Nat) (a b : Int) (w : World) : (Op.equalIn (d + 1) 32 (.int .u64 a) (.int .u64 b)).run Tryd.prog w = .ok (a == b) w := run_equalIn_int w d _ _ _ a b Tryd.underlying32
theorem mw0 (s c : Int) (w : World) : (part 3 #[.int .i64 s, .int .u64 c] 0).run Tryd.prog w = .ok (.int .i64 s) w := by kernel_rfl
theorem mw1 (s c : Int) (w : World) : (part 32 #[.int .i64 s, .int .u64 c] 1).run Tryd.prog w = .ok (.int .u64 c) w := by kernel_rfl
theorem mq0 (a b c d e f g : Int) (w : World) : (part 3 #[.int .i64 a, .int .i64 b, .int .i64 c, .int .i64 d, .int .u64 e, .int .i64 f, .int .i64 g] 0).run Tryd.prog w = .ok (.int .i64 a) w := by kernel_rfl
theorem mq1 (a b c d e f g : Int) (w : World) : (part 3 #[.int .i64 a, .int .i64 b, .int .i64 c, .int .i64 d, .int .u64 e, .int .i64 f, .int .i64 g] 1).run Tryd.prog w = .ok (.int .i64 b) w := by kernel_rfl
theorem mq2 (a b c d e f g : Int) (w : World) : (part 3 #[.int .i64 a, .int .i64 b, .int .i64 c, .int .i64 d, .int .u64 e, .int .i64 f, .int .i64 g] 2).run Tryd.prog w = .ok (.int .i64 c) w := by kernel_rfl
theorem mq3 (a b c d e f g : Int) (w : World) : (part 34 #[.int .i64 a, .int .i64 b, .int .i64 c, .int .i64 d, .int .u64 e, .int .i64 f, .int .i64 g] 3).run Tryd.prog w = .ok (.agg #[.int .i64 d, .int .u64 e]) w := by kernel_rfl
theorem mq5 (a b c d e f g : Int) (w : World) : (part 3 #[.int .i64 a, .int .i64 b, .int .i64 c, .int .i64 d, .int .u64 e, .int .i64 f, .int .i64 g] 5).run Tryd.prog w = .ok (.int .i64 f) w := by kernel_rfl
theorem mq6 (a b c d e f g : Int) (w : World) : (part 3 #[.int .i64 a, .int .i64 b, .int .i64 c, .int .i64 d, .int .u64 e, .int .i64 f, .int .i64 g] 6).run Tryd.prog w = .ok (.int .i64 g) w := by kernel_rfl
theorem eqWd (d : Nat) (s b : Int) (w : World) : (Op.equalIn (d + 1 + 1) 34 (.agg #[.int .i64 s, .int .u64 b]) (.agg #[.int .i64 s, .int .u64 b])).run Tryd.prog w = .ok true w := by
  rw [run_equalIn_agg w (d + 1) 34 _ _ (by kernel_rfl) (by kernel_rfl)]
  simp only [Program.fieldsOf, Tryd.underlying34, Op.eqFields, Sem.run_bind, Sem.run_ite]
  simp [mw0, mw1, meI, meU]
theorem eqMt (a b c d e f g : Int) (w : World) :
    (Op.equalIn 10000 36 (.agg #[.int .i64 a, .int .i64 b, .int .i64 c, .int .i64 d, .int .u64 e, .int .i64 f, .int .i64 g]) (.agg #[.int .i64 a, .int .i64 b, .int .i64 c, .int .i64 d, .int .u64 e, .int .i64 f, .int .i64 g])).run Tryd.prog w = .ok true w := by
  rw [show (10000 : Nat) = 9999 + 1 from rfl, run_equalIn_agg w 9999 36 _ _ (by kernel_rfl) (by kernel_rfl)]
  simp only [Program.fieldsOf, Tryd.underlying36, Op.eqFields, Sem.run_bind, Sem.run_ite]
  simp [mq0, mq1, mq2, mq3, mq5, mq6, show (9999 : Nat) = 9997 + 1 + 1 from rfl, meI, eqWd]

end Go.Proofs.YtgipkpkjoicehabDoor.met

/- Two meters that are not one, compared. -/
namespace Go.Proofs.YtgipkpkjoicehabDoor.met
open Go.RowKit
set_option maxRecDepth 100000
set_option linter.unusedSimpArgs false

theorem eqWd2 (d : Nat) (s b s' b' : Int) (w : World) : (Op.equalIn (d + 1 + 1) 34 (.agg #[.int .i64 s, .int .u64 b]) (.agg #[.int .i64 s', .int .u64 b'])).run Tryd.prog w = .ok (s == s' && b == b') w := by
  rw [run_equalIn_agg w (d + 1) 34 _ _ (by kernel_rfl) (by kernel_rfl)]
  simp only [Program.fieldsOf, Tryd.underlying34, Op.eqFields, Sem.run_bind, Sem.run_ite]
  by_cases h1 : s = s' <;> by_cases h2 : b = b' <;> simp [mw0, mw1, meI, meU, h1, h2]
theorem neMt (a b c d e f g a' b' c' d' e' f' g' : Int) (w : World) (h : ¬ (a = a' ∧ b = b' ∧ c = c' ∧ d = d' ∧ e = e' ∧ f = f' ∧ g = g')) :
    (Op.equalIn 10000 36 (.agg #[.int .i64 a, .int .i64 b, .int .i64 c, .int .i64 d, .int .u64 e, .int .i64 f, .int .i64 g]) (.agg #[.int .i64 a', .int .i64 b', .int .i64 c', .int .i64 d', .int .u64 e', .int .i64 f', .int .i64 g'])).run Tryd.prog w = .ok false w := by
  rw [show (10000 : Nat) = 9999 + 1 from rfl, run_equalIn_agg w 9999 36 _ _ (by kernel_rfl) (by kernel_rfl)]
  simp only [Program.fieldsOf, Tryd.underlying36, Op.eqFields, Sem.run_bind, Sem.run_ite]
  by_cases h1 : a = a'
  · by_cases h2 : b = b'
    · by_cases h3 : c = c'
      · by_cases h4 : d = d'
        · by_cases h5 : e = e'
          · by_cases h6 : f = f'
            · by_cases h7 : g = g'
              · exact absurd ⟨h1, h2, h3, h4, h5, h6, h7⟩ h
              · simp [mq0, mq1, mq2, mq3, mq5, mq6, show (9999 : Nat) = 9997 + 1 + 1 from rfl, meI, eqWd2, h1, h2, h3, h4, h5, h6, h7]
            · simp [mq0, mq1, mq2, mq3, mq5, mq6, show (9999 : Nat) = 9997 + 1 + 1 from rfl, meI, eqWd2, h1, h2, h3, h4, h5, h6]
          · simp [mq0, mq1, mq2, mq3, mq5, mq6, show (9999 : Nat) = 9997 + 1 + 1 from rfl, meI, eqWd2, h1, h2, h3, h4, h5]
        · simp [mq0, mq1, mq2, mq3, mq5, mq6, show (9999 : Nat) = 9997 + 1 + 1 from rfl, meI, eqWd2, h1, h2, h3, h4]
      · simp [mq0, mq1, mq2, mq3, mq5, mq6, show (9999 : Nat) = 9997 + 1 + 1 from rfl, meI, eqWd2, h1, h2, h3]
    · simp [mq0, mq1, mq2, mq3, mq5, mq6, show (9999 : Nat) = 9997 + 1 + 1 from rfl, meI, eqWd2, h1, h2]
  · simp [mq0, mq1, mq2, mq3, mq5, mq6, show (9999 : Nat) = 9997 + 1 + 1 from rfl, meI, eqWd2, h1]
/-- Meters compared: whatever they are. -/
theorem eqMt_one (m m' : Mt) (w : World) (h : m = m') : (Op.equalIn 10000 36 (.agg m.cells) (.agg m'.cells)).run Tryd.prog w = .ok true w := by
  subst h
  exact eqMt _ _ _ _ _ _ _ w
theorem eqMt_two (m m' : Mt) (w : World) (h : m ≠ m') : (Op.equalIn 10000 36 (.agg m.cells) (.agg m'.cells)).run Tryd.prog w = .ok false w := by
  obtain ⟨a, b, c, d, e, f, g⟩ := m
  obtain ⟨a', b', c', d', e', f', g'⟩ := m'
  refine neMt _ _ _ _ _ _ _ _ _ _ _ _ _ _ w ?_
  rintro ⟨h1, h2, h3, h4, h5, h6, h7⟩
  simp only [] at h1 h2 h3 h4 h5 h6 h7
  have h5' : e = e' := by omega
  subst h1 h2 h3 h4 h5' h6 h7
  exact h rfl

end Go.Proofs.YtgipkpkjoicehabDoor.met

/- Slots: the writes that store a record. -/
namespace Go.Proofs.YtgipkpkjoicehabDoor.slot
open Go.RowKit Go.Proofs.YtgipkpkjoicehabDoor.cell
set_option maxRecDepth 100000
set_option linter.unusedVariables false

theorem made_size (z : Value) (n : Nat) : (madeCells z.cells n).size = n := by simp [madeCells]
/-- Room for n writes. -/
theorem make_wr (n : Nat) (h : n ≤ 100000) (w : World) : (Instr.makeSlice 40 (.int .i64 0) (.int .i64 (n : Int))).run Tryd.prog w = .ok (.slice (some ⟨w.heap.size, 0, none⟩) 0 n) (w.alloc (.cells (madeCells (Value.agg #[.int .i64 0, .int .u32 0]).cells (n * 2)) 62)) := by
  obtain ⟨i0, hi, hz0, hz1, hz2⟩ := info_parts info_wr
  have := run_make (P := Tryd.prog) w 40 62 i0 (.agg #[.int .i64 0, .int .u32 0]) Tryd.underlying40 hi hz0 .i64 .i64 0 n (by omega) (by omega) (by rw [hz2]; omega) (by omega)
  rw [hz1] at this
  simp only [Int.toNat_natCast] at this
  exact this
theorem Lw.room (w : World) (base n : Nat) (cs : Array Value) (hb : base ≤ w.heap.size) (hn : n ≤ 100000) (hs : cs.size = n * 2) : Lw (w.alloc (.cells cs 62)) base (.slice (some ⟨w.heap.size, 0, none⟩) 0 n) [] :=
  ⟨rfl, .inr ⟨w.heap.size, n, cs, rfl, hb, heap_alloc_new w _, Nat.zero_le _, by unfold maxLen; omega, hs, by simp [cellsW]⟩⟩
/-- The first nought, and k words of a record. -/
def lead (o : Nat) (rs : List Int) (k : Nat) : List Wr := [⟨(o : Int), 0⟩] ++ body o rs k
theorem lead_next (o k : Nat) (rs : List Int) : lead o rs k ++ [⟨(o : Int) + 1 + (k : Int), rs.getD k 0⟩] = lead o rs (k + 1) := by
  rw [lead, lead, body, List.append_assoc]
  congr 3
theorem lead_len (o k : Nat) (rs : List Int) : (lead o rs k).length = k + 1 := by simp [lead, body_len]
theorem lead_zero (o : Nat) (rs : List Int) : lead o rs 0 = [⟨(o : Int), 0⟩] := rfl

set_option maxHeartbeats 2000000 in
theorem store_yes (a r : Option Addr) (m c1 n c2 s : Nat) (xs rs : List Int) (w : World) (h : RowU w a m xs) (hr : RowU w r n rs) (h1 : 1 ≤ n) (h2 : n ≤ 64) (hm : m = 2 * n + 2) (hs : which xs n = s) (hs1 : s ≤ 1) :
    Calls Tryd.prog 37 #[.slice a m c1, .slice r n c2] w fun e w' => GaveL w (sto xs rs n) 0 e w' := by
  have HP : Hid (Calls Tryd.prog 33 #[.slice a m c1, .int .i64 (n : Int)] w fun e w' => Pl w ((beg n s : Nat) : Int) ((beg n (1 - s) : Nat) : Int) 0 e w') := places_of a m c1 n s xs w h h1 h2 hm hs hs1
  have hb1 := beg_lt (n := n) hs1
  have hb2 := beg_lt (n := n) (s := 1 - s) (by omega)
  have HQ : Hid (sto xs rs n = lead (beg n (1 - s)) rs n ++ [⟨((beg n (1 - s) : Nat) : Int), behind (xs.getD (beg n s) 0)⟩]) := by show _ = _; rw [sto, hs]; rfl
  have hg : good (xs.getD (beg n s) 0) = true := by
    have := (Holds.good (c := xs) (n := n) (r := rcd xs n (which xs n)) ⟨by rw [← hm]; exact h.1, by omega, rfl⟩)
    rw [hs] at this; exact this
  have HBH : Hid (∀ W, Calls Tryd.prog 61 #[.int .u32 (xs.getD (beg n s) 0)] W fun e w' => e = .returned (.int .u32 (behind (xs.getD (beg n s) 0))) ∧ w' = W) := fun W => sbehind_any _ W hg
  obtain ⟨b, o, rfl, lb, hc⟩ := h.at (by omega)
  obtain ⟨b2, o2, rfl, lb2, hc2⟩ := hr.at (by omega)
  have hcm : beg n s < m := by omega
  have hco : beg n (1 - s) ≤ 66 := by omega
  have HC : Hid (∀ wr, Below w.heap.size w wr → wr.cell? ⟨b, o + beg n s, none⟩ = some (.int .u32 (xs.getD (beg n s) 0))) := fun wr hb => (hb.cell (p := ⟨b, o + beg n s, none⟩) lb).trans (hc _ hcm)
  have HC2 : Hid (∀ wr, Below w.heap.size w wr → ∀ k, k < n → wr.cell? ⟨b2, o2 + k, none⟩ = some (.int .u32 (rs.getD k 0))) := fun wr hb k hk => (hb.cell (p := ⟨b2, o2 + k, none⟩) lb2).trans (hc2 k hk)
  have hmk : ∀ W : World, (Instr.makeSlice 40 (.int .i64 0) (.int .i64 ((n : Int) + 2))).run Tryd.prog W = .ok (.slice (some ⟨W.heap.size, 0, none⟩) 0 (n + 2)) (W.alloc (.cells (madeCells (Value.agg #[.int .i64 0, .int .u32 0]).cells ((n + 2) * 2)) 62)) := fun W => by
    rw [show ((n : Int) + 2) = ((n + 2 : Nat) : Int) by omega]
    exact make_wr (n + 2) (by omega) W
  have HCS : Hid ((madeCells (Value.agg #[.int .i64 0, .int .u32 0]).cells ((n + 2) * 2)).size = (n + 2) * 2) := made_size _ _
  have hm2 : m ≤ 130 := by omega
  clear h hr hs hs1 hb1 hb2 hc hc2 lb lb2 hg hm
  generalize sto xs rs n = ST at *
  generalize xs.getD (beg n s) 0 = z at *
  generalize behind z = bz at *
  generalize beg n s = C at *
  generalize beg n (1 - s) = O at *
  generalize madeCells (Value.agg #[.int .i64 0, .int .u32 0]).cells ((n + 2) * 2) = cs at *
  go_enter Tryd.func37, Tryd.ntmps37
  go_wp2_with fail
  refine HP.out.mono ?_
  rintro e w1 ⟨rfl, hb1⟩
  have HB1 : Hid (Below w.heap.size w w1) := hb1
  have HOA : Hid (Lw ((w1.alloc (.cells cs 62)).alloc (.cells #[.int .i64 (O : Int), .int .u32 0] 62)) w.heap.size (.slice (some ⟨w1.heap.size, 0, none⟩) 0 (n + 2)) []) := (Lw.room w1 _ _ cs hb1.size (by omega) HCS.out).alloc _
  have HG := pair_cell (w1.alloc (.cells cs 62)) (O : Int) 0
  have HSZ : Hid (w.heap.size ≤ ((w1.alloc (.cells cs 62)).alloc (.cells #[.int .i64 (O : Int), .int .u32 0] 62)).heap.size) := alloc_le (alloc_le hb1.size _) _
  have HBA : Hid (Below w.heap.size w ((w1.alloc (.cells cs 62)).alloc (.cells #[.int .i64 (O : Int), .int .u32 0] 62))) := (hb1.alloc hb1.size _).alloc (alloc_le hb1.size _) _
  have HGG : Hid (((w1.alloc (.cells cs 62)).alloc (.cells #[.int .i64 (O : Int), .int .u32 0] 62)).cell? ⟨w1.heap.size + 1, 0, none⟩ = some (.int .i64 (O : Int)) ∧ ((w1.alloc (.cells cs 62)).alloc (.cells #[.int .i64 (O : Int), .int .u32 0] 62)).cell? ⟨w1.heap.size + 1, 1, none⟩ = some (.int .u32 0)) := by
    have e : (w1.alloc (.cells cs 62)).heap.size = w1.heap.size + 1 := by simp
    rw [e] at HG; exact HG
  clear HG hb1 HCS
  go_wp2_with (first
    | (at_builtin; refine wp_write rfl _ _ rfl w.heap.size (w1.heap.size + 1) _ [] ⟨(O : Int), 0⟩ rfl rfl HOA.out HGG.out (by decide) HSZ.out ?_)
    | go_in)
  intro v2 w2 hL2 hg2
  have HL2 : Hid (Lw w2 w.heap.size v2 (lead O rs 0)) := hL2
  have HB2 : Hid (Below w.heap.size w w2) := own_bel HOA.out hg2 HBA.out (Nat.le_refl _) HSZ.out
  clear hL2 hg2 HOA HBA HGG HSZ hmk HB1
  go_wp2_with fail
  go_loopw [9, 34] (fun v i wr => ∃ (k : Nat) (V : Value), V = v ∧ k ≤ n ∧ i = .int .i64 (k : Int) ∧ Lw wr w.heap.size V (lead O rs k) ∧ Below w.heap.size w wr) (fun _ i _ => n - (intOf i).toNat)
  case atStart => exact ⟨0, _, rfl, Nat.zero_le _, rfl, HL2.out, HB2.out⟩
  case round =>
    obtain ⟨k, V, hV, hk, rfl, hown, hb⟩ := hrel
    subst hV
    have HO : Hid (Lw wr w.heap.size V (lead O rs k)) := hown
    have HB : Hid (Below w.heap.size w wr) := hb
    clear hown hb HL2 HB2
    by_cases hlt : k < n
    · have g1 := HC2.out wr HB.out k hlt
      have HD : Hid (lead O rs k ++ [⟨(O : Int) + 1 + (k : Int), rs.getD k 0⟩] = lead O rs (k + 1)) := lead_next O k rs
      have HLN : Hid ((lead O rs k).length ≤ 1000000) := by show _ ≤ _; rw [lead_len]; omega
      generalize rs.getD k 0 = y at *
      have HG : Hid ((wr.alloc (.cells #[.int .i64 ((O : Int) + 1 + (k : Int)), .int .u32 y] 62)).cell? ⟨wr.heap.size, 0, none⟩ = some (.int .i64 ((O : Int) + 1 + (k : Int))) ∧ (wr.alloc (.cells #[.int .i64 ((O : Int) + 1 + (k : Int)), .int .u32 y] 62)).cell? ⟨wr.heap.size, 1, none⟩ = some (.int .u32 y)) := pair_cell wr _ y
      have HOA : Hid (Lw (wr.alloc (.cells #[.int .i64 ((O : Int) + 1 + (k : Int)), .int .u32 y] 62)) w.heap.size V (lead O rs k)) := HO.out.alloc _
      have HSZ : Hid (w.heap.size ≤ (wr.alloc (.cells #[.int .i64 ((O : Int) + 1 + (k : Int)), .int .u32 y] 62)).heap.size) := alloc_le HB.out.size _
      go_wp2_with (first
        | (at_builtin; refine wp_write rfl _ _ rfl w.heap.size wr.heap.size _ (lead O rs k) ⟨(O : Int) + 1 + (k : Int), y⟩ rfl rfl HOA.out HG.out HLN.out HSZ.out ?_)
        | go_in)
      intro v' w4 hL4 hg4
      have HL4 : Hid (Lw w4 w.heap.size v' (lead O rs (k + 1))) := by have := HD.out; rw [this] at hL4; exact hL4
      have HB4 : Hid (Below w.heap.size w w4) := own_bel HOA.out hg4 (HB.out.alloc HB.out.size _) (Nat.le_refl _) HSZ.out
      clear hL4 hg4 HOA HO HB HG HSZ HD
      go_wp2_with fail
      go_roundw
      case rel => exact ⟨k + 1, _, rfl, by omega, by go_num, HL4.out, HB4.out⟩
      case measure => simp [intOf]; omega
    · obtain rfl : k = n := by omega
      have g1 := HC.out wr HB.out
      have HLN : Hid ((lead O rs k).length ≤ 1000000) := by show _ ≤ _; rw [lead_len]; omega
      go_wp2_with fail
      refine (HBH.out _).mono ?_
      rintro e w5 ⟨rfl, rfl⟩
      have HG : Hid ((w5.alloc (.cells #[.int .i64 (O : Int), .int .u32 bz] 62)).cell? ⟨w5.heap.size, 0, none⟩ = some (.int .i64 (O : Int)) ∧ (w5.alloc (.cells #[.int .i64 (O : Int), .int .u32 bz] 62)).cell? ⟨w5.heap.size, 1, none⟩ = some (.int .u32 bz)) := pair_cell w5 _ bz
      have HOA : Hid (Lw (w5.alloc (.cells #[.int .i64 (O : Int), .int .u32 bz] 62)) w.heap.size V (lead O rs k)) := HO.out.alloc _
      have HSZ : Hid (w.heap.size ≤ (w5.alloc (.cells #[.int .i64 (O : Int), .int .u32 bz] 62)).heap.size) := alloc_le HB.out.size _
      go_wp2_with (first
        | (at_builtin; refine wp_write rfl _ _ rfl w.heap.size w5.heap.size _ (lead O rs k) ⟨(O : Int), bz⟩ rfl rfl HOA.out HG.out HLN.out HSZ.out ?_)
        | go_in)
      intro v' w4 hL4 hg4
      have HL4 : Hid (Lw w4 w.heap.size v' ST) := by have := HQ.out; rw [← this] at hL4; exact hL4
      have HB4 : Hid (Below w.heap.size w w4) := own_bel HOA.out hg4 (HB.out.alloc HB.out.size _) (Nat.le_refl _) HSZ.out
      clear hL4 hg4 HOA HO HB HG HSZ HQ
      go_wp2_with fail
      go_ret2
      exact GaveL.mk HL4.out HB4.out
theorem store_blank (a r : Option Addr) (m c1 n c2 : Nat) (xs : List Int) (w : World) (h : RowU w a m xs) (h1 : 1 ≤ n) (h2 : n ≤ 64) (hm : m = 2 * n + 2) (hs : which xs n = 2) :
    Calls Tryd.prog 37 #[.slice a m c1, .slice r n c2] w fun e w' => GaveL w [] 17 e w' := by
  have HP : Hid (Calls Tryd.prog 33 #[.slice a m c1, .int .i64 (n : Int)] w fun e w' => Pl w 0 0 17 e w') := (places_any a m c1 n xs w h h1 h2 hm).mono fun e w' hp => hp.2.2 hs
  clear h h1 h2 hm hs
  go_enter Tryd.func37, Tryd.ntmps37
  go_wp2_with fail
  refine HP.out.mono ?_
  rintro e w1 ⟨rfl, hb1⟩
  have HB1 : Hid (Below w.heap.size w w1) := hb1
  clear hb1
  go_wp2_with fail
  go_ret2
  exact GaveL.mk (Lw.zero _ _) HB1.out
theorem store_size (a r : Option Addr) (m c1 n c2 : Nat) (w : World) (h : n < 1 ∨ 64 < n ∨ m ≠ 2 * n + 2) :
    Calls Tryd.prog 37 #[.slice a m c1, .slice r n c2] w fun e w' => GaveL w [] 1 e w' := by
  have HP : Hid (Calls Tryd.prog 33 #[.slice a m c1, .int .i64 (n : Int)] w fun e w' => Pl w 0 0 1 e w') := places_size a m c1 n w (by omega)
  clear h
  go_enter Tryd.func37, Tryd.ntmps37
  go_wp2_with fail
  refine HP.out.mono ?_
  rintro e w1 ⟨rfl, hb1⟩
  have HB1 : Hid (Below w.heap.size w w1) := hb1
  clear hb1
  go_wp2_with fail
  go_ret2
  exact GaveL.mk (Lw.zero _ _) HB1.out

end Go.Proofs.YtgipkpkjoicehabDoor.slot

/- The writes of a step. -/
namespace Go.Proofs.YtgipkpkjoicehabDoor.pkt
open Go.RowKit Go.Proofs.YtgipkpkjoicehabDoor.met Go.Proofs.YtgipkpkjoicehabDoor.slot Go.Proofs.YtgipkpkjoicehabDoor.cell
set_option maxRecDepth 100000
set_option linter.unusedVariables false
set_option linter.unusedSimpArgs false

set_option maxHeartbeats 1000000 in
theorem pwrites_one (a : Option Addr) (cap : Nat) (xs : List Int) (m m' : Mt) (w : World) (h : RowU w a 12 xs) (hwh : which xs 5 ≤ 1) (hm : Mw m') (he : m' = m) :
    Calls Tryd.prog 17 #[.slice a 12 cap, m.v, m'.v] w fun e w' => WritesPost w xs m m' e w' := by
  have HQ : Hid (∀ W : World, (Op.equalIn 10000 36 (.agg m'.cells) (.agg m.cells)).run Tryd.prog W = .ok true W) := fun W => eqMt_one m' m W he
  have HE : Hid (m' = m) := he
  clear h hwh hm he
  obtain ⟨me, rev, cr, h, b, bad, lock⟩ := m
  obtain ⟨me1, rev1, cr1, h1, b1, bad1, lock1⟩ := m'
  unfold Mt.v Mt.cells at *
  simp only [] at *
  have hq := HQ.out
  clear HQ
  have H0m : Hid (Blk ((w.alloc (.cells #[.int .i64 me, .int .i64 rev, .int .i64 cr, .int .i64 h, .int .u64 (b : Int), .int .i64 bad, .int .i64 lock] 36)).alloc (.cells #[.int .i64 me1, .int .i64 rev1, .int .i64 cr1, .int .i64 h1, .int .u64 (b1 : Int), .int .i64 bad1, .int .i64 lock1] 36)) (w.heap.size) #[.int .i64 me, .int .i64 rev, .int .i64 cr, .int .i64 h, .int .u64 (b : Int), .int .i64 bad, .int .i64 lock] 36) := (Blk.new w _ _).alloc _
  have H0n : Hid (Blk ((w.alloc (.cells #[.int .i64 me, .int .i64 rev, .int .i64 cr, .int .i64 h, .int .u64 (b : Int), .int .i64 bad, .int .i64 lock] 36)).alloc (.cells #[.int .i64 me1, .int .i64 rev1, .int .i64 cr1, .int .i64 h1, .int .u64 (b1 : Int), .int .i64 bad1, .int .i64 lock1] 36)) (w.heap.size + 1) #[.int .i64 me1, .int .i64 rev1, .int .i64 cr1, .int .i64 h1, .int .u64 (b1 : Int), .int .i64 bad1, .int .i64 lock1] 36) := Blk.new1 w _ _ _
  have H0B : Hid (Below w.heap.size w ((w.alloc (.cells #[.int .i64 me, .int .i64 rev, .int .i64 cr, .int .i64 h, .int .u64 (b : Int), .int .i64 bad, .int .i64 lock] 36)).alloc (.cells #[.int .i64 me1, .int .i64 rev1, .int .i64 cr1, .int .i64 h1, .int .u64 (b1 : Int), .int .i64 bad1, .int .i64 lock1] 36))) := ((Below.refl w.heap.size w).alloc (by simp) _).alloc (by simp) _
  go_enter Tryd.func17, Tryd.ntmps17
  go_wp2_with (first
    | (refine wp_whole rfl 36 _ rfl (w.heap.size) rfl 36 #[.int .i64 me, .int .i64 rev, .int .i64 cr, .int .i64 h, .int .u64 (b : Int), .int .i64 bad, .int .i64 lock] _ H0m.out Tryd.underlying36 rfl (by kernel_rfl) ?_)
    | (refine wp_wholeG (by rfl) 36 _ rfl (w.heap.size) rfl 36 #[.int .i64 me, .int .i64 rev, .int .i64 cr, .int .i64 h, .int .u64 (b : Int), .int .i64 bad, .int .i64 lock] _ H0m.out Tryd.underlying36 rfl (by kernel_rfl) ?_)
    | (refine wp_whole rfl 36 _ rfl (w.heap.size + 1) rfl 36 #[.int .i64 me1, .int .i64 rev1, .int .i64 cr1, .int .i64 h1, .int .u64 (b1 : Int), .int .i64 bad1, .int .i64 lock1] _ H0n.out Tryd.underlying36 rfl (by kernel_rfl) ?_)
    | (refine wp_wholeG (by rfl) 36 _ rfl (w.heap.size + 1) rfl 36 #[.int .i64 me1, .int .i64 rev1, .int .i64 cr1, .int .i64 h1, .int .u64 (b1 : Int), .int .i64 bad1, .int .i64 lock1] _ H0n.out Tryd.underlying36 rfl (by kernel_rfl) ?_)
    | fail)
  go_ret
  exact ⟨none, 0, 0, [], rfl, Wg.none _, .inl ⟨HE.out, rfl⟩, H0B.out⟩
set_option maxHeartbeats 1000000 in
theorem pwrites_two (a : Option Addr) (cap : Nat) (xs : List Int) (m m' : Mt) (w : World) (h : RowU w a 12 xs) (hwh : which xs 5 ≤ 1) (hm : Mw m') (he : m' ≠ m) :
    Calls Tryd.prog 17 #[.slice a 12 cap, m.v, m'.v] w fun e w' => WritesPost w xs m m' e w' := by
  have HQ : Hid (∀ W : World, (Op.equalIn 10000 36 (.agg m'.cells) (.agg m.cells)).run Tryd.prog W = .ok false W) := fun W => eqMt_two m' m W he
  have HE : Hid (m' ≠ m) := he
  have HWD : Hid (∀ W, Calls Tryd.prog 23 #[m'.v] W fun e w' => met.WordsPost W m' e w') := fun W => pwords m' W hm.b
  have HST : Hid (∀ W r c2, Below w.heap.size w W → RowU W r 5 (wds m') → Calls Tryd.prog 37 #[.slice a 12 cap, .slice r 5 c2] W fun e w' => GaveL W (sto xs (wds m') 5) 0 e w') := fun W r c2 hB hr => store_yes a r 12 cap 5 c2 _ xs (wds m') W (h.below hB) hr (by decide) (by decide) rfl rfl hwh
  have HOK : Hid (Mt.may m') := hm.may
  clear h hwh hm he
  obtain ⟨me, rev, cr, h, b, bad, lock⟩ := m
  obtain ⟨me1, rev1, cr1, h1, b1, bad1, lock1⟩ := m'
  unfold Mt.v Mt.cells at *
  simp only [] at *
  have hq := HQ.out
  clear HQ
  have H0m : Hid (Blk ((w.alloc (.cells #[.int .i64 me, .int .i64 rev, .int .i64 cr, .int .i64 h, .int .u64 (b : Int), .int .i64 bad, .int .i64 lock] 36)).alloc (.cells #[.int .i64 me1, .int .i64 rev1, .int .i64 cr1, .int .i64 h1, .int .u64 (b1 : Int), .int .i64 bad1, .int .i64 lock1] 36)) (w.heap.size) #[.int .i64 me, .int .i64 rev, .int .i64 cr, .int .i64 h, .int .u64 (b : Int), .int .i64 bad, .int .i64 lock] 36) := (Blk.new w _ _).alloc _
  have H0n : Hid (Blk ((w.alloc (.cells #[.int .i64 me, .int .i64 rev, .int .i64 cr, .int .i64 h, .int .u64 (b : Int), .int .i64 bad, .int .i64 lock] 36)).alloc (.cells #[.int .i64 me1, .int .i64 rev1, .int .i64 cr1, .int .i64 h1, .int .u64 (b1 : Int), .int .i64 bad1, .int .i64 lock1] 36)) (w.heap.size + 1) #[.int .i64 me1, .int .i64 rev1, .int .i64 cr1, .int .i64 h1, .int .u64 (b1 : Int), .int .i64 bad1, .int .i64 lock1] 36) := Blk.new1 w _ _ _
  have H0B : Hid (Below w.heap.size w ((w.alloc (.cells #[.int .i64 me, .int .i64 rev, .int .i64 cr, .int .i64 h, .int .u64 (b : Int), .int .i64 bad, .int .i64 lock] 36)).alloc (.cells #[.int .i64 me1, .int .i64 rev1, .int .i64 cr1, .int .i64 h1, .int .u64 (b1 : Int), .int .i64 bad1, .int .i64 lock1] 36))) := ((Below.refl w.heap.size w).alloc (by simp) _).alloc (by simp) _
  go_enter Tryd.func17, Tryd.ntmps17
  go_wp2_with (first
    | (refine wp_whole rfl 36 _ rfl (w.heap.size) rfl 36 #[.int .i64 me, .int .i64 rev, .int .i64 cr, .int .i64 h, .int .u64 (b : Int), .int .i64 bad, .int .i64 lock] _ H0m.out Tryd.underlying36 rfl (by kernel_rfl) ?_)
    | (refine wp_wholeG (by rfl) 36 _ rfl (w.heap.size) rfl 36 #[.int .i64 me, .int .i64 rev, .int .i64 cr, .int .i64 h, .int .u64 (b : Int), .int .i64 bad, .int .i64 lock] _ H0m.out Tryd.underlying36 rfl (by kernel_rfl) ?_)
    | (refine wp_whole rfl 36 _ rfl (w.heap.size + 1) rfl 36 #[.int .i64 me1, .int .i64 rev1, .int .i64 cr1, .int .i64 h1, .int .u64 (b1 : Int), .int .i64 bad1, .int .i64 lock1] _ H0n.out Tryd.underlying36 rfl (by kernel_rfl) ?_)
    | (refine wp_wholeG (by rfl) 36 _ rfl (w.heap.size + 1) rfl 36 #[.int .i64 me1, .int .i64 rev1, .int .i64 cr1, .int .i64 h1, .int .u64 (b1 : Int), .int .i64 bad1, .int .i64 lock1] _ H0n.out Tryd.underlying36 rfl (by kernel_rfl) ?_)
    | fail)
  refine (HWD.out _).mono ?_
  rintro e w1 ⟨x1, n1, c1, zs, f1, rfl, hr1, _, _, hi1, hb1⟩
  have H1m : Hid (Blk w1 (w.heap.size) #[.int .i64 me, .int .i64 rev, .int .i64 cr, .int .i64 h, .int .u64 (b : Int), .int .i64 bad, .int .i64 lock] 36) := H0m.out.next hb1
  have H1n : Hid (Blk w1 (w.heap.size + 1) #[.int .i64 me1, .int .i64 rev1, .int .i64 cr1, .int .i64 h1, .int .u64 (b1 : Int), .int .i64 bad1, .int .i64 lock1] 36) := H0n.out.next hb1
  have H1B : Hid (Below w.heap.size w w1) := bel_step H0B.out hb1
  obtain ⟨rfl, rfl⟩ := hi1.one (WordsIs.ok HOK.out)
  obtain rfl : n1 = 5 := hr1.1.symm.trans rfl
  have HX : Hid (RowU w1 x1 5 (wds ⟨me1, rev1, cr1, h1, b1, bad1, lock1⟩)) := hr1
  clear H0m H0n H0B hb1 hr1 hi1 HWD hq
  go_wp2_with fail
  refine (HST.out _ _ _ H1B.out HX.out).mono ?_
  rintro e w2 ⟨v2, rfl, hv2, hb2⟩
  have H2m : Hid (Blk w2 (w.heap.size) #[.int .i64 me, .int .i64 rev, .int .i64 cr, .int .i64 h, .int .u64 (b : Int), .int .i64 bad, .int .i64 lock] 36) := H1m.out.next hb2
  have H2n : Hid (Blk w2 (w.heap.size + 1) #[.int .i64 me1, .int .i64 rev1, .int .i64 cr1, .int .i64 h1, .int .u64 (b1 : Int), .int .i64 bad1, .int .i64 lock1] 36) := H1n.out.next hb2
  have H2B : Hid (Below w.heap.size w w2) := bel_step H1B.out hb2
  obtain ⟨x2, c2, rfl, hr2, hn2, hc2, _⟩ := hv2.row
  have HL2 : Hid ((sto xs (wds ⟨me1, rev1, cr1, h1, b1, bad1, lock1⟩) 5).length = 7) := sto_len _ _ _
  have hl2 := HL2.out
  rw [hl2] at hr2 hc2
  rw [hl2]
  have HW2 : Hid (Wg w2 x2 7 c2 (sto xs (wds ⟨me1, rev1, cr1, h1, b1, bad1, lock1⟩) 5)) := ⟨hr2, hn2, hc2, by decide⟩
  clear H1m H1n H1B hb2 hv2 hr2 hn2 hc2 hl2 HL2 HST HX
  go_wp2_with fail
  go_ret
  exact ⟨x2, 7, c2, _, rfl, HW2.out, .inr ⟨HE.out, rfl⟩, H2B.out⟩
open Classical in
theorem pwrites (a : Option Addr) (cap : Nat) (xs : List Int) (m m' : Mt) (w : World) (h : RowU w a 12 xs) (hwh : which xs 5 ≤ 1) (hm : Mw m') :
    Calls Tryd.prog 17 #[.slice a 12 cap, m.v, m'.v] w fun e w' => WritesPost w xs m m' e w' := by
  by_cases he : m' = m
  · exact pwrites_one a cap xs m m' w h hwh hm he
  · exact pwrites_two a cap xs m m' w h hwh hm he

end Go.Proofs.YtgipkpkjoicehabDoor.pkt

/- Digits are keyed into a pocket. -/
namespace Go.Proofs.YtgipkpkjoicehabDoor.pkt
open Go.RowKit Go.Proofs.YtgipkpkjoicehabDoor.met Go.Proofs.YtgipkpkjoicehabDoor.slot Go.Proofs.YtgipkpkjoicehabDoor.cell Go.Proofs.YtgipkpkjoicehabDoor.ora Go.Proofs.YtgipkpkjoicehabDoor.token
set_option maxRecDepth 100000
set_option linter.unusedVariables false
set_option linter.unusedSimpArgs false

set_option maxHeartbeats 2000000 in
theorem pkeyed (a : Option Addr) (n cap : Nat) (xs : List Int) (ao : Option Addr) (no co : Nat) (l : List Pr) (tx : ByteArray) (w : World) (ht : TTab w) (h : RowU w a n xs) (hc : n ≤ cap) (hw : ∀ x ∈ rcd xs 5 (which xs 5), 0 ≤ x ∧ x < 4294967296) (hp : RowP w ao no l) :
    Calls Tryd.prog 11 #[.slice a n cap, .agg #[.slice ao no co], .string tx] w fun e w' => KeyedPost w xs l tx e w' := by
  have HBT : Hid (∀ W, Below w.heap.size w W → Calls Tryd.prog 7 #[.slice a n cap] W fun e w' => BootPost W xs e w') := fun W hB => pboot a n cap xs W (h.below hB) hc hw
  have HPA : Hid (∀ W, Below w.heap.size w W → Calls Tryd.prog 25 #[.string tx] W fun e w' => e = .returned (.tuple #[parseV tx.data.toList, .int .i64 (parseE tx.data.toList)]) ∧ Below W.heap.size W w') := fun W hB => parse_any tx W (ht.below hB)
  have HKY : Hid (∀ W (m : Mt) c i am t, Below w.heap.size w W → Mw m → Calls Tryd.prog 26 #[m.v, .agg #[.slice ao no co], .agg #[.int .i64 c, .int .i64 i, .int .i64 am, .int .i64 t]] W fun e w' => KeyPost W m l c i am t e w') := fun W m c i am t hB hm => pkey m ao no co l c i am t W (ht.below hB) hm.b (hp.below hB)
  have HSU : Hid (∀ m, BootIs xs m 0 → Mw m ∧ n = 12 ∧ which xs 5 ≤ 1) := fun m hb => by
    obtain ⟨h1, h2⟩ := BootIs.sure hw hb
    exact ⟨h2, h.1.symm.trans h1.len, h1.one⟩
  have HRW : Hid (∀ W, Below w.heap.size w W → RowU W a n xs) := fun W hB => h.below hB
  have HTK : Hid (parseE tx.data.toList = 0 → parseV tx.data.toList = (tk tx.data.toList).v ∧ (tk tx.data.toList).ok) := tk_of
  have HNT : Hid (parseE tx.data.toList ≠ 0 → parseV tx.data.toList = noTok) := parse_else
  generalize hS : tx.data.toList = S at *
  have HS : Hid (tx.data.toList = S) := hS
  have HPE : Hid (∃ pe, parseE S = pe) := ⟨_, rfl⟩
  clear h hc hw hp ht hS
  have H0o : Hid (Blk (w.alloc (.cells #[.slice ao no co] 25)) (w.heap.size) #[.slice ao no co] 25) := Blk.new w _ _
  have H0B : Hid (Below w.heap.size w (w.alloc (.cells #[.slice ao no co] 25))) := (Below.refl w.heap.size w).alloc (by simp) _
  go_enter Tryd.func11, Tryd.ntmps11
  go_wp2_with fail
  refine (HBT.out _ H0B.out).mono ?_
  rintro e w1 ⟨m1, f1, rfl, hi1, hb1⟩
  have H1o : Hid (Blk w1 (w.heap.size) #[.slice ao no co] 25) := H0o.out.next hb1
  have H1B : Hid (Below w.heap.size w w1) := bel_step H0B.out hb1
  have HI1 : Hid (BootIs xs m1 f1) := hi1
  clear hi1 HBT
  by_cases hf : f1 = 0
  · subst hf
    obtain ⟨hmw, rfl, hwh⟩ := HSU.out _ HI1.out
    have HMW : Hid (Mw m1) := hmw
    have HK1 : Hid (∀ W c i am t, Below w.heap.size w W → Calls Tryd.prog 26 #[m1.v, .agg #[.slice ao no co], .agg #[.int .i64 c, .int .i64 i, .int .i64 am, .int .i64 t]] W fun e w' => KeyPost W m1 l c i am t e w') := fun W c i am t hB => HKY.out W m1 c i am t hB hmw
    have HWR : Hid (∀ W m2, Below w.heap.size w W → Mw m2 → Calls Tryd.prog 17 #[.slice a 12 cap, m1.v, m2.v] W fun e w' => WritesPost W xs m1 m2 e w') := fun W m2 hB hm2 => pwrites a cap xs m1 m2 W (HRW.out W hB) hwh hm2
    clear hmw hwh HSU HRW HKY
    obtain ⟨me1, rev1, cr1, h1, b1, bad1, lock1⟩ := m1
    unfold Mt.v Mt.cells at *
    simp only [] at HK1 HWR ⊢
    have H2o : Hid (Blk (w1.alloc (.cells #[.int .i64 me1, .int .i64 rev1, .int .i64 cr1, .int .i64 h1, .int .u64 (b1 : Int), .int .i64 bad1, .int .i64 lock1] 36)) (w.heap.size) #[.slice ao no co] 25) := (H1o.out).alloc _
    have H2m : Hid (Blk (w1.alloc (.cells #[.int .i64 me1, .int .i64 rev1, .int .i64 cr1, .int .i64 h1, .int .u64 (b1 : Int), .int .i64 bad1, .int .i64 lock1] 36)) (w1.heap.size) #[.int .i64 me1, .int .i64 rev1, .int .i64 cr1, .int .i64 h1, .int .u64 (b1 : Int), .int .i64 bad1, .int .i64 lock1] 36) := (Blk.new w1 _ _)
    have L2mo : Hid (w.heap.size < w1.heap.size) := Nat.lt_of_lt_of_le H1o.out.lt (by simp)
    have H2B : Hid (Below w.heap.size w (w1.alloc (.cells #[.int .i64 me1, .int .i64 rev1, .int .i64 cr1, .int .i64 h1, .int .u64 (b1 : Int), .int .i64 bad1, .int .i64 lock1] 36))) := (H1B.out).alloc (Nat.le_trans H1B.out.size (by simp)) _
    have L20 : Hid (w.heap.size ≤ w1.heap.size) := H1B.out.size
    clear H0o H0B H1o H1B hb1
    go_wp2_with (first
      | (refine wp_whole rfl 25 _ rfl (w.heap.size) rfl 25 #[.slice ao no co] _ H2o.out Tryd.underlying25 rfl (by kernel_rfl) ?_)
      | (refine wp_wholeG (by rfl) 25 _ rfl (w.heap.size) rfl 25 #[.slice ao no co] _ H2o.out Tryd.underlying25 rfl (by kernel_rfl) ?_)
      | (refine wp_whole rfl 36 _ rfl (w1.heap.size) rfl 36 #[.int .i64 me1, .int .i64 rev1, .int .i64 cr1, .int .i64 h1, .int .u64 (b1 : Int), .int .i64 bad1, .int .i64 lock1] _ H2m.out Tryd.underlying36 rfl (by kernel_rfl) ?_)
      | (refine wp_wholeG (by rfl) 36 _ rfl (w1.heap.size) rfl 36 #[.int .i64 me1, .int .i64 rev1, .int .i64 cr1, .int .i64 h1, .int .u64 (b1 : Int), .int .i64 bad1, .int .i64 lock1] _ H2m.out Tryd.underlying36 rfl (by kernel_rfl) ?_)
      | fail)
    refine (HPA.out _ H2B.out).mono ?_
    rintro e w2 ⟨rfl, hb2⟩
    have H3o : Hid (Blk w2 (w.heap.size) #[.slice ao no co] 25) := H2o.out.next hb2
    have H3m : Hid (Blk w2 (w1.heap.size) #[.int .i64 me1, .int .i64 rev1, .int .i64 cr1, .int .i64 h1, .int .u64 (b1 : Int), .int .i64 bad1, .int .i64 lock1] 36) := H2m.out.next hb2
    have H3B : Hid (Below w.heap.size w w2) := bel_step H2B.out hb2
    clear HPA
    by_cases hp : parseE S = 0
    · obtain ⟨hv, hk⟩ := HTK.out hp
      rw [hv, hp]
      have HP : Hid (parseE S = 0 ∧ (tk S).ok) := ⟨hp, hk⟩
      clear hp hv hk HTK HNT HPE
      have HKS : Hid (tk S = tk S) := rfl
      generalize hk : tk S = k at HP HKS ⊢
      have HKE : Hid (tk S = k) := hk
      clear hk HKS
      unfold Tok.v
      have H4o : Hid (Blk (w2.alloc (.cells #[.int .i64 (k.c : Int), .int .i64 (k.i : Int), .int .i64 (k.a : Int), .int .i64 (k.t : Int)] 50)) (w.heap.size) #[.slice ao no co] 25) := (H3o.out).alloc _
      have H4m : Hid (Blk (w2.alloc (.cells #[.int .i64 (k.c : Int), .int .i64 (k.i : Int), .int .i64 (k.a : Int), .int .i64 (k.t : Int)] 50)) (w1.heap.size) #[.int .i64 me1, .int .i64 rev1, .int .i64 cr1, .int .i64 h1, .int .u64 (b1 : Int), .int .i64 bad1, .int .i64 lock1] 36) := (H3m.out).alloc _
      have H4t : Hid (Blk (w2.alloc (.cells #[.int .i64 (k.c : Int), .int .i64 (k.i : Int), .int .i64 (k.a : Int), .int .i64 (k.t : Int)] 50)) (w2.heap.size) #[.int .i64 (k.c : Int), .int .i64 (k.i : Int), .int .i64 (k.a : Int), .int .i64 (k.t : Int)] 50) := (Blk.new w2 _ _)
      have L4to : Hid (w.heap.size < w2.heap.size) := Nat.lt_of_lt_of_le H3o.out.lt (by simp)
      have L4tm : Hid (w1.heap.size < w2.heap.size) := Nat.lt_of_lt_of_le H3m.out.lt (by simp)
      have H4B : Hid (Below w.heap.size w (w2.alloc (.cells #[.int .i64 (k.c : Int), .int .i64 (k.i : Int), .int .i64 (k.a : Int), .int .i64 (k.t : Int)] 50))) := (H3B.out).alloc (Nat.le_trans H3B.out.size (by simp)) _
      have L40 : Hid (w.heap.size ≤ w2.heap.size) := H3B.out.size
      clear H2o H2m H2B H3o H3m H3B hb2
      have q_o_0 : (w2.alloc (.cells #[.int .i64 (k.c : Int), .int .i64 (k.i : Int), .int .i64 (k.a : Int), .int .i64 (k.t : Int)] 50)).cell? ⟨w.heap.size, 0, none⟩ = some (.slice ao no co) := H4o.out.cell 0
      go_wp2_with (first
        | (refine wp_whole rfl 25 _ rfl (w.heap.size) rfl 25 #[.slice ao no co] _ H4o.out Tryd.underlying25 rfl (by kernel_rfl) ?_)
        | (refine wp_wholeG (by rfl) 25 _ rfl (w.heap.size) rfl 25 #[.slice ao no co] _ H4o.out Tryd.underlying25 rfl (by kernel_rfl) ?_)
        | (refine wp_whole rfl 36 _ rfl (w1.heap.size) rfl 36 #[.int .i64 me1, .int .i64 rev1, .int .i64 cr1, .int .i64 h1, .int .u64 (b1 : Int), .int .i64 bad1, .int .i64 lock1] _ H4m.out Tryd.underlying36 rfl (by kernel_rfl) ?_)
        | (refine wp_wholeG (by rfl) 36 _ rfl (w1.heap.size) rfl 36 #[.int .i64 me1, .int .i64 rev1, .int .i64 cr1, .int .i64 h1, .int .u64 (b1 : Int), .int .i64 bad1, .int .i64 lock1] _ H4m.out Tryd.underlying36 rfl (by kernel_rfl) ?_)
        | (refine wp_whole rfl 50 _ rfl (w2.heap.size) rfl 50 #[.int .i64 (k.c : Int), .int .i64 (k.i : Int), .int .i64 (k.a : Int), .int .i64 (k.t : Int)] _ H4t.out Tryd.underlying50 rfl (by kernel_rfl) ?_)
        | (refine wp_wholeG (by rfl) 50 _ rfl (w2.heap.size) rfl 50 #[.int .i64 (k.c : Int), .int .i64 (k.i : Int), .int .i64 (k.a : Int), .int .i64 (k.t : Int)] _ H4t.out Tryd.underlying50 rfl (by kernel_rfl) ?_)
        | fail)
      clear q_o_0
      refine (HK1.out _ _ _ _ _ H4B.out).mono ?_
      rintro e w3 ⟨m3, x3, f3, rfl, hi3, hb3⟩
      have H5o : Hid (Blk w3 (w.heap.size) #[.slice ao no co] 25) := H4o.out.next hb3
      have H5m : Hid (Blk w3 (w1.heap.size) #[.int .i64 me1, .int .i64 rev1, .int .i64 cr1, .int .i64 h1, .int .u64 (b1 : Int), .int .i64 bad1, .int .i64 lock1] 36) := H4m.out.next hb3
      have H5t : Hid (Blk w3 (w2.heap.size) #[.int .i64 (k.c : Int), .int .i64 (k.i : Int), .int .i64 (k.a : Int), .int .i64 (k.t : Int)] 50) := H4t.out.next hb3
      have H5B : Hid (Below w.heap.size w w3) := bel_step H4B.out hb3
      have HI3 : Hid (KeyIs ⟨me1, rev1, cr1, h1, b1, bad1, lock1⟩ l (k.c : Int) (k.i : Int) (k.a : Int) (k.t : Int) (bodyI (k.c : Int) (k.i : Int) (k.a : Int)) m3 x3 f3) := hi3
      clear hi3 HK1
      by_cases hf : f3 ≠ 0 ∧ f3 ≠ 12
      · have hd0 : (f3 != 0) = true := by simpa using hf.1
        have hd1 : (f3 != 12) = true := by simpa using hf.2
        have HF : Hid (f3 ≠ 0 ∧ f3 ≠ 12) := hf
        clear hf HWR
        obtain ⟨me3, rev3, cr3, h3, b3, bad3, lock3⟩ := m3
        unfold Mt.v Mt.cells
        simp only []
        have H6o : Hid (Blk (w3.alloc (.cells #[.int .i64 me3, .int .i64 rev3, .int .i64 cr3, .int .i64 h3, .int .u64 (b3 : Int), .int .i64 bad3, .int .i64 lock3] 36)) (w.heap.size) #[.slice ao no co] 25) := (H5o.out).alloc _
        have H6m : Hid (Blk (w3.alloc (.cells #[.int .i64 me3, .int .i64 rev3, .int .i64 cr3, .int .i64 h3, .int .u64 (b3 : Int), .int .i64 bad3, .int .i64 lock3] 36)) (w1.heap.size) #[.int .i64 me1, .int .i64 rev1, .int .i64 cr1, .int .i64 h1, .int .u64 (b1 : Int), .int .i64 bad1, .int .i64 lock1] 36) := (H5m.out).alloc _
        have H6t : Hid (Blk (w3.alloc (.cells #[.int .i64 me3, .int .i64 rev3, .int .i64 cr3, .int .i64 h3, .int .u64 (b3 : Int), .int .i64 bad3, .int .i64 lock3] 36)) (w2.heap.size) #[.int .i64 (k.c : Int), .int .i64 (k.i : Int), .int .i64 (k.a : Int), .int .i64 (k.t : Int)] 50) := (H5t.out).alloc _
        have H6n : Hid (Blk (w3.alloc (.cells #[.int .i64 me3, .int .i64 rev3, .int .i64 cr3, .int .i64 h3, .int .u64 (b3 : Int), .int .i64 bad3, .int .i64 lock3] 36)) (w3.heap.size) #[.int .i64 me3, .int .i64 rev3, .int .i64 cr3, .int .i64 h3, .int .u64 (b3 : Int), .int .i64 bad3, .int .i64 lock3] 36) := (Blk.new w3 _ _)
        have L6no : Hid (w.heap.size < w3.heap.size) := Nat.lt_of_lt_of_le H5o.out.lt (by simp)
        have L6nm : Hid (w1.heap.size < w3.heap.size) := Nat.lt_of_lt_of_le H5m.out.lt (by simp)
        have L6nt : Hid (w2.heap.size < w3.heap.size) := Nat.lt_of_lt_of_le H5t.out.lt (by simp)
        have H6B : Hid (Below w.heap.size w (w3.alloc (.cells #[.int .i64 me3, .int .i64 rev3, .int .i64 cr3, .int .i64 h3, .int .u64 (b3 : Int), .int .i64 bad3, .int .i64 lock3] 36))) := (H5B.out).alloc (Nat.le_trans H5B.out.size (by simp)) _
        have L60 : Hid (w.heap.size ≤ w3.heap.size) := H5B.out.size
        clear H4o H4m H4t H4B H5o H5m H5t H5B hb3
        go_wp2_with (first
          | (refine wp_whole rfl 25 _ rfl (w.heap.size) rfl 25 #[.slice ao no co] _ H6o.out Tryd.underlying25 rfl (by kernel_rfl) ?_)
          | (refine wp_wholeG (by rfl) 25 _ rfl (w.heap.size) rfl 25 #[.slice ao no co] _ H6o.out Tryd.underlying25 rfl (by kernel_rfl) ?_)
          | (refine wp_whole rfl 36 _ rfl (w1.heap.size) rfl 36 #[.int .i64 me1, .int .i64 rev1, .int .i64 cr1, .int .i64 h1, .int .u64 (b1 : Int), .int .i64 bad1, .int .i64 lock1] _ H6m.out Tryd.underlying36 rfl (by kernel_rfl) ?_)
          | (refine wp_wholeG (by rfl) 36 _ rfl (w1.heap.size) rfl 36 #[.int .i64 me1, .int .i64 rev1, .int .i64 cr1, .int .i64 h1, .int .u64 (b1 : Int), .int .i64 bad1, .int .i64 lock1] _ H6m.out Tryd.underlying36 rfl (by kernel_rfl) ?_)
          | (refine wp_whole rfl 50 _ rfl (w2.heap.size) rfl 50 #[.int .i64 (k.c : Int), .int .i64 (k.i : Int), .int .i64 (k.a : Int), .int .i64 (k.t : Int)] _ H6t.out Tryd.underlying50 rfl (by kernel_rfl) ?_)
          | (refine wp_wholeG (by rfl) 50 _ rfl (w2.heap.size) rfl 50 #[.int .i64 (k.c : Int), .int .i64 (k.i : Int), .int .i64 (k.a : Int), .int .i64 (k.t : Int)] _ H6t.out Tryd.underlying50 rfl (by kernel_rfl) ?_)
          | (refine wp_whole rfl 36 _ rfl (w3.heap.size) rfl 36 #[.int .i64 me3, .int .i64 rev3, .int .i64 cr3, .int .i64 h3, .int .u64 (b3 : Int), .int .i64 bad3, .int .i64 lock3] _ H6n.out Tryd.underlying36 rfl (by kernel_rfl) ?_)
          | (refine wp_wholeG (by rfl) 36 _ rfl (w3.heap.size) rfl 36 #[.int .i64 me3, .int .i64 rev3, .int .i64 cr3, .int .i64 h3, .int .u64 (b3 : Int), .int .i64 bad3, .int .i64 lock3] _ H6n.out Tryd.underlying36 rfl (by kernel_rfl) ?_)
          | fail)
        go_ret3
        exact ⟨none, 0, 0, [], 0, f3, rfl, Wg.none _, .inr (.inr (.inl ⟨_, _, _, HI1.out, by rw [HS.out]; exact HP.out.1, by rw [HS.out, HKE.out]; exact HI3.out, HF.out, rfl, rfl⟩)), H6B.out⟩
      · have HM3 : Hid (Mw m3) := (key_mw2 HI3.out HMW.out HP.out.2 hf)
        have HW3 : Hid (∀ W, Below w.heap.size w W → Calls Tryd.prog 17 #[.slice a 12 cap, .agg #[.int .i64 me1, .int .i64 rev1, .int .i64 cr1, .int .i64 h1, .int .u64 (b1 : Int), .int .i64 bad1, .int .i64 lock1], m3.v] W fun e w' => WritesPost W xs ⟨me1, rev1, cr1, h1, b1, bad1, lock1⟩ m3 e w') := fun W hB => HWR.out W m3 hB HM3.out
        have HF : Hid (¬ (f3 ≠ 0 ∧ f3 ≠ 12)) := hf
        have hor : f3 = 0 ∨ f3 = 12 := by omega
        clear hf HWR
        obtain ⟨me3, rev3, cr3, h3, b3, bad3, lock3⟩ := m3
        unfold Mt.v Mt.cells at *
        simp only [] at HW3 ⊢
        have H6o : Hid (Blk (w3.alloc (.cells #[.int .i64 me3, .int .i64 rev3, .int .i64 cr3, .int .i64 h3, .int .u64 (b3 : Int), .int .i64 bad3, .int .i64 lock3] 36)) (w.heap.size) #[.slice ao no co] 25) := (H5o.out).alloc _
        have H6m : Hid (Blk (w3.alloc (.cells #[.int .i64 me3, .int .i64 rev3, .int .i64 cr3, .int .i64 h3, .int .u64 (b3 : Int), .int .i64 bad3, .int .i64 lock3] 36)) (w1.heap.size) #[.int .i64 me1, .int .i64 rev1, .int .i64 cr1, .int .i64 h1, .int .u64 (b1 : Int), .int .i64 bad1, .int .i64 lock1] 36) := (H5m.out).alloc _
        have H6t : Hid (Blk (w3.alloc (.cells #[.int .i64 me3, .int .i64 rev3, .int .i64 cr3, .int .i64 h3, .int .u64 (b3 : Int), .int .i64 bad3, .int .i64 lock3] 36)) (w2.heap.size) #[.int .i64 (k.c : Int), .int .i64 (k.i : Int), .int .i64 (k.a : Int), .int .i64 (k.t : Int)] 50) := (H5t.out).alloc _
        have H6n : Hid (Blk (w3.alloc (.cells #[.int .i64 me3, .int .i64 rev3, .int .i64 cr3, .int .i64 h3, .int .u64 (b3 : Int), .int .i64 bad3, .int .i64 lock3] 36)) (w3.heap.size) #[.int .i64 me3, .int .i64 rev3, .int .i64 cr3, .int .i64 h3, .int .u64 (b3 : Int), .int .i64 bad3, .int .i64 lock3] 36) := (Blk.new w3 _ _)
        have L6no : Hid (w.heap.size < w3.heap.size) := Nat.lt_of_lt_of_le H5o.out.lt (by simp)
        have L6nm : Hid (w1.heap.size < w3.heap.size) := Nat.lt_of_lt_of_le H5m.out.lt (by simp)
        have L6nt : Hid (w2.heap.size < w3.heap.size) := Nat.lt_of_lt_of_le H5t.out.lt (by simp)
        have H6B : Hid (Below w.heap.size w (w3.alloc (.cells #[.int .i64 me3, .int .i64 rev3, .int .i64 cr3, .int .i64 h3, .int .u64 (b3 : Int), .int .i64 bad3, .int .i64 lock3] 36))) := (H5B.out).alloc (Nat.le_trans H5B.out.size (by simp)) _
        have L60 : Hid (w.heap.size ≤ w3.heap.size) := H5B.out.size
        clear H4o H4m H4t H4B H5o H5m H5t H5B hb3
        rcases hor with rfl | rfl
        · go_wp2_with (first
            | (refine wp_whole rfl 25 _ rfl (w.heap.size) rfl 25 #[.slice ao no co] _ H6o.out Tryd.underlying25 rfl (by kernel_rfl) ?_)
            | (refine wp_wholeG (by rfl) 25 _ rfl (w.heap.size) rfl 25 #[.slice ao no co] _ H6o.out Tryd.underlying25 rfl (by kernel_rfl) ?_)
            | (refine wp_whole rfl 36 _ rfl (w1.heap.size) rfl 36 #[.int .i64 me1, .int .i64 rev1, .int .i64 cr1, .int .i64 h1, .int .u64 (b1 : Int), .int .i64 bad1, .int .i64 lock1] _ H6m.out Tryd.underlying36 rfl (by kernel_rfl) ?_)
            | (refine wp_wholeG (by rfl) 36 _ rfl (w1.heap.size) rfl 36 #[.int .i64 me1, .int .i64 rev1, .int .i64 cr1, .int .i64 h1, .int .u64 (b1 : Int), .int .i64 bad1, .int .i64 lock1] _ H6m.out Tryd.underlying36 rfl (by kernel_rfl) ?_)
            | (refine wp_whole rfl 50 _ rfl (w2.heap.size) rfl 50 #[.int .i64 (k.c : Int), .int .i64 (k.i : Int), .int .i64 (k.a : Int), .int .i64 (k.t : Int)] _ H6t.out Tryd.underlying50 rfl (by kernel_rfl) ?_)
            | (refine wp_wholeG (by rfl) 50 _ rfl (w2.heap.size) rfl 50 #[.int .i64 (k.c : Int), .int .i64 (k.i : Int), .int .i64 (k.a : Int), .int .i64 (k.t : Int)] _ H6t.out Tryd.underlying50 rfl (by kernel_rfl) ?_)
            | (refine wp_whole rfl 36 _ rfl (w3.heap.size) rfl 36 #[.int .i64 me3, .int .i64 rev3, .int .i64 cr3, .int .i64 h3, .int .u64 (b3 : Int), .int .i64 bad3, .int .i64 lock3] _ H6n.out Tryd.underlying36 rfl (by kernel_rfl) ?_)
            | (refine wp_wholeG (by rfl) 36 _ rfl (w3.heap.size) rfl 36 #[.int .i64 me3, .int .i64 rev3, .int .i64 cr3, .int .i64 h3, .int .u64 (b3 : Int), .int .i64 bad3, .int .i64 lock3] _ H6n.out Tryd.underlying36 rfl (by kernel_rfl) ?_)
            | fail)
          refine (HW3.out _ H6B.out).mono ?_
          rintro e w4 ⟨a4, n4, c4, ls, rfl, hg4, hi4, hb4⟩
          have H7o : Hid (Blk w4 (w.heap.size) #[.slice ao no co] 25) := H6o.out.next hb4
          have H7m : Hid (Blk w4 (w1.heap.size) #[.int .i64 me1, .int .i64 rev1, .int .i64 cr1, .int .i64 h1, .int .u64 (b1 : Int), .int .i64 bad1, .int .i64 lock1] 36) := H6m.out.next hb4
          have H7t : Hid (Blk w4 (w2.heap.size) #[.int .i64 (k.c : Int), .int .i64 (k.i : Int), .int .i64 (k.a : Int), .int .i64 (k.t : Int)] 50) := H6t.out.next hb4
          have H7n : Hid (Blk w4 (w3.heap.size) #[.int .i64 me3, .int .i64 rev3, .int .i64 cr3, .int .i64 h3, .int .u64 (b3 : Int), .int .i64 bad3, .int .i64 lock3] 36) := H6n.out.next hb4
          have H7B : Hid (Below w.heap.size w w4) := bel_step H6B.out hb4
          have HFF : Hid (Wg w4 a4 n4 c4 ls ∧ WrIs xs ⟨me1, rev1, cr1, h1, b1, bad1, lock1⟩ ⟨me3, rev3, cr3, h3, b3, bad3, lock3⟩ ls) := ⟨hg4, hi4⟩
          clear H6o H6m H6t H6n H6B hb4 hg4 hi4 HW3
          go_wp2_with fail
          go_ret3
          exact ⟨a4, n4, c4, ls, x3, _, rfl, HFF.out.1, .inr (.inr (.inr ⟨_, _, HI1.out, by rw [HS.out]; exact HP.out.1, by rw [HS.out, HKE.out]; exact HI3.out, HF.out, HFF.out.2⟩)), H7B.out⟩
        · go_wp2_with (first
            | (refine wp_whole rfl 25 _ rfl (w.heap.size) rfl 25 #[.slice ao no co] _ H6o.out Tryd.underlying25 rfl (by kernel_rfl) ?_)
            | (refine wp_wholeG (by rfl) 25 _ rfl (w.heap.size) rfl 25 #[.slice ao no co] _ H6o.out Tryd.underlying25 rfl (by kernel_rfl) ?_)
            | (refine wp_whole rfl 36 _ rfl (w1.heap.size) rfl 36 #[.int .i64 me1, .int .i64 rev1, .int .i64 cr1, .int .i64 h1, .int .u64 (b1 : Int), .int .i64 bad1, .int .i64 lock1] _ H6m.out Tryd.underlying36 rfl (by kernel_rfl) ?_)
            | (refine wp_wholeG (by rfl) 36 _ rfl (w1.heap.size) rfl 36 #[.int .i64 me1, .int .i64 rev1, .int .i64 cr1, .int .i64 h1, .int .u64 (b1 : Int), .int .i64 bad1, .int .i64 lock1] _ H6m.out Tryd.underlying36 rfl (by kernel_rfl) ?_)
            | (refine wp_whole rfl 50 _ rfl (w2.heap.size) rfl 50 #[.int .i64 (k.c : Int), .int .i64 (k.i : Int), .int .i64 (k.a : Int), .int .i64 (k.t : Int)] _ H6t.out Tryd.underlying50 rfl (by kernel_rfl) ?_)
            | (refine wp_wholeG (by rfl) 50 _ rfl (w2.heap.size) rfl 50 #[.int .i64 (k.c : Int), .int .i64 (k.i : Int), .int .i64 (k.a : Int), .int .i64 (k.t : Int)] _ H6t.out Tryd.underlying50 rfl (by kernel_rfl) ?_)
            | (refine wp_whole rfl 36 _ rfl (w3.heap.size) rfl 36 #[.int .i64 me3, .int .i64 rev3, .int .i64 cr3, .int .i64 h3, .int .u64 (b3 : Int), .int .i64 bad3, .int .i64 lock3] _ H6n.out Tryd.underlying36 rfl (by kernel_rfl) ?_)
            | (refine wp_wholeG (by rfl) 36 _ rfl (w3.heap.size) rfl 36 #[.int .i64 me3, .int .i64 rev3, .int .i64 cr3, .int .i64 h3, .int .u64 (b3 : Int), .int .i64 bad3, .int .i64 lock3] _ H6n.out Tryd.underlying36 rfl (by kernel_rfl) ?_)
            | fail)
          refine (HW3.out _ H6B.out).mono ?_
          rintro e w4 ⟨a4, n4, c4, ls, rfl, hg4, hi4, hb4⟩
          have H7o : Hid (Blk w4 (w.heap.size) #[.slice ao no co] 25) := H6o.out.next hb4
          have H7m : Hid (Blk w4 (w1.heap.size) #[.int .i64 me1, .int .i64 rev1, .int .i64 cr1, .int .i64 h1, .int .u64 (b1 : Int), .int .i64 bad1, .int .i64 lock1] 36) := H6m.out.next hb4
          have H7t : Hid (Blk w4 (w2.heap.size) #[.int .i64 (k.c : Int), .int .i64 (k.i : Int), .int .i64 (k.a : Int), .int .i64 (k.t : Int)] 50) := H6t.out.next hb4
          have H7n : Hid (Blk w4 (w3.heap.size) #[.int .i64 me3, .int .i64 rev3, .int .i64 cr3, .int .i64 h3, .int .u64 (b3 : Int), .int .i64 bad3, .int .i64 lock3] 36) := H6n.out.next hb4
          have H7B : Hid (Below w.heap.size w w4) := bel_step H6B.out hb4
          have HFF : Hid (Wg w4 a4 n4 c4 ls ∧ WrIs xs ⟨me1, rev1, cr1, h1, b1, bad1, lock1⟩ ⟨me3, rev3, cr3, h3, b3, bad3, lock3⟩ ls) := ⟨hg4, hi4⟩
          clear H6o H6m H6t H6n H6B hb4 hg4 hi4 HW3
          go_wp2_with fail
          go_ret3
          exact ⟨a4, n4, c4, ls, x3, _, rfl, HFF.out.1, .inr (.inr (.inr ⟨_, _, HI1.out, by rw [HS.out]; exact HP.out.1, by rw [HS.out, HKE.out]; exact HI3.out, HF.out, HFF.out.2⟩)), H7B.out⟩
    · have hv := HNT.out hp
      rw [hv]
      have hd : (parseE S != 0) = true := by simpa using hp
      have HF : Hid (parseE S ≠ 0) := hp
      have HPQ : Hid (parseE tx.data.toList = parseE S) := by show _ = _; rw [HS.out]
      clear hp hv HTK HNT HK1 HWR
      generalize parseE S = pe at *
      unfold noTok
      have H4o : Hid (Blk (w2.alloc (.cells #[.int .i64 0, .int .i64 0, .int .i64 0, .int .i64 0] 50)) (w.heap.size) #[.slice ao no co] 25) := (H3o.out).alloc _
      have H4m : Hid (Blk (w2.alloc (.cells #[.int .i64 0, .int .i64 0, .int .i64 0, .int .i64 0] 50)) (w1.heap.size) #[.int .i64 me1, .int .i64 rev1, .int .i64 cr1, .int .i64 h1, .int .u64 (b1 : Int), .int .i64 bad1, .int .i64 lock1] 36) := (H3m.out).alloc _
      have H4t : Hid (Blk (w2.alloc (.cells #[.int .i64 0, .int .i64 0, .int .i64 0, .int .i64 0] 50)) (w2.heap.size) #[.int .i64 0, .int .i64 0, .int .i64 0, .int .i64 0] 50) := (Blk.new w2 _ _)
      have L4to : Hid (w.heap.size < w2.heap.size) := Nat.lt_of_lt_of_le H3o.out.lt (by simp)
      have L4tm : Hid (w1.heap.size < w2.heap.size) := Nat.lt_of_lt_of_le H3m.out.lt (by simp)
      have H4B : Hid (Below w.heap.size w (w2.alloc (.cells #[.int .i64 0, .int .i64 0, .int .i64 0, .int .i64 0] 50))) := (H3B.out).alloc (Nat.le_trans H3B.out.size (by simp)) _
      have L40 : Hid (w.heap.size ≤ w2.heap.size) := H3B.out.size
      clear H2o H2m H2B H3o H3m H3B hb2
      go_wp2_with (first
        | (refine wp_whole rfl 25 _ rfl (w.heap.size) rfl 25 #[.slice ao no co] _ H4o.out Tryd.underlying25 rfl (by kernel_rfl) ?_)
        | (refine wp_wholeG (by rfl) 25 _ rfl (w.heap.size) rfl 25 #[.slice ao no co] _ H4o.out Tryd.underlying25 rfl (by kernel_rfl) ?_)
        | (refine wp_whole rfl 36 _ rfl (w1.heap.size) rfl 36 #[.int .i64 me1, .int .i64 rev1, .int .i64 cr1, .int .i64 h1, .int .u64 (b1 : Int), .int .i64 bad1, .int .i64 lock1] _ H4m.out Tryd.underlying36 rfl (by kernel_rfl) ?_)
        | (refine wp_wholeG (by rfl) 36 _ rfl (w1.heap.size) rfl 36 #[.int .i64 me1, .int .i64 rev1, .int .i64 cr1, .int .i64 h1, .int .u64 (b1 : Int), .int .i64 bad1, .int .i64 lock1] _ H4m.out Tryd.underlying36 rfl (by kernel_rfl) ?_)
        | (refine wp_whole rfl 50 _ rfl (w2.heap.size) rfl 50 #[.int .i64 0, .int .i64 0, .int .i64 0, .int .i64 0] _ H4t.out Tryd.underlying50 rfl (by kernel_rfl) ?_)
        | (refine wp_wholeG (by rfl) 50 _ rfl (w2.heap.size) rfl 50 #[.int .i64 0, .int .i64 0, .int .i64 0, .int .i64 0] _ H4t.out Tryd.underlying50 rfl (by kernel_rfl) ?_)
        | fail)
      go_ret3
      exact ⟨none, 0, 0, [], 0, _, rfl, Wg.none _, .inr (.inl ⟨_, HI1.out, HPQ.out, HF.out, rfl, rfl⟩), H4B.out⟩
  · have hd : (f1 != 0) = true := by simpa using hf
    have HF : Hid (f1 ≠ 0) := hf
    clear hf HPA HKY HSU HRW HTK HNT
    obtain ⟨me1, rev1, cr1, h1, b1, bad1, lock1⟩ := m1
    unfold Mt.v Mt.cells
    simp only []
    have H2o : Hid (Blk (w1.alloc (.cells #[.int .i64 me1, .int .i64 rev1, .int .i64 cr1, .int .i64 h1, .int .u64 (b1 : Int), .int .i64 bad1, .int .i64 lock1] 36)) (w.heap.size) #[.slice ao no co] 25) := (H1o.out).alloc _
    have H2m : Hid (Blk (w1.alloc (.cells #[.int .i64 me1, .int .i64 rev1, .int .i64 cr1, .int .i64 h1, .int .u64 (b1 : Int), .int .i64 bad1, .int .i64 lock1] 36)) (w1.heap.size) #[.int .i64 me1, .int .i64 rev1, .int .i64 cr1, .int .i64 h1, .int .u64 (b1 : Int), .int .i64 bad1, .int .i64 lock1] 36) := (Blk.new w1 _ _)
    have L2mo : Hid (w.heap.size < w1.heap.size) := Nat.lt_of_lt_of_le H1o.out.lt (by simp)
    have H2B : Hid (Below w.heap.size w (w1.alloc (.cells #[.int .i64 me1, .int .i64 rev1, .int .i64 cr1, .int .i64 h1, .int .u64 (b1 : Int), .int .i64 bad1, .int .i64 lock1] 36))) := (H1B.out).alloc (Nat.le_trans H1B.out.size (by simp)) _
    have L20 : Hid (w.heap.size ≤ w1.heap.size) := H1B.out.size
    clear H0o H0B H1o H1B hb1
    go_wp2_with (first
      | (refine wp_whole rfl 25 _ rfl (w.heap.size) rfl 25 #[.slice ao no co] _ H2o.out Tryd.underlying25 rfl (by kernel_rfl) ?_)
      | (refine wp_wholeG (by rfl) 25 _ rfl (w.heap.size) rfl 25 #[.slice ao no co] _ H2o.out Tryd.underlying25 rfl (by kernel_rfl) ?_)
      | (refine wp_whole rfl 36 _ rfl (w1.heap.size) rfl 36 #[.int .i64 me1, .int .i64 rev1, .int .i64 cr1, .int .i64 h1, .int .u64 (b1 : Int), .int .i64 bad1, .int .i64 lock1] _ H2m.out Tryd.underlying36 rfl (by kernel_rfl) ?_)
      | (refine wp_wholeG (by rfl) 36 _ rfl (w1.heap.size) rfl 36 #[.int .i64 me1, .int .i64 rev1, .int .i64 cr1, .int .i64 h1, .int .u64 (b1 : Int), .int .i64 bad1, .int .i64 lock1] _ H2m.out Tryd.underlying36 rfl (by kernel_rfl) ?_)
      | fail)
    go_ret3
    exact ⟨none, 0, 0, [], 0, f1, rfl, Wg.none _, .inl ⟨_, HI1.out, HF.out, rfl, rfl⟩, H2B.out⟩

end Go.Proofs.YtgipkpkjoicehabDoor.pkt

/- What the program's issuing does. -/
namespace Go.Proofs.YtgipkpkjoicehabDoor.met
open Go.RowKit Go.Proofs.YtgipkpkjoicehabDoor.ora
set_option maxRecDepth 100000
set_option linter.unusedVariables false
set_option linter.unusedSimpArgs false

def KIssue (I : World → Prop) : Prop := ∀ W a n cap l m r b d, I W → Came W a n cap l → Alive W a → Calls Tryd.prog 29 #[.agg #[.slice a n cap], .int .i64 m, .int .i64 r, .int .i64 b, .int .i64 d] W fun e w' => IssueP W a l m r b d e w'

end Go.Proofs.YtgipkpkjoicehabDoor.met

/- What the program's body of a token does. -/
namespace Go.Proofs.YtgipkpkjoicehabDoor.met
open Go.RowKit Go.Proofs.YtgipkpkjoicehabDoor.token
set_option maxRecDepth 100000
set_option linter.unusedVariables false
set_option linter.unusedSimpArgs false

def KBody (I : World → Prop) : Prop := ∀ W (k : Tok), I W → k.ok → Calls Tryd.prog 28 #[k.v] W fun e w' => e = .returned (.tuple #[.int .i64 (k.body : Int), .int .i64 0]) ∧ Below W.heap.size W w'

end Go.Proofs.YtgipkpkjoicehabDoor.met

/- A token is sold. -/
namespace Go.Proofs.YtgipkpkjoicehabDoor.met
open Go.RowKit Go.Proofs.YtgipkpkjoicehabDoor.ora Go.Proofs.YtgipkpkjoicehabDoor.token
set_option maxRecDepth 100000
set_option linter.unusedVariables false
set_option linter.unusedSimpArgs false

/-- The boxes. -/
structure B5 (w wr : World) (m : Mt) (a : Option Addr) (n cap : Nat) (l : List Pr) (x y z u : Int) : Prop where
  ora : Blk wr w.heap.size #[.slice a n cap] 25
  met : Blk wr (w.heap.size + 1) m.cells 36
  raw : Blk wr (w.heap.size + 2) #[.int .i64 x, .int .i64 y, .int .i64 z, .int .i64 u] 30
  oo : Blk wr (w.heap.size + 3) #[.slice none 0 0] 25
  ot : Blk wr (w.heap.size + 4) #[.int .i64 0, .int .i64 0, .int .i64 0, .int .i64 0] 50
  came : Came wr a n cap l
  bel : Below w.heap.size w wr
  size : w.heap.size + 5 ≤ wr.heap.size
theorem B5.next {w wr w' : World} {m : Mt} {a : Option Addr} {n cap : Nat} {l : List Pr} {x y z u : Int} (h : B5 w wr m a n cap l x y z u) (hb : Below wr.heap.size wr w') : B5 w w' m a n cap l x y z u := ⟨h.ora.next hb, h.met.next hb, h.raw.next hb, h.oo.next hb, h.ot.next hb, h.came.below hb, bel_step h.bel hb, Nat.le_trans h.size hb.size⟩
theorem B5.alloc {w wr : World} {m : Mt} {a : Option Addr} {n cap : Nat} {l : List Pr} {x y z u : Int} (h : B5 w wr m a n cap l x y z u) (o : Obj) : B5 w (wr.alloc o) m a n cap l x y z u := h.next ((Below.refl _ _).alloc (Nat.le_refl _) _)
theorem Blk.new4 (w : World) (o p q r : Obj) (cs : Array Value) (t : TypeId) : Blk (((((w.alloc o).alloc p).alloc q).alloc r).alloc (.cells cs t)) (w.heap.size + 4) cs t := by
  have h := Blk.new ((((w.alloc o).alloc p).alloc q).alloc r) cs t
  rwa [show ((((w.alloc o).alloc p).alloc q).alloc r).heap.size = w.heap.size + 4 by simp] at h
theorem B5.new {w : World} (m : Mt) {a : Option Addr} {n cap : Nat} {l : List Pr} (x y z u : Int) (h : Came w a n cap l) : B5 w (((((w.alloc (.cells #[.slice a n cap] 25)).alloc (.cells m.cells 36)).alloc (.cells #[.int .i64 x, .int .i64 y, .int .i64 z, .int .i64 u] 30)).alloc (.cells #[.slice none 0 0] 25)).alloc (.cells #[.int .i64 0, .int .i64 0, .int .i64 0, .int .i64 0] 50)) m a n cap l x y z u := by
  have hb := (((((Below.refl w.heap.size w).alloc (Nat.le_refl _) (.cells #[.slice a n cap] 25)).alloc (by simp) (.cells m.cells 36)).alloc (by simp; omega) (.cells #[.int .i64 x, .int .i64 y, .int .i64 z, .int .i64 u] 30)).alloc (by simp; omega) (.cells #[.slice none 0 0] 25)).alloc (by simp; omega) (.cells #[.int .i64 0, .int .i64 0, .int .i64 0, .int .i64 0] 50)
  exact ⟨((((Blk.new w _ _).alloc _).alloc _).alloc _).alloc _, (((Blk.new1 w _ _ _).alloc _).alloc _).alloc _, ((Blk.new2 w _ _ _ _).alloc _).alloc _, (Blk.new3 w _ _ _ _ _).alloc _, Blk.new4 w _ _ _ _ _ _, h.below hb, hb, by simp⟩
/-- An oracle, a token and 'it went well' were given back. -/
def SoldPost (w : World) (a : Option Addr) (l : List Pr) (me rev kc ki ka kt bo : Int) (e : Ending) (w' : World) : Prop :=
  ∃ a' n' cap' ls tg f, e = .returned (.tuple #[.agg #[.slice a' n' cap'], .agg #[.int .i64 kc, .int .i64 ki, .int .i64 ka, .int .i64 tg], .bool (f == 0)]) ∧ Came w' a' n' cap' ls ∧ Alive w' a' ∧ Near w a a' ∧ IssueIs l me rev bo kt ls tg f ∧ Below w.heap.size w w'
set_option maxHeartbeats 4000000 in
theorem sold_abs {I : World → Prop} (hI : Inv I) (KO : KIssue I) (m : Mt) (a : Option Addr) (n cap : Nat) (l : List Pr) (x y z u kc ki ka kt bo : Int) (w : World) (h0 : I w) (hc : Came w a n cap l) (hal : Alive w a)
    (hM : ∀ W, Calls Tryd.prog 27 #[.agg #[.int .i64 x, .int .i64 y, .int .i64 z, .int .i64 u]] W fun e w' => e = .returned (.agg #[.int .i64 kc, .int .i64 ki, .int .i64 ka, .int .i64 kt]) ∧ Below W.heap.size W w')
    (hB : ∀ W, Below w.heap.size w W → Calls Tryd.prog 28 #[.agg #[.int .i64 kc, .int .i64 ki, .int .i64 ka, .int .i64 kt]] W fun e w' => e = .returned (.tuple #[.int .i64 bo, .int .i64 0]) ∧ Below W.heap.size W w') :
    Calls Tryd.prog 12 #[.agg #[.slice a n cap], m.v, .agg #[.int .i64 x, .int .i64 y, .int .i64 z, .int .i64 u]] w fun e w' => SoldPost w a l m.me m.rev kc ki ka kt bo e w' := by
  have HI := B5.new m x y z u hc
  have HM : Hid (∀ W, Calls Tryd.prog 27 #[.agg #[.int .i64 x, .int .i64 y, .int .i64 z, .int .i64 u]] W fun e w' => e = .returned (.agg #[.int .i64 kc, .int .i64 ki, .int .i64 ka, .int .i64 kt]) ∧ Below W.heap.size W w') := hM
  have HBD : Hid (∀ W, Below w.heap.size w W → Calls Tryd.prog 28 #[.agg #[.int .i64 kc, .int .i64 ki, .int .i64 ka, .int .i64 kt]] W fun e w' => e = .returned (.tuple #[.int .i64 bo, .int .i64 0]) ∧ Below W.heap.size W w') := hB
  have HIS : Hid (∀ W, Below w.heap.size w W → Came W a n cap l → Calls Tryd.prog 29 #[.agg #[.slice a n cap], .int .i64 m.me, .int .i64 m.rev, .int .i64 bo, .int .i64 kt] W fun e w' => IssueP W a l m.me m.rev bo kt e w') := fun W hb h => KO W a n cap l m.me m.rev bo kt (hI.from h0 hb) h (hal.below hb)
  have HAL : Hid (Alive w a) := hal
  clear KO hI h0 hc hM hB hal
  obtain ⟨me, rev, cr, h, b, bad, lock⟩ := m
  unfold Mt.v at *
  have HI0 : Hid (B5 w (((((w.alloc (.cells #[.slice a n cap] 25)).alloc (.cells #[.int .i64 me, .int .i64 rev, .int .i64 cr, .int .i64 h, .int .u64 (b : Int), .int .i64 bad, .int .i64 lock] 36)).alloc (.cells #[.int .i64 x, .int .i64 y, .int .i64 z, .int .i64 u] 30)).alloc (.cells #[.slice none 0 0] 25)).alloc (.cells #[.int .i64 0, .int .i64 0, .int .i64 0, .int .i64 0] 50)) ⟨me, rev, cr, h, b, bad, lock⟩ a n cap l x y z u) := HI
  clear HI
  unfold Mt.cells at *
  simp only [] at HIS ⊢
  have HX0 : Hid (Blk (((((w.alloc (.cells #[.slice a n cap] 25)).alloc (.cells #[.int .i64 me, .int .i64 rev, .int .i64 cr, .int .i64 h, .int .u64 (b : Int), .int .i64 bad, .int .i64 lock] 36)).alloc (.cells #[.int .i64 x, .int .i64 y, .int .i64 z, .int .i64 u] 30)).alloc (.cells #[.slice none 0 0] 25)).alloc (.cells #[.int .i64 0, .int .i64 0, .int .i64 0, .int .i64 0] 50)) (w.heap.size + 2) #[.int .i64 x, .int .i64 y, .int .i64 z, .int .i64 u] 30) := HI0.out.raw
  go_enter Tryd.func12, Tryd.ntmps12
  go_wp2_with (first
    | (refine wp_whole rfl 30 _ rfl (w.heap.size + 2) rfl 30 #[.int .i64 x, .int .i64 y, .int .i64 z, .int .i64 u] _ HX0.out Tryd.underlying30 rfl (by kernel_rfl) ?_)
    | fail)
  refine (HM.out _).mono ?_
  rintro e w1 ⟨rfl, hb1⟩
  have HI1 : Hid (B5 w (w1.alloc (.cells #[.int .i64 kc, .int .i64 ki, .int .i64 ka, .int .i64 kt] 50)) ⟨me, rev, cr, h, b, bad, lock⟩ a n cap l x y z u) := (HI0.out.next hb1).alloc _
  have HK1 : Hid (Blk (w1.alloc (.cells #[.int .i64 kc, .int .i64 ki, .int .i64 ka, .int .i64 kt] 50)) w1.heap.size #[.int .i64 kc, .int .i64 ki, .int .i64 ka, .int .i64 kt] 50) := Blk.new _ _ _
  have HSZ : Hid (w.heap.size + 5 ≤ w1.heap.size) := (HI0.out.next hb1).size
  clear hb1 HX0 HM HI0
  go_wp2_with (first
    | (refine wp_whole rfl 50 _ rfl (w1.heap.size) rfl 50 #[.int .i64 kc, .int .i64 ki, .int .i64 ka, .int .i64 kt] _ HK1.out Tryd.underlying50 rfl (by kernel_rfl) ?_)
    | fail)
  refine (HBD.out _ HI1.out.bel).mono ?_
  rintro e w2 ⟨rfl, hb2⟩
  have HI2 : Hid (B5 w w2 ⟨me, rev, cr, h, b, bad, lock⟩ a n cap l x y z u) := HI1.out.next hb2
  have HK2 : Hid (Blk w2 w1.heap.size #[.int .i64 kc, .int .i64 ki, .int .i64 ka, .int .i64 kt] 50) := HK1.out.next hb2
  clear hb2 HBD HI1 HK1
  have o0 := HI2.out.ora.cell 0
  have m0 : w2.cell? ⟨w.heap.size + 1, 0, none⟩ = some (.int .i64 me) := HI2.out.met.cell 0
  have m1 : w2.cell? ⟨w.heap.size + 1, 1, none⟩ = some (.int .i64 rev) := HI2.out.met.cell 1
  have k3 := HK2.out.cell 3
  go_wp2_with fail
  refine (HIS.out _ HI2.out.bel HI2.out.came).mono ?_
  rintro e w3 ⟨a', n', cap', ls, tg, f, rfl, hc3, hl3, hn3, hi3, hb3⟩
  have HI3 : Hid (B5 w (w3.alloc (.cells #[.slice a' n' cap'] 25)) ⟨me, rev, cr, h, b, bad, lock⟩ a n cap l x y z u) := (HI2.out.next hb3).alloc _
  have HK3 : Hid (Blk (w3.alloc (.cells #[.slice a' n' cap'] 25)) w1.heap.size #[.int .i64 kc, .int .i64 ki, .int .i64 ka, .int .i64 kt] 50) := (HK2.out.next hb3).alloc _
  have HN3 : Hid (Blk (w3.alloc (.cells #[.slice a' n' cap'] 25)) w3.heap.size #[.slice a' n' cap'] 25) := Blk.new _ _ _
  have HC3 : Hid (Came (w3.alloc (.cells #[.slice a' n' cap'] 25)) a' n' cap' ls) := hc3.below ((Below.refl _ _).alloc (Nat.le_refl _) _)
  have HAN : Hid (Alive w3 a' ∧ Near w2 a a' ∧ w1.heap.size < w2.heap.size ∧ w2.heap.size ≤ w3.heap.size) := ⟨hl3, hn3, HK2.out.lt, hb3.size⟩
  have HIX : Hid (IssueIs l me rev bo kt ls tg f) := hi3
  clear hc3 hl3 hn3 hi3 hb3 HIS HI2 HK2 o0 m0 m1 k3
  go_wp2_with (first
    | (refine wp_let1 rfl 3 _ _ rfl w1.heap.size 3 rfl .i64 tg rfl (by kernel_rfl) #[.int .i64 kc, .int .i64 ki, .int .i64 ka, .int .i64 kt] 50 HK3.out (by simp) ?_)
    | fail)
  intro W4 hU4
  have hsz := HSZ.out
  obtain ⟨hl3, hn3, h12, h23⟩ := HAN.out
  have hne : ∀ yy, a' = some yy → yy.block ≠ w1.heap.size := fun yy hy e => by
    rcases hn3 yy hy with h | ⟨zz, hz, hzy⟩
    · omega
    · have := HAL.out zz hz; omega
  have HF : Hid (Came W4 a' n' cap' ls ∧ Below w.heap.size w W4 ∧ Blk W4 (w.heap.size + 3) #[.slice none 0 0] 25 ∧ Blk W4 (w.heap.size + 4) #[.int .i64 0, .int .i64 0, .int .i64 0, .int .i64 0] 50) := ⟨upd_came hU4 HC3.out hne, hU4.bel _ _ (by omega) HI3.out.bel, hU4.keep HI3.out.oo (by omega), hU4.keep HI3.out.ot (by omega)⟩
  have HK4 : Hid (Blk W4 w1.heap.size #[.int .i64 kc, .int .i64 ki, .int .i64 ka, .int .i64 tg] 50) := hU4.blk
  have HN4 : Hid (Blk W4 w3.heap.size #[.slice a' n' cap'] 25) := hU4.keep HN3.out (by omega)
  have HAV : Hid (Alive W4 a') := fun yy hy => by rw [hU4.size]; have := hl3 yy hy; simp; omega
  have HNX : Hid (Near w2 a a') := hn3
  have HNW : Hid (Near w a a') := fun yy hy => by
    rcases hn3 yy hy with h | h
    · left; omega
    · exact .inr h
  clear hU4 HI3 HK3 HN3 HC3 hne hl3 hn3 HAN
  go_wp2_with fail
  refine wp_region_held_drew (S := fun v => Blk v w1.heap.size #[.int .i64 kc, .int .i64 ki, .int .i64 ka, .int .i64 tg] 50 ∧ Blk v w3.heap.size #[.slice a' n' cap'] 25) (by kernel_rfl) ⟨HK4.out, HN4.out⟩ (fun hHeld => ?_)
  refine take_at 0 37 _ _ rfl rfl (by kernel_rfl) (by kernel_rfl) (by kernel_rfl) (fun _ _ _ h => h) (yieldsIf_whole (by rfl) 25 _ rfl w3.heap.size rfl 25 #[.slice a' n' cap'] _ (fun v hv => hv.2) Tryd.underlying25 rfl (by kernel_rfl)) hHeld ?_
  simp only [Act.put, List.setIfInBounds_toArray, List.set_cons_zero, List.set_cons_succ]
  refine take_at 1 38 _ _ rfl rfl (by kernel_rfl) (by kernel_rfl) (by kernel_rfl) (fun _ _ _ h => h) (yieldsIf_whole (by rfl) 50 _ rfl w1.heap.size rfl 50 #[.int .i64 kc, .int .i64 ki, .int .i64 ka, .int .i64 tg] _ (fun v hv => hv.1) Tryd.underlying50 rfl (by kernel_rfl)) hHeld ?_
  simp only [Act.put, List.setIfInBounds_toArray, List.set_cons_zero, List.set_cons_succ]
  refine take_at 2 39 (.int .i64 0) _ rfl rfl (by kernel_rfl) (by kernel_rfl) (by kernel_rfl) (fun _ _ _ h => h) (Or.inl ⟨by rfl, fun v hv => by go_simp⟩) hHeld ?_
  simp only [Act.put, List.setIfInBounds_toArray, List.set_cons_zero, List.set_cons_succ]
  refine take_at 3 40 (.bool true) _ rfl rfl (by kernel_rfl) (by kernel_rfl) (by kernel_rfl) (fun _ _ _ h => h) (Or.inl ⟨by rfl, fun v hv => by go_simp⟩) hHeld ?_
  simp only [Act.put, List.setIfInBounds_toArray, List.set_cons_zero, List.set_cons_succ]
  refine take_at 4 41 (.bool true) _ rfl rfl (by kernel_rfl) (by kernel_rfl) (by kernel_rfl) (fun _ _ _ h => h) (Or.inl ⟨by rfl, fun v hv => by go_simp⟩) hHeld ?_
  simp only [Act.put, List.setIfInBounds_toArray, List.set_cons_zero, List.set_cons_succ]
  refine take_at 5 42 (.int .i64 f) _ rfl rfl (by kernel_rfl) (by kernel_rfl) (by kernel_rfl) (fun _ _ _ h => h) (Or.inl ⟨by rfl, fun v hv => by go_simp⟩) hHeld ?_
  simp only [Act.put, List.setIfInBounds_toArray, List.set_cons_zero, List.set_cons_succ]
  refine take_at 6 43 (.bool (f == 0)) _ rfl rfl (by kernel_rfl) (by kernel_rfl) (by kernel_rfl) (fun _ _ _ h => h) (Or.inl ⟨by rfl, fun v hv => by go_simp⟩) hHeld ?_
  simp only [Act.put, List.setIfInBounds_toArray, List.set_cons_zero, List.set_cons_succ]
  refine take_at 7 44 (.bool (f == 0)) _ rfl rfl (by kernel_rfl) (by kernel_rfl) (by kernel_rfl) (fun _ _ _ h => h) (Or.inl ⟨by rfl, fun v hv => by go_simp⟩) hHeld ?_
  simp only [Act.put, List.setIfInBounds_toArray, List.set_cons_zero, List.set_cons_succ]
  refine wpAnyH_ready (rs := [8]) (by kernel_rfl) (by simp) (AllReadyH.cons rfl (fun K hK => ?_) AllReadyH.nil)
  rw [if_pos (by rfl)]
  refine wp_letOp 25 _ _ rfl (w.heap.size + 3) rfl #[.slice a' n' cap'] rfl (by kernel_rfl) (by simp [Value.oneCell']) #[.slice none 0 0] 25 (Blk.drew HF.out.2.2.1 1) rfl rfl ?_
  intro W5 hU5
  refine hK.out _ _ ⟨hU5.keep (Blk.drew HK4.out 1) (by omega), hU5.keep (Blk.drew HN4.out 1) (by omega)⟩ (fun hHeld => ?_)
  have hA3 : ∀ yy, a' = some yy → yy.block ≠ w.heap.size + 3 := fun yy hy e => by
    rcases HNX.out yy hy with h | ⟨zz, hz, hzy⟩
    · omega
    · have := HAL.out zz hz; omega
  have hA4 : ∀ yy, a' = some yy → yy.block ≠ w.heap.size + 4 := fun yy hy e => by
    rcases HNX.out yy hy with h | ⟨zz, hz, hzy⟩
    · omega
    · have := HAL.out zz hz; omega
  have HF5 : Hid (Came W5 a' n' cap' ls ∧ Below w.heap.size w W5 ∧ Blk W5 (w.heap.size + 3) #[.slice a' n' cap'] 25 ∧ Blk W5 (w.heap.size + 4) #[.int .i64 0, .int .i64 0, .int .i64 0, .int .i64 0] 50 ∧ Alive W5 a') := ⟨upd_came hU5 (HF.out.1.drew 1) hA3, hU5.bel _ _ (by omega) (bel_drew HF.out.2.1 1), hU5.blk, hU5.keep (Blk.drew HF.out.2.2.2 1) (by omega), fun yy hy => by rw [hU5.size]; exact HAV.out yy hy⟩
  clear hU5 hK
  refine wpAnyH_ready (rs := [9]) (by kernel_rfl) (by simp) (AllReadyH.cons rfl (fun K hK => ?_) AllReadyH.nil)
  rw [if_pos (by rfl)]
  refine wp_letOp 50 _ _ rfl (w.heap.size + 4) rfl #[.int .i64 kc, .int .i64 ki, .int .i64 ka, .int .i64 tg] rfl (by kernel_rfl) (by simp [Value.oneCell']) #[.int .i64 0, .int .i64 0, .int .i64 0, .int .i64 0] 50 HF5.out.2.2.2.1 rfl rfl ?_
  intro W6 hU6
  refine hK.out _ _ ⟨hU6.keep hHeld.1 (by omega), hU6.keep hHeld.2 (by omega)⟩ (fun hHeld => ?_)
  refine take_at 10 8 (.bool (f == 0)) _ rfl rfl (by kernel_rfl) (by kernel_rfl) (by kernel_rfl) (fun _ _ _ h => h) (Or.inl ⟨by rfl, fun v hv => by go_simp⟩) hHeld ?_
  simp only [Act.put, List.setIfInBounds_toArray, List.set_cons_zero, List.set_cons_succ]
  refine wpAnyH_done (by kernel_rfl) ?_ _
  have hO6 : Blk W6 (w.heap.size + 3) #[.slice a' n' cap'] 25 := hU6.keep HF5.out.2.2.1 (by omega)
  have R0 : Hid (W6.cell? ⟨w.heap.size + 3, 0, none⟩ = some (.slice a' n' cap')) := hO6.cell 0
  have T0 : Hid (W6.cell? ⟨w.heap.size + 4, 0, none⟩ = some (.int .i64 kc)) := hU6.blk.cell 0
  have T1 : Hid (W6.cell? ⟨w.heap.size + 4, 1, none⟩ = some (.int .i64 ki)) := hU6.blk.cell 1
  have T2 : Hid (W6.cell? ⟨w.heap.size + 4, 2, none⟩ = some (.int .i64 ka)) := hU6.blk.cell 2
  have T3 : Hid (W6.cell? ⟨w.heap.size + 4, 3, none⟩ = some (.int .i64 tg)) := hU6.blk.cell 3
  have HF6 : Hid (Came W6 a' n' cap' ls ∧ Alive W6 a' ∧ Near w a a' ∧ IssueIs l me rev bo kt ls tg f ∧ Below w.heap.size w W6) := ⟨upd_came hU6 HF5.out.1 hA4, (fun yy hy => by rw [hU6.size]; exact HF5.out.2.2.2.2 yy hy), HNW.out, HIX.out, hU6.bel _ _ (by omega) HF5.out.2.1⟩
  clear hU6 hK hHeld HF5 HF HK4 HN4 HAV HNW HIX hA3 hA4 hO6 HAL HNX
  go_wp2_with fail
  exact bodyPost_ret (v := .tuple #[.agg #[.slice a' n' cap'], .agg #[.int .i64 kc, .int .i64 ki, .int .i64 ka, .int .i64 tg], .bool (f == 0)]) (by simp [results, Tryd.results12, R0.out, T0.out, T1.out, T2.out, T3.out, go_sem]) rfl ⟨a', n', cap', ls, tg, f, rfl, HF6.out⟩
theorem sold_any {I : World → Prop} (hI : Inv I) (KB : KBody I) (KO : KIssue I) (m : Mt) (a : Option Addr) (n cap : Nat) (l : List Pr) (x y z u : Int) (w : World) (h0 : I w) (hc : Came w a n cap l) (hal : Alive w a) (hw : wf4 x y z u) :
    Calls Tryd.prog 12 #[.agg #[.slice a n cap], m.v, .agg #[.int .i64 x, .int .i64 y, .int .i64 z, .int .i64 u]] w fun e w' => SoldPost w a l m.me m.rev (madeT x y z u).c (madeT x y z u).i (madeT x y z u).a (madeT x y z u).t (madeT x y z u).body e w' :=
  sold_abs hI KO m a n cap l x y z u _ _ _ _ _ w h0 hc hal (fun W => made_any x y z u W hw) (fun W hB => KB W (madeT x y z u) (hI.from h0 hB) (made_ok x y z u))

end Go.Proofs.YtgipkpkjoicehabDoor.met

/- The tables of tokens lie in every world of a run. -/
namespace Go.Proofs.YtgipkpkjoicehabDoor.met
open Go.RowKit Go.Proofs.YtgipkpkjoicehabDoor.token

theorem minv : Inv TTab := ⟨fun _ _ h hb => h.below hb⟩

end Go.Proofs.YtgipkpkjoicehabDoor.met

/- The program's bodies and its issuing, as the statements of meters want them. -/
namespace Go.Proofs.YtgipkpkjoicehabDoor.met
open Go.RowKit Go.Proofs.YtgipkpkjoicehabDoor.ora Go.Proofs.YtgipkpkjoicehabDoor.token

theorem kbody : KBody TTab := fun W k ht hk => body_ok k W ht hk
theorem kissue : KIssue TTab := fun W a n cap l m r b d _ hc _ => (poi a n cap l m r b d W hc.row).mono fun _ _ h => h.near

end Go.Proofs.YtgipkpkjoicehabDoor.met

/- One cell is stored, where the order is open. -/
namespace Go.Proofs.YtgipkpkjoicehabDoor
open Go.RowKit

theorem wp_letOp1 {P : Program} {o : Oper} {a : Act} {w : World} {K : Act → World → Prop} {Q : Exit → Act → World → Prop} (ty : TypeId) (x y : Operand) (ho : o.op = .store ty x y)
    (g off : Nat) (hx : a.eval x = .pointer (some ⟨g, off, none⟩)) (k : IntKind) (n : Int) (hy : a.eval y = .int k n) (hi : (P.info? ty).map (·.size) = some 1)
    (cs : Array Value) (t : TypeId) (hB : Blk w g cs t) (hin : off < cs.size) (hd : o.dst = none)
    (h : ∀ W, Upd w W g (cs.setIfInBounds off (.int k n)) t → K a W) : o.wp P a w K Q := by
  have hs := run_storeVar_let (P := P) (w := w) (g := g) (off := off) (ty := ty) (t := t) (v := .int k n) (cells := #[.int k n]) (cs := cs) rfl hi (by simp [Value.oneCell']) hB (by simp; omega)
  unfold Oper.wp execOp
  simp only [ho, hx, hy, Instr.storeAt, Instr.sureAddr, Sem.run_bind, Sem.run_pure, Result.andThen_ok, hs]
  have := h _ (upd_cells g t [.int k n] off w cs hB)
  have e : a.put o.dst undef = a := by rw [hd]; rfl
  rw [← e] at this
  exact this

end Go.Proofs.YtgipkpkjoicehabDoor

/- May there be so many words? -/
namespace Go.Proofs.YtgipkpkjoicehabDoor.cell
open Go.RowKit
set_option maxRecDepth 100000

theorem may_yes (n : Int) (w : World) (h1 : 1 ≤ n) (h2 : n ≤ 2048) :
    Calls Tryd.prog 18 #[.int .i64 n] w fun e w' => e = .returned (.bool true) ∧ w' = w := by
  go_enter Tryd.func18, Tryd.ntmps18
  go_wp2
  go_ret
  exact ⟨rfl, rfl⟩
theorem may_no (n : Int) (w : World) (h : n < 1 ∨ 2048 < n) :
    Calls Tryd.prog 18 #[.int .i64 n] w fun e w' => e = .returned (.bool false) ∧ w' = w := by
  by_cases h0 : n < 1
  · clear h
    go_enter Tryd.func18, Tryd.ntmps18
    go_wp2
    go_ret
    exact ⟨rfl, rfl⟩
  · have h1 : 1 ≤ n := by omega
    have h2 : decide (n ≤ 2048) = false := by simp; omega
    clear h h0
    go_enter Tryd.func18, Tryd.ntmps18
    go_wp2
    go_ret
    exact ⟨rfl, rfl⟩

end Go.Proofs.YtgipkpkjoicehabDoor.cell

/- The words behind writes. -/
namespace Go.Proofs.YtgipkpkjoicehabDoor.cell
open Go.RowKit
set_option maxRecDepth 100000

/-- copy of words over a row of noughts. -/
theorem copy_run (a : Addr) (n cc g : Nat) (zs : List Int) (w : World) (hz : zs.length = n) (hr : Blk w g (arr (List.replicate n 0)) 60) (hc : ∀ i, i < n → w.cell? (a.add i) = some (.int .u32 (zs.getD i 0))) :
    (Builtin.copy_ #[22, 22] 3 #[.slice (some ⟨g, 0, none⟩) n n, .slice (some a) n cc]).run Tryd.prog w = .ok (.int .i64 (n : Int)) (w.setRow g (arr zs)) := by
  have hrun := run_copy_row (P := Tryd.prog) w 22 22 3 60 g 0 n n a n cc (arr (List.replicate n 0)) 60 (zs.map (Value.int .u32)) Tryd.underlying22 (by kernel_rfl) hr (by
      rw [List.length_map, hz]; exact (Nat.min_self n).symm) (by
      intro j u hu
      by_cases hj : j < zs.length
      · simp [List.getElem?_eq_getElem hj] at hu
        subst hu
        have := hc j (by omega)
        simpa [List.getD, List.getElem?_eq_getElem hj] using this
      · rw [List.getElem?_eq_none (by simp; omega)] at hu; cases hu) (by simp [arr, hz]) (by
      intro u hu; obtain ⟨z, _, rfl⟩ := List.mem_map.1 hu; rfl)
  rw [hrun]
  congr 2
  · rw [List.length_map, hz]
  · unfold arr
    simp [hz]
theorem setRow_blk {w : World} {g : Nat} {c0 c1 : Array Value} {t : TypeId} (h : Blk w g c0 t) : Blk (w.setRow g c1) g c1 t := setRow_heap w g _ _ t _ h

/-- Two cells of a block are set. -/
def setW (w : World) (G : Nat) (p d : Int) : World := (w.setCell ⟨G, 0, none⟩ (.int .i64 p)).setCell ⟨G, 1, none⟩ (.int .u32 d)

set_option maxHeartbeats 2000000 in
theorem written_any (a b : Option Addr) (n m c1 c2 : Nat) (xs : List Int) (ls : List Wr) (w : World) (h1 : RowU w a n xs) (h2 : RowW w b m ls) (hn : 1 ≤ n) (hn2 : n ≤ 2048) (hm : m ≤ 4096) (hall : allN n ls = true) :
    Calls Tryd.prog 21 #[.slice a n c1, .slice b m c2] w fun e w' => ∃ g, e = .returned (.slice (some ⟨g, 0, none⟩) n n) ∧ RowU w' (some ⟨g, 0, none⟩) n (wrt xs ls) ∧ Below w.heap.size w w' := by
  have hmk : ∀ W : World, (Instr.makeSlice 22 (.int .i64 (n : Int)) (.int .i64 (n : Int))).run Tryd.prog W = .ok (.slice (some ⟨W.heap.size, 0, none⟩) n n) (W.alloc (.cells (arr (List.replicate n 0)) 60)) := make_u32 n (by omega)
  obtain ⟨b1, o1, rfl, l1, hc1⟩ := h1.at (by omega)
  have hz := h1.1
  have hcp := copy_run ⟨b1, o1, none⟩ n c1 w.heap.size xs (w.alloc (.cells (arr (List.replicate n 0)) 60)) hz (Blk.new _ _ _) (fun i hi => by
    rw [Addr.add_lit, World.cell?_alloc_lt w _ _ l1]; exact hc1 i hi)
  have HG0 : Hid (Blk ((w.alloc (.cells (arr (List.replicate n 0)) 60)).setRow w.heap.size (arr xs)) w.heap.size (arr xs) 60) := setRow_blk (Blk.new _ _ _)
  have HB0 : Hid (Below w.heap.size w ((w.alloc (.cells (arr (List.replicate n 0)) 60)).setRow w.heap.size (arr xs))) := below_setRow ((Below.refl _ _).alloc (Nat.le_refl _) _) (Nat.le_refl _) _
  have HR : Hid (RowW w b m ls) := h2
  have HA : Hid (allN n ls = true) := hall
  have HL : Hid (xs.length = n ∧ ls.length = m) := ⟨hz, h2.1⟩
  clear h1 h2 hc1 hall hz l1
  generalize arr (List.replicate n 0) = zz at *
  go_enter Tryd.func21, Tryd.ntmps21
  go_wp2_with fail
  generalize (w.alloc (Obj.cells zz 60)).setRow w.heap.size (arr xs) = W0 at *
  generalize hgg : w.heap.size = g at *
  have HGG : Hid (w.heap.size = g) := hgg
  clear hgg hcp hmk
  go_loopw [16] (fun i wr => ∃ k : Nat, k ≤ m ∧ i = .int .i64 (k : Int) ∧ Blk wr g (arr (wrt xs (ls.take k))) 60 ∧ Below g w wr) (fun i _ => m - (intOf i).toNat)
  case atStart => exact ⟨0, Nat.zero_le _, rfl, HG0.out, HB0.out⟩
  case round =>
    obtain ⟨k, hk, rfl, hg, hb⟩ := hrel
    have HK : Hid (Blk wr g (arr (wrt xs (ls.take k))) 60) := hg
    have HB : Hid (Below g w wr) := hb
    clear hg hb HG0 HB0
    by_cases hlt : k < m
    · obtain ⟨b2, o2, rfl, l2, hc2⟩ := HR.out.at (by omega)
      rw [HGG.out] at l2
      have f1 : wr.cell? ⟨b2, o2 + k * 2, none⟩ = some (.int .i64 (ls.getD k wr0).p) := (HB.out.cell (p := ⟨b2, o2 + k * 2, none⟩) l2).trans (hc2 k hlt).1
      have f2 : wr.cell? ⟨b2, o2 + k * 2 + 1, none⟩ = some (.int .u32 (ls.getD k wr0).d) := (HB.out.cell (p := ⟨b2, o2 + k * 2 + 1, none⟩) l2).trans (hc2 k hlt).2
      have hin := allN_at HA.out k (by have := HL.out.2; omega)
      have HST : Hid (wrt xs (ls.take (k + 1)) = (wrt xs (ls.take k)).set (ls.getD k wr0).p.toNat (ls.getD k wr0).d) := wrt_step xs ls k (by have := HL.out.2; omega)
      have HLZ : Hid ((wrt xs (ls.take k)).length = n) := by show _ = _; rw [wrt_len]; exact HL.out.1
      clear hc2 l2
      generalize (ls.getD k wr0).p = pz at *
      generalize (ls.getD k wr0).d = d at *
      generalize wrt xs (ls.take k) = zs at *
      obtain ⟨p, rfl⟩ : ∃ p : Nat, pz = p := ⟨pz.toNat, by omega⟩
      obtain ⟨_, hp⟩ := hin
      have hp' : p < n := by omega
      clear hp
      rw [Int.toNat_natCast] at HST
      have hN := Blk.new wr #[.int .i64 (p : Int), .int .u32 d] 62
      have hK := HK.out.alloc (.cells #[.int .i64 (p : Int), .int .u32 d] 62)
      have n0 := hN.cell 0
      have n1 := hN.cell 1
      have k0 := Blk.word hK p (by rw [HLZ.out]; exact hp')
      have k1 := hK.free p
      have HNX : Hid (Blk ((wr.alloc (.cells #[.int .i64 (p : Int), .int .u32 d] 62)).setCell ⟨g, p, none⟩ (.int .u32 d)) g (arr (wrt xs (ls.take (k + 1)))) 60) := by
        have h := hK.set p (.int .u32 d)
        rw [arr_set] at h
        rw [HST.out]; exact h
      have HBX : Hid (Below g w ((wr.alloc (.cells #[.int .i64 (p : Int), .int .u32 d] 62)).setCell ⟨g, p, none⟩ (.int .u32 d))) := by
        have h0 : g ≤ wr.heap.size := by have := HB.out.size; have h3 := HGG.out; omega
        exact bel_set (HB.out.alloc h0 _) g p _ (Nat.le_refl _)
      clear hN hK
      go_wp2_with fail
      go_roundw
      case rel => exact ⟨k + 1, by omega, by go_num, HNX.out, HBX.out⟩
      case measure => simp [intOf]; omega
    · obtain rfl : k = m := by omega
      have HX : Hid (RowU wr (some ⟨g, 0, none⟩) n (wrt xs ls)) := Blk.rowU (by have := HK.out; rw [List.take_of_length_le (by have := HL.out.2; omega)] at this; exact this) (by rw [wrt_len]; exact HL.out.1)
      go_wp2_with fail
      go_ret
      exact ⟨g, rfl, HX.out, by rw [HGG.out]; exact HB.out⟩

end Go.Proofs.YtgipkpkjoicehabDoor.cell

/- The first writes of a list, done. -/
namespace Go.Proofs.YtgipkpkjoicehabDoor.cell
open Go.RowKit
set_option maxRecDepth 100000
set_option linter.unusedVariables false

def fv (B : Nat) : Value := .func (.func 19) #[] #[.pointer (some ⟨B, 0, none⟩)]
theorem astray_any (B n cc : Nat) (ca : Option Addr) (e0 : Wr) (W : World) (hc : W.cell? ⟨B, 0, none⟩ = some (.slice ca n cc)) (hB : B < W.heap.size) (hn : n ≤ 2048) :
    Calls Tryd.prog 19 #[.agg #[.int .i64 e0.p, .int .u32 e0.d], .pointer (some ⟨B, 0, none⟩)] W fun e w' => e = .returned (.bool (!inN n e0)) ∧ Below W.heap.size W w' := by
  obtain ⟨p, d⟩ := e0
  have hc2 : (W.alloc (.cells #[.int .i64 p, .int .u32 d] 62)).cell? ⟨B, 0, none⟩ = some (.slice ca n cc) := by rw [World.cell?_alloc_lt W _ _ hB]; exact hc
  have HB : Hid (Below W.heap.size W (W.alloc (.cells #[.int .i64 p, .int .u32 d] 62))) := (Below.refl _ _).alloc (Nat.le_refl _) _
  clear hc hB
  by_cases h0 : p < 0
  · have e1 : (!inN n ⟨p, d⟩) = true := by simp [inN]; omega
    rw [e1]; clear e1
    go_enter Tryd.func19, Tryd.ntmps19
    go_wp2_with fail
    go_ret
    exact ⟨rfl, HB.out⟩
  · by_cases h1 : p < n
    · have e1 : (!inN n ⟨p, d⟩) = false := by simp [inN]; omega
      have h2 : decide ((n : Int) ≤ p) = false := by simp; omega
      rw [e1]; clear e1
      go_enter Tryd.func19, Tryd.ntmps19
      go_wp2_with fail
      go_ret
      exact ⟨rfl, HB.out⟩
    · have e1 : (!inN n ⟨p, d⟩) = true := by simp [inN]; omega
      have h2 : decide ((n : Int) ≤ p) = true := by simp; omega
      rw [e1]; clear e1
      go_enter Tryd.func19, Tryd.ntmps19
      go_wp2_with fail
      go_ret
      exact ⟨rfl, HB.out⟩

/-- Where the first write goes astray: nowhere, if all are fine. -/
def IxPost (w : World) (n : Nat) (ls : List Wr) (e : Ending) (w' : World) : Prop :=
  ∃ r : Int, e = .returned (.int .i64 r) ∧ (allN n ls = true ∧ r = -1 ∨ allN n ls = false ∧ 0 ≤ r) ∧ Below w.heap.size w w'
set_option maxHeartbeats 2000000 in
theorem index_any (B n cc m c2 : Nat) (ca b : Option Addr) (ls : List Wr) (w : World) (hc : w.cell? ⟨B, 0, none⟩ = some (.slice ca n cc)) (hn : n ≤ 2048) (hr : RowW w b m ls) (hm : m ≤ 4096) :
    Calls Tryd.prog 38 #[.slice b m c2, fv B] w fun e w' => IxPost w n ls e w' := by
  have hB := World.block_lt_of_cell? w _ hc
  have HC : Hid (∀ wr, Below w.heap.size w wr → ∀ e0 : Wr, Calls Tryd.prog 19 #[.agg #[.int .i64 e0.p, .int .u32 e0.d], .pointer (some ⟨B, 0, none⟩)] wr fun e w' => e = .returned (.bool (!inN n e0)) ∧ Below wr.heap.size wr w') := fun wr hb e0 =>
    astray_any B n cc ca e0 wr ((hb.cell (p := ⟨B, 0, none⟩) hB).trans hc) (Nat.lt_of_lt_of_le hB hb.size) hn
  have HR : Hid (RowW w b m ls) := hr
  have HL : Hid (ls.length = m) := hr.1
  clear hc hB hr
  unfold fv
  go_enter Tryd.func38, Tryd.ntmps38
  go_wp2_with fail
  go_loopw [8] (fun i wr => ∃ k : Nat, k ≤ m ∧ i = .int .i64 (k : Int) ∧ allN n (ls.take k) = true ∧ Below w.heap.size w wr) (fun i _ => m - (intOf i).toNat)
  case atStart => exact ⟨0, Nat.zero_le _, rfl, rfl, Below.refl _ _⟩
  case round =>
    obtain ⟨k, hk, rfl, hal, hb⟩ := hrel
    have HA : Hid (allN n (ls.take k) = true) := hal
    have HB : Hid (Below w.heap.size w wr) := hb
    clear hal hb
    by_cases hlt : k < m
    · obtain ⟨b2, o2, rfl, l2, hc2⟩ := HR.out.at (by omega)
      have f1 : wr.cell? ⟨b2, o2 + k * 2, none⟩ = some (.int .i64 (ls.getD k wr0).p) := (HB.out.cell (p := ⟨b2, o2 + k * 2, none⟩) l2).trans (hc2 k hlt).1
      have f2 : wr.cell? ⟨b2, o2 + k * 2 + 1, none⟩ = some (.int .u32 (ls.getD k wr0).d) := (HB.out.cell (p := ⟨b2, o2 + k * 2 + 1, none⟩) l2).trans (hc2 k hlt).2
      have hcall := HC.out wr HB.out (ls.getD k wr0)
      have HST : Hid (allN n (ls.take (k + 1)) = (allN n (ls.take k) && inN n (ls.getD k wr0))) := allN_step n ls k (by have := HL.out; omega)
      have HFL : Hid (inN n (ls.getD k wr0) = false → allN n ls = false) := fun h => allN_of_false (by have := HL.out; omega) h
      clear hc2 l2
      cases hi : inN n (ls.getD k wr0) with
      | true =>
        rw [hi] at hcall HST
        have HSA : Hid (allN n (ls.take (k + 1)) = true) := by show _ = _; rw [HST.out, HA.out]; rfl
        have HCL : Hid (Calls Tryd.prog 19 #[.agg #[.int .i64 (ls.getD k wr0).p, .int .u32 (ls.getD k wr0).d], .pointer (some ⟨B, 0, none⟩)] wr fun e w' => e = .returned (.bool false) ∧ Below wr.heap.size wr w') := hcall
        clear hcall HST HFL hi
        generalize (ls.getD k wr0).p = p at *
        generalize (ls.getD k wr0).d = d at *
        go_wp2_with fail
        refine HCL.out.mono ?_
        rintro e w' ⟨rfl, hb'⟩
        have HB' : Hid (Below w.heap.size w w') := bel_step HB.out hb'
        clear hb' f1 f2
        go_wp2_with fail
        go_roundw
        case rel => exact ⟨k + 1, by omega, by go_num, HSA.out, HB'.out⟩
        case measure => simp [intOf]; omega
      | false =>
        rw [hi] at hcall
        have HFA : Hid (allN n ls = false) := HFL.out hi
        have HCL : Hid (Calls Tryd.prog 19 #[.agg #[.int .i64 (ls.getD k wr0).p, .int .u32 (ls.getD k wr0).d], .pointer (some ⟨B, 0, none⟩)] wr fun e w' => e = .returned (.bool true) ∧ Below wr.heap.size wr w') := hcall
        clear hcall HST HFL hi
        generalize (ls.getD k wr0).p = p at *
        generalize (ls.getD k wr0).d = d at *
        go_wp2_with fail
        refine HCL.out.mono ?_
        rintro e w' ⟨rfl, hb'⟩
        have HB' : Hid (Below w.heap.size w w') := bel_step HB.out hb'
        clear hb' f1 f2
        go_wp2_with fail
        go_ret
        exact ⟨(k : Int), rfl, .inr ⟨HFA.out, by omega⟩, HB'.out⟩
    · obtain rfl : k = m := by omega
      have HFA : Hid (allN n ls = true) := by have := HA.out; rw [List.take_of_length_le (by have := HL.out; omega)] at this; exact this
      go_wp2_with fail
      go_ret
      exact ⟨-1, rfl, .inl ⟨HFA.out, rfl⟩, HB.out⟩

theorem contains_any (B n cc m c2 : Nat) (ca b : Option Addr) (ls : List Wr) (w : World) (hc : w.cell? ⟨B, 0, none⟩ = some (.slice ca n cc)) (hn : n ≤ 2048) (hr : RowW w b m ls) (hm : m ≤ 4096) :
    Calls Tryd.prog 20 #[.slice b m c2, fv B] w fun e w' => e = .returned (.bool (!allN n ls)) ∧ Below w.heap.size w w' := by
  have HI : Hid (Calls Tryd.prog 38 #[.slice b m c2, fv B] w fun e w' => IxPost w n ls e w') := index_any B n cc m c2 ca b ls w hc hn hr hm
  clear hc hr
  generalize fv B = V at *
  go_enter Tryd.func20, Tryd.ntmps20
  go_wp2_with fail
  refine HI.out.mono ?_
  rintro e w' ⟨r, rfl, hr, hb'⟩
  have HB' : Hid (Below w.heap.size w w') := hb'
  clear hb'
  rcases hr with ⟨ha, rfl⟩ | ⟨ha, hr⟩
  · have HA : Hid ((!allN n ls) = false) := by show _ = _; rw [ha]; rfl
    clear ha
    go_wp2_with fail
    go_ret
    exact ⟨by rw [HA.out]; rfl, HB'.out⟩
  · have HA : Hid ((!allN n ls) = true) := by show _ = _; rw [ha]; rfl
    clear ha
    have hd : decide ((0 : Int) ≤ r) = true := by simpa using hr
    go_wp2_with fail
    go_ret
    exact ⟨by rw [HA.out]; rfl, HB'.out⟩

end Go.Proofs.YtgipkpkjoicehabDoor.cell

/- cell.Apply: what it answers. -/
namespace Go.Proofs.YtgipkpkjoicehabDoor.cell
open Go.RowKit
set_option maxRecDepth 100000
set_option linter.unusedVariables false

set_option maxHeartbeats 2000000 in
theorem apply_cap (a b : Option Addr) (n m c1 c2 k : Nat) (xs : List Int) (ls : List Wr) (w : World) (h1 : RowU w a n xs) (h2 : RowW w b m ls) (hn : 1 ≤ n) (hn2 : n ≤ 2048) (hm : m ≤ 4096) (hc : m ≤ c2) (hall : allN n ls = true) (hk : k ≤ m) :
    Calls Tryd.prog 9 #[.slice a n c1, .slice b m c2, .int .i64 (k : Int)] w fun e w' => GaveC w (wrt xs (ls.take k)) 0 e w' := by
  have HM : Hid (∀ W, Calls Tryd.prog 18 #[.int .i64 (n : Int)] W fun e w' => e = .returned (.bool true) ∧ w' = W) := fun W => may_yes _ W (by omega) (by omega)
  have hW := Blk.new w #[.slice a n c1] 22
  have HB : Hid (Below w.heap.size w (w.alloc (.cells #[.slice a n c1] 22))) := (Below.refl _ _).alloc (Nat.le_refl _) _
  have hx := hW.cell 0
  have HX : Hid (∀ W', Below (w.alloc (.cells #[.slice a n c1] 22)).heap.size (w.alloc (.cells #[.slice a n c1] 22)) W' → W'.cell? ⟨w.heap.size, 0, none⟩ = some (.slice a n c1)) := fun W' hb => (hW.next hb).cell 0
  have HC : Hid (Calls Tryd.prog 20 #[.slice b m c2, fv w.heap.size] (w.alloc (.cells #[.slice a n c1] 22)) fun e w' => e = .returned (.bool false) ∧ Below (w.alloc (.cells #[.slice a n c1] 22)).heap.size (w.alloc (.cells #[.slice a n c1] 22)) w') := by
    have h := contains_any w.heap.size n c1 m c2 a b ls (w.alloc (.cells #[.slice a n c1] 22)) hx hn2 (h2.below HB.out) hm
    rw [hall] at h; exact h
  have HW : Hid (∀ W, Below w.heap.size w W → Calls Tryd.prog 21 #[.slice a n c1, .slice b k k] W fun e w' => ∃ g, e = .returned (.slice (some ⟨g, 0, none⟩) n n) ∧ RowU w' (some ⟨g, 0, none⟩) n (wrt xs (ls.take k)) ∧ Below W.heap.size W w') := fun W hb =>
    written_any a b n k c1 k xs (ls.take k) W (h1.below hb) ((h2.below hb).cut hk) hn hn2 (by omega) (allN_take hall k)
  clear h1 h2 hall hW
  unfold fv at HC
  generalize wrt xs (ls.take k) = zs at *
  go_enter Tryd.func9, Tryd.ntmps9
  go_wp2_with fail
  refine (HM.out _).mono ?_
  rintro e w1 ⟨rfl, rfl⟩
  go_wp2_with fail
  refine HC.out.mono ?_
  rintro e w2 ⟨rfl, hb2⟩
  have hx2 := HX.out _ hb2
  have HB2 : Hid (Below w.heap.size w w2) := bel_step HB.out hb2
  have HWD : Hid (Calls Tryd.prog 21 #[.slice a n c1, .slice b k k] w2.drew fun e w' => ∃ g, e = .returned (.slice (some ⟨g, 0, none⟩) n n) ∧ RowU w' (some ⟨g, 0, none⟩) n zs ∧ Below w2.heap.size w2.drew w') := HW.out _ HB2.out.drew
  have KS : Hid (w2.drew.cell? ⟨w.heap.size, 0, none⟩ = some (.slice a n c1)) := hx2
  have hGl : w.heap.size < w2.drew.heap.size := World.block_lt_of_cell? w2 _ hx2
  have HGL : Hid (w.heap.size < w2.heap.size) := hGl
  clear hb2 hx HC HM HX HW hGl
  have hkc : k ≤ c2 := by omega
  cases b with
  | none =>
    go_wp2_with fail
    go_region_held (fun v => v.cell? ⟨w.heap.size, 0, none⟩ = some (.slice a n c1))
      (first | with_reducible exact KS.out | with_reducible exact K1.out)
      (first
        | (go_at_call 21; with_reducible refine HWD.out.mono ?_; rintro e w3 ⟨g, rfl, hr3, hb3⟩
           have K1 : Hid (w3.cell? ⟨w.heap.size, 0, none⟩ = some (.slice a n c1)) := (hb3.cell (p := ⟨w.heap.size, 0, none⟩) HGL.out).trans hx2
           have HF : Hid (RowU w3 (some ⟨g, 0, none⟩) n zs ∧ Below w.heap.size w w3) := ⟨hr3, bel_step HB2.out.drew hb3⟩
           clear hr3 hb3))
    all_goals go_wp2_with fail
    all_goals
      go_ret2
      exact GaveC.mk HF.out.1 (fun h => by cases h) (Nat.le_refl _) HF.out.2
  | some y =>
    go_wp2_with fail
    go_region_held (fun v => v.cell? ⟨w.heap.size, 0, none⟩ = some (.slice a n c1))
      (first | with_reducible exact KS.out | with_reducible exact K1.out)
      (first
        | (go_at_call 21; with_reducible refine HWD.out.mono ?_; rintro e w3 ⟨g, rfl, hr3, hb3⟩
           have K1 : Hid (w3.cell? ⟨w.heap.size, 0, none⟩ = some (.slice a n c1)) := (hb3.cell (p := ⟨w.heap.size, 0, none⟩) HGL.out).trans hx2
           have HF : Hid (RowU w3 (some ⟨g, 0, none⟩) n zs ∧ Below w.heap.size w w3) := ⟨hr3, bel_step HB2.out.drew hb3⟩
           clear hr3 hb3))
    all_goals go_wp2_with fail
    all_goals
      go_ret2
      exact GaveC.mk HF.out.1 (fun h => by cases h) (Nat.le_refl _) HF.out.2

theorem apply_yes (a b : Option Addr) (n m c1 c2 k : Nat) (xs : List Int) (ls : List Wr) (w : World) (h1 : RowU w a n xs) (h2 : RowW w b m ls) (hn : 1 ≤ n) (hn2 : n ≤ 2048) (hm : m ≤ 4096) (hc : m ≤ c2) (hall : allN n ls = true) (hk : k ≤ m) :
    Calls Tryd.prog 9 #[.slice a n c1, .slice b m c2, .int .i64 (k : Int)] w fun e w' => GaveR w (wrt xs (ls.take k)) 0 e w' :=
  (apply_cap a b n m c1 c2 k xs ls w h1 h2 hn hn2 hm hc hall hk).mono fun _ _ h => h.gave

set_option maxHeartbeats 2000000 in
theorem apply_size (a b : Option Addr) (n m c1 c2 : Nat) (k : Int) (w : World) (h : n = 0 ∨ 2048 < n ∨ 4096 < m) :
    Calls Tryd.prog 9 #[.slice a n c1, .slice b m c2, .int .i64 k] w fun e w' => GaveR w [] 1 e w' := by
  have hx := (Blk.new w #[.slice a n c1] 22).cell 0
  have HB : Hid (Below w.heap.size w (w.alloc (.cells #[.slice a n c1] 22))) := (Below.refl _ _).alloc (Nat.le_refl _) _
  by_cases h0 : n = 0 ∨ 2048 < n
  · have HM : Hid (∀ W, Calls Tryd.prog 18 #[.int .i64 (n : Int)] W fun e w' => e = .returned (.bool false) ∧ w' = W) := fun W => may_no _ W (by omega)
    clear h h0
    go_enter Tryd.func9, Tryd.ntmps9
    go_wp2_with fail
    refine (HM.out _).mono ?_
    rintro e w1 ⟨rfl, rfl⟩
    go_wp2_with fail
    go_ret2
    exact ⟨none, 0, rfl, RowU.nil _ _, fun _ => rfl, HB.out⟩
  · have HM : Hid (∀ W, Calls Tryd.prog 18 #[.int .i64 (n : Int)] W fun e w' => e = .returned (.bool true) ∧ w' = W) := fun W => may_yes _ W (by omega) (by omega)
    have h4 : decide ((4096 : Int) < (m : Int)) = true := by simp; omega
    clear h h0
    go_enter Tryd.func9, Tryd.ntmps9
    go_wp2_with fail
    refine (HM.out _).mono ?_
    rintro e w1 ⟨rfl, rfl⟩
    go_wp2_with fail
    go_ret2
    exact ⟨none, 0, rfl, RowU.nil _ _, fun _ => rfl, HB.out⟩

set_option maxHeartbeats 2000000 in
theorem apply_range (a b : Option Addr) (n m c1 c2 : Nat) (k : Int) (ls : List Wr) (w : World) (h2 : RowW w b m ls) (hn : 1 ≤ n) (hn2 : n ≤ 2048) (hm : m ≤ 4096) (hor : allN n ls = false ∨ k < 0 ∨ m < k) :
    Calls Tryd.prog 9 #[.slice a n c1, .slice b m c2, .int .i64 k] w fun e w' => GaveR w [] 2 e w' := by
  have HM : Hid (∀ W, Calls Tryd.prog 18 #[.int .i64 (n : Int)] W fun e w' => e = .returned (.bool true) ∧ w' = W) := fun W => may_yes _ W (by omega) (by omega)
  have hW := Blk.new w #[.slice a n c1] 22
  have HB : Hid (Below w.heap.size w (w.alloc (.cells #[.slice a n c1] 22))) := (Below.refl _ _).alloc (Nat.le_refl _) _
  have hx := hW.cell 0
  have h := contains_any w.heap.size n c1 m c2 a b ls (w.alloc (.cells #[.slice a n c1] 22)) hx hn2 (h2.below HB.out) hm
  unfold fv at h
  have h4 : decide ((4096 : Int) < (m : Int)) = false := by simp; omega
  clear h2 hW
  cases ha : allN n ls with
  | false =>
    rw [ha] at h
    have HC : Hid (Calls Tryd.prog 20 #[.slice b m c2, .func (.func 19) #[] #[.pointer (some ⟨w.heap.size, 0, none⟩)]] (w.alloc (.cells #[.slice a n c1] 22)) fun e w' => e = .returned (.bool true) ∧ Below (w.alloc (.cells #[.slice a n c1] 22)).heap.size (w.alloc (.cells #[.slice a n c1] 22)) w') := h
    clear h ha
    clear hor
    go_enter Tryd.func9, Tryd.ntmps9
    go_wp2_with fail
    refine (HM.out _).mono ?_
    rintro e w1 ⟨rfl, rfl⟩
    go_wp2_with fail
    refine HC.out.mono ?_
    rintro e w2 ⟨rfl, hb2⟩
    have HB2 : Hid (Below w.heap.size w w2) := bel_step HB.out hb2
    clear hb2 hx HC HM
    go_wp2_with fail
    go_ret2
    exact ⟨none, 0, rfl, RowU.nil _ _, fun _ => rfl, HB2.out⟩
  | true =>
    rw [ha] at h
    have HC : Hid (Calls Tryd.prog 20 #[.slice b m c2, .func (.func 19) #[] #[.pointer (some ⟨w.heap.size, 0, none⟩)]] (w.alloc (.cells #[.slice a n c1] 22)) fun e w' => e = .returned (.bool false) ∧ Below (w.alloc (.cells #[.slice a n c1] 22)).heap.size (w.alloc (.cells #[.slice a n c1] 22)) w') := h
    clear h
    rw [ha] at hor
    clear ha
    by_cases h0 : k < 0
    · clear hor
      go_enter Tryd.func9, Tryd.ntmps9
      go_wp2_with fail
      refine (HM.out _).mono ?_
      rintro e w1 ⟨rfl, rfl⟩
      go_wp2_with fail
      refine HC.out.mono ?_
      rintro e w2 ⟨rfl, hb2⟩
      have HB2 : Hid (Below w.heap.size w w2) := bel_step HB.out hb2
      clear hb2 hx HC HM
      go_wp2_with fail
      go_ret2
      exact ⟨none, 0, rfl, RowU.nil _ _, fun _ => rfl, HB2.out⟩
    · have h5 : decide ((m : Int) < k) = true := by rcases hor with h | h | h; cases h; omega; simpa using h
      have h6 : decide (k < 0) = false := by simpa using h0
      clear hor
      go_enter Tryd.func9, Tryd.ntmps9
      go_wp2_with fail
      refine (HM.out _).mono ?_
      rintro e w1 ⟨rfl, rfl⟩
      go_wp2_with fail
      refine HC.out.mono ?_
      rintro e w2 ⟨rfl, hb2⟩
      have HB2 : Hid (Below w.heap.size w w2) := bel_step HB.out hb2
      clear hb2 hx HC HM
      go_wp2_with fail
      go_ret2
      exact ⟨none, 0, rfl, RowU.nil _ _, fun _ => rfl, HB2.out⟩

end Go.Proofs.YtgipkpkjoicehabDoor.cell

/- Slots that hold a meter: what booting, keying and writing do to them. -/
namespace Go.Proofs.YtgipkpkjoicehabDoor.pkt
open Go.RowKit Go.Proofs.YtgipkpkjoicehabDoor.met Go.Proofs.YtgipkpkjoicehabDoor.slot Go.Proofs.YtgipkpkjoicehabDoor.cell Go.Proofs.YtgipkpkjoicehabDoor.ora Go.Proofs.YtgipkpkjoicehabDoor.token
set_option maxRecDepth 100000
set_option linter.unusedVariables false

/-- Slots in memory that hold a meter. -/
structure Hm (w : World) (a : Option Addr) (cap : Nat) (xs : List Int) (m : Mt) : Prop where
  sg : Sg w a 12 cap xs
  holds : Holds xs 5 (wds m)
  mw : Mw m
theorem Hm.below {w w' : World} {a : Option Addr} {cap : Nat} {xs : List Int} {m : Mt} (h : Hm w a cap xs m) (hb : Below w.heap.size w w') : Hm w' a cap xs m := ⟨h.sg.below hb, h.holds, h.mw⟩
theorem Hm.boot {w : World} {a : Option Addr} {cap : Nat} {xs : List Int} {m : Mt} (h : Hm w a cap xs m) : BootIs xs m 0 := boot_holds h.holds h.mw.may
theorem hboot (a : Option Addr) (cap : Nat) (xs : List Int) (m : Mt) (w : World) (h : Hm w a cap xs m) :
    Calls Tryd.prog 7 #[.slice a 12 cap] w fun e w' => e = .returned (.tuple #[m.v, .int .i64 0]) ∧ Below w.heap.size w w' := by
  refine (pboot a 12 cap xs w h.sg.row h.sg.le (holds_word h.holds h.mw)).mono ?_
  rintro e w' ⟨m', f, rfl, hi, hb⟩
  obtain ⟨rfl, rfl⟩ := hi.one h.boot
  exact ⟨rfl, hb⟩
/-- A store elsewhere leaves the slots. -/
theorem Hm.upd {w W : World} {a : Option Addr} {cap : Nat} {xs : List Int} {m : Mt} {g : Nat} {cs cs0 : Array Value} {t t0 : TypeId} (h : Hm w a cap xs m) (hu : Upd w W g cs t) (hB : Blk w g cs0 t0) (hno : ∀ (i : Nat) (z : Int), cs0[i]? ≠ some (Value.int .u32 z)) : Hm W a cap xs m := by
  refine ⟨⟨?_, h.sg.nil, h.sg.le⟩, h.holds, h.mw⟩
  obtain ⟨b, o, rfl, hlt, hc⟩ := h.sg.row.at (by decide)
  have hbg : b ≠ g := fun e => by
    subst e
    have h0 := hc 0 (by decide)
    rw [hB.cell] at h0
    exact hno _ _ h0
  exact ⟨h.sg.row.1, .inr ⟨b, o, rfl, fun i hi => (hu.cell ⟨b, _, none⟩ hbg rfl).trans (hc i hi)⟩⟩
theorem no_slice (a : Option Addr) (n c : Nat) : ∀ (i : Nat) (z : Int), (#[.slice a n c] : Array Value)[i]? ≠ some (.int .u32 z) := by
  intro i z h
  rcases i with _ | i <;> simp at h
theorem no_four (a b c d : Int) : ∀ (i : Nat) (z : Int), (#[.int .i64 a, .int .i64 b, .int .i64 c, .int .i64 d] : Array Value)[i]? ≠ some (.int .u32 z) := by
  intro i z h
  rcases i with _ | _ | _ | _ | i <;> simp at h
/-- Keying gave writes, units and an answer. -/
def HKeyed (w : World) (xs : List Int) (m : Mt) (l : List Pr) (c i a t : Int) (e : Ending) (w' : World) : Prop :=
  ∃ b n cap ls x f m', e = .returned (.tuple #[.slice b n cap, .int .i64 x, .int .i64 f]) ∧ Wg w' b n cap ls ∧ KeyIs m l c i a t (bodyI c i a) m' x f ∧ WrIs xs m m' ls ∧ Below w.heap.size w w'
theorem hkeyed (a : Option Addr) (cap : Nat) (xs : List Int) (m : Mt) (ao : Option Addr) (no co : Nat) (l : List Pr) (k : Tok) (hk : k.ok) (w : World) (ht : TTab w) (h : Hm w a cap xs m) (hp : RowP w ao no l) (hl : May l) :
    Calls Tryd.prog 11 #[.slice a 12 cap, .agg #[.slice ao no co], .string (fmtB (97 * k.num))] w fun e w' => HKeyed w xs m l k.c k.i k.a k.t e w' := by
  refine (pkeyed a 12 cap xs ao no co l (fmtB (97 * k.num)) w ht h.sg.row h.sg.le (holds_word h.holds h.mw) hp).mono ?_
  rintro e w' ⟨b, n, c, ls, x, f, rfl, hg, hi, hb⟩
  rw [fmtB_list] at hi
  obtain ⟨m', h1, h2⟩ := hi.sold hk h.boot h.mw.may hl
  exact ⟨b, n, c, ls, x, f, m', rfl, hg, h1, h2, hb⟩
/-- The first k of a step's writes. -/
theorem happly (a : Option Addr) (cap : Nat) (xs : List Int) (m m' : Mt) (b : Option Addr) (n c k : Nat) (ls : List Wr) (w : World) (h : Hm w a cap xs m) (hw : Wg w b n c ls) (hi : WrIs xs m m' ls) (hm : Mw m') (hk : k ≤ n) :
    Calls Tryd.prog 9 #[.slice a 12 cap, .slice b n c, .int .i64 (k : Int)] w fun e w' => ∃ a' cap' xs', e = .returned (.tuple #[.slice a' 12 cap', .int .i64 0]) ∧ (k = n → Hm w' a' cap' xs' m') ∧ (k < n → Hm w' a' cap' xs' m) ∧ Below w.heap.size w w' := by
  refine (apply_cap a b 12 n cap c k xs ls w h.sg.row hw.row (by decide) (by decide) (by have := hw.few; omega) hw.le (wr_in hi) hk).mono ?_
  rintro e w' ⟨a', cap', rfl, hr, hn, hc, hb⟩
  have hln := hw.row.1
  have hl : (wrt xs (ls.take k)).length = 12 := by rw [wrt_len]; exact h.sg.row.1
  rw [hl] at hr hc ⊢
  refine ⟨a', cap', wrt xs (ls.take k), rfl, fun e => ?_, fun e => ?_, hb⟩
  · refine ⟨⟨hr, hn, hc⟩, ?_, hm⟩
    rw [List.take_of_length_le (by omega)]
    exact wr_all hi h.holds
  · exact ⟨⟨hr, hn, hc⟩, wr_cut hi h.holds (by omega), h.mw⟩

end Go.Proofs.YtgipkpkjoicehabDoor.pkt

/- A pocket at which tokens were sold and keyed: what lies in memory meanwhile. -/
namespace Go.Proofs.YtgipkpkjoicehabDoor.pkt
open Go.RowKit Go.Proofs.YtgipkpkjoicehabDoor.met Go.Proofs.YtgipkpkjoicehabDoor.slot Go.Proofs.YtgipkpkjoicehabDoor.cell Go.Proofs.YtgipkpkjoicehabDoor.ora Go.Proofs.YtgipkpkjoicehabDoor.token
set_option maxRecDepth 100000
set_option linter.unusedVariables false

/-- A token that was sold just now. -/
structure SoldIs (m : Mt) (l : List Pr) (k : Tok) (ls : List Pr) (t : Nat) : Prop where
  is : IssueIs l m.me m.rev (k.body : Int) (k.t : Int) ls (t : Int) 0
  may : May ls
  len : ls.length ≤ l.length + 1
  ok : (⟨k.c, k.i, k.a, t⟩ : Tok).ok
  here : Here ls m.me m.rev (bodyI k.c k.i k.a) (t : Int)
/-- The boxes, the slots and the oracle. -/
structure Pa (w wr : World) (a : Option Addr) (c : Nat) (xs : List Int) (m : Mt) (ao : Option Addr) (no co : Nat) (l : List Pr) : Prop where
  bel : Below w.heap.size w wr
  res : Blk wr w.heap.size #[.slice none 0 0] 25
  o : Blk wr (w.heap.size + 1) #[.slice ao no co] 25
  hm : Hm wr a c xs m
  came : Came wr ao no co l
  alive : Alive wr ao
  far : ∀ y, ao = some y → w.heap.size + 2 ≤ y.block
theorem Pa.next {w wr w' : World} {a : Option Addr} {c : Nat} {xs : List Int} {m : Mt} {ao : Option Addr} {no co : Nat} {l : List Pr} (h : Pa w wr a c xs m ao no co l) (hb : Below wr.heap.size wr w') : Pa w w' a c xs m ao no co l :=
  ⟨bel_step h.bel hb, h.res.next hb, h.o.next hb, h.hm.below hb, h.came.below hb, h.alive.below hb, h.far⟩
theorem Pa.alloc {w wr : World} {a : Option Addr} {c : Nat} {xs : List Int} {m : Mt} {ao : Option Addr} {no co : Nat} {l : List Pr} (h : Pa w wr a c xs m ao no co l) (o : Obj) : Pa w (wr.alloc o) a c xs m ao no co l := h.next ((Below.refl _ _).alloc (Nat.le_refl _) _)
theorem Pa.drew {w wr : World} {a : Option Addr} {c : Nat} {xs : List Int} {m : Mt} {ao : Option Addr} {no co : Nat} {l : List Pr} (h : Pa w wr a c xs m ao no co l) : Pa w wr.drew a c xs m ao no co l := h.next (Below.refl _ _).drew
theorem Pa.size {w wr : World} {a : Option Addr} {c : Nat} {xs : List Int} {m : Mt} {ao : Option Addr} {no co : Nat} {l : List Pr} (h : Pa w wr a c xs m ao no co l) : w.heap.size + 2 ≤ wr.heap.size := h.o.lt
/-- A store into a box that is new. -/
theorem Pa.upd {w wr W : World} {a : Option Addr} {c : Nat} {xs : List Int} {m : Mt} {ao : Option Addr} {no co : Nat} {l : List Pr} {g : Nat} {cs cs0 : Array Value} {t t0 : TypeId} (h : Pa w wr a c xs m ao no co l) (hu : Upd wr W g cs t) (hB : Blk wr g cs0 t0) (hno : ∀ (i : Nat) (z : Int), cs0[i]? ≠ some (Value.int .u32 z)) (hg : w.heap.size + 2 ≤ g) (hne : ∀ y, ao = some y → y.block ≠ g) : Pa w W a c xs m ao no co l :=
  ⟨hu.bel _ _ (by omega) h.bel, hu.keep h.res (by omega), hu.keep h.o (by omega), h.hm.upd hu hB hno, upd_came hu h.came hne, fun y hy => by rw [hu.size]; exact h.alive y hy, h.far⟩
/-- The other oracle is put into the box. -/
theorem Pa.setO {w wr W : World} {a : Option Addr} {c : Nat} {xs : List Int} {m : Mt} {ao : Option Addr} {no co : Nat} {l : List Pr} {a' : Option Addr} {n' co' : Nat} {ls : List Pr} (h : Pa w wr a c xs m ao no co l) (hu : Upd wr W (w.heap.size + 1) #[.slice a' n' co'] 25) (hc : Came wr a' n' co' ls) (hal : Alive wr a') (hf : ∀ y, a' = some y → w.heap.size + 2 ≤ y.block) : Pa w W a c xs m a' n' co' ls :=
  ⟨hu.bel _ _ (by omega) h.bel, hu.keep h.res (by omega), hu.blk, h.hm.upd hu h.o (no_slice _ _ _), upd_came hu hc (fun y hy e => by have := hf y hy; omega), (fun y hy => by rw [hu.size]; exact hal y hy), hf⟩
theorem Pa.slots {w wr : World} {a : Option Addr} {c : Nat} {xs : List Int} {m : Mt} {ao : Option Addr} {no co : Nat} {l : List Pr} (h : Pa w wr a c xs m ao no co l) {a' : Option Addr} {c' : Nat} {xs' : List Int} {m' : Mt} (hm : Hm wr a' c' xs' m') : Pa w wr a' c' xs' m' ao no co l := ⟨h.bel, h.res, h.o, hm, h.came, h.alive, h.far⟩
/-- Where an oracle lies that came of another: not in a box that was there. -/
theorem near_far {w W : World} {ao a' : Option Addr} (h : Near W ao a') (hw : w.heap.size + 2 ≤ W.heap.size) (hf : ∀ y, ao = some y → w.heap.size + 2 ≤ y.block) : ∀ y, a' = some y → w.heap.size + 2 ≤ y.block := by
  intro y hy
  rcases h y hy with h1 | ⟨z, hz, e⟩
  · omega
  · have := hf z hz; omega
theorem near_ne {W : World} {ao a' : Option Addr} {g : Nat} (h : Near W ao a') (hg : g < W.heap.size) (hne : ∀ y, ao = some y → y.block ≠ g) : ∀ y, a' = some y → y.block ≠ g := by
  intro y hy
  rcases h y hy with h1 | ⟨z, hz, e⟩
  · omega
  · have := hne z hz; omega
theorem alive_ne {W : World} {a : Option Addr} (h : Alive W a) : ∀ y, a = some y → y.block ≠ W.heap.size := fun y hy e => by have := h y hy; omega

end Go.Proofs.YtgipkpkjoicehabDoor.pkt

/- A pocket at which tokens were sold and keyed. -/
namespace Go.Proofs.YtgipkpkjoicehabDoor.pkt
open Go.RowKit Go.Proofs.YtgipkpkjoicehabDoor.met Go.Proofs.YtgipkpkjoicehabDoor.slot Go.Proofs.YtgipkpkjoicehabDoor.cell Go.Proofs.YtgipkpkjoicehabDoor.ora Go.Proofs.YtgipkpkjoicehabDoor.token
set_option maxRecDepth 100000
set_option linter.unusedVariables false
set_option linter.unusedSimpArgs false

/-- What the sale reads: the oracle's box, the meter's, and the raw token. -/
structure Sr (go gm bl o : Nat) (sl : Value) (mc : Array Value) (q0 q1 q2 q3 : Int) (v : World) : Prop where
  bo : Blk v go #[sl] 25
  bm : Blk v gm mc 36
  r0 : v.cell? ⟨bl, o, none⟩ = some (.int .i64 q0)
  r1 : v.cell? ⟨bl, o + 1, none⟩ = some (.int .i64 q1)
  r2 : v.cell? ⟨bl, o + 2, none⟩ = some (.int .i64 q2)
  r3 : v.cell? ⟨bl, o + 3, none⟩ = some (.int .i64 q3)
theorem Sr.next {go gm bl o : Nat} {sl : Value} {mc : Array Value} {q0 q1 q2 q3 : Int} {v v' : World} (h : Sr go gm bl o sl mc q0 q1 q2 q3 v) (hb : Below v.heap.size v v') : Sr go gm bl o sl mc q0 q1 q2 q3 v' := by
  have hlt := World.block_lt_of_cell? v _ h.r0
  exact ⟨h.bo.next hb, h.bm.next hb, (hb.cell (p := ⟨bl, o, none⟩) hlt).trans h.r0, (hb.cell (p := ⟨bl, o + 1, none⟩) hlt).trans h.r1, (hb.cell (p := ⟨bl, o + 2, none⟩) hlt).trans h.r2, (hb.cell (p := ⟨bl, o + 3, none⟩) hlt).trans h.r3⟩
theorem Sr.alloc {go gm bl o : Nat} {sl : Value} {mc : Array Value} {q0 q1 q2 q3 : Int} {v : World} (h : Sr go gm bl o sl mc q0 q1 q2 q3 v) (x : Obj) : Sr go gm bl o sl mc q0 q1 q2 q3 (v.alloc x) := h.next ((Below.refl _ _).alloc (Nat.le_refl _) _)
theorem Sr.upd {go gm bl o : Nat} {sl : Value} {mc : Array Value} {q0 q1 q2 q3 : Int} {v v' : World} {g : Nat} {cs : Array Value} {ty : TypeId} (h : Sr go gm bl o sl mc q0 q1 q2 q3 v) (hu : Upd v v' g cs ty) (h1 : go ≠ g) (h2 : gm ≠ g) (h3 : bl ≠ g) : Sr go gm bl o sl mc q0 q1 q2 q3 v' :=
  ⟨hu.keep h.bo h1, hu.keep h.bm h2, (hu.cell ⟨bl, o, none⟩ h3 rfl).trans h.r0, (hu.cell ⟨bl, o + 1, none⟩ h3 rfl).trans h.r1, (hu.cell ⟨bl, o + 2, none⟩ h3 rfl).trans h.r2, (hu.cell ⟨bl, o + 3, none⟩ h3 rfl).trans h.r3⟩
/-- A box that is new: none of the others, and the oracle does not lie in it. -/
structure Nw (w : World) (gm bl : Nat) (ao : Option Addr) (g : Nat) : Prop where
  low : w.heap.size + 2 ≤ g
  m : gm ≠ g
  b : bl ≠ g
  ne : ∀ y, ao = some y → y.block ≠ g
/-- What so many tokens, sold and keyed, come to. -/
structure AtIs (me : Int) (K : Nat → Tok) (n : Nat) (m : Mt) (l : List Pr) : Prop where
  run : Run me K n m l
  me : m.me = me
  may : May l
  len : l.length ≤ n
theorem AtIs.step {me : Int} {K : Nat → Tok} {n : Nat} {m m' : Mt} {l ls : List Pr} {t : Nat} {x f : Int} (h : AtIs me K n m l) (hm : Mw m) (hs : SoldIs m l (K n) ls t) (hk : KeyIs m ls (K n).c (K n).i (K n).a t (bodyI (K n).c (K n).i (K n).a) m' x f) : AtIs me K (n + 1) m' ls :=
  ⟨⟨m, l, h.run, t, x, f, hs.is, hk⟩, (key_me hk hm.may hs.may).trans h.me, hs.may, Nat.le_trans hs.len (Nat.succ_le_succ h.len)⟩
theorem AtIs.mw {m m' : Mt} {l ls : List Pr} {k : Tok} {t : Nat} {x f : Int} (hm : Mw m) (hs : SoldIs m l k ls t) (hk : KeyIs m ls k.c k.i k.a t (bodyI k.c k.i k.a) m' x f) : Mw m' := key_mw (k := ⟨k.c, k.i, k.a, t⟩) hk hm hs.may hs.ok
set_option maxHeartbeats 8000000 in
theorem at_abs (me : Int) (a0 : Option Addr) (len0 cap0 : Nat) (zs : List Pr) (K : Nat → Tok) (w : World) (hrw : RowA w a0 len0 zs)
    (hmk : ∀ W, Calls Tryd.prog 10 #[.int .i64 me] W fun e w' => ∃ a c xs, e = .returned (.tuple #[.slice a 12 c, .int .i64 0]) ∧ Hm w' a c xs (mtNew me) ∧ Below W.heap.size W w')
    (hbt : ∀ W a c xs m, Hm W a c xs m → Calls Tryd.prog 7 #[.slice a 12 c] W fun e w' => e = .returned (.tuple #[m.v, .int .i64 0]) ∧ Below W.heap.size W w')
    (hso : ∀ k, k < len0 → k < 12 → ∀ W ao no co l m, Below w.heap.size w W → Came W ao no co l → Alive W ao → May l → l.length ≤ k → Mw m → Calls Tryd.prog 12 #[.agg #[.slice ao no co], m.v, .agg #[.int .i64 (zs.getD k pr0).m, .int .i64 (zs.getD k pr0).r, .int .i64 (zs.getD k pr0).b, .int .i64 (zs.getD k pr0).t]] W fun e w' => ∃ a' n' co' ls, ∃ t : Nat, e = .returned (.tuple #[.agg #[.slice a' n' co'], .agg #[.int .i64 ((K k).c : Int), .int .i64 ((K k).i : Int), .int .i64 ((K k).a : Int), .int .i64 (t : Int)], .bool true]) ∧ Came w' a' n' co' ls ∧ Alive w' a' ∧ Near W ao a' ∧ SoldIs m l (K k) ls t ∧ Below W.heap.size W w')
    (hfm : ∀ W (k : Tok), k.ok → Below w.heap.size w W → Calls Tryd.prog 13 #[.agg #[.int .i64 (k.c : Int), .int .i64 (k.i : Int), .int .i64 (k.a : Int), .int .i64 (k.t : Int)]] W fun e w' => e = .returned (.tuple #[.string (fmtB (97 * k.num)), .int .i64 0]) ∧ Below W.heap.size W w')
    (hkd : ∀ W a c xs m ao no co l (k : Tok), k.ok → Below w.heap.size w W → Hm W a c xs m → Came W ao no co l → May l → Calls Tryd.prog 11 #[.slice a 12 c, .agg #[.slice ao no co], .string (fmtB (97 * k.num))] W fun e w' => HKeyed W xs m l k.c k.i k.a k.t e w')
    (hap : ∀ W a c xs m m' b d ls, Hm W a c xs m → Wg W b 7 d ls → WrIs xs m m' ls → Mw m' → Calls Tryd.prog 9 #[.slice a 12 c, .slice b 7 d, .int .i64 7] W fun e w' => ∃ a' c' xs', e = .returned (.tuple #[.slice a' 12 c', .int .i64 0]) ∧ Hm w' a' c' xs' m' ∧ Below W.heap.size W w')
    : Calls Tryd.prog 5 #[.int .i64 me, .slice a0 len0 cap0] w fun e w' => ∃ a c xs m ao no co l, e = .returned (.tuple #[.slice a 12 c, .agg #[.slice ao no co], .bool true]) ∧ Hm w' a c xs m ∧ Came w' ao no co l ∧ Alive w' ao ∧ (∀ y, ao = some y → w.heap.size ≤ y.block) ∧ AtIs me K (min len0 12) m l ∧ Below w.heap.size w w' := by
  have HMK : Hid (∀ W, Calls Tryd.prog 10 #[.int .i64 me] W fun e w' => ∃ a c xs, e = .returned (.tuple #[.slice a 12 c, .int .i64 0]) ∧ Hm w' a c xs (mtNew me) ∧ Below W.heap.size W w') := hmk
  have HBT : Hid (∀ W a c xs m, Hm W a c xs m → Calls Tryd.prog 7 #[.slice a 12 c] W fun e w' => e = .returned (.tuple #[m.v, .int .i64 0]) ∧ Below W.heap.size W w') := hbt
  have HSO : Hid (∀ k, k < len0 → k < 12 → ∀ W ao no co l m, Below w.heap.size w W → Came W ao no co l → Alive W ao → May l → l.length ≤ k → Mw m → Calls Tryd.prog 12 #[.agg #[.slice ao no co], m.v, .agg #[.int .i64 (zs.getD k pr0).m, .int .i64 (zs.getD k pr0).r, .int .i64 (zs.getD k pr0).b, .int .i64 (zs.getD k pr0).t]] W fun e w' => ∃ a' n' co' ls, ∃ t : Nat, e = .returned (.tuple #[.agg #[.slice a' n' co'], .agg #[.int .i64 ((K k).c : Int), .int .i64 ((K k).i : Int), .int .i64 ((K k).a : Int), .int .i64 (t : Int)], .bool true]) ∧ Came w' a' n' co' ls ∧ Alive w' a' ∧ Near W ao a' ∧ SoldIs m l (K k) ls t ∧ Below W.heap.size W w') := hso
  have HFM : Hid (∀ W (k : Tok), k.ok → Below w.heap.size w W → Calls Tryd.prog 13 #[.agg #[.int .i64 (k.c : Int), .int .i64 (k.i : Int), .int .i64 (k.a : Int), .int .i64 (k.t : Int)]] W fun e w' => e = .returned (.tuple #[.string (fmtB (97 * k.num)), .int .i64 0]) ∧ Below W.heap.size W w') := hfm
  have HKD : Hid (∀ W a c xs m ao no co l (k : Tok), k.ok → Below w.heap.size w W → Hm W a c xs m → Came W ao no co l → May l → Calls Tryd.prog 11 #[.slice a 12 c, .agg #[.slice ao no co], .string (fmtB (97 * k.num))] W fun e w' => HKeyed W xs m l k.c k.i k.a k.t e w') := hkd
  have HAP : Hid (∀ W a c xs m m' b d ls, Hm W a c xs m → Wg W b 7 d ls → WrIs xs m m' ls → Mw m' → Calls Tryd.prog 9 #[.slice a 12 c, .slice b 7 d, .int .i64 7] W fun e w' => ∃ a' c' xs', e = .returned (.tuple #[.slice a' 12 c', .int .i64 0]) ∧ Hm w' a' c' xs' m' ∧ Below W.heap.size W w') := hap
  have HRW : Hid (RowA w a0 len0 zs) := hrw
  clear hrw hmk hbt hso hfm hkd hap
  have HR0 : Hid (Blk ((w.alloc (.cells #[.slice none 0 0] 25)).alloc (.cells #[.slice none 0 0] 25)) w.heap.size #[.slice none 0 0] 25) := (Blk.new _ _ _).alloc _
  have HO0 : Hid (Blk ((w.alloc (.cells #[.slice none 0 0] 25)).alloc (.cells #[.slice none 0 0] 25)) (w.heap.size + 1) #[.slice none 0 0] 25) := Blk.new1 w _ _ _
  have HB0 : Hid (Below w.heap.size w ((w.alloc (.cells #[.slice none 0 0] 25)).alloc (.cells #[.slice none 0 0] 25))) := ((Below.refl _ _).alloc (Nat.le_refl _) _).alloc (by simp) _
  go_enter Tryd.func5, Tryd.ntmps5
  go_wp2_with fail
  refine (HMK.out _).mono ?_
  rintro e w1 ⟨a1, c1, xs1, rfl, hm1, hb1⟩
  have HP1 : Hid (Pa w w1 a1 c1 xs1 (mtNew me) none 0 0 []) := ⟨bel_step HB0.out hb1, HR0.out.next hb1, HO0.out.next hb1, hm1, ⟨RowP.nil _ _, fun _ => rfl, Nat.le_refl _, by decide⟩, Alive.none _, fun y h => by cases h⟩
  clear hm1 hb1 HMK HR0 HO0 HB0
  go_wp2_with fail
  go_loopw [8, 10] (fun v i wr => ∃ (k : Nat) (a : Option Addr) (c : Nat) (xs : List Int) (m : Mt) (ao : Option Addr) (no co : Nat) (l : List Pr), k ≤ min len0 12 ∧ i = .int .i64 (k : Int) ∧ v = .slice a 12 c ∧ Pa w wr a c xs m ao no co l ∧ AtIs me K k m l) (fun _ i _ => 12 - (intOf i).toNat)
  case atStart => exact ⟨0, a1, c1, xs1, mtNew me, none, 0, 0, [], Nat.zero_le _, rfl, rfl, HP1.out, ⟨⟨rfl, rfl⟩, rfl, May.nil, Nat.le_refl _⟩⟩
  case round =>
    obtain ⟨k, a, c, xs, m, ao, no, co, l, hk, rfl, rfl, hpa, hat⟩ := hrel
    have HI : Hid (Pa w wr a c xs m ao no co l) := hpa
    have HX : Hid (AtIs me K k m l) := hat
    clear hpa hat HP1
    by_cases hl : k < len0
    · by_cases h12 : k < 12
      · obtain ⟨bl, off, rfl, hpr, hwp⟩ := HRW.out k hl
        have hlt : bl < w.heap.size := World.block_lt_of_cell? w _ hpr.1
        obtain ⟨r0, r1, r2, r3⟩ := hpr.below HI.out.bel
        have HSQ : Hid (∀ W, Below w.heap.size w W → Came W ao no co l → Alive W ao → Calls Tryd.prog 12 #[.agg #[.slice ao no co], m.v, .agg #[.int .i64 (zs.getD k pr0).m, .int .i64 (zs.getD k pr0).r, .int .i64 (zs.getD k pr0).b, .int .i64 (zs.getD k pr0).t]] W fun e w' => ∃ a' n' co' ls, ∃ t : Nat, e = .returned (.tuple #[.agg #[.slice a' n' co'], .agg #[.int .i64 ((K k).c : Int), .int .i64 ((K k).i : Int), .int .i64 ((K k).a : Int), .int .i64 (t : Int)], .bool true]) ∧ Came w' a' n' co' ls ∧ Alive w' a' ∧ Near W ao a' ∧ SoldIs m l (K k) ls t ∧ Below W.heap.size W w') := fun W h1 h2 h3 => HSO.out k hl h12 W ao no co l m h1 h2 h3 HX.out.may HX.out.len HI.out.hm.mw
        have HBQ : Hid (Calls Tryd.prog 7 #[.slice a 12 c] wr fun e w' => e = .returned (.tuple #[m.v, .int .i64 0]) ∧ Below wr.heap.size wr w') := HBT.out wr a c xs m HI.out.hm
        have HRC : Hid (wr.cell? ⟨bl, off + k * 4, none⟩ = some (.int .i64 (zs.getD k pr0).m) ∧ wr.cell? ⟨bl, off + k * 4 + 1, none⟩ = some (.int .i64 (zs.getD k pr0).r) ∧ wr.cell? ⟨bl, off + k * 4 + 2, none⟩ = some (.int .i64 (zs.getD k pr0).b) ∧ wr.cell? ⟨bl, off + k * 4 + 3, none⟩ = some (.int .i64 (zs.getD k pr0).t)) := ⟨r0, r1, r2, r3⟩
        clear hpr hwp r0 r1 r2 r3
        generalize (zs.getD k pr0).m = q0 at *
        generalize (zs.getD k pr0).r = q1 at *
        generalize (zs.getD k pr0).b = q2 at *
        generalize (zs.getD k pr0).t = q3 at *
        have HKK : Hid (∃ x, K k = x) := ⟨_, rfl⟩
        obtain ⟨kk, hkk⟩ := HKK.out
        rw [hkk] at HSQ
        have HKE : Hid (K k = kk) := hkk
        clear HKK hkk
        generalize hkc : (kk.c : Int) = kc at HSQ
        generalize hki : (kk.i : Int) = ki at HSQ
        generalize hka : (kk.a : Int) = ka at HSQ
        have HKT : Hid ((kk.c : Int) = kc ∧ (kk.i : Int) = ki ∧ (kk.a : Int) = ka) := ⟨hkc, hki, hka⟩
        clear hkc hki hka
        have hd1 : decide ((k : Int) < (len0 : Int)) = true := by simp; omega
        have hd2 : decide ((k : Int) < 12) = true := by simp; omega
        have hd3 : (k : Int) < (len0 : Int) := by omega
        go_wp2_with fail
        refine HBQ.out.mono ?_
        rintro e w2 ⟨rfl, hb2⟩
        obtain ⟨me1, rev1, cr1, h1, b1, bad1, lock1⟩ := m
        unfold Mt.v Mt.cells at *
        simp only [] at HSQ ⊢
        have HI3 : Hid (Pa w (w2.alloc (.cells #[.int .i64 me1, .int .i64 rev1, .int .i64 cr1, .int .i64 h1, .int .u64 (b1 : Int), .int .i64 bad1, .int .i64 lock1] 36)) a c xs ⟨me1, rev1, cr1, h1, b1, bad1, lock1⟩ ao no co l) := (HI.out.next hb2).alloc _
        have HQ3 : Hid (Sr (w.heap.size + 1) w2.heap.size bl (off + k * 4) (.slice ao no co) #[.int .i64 me1, .int .i64 rev1, .int .i64 cr1, .int .i64 h1, .int .u64 (b1 : Int), .int .i64 bad1, .int .i64 lock1] q0 q1 q2 q3 (w2.alloc (.cells #[.int .i64 me1, .int .i64 rev1, .int .i64 cr1, .int .i64 h1, .int .u64 (b1 : Int), .int .i64 bad1, .int .i64 lock1] 36))) := by
          have hbb := hb2.alloc hb2.size (.cells #[.int .i64 me1, .int .i64 rev1, .int .i64 cr1, .int .i64 h1, .int .u64 (b1 : Int), .int .i64 bad1, .int .i64 lock1] 36)
          have hbl := World.block_lt_of_cell? wr _ HRC.out.1
          exact ⟨HI3.out.o, Blk.new _ _ _, (hbb.cell (p := ⟨bl, off + k * 4, none⟩) hbl).trans HRC.out.1, (hbb.cell (p := ⟨bl, off + k * 4 + 1, none⟩) hbl).trans HRC.out.2.1, (hbb.cell (p := ⟨bl, off + k * 4 + 2, none⟩) hbl).trans HRC.out.2.2.1, (hbb.cell (p := ⟨bl, off + k * 4 + 3, none⟩) hbl).trans HRC.out.2.2.2⟩
        have HN3 : Hid (bl < w.heap.size ∧ w2.heap.size < (w2.alloc (.cells #[.int .i64 me1, .int .i64 rev1, .int .i64 cr1, .int .i64 h1, .int .u64 (b1 : Int), .int .i64 bad1, .int .i64 lock1] 36)).heap.size ∧ w.heap.size + 2 ≤ w2.heap.size) := ⟨hlt, by simp, (HI.out.next hb2).size⟩
        clear hb2 HBQ HRC HI hlt
        go_upto_region 11 with fail
        generalize w2.heap.size = gm at *
        generalize (World.alloc w2 _) = W3 at *
        go_cut [13, 14, 15] (fun v13 v14 v15 wc => ∃ (g1 g2 : Nat) (a' : Option Addr) (n' co' : Nat) (ls : List Pr) (t : Nat), v13 = .pointer (some ⟨g1, 0, none⟩) ∧ v14 = .pointer (some ⟨g2, 0, none⟩) ∧ v15 = .bool true ∧ Blk wc g1 #[.slice a' n' co'] 25 ∧ Blk wc g2 #[.int .i64 kc, .int .i64 ki, .int .i64 ka, .int .i64 (t : Int)] 50 ∧ Pa w wc a c xs ⟨me1, rev1, cr1, h1, b1, bad1, lock1⟩ ao no co l ∧ Came wc a' n' co' ls ∧ Alive wc a' ∧ (∀ y, a' = some y → w.heap.size + 2 ≤ y.block) ∧ SoldIs ⟨me1, rev1, cr1, h1, b1, bad1, lock1⟩ l kk ls t)
        case first =>
          have HP0 : Hid (Pa w W3.drew a c xs ⟨me1, rev1, cr1, h1, b1, bad1, lock1⟩ ao no co l) := HI3.out.drew
          have HQ0 : Hid (Sr (w.heap.size + 1) gm bl (off + k * 4) (.slice ao no co) #[.int .i64 me1, .int .i64 rev1, .int .i64 cr1, .int .i64 h1, .int .u64 (b1 : Int), .int .i64 bad1, .int .i64 lock1] q0 q1 q2 q3 W3.drew) := HQ3.out.next (Below.refl _ _).drew
          have HL0 : Hid (gm < W3.drew.heap.size) := HN3.out.2.1
          have HBL : Hid (bl < w.heap.size ∧ w.heap.size + 2 ≤ gm) := ⟨HN3.out.1, HN3.out.2.2⟩
          clear HX HSO HFM HKD HAP HBT HI3 HRW
          refine wp_region_held_drew (S := fun v => Sr (w.heap.size + 1) gm bl (off + k * 4) (.slice ao no co) #[.int .i64 me1, .int .i64 rev1, .int .i64 cr1, .int .i64 h1, .int .u64 (b1 : Int), .int .i64 bad1, .int .i64 lock1] q0 q1 q2 q3 v) (by kernel_rfl) HQ0.out (fun hHeld => ?_)
          refine take_at 0 50 (.agg #[.slice ao no co]) _ rfl rfl (by kernel_rfl) (by kernel_rfl) (by kernel_rfl) (fun _ _ _ h => h) (yieldsIf_whole (by rfl) 25 _ rfl (w.heap.size + 1) rfl 25 #[.slice ao no co] _ (fun v hv => hv.bo) Tryd.underlying25 rfl (by kernel_rfl)) hHeld ?_
          simp only [Act.put, List.setIfInBounds_toArray, List.set_cons_zero, List.set_cons_succ]
          refine take_at 1 51 (.agg #[.int .i64 me1, .int .i64 rev1, .int .i64 cr1, .int .i64 h1, .int .u64 (b1 : Int), .int .i64 bad1, .int .i64 lock1]) _ rfl rfl (by kernel_rfl) (by kernel_rfl) (by kernel_rfl) (fun _ _ _ h => h) (yieldsIf_whole (by rfl) 36 _ rfl gm rfl 36 #[.int .i64 me1, .int .i64 rev1, .int .i64 cr1, .int .i64 h1, .int .u64 (b1 : Int), .int .i64 bad1, .int .i64 lock1] _ (fun v hv => hv.bm) Tryd.underlying36 rfl (by kernel_rfl)) hHeld ?_
          simp only [Act.put, List.setIfInBounds_toArray, List.set_cons_zero, List.set_cons_succ]
          refine take_at 2 52 (.slice (some ⟨bl, off, none⟩) len0 cap0) _ rfl rfl (by kernel_rfl) (by kernel_rfl) (by kernel_rfl) (fun _ _ _ h => h) (Or.inl ⟨by rfl, fun v hv => by skip; clear hv; go_simp⟩) hHeld ?_
          simp only [Act.put, List.setIfInBounds_toArray, List.set_cons_zero, List.set_cons_succ]
          refine take_at 3 53 (.int .i64 (k : Int)) _ rfl rfl (by kernel_rfl) (by kernel_rfl) (by kernel_rfl) (fun _ _ _ h => h) (Or.inl ⟨by rfl, fun v hv => by skip; clear hv; go_simp⟩) hHeld ?_
          simp only [Act.put, List.setIfInBounds_toArray, List.set_cons_zero, List.set_cons_succ]
          refine take_at 4 54 (.pointer (some ⟨bl, off + k * 4, none⟩)) _ rfl rfl (by kernel_rfl) (by kernel_rfl) (by kernel_rfl) (fun _ _ _ h => h) (Or.inl ⟨by rfl, fun v hv => by skip; clear hv; go_simp⟩) hHeld ?_
          simp only [Act.put, List.setIfInBounds_toArray, List.set_cons_zero, List.set_cons_succ]
          refine take_at 5 55 (.agg #[.int .i64 q0, .int .i64 q1, .int .i64 q2, .int .i64 q3]) _ rfl rfl (by kernel_rfl) (by kernel_rfl) (by kernel_rfl) (fun _ _ _ h => h) (Or.inl ⟨by rfl, fun v hv => by have s0 := hv.r0; have s1 := hv.r1; have s2 := hv.r2; have s3 := hv.r3; clear hv; go_simp⟩) hHeld ?_
          simp only [Act.put, List.setIfInBounds_toArray, List.set_cons_zero, List.set_cons_succ]
          generalize W3.drew = U0 at *
          refine wpAnyH_ready (rs := [6, 11, 12]) (by kernel_rfl) (by simp) (AllReadyH.cons rfl (fun K hK => ?_) (AllReadyH.cons rfl (fun K hK => ?_) (AllReadyH.cons rfl (fun K hK => ?_) AllReadyH.nil)))
          · rw [if_pos (by rfl)]
            refine wp_callOp 56 rfl (by clear hK; go_simp) (HSQ.out _ HP0.out.bel HP0.out.came HP0.out.alive) ?_
            rintro e U1 ⟨a', n', co', ls, t, rfl, hc, hal, hnr, hsi, hb⟩
            have HP1 : Hid (Pa w U1 a c xs ⟨me1, rev1, cr1, h1, b1, bad1, lock1⟩ ao no co l) := HP0.out.next hb
            have HQ1 : Hid (Sr (w.heap.size + 1) gm bl (off + k * 4) (.slice ao no co) #[.int .i64 me1, .int .i64 rev1, .int .i64 cr1, .int .i64 h1, .int .u64 (b1 : Int), .int .i64 bad1, .int .i64 lock1] q0 q1 q2 q3 U1) := HQ0.out.next hb
            have HL1 : Hid (gm < U1.heap.size) := Nat.lt_of_lt_of_le HL0.out hb.size
            have HFA : Hid (∀ y, a' = some y → w.heap.size + 2 ≤ y.block) := near_far hnr HP0.out.size HP0.out.far
            have HSI : Hid (SoldIs ⟨me1, rev1, cr1, h1, b1, bad1, lock1⟩ l kk ls t) := hsi
            have HC1 : Hid (Came U1 a' n' co' ls ∧ Alive U1 a') := ⟨hc, hal⟩
            refine ⟨_, rfl, hK.out _ _ HQ1.out (fun hHeld => ?_)⟩
            clear hK hb hc hal hnr hsi HSQ HP0 HQ0 HL0
            simp only [Act.put, List.setIfInBounds_toArray, List.set_cons_zero, List.set_cons_succ]
            refine take_at 7 49 (.tuple #[.agg #[.slice a' n' co'], .agg #[.int .i64 kc, .int .i64 ki, .int .i64 ka, .int .i64 (t : Int)], .bool true]) _ rfl rfl (by kernel_rfl) (by kernel_rfl) (by kernel_rfl) (fun _ _ _ h => h) (Or.inl ⟨by rfl, fun v hv => by skip; clear hv; go_simp⟩) hHeld ?_
            simp only [Act.put, List.setIfInBounds_toArray, List.set_cons_zero, List.set_cons_succ]
            refine take_at 8 57 (.agg #[.slice a' n' co']) _ rfl rfl (by kernel_rfl) (by kernel_rfl) (by kernel_rfl) (fun _ _ _ h => h) (Or.inl ⟨by rfl, fun v hv => by skip; clear hv; go_simp⟩) hHeld ?_
            simp only [Act.put, List.setIfInBounds_toArray, List.set_cons_zero, List.set_cons_succ]
            refine take_at 9 58 (.agg #[.int .i64 kc, .int .i64 ki, .int .i64 ka, .int .i64 (t : Int)]) _ rfl rfl (by kernel_rfl) (by kernel_rfl) (by kernel_rfl) (fun _ _ _ h => h) (Or.inl ⟨by rfl, fun v hv => by skip; clear hv; go_simp⟩) hHeld ?_
            simp only [Act.put, List.setIfInBounds_toArray, List.set_cons_zero, List.set_cons_succ]
            refine take_at 10 59 (.bool true) _ rfl rfl (by kernel_rfl) (by kernel_rfl) (by kernel_rfl) (fun _ _ _ h => h) (Or.inl ⟨by rfl, fun v hv => by skip; clear hv; go_simp⟩) hHeld ?_
            simp only [Act.put, List.setIfInBounds_toArray, List.set_cons_zero, List.set_cons_succ]
            refine wpAnyH_ready (rs := [11, 12]) (by kernel_rfl) (by simp) (AllReadyH.cons rfl (fun K hK => ?_) (AllReadyH.cons rfl (fun K hK => ?_) AllReadyH.nil))
            · rw [if_pos (by rfl)]
              have HP2 : Hid (Pa w (U1.alloc (.cells #[.slice none 0 0] 25)) a c xs ⟨me1, rev1, cr1, h1, b1, bad1, lock1⟩ ao no co l) := HP1.out.alloc _
              have HQ2 : Hid (Sr (w.heap.size + 1) gm bl (off + k * 4) (.slice ao no co) #[.int .i64 me1, .int .i64 rev1, .int .i64 cr1, .int .i64 h1, .int .u64 (b1 : Int), .int .i64 bad1, .int .i64 lock1] q0 q1 q2 q3 (U1.alloc (.cells #[.slice none 0 0] 25))) := HQ1.out.alloc _
              have HL2 : Hid (gm < (U1.alloc (.cells #[.slice none 0 0] 25)).heap.size) := Nat.lt_of_lt_of_le HL1.out (by simp)
              have HB12 : Hid (Blk (U1.alloc (.cells #[.slice none 0 0] 25)) U1.heap.size #[.slice none 0 0] 25) := Blk.new _ _ _
              have HW1 : Hid (Nw w gm bl ao U1.heap.size) := ⟨HP1.out.size, by have := HL1.out; omega, by have h1 := HP1.out.size; have h2 := HBL.out; omega, alive_ne HP1.out.alive⟩
              have HC2 : Hid (Came (U1.alloc (.cells #[.slice none 0 0] 25)) a' n' co' ls ∧ Alive (U1.alloc (.cells #[.slice none 0 0] 25)) a') := ⟨HC1.out.1.below ((Below.refl _ _).alloc (Nat.le_refl _) _), HC1.out.2.below ((Below.refl _ _).alloc (Nat.le_refl _) _)⟩
              have HE1 : Hid (∀ y, a' = some y → y.block ≠ U1.heap.size) := alive_ne HC1.out.2
              refine wp_runOp (v := .pointer (some ⟨U1.heap.size, 0, none⟩)) (w' := (U1.alloc (.cells #[.slice none 0 0] 25))) 13 rfl (by clear hK; go_simp) ?_
              refine hK.out _ _ HQ2.out (fun hHeld => ?_)
              clear hK HP1 HQ1 HL1 HC1
              simp only [Act.put, List.setIfInBounds_toArray, List.set_cons_zero, List.set_cons_succ]
              generalize U1.heap.size = g1 at *
              generalize U1.alloc _ = U2 at *
              refine wpAnyH_ready (rs := [12]) (by kernel_rfl) (by simp) (AllReadyH.cons rfl (fun K hK => ?_) AllReadyH.nil)
              rw [if_pos (by rfl)]
              have HP3 : Hid (Pa w (U2.alloc (.cells #[.int .i64 0, .int .i64 0, .int .i64 0, .int .i64 0] 50)) a c xs ⟨me1, rev1, cr1, h1, b1, bad1, lock1⟩ ao no co l) := HP2.out.alloc _
              have HQ3 : Hid (Sr (w.heap.size + 1) gm bl (off + k * 4) (.slice ao no co) #[.int .i64 me1, .int .i64 rev1, .int .i64 cr1, .int .i64 h1, .int .u64 (b1 : Int), .int .i64 bad1, .int .i64 lock1] q0 q1 q2 q3 (U2.alloc (.cells #[.int .i64 0, .int .i64 0, .int .i64 0, .int .i64 0] 50))) := HQ2.out.alloc _
              have HL3 : Hid (gm < (U2.alloc (.cells #[.int .i64 0, .int .i64 0, .int .i64 0, .int .i64 0] 50)).heap.size) := Nat.lt_of_lt_of_le HL2.out (by simp)
              have HB23 : Hid (Blk (U2.alloc (.cells #[.int .i64 0, .int .i64 0, .int .i64 0, .int .i64 0] 50)) U2.heap.size #[.int .i64 0, .int .i64 0, .int .i64 0, .int .i64 0] 50) := Blk.new _ _ _
              have HW2 : Hid (Nw w gm bl ao U2.heap.size) := ⟨HP2.out.size, by have := HL2.out; omega, by have h1 := HP2.out.size; have h2 := HBL.out; omega, alive_ne HP2.out.alive⟩
              have HB13 : Hid (Blk (U2.alloc (.cells #[.int .i64 0, .int .i64 0, .int .i64 0, .int .i64 0] 50)) g1 #[.slice none 0 0] 25) := HB12.out.alloc _
              have HD : Hid (g1 ≠ U2.heap.size) := by have := HB12.out.lt; show _ ≠ _; omega
              have HC3 : Hid (Came (U2.alloc (.cells #[.int .i64 0, .int .i64 0, .int .i64 0, .int .i64 0] 50)) a' n' co' ls ∧ Alive (U2.alloc (.cells #[.int .i64 0, .int .i64 0, .int .i64 0, .int .i64 0] 50)) a') := ⟨HC2.out.1.below ((Below.refl _ _).alloc (Nat.le_refl _) _), HC2.out.2.below ((Below.refl _ _).alloc (Nat.le_refl _) _)⟩
              have HE2 : Hid (∀ y, a' = some y → y.block ≠ U2.heap.size) := alive_ne HC2.out.2
              refine wp_runOp (v := .pointer (some ⟨U2.heap.size, 0, none⟩)) (w' := (U2.alloc (.cells #[.int .i64 0, .int .i64 0, .int .i64 0, .int .i64 0] 50))) 14 rfl (by clear hK; go_simp) ?_
              refine hK.out _ _ HQ3.out (fun hHeld => ?_)
              clear hK HP2 HQ2 HL2 HB12 HC2
              simp only [Act.put, List.setIfInBounds_toArray, List.set_cons_zero, List.set_cons_succ]
              generalize U2.heap.size = g2 at *
              generalize U2.alloc _ = U3 at *
              refine wpAnyH_ready (rs := [13]) (by kernel_rfl) (by simp) (AllReadyH.cons rfl (fun K hK => ?_) AllReadyH.nil)
              rw [if_pos (by rfl)]
              refine wp_letOp 25 _ _ rfl g1 rfl #[.slice a' n' co'] rfl (by kernel_rfl) (by simp [Value.oneCell']) #[.slice none 0 0] 25 HB13.out rfl rfl ?_
              intro U4 hU
              have HP4 : Hid (Pa w U4 a c xs ⟨me1, rev1, cr1, h1, b1, bad1, lock1⟩ ao no co l) := HP3.out.upd hU HB13.out (no_slice _ _ _) HW1.out.low HW1.out.ne
              have HQ4 : Hid (Sr (w.heap.size + 1) gm bl (off + k * 4) (.slice ao no co) #[.int .i64 me1, .int .i64 rev1, .int .i64 cr1, .int .i64 h1, .int .u64 (b1 : Int), .int .i64 bad1, .int .i64 lock1] q0 q1 q2 q3 U4) := HQ3.out.upd hU (by have := HW1.out.low; omega) HW1.out.m HW1.out.b
              have HB14 : Hid (Blk U4 g1 #[.slice a' n' co'] 25) := hU.blk
              have HC4 : Hid (Came U4 a' n' co' ls ∧ Alive U4 a') := ⟨upd_came hU HC3.out.1 HE1.out, fun y hy => by rw [hU.size]; exact HC3.out.2 y hy⟩
              have HB24 : Hid (Blk U4 g2 #[.int .i64 0, .int .i64 0, .int .i64 0, .int .i64 0] 50) := hU.keep HB23.out (by have := HD.out; omega)
              refine hK.out _ _ HQ4.out (fun hHeld => ?_)
              clear hK hU HP3 HQ3 HB13 HC3 HB23
              refine wpAnyH_ready (rs := [14]) (by kernel_rfl) (by simp) (AllReadyH.cons rfl (fun K hK => ?_) AllReadyH.nil)
              rw [if_pos (by rfl)]
              refine wp_letOp 50 _ _ rfl g2 rfl #[.int .i64 kc, .int .i64 ki, .int .i64 ka, .int .i64 (t : Int)] rfl (by kernel_rfl) (by simp [Value.oneCell']) #[.int .i64 0, .int .i64 0, .int .i64 0, .int .i64 0] 50 HB24.out rfl rfl ?_
              intro U5 hU
              have HP5 : Hid (Pa w U5 a c xs ⟨me1, rev1, cr1, h1, b1, bad1, lock1⟩ ao no co l) := HP4.out.upd hU HB24.out (no_four _ _ _ _) HW2.out.low HW2.out.ne
              have HQ5 : Hid (Sr (w.heap.size + 1) gm bl (off + k * 4) (.slice ao no co) #[.int .i64 me1, .int .i64 rev1, .int .i64 cr1, .int .i64 h1, .int .u64 (b1 : Int), .int .i64 bad1, .int .i64 lock1] q0 q1 q2 q3 U5) := HQ4.out.upd hU (by have := HW2.out.low; omega) HW2.out.m HW2.out.b
              have HB25 : Hid (Blk U5 g2 #[.int .i64 kc, .int .i64 ki, .int .i64 ka, .int .i64 (t : Int)] 50) := hU.blk
              have HC5 : Hid (Came U5 a' n' co' ls ∧ Alive U5 a') := ⟨upd_came hU HC4.out.1 HE2.out, fun y hy => by rw [hU.size]; exact HC4.out.2 y hy⟩
              have HB15 : Hid (Blk U5 g1 #[.slice a' n' co'] 25) := hU.keep HB14.out (by have := HD.out; omega)
              refine hK.out _ _ HQ5.out (fun hHeld => ?_)
              clear hK hU HP4 HQ4 HB24 HC4 HB14
              refine take_at 15 15 (.bool true) _ rfl rfl (by kernel_rfl) (by kernel_rfl) (by kernel_rfl) (fun _ _ _ h => h) (Or.inl ⟨by rfl, fun v hv => by skip; clear hv; go_simp⟩) hHeld ?_
              simp only [Act.put, List.setIfInBounds_toArray, List.set_cons_zero, List.set_cons_succ]
              refine wpAnyH_done (by kernel_rfl) ?_ _
              clear hHeld
              go_wp2_with fail
              go_meet
              case rel => exact ⟨g1, g2, a', n', co', ls, t, rfl, rfl, rfl, HB15.out, HB25.out, HP5.out, HC5.out.1, HC5.out.2, HFA.out, HSI.out⟩
            · rw [if_pos (by rfl)]
              have HP2 : Hid (Pa w (U1.alloc (.cells #[.int .i64 0, .int .i64 0, .int .i64 0, .int .i64 0] 50)) a c xs ⟨me1, rev1, cr1, h1, b1, bad1, lock1⟩ ao no co l) := HP1.out.alloc _
              have HQ2 : Hid (Sr (w.heap.size + 1) gm bl (off + k * 4) (.slice ao no co) #[.int .i64 me1, .int .i64 rev1, .int .i64 cr1, .int .i64 h1, .int .u64 (b1 : Int), .int .i64 bad1, .int .i64 lock1] q0 q1 q2 q3 (U1.alloc (.cells #[.int .i64 0, .int .i64 0, .int .i64 0, .int .i64 0] 50))) := HQ1.out.alloc _
              have HL2 : Hid (gm < (U1.alloc (.cells #[.int .i64 0, .int .i64 0, .int .i64 0, .int .i64 0] 50)).heap.size) := Nat.lt_of_lt_of_le HL1.out (by simp)
              have HB22 : Hid (Blk (U1.alloc (.cells #[.int .i64 0, .int .i64 0, .int .i64 0, .int .i64 0] 50)) U1.heap.size #[.int .i64 0, .int .i64 0, .int .i64 0, .int .i64 0] 50) := Blk.new _ _ _
              have HW2 : Hid (Nw w gm bl ao U1.heap.size) := ⟨HP1.out.size, by have := HL1.out; omega, by have h1 := HP1.out.size; have h2 := HBL.out; omega, alive_ne HP1.out.alive⟩
              have HC2 : Hid (Came (U1.alloc (.cells #[.int .i64 0, .int .i64 0, .int .i64 0, .int .i64 0] 50)) a' n' co' ls ∧ Alive (U1.alloc (.cells #[.int .i64 0, .int .i64 0, .int .i64 0, .int .i64 0] 50)) a') := ⟨HC1.out.1.below ((Below.refl _ _).alloc (Nat.le_refl _) _), HC1.out.2.below ((Below.refl _ _).alloc (Nat.le_refl _) _)⟩
              have HE2 : Hid (∀ y, a' = some y → y.block ≠ U1.heap.size) := alive_ne HC1.out.2
              refine wp_runOp (v := .pointer (some ⟨U1.heap.size, 0, none⟩)) (w' := (U1.alloc (.cells #[.int .i64 0, .int .i64 0, .int .i64 0, .int .i64 0] 50))) 14 rfl (by clear hK; go_simp) ?_
              refine hK.out _ _ HQ2.out (fun hHeld => ?_)
              clear hK HP1 HQ1 HL1 HC1
              simp only [Act.put, List.setIfInBounds_toArray, List.set_cons_zero, List.set_cons_succ]
              generalize U1.heap.size = g2 at *
              generalize U1.alloc _ = U2 at *
              refine wpAnyH_ready (rs := [11]) (by kernel_rfl) (by simp) (AllReadyH.cons rfl (fun K hK => ?_) AllReadyH.nil)
              rw [if_pos (by rfl)]
              have HP3 : Hid (Pa w (U2.alloc (.cells #[.slice none 0 0] 25)) a c xs ⟨me1, rev1, cr1, h1, b1, bad1, lock1⟩ ao no co l) := HP2.out.alloc _
              have HQ3 : Hid (Sr (w.heap.size + 1) gm bl (off + k * 4) (.slice ao no co) #[.int .i64 me1, .int .i64 rev1, .int .i64 cr1, .int .i64 h1, .int .u64 (b1 : Int), .int .i64 bad1, .int .i64 lock1] q0 q1 q2 q3 (U2.alloc (.cells #[.slice none 0 0] 25))) := HQ2.out.alloc _
              have HL3 : Hid (gm < (U2.alloc (.cells #[.slice none 0 0] 25)).heap.size) := Nat.lt_of_lt_of_le HL2.out (by simp)
              have HB13 : Hid (Blk (U2.alloc (.cells #[.slice none 0 0] 25)) U2.heap.size #[.slice none 0 0] 25) := Blk.new _ _ _
              have HW1 : Hid (Nw w gm bl ao U2.heap.size) := ⟨HP2.out.size, by have := HL2.out; omega, by have h1 := HP2.out.size; have h2 := HBL.out; omega, alive_ne HP2.out.alive⟩
              have HB23 : Hid (Blk (U2.alloc (.cells #[.slice none 0 0] 25)) g2 #[.int .i64 0, .int .i64 0, .int .i64 0, .int .i64 0] 50) := HB22.out.alloc _
              have HD : Hid (g2 ≠ U2.heap.size) := by have := HB22.out.lt; show _ ≠ _; omega
              have HC3 : Hid (Came (U2.alloc (.cells #[.slice none 0 0] 25)) a' n' co' ls ∧ Alive (U2.alloc (.cells #[.slice none 0 0] 25)) a') := ⟨HC2.out.1.below ((Below.refl _ _).alloc (Nat.le_refl _) _), HC2.out.2.below ((Below.refl _ _).alloc (Nat.le_refl _) _)⟩
              have HE1 : Hid (∀ y, a' = some y → y.block ≠ U2.heap.size) := alive_ne HC2.out.2
              refine wp_runOp (v := .pointer (some ⟨U2.heap.size, 0, none⟩)) (w' := (U2.alloc (.cells #[.slice none 0 0] 25))) 13 rfl (by clear hK; go_simp) ?_
              refine hK.out _ _ HQ3.out (fun hHeld => ?_)
              clear hK HP2 HQ2 HL2 HB22 HC2
              simp only [Act.put, List.setIfInBounds_toArray, List.set_cons_zero, List.set_cons_succ]
              generalize U2.heap.size = g1 at *
              generalize U2.alloc _ = U3 at *
              refine wpAnyH_ready (rs := [13]) (by kernel_rfl) (by simp) (AllReadyH.cons rfl (fun K hK => ?_) AllReadyH.nil)
              rw [if_pos (by rfl)]
              refine wp_letOp 25 _ _ rfl g1 rfl #[.slice a' n' co'] rfl (by kernel_rfl) (by simp [Value.oneCell']) #[.slice none 0 0] 25 HB13.out rfl rfl ?_
              intro U4 hU
              have HP4 : Hid (Pa w U4 a c xs ⟨me1, rev1, cr1, h1, b1, bad1, lock1⟩ ao no co l) := HP3.out.upd hU HB13.out (no_slice _ _ _) HW1.out.low HW1.out.ne
              have HQ4 : Hid (Sr (w.heap.size + 1) gm bl (off + k * 4) (.slice ao no co) #[.int .i64 me1, .int .i64 rev1, .int .i64 cr1, .int .i64 h1, .int .u64 (b1 : Int), .int .i64 bad1, .int .i64 lock1] q0 q1 q2 q3 U4) := HQ3.out.upd hU (by have := HW1.out.low; omega) HW1.out.m HW1.out.b
              have HB14 : Hid (Blk U4 g1 #[.slice a' n' co'] 25) := hU.blk
              have HC4 : Hid (Came U4 a' n' co' ls ∧ Alive U4 a') := ⟨upd_came hU HC3.out.1 HE1.out, fun y hy => by rw [hU.size]; exact HC3.out.2 y hy⟩
              have HB24 : Hid (Blk U4 g2 #[.int .i64 0, .int .i64 0, .int .i64 0, .int .i64 0] 50) := hU.keep HB23.out (by have := HD.out; omega)
              refine hK.out _ _ HQ4.out (fun hHeld => ?_)
              clear hK hU HP3 HQ3 HB13 HC3 HB23
              refine wpAnyH_ready (rs := [14]) (by kernel_rfl) (by simp) (AllReadyH.cons rfl (fun K hK => ?_) AllReadyH.nil)
              rw [if_pos (by rfl)]
              refine wp_letOp 50 _ _ rfl g2 rfl #[.int .i64 kc, .int .i64 ki, .int .i64 ka, .int .i64 (t : Int)] rfl (by kernel_rfl) (by simp [Value.oneCell']) #[.int .i64 0, .int .i64 0, .int .i64 0, .int .i64 0] 50 HB24.out rfl rfl ?_
              intro U5 hU
              have HP5 : Hid (Pa w U5 a c xs ⟨me1, rev1, cr1, h1, b1, bad1, lock1⟩ ao no co l) := HP4.out.upd hU HB24.out (no_four _ _ _ _) HW2.out.low HW2.out.ne
              have HQ5 : Hid (Sr (w.heap.size + 1) gm bl (off + k * 4) (.slice ao no co) #[.int .i64 me1, .int .i64 rev1, .int .i64 cr1, .int .i64 h1, .int .u64 (b1 : Int), .int .i64 bad1, .int .i64 lock1] q0 q1 q2 q3 U5) := HQ4.out.upd hU (by have := HW2.out.low; omega) HW2.out.m HW2.out.b
              have HB25 : Hid (Blk U5 g2 #[.int .i64 kc, .int .i64 ki, .int .i64 ka, .int .i64 (t : Int)] 50) := hU.blk
              have HC5 : Hid (Came U5 a' n' co' ls ∧ Alive U5 a') := ⟨upd_came hU HC4.out.1 HE2.out, fun y hy => by rw [hU.size]; exact HC4.out.2 y hy⟩
              have HB15 : Hid (Blk U5 g1 #[.slice a' n' co'] 25) := hU.keep HB14.out (by have := HD.out; omega)
              refine hK.out _ _ HQ5.out (fun hHeld => ?_)
              clear hK hU HP4 HQ4 HB24 HC4 HB14
              refine take_at 15 15 (.bool true) _ rfl rfl (by kernel_rfl) (by kernel_rfl) (by kernel_rfl) (fun _ _ _ h => h) (Or.inl ⟨by rfl, fun v hv => by skip; clear hv; go_simp⟩) hHeld ?_
              simp only [Act.put, List.setIfInBounds_toArray, List.set_cons_zero, List.set_cons_succ]
              refine wpAnyH_done (by kernel_rfl) ?_ _
              clear hHeld
              go_wp2_with fail
              go_meet
              case rel => exact ⟨g1, g2, a', n', co', ls, t, rfl, rfl, rfl, HB15.out, HB25.out, HP5.out, HC5.out.1, HC5.out.2, HFA.out, HSI.out⟩
          · rw [if_pos (by rfl)]
            have HP1 : Hid (Pa w (U0.alloc (.cells #[.slice none 0 0] 25)) a c xs ⟨me1, rev1, cr1, h1, b1, bad1, lock1⟩ ao no co l) := HP0.out.alloc _
            have HQ1 : Hid (Sr (w.heap.size + 1) gm bl (off + k * 4) (.slice ao no co) #[.int .i64 me1, .int .i64 rev1, .int .i64 cr1, .int .i64 h1, .int .u64 (b1 : Int), .int .i64 bad1, .int .i64 lock1] q0 q1 q2 q3 (U0.alloc (.cells #[.slice none 0 0] 25))) := HQ0.out.alloc _
            have HL1 : Hid (gm < (U0.alloc (.cells #[.slice none 0 0] 25)).heap.size) := Nat.lt_of_lt_of_le HL0.out (by simp)
            have HB11 : Hid (Blk (U0.alloc (.cells #[.slice none 0 0] 25)) U0.heap.size #[.slice none 0 0] 25) := Blk.new _ _ _
            have HW1 : Hid (Nw w gm bl ao U0.heap.size) := ⟨HP0.out.size, by have := HL0.out; omega, by have h1 := HP0.out.size; have h2 := HBL.out; omega, alive_ne HP0.out.alive⟩
            refine wp_runOp (v := .pointer (some ⟨U0.heap.size, 0, none⟩)) (w' := (U0.alloc (.cells #[.slice none 0 0] 25))) 13 rfl (by clear hK; go_simp) ?_
            refine hK.out _ _ HQ1.out (fun hHeld => ?_)
            clear hK HP0 HQ0 HL0
            simp only [Act.put, List.setIfInBounds_toArray, List.set_cons_zero, List.set_cons_succ]
            generalize U0.heap.size = g1 at *
            generalize U0.alloc _ = U1 at *
            refine wpAnyH_ready (rs := [6, 12]) (by kernel_rfl) (by simp) (AllReadyH.cons rfl (fun K hK => ?_) (AllReadyH.cons rfl (fun K hK => ?_) AllReadyH.nil))
            · rw [if_pos (by rfl)]
              refine wp_callOp 56 rfl (by clear hK; go_simp) (HSQ.out _ HP1.out.bel HP1.out.came HP1.out.alive) ?_
              rintro e U2 ⟨a', n', co', ls, t, rfl, hc, hal, hnr, hsi, hb⟩
              have HP2 : Hid (Pa w U2 a c xs ⟨me1, rev1, cr1, h1, b1, bad1, lock1⟩ ao no co l) := HP1.out.next hb
              have HQ2 : Hid (Sr (w.heap.size + 1) gm bl (off + k * 4) (.slice ao no co) #[.int .i64 me1, .int .i64 rev1, .int .i64 cr1, .int .i64 h1, .int .u64 (b1 : Int), .int .i64 bad1, .int .i64 lock1] q0 q1 q2 q3 U2) := HQ1.out.next hb
              have HL2 : Hid (gm < U2.heap.size) := Nat.lt_of_lt_of_le HL1.out hb.size
              have HFA : Hid (∀ y, a' = some y → w.heap.size + 2 ≤ y.block) := near_far hnr HP1.out.size HP1.out.far
              have HSI : Hid (SoldIs ⟨me1, rev1, cr1, h1, b1, bad1, lock1⟩ l kk ls t) := hsi
              have HC2 : Hid (Came U2 a' n' co' ls ∧ Alive U2 a') := ⟨hc, hal⟩
              have HB12 : Hid (Blk U2 g1 #[.slice none 0 0] 25) := HB11.out.next hb
              have HE1 : Hid (∀ y, a' = some y → y.block ≠ g1) := near_ne hnr HB11.out.lt HW1.out.ne
              refine ⟨_, rfl, hK.out _ _ HQ2.out (fun hHeld => ?_)⟩
              clear hK hb hc hal hnr hsi HSQ HP1 HQ1 HL1 HB11
              simp only [Act.put, List.setIfInBounds_toArray, List.set_cons_zero, List.set_cons_succ]
              refine take_at 7 49 (.tuple #[.agg #[.slice a' n' co'], .agg #[.int .i64 kc, .int .i64 ki, .int .i64 ka, .int .i64 (t : Int)], .bool true]) _ rfl rfl (by kernel_rfl) (by kernel_rfl) (by kernel_rfl) (fun _ _ _ h => h) (Or.inl ⟨by rfl, fun v hv => by skip; clear hv; go_simp⟩) hHeld ?_
              simp only [Act.put, List.setIfInBounds_toArray, List.set_cons_zero, List.set_cons_succ]
              refine take_at 8 57 (.agg #[.slice a' n' co']) _ rfl rfl (by kernel_rfl) (by kernel_rfl) (by kernel_rfl) (fun _ _ _ h => h) (Or.inl ⟨by rfl, fun v hv => by skip; clear hv; go_simp⟩) hHeld ?_
              simp only [Act.put, List.setIfInBounds_toArray, List.set_cons_zero, List.set_cons_succ]
              refine take_at 9 58 (.agg #[.int .i64 kc, .int .i64 ki, .int .i64 ka, .int .i64 (t : Int)]) _ rfl rfl (by kernel_rfl) (by kernel_rfl) (by kernel_rfl) (fun _ _ _ h => h) (Or.inl ⟨by rfl, fun v hv => by skip; clear hv; go_simp⟩) hHeld ?_
              simp only [Act.put, List.setIfInBounds_toArray, List.set_cons_zero, List.set_cons_succ]
              refine take_at 10 59 (.bool true) _ rfl rfl (by kernel_rfl) (by kernel_rfl) (by kernel_rfl) (fun _ _ _ h => h) (Or.inl ⟨by rfl, fun v hv => by skip; clear hv; go_simp⟩) hHeld ?_
              simp only [Act.put, List.setIfInBounds_toArray, List.set_cons_zero, List.set_cons_succ]
              refine wpAnyH_ready (rs := [12]) (by kernel_rfl) (by simp) (AllReadyH.cons rfl (fun K hK => ?_) AllReadyH.nil)
              rw [if_pos (by rfl)]
              have HP3 : Hid (Pa w (U2.alloc (.cells #[.int .i64 0, .int .i64 0, .int .i64 0, .int .i64 0] 50)) a c xs ⟨me1, rev1, cr1, h1, b1, bad1, lock1⟩ ao no co l) := HP2.out.alloc _
              have HQ3 : Hid (Sr (w.heap.size + 1) gm bl (off + k * 4) (.slice ao no co) #[.int .i64 me1, .int .i64 rev1, .int .i64 cr1, .int .i64 h1, .int .u64 (b1 : Int), .int .i64 bad1, .int .i64 lock1] q0 q1 q2 q3 (U2.alloc (.cells #[.int .i64 0, .int .i64 0, .int .i64 0, .int .i64 0] 50))) := HQ2.out.alloc _
              have HL3 : Hid (gm < (U2.alloc (.cells #[.int .i64 0, .int .i64 0, .int .i64 0, .int .i64 0] 50)).heap.size) := Nat.lt_of_lt_of_le HL2.out (by simp)
              have HB23 : Hid (Blk (U2.alloc (.cells #[.int .i64 0, .int .i64 0, .int .i64 0, .int .i64 0] 50)) U2.heap.size #[.int .i64 0, .int .i64 0, .int .i64 0, .int .i64 0] 50) := Blk.new _ _ _
              have HW2 : Hid (Nw w gm bl ao U2.heap.size) := ⟨HP2.out.size, by have := HL2.out; omega, by have h1 := HP2.out.size; have h2 := HBL.out; omega, alive_ne HP2.out.alive⟩
              have HB13 : Hid (Blk (U2.alloc (.cells #[.int .i64 0, .int .i64 0, .int .i64 0, .int .i64 0] 50)) g1 #[.slice none 0 0] 25) := HB12.out.alloc _
              have HD : Hid (g1 ≠ U2.heap.size) := by have := HB12.out.lt; show _ ≠ _; omega
              have HC3 : Hid (Came (U2.alloc (.cells #[.int .i64 0, .int .i64 0, .int .i64 0, .int .i64 0] 50)) a' n' co' ls ∧ Alive (U2.alloc (.cells #[.int .i64 0, .int .i64 0, .int .i64 0, .int .i64 0] 50)) a') := ⟨HC2.out.1.below ((Below.refl _ _).alloc (Nat.le_refl _) _), HC2.out.2.below ((Below.refl _ _).alloc (Nat.le_refl _) _)⟩
              have HE2 : Hid (∀ y, a' = some y → y.block ≠ U2.heap.size) := alive_ne HC2.out.2
              refine wp_runOp (v := .pointer (some ⟨U2.heap.size, 0, none⟩)) (w' := (U2.alloc (.cells #[.int .i64 0, .int .i64 0, .int .i64 0, .int .i64 0] 50))) 14 rfl (by clear hK; go_simp) ?_
              refine hK.out _ _ HQ3.out (fun hHeld => ?_)
              clear hK HP2 HQ2 HL2 HB12 HC2
              simp only [Act.put, List.setIfInBounds_toArray, List.set_cons_zero, List.set_cons_succ]
              generalize U2.heap.size = g2 at *
              generalize U2.alloc _ = U3 at *
              refine wpAnyH_ready (rs := [13]) (by kernel_rfl) (by simp) (AllReadyH.cons rfl (fun K hK => ?_) AllReadyH.nil)
              rw [if_pos (by rfl)]
              refine wp_letOp 25 _ _ rfl g1 rfl #[.slice a' n' co'] rfl (by kernel_rfl) (by simp [Value.oneCell']) #[.slice none 0 0] 25 HB13.out rfl rfl ?_
              intro U4 hU
              have HP4 : Hid (Pa w U4 a c xs ⟨me1, rev1, cr1, h1, b1, bad1, lock1⟩ ao no co l) := HP3.out.upd hU HB13.out (no_slice _ _ _) HW1.out.low HW1.out.ne
              have HQ4 : Hid (Sr (w.heap.size + 1) gm bl (off + k * 4) (.slice ao no co) #[.int .i64 me1, .int .i64 rev1, .int .i64 cr1, .int .i64 h1, .int .u64 (b1 : Int), .int .i64 bad1, .int .i64 lock1] q0 q1 q2 q3 U4) := HQ3.out.upd hU (by have := HW1.out.low; omega) HW1.out.m HW1.out.b
              have HB14 : Hid (Blk U4 g1 #[.slice a' n' co'] 25) := hU.blk
              have HC4 : Hid (Came U4 a' n' co' ls ∧ Alive U4 a') := ⟨upd_came hU HC3.out.1 HE1.out, fun y hy => by rw [hU.size]; exact HC3.out.2 y hy⟩
              have HB24 : Hid (Blk U4 g2 #[.int .i64 0, .int .i64 0, .int .i64 0, .int .i64 0] 50) := hU.keep HB23.out (by have := HD.out; omega)
              refine hK.out _ _ HQ4.out (fun hHeld => ?_)
              clear hK hU HP3 HQ3 HB13 HC3 HB23
              refine wpAnyH_ready (rs := [14]) (by kernel_rfl) (by simp) (AllReadyH.cons rfl (fun K hK => ?_) AllReadyH.nil)
              rw [if_pos (by rfl)]
              refine wp_letOp 50 _ _ rfl g2 rfl #[.int .i64 kc, .int .i64 ki, .int .i64 ka, .int .i64 (t : Int)] rfl (by kernel_rfl) (by simp [Value.oneCell']) #[.int .i64 0, .int .i64 0, .int .i64 0, .int .i64 0] 50 HB24.out rfl rfl ?_
              intro U5 hU
              have HP5 : Hid (Pa w U5 a c xs ⟨me1, rev1, cr1, h1, b1, bad1, lock1⟩ ao no co l) := HP4.out.upd hU HB24.out (no_four _ _ _ _) HW2.out.low HW2.out.ne
              have HQ5 : Hid (Sr (w.heap.size + 1) gm bl (off + k * 4) (.slice ao no co) #[.int .i64 me1, .int .i64 rev1, .int .i64 cr1, .int .i64 h1, .int .u64 (b1 : Int), .int .i64 bad1, .int .i64 lock1] q0 q1 q2 q3 U5) := HQ4.out.upd hU (by have := HW2.out.low; omega) HW2.out.m HW2.out.b
              have HB25 : Hid (Blk U5 g2 #[.int .i64 kc, .int .i64 ki, .int .i64 ka, .int .i64 (t : Int)] 50) := hU.blk
              have HC5 : Hid (Came U5 a' n' co' ls ∧ Alive U5 a') := ⟨upd_came hU HC4.out.1 HE2.out, fun y hy => by rw [hU.size]; exact HC4.out.2 y hy⟩
              have HB15 : Hid (Blk U5 g1 #[.slice a' n' co'] 25) := hU.keep HB14.out (by have := HD.out; omega)
              refine hK.out _ _ HQ5.out (fun hHeld => ?_)
              clear hK hU HP4 HQ4 HB24 HC4 HB14
              refine take_at 15 15 (.bool true) _ rfl rfl (by kernel_rfl) (by kernel_rfl) (by kernel_rfl) (fun _ _ _ h => h) (Or.inl ⟨by rfl, fun v hv => by skip; clear hv; go_simp⟩) hHeld ?_
              simp only [Act.put, List.setIfInBounds_toArray, List.set_cons_zero, List.set_cons_succ]
              refine wpAnyH_done (by kernel_rfl) ?_ _
              clear hHeld
              go_wp2_with fail
              go_meet
              case rel => exact ⟨g1, g2, a', n', co', ls, t, rfl, rfl, rfl, HB15.out, HB25.out, HP5.out, HC5.out.1, HC5.out.2, HFA.out, HSI.out⟩
            · rw [if_pos (by rfl)]
              have HP2 : Hid (Pa w (U1.alloc (.cells #[.int .i64 0, .int .i64 0, .int .i64 0, .int .i64 0] 50)) a c xs ⟨me1, rev1, cr1, h1, b1, bad1, lock1⟩ ao no co l) := HP1.out.alloc _
              have HQ2 : Hid (Sr (w.heap.size + 1) gm bl (off + k * 4) (.slice ao no co) #[.int .i64 me1, .int .i64 rev1, .int .i64 cr1, .int .i64 h1, .int .u64 (b1 : Int), .int .i64 bad1, .int .i64 lock1] q0 q1 q2 q3 (U1.alloc (.cells #[.int .i64 0, .int .i64 0, .int .i64 0, .int .i64 0] 50))) := HQ1.out.alloc _
              have HL2 : Hid (gm < (U1.alloc (.cells #[.int .i64 0, .int .i64 0, .int .i64 0, .int .i64 0] 50)).heap.size) := Nat.lt_of_lt_of_le HL1.out (by simp)
              have HB22 : Hid (Blk (U1.alloc (.cells #[.int .i64 0, .int .i64 0, .int .i64 0, .int .i64 0] 50)) U1.heap.size #[.int .i64 0, .int .i64 0, .int .i64 0, .int .i64 0] 50) := Blk.new _ _ _
              have HW2 : Hid (Nw w gm bl ao U1.heap.size) := ⟨HP1.out.size, by have := HL1.out; omega, by have h1 := HP1.out.size; have h2 := HBL.out; omega, alive_ne HP1.out.alive⟩
              have HB12 : Hid (Blk (U1.alloc (.cells #[.int .i64 0, .int .i64 0, .int .i64 0, .int .i64 0] 50)) g1 #[.slice none 0 0] 25) := HB11.out.alloc _
              have HD : Hid (g1 ≠ U1.heap.size) := by have := HB11.out.lt; show _ ≠ _; omega
              refine wp_runOp (v := .pointer (some ⟨U1.heap.size, 0, none⟩)) (w' := (U1.alloc (.cells #[.int .i64 0, .int .i64 0, .int .i64 0, .int .i64 0] 50))) 14 rfl (by clear hK; go_simp) ?_
              refine hK.out _ _ HQ2.out (fun hHeld => ?_)
              clear hK HP1 HQ1 HL1 HB11
              simp only [Act.put, List.setIfInBounds_toArray, List.set_cons_zero, List.set_cons_succ]
              generalize U1.heap.size = g2 at *
              generalize U1.alloc _ = U2 at *
              refine wpAnyH_ready (rs := [6]) (by kernel_rfl) (by simp) (AllReadyH.cons rfl (fun K hK => ?_) AllReadyH.nil)
              rw [if_pos (by rfl)]
              refine wp_callOp 56 rfl (by clear hK; go_simp) (HSQ.out _ HP2.out.bel HP2.out.came HP2.out.alive) ?_
              rintro e U3 ⟨a', n', co', ls, t, rfl, hc, hal, hnr, hsi, hb⟩
              have HP3 : Hid (Pa w U3 a c xs ⟨me1, rev1, cr1, h1, b1, bad1, lock1⟩ ao no co l) := HP2.out.next hb
              have HQ3 : Hid (Sr (w.heap.size + 1) gm bl (off + k * 4) (.slice ao no co) #[.int .i64 me1, .int .i64 rev1, .int .i64 cr1, .int .i64 h1, .int .u64 (b1 : Int), .int .i64 bad1, .int .i64 lock1] q0 q1 q2 q3 U3) := HQ2.out.next hb
              have HL3 : Hid (gm < U3.heap.size) := Nat.lt_of_lt_of_le HL2.out hb.size
              have HFA : Hid (∀ y, a' = some y → w.heap.size + 2 ≤ y.block) := near_far hnr HP2.out.size HP2.out.far
              have HSI : Hid (SoldIs ⟨me1, rev1, cr1, h1, b1, bad1, lock1⟩ l kk ls t) := hsi
              have HC3 : Hid (Came U3 a' n' co' ls ∧ Alive U3 a') := ⟨hc, hal⟩
              have HB13 : Hid (Blk U3 g1 #[.slice none 0 0] 25) := HB12.out.next hb
              have HE1 : Hid (∀ y, a' = some y → y.block ≠ g1) := near_ne hnr HB12.out.lt HW1.out.ne
              have HB23 : Hid (Blk U3 g2 #[.int .i64 0, .int .i64 0, .int .i64 0, .int .i64 0] 50) := HB22.out.next hb
              have HE2 : Hid (∀ y, a' = some y → y.block ≠ g2) := near_ne hnr HB22.out.lt HW2.out.ne
              refine ⟨_, rfl, hK.out _ _ HQ3.out (fun hHeld => ?_)⟩
              clear hK hb hc hal hnr hsi HSQ HP2 HQ2 HL2 HB12 HB22
              simp only [Act.put, List.setIfInBounds_toArray, List.set_cons_zero, List.set_cons_succ]
              refine take_at 7 49 (.tuple #[.agg #[.slice a' n' co'], .agg #[.int .i64 kc, .int .i64 ki, .int .i64 ka, .int .i64 (t : Int)], .bool true]) _ rfl rfl (by kernel_rfl) (by kernel_rfl) (by kernel_rfl) (fun _ _ _ h => h) (Or.inl ⟨by rfl, fun v hv => by skip; clear hv; go_simp⟩) hHeld ?_
              simp only [Act.put, List.setIfInBounds_toArray, List.set_cons_zero, List.set_cons_succ]
              refine take_at 8 57 (.agg #[.slice a' n' co']) _ rfl rfl (by kernel_rfl) (by kernel_rfl) (by kernel_rfl) (fun _ _ _ h => h) (Or.inl ⟨by rfl, fun v hv => by skip; clear hv; go_simp⟩) hHeld ?_
              simp only [Act.put, List.setIfInBounds_toArray, List.set_cons_zero, List.set_cons_succ]
              refine take_at 9 58 (.agg #[.int .i64 kc, .int .i64 ki, .int .i64 ka, .int .i64 (t : Int)]) _ rfl rfl (by kernel_rfl) (by kernel_rfl) (by kernel_rfl) (fun _ _ _ h => h) (Or.inl ⟨by rfl, fun v hv => by skip; clear hv; go_simp⟩) hHeld ?_
              simp only [Act.put, List.setIfInBounds_toArray, List.set_cons_zero, List.set_cons_succ]
              refine take_at 10 59 (.bool true) _ rfl rfl (by kernel_rfl) (by kernel_rfl) (by kernel_rfl) (fun _ _ _ h => h) (Or.inl ⟨by rfl, fun v hv => by skip; clear hv; go_simp⟩) hHeld ?_
              simp only [Act.put, List.setIfInBounds_toArray, List.set_cons_zero, List.set_cons_succ]
              refine wpAnyH_ready (rs := [13]) (by kernel_rfl) (by simp) (AllReadyH.cons rfl (fun K hK => ?_) AllReadyH.nil)
              rw [if_pos (by rfl)]
              refine wp_letOp 25 _ _ rfl g1 rfl #[.slice a' n' co'] rfl (by kernel_rfl) (by simp [Value.oneCell']) #[.slice none 0 0] 25 HB13.out rfl rfl ?_
              intro U4 hU
              have HP4 : Hid (Pa w U4 a c xs ⟨me1, rev1, cr1, h1, b1, bad1, lock1⟩ ao no co l) := HP3.out.upd hU HB13.out (no_slice _ _ _) HW1.out.low HW1.out.ne
              have HQ4 : Hid (Sr (w.heap.size + 1) gm bl (off + k * 4) (.slice ao no co) #[.int .i64 me1, .int .i64 rev1, .int .i64 cr1, .int .i64 h1, .int .u64 (b1 : Int), .int .i64 bad1, .int .i64 lock1] q0 q1 q2 q3 U4) := HQ3.out.upd hU (by have := HW1.out.low; omega) HW1.out.m HW1.out.b
              have HB14 : Hid (Blk U4 g1 #[.slice a' n' co'] 25) := hU.blk
              have HC4 : Hid (Came U4 a' n' co' ls ∧ Alive U4 a') := ⟨upd_came hU HC3.out.1 HE1.out, fun y hy => by rw [hU.size]; exact HC3.out.2 y hy⟩
              have HB24 : Hid (Blk U4 g2 #[.int .i64 0, .int .i64 0, .int .i64 0, .int .i64 0] 50) := hU.keep HB23.out (by have := HD.out; omega)
              refine hK.out _ _ HQ4.out (fun hHeld => ?_)
              clear hK hU HP3 HQ3 HB13 HC3 HB23
              refine wpAnyH_ready (rs := [14]) (by kernel_rfl) (by simp) (AllReadyH.cons rfl (fun K hK => ?_) AllReadyH.nil)
              rw [if_pos (by rfl)]
              refine wp_letOp 50 _ _ rfl g2 rfl #[.int .i64 kc, .int .i64 ki, .int .i64 ka, .int .i64 (t : Int)] rfl (by kernel_rfl) (by simp [Value.oneCell']) #[.int .i64 0, .int .i64 0, .int .i64 0, .int .i64 0] 50 HB24.out rfl rfl ?_
              intro U5 hU
              have HP5 : Hid (Pa w U5 a c xs ⟨me1, rev1, cr1, h1, b1, bad1, lock1⟩ ao no co l) := HP4.out.upd hU HB24.out (no_four _ _ _ _) HW2.out.low HW2.out.ne
              have HQ5 : Hid (Sr (w.heap.size + 1) gm bl (off + k * 4) (.slice ao no co) #[.int .i64 me1, .int .i64 rev1, .int .i64 cr1, .int .i64 h1, .int .u64 (b1 : Int), .int .i64 bad1, .int .i64 lock1] q0 q1 q2 q3 U5) := HQ4.out.upd hU (by have := HW2.out.low; omega) HW2.out.m HW2.out.b
              have HB25 : Hid (Blk U5 g2 #[.int .i64 kc, .int .i64 ki, .int .i64 ka, .int .i64 (t : Int)] 50) := hU.blk
              have HC5 : Hid (Came U5 a' n' co' ls ∧ Alive U5 a') := ⟨upd_came hU HC4.out.1 HE2.out, fun y hy => by rw [hU.size]; exact HC4.out.2 y hy⟩
              have HB15 : Hid (Blk U5 g1 #[.slice a' n' co'] 25) := hU.keep HB14.out (by have := HD.out; omega)
              refine hK.out _ _ HQ5.out (fun hHeld => ?_)
              clear hK hU HP4 HQ4 HB24 HC4 HB14
              refine take_at 15 15 (.bool true) _ rfl rfl (by kernel_rfl) (by kernel_rfl) (by kernel_rfl) (fun _ _ _ h => h) (Or.inl ⟨by rfl, fun v hv => by skip; clear hv; go_simp⟩) hHeld ?_
              simp only [Act.put, List.setIfInBounds_toArray, List.set_cons_zero, List.set_cons_succ]
              refine wpAnyH_done (by kernel_rfl) ?_ _
              clear hHeld
              go_wp2_with fail
              go_meet
              case rel => exact ⟨g1, g2, a', n', co', ls, t, rfl, rfl, rfl, HB15.out, HB25.out, HP5.out, HC5.out.1, HC5.out.2, HFA.out, HSI.out⟩
          · rw [if_pos (by rfl)]
            have HP1 : Hid (Pa w (U0.alloc (.cells #[.int .i64 0, .int .i64 0, .int .i64 0, .int .i64 0] 50)) a c xs ⟨me1, rev1, cr1, h1, b1, bad1, lock1⟩ ao no co l) := HP0.out.alloc _
            have HQ1 : Hid (Sr (w.heap.size + 1) gm bl (off + k * 4) (.slice ao no co) #[.int .i64 me1, .int .i64 rev1, .int .i64 cr1, .int .i64 h1, .int .u64 (b1 : Int), .int .i64 bad1, .int .i64 lock1] q0 q1 q2 q3 (U0.alloc (.cells #[.int .i64 0, .int .i64 0, .int .i64 0, .int .i64 0] 50))) := HQ0.out.alloc _
            have HL1 : Hid (gm < (U0.alloc (.cells #[.int .i64 0, .int .i64 0, .int .i64 0, .int .i64 0] 50)).heap.size) := Nat.lt_of_lt_of_le HL0.out (by simp)
            have HB21 : Hid (Blk (U0.alloc (.cells #[.int .i64 0, .int .i64 0, .int .i64 0, .int .i64 0] 50)) U0.heap.size #[.int .i64 0, .int .i64 0, .int .i64 0, .int .i64 0] 50) := Blk.new _ _ _
            have HW2 : Hid (Nw w gm bl ao U0.heap.size) := ⟨HP0.out.size, by have := HL0.out; omega, by have h1 := HP0.out.size; have h2 := HBL.out; omega, alive_ne HP0.out.alive⟩
            refine wp_runOp (v := .pointer (some ⟨U0.heap.size, 0, none⟩)) (w' := (U0.alloc (.cells #[.int .i64 0, .int .i64 0, .int .i64 0, .int .i64 0] 50))) 14 rfl (by clear hK; go_simp) ?_
            refine hK.out _ _ HQ1.out (fun hHeld => ?_)
            clear hK HP0 HQ0 HL0
            simp only [Act.put, List.setIfInBounds_toArray, List.set_cons_zero, List.set_cons_succ]
            generalize U0.heap.size = g2 at *
            generalize U0.alloc _ = U1 at *
            refine wpAnyH_ready (rs := [6, 11]) (by kernel_rfl) (by simp) (AllReadyH.cons rfl (fun K hK => ?_) (AllReadyH.cons rfl (fun K hK => ?_) AllReadyH.nil))
            · rw [if_pos (by rfl)]
              refine wp_callOp 56 rfl (by clear hK; go_simp) (HSQ.out _ HP1.out.bel HP1.out.came HP1.out.alive) ?_
              rintro e U2 ⟨a', n', co', ls, t, rfl, hc, hal, hnr, hsi, hb⟩
              have HP2 : Hid (Pa w U2 a c xs ⟨me1, rev1, cr1, h1, b1, bad1, lock1⟩ ao no co l) := HP1.out.next hb
              have HQ2 : Hid (Sr (w.heap.size + 1) gm bl (off + k * 4) (.slice ao no co) #[.int .i64 me1, .int .i64 rev1, .int .i64 cr1, .int .i64 h1, .int .u64 (b1 : Int), .int .i64 bad1, .int .i64 lock1] q0 q1 q2 q3 U2) := HQ1.out.next hb
              have HL2 : Hid (gm < U2.heap.size) := Nat.lt_of_lt_of_le HL1.out hb.size
              have HFA : Hid (∀ y, a' = some y → w.heap.size + 2 ≤ y.block) := near_far hnr HP1.out.size HP1.out.far
              have HSI : Hid (SoldIs ⟨me1, rev1, cr1, h1, b1, bad1, lock1⟩ l kk ls t) := hsi
              have HC2 : Hid (Came U2 a' n' co' ls ∧ Alive U2 a') := ⟨hc, hal⟩
              have HB22 : Hid (Blk U2 g2 #[.int .i64 0, .int .i64 0, .int .i64 0, .int .i64 0] 50) := HB21.out.next hb
              have HE2 : Hid (∀ y, a' = some y → y.block ≠ g2) := near_ne hnr HB21.out.lt HW2.out.ne
              refine ⟨_, rfl, hK.out _ _ HQ2.out (fun hHeld => ?_)⟩
              clear hK hb hc hal hnr hsi HSQ HP1 HQ1 HL1 HB21
              simp only [Act.put, List.setIfInBounds_toArray, List.set_cons_zero, List.set_cons_succ]
              refine take_at 7 49 (.tuple #[.agg #[.slice a' n' co'], .agg #[.int .i64 kc, .int .i64 ki, .int .i64 ka, .int .i64 (t : Int)], .bool true]) _ rfl rfl (by kernel_rfl) (by kernel_rfl) (by kernel_rfl) (fun _ _ _ h => h) (Or.inl ⟨by rfl, fun v hv => by skip; clear hv; go_simp⟩) hHeld ?_
              simp only [Act.put, List.setIfInBounds_toArray, List.set_cons_zero, List.set_cons_succ]
              refine take_at 8 57 (.agg #[.slice a' n' co']) _ rfl rfl (by kernel_rfl) (by kernel_rfl) (by kernel_rfl) (fun _ _ _ h => h) (Or.inl ⟨by rfl, fun v hv => by skip; clear hv; go_simp⟩) hHeld ?_
              simp only [Act.put, List.setIfInBounds_toArray, List.set_cons_zero, List.set_cons_succ]
              refine take_at 9 58 (.agg #[.int .i64 kc, .int .i64 ki, .int .i64 ka, .int .i64 (t : Int)]) _ rfl rfl (by kernel_rfl) (by kernel_rfl) (by kernel_rfl) (fun _ _ _ h => h) (Or.inl ⟨by rfl, fun v hv => by skip; clear hv; go_simp⟩) hHeld ?_
              simp only [Act.put, List.setIfInBounds_toArray, List.set_cons_zero, List.set_cons_succ]
              refine take_at 10 59 (.bool true) _ rfl rfl (by kernel_rfl) (by kernel_rfl) (by kernel_rfl) (fun _ _ _ h => h) (Or.inl ⟨by rfl, fun v hv => by skip; clear hv; go_simp⟩) hHeld ?_
              simp only [Act.put, List.setIfInBounds_toArray, List.set_cons_zero, List.set_cons_succ]
              refine wpAnyH_ready (rs := [11]) (by kernel_rfl) (by simp) (AllReadyH.cons rfl (fun K hK => ?_) AllReadyH.nil)
              rw [if_pos (by rfl)]
              have HP3 : Hid (Pa w (U2.alloc (.cells #[.slice none 0 0] 25)) a c xs ⟨me1, rev1, cr1, h1, b1, bad1, lock1⟩ ao no co l) := HP2.out.alloc _
              have HQ3 : Hid (Sr (w.heap.size + 1) gm bl (off + k * 4) (.slice ao no co) #[.int .i64 me1, .int .i64 rev1, .int .i64 cr1, .int .i64 h1, .int .u64 (b1 : Int), .int .i64 bad1, .int .i64 lock1] q0 q1 q2 q3 (U2.alloc (.cells #[.slice none 0 0] 25))) := HQ2.out.alloc _
              have HL3 : Hid (gm < (U2.alloc (.cells #[.slice none 0 0] 25)).heap.size) := Nat.lt_of_lt_of_le HL2.out (by simp)
              have HB13 : Hid (Blk (U2.alloc (.cells #[.slice none 0 0] 25)) U2.heap.size #[.slice none 0 0] 25) := Blk.new _ _ _
              have HW1 : Hid (Nw w gm bl ao U2.heap.size) := ⟨HP2.out.size, by have := HL2.out; omega, by have h1 := HP2.out.size; have h2 := HBL.out; omega, alive_ne HP2.out.alive⟩
              have HB23 : Hid (Blk (U2.alloc (.cells #[.slice none 0 0] 25)) g2 #[.int .i64 0, .int .i64 0, .int .i64 0, .int .i64 0] 50) := HB22.out.alloc _
              have HD : Hid (g2 ≠ U2.heap.size) := by have := HB22.out.lt; show _ ≠ _; omega
              have HC3 : Hid (Came (U2.alloc (.cells #[.slice none 0 0] 25)) a' n' co' ls ∧ Alive (U2.alloc (.cells #[.slice none 0 0] 25)) a') := ⟨HC2.out.1.below ((Below.refl _ _).alloc (Nat.le_refl _) _), HC2.out.2.below ((Below.refl _ _).alloc (Nat.le_refl _) _)⟩
              have HE1 : Hid (∀ y, a' = some y → y.block ≠ U2.heap.size) := alive_ne HC2.out.2
              refine wp_runOp (v := .pointer (some ⟨U2.heap.size, 0, none⟩)) (w' := (U2.alloc (.cells #[.slice none 0 0] 25))) 13 rfl (by clear hK; go_simp) ?_
              refine hK.out _ _ HQ3.out (fun hHeld => ?_)
              clear hK HP2 HQ2 HL2 HB22 HC2
              simp only [Act.put, List.setIfInBounds_toArray, List.set_cons_zero, List.set_cons_succ]
              generalize U2.heap.size = g1 at *
              generalize U2.alloc _ = U3 at *
              refine wpAnyH_ready (rs := [13]) (by kernel_rfl) (by simp) (AllReadyH.cons rfl (fun K hK => ?_) AllReadyH.nil)
              rw [if_pos (by rfl)]
              refine wp_letOp 25 _ _ rfl g1 rfl #[.slice a' n' co'] rfl (by kernel_rfl) (by simp [Value.oneCell']) #[.slice none 0 0] 25 HB13.out rfl rfl ?_
              intro U4 hU
              have HP4 : Hid (Pa w U4 a c xs ⟨me1, rev1, cr1, h1, b1, bad1, lock1⟩ ao no co l) := HP3.out.upd hU HB13.out (no_slice _ _ _) HW1.out.low HW1.out.ne
              have HQ4 : Hid (Sr (w.heap.size + 1) gm bl (off + k * 4) (.slice ao no co) #[.int .i64 me1, .int .i64 rev1, .int .i64 cr1, .int .i64 h1, .int .u64 (b1 : Int), .int .i64 bad1, .int .i64 lock1] q0 q1 q2 q3 U4) := HQ3.out.upd hU (by have := HW1.out.low; omega) HW1.out.m HW1.out.b
              have HB14 : Hid (Blk U4 g1 #[.slice a' n' co'] 25) := hU.blk
              have HC4 : Hid (Came U4 a' n' co' ls ∧ Alive U4 a') := ⟨upd_came hU HC3.out.1 HE1.out, fun y hy => by rw [hU.size]; exact HC3.out.2 y hy⟩
              have HB24 : Hid (Blk U4 g2 #[.int .i64 0, .int .i64 0, .int .i64 0, .int .i64 0] 50) := hU.keep HB23.out (by have := HD.out; omega)
              refine hK.out _ _ HQ4.out (fun hHeld => ?_)
              clear hK hU HP3 HQ3 HB13 HC3 HB23
              refine wpAnyH_ready (rs := [14]) (by kernel_rfl) (by simp) (AllReadyH.cons rfl (fun K hK => ?_) AllReadyH.nil)
              rw [if_pos (by rfl)]
              refine wp_letOp 50 _ _ rfl g2 rfl #[.int .i64 kc, .int .i64 ki, .int .i64 ka, .int .i64 (t : Int)] rfl (by kernel_rfl) (by simp [Value.oneCell']) #[.int .i64 0, .int .i64 0, .int .i64 0, .int .i64 0] 50 HB24.out rfl rfl ?_
              intro U5 hU
              have HP5 : Hid (Pa w U5 a c xs ⟨me1, rev1, cr1, h1, b1, bad1, lock1⟩ ao no co l) := HP4.out.upd hU HB24.out (no_four _ _ _ _) HW2.out.low HW2.out.ne
              have HQ5 : Hid (Sr (w.heap.size + 1) gm bl (off + k * 4) (.slice ao no co) #[.int .i64 me1, .int .i64 rev1, .int .i64 cr1, .int .i64 h1, .int .u64 (b1 : Int), .int .i64 bad1, .int .i64 lock1] q0 q1 q2 q3 U5) := HQ4.out.upd hU (by have := HW2.out.low; omega) HW2.out.m HW2.out.b
              have HB25 : Hid (Blk U5 g2 #[.int .i64 kc, .int .i64 ki, .int .i64 ka, .int .i64 (t : Int)] 50) := hU.blk
              have HC5 : Hid (Came U5 a' n' co' ls ∧ Alive U5 a') := ⟨upd_came hU HC4.out.1 HE2.out, fun y hy => by rw [hU.size]; exact HC4.out.2 y hy⟩
              have HB15 : Hid (Blk U5 g1 #[.slice a' n' co'] 25) := hU.keep HB14.out (by have := HD.out; omega)
              refine hK.out _ _ HQ5.out (fun hHeld => ?_)
              clear hK hU HP4 HQ4 HB24 HC4 HB14
              refine take_at 15 15 (.bool true) _ rfl rfl (by kernel_rfl) (by kernel_rfl) (by kernel_rfl) (fun _ _ _ h => h) (Or.inl ⟨by rfl, fun v hv => by skip; clear hv; go_simp⟩) hHeld ?_
              simp only [Act.put, List.setIfInBounds_toArray, List.set_cons_zero, List.set_cons_succ]
              refine wpAnyH_done (by kernel_rfl) ?_ _
              clear hHeld
              go_wp2_with fail
              go_meet
              case rel => exact ⟨g1, g2, a', n', co', ls, t, rfl, rfl, rfl, HB15.out, HB25.out, HP5.out, HC5.out.1, HC5.out.2, HFA.out, HSI.out⟩
            · rw [if_pos (by rfl)]
              have HP2 : Hid (Pa w (U1.alloc (.cells #[.slice none 0 0] 25)) a c xs ⟨me1, rev1, cr1, h1, b1, bad1, lock1⟩ ao no co l) := HP1.out.alloc _
              have HQ2 : Hid (Sr (w.heap.size + 1) gm bl (off + k * 4) (.slice ao no co) #[.int .i64 me1, .int .i64 rev1, .int .i64 cr1, .int .i64 h1, .int .u64 (b1 : Int), .int .i64 bad1, .int .i64 lock1] q0 q1 q2 q3 (U1.alloc (.cells #[.slice none 0 0] 25))) := HQ1.out.alloc _
              have HL2 : Hid (gm < (U1.alloc (.cells #[.slice none 0 0] 25)).heap.size) := Nat.lt_of_lt_of_le HL1.out (by simp)
              have HB12 : Hid (Blk (U1.alloc (.cells #[.slice none 0 0] 25)) U1.heap.size #[.slice none 0 0] 25) := Blk.new _ _ _
              have HW1 : Hid (Nw w gm bl ao U1.heap.size) := ⟨HP1.out.size, by have := HL1.out; omega, by have h1 := HP1.out.size; have h2 := HBL.out; omega, alive_ne HP1.out.alive⟩
              have HB22 : Hid (Blk (U1.alloc (.cells #[.slice none 0 0] 25)) g2 #[.int .i64 0, .int .i64 0, .int .i64 0, .int .i64 0] 50) := HB21.out.alloc _
              have HD : Hid (g2 ≠ U1.heap.size) := by have := HB21.out.lt; show _ ≠ _; omega
              refine wp_runOp (v := .pointer (some ⟨U1.heap.size, 0, none⟩)) (w' := (U1.alloc (.cells #[.slice none 0 0] 25))) 13 rfl (by clear hK; go_simp) ?_
              refine hK.out _ _ HQ2.out (fun hHeld => ?_)
              clear hK HP1 HQ1 HL1 HB21
              simp only [Act.put, List.setIfInBounds_toArray, List.set_cons_zero, List.set_cons_succ]
              generalize U1.heap.size = g1 at *
              generalize U1.alloc _ = U2 at *
              refine wpAnyH_ready (rs := [6]) (by kernel_rfl) (by simp) (AllReadyH.cons rfl (fun K hK => ?_) AllReadyH.nil)
              rw [if_pos (by rfl)]
              refine wp_callOp 56 rfl (by clear hK; go_simp) (HSQ.out _ HP2.out.bel HP2.out.came HP2.out.alive) ?_
              rintro e U3 ⟨a', n', co', ls, t, rfl, hc, hal, hnr, hsi, hb⟩
              have HP3 : Hid (Pa w U3 a c xs ⟨me1, rev1, cr1, h1, b1, bad1, lock1⟩ ao no co l) := HP2.out.next hb
              have HQ3 : Hid (Sr (w.heap.size + 1) gm bl (off + k * 4) (.slice ao no co) #[.int .i64 me1, .int .i64 rev1, .int .i64 cr1, .int .i64 h1, .int .u64 (b1 : Int), .int .i64 bad1, .int .i64 lock1] q0 q1 q2 q3 U3) := HQ2.out.next hb
              have HL3 : Hid (gm < U3.heap.size) := Nat.lt_of_lt_of_le HL2.out hb.size
              have HFA : Hid (∀ y, a' = some y → w.heap.size + 2 ≤ y.block) := near_far hnr HP2.out.size HP2.out.far
              have HSI : Hid (SoldIs ⟨me1, rev1, cr1, h1, b1, bad1, lock1⟩ l kk ls t) := hsi
              have HC3 : Hid (Came U3 a' n' co' ls ∧ Alive U3 a') := ⟨hc, hal⟩
              have HB13 : Hid (Blk U3 g1 #[.slice none 0 0] 25) := HB12.out.next hb
              have HE1 : Hid (∀ y, a' = some y → y.block ≠ g1) := near_ne hnr HB12.out.lt HW1.out.ne
              have HB23 : Hid (Blk U3 g2 #[.int .i64 0, .int .i64 0, .int .i64 0, .int .i64 0] 50) := HB22.out.next hb
              have HE2 : Hid (∀ y, a' = some y → y.block ≠ g2) := near_ne hnr HB22.out.lt HW2.out.ne
              refine ⟨_, rfl, hK.out _ _ HQ3.out (fun hHeld => ?_)⟩
              clear hK hb hc hal hnr hsi HSQ HP2 HQ2 HL2 HB12 HB22
              simp only [Act.put, List.setIfInBounds_toArray, List.set_cons_zero, List.set_cons_succ]
              refine take_at 7 49 (.tuple #[.agg #[.slice a' n' co'], .agg #[.int .i64 kc, .int .i64 ki, .int .i64 ka, .int .i64 (t : Int)], .bool true]) _ rfl rfl (by kernel_rfl) (by kernel_rfl) (by kernel_rfl) (fun _ _ _ h => h) (Or.inl ⟨by rfl, fun v hv => by skip; clear hv; go_simp⟩) hHeld ?_
              simp only [Act.put, List.setIfInBounds_toArray, List.set_cons_zero, List.set_cons_succ]
              refine take_at 8 57 (.agg #[.slice a' n' co']) _ rfl rfl (by kernel_rfl) (by kernel_rfl) (by kernel_rfl) (fun _ _ _ h => h) (Or.inl ⟨by rfl, fun v hv => by skip; clear hv; go_simp⟩) hHeld ?_
              simp only [Act.put, List.setIfInBounds_toArray, List.set_cons_zero, List.set_cons_succ]
              refine take_at 9 58 (.agg #[.int .i64 kc, .int .i64 ki, .int .i64 ka, .int .i64 (t : Int)]) _ rfl rfl (by kernel_rfl) (by kernel_rfl) (by kernel_rfl) (fun _ _ _ h => h) (Or.inl ⟨by rfl, fun v hv => by skip; clear hv; go_simp⟩) hHeld ?_
              simp only [Act.put, List.setIfInBounds_toArray, List.set_cons_zero, List.set_cons_succ]
              refine take_at 10 59 (.bool true) _ rfl rfl (by kernel_rfl) (by kernel_rfl) (by kernel_rfl) (fun _ _ _ h => h) (Or.inl ⟨by rfl, fun v hv => by skip; clear hv; go_simp⟩) hHeld ?_
              simp only [Act.put, List.setIfInBounds_toArray, List.set_cons_zero, List.set_cons_succ]
              refine wpAnyH_ready (rs := [13]) (by kernel_rfl) (by simp) (AllReadyH.cons rfl (fun K hK => ?_) AllReadyH.nil)
              rw [if_pos (by rfl)]
              refine wp_letOp 25 _ _ rfl g1 rfl #[.slice a' n' co'] rfl (by kernel_rfl) (by simp [Value.oneCell']) #[.slice none 0 0] 25 HB13.out rfl rfl ?_
              intro U4 hU
              have HP4 : Hid (Pa w U4 a c xs ⟨me1, rev1, cr1, h1, b1, bad1, lock1⟩ ao no co l) := HP3.out.upd hU HB13.out (no_slice _ _ _) HW1.out.low HW1.out.ne
              have HQ4 : Hid (Sr (w.heap.size + 1) gm bl (off + k * 4) (.slice ao no co) #[.int .i64 me1, .int .i64 rev1, .int .i64 cr1, .int .i64 h1, .int .u64 (b1 : Int), .int .i64 bad1, .int .i64 lock1] q0 q1 q2 q3 U4) := HQ3.out.upd hU (by have := HW1.out.low; omega) HW1.out.m HW1.out.b
              have HB14 : Hid (Blk U4 g1 #[.slice a' n' co'] 25) := hU.blk
              have HC4 : Hid (Came U4 a' n' co' ls ∧ Alive U4 a') := ⟨upd_came hU HC3.out.1 HE1.out, fun y hy => by rw [hU.size]; exact HC3.out.2 y hy⟩
              have HB24 : Hid (Blk U4 g2 #[.int .i64 0, .int .i64 0, .int .i64 0, .int .i64 0] 50) := hU.keep HB23.out (by have := HD.out; omega)
              refine hK.out _ _ HQ4.out (fun hHeld => ?_)
              clear hK hU HP3 HQ3 HB13 HC3 HB23
              refine wpAnyH_ready (rs := [14]) (by kernel_rfl) (by simp) (AllReadyH.cons rfl (fun K hK => ?_) AllReadyH.nil)
              rw [if_pos (by rfl)]
              refine wp_letOp 50 _ _ rfl g2 rfl #[.int .i64 kc, .int .i64 ki, .int .i64 ka, .int .i64 (t : Int)] rfl (by kernel_rfl) (by simp [Value.oneCell']) #[.int .i64 0, .int .i64 0, .int .i64 0, .int .i64 0] 50 HB24.out rfl rfl ?_
              intro U5 hU
              have HP5 : Hid (Pa w U5 a c xs ⟨me1, rev1, cr1, h1, b1, bad1, lock1⟩ ao no co l) := HP4.out.upd hU HB24.out (no_four _ _ _ _) HW2.out.low HW2.out.ne
              have HQ5 : Hid (Sr (w.heap.size + 1) gm bl (off + k * 4) (.slice ao no co) #[.int .i64 me1, .int .i64 rev1, .int .i64 cr1, .int .i64 h1, .int .u64 (b1 : Int), .int .i64 bad1, .int .i64 lock1] q0 q1 q2 q3 U5) := HQ4.out.upd hU (by have := HW2.out.low; omega) HW2.out.m HW2.out.b
              have HB25 : Hid (Blk U5 g2 #[.int .i64 kc, .int .i64 ki, .int .i64 ka, .int .i64 (t : Int)] 50) := hU.blk
              have HC5 : Hid (Came U5 a' n' co' ls ∧ Alive U5 a') := ⟨upd_came hU HC4.out.1 HE2.out, fun y hy => by rw [hU.size]; exact HC4.out.2 y hy⟩
              have HB15 : Hid (Blk U5 g1 #[.slice a' n' co'] 25) := hU.keep HB14.out (by have := HD.out; omega)
              refine hK.out _ _ HQ5.out (fun hHeld => ?_)
              clear hK hU HP4 HQ4 HB24 HC4 HB14
              refine take_at 15 15 (.bool true) _ rfl rfl (by kernel_rfl) (by kernel_rfl) (by kernel_rfl) (fun _ _ _ h => h) (Or.inl ⟨by rfl, fun v hv => by skip; clear hv; go_simp⟩) hHeld ?_
              simp only [Act.put, List.setIfInBounds_toArray, List.set_cons_zero, List.set_cons_succ]
              refine wpAnyH_done (by kernel_rfl) ?_ _
              clear hHeld
              go_wp2_with fail
              go_meet
              case rel => exact ⟨g1, g2, a', n', co', ls, t, rfl, rfl, rfl, HB15.out, HB25.out, HP5.out, HC5.out.1, HC5.out.2, HFA.out, HSI.out⟩
        case rest =>
          obtain ⟨g1, g2, a', n', co', ls, t, rfl, rfl, rfl, hg1, hg2, hpa, hcm, hal, hfa, hsi⟩ := hcut
          have HG1 : Hid (Blk wc g1 #[.slice a' n' co'] 25) := hg1
          have HG2 : Hid (Blk wc g2 #[.int .i64 kc, .int .i64 ki, .int .i64 ka, .int .i64 (t : Int)] 50) := hg2
          have HI4 : Hid (Pa w wc a c xs ⟨me1, rev1, cr1, h1, b1, bad1, lock1⟩ ao no co l) := hpa
          have HC4 : Hid (Came wc a' n' co' ls ∧ Alive wc a') := ⟨hcm, hal⟩
          have HFA : Hid (∀ y, a' = some y → w.heap.size + 2 ≤ y.block) := hfa
          have HSI : Hid (SoldIs ⟨me1, rev1, cr1, h1, b1, bad1, lock1⟩ l kk ls t) := hsi
          have HFQ : Hid (Calls Tryd.prog 13 #[.agg #[.int .i64 kc, .int .i64 ki, .int .i64 ka, .int .i64 (t : Int)]] wc fun e w' => e = .returned (.tuple #[.string (fmtB (97 * (Tok.num ⟨kk.c, kk.i, kk.a, t⟩))), .int .i64 0]) ∧ Below wc.heap.size wc w') := by
            have h := HFM.out wc ⟨kk.c, kk.i, kk.a, t⟩ hsi.ok hpa.bel
            rw [HKT.out.1, HKT.out.2.1, HKT.out.2.2] at h
            exact h
          have HKQ : Hid (∀ W, Pa w W a c xs ⟨me1, rev1, cr1, h1, b1, bad1, lock1⟩ a' n' co' ls → Calls Tryd.prog 11 #[.slice a 12 c, .agg #[.slice a' n' co'], .string (fmtB (97 * (Tok.num ⟨kk.c, kk.i, kk.a, t⟩)))] W fun e w' => HKeyed W xs ⟨me1, rev1, cr1, h1, b1, bad1, lock1⟩ ls kk.c kk.i kk.a t e w') := fun W h => HKD.out W a c xs ⟨me1, rev1, cr1, h1, b1, bad1, lock1⟩ a' n' co' ls ⟨kk.c, kk.i, kk.a, t⟩ hsi.ok h.bel h.hm h.came hsi.may
          clear hg1 hg2 hpa hcm hal hfa hsi HI3 HQ3 HN3 HSQ HFM HKD HSO
          generalize fmtB (97 * (Tok.num ⟨kk.c, kk.i, kk.a, t⟩)) = S at *
          go_wp2_with (first | (refine wp_whole rfl 50 _ rfl (g2) rfl 50 #[.int .i64 kc, .int .i64 ki, .int .i64 ka, .int .i64 (t : Int)] _ HG2.out Tryd.underlying50 rfl (by kernel_rfl) ?_) | fail)
          refine HFQ.out.mono ?_
          rintro e w5 ⟨rfl, hb5⟩
          have HI5 : Hid (Pa w w5 a c xs ⟨me1, rev1, cr1, h1, b1, bad1, lock1⟩ ao no co l) := HI4.out.next hb5
          have HC5 : Hid (Came w5 a' n' co' ls ∧ Alive w5 a') := ⟨HC4.out.1.below hb5, HC4.out.2.below hb5⟩
          have HG5 : Hid (Blk w5 g1 #[.slice a' n' co'] 25) := HG1.out.next hb5
          clear hb5 HFQ HG2 HG1 HI4 HC4
          go_wp2_with (first | (refine wp_whole rfl 25 _ rfl (g1) rfl 25 #[.slice a' n' co'] _ HG5.out Tryd.underlying25 rfl (by kernel_rfl) ?_) | (refine wp_letAll rfl 25 _ _ rfl (w.heap.size + 1) rfl #[.slice a' n' co'] rfl (by kernel_rfl) (by simp [Value.oneCell']) #[.slice ao no co] 25 HI5.out.o rfl ?_) | fail)
          intro W6 hU
          have HI6 : Hid (Pa w W6 a c xs ⟨me1, rev1, cr1, h1, b1, bad1, lock1⟩ a' n' co' ls) := HI5.out.setO hU HC5.out.1 HC5.out.2 HFA.out
          clear hU HI5 HC5 HG5
          go_wp2_with (first | (refine wp_whole rfl 25 _ rfl (w.heap.size + 1) rfl 25 #[.slice a' n' co'] _ HI6.out.o Tryd.underlying25 rfl (by kernel_rfl) ?_) | fail)
          refine (HKQ.out _ HI6.out).mono ?_
          rintro e w7 ⟨b7, n7, d7, wl, x7, f7, m', rfl, hg7, hki, hwi, hb7⟩
          have HI7 : Hid (Pa w w7 a c xs ⟨me1, rev1, cr1, h1, b1, bad1, lock1⟩ a' n' co' ls) := HI6.out.next hb7
          have HAT : Hid (AtIs me K (k + 1) m' ls) := by
            have hx := HX.out; have hs := HSI.out; have hm := HI6.out.hm.mw; have hke := HKE.out
            subst hke
            exact hx.step hm hs hki
          have HMW : Hid (Mw m') := AtIs.mw HI6.out.hm.mw HSI.out hki
          have HG7 : Hid (Wg w7 b7 n7 d7 wl) := hg7
          have HWI : Hid (WrIs xs ⟨me1, rev1, cr1, h1, b1, bad1, lock1⟩ m' wl) := hwi
          have hln := hg7.row.1
          have hor := hwi.len
          clear hb7 hg7 hki hwi HKQ HI6 HX HSI
          rcases hor with ⟨rfl, h0⟩ | ⟨hne, h7⟩
          · obtain rfl : n7 = 0 := hln.symm.trans h0
            clear hln h0
            go_wp2_with fail
            go_roundw
            case rel => exact ⟨k + 1, a, c, xs, _, a', n', co', ls, by omega, by go_num, rfl, HI7.out, HAT.out⟩
            case measure => simp [intOf]; omega
          · obtain rfl : n7 = 7 := hln.symm.trans h7
            have HAQ : Hid (Calls Tryd.prog 9 #[.slice a 12 c, .slice b7 7 d7, .int .i64 7] w7 fun e w' => ∃ a' c' xs', e = .returned (.tuple #[.slice a' 12 c', .int .i64 0]) ∧ Hm w' a' c' xs' m' ∧ Below w7.heap.size w7 w') := HAP.out w7 a c xs ⟨me1, rev1, cr1, h1, b1, bad1, lock1⟩ m' b7 d7 wl HI7.out.hm HG7.out HWI.out HMW.out
            clear hln h7 hne HWI HMW
            go_wp2_with fail
            refine HAQ.out.mono ?_
            rintro e w8 ⟨a8, c8, xs8, rfl, hm8, hb8⟩
            have HI8 : Hid (Pa w w8 a8 c8 xs8 m' a' n' co' ls) := (HI7.out.next hb8).slots hm8
            clear hm8 hb8 HAQ HI7 HG7
            go_wp2_with fail
            go_roundw
            case rel => exact ⟨k + 1, a8, c8, xs8, m', a', n', co', ls, by omega, by go_num, rfl, HI8.out, HAT.out⟩
            case measure => simp [intOf]; omega
      · have hd1 : decide ((k : Int) < (len0 : Int)) = true := by simp; omega
        have hd2 : decide ((k : Int) < 12) = false := by simp; omega
        have HKM : Hid (k = min len0 12) := by show _ = _; omega
        go_upto_region 22 with fail
        have HP0 : Hid (Pa w wr.drew a c xs m ao no co l) := HI.out.drew
        clear HSO HFM HKD HAP HBT HI HRW
        refine wp_region_held_drew (S := fun v => Blk v (w.heap.size + 1) #[.slice ao no co] 25) (by kernel_rfl) HP0.out.o (fun hHeld => ?_)
        refine take_at 0 96 (.slice a 12 c) _ rfl rfl (by kernel_rfl) (by kernel_rfl) (by kernel_rfl) (fun _ _ _ h => h) (Or.inl ⟨by rfl, fun v hv => by skip; clear hv; go_simp⟩) hHeld ?_
        simp only [Act.put, List.setIfInBounds_toArray, List.set_cons_zero, List.set_cons_succ]
        refine take_at 1 97 (.agg #[.slice ao no co]) _ rfl rfl (by kernel_rfl) (by kernel_rfl) (by kernel_rfl) (fun _ _ _ h => h) (yieldsIf_whole (by rfl) 25 _ rfl (w.heap.size + 1) rfl 25 #[.slice ao no co] _ (fun v hv => hv) Tryd.underlying25 rfl (by kernel_rfl)) hHeld ?_
        simp only [Act.put, List.setIfInBounds_toArray, List.set_cons_zero, List.set_cons_succ]
        refine take_at 2 4 (.slice a 12 c) _ rfl rfl (by kernel_rfl) (by kernel_rfl) (by kernel_rfl) (fun _ _ _ h => h) (Or.inl ⟨by rfl, fun v hv => by skip; clear hv; go_simp⟩) hHeld ?_
        simp only [Act.put, List.setIfInBounds_toArray, List.set_cons_zero, List.set_cons_succ]
        generalize wr.drew = U0 at *
        refine wpAnyH_ready (rs := [3]) (by kernel_rfl) (by simp) (AllReadyH.cons rfl (fun K hK => ?_) AllReadyH.nil)
        rw [if_pos (by rfl)]
        refine wp_letOp 25 _ _ rfl w.heap.size rfl #[.slice ao no co] rfl (by kernel_rfl) (by simp [Value.oneCell']) #[.slice none 0 0] 25 HP0.out.res rfl rfl ?_
        intro U1 hU
        have HF : Hid (Hm U1 a c xs m ∧ Came U1 ao no co l ∧ Alive U1 ao ∧ (∀ y, ao = some y → w.heap.size ≤ y.block) ∧ Below w.heap.size w U1) := ⟨HP0.out.hm.upd hU HP0.out.res (no_slice _ _ _), upd_came hU HP0.out.came (fun y hy e => by have := HP0.out.far y hy; omega), (fun y hy => by rw [hU.size]; exact HP0.out.alive y hy), (fun y hy => by have := HP0.out.far y hy; omega), hU.bel _ _ (Nat.le_refl _) HP0.out.bel⟩
        have R0 : Hid (U1.cell? ⟨w.heap.size, 0, none⟩ = some (.slice ao no co)) := hU.blk.cell 0
        refine hK.out _ _ (hU.keep HP0.out.o (by omega)) (fun hHeld => ?_)
        clear hK hU HP0
        refine take_at 4 6 (.bool true) _ rfl rfl (by kernel_rfl) (by kernel_rfl) (by kernel_rfl) (fun _ _ _ h => h) (Or.inl ⟨by rfl, fun v hv => by skip; clear hv; go_simp⟩) hHeld ?_
        simp only [Act.put, List.setIfInBounds_toArray, List.set_cons_zero, List.set_cons_succ]
        refine wpAnyH_done (by kernel_rfl) ?_ _
        clear hHeld
        go_wp2_with fail
        exact bodyPost_ret (v := .tuple #[.slice a 12 c, .agg #[.slice ao no co], .bool true]) (by simp [results, Tryd.results5, R0.out, go_sem]) rfl ⟨a, c, xs, m, ao, no, co, l, rfl, HF.out.1, HF.out.2.1, HF.out.2.2.1, HF.out.2.2.2.1, (by rw [← HKM.out]; exact HX.out), HF.out.2.2.2.2⟩
    · have hd1 : decide ((k : Int) < (len0 : Int)) = false := by simp; omega
      have HKM : Hid (k = min len0 12) := by show _ = _; omega
      go_upto_region 22 with fail
      have HP0 : Hid (Pa w wr.drew a c xs m ao no co l) := HI.out.drew
      clear HSO HFM HKD HAP HBT HI HRW
      refine wp_region_held_drew (S := fun v => Blk v (w.heap.size + 1) #[.slice ao no co] 25) (by kernel_rfl) HP0.out.o (fun hHeld => ?_)
      refine take_at 0 96 (.slice a 12 c) _ rfl rfl (by kernel_rfl) (by kernel_rfl) (by kernel_rfl) (fun _ _ _ h => h) (Or.inl ⟨by rfl, fun v hv => by skip; clear hv; go_simp⟩) hHeld ?_
      simp only [Act.put, List.setIfInBounds_toArray, List.set_cons_zero, List.set_cons_succ]
      refine take_at 1 97 (.agg #[.slice ao no co]) _ rfl rfl (by kernel_rfl) (by kernel_rfl) (by kernel_rfl) (fun _ _ _ h => h) (yieldsIf_whole (by rfl) 25 _ rfl (w.heap.size + 1) rfl 25 #[.slice ao no co] _ (fun v hv => hv) Tryd.underlying25 rfl (by kernel_rfl)) hHeld ?_
      simp only [Act.put, List.setIfInBounds_toArray, List.set_cons_zero, List.set_cons_succ]
      refine take_at 2 4 (.slice a 12 c) _ rfl rfl (by kernel_rfl) (by kernel_rfl) (by kernel_rfl) (fun _ _ _ h => h) (Or.inl ⟨by rfl, fun v hv => by skip; clear hv; go_simp⟩) hHeld ?_
      simp only [Act.put, List.setIfInBounds_toArray, List.set_cons_zero, List.set_cons_succ]
      generalize wr.drew = U0 at *
      refine wpAnyH_ready (rs := [3]) (by kernel_rfl) (by simp) (AllReadyH.cons rfl (fun K hK => ?_) AllReadyH.nil)
      rw [if_pos (by rfl)]
      refine wp_letOp 25 _ _ rfl w.heap.size rfl #[.slice ao no co] rfl (by kernel_rfl) (by simp [Value.oneCell']) #[.slice none 0 0] 25 HP0.out.res rfl rfl ?_
      intro U1 hU
      have HF : Hid (Hm U1 a c xs m ∧ Came U1 ao no co l ∧ Alive U1 ao ∧ (∀ y, ao = some y → w.heap.size ≤ y.block) ∧ Below w.heap.size w U1) := ⟨HP0.out.hm.upd hU HP0.out.res (no_slice _ _ _), upd_came hU HP0.out.came (fun y hy e => by have := HP0.out.far y hy; omega), (fun y hy => by rw [hU.size]; exact HP0.out.alive y hy), (fun y hy => by have := HP0.out.far y hy; omega), hU.bel _ _ (Nat.le_refl _) HP0.out.bel⟩
      have R0 : Hid (U1.cell? ⟨w.heap.size, 0, none⟩ = some (.slice ao no co)) := hU.blk.cell 0
      refine hK.out _ _ (hU.keep HP0.out.o (by omega)) (fun hHeld => ?_)
      clear hK hU HP0
      refine take_at 4 6 (.bool true) _ rfl rfl (by kernel_rfl) (by kernel_rfl) (by kernel_rfl) (fun _ _ _ h => h) (Or.inl ⟨by rfl, fun v hv => by skip; clear hv; go_simp⟩) hHeld ?_
      simp only [Act.put, List.setIfInBounds_toArray, List.set_cons_zero, List.set_cons_succ]
      refine wpAnyH_done (by kernel_rfl) ?_ _
      clear hHeld
      go_wp2_with fail
      exact bodyPost_ret (v := .tuple #[.slice a 12 c, .agg #[.slice ao no co], .bool true]) (by simp [results, Tryd.results5, R0.out, go_sem]) rfl ⟨a, c, xs, m, ao, no, co, l, rfl, HF.out.1, HF.out.2.1, HF.out.2.2.1, HF.out.2.2.2.1, (by rw [← HKM.out]; exact HX.out), HF.out.2.2.2.2⟩

end Go.Proofs.YtgipkpkjoicehabDoor.pkt

/- What the program's beginning does. -/
namespace Go.Proofs.YtgipkpkjoicehabDoor.met
open Go.RowKit
set_option maxRecDepth 100000
set_option linter.unusedVariables false
set_option linter.unusedSimpArgs false

def KBegin (I : World → Prop) : Prop := ∀ W me, I W → Calls Tryd.prog 22 #[.int .i64 me] W fun e w' => BeginPost W me e w'

end Go.Proofs.YtgipkpkjoicehabDoor.met

/- The program's beginning. -/
namespace Go.Proofs.YtgipkpkjoicehabDoor.met
open Go.RowKit
set_option maxRecDepth 100000
set_option linter.unusedVariables false
set_option linter.unusedSimpArgs false

theorem new_may (me : Int) : (mtNew me).may ↔ (0 ≤ me ∧ me ≤ 49) :=
  ⟨fun h => h.me, fun h => ⟨h, by unfold mtNew; simp, by unfold mtNew; simp, by unfold mtNew; simp, by unfold mtNew; simp, (fun hx => hx.1 rfl), .inl ⟨rfl, rfl⟩⟩⟩
set_option maxHeartbeats 1000000 in
theorem pbegin (me : Int) (w : World) : Calls Tryd.prog 22 #[.int .i64 me] w fun e w' => BeginPost w me e w' := by
  have HM : Hid (∀ W, Calls Tryd.prog 36 #[.agg #[.int .i64 me, .int .i64 0, .int .i64 0, .int .i64 0, .int .u64 0, .int .i64 0, .int .i64 0]] W fun e w' => Told W (mtNew me).may e w') := fun W => pmay_any (mtNew me) W (by show (0 : Nat) < _; decide)
  have HR : Hid (Blk ((w.alloc (.cells #[.int .i64 0, .int .i64 0, .int .i64 0, .int .i64 0, .int .u64 0, .int .i64 0, .int .i64 0] 36)).alloc (.cells #[.int .i64 0, .int .i64 0, .int .i64 0, .int .i64 0, .int .u64 0, .int .i64 0, .int .i64 0] 36)) (w.heap.size) #[.int .i64 0, .int .i64 0, .int .i64 0, .int .i64 0, .int .u64 0, .int .i64 0, .int .i64 0] 36) := (Blk.new _ _ _).alloc _
  have HN : Hid (Blk ((w.alloc (.cells #[.int .i64 0, .int .i64 0, .int .i64 0, .int .i64 0, .int .u64 0, .int .i64 0, .int .i64 0] 36)).alloc (.cells #[.int .i64 0, .int .i64 0, .int .i64 0, .int .i64 0, .int .u64 0, .int .i64 0, .int .i64 0] 36)) (w.heap.size + 1) #[.int .i64 0, .int .i64 0, .int .i64 0, .int .i64 0, .int .u64 0, .int .i64 0, .int .i64 0] 36) := Blk.new1 w _ _ _
  have HB : Hid (Below w.heap.size w ((w.alloc (.cells #[.int .i64 0, .int .i64 0, .int .i64 0, .int .i64 0, .int .u64 0, .int .i64 0, .int .i64 0] 36)).alloc (.cells #[.int .i64 0, .int .i64 0, .int .i64 0, .int .i64 0, .int .u64 0, .int .i64 0, .int .i64 0] 36))) := ((Below.refl _ _).alloc (Nat.le_refl _) _).alloc (by simp) _
  go_enter Tryd.func22, Tryd.ntmps22
  go_wp2_with (first
    | (refine wp_letAll rfl 36 _ _ rfl (w.heap.size + 1) rfl #[.int .i64 me, .int .i64 0, .int .i64 0, .int .i64 0, .int .u64 0, .int .i64 0, .int .i64 0] rfl (by kernel_rfl) (by simp [Value.oneCell']) #[.int .i64 0, .int .i64 0, .int .i64 0, .int .i64 0, .int .u64 0, .int .i64 0, .int .i64 0] 36 HN.out rfl ?_)
    | fail)
  intro W1 hU1
  have HR1 : Hid (Blk W1 (w.heap.size) #[.int .i64 0, .int .i64 0, .int .i64 0, .int .i64 0, .int .u64 0, .int .i64 0, .int .i64 0] 36) := hU1.keep HR.out (by omega)
  have HN1 : Hid (Blk W1 (w.heap.size + 1) #[.int .i64 me, .int .i64 0, .int .i64 0, .int .i64 0, .int .u64 0, .int .i64 0, .int .i64 0] 36) := hU1.blk
  have HB1 : Hid (Below w.heap.size w W1) := hU1.bel _ _ (by omega) HB.out
  clear hU1 HR HN HB
  go_wp2_with (first
    | (refine wp_whole rfl 36 _ rfl (w.heap.size + 1) rfl 36 #[.int .i64 me, .int .i64 0, .int .i64 0, .int .i64 0, .int .u64 0, .int .i64 0, .int .i64 0] _ HN1.out Tryd.underlying36 rfl (by kernel_rfl) ?_)
    | fail)
  refine (HM.out _).mono ?_
  rintro e w2 ⟨r, rfl, hr, hb2⟩
  have HR2 : Hid (Blk w2 (w.heap.size) #[.int .i64 0, .int .i64 0, .int .i64 0, .int .i64 0, .int .u64 0, .int .i64 0, .int .i64 0] 36) := HR1.out.next hb2
  have HN2 : Hid (Blk w2 (w.heap.size + 1) #[.int .i64 me, .int .i64 0, .int .i64 0, .int .i64 0, .int .u64 0, .int .i64 0, .int .i64 0] 36) := HN1.out.next hb2
  have HB2 : Hid (Below w.heap.size w w2) := bel_step HB1.out hb2
  have HK : Hid (r = true ↔ (0 ≤ me ∧ me ≤ 49)) := hr.trans (new_may me)
  clear hr hb2 HR1 HN1 HB1 HM
  cases r with
  | false =>
    have HNO : Hid (¬ (0 ≤ me ∧ me ≤ 49)) := fun h => by have := HK.out.2 h; cases this
    go_wp2_with (first
      | (refine wp_letAll rfl 36 _ _ rfl (w.heap.size) rfl #[.int .i64 0, .int .i64 0, .int .i64 0, .int .i64 0, .int .u64 0, .int .i64 0, .int .i64 0] rfl (by kernel_rfl) (by simp [Value.oneCell']) #[.int .i64 0, .int .i64 0, .int .i64 0, .int .i64 0, .int .u64 0, .int .i64 0, .int .i64 0] 36 HR2.out rfl ?_)
      | fail)
    intro WF hUF
    have HBF : Hid (Below w.heap.size w WF) := hUF.bel _ _ (by omega) HB2.out
    have R0 : Hid (WF.cell? ⟨w.heap.size, 0, none⟩ = some (.int .i64 0)) := hUF.blk.cell 0
    have R1 : Hid (WF.cell? ⟨w.heap.size, 1, none⟩ = some (.int .i64 0)) := hUF.blk.cell 1
    have R2 : Hid (WF.cell? ⟨w.heap.size, 2, none⟩ = some (.int .i64 0)) := hUF.blk.cell 2
    have R3 : Hid (WF.cell? ⟨w.heap.size, 3, none⟩ = some (.int .i64 0)) := hUF.blk.cell 3
    have R4 : Hid (WF.cell? ⟨w.heap.size, 4, none⟩ = some (.int .u64 0)) := hUF.blk.cell 4
    have R5 : Hid (WF.cell? ⟨w.heap.size, 5, none⟩ = some (.int .i64 0)) := hUF.blk.cell 5
    have R6 : Hid (WF.cell? ⟨w.heap.size, 6, none⟩ = some (.int .i64 0)) := hUF.blk.cell 6
    clear hUF
    go_wp2_with fail
    exact bodyPost_ret (v := .tuple #[.agg #[.int .i64 0, .int .i64 0, .int .i64 0, .int .i64 0, .int .u64 0, .int .i64 0, .int .i64 0], .int .i64 2]) (by simp [results, Tryd.results22, R0.out, R1.out, R2.out, R3.out, R4.out, R5.out, R6.out, go_sem]) rfl ⟨mt0, 2, rfl, .range HNO.out, HBF.out⟩
  | true =>
    have HYE : Hid (0 ≤ me ∧ me ≤ 49) := HK.out.1 rfl
    go_wp2_with (first
      | (refine wp_whole rfl 36 _ rfl (w.heap.size + 1) rfl 36 #[.int .i64 me, .int .i64 0, .int .i64 0, .int .i64 0, .int .u64 0, .int .i64 0, .int .i64 0] _ HN2.out Tryd.underlying36 rfl (by kernel_rfl) ?_)
      | (refine wp_letAll rfl 36 _ _ rfl (w.heap.size) rfl #[.int .i64 me, .int .i64 0, .int .i64 0, .int .i64 0, .int .u64 0, .int .i64 0, .int .i64 0] rfl (by kernel_rfl) (by simp [Value.oneCell']) #[.int .i64 0, .int .i64 0, .int .i64 0, .int .i64 0, .int .u64 0, .int .i64 0, .int .i64 0] 36 HR2.out rfl ?_)
      | fail)
    intro WF hUF
    have HBF : Hid (Below w.heap.size w WF) := hUF.bel _ _ (by omega) HB2.out
    have R0 : Hid (WF.cell? ⟨w.heap.size, 0, none⟩ = some (.int .i64 me)) := hUF.blk.cell 0
    have R1 : Hid (WF.cell? ⟨w.heap.size, 1, none⟩ = some (.int .i64 0)) := hUF.blk.cell 1
    have R2 : Hid (WF.cell? ⟨w.heap.size, 2, none⟩ = some (.int .i64 0)) := hUF.blk.cell 2
    have R3 : Hid (WF.cell? ⟨w.heap.size, 3, none⟩ = some (.int .i64 0)) := hUF.blk.cell 3
    have R4 : Hid (WF.cell? ⟨w.heap.size, 4, none⟩ = some (.int .u64 0)) := hUF.blk.cell 4
    have R5 : Hid (WF.cell? ⟨w.heap.size, 5, none⟩ = some (.int .i64 0)) := hUF.blk.cell 5
    have R6 : Hid (WF.cell? ⟨w.heap.size, 6, none⟩ = some (.int .i64 0)) := hUF.blk.cell 6
    clear hUF
    go_wp2_with fail
    exact bodyPost_ret (v := .tuple #[.agg #[.int .i64 me, .int .i64 0, .int .i64 0, .int .i64 0, .int .u64 0, .int .i64 0, .int .i64 0], .int .i64 0]) (by simp [results, Tryd.results22, R0.out, R1.out, R2.out, R3.out, R4.out, R5.out, R6.out, go_sem]) rfl ⟨mtNew me, 0, rfl, .ok HYE.out, HBF.out⟩
theorem kbegin {I : World → Prop} : KBegin I := fun W me _ => pbegin me W

end Go.Proofs.YtgipkpkjoicehabDoor.met

/- Slots: fresh ones. -/
namespace Go.Proofs.YtgipkpkjoicehabDoor.slot
open Go.RowKit Go.Proofs.YtgipkpkjoicehabDoor.cell
set_option maxRecDepth 100000
set_option linter.unusedVariables false

theorem fre_eq (n : Nat) : (List.replicate (2 * n + 2) (0 : Int)).set 0 1 = fre n := by
  rw [fre, show 2 * n + 2 = (2 * n + 1) + 1 by omega, List.replicate_succ]; rfl
theorem fre_len (n : Nat) : (fre n).length = 2 * n + 2 := by simp [fre]
set_option maxHeartbeats 1000000 in
theorem fresh_blk (n : Nat) (w : World) (h1 : 1 ≤ n) (h2 : n ≤ 64) :
    Calls Tryd.prog 24 #[.int .i64 (n : Int)] w fun e w' => ∃ g, e = .returned (.tuple #[.slice (some ⟨g, 0, none⟩) (2 * n + 2) (2 * n + 2), .int .i64 0]) ∧ Blk w' g (arr (fre n)) 60 ∧ w.heap.size ≤ g ∧ Below w.heap.size w w' := by
  have HM : Hid (∀ W, Calls Tryd.prog 39 #[.int .i64 (n : Int)] W fun e w' => e = .returned (.bool true) ∧ w' = W) := fun W => smay_yes _ W (by omega) (by omega)
  have hmk : ∀ W : World, (Instr.makeSlice 22 (.int .i64 (2 * ((n : Int) + 1))) (.int .i64 (2 * ((n : Int) + 1)))).run Tryd.prog W = .ok (.slice (some ⟨W.heap.size, 0, none⟩) (2 * n + 2) (2 * n + 2)) (W.alloc (.cells (arr (List.replicate (2 * n + 2) 0)) 60)) := fun W => by
    rw [show (2 * ((n : Int) + 1)) = ((2 * n + 2 : Nat) : Int) by omega]
    exact make_u32 (2 * n + 2) (by omega) W
  have hN := Blk.new w (arr (List.replicate (2 * n + 2) 0)) 60
  have k0 := Blk.word hN 0 (by simp)
  have k1 := hN.free 0
  have HS : Hid (Blk (w.alloc (.cells ((arr (List.replicate (2 * n + 2) 0)).setIfInBounds 0 (.int .u32 1)) 60)) w.heap.size (arr (fre n)) 60) := by
    show Blk _ _ _ _
    rw [arr_set, fre_eq]
    exact Blk.new _ _ _
  have HB : Hid (Below w.heap.size w (w.alloc (.cells ((arr (List.replicate (2 * n + 2) 0)).setIfInBounds 0 (.int .u32 1)) 60))) := (Below.refl _ _).alloc (Nat.le_refl _) _
  have HL : Hid ((fre n).length = 2 * n + 2) := fre_len n
  clear hN
  generalize (List.replicate (2 * n + 2) (0 : Int)).getD 0 0 = z at *
  generalize arr (List.replicate (2 * n + 2) 0) = A at *
  have hm0 : 0 < 2 * n + 2 := by omega
  generalize 2 * n + 2 = m at *
  go_enter Tryd.func24, Tryd.ntmps24
  go_wp2_with fail
  refine (HM.out _).mono ?_
  rintro e w1 ⟨rfl, rfl⟩
  go_wp2_with fail
  go_ret2
  exact ⟨w1.heap.size, rfl, HS.out, Nat.le_refl _, HB.out⟩
theorem fresh_cap (n : Nat) (w : World) (h1 : 1 ≤ n) (h2 : n ≤ 64) :
    Calls Tryd.prog 24 #[.int .i64 (n : Int)] w fun e w' => GaveC w (fre n) 0 e w' := by
  refine (fresh_blk n w h1 h2).mono ?_
  rintro e w' ⟨g, rfl, hg, _, hb⟩
  exact GaveC.mk (Blk.rowU hg (fre_len n)) (fun h => by cases h) (Nat.le_refl _) hb
theorem fresh_yes (n : Nat) (w : World) (h1 : 1 ≤ n) (h2 : n ≤ 64) :
    Calls Tryd.prog 24 #[.int .i64 (n : Int)] w fun e w' => GaveR w (fre n) 0 e w' := (fresh_cap n w h1 h2).mono fun _ _ h => h.gave
theorem fresh_no (n : Int) (w : World) (h : n < 1 ∨ 64 < n) :
    Calls Tryd.prog 24 #[.int .i64 n] w fun e w' => GaveR w [] 1 e w' := by
  have HM : Hid (∀ W, Calls Tryd.prog 39 #[.int .i64 n] W fun e w' => e = .returned (.bool false) ∧ w' = W) := fun W => smay_no _ W h
  clear h
  go_enter Tryd.func24, Tryd.ntmps24
  go_wp2_with fail
  refine (HM.out _).mono ?_
  rintro e w1 ⟨rfl, rfl⟩
  go_wp2_with fail
  go_ret2
  exact ⟨none, 0, rfl, RowU.nil _ _, fun _ => rfl, Below.refl _ _⟩

end Go.Proofs.YtgipkpkjoicehabDoor.slot

/- A new pocket. -/
namespace Go.Proofs.YtgipkpkjoicehabDoor.pkt
open Go.RowKit Go.Proofs.YtgipkpkjoicehabDoor.met Go.Proofs.YtgipkpkjoicehabDoor.slot Go.Proofs.YtgipkpkjoicehabDoor.cell
set_option maxRecDepth 100000
set_option linter.unusedVariables false
set_option linter.unusedSimpArgs false

theorem copy_rec (a : Addr) (cc g : Nat) (me : Int) (w : World) (hr : Blk w g (arr (fre 5)) 60) (hc : ∀ i, i < 5 → w.cell? (a.add i) = some (.int .u32 ((wds (mtNew me)).getD i 0))) :
    (Builtin.copy_ #[22, 22] 3 #[.slice (some ⟨g, 1, none⟩) 11 11, .slice (some a) 5 cc]).run Tryd.prog w = .ok (.int .i64 5) (w.setRow g (arr (mk me))) := by
  rw [wds_new] at hc
  have hrun := run_copy_row (P := Tryd.prog) w 22 22 3 60 g 1 11 11 a 5 cc (arr (fre 5)) 60 (([0, me, 0, 0, 0] : List Int).map (Value.int .u32)) Tryd.underlying22 (by kernel_rfl) hr rfl (by
      intro j u hu
      by_cases hj : j < 5
      · have := hc j hj
        rw [this]
        have hj' : j < ([0, me, 0, 0, 0] : List Int).length := hj
        rw [List.getElem?_map, List.getElem?_eq_getElem hj'] at hu
        rw [← hu]
        simp [List.getD, List.getElem?_eq_getElem hj']
      · rw [List.getElem?_eq_none (by simp; omega)] at hu; cases hu) (by simp [arr, fre]) (by
      intro u hu; obtain ⟨z, _, rfl⟩ := List.mem_map.1 hu; rfl)
  rw [hrun]
  rfl
theorem setRow_blk' {w : World} {g : Nat} {c0 c1 : Array Value} {t : TypeId} (h : Blk w g c0 t) : Blk (w.setRow g c1) g c1 t := setRow_heap w g _ _ t _ h
set_option maxHeartbeats 1000000 in
theorem pmake (me : Int) (w : World) : Calls Tryd.prog 10 #[.int .i64 me] w fun e w' => MakePost w me e w' := by
  have HBG : Hid (Calls Tryd.prog 22 #[.int .i64 me] w fun e w' => BeginPost w me e w') := pbegin me w
  have HWD : Hid (∀ W, Calls Tryd.prog 23 #[.agg #[.int .i64 me, .int .i64 0, .int .i64 0, .int .i64 0, .int .u64 0, .int .i64 0, .int .i64 0]] W fun e w' => met.WordsPost W (mtNew me) e w') := fun W => pwords (mtNew me) W (by show (0 : Nat) < _; decide)
  have HFR : Hid (∀ W, Calls Tryd.prog 24 #[.int .i64 5] W fun e w' => ∃ g, e = .returned (.tuple #[.slice (some ⟨g, 0, none⟩) 12 12, .int .i64 0]) ∧ Blk w' g (arr (fre 5)) 60 ∧ W.heap.size ≤ g ∧ Below W.heap.size W w') := fun W => fresh_blk 5 W (by decide) (by decide)
  have H0B : Hid (Below w.heap.size w w) := Below.refl _ _
  go_enter Tryd.func10, Tryd.ntmps10
  go_wp2_with fail
  refine HBG.out.mono ?_
  rintro e w1 ⟨m1, f1, rfl, hi1, hb1⟩
  have H1B : Hid (Below w.heap.size w w1) := bel_step H0B.out hb1
  clear HBG
  rcases hi1 with ⟨hme, rfl, rfl⟩ | ⟨hme, rfl, rfl⟩
  · have HME : Hid (0 ≤ me ∧ me ≤ 49) := hme
    clear hme
    unfold mtNew Mt.v Mt.cells
    simp only []
    have H2m : Hid (Blk (w1.alloc (.cells #[.int .i64 me, .int .i64 0, .int .i64 0, .int .i64 0, .int .u64 0, .int .i64 0, .int .i64 0] 36)) (w1.heap.size) #[.int .i64 me, .int .i64 0, .int .i64 0, .int .i64 0, .int .u64 0, .int .i64 0, .int .i64 0] 36) := (Blk.new w1 _ _)
    have H2B : Hid (Below w.heap.size w (w1.alloc (.cells #[.int .i64 me, .int .i64 0, .int .i64 0, .int .i64 0, .int .u64 0, .int .i64 0, .int .i64 0] 36))) := (H1B.out).alloc (Nat.le_trans H1B.out.size (by simp)) _
    have L20 : Hid (w.heap.size ≤ w1.heap.size) := H1B.out.size
    clear H0B H1B hb1
    go_wp2_with (first
      | (refine wp_whole rfl 36 _ rfl (w1.heap.size) rfl 36 #[.int .i64 me, .int .i64 0, .int .i64 0, .int .i64 0, .int .u64 0, .int .i64 0, .int .i64 0] _ H2m.out Tryd.underlying36 rfl (by kernel_rfl) ?_)
      | (refine wp_wholeG (by rfl) 36 _ rfl (w1.heap.size) rfl 36 #[.int .i64 me, .int .i64 0, .int .i64 0, .int .i64 0, .int .u64 0, .int .i64 0, .int .i64 0] _ H2m.out Tryd.underlying36 rfl (by kernel_rfl) ?_)
      | fail)
    refine (HWD.out _).mono ?_
    rintro e w2 ⟨x2, n2, c2, zs, f2, rfl, hr2, _, hle2, hi2, hb2⟩
    have H3m : Hid (Blk w2 (w1.heap.size) #[.int .i64 me, .int .i64 0, .int .i64 0, .int .i64 0, .int .u64 0, .int .i64 0, .int .i64 0] 36) := H2m.out.next hb2
    have H3B : Hid (Below w.heap.size w w2) := bel_step H2B.out hb2
    obtain ⟨rfl, rfl⟩ := hi2.one (WordsIs.ok (new_mw HME.out).may)
    obtain rfl : n2 = 5 := hr2.1.symm.trans rfl
    have HX : Hid (RowU w2 x2 5 (wds (mtNew me)) ∧ w.heap.size ≤ w2.heap.size) := ⟨hr2, H3B.out.size⟩
    clear H2m H2B hb2 hr2 hi2 hle2 HWD
    go_wp2_with fail
    refine (HFR.out _).mono ?_
    rintro e w3 ⟨g, rfl, hg3, hl3, hb3⟩
    have H4m : Hid (Blk w3 (w1.heap.size) #[.int .i64 me, .int .i64 0, .int .i64 0, .int .i64 0, .int .u64 0, .int .i64 0, .int .i64 0] 36) := H3m.out.next hb3
    have H4B : Hid (Below w.heap.size w w3) := bel_step H3B.out hb3
    obtain ⟨xb, xo, rfl, xl, xc⟩ := (HX.out.1.below hb3).at (by decide)
    have hcp := copy_rec ⟨xb, xo, none⟩ c2 g me w3 hg3 (fun i hi => by rw [Addr.add_lit]; exact xc i hi)
    have HG : Hid (Blk (w3.setRow g (arr (mk me))) g (arr (mk me)) 60) := setRow_blk' hg3
    have HBF : Hid (Below w.heap.size w (w3.setRow g (arr (mk me)))) := below_setRow H4B.out (by have := HX.out.2; omega) _
    have HRU : Hid (RowU (w3.setRow g (arr (mk me))) (some ⟨g, 0, none⟩) 12 (mk me)) := Blk.rowU HG.out rfl
    clear H3m H3B hb3 hg3 hl3 xl xc HX HFR HG
    generalize arr (mk me) = A at *
    go_wp2_with fail
    go_ret2
    exact ⟨_, 12, 12, mk me, 0, rfl, ⟨HRU.out, (fun h => by cases h), Nat.le_refl _⟩, .inl ⟨HME.out, rfl, rfl⟩, HBF.out⟩
  · have HME : Hid (¬ (0 ≤ me ∧ me ≤ 49)) := hme
    clear hme
    unfold mt0 Mt.v Mt.cells
    simp only []
    have H2m : Hid (Blk (w1.alloc (.cells #[.int .i64 0, .int .i64 0, .int .i64 0, .int .i64 0, .int .u64 0, .int .i64 0, .int .i64 0] 36)) (w1.heap.size) #[.int .i64 0, .int .i64 0, .int .i64 0, .int .i64 0, .int .u64 0, .int .i64 0, .int .i64 0] 36) := (Blk.new w1 _ _)
    have H2B : Hid (Below w.heap.size w (w1.alloc (.cells #[.int .i64 0, .int .i64 0, .int .i64 0, .int .i64 0, .int .u64 0, .int .i64 0, .int .i64 0] 36))) := (H1B.out).alloc (Nat.le_trans H1B.out.size (by simp)) _
    have L20 : Hid (w.heap.size ≤ w1.heap.size) := H1B.out.size
    clear H0B H1B hb1
    go_wp2_with (first
      | (refine wp_whole rfl 36 _ rfl (w1.heap.size) rfl 36 #[.int .i64 0, .int .i64 0, .int .i64 0, .int .i64 0, .int .u64 0, .int .i64 0, .int .i64 0] _ H2m.out Tryd.underlying36 rfl (by kernel_rfl) ?_)
      | (refine wp_wholeG (by rfl) 36 _ rfl (w1.heap.size) rfl 36 #[.int .i64 0, .int .i64 0, .int .i64 0, .int .i64 0, .int .u64 0, .int .i64 0, .int .i64 0] _ H2m.out Tryd.underlying36 rfl (by kernel_rfl) ?_)
      | fail)
    go_ret2
    exact ⟨none, 0, 0, [], 2, rfl, ⟨RowU.nil _ _, (fun _ => rfl), Nat.le_refl _⟩, .inr ⟨HME.out, rfl, rfl⟩, H2B.out⟩

end Go.Proofs.YtgipkpkjoicehabDoor.pkt

/- What Body and Words give back. -/
namespace Go.Proofs.YtgipkpkjoicehabDoor.token
open Go.Proofs.YtgipkpkjoicehabDoor.words
open Go.RowKit
set_option linter.unusedSimpArgs false

set_option maxHeartbeats 400000 in
theorem words_no (c i a t : Int) (w : World) (ht : TTab w) (h : flawT c i a t ≠ 0) :
    Calls Tryd.prog 30 #[.agg #[.int .i64 c, .int .i64 i, .int .i64 a, .int .i64 t]] w fun e w' => e = .returned (.tuple #[.agg #[.int .u32 0, .int .u32 0, .int .u32 0], .int .i64 (flawT c i a t)]) ∧ Below w.heap.size w w' := by
  have HF : Hid (∀ W, TTab W → Calls Tryd.prog 44 #[.agg #[.int .i64 c, .int .i64 i, .int .i64 a, .int .i64 t]] W fun e w' => e = .returned (.int .i64 (flawT c i a t)) ∧ Below W.heap.size W w') := fun W hW => flaw_any c i a t W hW
  have hd : (flawT c i a t != 0) = true := by simpa using h
  have hb0 : Below w.heap.size w ((w.alloc (.cells #[.int .i64 c, .int .i64 i, .int .i64 a, .int .i64 t] 50)).alloc (.cells #[.int .u32 0, .int .u32 0, .int .u32 0] 77)) := (bel_box _ _).alloc (by simp) _
  have HB : Hid (Below w.heap.size w ((w.alloc (.cells #[.int .i64 c, .int .i64 i, .int .i64 a, .int .i64 t] 50)).alloc (.cells #[.int .u32 0, .int .u32 0, .int .u32 0] 77))) := hb0
  have HT : Hid (TTab ((w.alloc (.cells #[.int .i64 c, .int .i64 i, .int .i64 a, .int .i64 t] 50)).alloc (.cells #[.int .u32 0, .int .u32 0, .int .u32 0] 77))) := ht.below hb0
  have HX : Hid (Blk ((w.alloc (.cells #[.int .i64 c, .int .i64 i, .int .i64 a, .int .i64 t] 50)).alloc (.cells #[.int .u32 0, .int .u32 0, .int .u32 0] 77)) (w.heap.size + 1) #[.int .u32 0, .int .u32 0, .int .u32 0] 77) := Blk.new1 _ _ _ _
  clear ht h hb0
  generalize flawT c i a t = f at *
  go_enter Tryd.func30, Tryd.ntmps30
  go_wp2_with fail
  refine (HF.out _ HT.out).mono ?_
  rintro e w1 ⟨rfl, hb1⟩
  have hX := HX.out.next hb1
  have hB1 := bel_step HB.out hb1
  have HB1 : Hid (Below w.heap.size w (((w1.setCell ⟨w.heap.size + 1, 0, none⟩ (.int .u32 0)).setCell ⟨w.heap.size + 1, 1, none⟩ (.int .u32 0)).setCell ⟨w.heap.size + 1, 2, none⟩ (.int .u32 0))) := bel_set (bel_set (bel_set hB1 _ _ _ (by omega)) _ _ _ (by omega)) _ _ _ (by omega)
  have RR : Blk (((w1.setCell ⟨w.heap.size + 1, 0, none⟩ (.int .u32 0)).setCell ⟨w.heap.size + 1, 1, none⟩ (.int .u32 0)).setCell ⟨w.heap.size + 1, 2, none⟩ (.int .u32 0)) (w.heap.size + 1) #[.int .u32 0, .int .u32 0, .int .u32 0] 77 := ((hX.set 0 _).set 1 _).set 2 _
  have R0 : Hid (_ = _) := RR.cell 0
  have R1 : Hid (_ = _) := RR.cell 1
  have R2 : Hid (_ = _) := RR.cell 2
  have x0 := hX.cell 0
  have x1 := hX.cell 1
  have x2 := hX.cell 2
  have f0 := hX.free 0
  have f1 := hX.free 1
  have f2 := hX.free 2
  clear hb1 HF HB HT HX hX RR hB1
  go_wp2_with fail
  refine bodyPost_ret (v := .tuple #[.agg #[.int .u32 0, .int .u32 0, .int .u32 0], .int .i64 f]) (by simp [results, Tryd.results30, R0.out, R1.out, R2.out, go_sem]) rfl ⟨rfl, HB1.out⟩

/-- What Words gives back. -/
def WordsPost (w : World) (k : Tok) (e : Ending) (w' : World) : Prop := ∃ a b c : Nat, e = .returned (.tuple #[.agg #[.int .u32 (a : Int), .int .u32 (b : Int), .int .u32 (c : Int)], .int .i64 0]) ∧ WN a b c (k.num * 97) ∧ Below w.heap.size w w'

set_option maxHeartbeats 400000 in
theorem words_ok (k : Tok) (w : World) (ht : TTab w) (hk : k.ok) :
    Calls Tryd.prog 30 #[k.v] w fun e w' => WordsPost w k e w' := by
  have HF : Hid (∀ W, TTab W → Calls Tryd.prog 44 #[.agg #[.int .i64 (k.c : Int), .int .i64 (k.i : Int), .int .i64 (k.a : Int), .int .i64 (k.t : Int)]] W fun e w' => e = .returned (.int .i64 0) ∧ Below W.heap.size W w') := fun W hW => by
    have := flaw_any k.c k.i k.a k.t W hW
    rwa [flaw_tok.2 hk] at this
  have HP : Hid (∀ W, TTab W → Calls Tryd.prog 48 #[.agg #[.int .i64 (k.c : Int), .int .i64 (k.i : Int), .int .i64 (k.a : Int), .int .i64 (k.t : Int)]] W fun e w' => PackPost W k e w') := fun W hW => pack_any k W hk hW
  have HQ : Hid (∀ (x y z : Nat) W, WN x y z k.num → Calls Tryd.prog 53 #[.agg #[.int .u32 (x : Int), .int .u32 (y : Int), .int .u32 (z : Int)], .int .u32 97] W fun e w' => ∃ (a' b' c' : Nat) (o : Int), e = .returned (.tuple #[.agg #[.int .u32 (a' : Int), .int .u32 (b' : Int), .int .u32 (c' : Int)], .int .u32 o]) ∧ WN a' b' c' (k.num * 97) ∧ Below W.heap.size W w') := fun x y z W hW =>
    times_wn x y z k.num 97 W hW (by omega) (by have := num_bd hk; omega)
  have hb0 : Below w.heap.size w ((w.alloc (.cells #[.int .i64 (k.c : Int), .int .i64 (k.i : Int), .int .i64 (k.a : Int), .int .i64 (k.t : Int)] 50)).alloc (.cells #[.int .u32 0, .int .u32 0, .int .u32 0] 77)) := (bel_box _ _).alloc (by simp) _
  have HB : Hid (Below w.heap.size w ((w.alloc (.cells #[.int .i64 (k.c : Int), .int .i64 (k.i : Int), .int .i64 (k.a : Int), .int .i64 (k.t : Int)] 50)).alloc (.cells #[.int .u32 0, .int .u32 0, .int .u32 0] 77))) := hb0
  have HT : Hid (TTab ((w.alloc (.cells #[.int .i64 (k.c : Int), .int .i64 (k.i : Int), .int .i64 (k.a : Int), .int .i64 (k.t : Int)] 50)).alloc (.cells #[.int .u32 0, .int .u32 0, .int .u32 0] 77))) := ht.below hb0
  have HR : Hid (Blk ((w.alloc (.cells #[.int .i64 (k.c : Int), .int .i64 (k.i : Int), .int .i64 (k.a : Int), .int .i64 (k.t : Int)] 50)).alloc (.cells #[.int .u32 0, .int .u32 0, .int .u32 0] 77)) (w.heap.size + 1) #[.int .u32 0, .int .u32 0, .int .u32 0] 77) := Blk.new1 _ _ _ _
  have HX : Hid (Blk ((w.alloc (.cells #[.int .i64 (k.c : Int), .int .i64 (k.i : Int), .int .i64 (k.a : Int), .int .i64 (k.t : Int)] 50)).alloc (.cells #[.int .u32 0, .int .u32 0, .int .u32 0] 77)) w.heap.size #[.int .i64 (k.c : Int), .int .i64 (k.i : Int), .int .i64 (k.a : Int), .int .i64 (k.t : Int)] 50) := (Blk.new _ _ _).alloc _
  clear ht hk hb0
  unfold Tok.v
  go_enter Tryd.func30, Tryd.ntmps30
  go_wp2_with fail
  refine (HF.out _ HT.out).mono ?_
  rintro e w1 ⟨rfl, hb1⟩
  have HB1 : Hid (Below w.heap.size w w1) := bel_step HB.out hb1
  have HT1 : Hid (TTab w1) := HT.out.below hb1
  have HR1 : Hid (Blk w1 (w.heap.size + 1) #[.int .u32 0, .int .u32 0, .int .u32 0] 77) := HR.out.next hb1
  have hX := HX.out.next hb1
  have x0 := hX.cell 0
  have x1 := hX.cell 1
  have x2 := hX.cell 2
  have x3 := hX.cell 3
  clear hb1 HF HB HT HX hX HR
  go_wp2_with fail
  refine (HP.out _ HT1.out).mono ?_
  rintro e w2 ⟨x, y, z, rfl, hwn, hb2⟩
  have HB2 : Hid (Below w.heap.size w w2) := bel_step HB1.out hb2
  have HR2 : Hid (Blk w2 (w.heap.size + 1) #[.int .u32 0, .int .u32 0, .int .u32 0] 77) := HR1.out.next hb2
  have HN : Hid (WN x y z k.num) := hwn
  clear hb2 hwn HB1 HT1 HP x0 x1 x2 x3 HR1
  go_wp2_with fail
  refine (HQ.out _ _ _ _ HN.out).mono ?_
  rintro e w3 ⟨a', b', c', o, rfl, hwn, hb3⟩
  have hB3 := (bel_step HB2.out hb3).alloc (bel_step HB2.out hb3).size (.cells #[.int .u32 (a' : Int), .int .u32 (b' : Int), .int .u32 (c' : Int)] 77)
  have hR3 := (HR2.out.next hb3).alloc (.cells #[.int .u32 (a' : Int), .int .u32 (b' : Int), .int .u32 (c' : Int)] 77)
  have HN3 : Hid (WN a' b' c' (k.num * 97)) := hwn
  clear hb3 HB2 HQ HR2 HN hwn
  have HB4 : Hid (Below w.heap.size w ((((w3.alloc (.cells #[.int .u32 (a' : Int), .int .u32 (b' : Int), .int .u32 (c' : Int)] 77)).setCell ⟨w.heap.size + 1, 0, none⟩ (.int .u32 (a' : Int))).setCell ⟨w.heap.size + 1, 1, none⟩ (.int .u32 (b' : Int))).setCell ⟨w.heap.size + 1, 2, none⟩ (.int .u32 (c' : Int)))) := bel_set (bel_set (bel_set hB3 _ _ _ (by omega)) _ _ _ (by omega)) _ _ _ (by omega)
  have RR : Blk ((((w3.alloc (.cells #[.int .u32 (a' : Int), .int .u32 (b' : Int), .int .u32 (c' : Int)] 77)).setCell ⟨w.heap.size + 1, 0, none⟩ (.int .u32 (a' : Int))).setCell ⟨w.heap.size + 1, 1, none⟩ (.int .u32 (b' : Int))).setCell ⟨w.heap.size + 1, 2, none⟩ (.int .u32 (c' : Int))) (w.heap.size + 1) #[.int .u32 (a' : Int), .int .u32 (b' : Int), .int .u32 (c' : Int)] 77 := ((hR3.set 0 _).set 1 _).set 2 _
  have R0 : Hid (_ = _) := RR.cell 0
  have R1 : Hid (_ = _) := RR.cell 1
  have R2 : Hid (_ = _) := RR.cell 2
  have x0 := hR3.cell 0
  have x1 := hR3.cell 1
  have x2 := hR3.cell 2
  have f0 := hR3.free 0
  have f1 := hR3.free 1
  have f2 := hR3.free 2
  clear RR hR3 hB3
  go_wp2_with fail
  refine bodyPost_ret (v := .tuple #[.agg #[.int .u32 (a' : Int), .int .u32 (b' : Int), .int .u32 (c' : Int)], .int .i64 0]) (by simp [results, Tryd.results30, R0.out, R1.out, R2.out, go_sem]) rfl ⟨a', b', c', rfl, HN3.out, HB4.out⟩

end Go.Proofs.YtgipkpkjoicehabDoor.token

/- What strings.Repeat gives back: the shelf's contract, at this dump, in plain words. -/
namespace Go.Proofs
open Go.Shelf
open Go.RowKit
def Tryd.lays105_ren : Go.Shelf.Ren := ⟨fun | 105 => 32 | 212 => 54 | 99 => 55 | 165 => 56 | 166 => 57 | 170 => 58 | 169 => 59 | 263 => 77 | 264 => 78 | 206 => 79 | 240 => 80 | 241 => 81 | 276 => 92 | 277 => 93 | n => n, fun | 9 => 9 | 3 => 3 | 4 => 4 | 20 => 20 | 0 => 0 | 46 => 86 | 109 => 120 | 5 => 5 | 72 => 125 | 76 => 129 | 51 => 60 | 146 => 152 | 53 => 32 | 148 => 154 | 70 => 123 | 37 => 119 | 75 => 128 | 127 => 156 | 164 => 165 | 80 => 132 | n => n, fun | n => n⟩
theorem Tryd.lays105 : Go.Proofs.Lays.n105 Tryd.prog Tryd.lays105_ren := {
  mixed := by kernel_rfl
  f99 := Tryd.func55.trans (congrArg some (by kernel_rfl))
  f105 := Tryd.func32.trans (congrArg some (by kernel_rfl))
  f165 := Tryd.func56.trans (congrArg some (by kernel_rfl))
  f166 := Tryd.func57.trans (congrArg some (by kernel_rfl))
  f169 := Tryd.func59.trans (congrArg some (by kernel_rfl))
  f170 := Tryd.func58.trans (congrArg some (by kernel_rfl))
  f206 := Tryd.func79.trans (congrArg some (by kernel_rfl))
  f212 := Tryd.func54.trans (congrArg some (by kernel_rfl))
  f240 := Tryd.func80.trans (congrArg some (by kernel_rfl))
  f241 := Tryd.func81.trans (congrArg some (by kernel_rfl))
  f263 := Tryd.func77.trans (congrArg some (by kernel_rfl))
  f264 := Tryd.func78.trans (congrArg some (by kernel_rfl))
  f276 := Tryd.func92.trans (congrArg some (by kernel_rfl))
  f277 := Tryd.func93.trans (congrArg some (by kernel_rfl))
  t0 := Tryd.underlying0
  a0 := Tryd.isAgg0
  z0 := Tryd.sizeOf0
  v0 := Tryd.zeroValue0
  t3 := Tryd.underlying3
  a3 := Tryd.isAgg3
  z3 := Tryd.sizeOf3
  v3 := Tryd.zeroValue3
  t4 := Tryd.underlying4
  a4 := Tryd.isAgg4
  z4 := Tryd.sizeOf4
  v4 := Tryd.zeroValue4
  t5 := Tryd.underlying5
  a5 := Tryd.isAgg5
  z5 := Tryd.sizeOf5
  v5 := Tryd.zeroValue5
  t9 := Tryd.underlying9
  a9 := Tryd.isAgg9
  z9 := Tryd.sizeOf9
  v9 := Tryd.zeroValue9
  t20 := Tryd.underlying20
  a20 := Tryd.isAgg20
  z20 := Tryd.sizeOf20
  v20 := Tryd.zeroValue20
  t37 := Tryd.underlying119
  a37 := Tryd.isAgg119
  z37 := Tryd.sizeOf119
  v37 := Tryd.zeroValue119
  t46 := Tryd.underlying86
  a46 := Tryd.isAgg86
  z46 := Tryd.sizeOf86
  v46 := Tryd.zeroValue86
  t51 := Tryd.underlying60
  a51 := Tryd.isAgg60
  z51 := Tryd.sizeOf60
  v51 := Tryd.zeroValue60
  t53 := Tryd.underlying32
  a53 := Tryd.isAgg32
  z53 := Tryd.sizeOf32
  v53 := Tryd.zeroValue32
  t70 := Tryd.underlying123
  a70 := Tryd.isAgg123
  z70 := Tryd.sizeOf123
  v70 := Tryd.zeroValue123
  t72 := Tryd.underlying125
  a72 := Tryd.isAgg125
  z72 := Tryd.sizeOf125
  v72 := Tryd.zeroValue125
  t75 := Tryd.underlying128
  a75 := Tryd.isAgg128
  z75 := Tryd.sizeOf128
  v75 := Tryd.zeroValue128
  t76 := Tryd.underlying129
  a76 := Tryd.isAgg129
  z76 := Tryd.sizeOf129
  v76 := Tryd.zeroValue129
  t109 := Tryd.underlying120
  a109 := Tryd.isAgg120
  z109 := Tryd.sizeOf120
  v109 := Tryd.zeroValue120
  t127 := Tryd.underlying156
  a127 := Tryd.isAgg156
  z127 := Tryd.sizeOf156
  v127 := Tryd.zeroValue156
  t146 := Tryd.underlying152
  a146 := Tryd.isAgg152
  z146 := Tryd.sizeOf152
  v146 := Tryd.zeroValue152
  t148 := Tryd.underlying154
  a148 := Tryd.isAgg154
  z148 := Tryd.sizeOf154
  v148 := Tryd.zeroValue154
  t164 := Tryd.underlying165
  a164 := Tryd.isAgg165
  z164 := Tryd.sizeOf165
  v164 := Tryd.zeroValue165 }
theorem Tryd.Builder_Extra_105 : Builder.Extra Tryd.prog Tryd.lays105_ren := {
  sizeBuilder := by kernel_rfl
  liesBuilder := by kernel_rfl
  t5 := Tryd.underlying5
  a5 := Tryd.isAgg5
  z5 := Tryd.sizeOf5
  v5 := Tryd.zeroValue5
  infoByte := by kernel_rfl
  cellsByte := by kernel_rfl
  sizeByte := by kernel_rfl
  neB5 := by decide }
theorem Tryd.strings_Repeat (s : ByteArray) (c : Nat) (w : World) (hc : c ≤ 9223372036854775807) (hlen : s.size * c ≤ 140737488355328) :
    Calls Tryd.prog 32 #[.string s, .int .i64 c] w fun e w' => e = .returned (.string ⟨(Lib.repeatL s.data.toList c).toArray⟩) ∧ Below w.heap.size w w' := Any.strings_Repeat Tryd.lays105 Tryd.Builder_Extra_105 s c w hc hlen
end Go.Proofs
