/- Behind a change of key: all of it. -/
import Derived.Test.YtmpapnblpjnlmacDoorMlTuA
namespace Go.Proofs.YtmpapnblpjnlmacDoor.met
open Go.RowKit Go.Proofs.YtmpapnblpjnlmacDoor.ora Go.Proofs.YtmpapnblpjnlmacDoor.token Go.Proofs.YtmpapnblpjnlmacDoor.check
set_option maxRecDepth 100000
set_option linter.unusedVariables false

theorem issue_new {l ls : List Pr} {m r b d x c : Int} (h : IssueIs l m r b d ls x c) (hm : May l) (hp : (Pr.mk m r b d).may) (hn : No l m r b) (hl : l.length < 500) : ls = l ++ [⟨m, r, b, d⟩] ∧ x = d ∧ c = 0 :=
  h.one (.inr (.inr (.inr (.inr ⟨hm, hp, hn, hl, rfl, rfl, rfl⟩))))
theorem judge_next {i k : Int} (h1 : 1 ≤ i) (h2 : i < k) (h3 : k ≤ 1048575) : win.JudgeIs (max 0 i) (win.took 0 0 i) k 0 := by
  have hm : win.May (max 0 i) (win.took 0 0 i) := by
    rcases judge_taken (judge_new h1 (by omega)) with ⟨_, e⟩ | ⟨_, _, e⟩ | ⟨_, _, _, e⟩ | ⟨hmm, _, _, _, _⟩ | ⟨_, _, _, _, e⟩
    · exact absurd e (by decide)
    · exact absurd e (by decide)
    · exact absurd e (by decide)
    · exact hmm
    · exact absurd e (by decide)
  refine .inr (.inr (.inr (.inr ⟨hm, ⟨by omega, h3⟩, by omega, fun hx => ?_, rfl⟩)))
  have := ((win.mem_all _ _ _).1 hx).2.1
  omega
theorem took_small {i : Int} (h1 : 1 ≤ i) : win.took 0 0 i < 18446744073709551616 := win.took_lt (fun hx => by have := ((win.mem_all _ _ _).1 hx).2.1; omega)
theorem three {P : Nat → Prop} {n : Nat} (hn : n = 3) (h0 : P 0) (h1 : P 1) (h2 : P 2) : ∀ j, j < n → P j := fun j hj => by
  obtain rfl | rfl | rfl : j = 0 ∨ j = 1 ∨ j = 2 := by omega
  · exact h0
  · exact h1
  · exact h2
theorem bad_vT (m : Mt) : (badTry m).v = .agg #[.int .i64 m.me, .int .i64 m.rev, .int .i64 m.cr, .int .i64 m.h, .int .u64 (m.b : Int), .int .i64 (badTry m).bad, .int .i64 (badTry m).lock] := by
  unfold badTry
  split <;> rfl
set_option maxHeartbeats 1000000 in
theorem turns_walk {I : World → Prop} (hI : Inv I) (KB : KBody I) (KO : KIssue I) (KK : KKey I) (x0 x1 x2 x3 to y0 y1 y2 y3 z0 z1 z2 z3 : Int) (w : World) (h0 : I w) (hx : wf4i x0 x1 x2 x3) (ht : (Lit.int .i64 to).wf = true) (hy : wf4i y0 y1 y2 y3) (hz : wf4i z0 z1 z2 z3) :
    Calls Tryd.prog 4 #[.agg #[.int .i64 x0, .int .i64 x1, .int .i64 x2, .int .i64 x3], .int .i64 to, .agg #[.int .i64 y0, .int .i64 y1, .int .i64 y2, .int .i64 y3], .agg #[.int .i64 z0, .int .i64 z1, .int .i64 z2, .int .i64 z3]] w fun e w' => e = .returned (.bool true) ∧ Below w.heap.size w w' := by
  have hwz : (Lit.int .i64 0).wf = true := by decide
  -- the revisions
  have hqn : (pick x1 15).toNat < 15 := pick_toNat x1 15 (by decide)
  have HP : ∀ W, Calls Tryd.prog 6 #[.int .i64 x1, .int .i64 15] W fun e w' => e = .returned (.int .i64 (((pick x1 15).toNat : Nat) : Int)) ∧ w' = W := fun W => picked_nat x1 15 W hx.2.1 (by decide) (by decide)
  generalize (pick x1 15).toNat = qn at *
  have hjn : (pick to ((15 - qn : Nat) : Int)).toNat < 15 - qn := pick_toNat to (15 - qn) (by omega)
  have HJ : ∀ W, Calls Tryd.prog 6 #[.int .i64 to, .int .i64 (15 - (qn : Int))] W fun e w' => e = .returned (.int .i64 (((pick to ((15 - qn : Nat) : Int)).toNat : Nat) : Int)) ∧ w' = W := fun W => by
    have := picked_nat to (15 - qn) W ht (by omega) (by omega)
    rw [show ((15 - qn : Nat) : Int) = 15 - (qn : Int) by omega] at this ⊢
    exact this
  generalize (pick to ((15 - qn : Nat) : Int)).toNat = jn at *
  -- the meter
  have hm0 := newM_may x0 x1 x2 x3
  have HN : ∀ W, Calls Tryd.prog 5 #[.agg #[.int .i64 x0, .int .i64 x1, .int .i64 x2, .int .i64 x3]] W fun e w' => e = .returned (newM x0 x1 x2 x3).v ∧ Below W.heap.size W w' := fun W => newMeter_any x0 x1 x2 x3 W hx
  have hzz : (newM x0 x1 x2 x3).h = 0 ∧ (newM x0 x1 x2 x3).b = 0 ∧ (newM x0 x1 x2 x3).lock = 0 := ⟨rfl, rfl, rfl⟩
  generalize newM x0 x1 x2 x3 = m at *
  obtain ⟨p, q0, r0, hh, b, s, lk⟩ := m
  simp only [] at hzz
  obtain ⟨rfl, rfl, rfl⟩ := hzz
  have hm : Mt.may ⟨p, (qn : Int), 0, 0, 0, s, 0⟩ := ⟨hm0.me, ⟨by show 0 ≤ (qn : Int); omega, by show (qn : Int) ≤ 15; omega⟩, ⟨Int.le_refl _, show (0 : Int) ≤ 99999999 by decide⟩, hm0.bad, hm0.lock, hm0.one, .inl ⟨rfl, rfl⟩⟩
  -- the tokens
  have hkx := made_ok 0 y1 y2 y3
  have hky := made_ok 0 z1 z2 z3
  have hcx : (madeT 0 y1 y2 y3).c = 0 := by show (pick 0 4).toNat = 0; decide
  have hcy : (madeT 0 z1 z2 z3).c = 0 := by show (pick 0 4).toNat = 0; decide
  have HMX : ∀ W, Calls Tryd.prog 9 #[.agg #[.int .i64 0, .int .i64 y1, .int .i64 y2, .int .i64 y3]] W fun e w' => e = .returned (madeT 0 y1 y2 y3).v ∧ Below W.heap.size W w' := fun W => made_any 0 y1 y2 y3 W ⟨hwz, hy.2.1, hy.2.2.1, hy.2.2.2⟩
  have HMY : ∀ W, Calls Tryd.prog 9 #[.agg #[.int .i64 0, .int .i64 z1, .int .i64 z2, .int .i64 z3]] W fun e w' => e = .returned (madeT 0 z1 z2 z3).v ∧ Below W.heap.size W w' := fun W => made_any 0 z1 z2 z3 W ⟨hwz, hz.2.1, hz.2.2.1, hz.2.2.2⟩
  generalize madeT 0 y1 y2 y3 = kx at *
  generalize madeT 0 z1 z2 z3 = ky at *
  obtain ⟨xc, xi, xa, xt⟩ := kx
  obtain ⟨yc, yi, ya, yt⟩ := ky
  simp only [] at hcx hcy
  subst hcx hcy
  have ax1 : 1 ≤ xa := hkx.a0 rfl
  have ax2 : xa ≤ 2097151 := hkx.a2
  have ax3 : xt ≤ 65535 := hkx.t2
  have ay1 : 1 ≤ ya := hky.a0 rfl
  have ay2 : ya ≤ 2097151 := hky.a2
  have ay3 : yt ≤ 65535 := hky.t2
  have hko : Tok.ok ⟨0, 2, xa, xt⟩ := ⟨show 0 ≤ 3 by decide, by show 1 ≤ 2; omega, by show 2 ≤ 1048575; omega, ax3, ax2, fun _ => ax1, (fun h => by cases h), (fun h => by rcases h with h | h <;> cases h)⟩
  have hkf : Tok.ok ⟨0, 3, ya, yt⟩ := ⟨show 0 ≤ 3 by decide, by show 1 ≤ 3; omega, by show 3 ≤ 1048575; omega, ay3, ay2, fun _ => ay1, (fun h => by cases h), (fun h => by rcases h with h | h <;> cases h)⟩
  have hkc : ∀ t : Nat, t ≤ 65535 → Tok.ok ⟨2, 1, qn + 1 + jn, t⟩ := fun t h => ⟨by show 2 ≤ 3; omega, by show 1 ≤ 1; omega, by show 1 ≤ 1048575; omega, h, by show qn + 1 + jn ≤ 2097151; omega, (fun h => by cases h), fun _ => ⟨by show 1 ≤ qn + 1 + jn; omega, by show qn + 1 + jn ≤ 15; omega⟩, (fun h => by rcases h with h | h <;> cases h)⟩
  have hrv : ((qn + 1 + jn : Nat) : Int) = (qn : Int) + 1 + (jn : Int) := by omega
  have HBO : ∀ W, Below w.heap.size w W → Calls Tryd.prog 10 #[Tok.v ⟨0, 2, xa, xt⟩] W fun e w' => e = .returned (.tuple #[.int .i64 ((Tok.body ⟨0, 2, xa, xt⟩ : Nat) : Int), .int .i64 0]) ∧ Below W.heap.size W w' := fun W hB => KB W _ (hI.from h0 hB) hko
  have HBC : ∀ W, Below w.heap.size w W → Calls Tryd.prog 10 #[.agg #[.int .i64 2, .int .i64 1, .int .i64 ((qn : Int) + 1 + (jn : Int)), .int .i64 0]] W fun e w' => e = .returned (.tuple #[.int .i64 ((Tok.body ⟨2, 1, qn + 1 + jn, 0⟩ : Nat) : Int), .int .i64 0]) ∧ Below W.heap.size W w' := fun W hB => by
    have := KB W ⟨2, 1, qn + 1 + jn, 0⟩ (hI.from h0 hB) (hkc 0 (by decide))
    unfold Tok.v at this
    simp only [] at this
    rw [hrv] at this
    exact this
  have HBF : ∀ W, Below w.heap.size w W → Calls Tryd.prog 10 #[Tok.v ⟨0, 3, ya, yt⟩] W fun e w' => e = .returned (.tuple #[.int .i64 ((Tok.body ⟨0, 3, ya, yt⟩ : Nat) : Int), .int .i64 0]) ∧ Below W.heap.size W w' := fun W hB => KB W _ (hI.from h0 hB) hkf
  have eba : Tok.body ⟨0, 2, xa, xt⟩ = 4194304 + xa := by show 0 * 2199023255552 + 2 * 2097152 + xa = 4194304 + xa; omega
  have ebb : Tok.body ⟨2, 1, qn + 1 + jn, 0⟩ = 4398048608256 + (qn + 1 + jn) := by show 2 * 2199023255552 + 1 * 2097152 + (qn + 1 + jn) = 4398048608256 + (qn + 1 + jn); omega
  have ebc : Tok.body ⟨0, 3, ya, yt⟩ = 6291456 + ya := by show 0 * 2199023255552 + 3 * 2097152 + ya = 6291456 + ya; omega
  rw [eba] at HBO
  rw [ebb] at HBC
  rw [ebc] at HBF
  have hBO2 : bodyI 0 2 (xa : Int) = ((4194304 + xa : Nat) : Int) := by unfold bodyI; omega
  have hBC2 : bodyI 2 1 ((qn : Int) + 1 + (jn : Int)) = ((4398048608256 + (qn + 1 + jn) : Nat) : Int) := by unfold bodyI; omega
  have hBF2 : bodyI 0 3 (ya : Int) = ((6291456 + ya : Nat) : Int) := by unfold bodyI; omega
  generalize hba : ((4194304 + xa : Nat) : Int) = ba at *
  generalize hbb : ((4398048608256 + (qn + 1 + jn) : Nat) : Int) = bb at *
  generalize hbc : ((6291456 + ya : Nat) : Int) = bc at *
  have hfo : flawT 0 2 (xa : Int) (xt : Int) = 0 := flaw_tok.2 hko
  have hff : flawT 0 3 (ya : Int) (yt : Int) = 0 := flaw_tok.2 hkf
  have hfc : flawT 2 1 ((qn : Int) + 1 + (jn : Int)) 5 = 0 := by
    have := flaw_tok.2 (hkc 5 (by decide))
    simp only [] at this
    rw [hrv] at this
    exact this
  -- the oracle
  have hme := hm0.me
  simp only [] at hme
  have p1 : (Pr.mk p (qn : Int) ba (xt : Int)).may := ⟨hme, by show 0 ≤ (qn : Int) ∧ (qn : Int) ≤ 15; omega, by show 0 ≤ ba ∧ ba ≤ 8796093022207; omega, by show 0 ≤ (xt : Int) ∧ (xt : Int) ≤ 65535; omega⟩
  have p2 : (Pr.mk p (qn : Int) bb 5).may := ⟨hme, by show 0 ≤ (qn : Int) ∧ (qn : Int) ≤ 15; omega, by show 0 ≤ bb ∧ bb ≤ 8796093022207; omega, by show 0 ≤ (5 : Int) ∧ (5 : Int) ≤ 65535; omega⟩
  have p3 : (Pr.mk p ((qn : Int) + 1 + (jn : Int)) bc (yt : Int)).may := ⟨hme, by show 0 ≤ (qn : Int) + 1 + (jn : Int) ∧ (qn : Int) + 1 + (jn : Int) ≤ 15; omega, by show 0 ≤ bc ∧ bc ≤ 8796093022207; omega, by show 0 ≤ (yt : Int) ∧ (yt : Int) ≤ 65535; omega⟩
  have M1 : May [Pr.mk p (qn : Int) ba (xt : Int)] := one_may p1
  have n2 : No [Pr.mk p (qn : Int) ba (xt : Int)] p (qn : Int) bb := fun k hk ⟨_, _, e⟩ => by
    obtain rfl : k = 0 := by simp at hk; exact hk
    have : ba = bb := e
    omega
  have M2 : May [Pr.mk p (qn : Int) ba (xt : Int), Pr.mk p (qn : Int) bb 5] := May.app M1 p2 n2 (by simp)
  have n3 : No [Pr.mk p (qn : Int) ba (xt : Int), Pr.mk p (qn : Int) bb 5] p ((qn : Int) + 1 + (jn : Int)) bc := fun k hk ⟨_, e, _⟩ => by
    obtain rfl | rfl : k = 0 ∨ k = 1 := by simp at hk; omega
    · have : (qn : Int) = (qn : Int) + 1 + (jn : Int) := e
      omega
    · have : (qn : Int) = (qn : Int) + 1 + (jn : Int) := e
      omega
  have M3 : May [Pr.mk p (qn : Int) ba (xt : Int), Pr.mk p (qn : Int) bb 5, Pr.mk p ((qn : Int) + 1 + (jn : Int)) bc (yt : Int)] := May.app M2 p3 n3 (by simp)
  -- the meter behind the change
  have hJ1 : win.JudgeIs 0 0 1 0 := judge_new (by decide) (by decide)
  obtain ⟨H1, hH1⟩ : ∃ H1 : Int, max (0 : Int) 1 = H1 := ⟨_, rfl⟩
  obtain ⟨B1, hB1⟩ : ∃ B1 : Nat, win.took 0 0 1 = B1 := ⟨_, rfl⟩
  have hT : taken ⟨p, (qn : Int), 0, 0, 0, s, 0⟩ 2 1 ((qn : Int) + 1 + (jn : Int)) = ⟨p, (qn : Int) + 1 + (jn : Int), 0, H1, B1, 0, 0⟩ := by
    unfold taken
    simp only []
    rw [hH1, hB1]
    rfl
  have hmT : Mt.may ⟨p, (qn : Int) + 1 + (jn : Int), 0, H1, B1, 0, 0⟩ := by
    have := taken_may hm (c := 2) (i := 1) (a := (qn : Int) + 1 + (jn : Int)) hJ1 (by omega) (by omega) (fun _ => by omega)
    rw [hT] at this
    exact this
  have hJ3 : win.JudgeIs H1 B1 3 0 := by
    have := judge_next (i := 1) (k := 3) (by decide) (by decide) (by decide)
    rw [hH1, hB1] at this
    exact this
  have hB1s : B1 < 18446744073709551616 := by
    rw [← hB1]
    exact took_small (by decide)
  clear hH1 hB1
  refine turns_abs x0 x1 x2 x3 to y0 y1 y2 y3 z0 z1 z2 z3 p q0 r0 s (qn : Int) (jn : Int) (xi : Int) (xa : Int) (xt : Int) (yi : Int) (ya : Int) (yt : Int) ba bb bc (badTry ⟨p, (qn : Int), 0, 0, 0, s, 0⟩).bad (badTry ⟨p, (qn : Int), 0, 0, 0, s, 0⟩).lock H1 (max H1 3) B1 (win.took H1 B1 3)
    [Pr.mk p (qn : Int) ba (xt : Int)] [Pr.mk p (qn : Int) ba (xt : Int), Pr.mk p (qn : Int) bb 5] [Pr.mk p (qn : Int) ba (xt : Int), Pr.mk p (qn : Int) bb 5, Pr.mk p ((qn : Int) + 1 + (jn : Int)) bc (yt : Int)]
    w (by omega) (by omega) (by omega) (by omega) HN HP HJ HMX HMY HBO HBC HBF (fun W hB => ?_) (fun W a n cap hB hc hal => ?_) (fun W a n cap hB hc hal => ?_) (fun W a n cap hB hc => ?_) (fun W a n cap hB hc => ?_) (fun W a n cap hB hc => ?_) (fun W a n cap hB hc => ?_)
  · refine (KO W none 0 0 [] p (qn : Int) ba (xt : Int) (hI.from h0 hB) ⟨RowP.nil _ _, fun _ => rfl, Nat.le_refl _, by decide⟩ (Alive.none W)).mono ?_
    rintro e w' ⟨a', n', cap', ls, x, c, rfl, h1, h2, h3, hi, hb⟩
    obtain ⟨rfl, rfl, rfl⟩ := issue_new hi May.nil p1 (fun j hj => by simp at hj) (by decide)
    exact ⟨a', n', cap', rfl, h1, h2, h3, hb⟩
  · refine (KO W a n cap _ p (qn : Int) bb 5 (hI.from h0 hB) hc hal).mono ?_
    rintro e w' ⟨a', n', cap', ls, x, c, rfl, h1, h2, h3, hi, hb⟩
    obtain ⟨rfl, rfl, rfl⟩ := issue_new hi M1 p2 n2 (by simp)
    exact ⟨a', n', cap', rfl, h1, h2, h3, hb⟩
  · refine (KO W a n cap _ p ((qn : Int) + 1 + (jn : Int)) bc (yt : Int) (hI.from h0 hB) hc hal).mono ?_
    rintro e w' ⟨a', n', cap', ls, x, c, rfl, h1, h2, h3, hi, hb⟩
    obtain ⟨rfl, rfl, rfl⟩ := issue_new hi M2 p3 n3 (by simp)
    exact ⟨a', n', cap', rfl, h1, h2, h3, hb⟩
  · refine (KK W ⟨p, (qn : Int), 0, 0, 0, s, 0⟩ a n cap _ 0 3 (ya : Int) (yt : Int) (hI.from h0 hB) (show 0 < 18446744073709551616 by decide) hc.row hc.nil hc.le).mono ?_
    rintro e w' ⟨m', xx, ee, rfl, hkey, hb⟩
    rw [hBF2] at hkey
    obtain ⟨rfl, rfl, rfl⟩ := key_none hkey hm M3 hff (Int.le_refl _) (by decide)
      (fun ⟨k, hk, _, e2, _, e4⟩ => by
        obtain rfl | rfl | rfl : k = 0 ∨ k = 1 ∨ k = 2 := by simp at hk; omega
        · have : ba = bc := e2; omega
        · have : bb = bc := e2; omega
        · have : (qn : Int) + 1 + (jn : Int) = (qn : Int) := e4; omega)
      (fun ⟨k, hk, _, e2, _, e4⟩ => by
        obtain rfl | rfl | rfl : k = 0 ∨ k = 1 ∨ k = 2 := by simp at hk; omega
        · have : ba = bc := e2; omega
        · have : bb = bc := e2; omega
        · have : (qn : Int) + 1 + (jn : Int) < (qn : Int) := e4; omega)
    refine ⟨?_, hb⟩
    rw [bad_vT]
    rfl
  · refine (KK W ⟨p, (qn : Int), 0, 0, 0, s, 0⟩ a n cap _ 2 1 ((qn : Int) + 1 + (jn : Int)) 5 (hI.from h0 hB) (show 0 < 18446744073709551616 by decide) hc.row hc.nil hc.le).mono ?_
    rintro e w' ⟨m', xx, ee, rfl, hkey, hb⟩
    rw [hBC2] at hkey
    rcases key_sold hkey hm M3 hfc (Int.le_refl _) (by decide) ⟨1, by simp, rfl, rfl, rfl, rfl⟩ hJ1 with ⟨h1, _⟩ | ⟨_, h1, _⟩ | ⟨_, _, rfl, rfl, rfl⟩
    · exact absurd h1 (by decide)
    · have h1 : (qn : Int) + 1 + (jn : Int) ≤ (qn : Int) := h1
      omega
    · rw [hT]
      exact ⟨rfl, hb⟩
  · refine (KK W ⟨p, (qn : Int) + 1 + (jn : Int), 0, H1, B1, 0, 0⟩ a n cap _ 0 2 (xa : Int) (xt : Int) (hI.from h0 hB) hB1s hc.row hc.nil hc.le).mono ?_
    rintro e w' ⟨m', xx, ee, rfl, hkey, hb⟩
    rw [hBO2] at hkey
    obtain ⟨rfl, rfl, rfl⟩ := hkey.one (KeyIs.old ⟨hmT, M3⟩ hfo (Int.le_refl _) (by decide)
      (fun ⟨k, hk, _, e2, _, e4⟩ => by
        obtain rfl | rfl | rfl : k = 0 ∨ k = 1 ∨ k = 2 := by simp at hk; omega
        · have : (qn : Int) = (qn : Int) + 1 + (jn : Int) := e4; omega
        · have : bb = ba := e2; omega
        · have : bc = ba := e2; omega)
      ⟨0, by simp, rfl, rfl, rfl, by show (qn : Int) < (qn : Int) + 1 + (jn : Int); omega⟩)
    exact ⟨rfl, hb⟩
  · refine (KK W ⟨p, (qn : Int) + 1 + (jn : Int), 0, H1, B1, 0, 0⟩ a n cap _ 0 3 (ya : Int) (yt : Int) (hI.from h0 hB) hB1s hc.row hc.nil hc.le).mono ?_
    rintro e w' ⟨m', xx, ee, rfl, hkey, hb⟩
    rw [hBF2] at hkey
    rcases key_sold hkey hmT M3 hff (Int.le_refl _) (by decide) ⟨2, by simp, rfl, rfl, rfl, rfl⟩ hJ3 with ⟨_, h1, _⟩ | ⟨h1, _⟩ | ⟨_, _, rfl, rfl, rfl⟩
    · have h1 : 99999999 - (0 : Int) < (ya : Int) := h1
      omega
    · exact absurd h1 (by decide)
    · refine ⟨?_, hb⟩
      show Ending.returned (.tuple #[.agg #[_, _, .int .i64 (0 + (ya : Int)), _, _, _, _], _, _]) = _
      rw [Int.zero_add]
      rfl

end Go.Proofs.YtmpapnblpjnlmacDoor.met
