/- Five bad tries lock the keypad: all of it. -/
import Derived.Test.YtmpapnblpjnlmabDoorMlLoA
import Derived.Test.YtmpapnblpjnlmabDoorMlOn
import Derived.Test.YtmpapnblpjnlmabDoorMtLk
namespace Go.Proofs.YtmpapnblpjnlmabDoor.met
open Go.RowKit Go.Proofs.YtmpapnblpjnlmabDoor.ora Go.Proofs.YtmpapnblpjnlmabDoor.token Go.Proofs.YtmpapnblpjnlmabDoor.check
set_option maxRecDepth 100000
set_option linter.unusedVariables false
set_option linter.unusedSimpArgs false

theorem try_eq (me : Int) (j : Nat) (hj : j < 5) : mtTry me j = ⟨me, 0, 0, 0, 0, (j : Int), 0⟩ := by
  unfold mtTry; rw [if_pos hj, if_pos hj]
theorem pick3 {c0 : Int} (h0 : 0 ≤ c0) (h1 : c0 < 3) : (pick c0 4).toNat = c0.toNat := pick_pick h0 (by omega)
/-- A token that was not sold is a bad try. -/
theorem key_bad {me : Int} (hme : 0 ≤ me ∧ me ≤ 49) {k kk : Tok} (hk : k.ok) (hkk : kk.ok) (hc0 : k.c = 0) (hc3 : kk.c < 3) {tg : Int} (htg : tg = (if (kk.c : Int) = 0 ∧ (kk.i : Int) = (k.i : Int) ∧ (kk.a : Int) = (k.a : Int) then ((k.t : Int) + 1) % 65536 else (kk.t : Int))) {j : Nat} (hj : j < 5)
    {m' : Mt} {x e : Int} (h : KeyIs ⟨me, 0, 0, 0, 0, (j : Int), 0⟩ [⟨me, 0, (k.body : Int), (k.t : Int)⟩] kk.c kk.i kk.a tg (bodyI kk.c kk.i kk.a) m' x e) : m' = mtTry me (j + 1) ∧ x = 0 ∧ e = 12 := by
  have hm : (⟨me, 0, 0, 0, 0, (j : Int), 0⟩ : Mt).may := by have := try_may hme j; rwa [try_eq me j hj] at this
  have hL : May [⟨me, 0, (k.body : Int), (k.t : Int)⟩] := one_may (pr_may (m := mtNew me) (try_may hme 0) hk)
  have ht2 := hk.t2
  have hkt2 := hkk.t2
  have htb : 0 ≤ tg ∧ tg ≤ 65535 := by rw [htg]; split <;> omega
  obtain ⟨tn, rfl⟩ := Int.eq_ofNat_of_zero_le htb.1
  have hok : (⟨kk.c, kk.i, kk.a, tn⟩ : Tok).ok := by
    have := hkk
    exact ⟨this.c3, this.i1, this.i2, (by show tn ≤ 65535; omega), this.a2, this.a0, this.ac, this.az⟩
  have hfl : flawT kk.c kk.i kk.a tn = 0 := flaw_tok.2 hok
  have hbk : bodyI kk.c kk.i kk.a = (kk.body : Int) := body_tok kk
  have hne : (kk.body : Int) ≠ (k.body : Int) ∨ (tn : Int) ≠ (k.t : Int) := by
    by_cases hx : (kk.c : Int) = 0 ∧ (kk.i : Int) = (k.i : Int) ∧ (kk.a : Int) = (k.a : Int)
    · rw [if_pos hx] at htg
      right; omega
    · left
      have hka := hk.a2
      have e1 : (k.body : Int) = ((Tok.body ⟨0, k.i, k.a, 0⟩ : Nat) : Int) := by
        have : k.body = Tok.body ⟨0, k.i, k.a, 0⟩ := by unfold Tok.body; rw [hc0]
        rw [this]
      rw [e1]
      rcases body_apart hkk (i := k.i) (a := k.a) (by omega) (fun hh => hx ⟨by omega, by omega, by omega⟩) with h1 | h1
      · exact h1
      · exact absurd h1 (by have := hk.i2; omega)
  rw [hbk] at h
  have hns := not_sold (me := me) hne 0
  obtain ⟨r1, r2, r3⟩ := h.one (KeyIs.tag ⟨hm, hL⟩ hfl (Int.le_refl _) (by omega) hns.1 hns.2)
  refine ⟨?_, r2, r3⟩
  rw [r1, ← try_next me j hj, try_eq me j hj]

set_option maxHeartbeats 1000000 in
theorem locks_walk {I : World → Prop} (hI : Inv I) (KN : KBegin I) (KT : KTick I) (KB : KBody I) (KO : KIssue I) (KK : KKey I) (me0 : Int) (a0 : Option Addr) (len0 cap0 : Nat) (zs : List Pr) (x0 x1 x2 x3 load : Int) (w : World) (h0 : I w)
    (hme0 : (Lit.int .i64 me0).wf = true) (hrw : RowA w a0 len0 zs) (hx : wf4i x0 x1 x2 x3) (hld : (Lit.int .i64 load).wf = true) :
    Calls Tryd.prog 6 #[.int .i64 me0, .slice a0 len0 cap0, .agg #[.int .i64 x0, .int .i64 x1, .int .i64 x2, .int .i64 x3], .int .i64 load] w fun e w' => e = .returned (.bool true) ∧ Below w.heap.size w w' := by
  have hp : (pick me0 50).toNat < 50 := pick_toNat me0 50 (by decide)
  have hl2 : (pick load 1001).toNat < 1001 := pick_toNat load 1001 (by decide)
  have HP : ∀ W, Calls Tryd.prog 10 #[.int .i64 me0, .int .i64 50] W fun e w' => e = .returned (.int .i64 (((pick me0 50).toNat : Nat) : Int)) ∧ w' = W := fun W => picked_nat me0 50 W hme0 (by decide) (by decide)
  have HPL : ∀ W, Calls Tryd.prog 10 #[.int .i64 load, .int .i64 1001] W fun e w' => e = .returned (.int .i64 (((pick load 1001).toNat : Nat) : Int)) ∧ w' = W := fun W => picked_nat load 1001 W hld (by decide) (by decide)
  generalize hme : (((pick me0 50).toNat : Nat) : Int) = me at HP
  generalize hldd : (((pick load 1001).toNat : Nat) : Int) = ld at HPL
  have hmb : 0 ≤ me ∧ me ≤ 49 := by omega
  have hlb : 0 ≤ ld ∧ ld ≤ 1000 := by omega
  clear hme hldd hp hl2
  have hk := made_ok 0 x1 x2 x3
  have hc0 := made_zero x1 x2 x3
  have hfl := flaw_tok.2 hk
  have hbo := body_tok (madeT 0 x1 x2 x3)
  rw [hc0] at hfl hbo
  have hbo : bodyI 0 ((madeT 0 x1 x2 x3).i : Int) ((madeT 0 x1 x2 x3).a : Int) = ((madeT 0 x1 x2 x3).body : Int) := hbo
  have hm0 : (mtNew me).may := try_may hmb 0
  have hL : May [⟨me, 0, ((madeT 0 x1 x2 x3).body : Int), ((madeT 0 x1 x2 x3).t : Int)⟩] := one_may (pr_may (m := mtNew me) hm0 hk)
  have ht2 := hk.t2
  have hi1 := hk.i1
  have hi2 := hk.i2
  have ha2 := hk.a2
  refine locks_abs me0 a0 len0 cap0 zs x0 x1 x2 x3 load me ld (madeT 0 x1 x2 x3).i (madeT 0 x1 x2 x3).a (madeT 0 x1 x2 x3).t (max 0 ((madeT 0 x1 x2 x3).i : Int)) (win.took 0 0 ((madeT 0 x1 x2 x3).i : Int)) (fun j => (mtTry me (j + 1)).bad) (fun j => (mtTry me (j + 1)).lock)
    [⟨me, 0, ((madeT 0 x1 x2 x3).body : Int), ((madeT 0 x1 x2 x3).t : Int)⟩] w (by omega) (by omega) (fun j => ⟨fun hj => ?_, fun hj => ?_⟩) hrw HP (fun W hB => ?_) (fun W hB => ?_) (fun y0 y1 y2 y3 hy => ?_) (fun lk h1 h2 W a n cap hB hc => ?_) (fun lk h1 h2 W hB => ?_) HPL (fun W a n cap hB hc => ?_)
  · have e1 : (mtTry me (j + 1)).bad = ((j + 1 : Nat) : Int) := by rw [try_eq me (j + 1) (by omega)]
    have e2 : (mtTry me (j + 1)).lock = 0 := by rw [try_eq me (j + 1) (by omega)]
    exact ⟨by show (mtTry me (j + 1)).bad = _; rw [e1]; omega, e2⟩
  · subst hj
    exact ⟨rfl, rfl⟩
  · refine (KN W me (hI.from h0 hB)).mono ?_
    rintro e w' ⟨m', f, rfl, hb, hbb⟩
    obtain ⟨rfl, rfl⟩ := hb.one (BeginIs.ok hmb)
    exact ⟨rfl, hbb⟩
  · refine (sold_any hI KB KO (mtNew me) none 0 0 [] 0 x1 x2 x3 W (hI.from h0 hB) (came_nil W) (Alive.none W) ⟨wf_zero, hx.2.1, hx.2.2.1, hx.2.2.2⟩).mono ?_
    rintro e w' ⟨a, n, cap, ls, tg, f, rfl, hc, hal, hnr, hi, hb⟩
    obtain ⟨rfl, rfl, rfl⟩ := first_sold hm0 hk hi
    rw [hc0]
    exact ⟨a, n, cap, rfl, hc, hal, hnr, hb⟩
  · have hp3 : (pick y0 3).toNat < 3 := pick_toNat y0 3 (by decide)
    have HP3 : ∀ W, Calls Tryd.prog 10 #[.int .i64 y0, .int .i64 3] W fun e w' => e = .returned (.int .i64 (((pick y0 3).toNat : Nat) : Int)) ∧ w' = W := fun W => picked_nat y0 3 W hy.1 (by decide) (by decide)
    generalize hc0' : (((pick y0 3).toNat : Nat) : Int) = c0 at HP3
    have hkk := made_ok c0 y1 y2 y3
    have hkc : (madeT c0 y1 y2 y3).c < 3 := by
      show (pick c0 4).toNat < 3
      rw [pick3 (by omega) (by omega)]; omega
    refine ⟨c0, (madeT c0 y1 y2 y3).c, (madeT c0 y1 y2 y3).i, (madeT c0 y1 y2 y3).a, (madeT c0 y1 y2 y3).t, HP3, fun W => made_any c0 y1 y2 y3 W ⟨wf_small (by omega) (by omega), hy.2.1, hy.2.2.1, hy.2.2.2⟩, fun j hj tg htg W a n cap hB hc => ?_⟩
    refine (KK W ⟨me, 0, 0, 0, 0, (j : Int), 0⟩ a n cap _ (madeT c0 y1 y2 y3).c (madeT c0 y1 y2 y3).i (madeT c0 y1 y2 y3).a tg (hI.from h0 hB) (show 0 < 18446744073709551616 by decide) hc.row hc.nil hc.le).mono ?_
    rintro e w' ⟨m', xx, ee, rfl, hkey, hb⟩
    obtain ⟨rfl, rfl, rfl⟩ := key_bad hmb hk hkk hc0 hkc htg hj hkey
    exact ⟨rfl, hb⟩
  · refine (KK W (mtLock me lk) a n cap _ 0 ((madeT 0 x1 x2 x3).i : Int) ((madeT 0 x1 x2 x3).a : Int) ((madeT 0 x1 x2 x3).t : Int) (hI.from h0 hB) (show 0 < 18446744073709551616 by decide) hc.row hc.nil hc.le).mono ?_
    rintro e w' ⟨m', xx, ee, rfl, hkey, hb⟩
    obtain ⟨rfl, rfl, rfl⟩ := key_locked hkey (lock_may hmb (by omega) h2) hL hfl h1
    exact ⟨rfl, hb⟩
  · refine (KT W (mtLock me lk) ld (hI.from h0 hB) (show 0 < 18446744073709551616 by decide)).mono ?_
    rintro e w' ⟨m', xx, ee, rfl, htk, hb⟩
    obtain ⟨rfl, rfl, rfl⟩ := tick_lock hmb h1 h2 hlb htk
    exact ⟨rfl, hb⟩
  · refine (KK W (mtNew me) a n cap _ 0 ((madeT 0 x1 x2 x3).i : Int) ((madeT 0 x1 x2 x3).a : Int) ((madeT 0 x1 x2 x3).t : Int) (hI.from h0 hB) (show 0 < 18446744073709551616 by decide) hc.row hc.nil hc.le).mono ?_
    rintro e w' ⟨m', xx, ee, rfl, hkey, hb⟩
    rw [hbo] at hkey
    rcases key_sold hkey hm0 hL hfl (Int.le_refl _) (by decide) (one_here _ _ _ _) (judge_new (by omega) (by omega)) with ⟨_, h1, _⟩ | ⟨h1, _⟩ | ⟨_, _, rfl, rfl, rfl⟩
    · exact absurd h1 (by show ¬ (99999999 - 0 < ((madeT 0 x1 x2 x3).a : Int)); omega)
    · exact absurd h1 (by decide)
    · refine ⟨?_, hb⟩
      have e1 : (taken (mtNew me) 0 ((madeT 0 x1 x2 x3).i : Int) ((madeT 0 x1 x2 x3).a : Int)) = ⟨me, 0, ((madeT 0 x1 x2 x3).a : Int), max 0 ((madeT 0 x1 x2 x3).i : Int), win.took 0 0 ((madeT 0 x1 x2 x3).i : Int), 0, 0⟩ := by
        unfold taken mtNew
        simp
      rw [e1]
      rfl

end Go.Proofs.YtmpapnblpjnlmabDoor.met
