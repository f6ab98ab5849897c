/- Once, and not again: all of it. -/
import Derived.Test.YtmpapnblpjnlmabDoorMlOnA
import Derived.Test.YtmpapnblpjnlmabDoorMlAd
namespace Go.Proofs.YtmpapnblpjnlmabDoor.met
open Go.RowKit Go.Proofs.YtmpapnblpjnlmabDoor.ora Go.Proofs.YtmpapnblpjnlmabDoor.token Go.Proofs.YtmpapnblpjnlmabDoor.check
set_option maxRecDepth 100000
set_option linter.unusedVariables false
set_option linter.unusedSimpArgs false

theorem pick_pick {c0 : Int} (h0 : 0 ≤ c0) (h1 : c0 < 4) : (pick c0 4).toNat = c0.toNat := by
  obtain rfl | rfl | rfl | rfl : c0 = 0 ∨ c0 = 1 ∨ c0 = 2 ∨ c0 = 3 := by omega
  all_goals decide
theorem wf_small {c0 : Int} (h0 : 0 ≤ c0) (h1 : c0 < 4) : (Lit.int .i64 c0).wf = true := by
  obtain rfl | rfl | rfl | rfl : c0 = 0 ∨ c0 = 1 ∨ c0 = 2 ∨ c0 = 3 := by omega
  all_goals decide
theorem once_walk {I : World → Prop} (hI : Inv I) (KB : KBody I) (KO : KIssue I) (KK : KKey I) (x0 x1 x2 x3 y0 y1 y2 y3 : Int) (w : World) (h0 : I w) (hx : wf4i x0 x1 x2 x3) (hy : wf4i y0 y1 y2 y3) :
    Calls Tryd.prog 4 #[.agg #[.int .i64 x0, .int .i64 x1, .int .i64 x2, .int .i64 x3], .agg #[.int .i64 y0, .int .i64 y1, .int .i64 y2, .int .i64 y3]] w fun e w' => e = .returned (.bool true) ∧ Below w.heap.size w w' := by
  have hp2 : (pick y0 2).toNat < 2 := pick_toNat y0 2 (by decide)
  have HP : ∀ W, Calls Tryd.prog 10 #[.int .i64 y0, .int .i64 2] W fun e w' => e = .returned (.int .i64 (((pick y0 2).toNat : Nat) : Int)) ∧ w' = W := fun W => picked_nat y0 2 W hy.1 (by decide) (by decide)
  generalize hc0 : (((pick y0 2).toNat : Nat) : Int) = c0 at HP
  have hm := newM_may x0 x1 x2 x3
  have hk := made_ok c0 y1 y2 y3
  have hkc : ((madeT c0 y1 y2 y3).c : Int) = c0 := by
    show (((pick c0 4).toNat : Nat) : Int) = c0
    rw [pick_pick (by omega) (by omega)]; omega
  have hc1 : c0 = 0 ∨ c0 = 1 := by omega
  have hfl := flaw_tok.2 hk
  have hbo := body_tok (madeT c0 y1 y2 y3)
  have HS : ∀ W, Below w.heap.size w W → Calls Tryd.prog 8 #[.agg #[.slice none 0 0], (newM x0 x1 x2 x3).v, .agg #[.int .i64 c0, .int .i64 y1, .int .i64 y2, .int .i64 y3]] W fun e w' => ∃ a n cap, e = .returned (.tuple #[.agg #[.slice a n cap], .agg #[.int .i64 ((madeT c0 y1 y2 y3).c : Int), .int .i64 ((madeT c0 y1 y2 y3).i : Int), .int .i64 ((madeT c0 y1 y2 y3).a : Int), .int .i64 ((madeT c0 y1 y2 y3).t : Int)], .bool true]) ∧
      Came w' a n cap [⟨(newM x0 x1 x2 x3).me, (newM x0 x1 x2 x3).rev, ((madeT c0 y1 y2 y3).body : Int), ((madeT c0 y1 y2 y3).t : Int)⟩] ∧ Below W.heap.size W w' := fun W hB => by
    refine (sold_any hI KB KO (newM x0 x1 x2 x3) none 0 0 [] c0 y1 y2 y3 W (hI.from h0 hB) (came_nil W) (Alive.none W) ⟨wf_small (by omega) (by omega), hy.2.1, hy.2.2.1, hy.2.2.2⟩).mono ?_
    rintro e w' ⟨a, n, cap, ls, tg, f, rfl, hc, _, _, hi, hb⟩
    obtain ⟨rfl, rfl, rfl⟩ := first_sold hm hk hi
    exact ⟨a, n, cap, rfl, hc, hb⟩
  have hJ : win.JudgeIs (newM x0 x1 x2 x3).h (newM x0 x1 x2 x3).b ((madeT c0 y1 y2 y3).i : Int) 0 := judge_new (by have := hk.i1; omega) (by have := hk.i2; omega)
  have hL := one_may (pr_may hm hk)
  have hH := one_here (newM x0 x1 x2 x3).me (newM x0 x1 x2 x3).rev ((madeT c0 y1 y2 y3).body : Int) ((madeT c0 y1 y2 y3).t : Int)
  generalize madeT c0 y1 y2 y3 = k at *
  by_cases hfull : (k.c : Int) = 0 ∧ 99999999 - (newM x0 x1 x2 x3).cr < (k.a : Int)
  · refine once_full x0 x1 x2 x3 y0 y1 y2 y3 c0 _ _ _ _ k.c k.i k.a k.t _ w (fun W => newMeter_any x0 x1 x2 x3 W hx) HP HS (fun W a n cap hB hc => ?_)
    refine (KK W (newM x0 x1 x2 x3) a n cap _ k.c k.i k.a k.t (hI.from h0 hB) (show 0 < 18446744073709551616 by decide) hc.row hc.nil hc.le).mono ?_
    rintro e w' ⟨m', xx, ee, rfl, hkey, hb⟩
    rw [hbo] at hkey
    rcases key_sold hkey hm hL hfl (Int.le_refl _) (by omega) hH hJ with ⟨_, _, rfl, rfl, rfl⟩ | ⟨h1, _⟩ | ⟨h1, _⟩
    · exact ⟨rfl, hb⟩
    · exfalso; omega
    · exact absurd hfull h1
  · have ha1 : (k.c : Int) = 0 ↔ 0 < (if (k.c : Int) = 0 then (k.a : Int) else 0) := by
      split
      · rename_i hc; have := hk.a0 (by omega); omega
      · rename_i hc; omega
    refine once_take x0 x1 x2 x3 y0 y1 y2 y3 c0 _ _ _ _ k.c k.i k.a k.t (taken (newM x0 x1 x2 x3) k.c k.i k.a).cr (taken (newM x0 x1 x2 x3) k.c k.i k.a).h (if (k.c : Int) = 0 then (k.a : Int) else 0) (taken (newM x0 x1 x2 x3) k.c k.i k.a).b _ w ?_ (fun W => newMeter_any x0 x1 x2 x3 W hx) HP HS (fun W a n cap hB hc => ?_) (fun W a n cap hB hc => ?_)
    · by_cases hz : (k.c : Int) = 0
      · have := ha1.1 hz
        rw [decide_eq_true this]; simp; omega
      · have : ¬ 0 < (if (k.c : Int) = 0 then (k.a : Int) else 0) := fun h => hz (ha1.2 h)
        rw [decide_eq_false this]; simp only [beq_eq_false_iff_ne, ne_eq, beq_iff_eq]; exact hz
    · refine (KK W (newM x0 x1 x2 x3) a n cap _ k.c k.i k.a k.t (hI.from h0 hB) (show 0 < 18446744073709551616 by decide) hc.row hc.nil hc.le).mono ?_
      rintro e w' ⟨m', xx, ee, rfl, hkey, hb⟩
      rw [hbo] at hkey
      rcases key_sold hkey hm hL hfl (Int.le_refl _) (by omega) hH hJ with ⟨h1, h2, _⟩ | ⟨h1, _⟩ | ⟨_, _, rfl, rfl, rfl⟩
      · exact absurd ⟨h1, h2⟩ hfull
      · exfalso; omega
      · refine ⟨?_, hb⟩
        have e1 : (taken (newM x0 x1 x2 x3) k.c k.i k.a).rev = (newM x0 x1 x2 x3).rev := by unfold taken; simp only []; rw [if_neg (by omega)]
        show Ending.returned (.tuple #[.agg #[_, .int .i64 (taken (newM x0 x1 x2 x3) k.c k.i k.a).rev, _, _, _, _, _], _, _]) = _
        rw [e1]
        rfl
    · have hbt : (taken (newM x0 x1 x2 x3) k.c k.i k.a).b < 18446744073709551616 := win.took_lt (by
        rcases hJ with ⟨_, e⟩ | ⟨_, _, e⟩ | ⟨_, _, _, e⟩ | ⟨_, _, _, _, e⟩ | ⟨_, _, _, hn, _⟩
        · exact absurd e (by decide)
        · exact absurd e (by decide)
        · exact absurd e (by decide)
        · exact absurd e (by decide)
        · exact hn)
      have e1 : (taken (newM x0 x1 x2 x3) k.c k.i k.a).rev = (newM x0 x1 x2 x3).rev := by unfold taken; simp only []; rw [if_neg (by omega)]
      have e2 : (taken (newM x0 x1 x2 x3) k.c k.i k.a).v = .agg #[.int .i64 (newM x0 x1 x2 x3).me, .int .i64 (newM x0 x1 x2 x3).rev, .int .i64 (taken (newM x0 x1 x2 x3) k.c k.i k.a).cr, .int .i64 (taken (newM x0 x1 x2 x3) k.c k.i k.a).h, .int .u64 ((taken (newM x0 x1 x2 x3) k.c k.i k.a).b : Int), .int .i64 0, .int .i64 0] := by
        show Value.agg #[_, .int .i64 (taken (newM x0 x1 x2 x3) k.c k.i k.a).rev, _, _, _, _, _] = _
        rw [e1]
        rfl
      rw [← e2]
      refine (KK W (taken (newM x0 x1 x2 x3) k.c k.i k.a) a n cap _ k.c k.i k.a k.t (hI.from h0 hB) hbt hc.row hc.nil hc.le).mono ?_
      rintro e w' ⟨m', xx, ee, rfl, hkey, hb⟩
      rw [hbo] at hkey
      obtain ⟨rfl, rfl, rfl⟩ := key_again hm hL hfl (Int.le_refl _) (by omega) (by omega) hH hJ (by omega) hfull hkey
      exact ⟨rfl, hb⟩

end Go.Proofs.YtmpapnblpjnlmabDoor.met
