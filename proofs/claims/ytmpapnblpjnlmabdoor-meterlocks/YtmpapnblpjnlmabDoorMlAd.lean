/- What was sold here adds just its units, if there is room: all of it. -/
import Derived.Test.YtmpapnblpjnlmabDoorMlAdA
namespace Go.Proofs.YtmpapnblpjnlmabDoor.met
open Go.RowKit Go.Proofs.YtmpapnblpjnlmabDoor.ora Go.Proofs.YtmpapnblpjnlmabDoor.token Go.Proofs.YtmpapnblpjnlmabDoor.check
set_option maxRecDepth 100000
set_option linter.unusedVariables false
set_option linter.unusedSimpArgs false

theorem came_nil (w : World) : Came w none 0 0 [] := ⟨RowP.nil _ _, fun _ => rfl, Nat.le_refl _, by decide⟩
theorem made_zero (y1 y2 y3 : Int) : (madeT 0 y1 y2 y3).c = 0 := by
  show (pick 0 4).toNat = 0
  decide
theorem wf_zero : (Lit.int .i64 0).wf = true := by decide
theorem adds_walk {I : World → Prop} (hI : Inv I) (KB : KBody I) (KO : KIssue I) (KK : KKey I) (x0 x1 x2 x3 y0 y1 y2 y3 : Int) (w : World) (h0 : I w) (hx : wf4i x0 x1 x2 x3) (hy : wf4i y0 y1 y2 y3) :
    Calls Tryd.prog 3 #[.agg #[.int .i64 x0, .int .i64 x1, .int .i64 x2, .int .i64 x3], .agg #[.int .i64 y0, .int .i64 y1, .int .i64 y2, .int .i64 y3]] w fun e w' => e = .returned (.bool true) ∧ Below w.heap.size w w' := by
  have hm := newM_may x0 x1 x2 x3
  have hk := made_ok 0 y1 y2 y3
  have hc0 := made_zero y1 y2 y3
  have hcr := hm.cr
  have hfl := flaw_tok.2 hk
  rw [hc0] at hfl
  have hbo : bodyI 0 ((madeT 0 y1 y2 y3).i : Int) ((madeT 0 y1 y2 y3).a : Int) = ((madeT 0 y1 y2 y3).body : Int) := by
    have := body_tok (madeT 0 y1 y2 y3)
    rw [hc0] at this
    exact this
  refine adds_abs x0 x1 x2 x3 y0 y1 y2 y3 (newM x0 x1 x2 x3).me (newM x0 x1 x2 x3).rev (newM x0 x1 x2 x3).cr (newM x0 x1 x2 x3).bad (madeT 0 y1 y2 y3).i (madeT 0 y1 y2 y3).a (madeT 0 y1 y2 y3).t
    [⟨(newM x0 x1 x2 x3).me, (newM x0 x1 x2 x3).rev, ((madeT 0 y1 y2 y3).body : Int), ((madeT 0 y1 y2 y3).t : Int)⟩] w hcr.1 hcr.2 (by omega) (by have := hk.a2; omega) (fun W => newMeter_any x0 x1 x2 x3 W hx) (fun W hB => ?_) (fun W a n cap hB hc => ?_)
  · refine (sold_any hI KB KO (newM x0 x1 x2 x3) none 0 0 [] 0 y1 y2 y3 W (hI.from h0 hB) (came_nil W) (Alive.none W) ⟨wf_zero, hy.2.1, hy.2.2.1, hy.2.2.2⟩).mono ?_
    rintro e w' ⟨a, n, cap, ls, tg, f, rfl, hc, _, _, hi, hb⟩
    obtain ⟨rfl, rfl, rfl⟩ := first_sold hm hk hi
    rw [hc0]
    exact ⟨a, n, cap, rfl, hc, hb⟩
  · refine (KK W (newM x0 x1 x2 x3) a n cap _ 0 ((madeT 0 y1 y2 y3).i : Int) ((madeT 0 y1 y2 y3).a : Int) ((madeT 0 y1 y2 y3).t : Int) (hI.from h0 hB) (show 0 < 18446744073709551616 by decide) hc.row hc.nil hc.le).mono ?_
    rintro e w' ⟨m', xx, ee, rfl, hkey, hb⟩
    rw [hbo] at hkey
    refine ⟨?_, hb⟩
    rcases key_sold hkey hm (one_may (pr_may hm hk)) hfl (Int.le_refl _) (by decide) (one_here _ _ _ _) (judge_new (by have := hk.i1; omega) (by have := hk.i2; omega)) with ⟨_, h1, rfl, rfl, rfl⟩ | ⟨h1, _⟩ | ⟨h1, _, rfl, rfl, rfl⟩
    · exact .inl ⟨h1, rfl⟩
    · exact absurd h1 (by decide)
    · exact .inr ⟨fun h => h1 ⟨rfl, h⟩, _, _, rfl⟩

end Go.Proofs.YtmpapnblpjnlmabDoor.met
