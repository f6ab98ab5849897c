/- What was sold to another meter is no good here: all of it. -/
import Derived.Test.YtmpapnblpjnlmacDoorMlOtA
namespace Go.Proofs.YtmpapnblpjnlmacDoor.met
open Go.RowKit Go.Proofs.YtmpapnblpjnlmacDoor.ora Go.Proofs.YtmpapnblpjnlmacDoor.token Go.Proofs.YtmpapnblpjnlmacDoor.check
set_option maxRecDepth 100000
set_option linter.unusedVariables false
set_option linter.unusedSimpArgs false

theorem came_nilO (w : World) : Came w none 0 0 [] := ⟨RowP.nil _ _, fun _ => rfl, Nat.le_refl _, by decide⟩
theorem pick_small {c0 : Int} (h0 : 0 ≤ c0) (h1 : c0 < 4) : (pick c0 4).toNat = c0.toNat := by
  obtain rfl | rfl | rfl | rfl : c0 = 0 ∨ c0 = 1 ∨ c0 = 2 ∨ c0 = 3 := by omega
  all_goals decide
theorem wf_few {c0 : Int} (h0 : 0 ≤ c0) (h1 : c0 < 4) : (Lit.int .i64 c0).wf = true := by
  obtain rfl | rfl | rfl | rfl : c0 = 0 ∨ c0 = 1 ∨ c0 = 2 ∨ c0 = 3 := by omega
  all_goals decide
theorem bad_v (m : Mt) : (badTry m).v = .agg #[.int .i64 m.me, .int .i64 m.rev, .int .i64 m.cr, .int .i64 m.h, .int .u64 (m.b : Int), .int .i64 (badTry m).bad, .int .i64 (badTry m).lock] := by
  unfold badTry
  split <;> rfl
theorem others_walk {I : World → Prop} (hI : Inv I) (KB : KBody I) (KO : KIssue I) (KK : KKey I) (x0 x1 x2 x3 oth y0 y1 y2 y3 : Int) (w : World) (h0 : I w) (hx : wf4i x0 x1 x2 x3) (ho : (Lit.int .i64 oth).wf = true) (hy : wf4i y0 y1 y2 y3) :
    Calls Tryd.prog 3 #[.agg #[.int .i64 x0, .int .i64 x1, .int .i64 x2, .int .i64 x3], .int .i64 oth, .agg #[.int .i64 y0, .int .i64 y1, .int .i64 y2, .int .i64 y3]] w fun e w' => e = .returned (.bool true) ∧ Below w.heap.size w w' := by
  have hp3 : (pick y0 3).toNat < 3 := pick_toNat y0 3 (by decide)
  have hpj : (pick oth 49).toNat < 49 := pick_toNat oth 49 (by decide)
  have HP : ∀ W, Calls Tryd.prog 6 #[.int .i64 y0, .int .i64 3] W fun e w' => e = .returned (.int .i64 (((pick y0 3).toNat : Nat) : Int)) ∧ w' = W := fun W => picked_nat y0 3 W hy.1 (by decide) (by decide)
  have HJ : ∀ W, Calls Tryd.prog 6 #[.int .i64 oth, .int .i64 49] W fun e w' => e = .returned (.int .i64 (((pick oth 49).toNat : Nat) : Int)) ∧ w' = W := fun W => picked_nat oth 49 W ho (by decide) (by decide)
  generalize hc0 : (((pick y0 3).toNat : Nat) : Int) = c0 at HP
  generalize hj0 : (((pick oth 49).toNat : Nat) : Int) = jj at HJ
  have hm := newM_may x0 x1 x2 x3
  have HN : ∀ W, Calls Tryd.prog 5 #[.agg #[.int .i64 x0, .int .i64 x1, .int .i64 x2, .int .i64 x3]] W fun e w' => e = .returned (newM x0 x1 x2 x3).v ∧ Below W.heap.size W w' := fun W => newMeter_any x0 x1 x2 x3 W hx
  have hz : (newM x0 x1 x2 x3).h = 0 ∧ (newM x0 x1 x2 x3).b = 0 ∧ (newM x0 x1 x2 x3).lock = 0 := ⟨rfl, rfl, rfl⟩
  generalize newM x0 x1 x2 x3 = m at *
  obtain ⟨p, q, r, hh, b, s, lk⟩ := m
  simp only [] at hz
  obtain ⟨rfl, rfl, rfl⟩ := hz
  have hme := hm.me
  simp only [] at hme
  have hfar : Mt.may ⟨(p + 1 + jj) % 50, q, r, 0, 0, s, 0⟩ := ⟨by show 0 ≤ (p + 1 + jj) % 50 ∧ (p + 1 + jj) % 50 ≤ 49; omega, hm.rev, hm.cr, hm.bad, hm.lock, hm.one, hm.win⟩
  have hk := made_ok c0 y1 y2 y3
  have hkc : ((madeT c0 y1 y2 y3).c : Int) = c0 := by
    show (((pick c0 4).toNat : Nat) : Int) = c0
    rw [pick_small (by omega) (by omega)]; omega
  have hfl := flaw_tok.2 hk
  have hbo := body_tok (madeT c0 y1 y2 y3)
  have HS : ∀ W, Below w.heap.size w W → Calls Tryd.prog 7 #[.agg #[.slice none 0 0], Mt.v ⟨(p + 1 + jj) % 50, q, r, 0, 0, s, 0⟩, .agg #[.int .i64 c0, .int .i64 y1, .int .i64 y2, .int .i64 y3]] W fun e w' => ∃ a n cap, e = .returned (.tuple #[.agg #[.slice a n cap], .agg #[.int .i64 ((madeT c0 y1 y2 y3).c : Int), .int .i64 ((madeT c0 y1 y2 y3).i : Int), .int .i64 ((madeT c0 y1 y2 y3).a : Int), .int .i64 ((madeT c0 y1 y2 y3).t : Int)], .bool true]) ∧
      Came w' a n cap [⟨(p + 1 + jj) % 50, q, ((madeT c0 y1 y2 y3).body : Int), ((madeT c0 y1 y2 y3).t : Int)⟩] ∧ Below W.heap.size W w' := fun W hB => by
    refine (sold_any hI KB KO ⟨(p + 1 + jj) % 50, q, r, 0, 0, s, 0⟩ none 0 0 [] c0 y1 y2 y3 W (hI.from h0 hB) (came_nilO W) (Alive.none W) ⟨wf_few (by omega) (by omega), hy.2.1, hy.2.2.1, hy.2.2.2⟩).mono ?_
    rintro e w' ⟨a, n, cap, ls, tg, f, rfl, hc, _, _, hi, hb⟩
    obtain ⟨rfl, rfl, rfl⟩ := first_sold hfar hk hi
    exact ⟨a, n, cap, rfl, hc, hb⟩
  have hL := one_may (pr_may hfar hk)
  generalize madeT c0 y1 y2 y3 = k at *
  refine others_abs x0 x1 x2 x3 oth y0 y1 y2 y3 c0 jj p q r s k.c k.i k.a k.t (badTry ⟨p, q, r, 0, 0, s, 0⟩).bad (badTry ⟨p, q, r, 0, 0, s, 0⟩).lock _ w hme.1 hme.2 (by omega) (by omega) HN HJ HP HS (fun W a n cap hB hc => ?_)
  refine (KK W ⟨p, q, r, 0, 0, s, 0⟩ a n cap _ k.c k.i k.a k.t (hI.from h0 hB) (show 0 < 18446744073709551616 by decide) hc.row hc.nil hc.le).mono ?_
  rintro e w' ⟨m', xx, ee, rfl, hkey, hb⟩
  rw [hbo] at hkey
  have hno : ∀ j, j < [Pr.mk ((p + 1 + jj) % 50) q (k.body : Int) (k.t : Int)].length → ([Pr.mk ((p + 1 + jj) % 50) q (k.body : Int) (k.t : Int)].getD j pr0).m ≠ p := fun j hj => by
    obtain rfl : j = 0 := by simp at hj; exact hj
    show (p + 1 + jj) % 50 ≠ p
    omega
  obtain ⟨rfl, rfl, rfl⟩ := key_none hkey hm hL hfl (Int.le_refl _) (by omega) (fun ⟨j, hj, h1, _⟩ => hno j hj h1) (fun ⟨j, hj, h1, _⟩ => hno j hj h1)
  refine ⟨?_, hb⟩
  rw [bad_v]
  rfl

end Go.Proofs.YtmpapnblpjnlmacDoor.met
