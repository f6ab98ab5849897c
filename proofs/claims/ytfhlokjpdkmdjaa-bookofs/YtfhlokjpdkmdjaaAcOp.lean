/- An account that is opened, as the document has it. -/
import Derived.Test.YtfhlokjpdkmdjaaSh
import Derived.Test.YtfhlokjpdkmdjaaAcD
import Derived.Test.YtfhlokjpdkmdjaaCaIn
import Derived.Test.YtfhlokjpdkmdjaaLet
import Derived.Test.YtfhlokjpdkmdjaaBlk
namespace Go.Proofs.Ytfhlokjpdkmdjaa.acc
open Go.Proofs.Ytfhlokjpdkmdjaa.tar (Du du0 Came RowD Ld PairT)
open Go.RowKit
set_option maxRecDepth 100000
set_option linter.unusedVariables false
set_option linter.unusedSimpArgs false

set_option maxHeartbeats 2000000 in
theorem ropen (m : Int) (w : World) : Calls Try.prog 37 #[.int .i64 m] w fun e w' => APost w (OpenIs m) e w' := by
  have HIM : Hid (∀ W, Calls Try.prog 47 #[.int .i64 m, .int .i64 0, .int .i64 49] W fun e w' => e = .returned (.bool (decide (0 ≤ m ∧ m ≤ 49))) ∧ w' = W) := fun W => cal.cin m 0 49 W
  have H0r : Hid (Blk (w.alloc (.cells #[.int .i64 0, .int .i64 0, .int .i64 0, .int .i64 0, .int .i64 0, .int .i64 0, .slice none 0 0] 55)) w.heap.size #[.int .i64 0, .int .i64 0, .int .i64 0, .int .i64 0, .int .i64 0, .int .i64 0, .slice none 0 0] 55) := Blk.new w _ _
  have H0B : Hid (Below w.heap.size w (w.alloc (.cells #[.int .i64 0, .int .i64 0, .int .i64 0, .int .i64 0, .int .i64 0, .int .i64 0, .slice none 0 0] 55))) := (Below.refl w.heap.size w).alloc (by simp) _
  by_cases hm : 0 ≤ m ∧ m ≤ 49
  · rw [decide_eq_true hm] at HIM
    have HM : Hid ((0 ≤ m ∧ m ≤ 49)) := hm
    clear hm
    go_enter Try.func37, Try.ntmps37
    go_wp2_with fail
    refine (HIM.out _).mono ?_
    rintro e w1 ⟨rfl, hw1⟩
    subst hw1
    go_wp2_with (first | (refine wp_letAll rfl 55 _ _ rfl _ rfl _ rfl (by kernel_rfl) (by simp [Value.oneCell']) _ 55 H0r.out rfl ?_) | fail)
    intro WF hU
    have H9r : Hid (Blk WF w.heap.size #[.int .i64 m, .int .i64 0, .int .i64 1, .int .i64 0, .int .i64 0, .int .i64 (-1), .slice none 0 0] 55) := hU.blk
    have H9B := shV hU H0B (by omega)
    clear hU H0r H0B
    have Rr0 : Hid (WF.cell? ⟨w.heap.size, 0, none⟩ = some (.int .i64 m)) := H9r.out.cell 0
    have Rr1 : Hid (WF.cell? ⟨w.heap.size, 1, none⟩ = some (.int .i64 0)) := H9r.out.cell 1
    have Rr2 : Hid (WF.cell? ⟨w.heap.size, 2, none⟩ = some (.int .i64 1)) := H9r.out.cell 2
    have Rr3 : Hid (WF.cell? ⟨w.heap.size, 3, none⟩ = some (.int .i64 0)) := H9r.out.cell 3
    have Rr4 : Hid (WF.cell? ⟨w.heap.size, 4, none⟩ = some (.int .i64 0)) := H9r.out.cell 4
    have Rr5 : Hid (WF.cell? ⟨w.heap.size, 5, none⟩ = some (.int .i64 (-1))) := H9r.out.cell 5
    have Rr6 : Hid (WF.cell? ⟨w.heap.size, 6, none⟩ = some (.slice none 0 0)) := H9r.out.cell 6
    go_wp2_with fail
    exact bodyPost_ret (v := .tuple #[.agg #[.int .i64 m, .int .i64 0, .int .i64 1, .int .i64 0, .int .i64 0, .int .i64 (-1), .slice none 0 0], .int .i64 0]) (by simp [results, Try.results37, Rr0.out, Rr1.out, Rr2.out, Rr3.out, Rr4.out, Rr5.out, Rr6.out, go_sem]) rfl ⟨⟨m, 0, 1, 0, 0, -1, []⟩, none, 0, 0, _, rfl, .inl ⟨HM.out, rfl, rfl⟩, deb.fresh_nil _ _, H9B.out⟩
  · rw [decide_eq_false hm] at HIM
    have HM : Hid (¬ (0 ≤ m ∧ m ≤ 49)) := hm
    clear hm
    go_enter Try.func37, Try.ntmps37
    go_wp2_with fail
    refine (HIM.out _).mono ?_
    rintro e w1 ⟨rfl, hw1⟩
    subst hw1
    go_wp2_with (first | (refine wp_letAll rfl 55 _ _ rfl _ rfl _ rfl (by kernel_rfl) (by simp [Value.oneCell']) _ 55 H0r.out rfl ?_) | fail)
    intro WF hU
    have H9r : Hid (Blk WF w.heap.size #[.int .i64 0, .int .i64 0, .int .i64 0, .int .i64 0, .int .i64 0, .int .i64 0, .slice none 0 0] 55) := hU.blk
    have H9B := shV hU H0B (by omega)
    clear hU H0r H0B
    obtain ⟨Rr0, Rr1, Rr2, Rr3, Rr4, Rr5, Rr6⟩ := shc7 H9r
    go_wp2_with fail
    exact bodyPost_ret (v := .tuple #[.agg #[.int .i64 0, .int .i64 0, .int .i64 0, .int .i64 0, .int .i64 0, .int .i64 0, .slice none 0 0], .int .i64 2]) (by simp [results, Try.results37, Rr0.out, Rr1.out, Rr2.out, Rr3.out, Rr4.out, Rr5.out, Rr6.out, go_sem]) rfl ⟨ac0, none, 0, 0, _, rfl, .inr ⟨HM.out, rfl, rfl⟩, deb.fresh_nil _ _, H9B.out⟩

end Go.Proofs.Ytfhlokjpdkmdjaa.acc
