/- What is thrown in package book, and what is made of it. -/
import Derived.Test.YtfhlokjpdkmdjaaBlk
import Derived.Test.YtfhlokjpdkmdjaaLet
import Derived.Defers
import Derived.Recover
import Derived.WalkLawsBesides
namespace Go.Proofs.Ytfhlokjpdkmdjaa.book
open Go.RowKit
set_option maxRecDepth 100000
set_option linter.unusedVariables false
set_option linter.unusedSimpArgs false

/-- A refusal, as it is thrown. -/
def refV (f : Int) : Value := .iface 85 (.agg #[.int .i64 f])
def thrown (f : Int) : List PanicEntry := [{ v := refV f, recovered := false }]
theorem insist_ok (w : World) : Calls Try.prog 46 #[.int .i64 0] w fun e w' => e = .returned (.tuple #[]) ∧ w' = w := by
  go_enter Try.func46, Try.ntmps46
  go_wp2
  go_end0
  exact ⟨rfl, rfl⟩
theorem insist_no (f : Int) (hf : f ≠ 0) (w : World) : Calls Try.prog 46 #[.int .i64 f] w fun e w' => e = .panicked (thrown f) ∧ w' = w := by
  have nf : (f != 0) = true := by simpa using hf
  clear hf
  go_enter Try.func46, Try.ntmps46
  go_wp2
  exact ⟨rfl, rfl, rfl⟩
theorem reason_nil (w : World) : Calls Try.prog 26 #[.nilIface] w fun e w' => e = .returned (.int .i64 0) ∧ w' = w := by
  have hq : ∀ w : World, (binOp BinOp.eql 20 .nilIface .nilIface).run Try.prog w = .ok (.bool true) w := fun _ => by kernel_rfl
  go_enter Try.func26, Try.ntmps26
  go_wp2
  go_ret
  exact ⟨rfl, rfl⟩
theorem reason_is (f : Int) (w : World) : Calls Try.prog 26 #[refV f] w fun e w' => e = .returned (.int .i64 f) ∧ Below w.heap.size w w' := by
  have hq : ∀ w : World, (binOp BinOp.eql 20 (refV f) .nilIface).run Try.prog w = .ok (.bool false) w := fun _ => by kernel_rfl
  have h1 : ∀ w : World, (Instr.typeAssert (refV f) 20 83 false).run Try.prog w = .ok (refV f) w := fun _ => by kernel_rfl
  have h2 : ∀ w : World, (Instr.typeAssert (refV f) 83 85 true).run Try.prog w = .ok (.tuple #[.agg #[.int .i64 f], .bool true]) w := fun _ => by kernel_rfl
  have HB : Hid (Below w.heap.size w (w.alloc (.cells #[.int .i64 f] 85))) := (Below.refl _ _).alloc (Nat.le_refl _) _
  unfold refV at *
  go_enter Try.func26, Try.ntmps26
  go_wp2
  go_ret
  exact ⟨rfl, HB.out⟩
set_option maxHeartbeats 1000000 in
theorem encode_caught (g : Nat) (f0 f : Int) (w : World) (hb : Blk w g #[.int .i64 f0] 29) :
    CallsD Try.prog 25 #[.pointer (some ⟨g, 0, none⟩)] (.panicking (thrown f)) w fun e u' w' => e = .returned (.tuple #[]) ∧ settle u' = .returning ∧ ∃ W, Below w.heap.size w W ∧ Upd W w' g #[.int .i64 f] 29 := by
  refine callsD_of_wpS Try.func25 rfl fun c₀ cs hu => ?_
  apply wpS_region
  simp only [thrown] at hu
  simp [wpOpsS, go_sem, recoverD, hu, Try.ntmps25, Exit.thenS]
  refine (reason_is f w).mono ?_
  rintro e w1 ⟨rfl, hb1⟩
  have hB := hb.next hb1
  have hc : w1.cell? ⟨g, 0, none⟩ = some (.int .i64 f0) := hB.cell 0
  have hz : w1.frozen? ⟨g, 0, none⟩ = false := hB.free 0
  have hU : Upd w1 (w1.setCell ⟨g, 0, none⟩ (.int .i64 f)) g #[.int .i64 f] 29 := upd_cells g _ [.int .i64 f] 0 w1 _ hB
  simp [go_sem, hc, hz, bodyPostS, results, Try.results25, settle]
  exact ⟨w1, hb1, hU⟩
set_option maxHeartbeats 1000000 in
theorem encode_idle (g : Nat) (f0 : Int) (w : World) (hb : Blk w g #[.int .i64 f0] 29) :
    CallsD Try.prog 25 #[.pointer (some ⟨g, 0, none⟩)] .returning w fun e u' w' => e = .returned (.tuple #[]) ∧ settle u' = .returning ∧ ∃ W, Below w.heap.size w W ∧ Upd W w' g #[.int .i64 0] 29 := by
  refine callsD_of_wpS Try.func25 rfl fun c₀ cs hu => ?_
  apply wpS_region
  simp [wpOpsS, go_sem, recoverD, hu, Try.ntmps25, Exit.thenS]
  refine (reason_nil w).mono ?_
  rintro e w1 ⟨rfl, rfl⟩
  have hc : w1.cell? ⟨g, 0, none⟩ = some (.int .i64 f0) := hb.cell 0
  have hz : w1.frozen? ⟨g, 0, none⟩ = false := hb.free 0
  have hU : Upd w1 (w1.setCell ⟨g, 0, none⟩ (.int .i64 0)) g #[.int .i64 0] 29 := upd_cells g _ [.int .i64 0] 0 w1 _ hb
  simp [go_sem, hc, hz, bodyPostS, results, Try.results25, hu, settle]
  exact ⟨.returning, (by cases c₀; simp_all), rfl, w1, Below.refl _ _, hU⟩
set_option maxHeartbeats 1000000 in
theorem decode_caught (g : Nat) (f0 f : Int) (w : World) (hb : Blk w g #[.int .i64 f0] 29) :
    CallsD Try.prog 30 #[.pointer (some ⟨g, 0, none⟩)] (.panicking (thrown f)) w fun e u' w' => e = .returned (.tuple #[]) ∧ settle u' = .returning ∧ ∃ W, Below w.heap.size w W ∧ Upd W w' g #[.int .i64 f] 29 := by
  refine callsD_of_wpS Try.func30 rfl fun c₀ cs hu => ?_
  apply wpS_region
  simp only [thrown] at hu
  simp [wpOpsS, go_sem, recoverD, hu, Try.ntmps30, Exit.thenS]
  refine (reason_is f w).mono ?_
  rintro e w1 ⟨rfl, hb1⟩
  have hB := hb.next hb1
  have hc : w1.cell? ⟨g, 0, none⟩ = some (.int .i64 f0) := hB.cell 0
  have hz : w1.frozen? ⟨g, 0, none⟩ = false := hB.free 0
  have hU : Upd w1 (w1.setCell ⟨g, 0, none⟩ (.int .i64 f)) g #[.int .i64 f] 29 := upd_cells g _ [.int .i64 f] 0 w1 _ hB
  simp [go_sem, hc, hz, bodyPostS, results, Try.results30, settle]
  exact ⟨w1, hb1, hU⟩
set_option maxHeartbeats 1000000 in
theorem decode_idle (g : Nat) (f0 : Int) (w : World) (hb : Blk w g #[.int .i64 f0] 29) :
    CallsD Try.prog 30 #[.pointer (some ⟨g, 0, none⟩)] .returning w fun e u' w' => e = .returned (.tuple #[]) ∧ settle u' = .returning ∧ ∃ W, Below w.heap.size w W ∧ Upd W w' g #[.int .i64 0] 29 := by
  refine callsD_of_wpS Try.func30 rfl fun c₀ cs hu => ?_
  apply wpS_region
  simp [wpOpsS, go_sem, recoverD, hu, Try.ntmps30, Exit.thenS]
  refine (reason_nil w).mono ?_
  rintro e w1 ⟨rfl, rfl⟩
  have hc : w1.cell? ⟨g, 0, none⟩ = some (.int .i64 f0) := hb.cell 0
  have hz : w1.frozen? ⟨g, 0, none⟩ = false := hb.free 0
  have hU : Upd w1 (w1.setCell ⟨g, 0, none⟩ (.int .i64 0)) g #[.int .i64 0] 29 := upd_cells g _ [.int .i64 0] 0 w1 _ hb
  simp [go_sem, hc, hz, bodyPostS, results, Try.results30, hu, settle]
  exact ⟨.returning, (by cases c₀; simp_all), rfl, w1, Below.refl _ _, hU⟩

end Go.Proofs.Ytfhlokjpdkmdjaa.book
