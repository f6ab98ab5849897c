/- A meter's code, as the document has it. -/
import Derived.Test.YtnhidiefchamlaaDoorCdP
import Derived.Test.YtnhidiefchamlaaDoorCdD
import Derived.Test.YtnhidiefchamlaaDoorMtR
import Derived.Test.YtnhidiefchamlaaDoorLet
import Derived.Test.YtnhidiefchamlaaDoorProg
import Derived.WalkKit
import Derived.Deep.DeepCutAuto
namespace Go.Proofs.YtnhidiefchamlaaDoor.cod
open Go.Proofs.YtnhidiefchamlaaDoor.met (Mt)
open Go.RowKit
set_option maxRecDepth 100000
set_option linter.unusedVariables false
set_option linter.unusedSimpArgs false

set_option maxHeartbeats 2000000 in
theorem rcoded (m : Mt) (w : World) (hb : m.b < 18446744073709551616) : Calls Tryd.prog 8 #[m.v] w fun e w' => CodePost w m e w' := by
  have HMM : Hid (∀ W, Calls Tryd.prog 19 #[m.v] W fun e w' => met.Told W m.may e w') := fun W => met.mmay_any m W hb
  have HX0 : Hid (Blk (w.alloc (.cells #[.int .i64 m.me, .int .i64 m.rev, .int .i64 m.cr, .int .i64 m.h, .int .u64 (m.b : Int), .int .i64 m.bad, .int .i64 m.lock] 26)) w.heap.size #[.int .i64 m.me, .int .i64 m.rev, .int .i64 m.cr, .int .i64 m.h, .int .u64 (m.b : Int), .int .i64 m.bad, .int .i64 m.lock] 26) := Blk.new _ _ _
  have HB0 : Hid (Below w.heap.size w (w.alloc (.cells #[.int .i64 m.me, .int .i64 m.rev, .int .i64 m.cr, .int .i64 m.h, .int .u64 (m.b : Int), .int .i64 m.bad, .int .i64 m.lock] 26))) := (Below.refl _ _).alloc (Nat.le_refl _) _
  clear hb
  unfold met.Mt.v met.Mt.cells at *
  go_enter Tryd.func8, Tryd.ntmps8
  go_upto_region 1 with fail
  generalize w.alloc (.cells #[.int .i64 m.me, .int .i64 m.rev, .int .i64 m.cr, .int .i64 m.h, .int .u64 (m.b : Int), .int .i64 m.bad, .int .i64 m.lock] 26) = W0 at *
  go_wp2_with (first | (refine wp_whole rfl 26 _ rfl (w.heap.size) rfl 26 #[.int .i64 m.me, .int .i64 m.rev, .int .i64 m.cr, .int .i64 m.h, .int .u64 (m.b : Int), .int .i64 m.bad, .int .i64 m.lock] _ HX0.out Tryd.underlying26 rfl (by kernel_rfl) ?_) | fail)
  refine (HMM.out _).mono ?_
  rintro e W1 ⟨r, rfl, hr, hb1⟩
  have HB1 : Hid (Below w.heap.size w W1) := bel_step HB0.out hb1
  have HX1 : Hid (Blk W1 w.heap.size #[.int .i64 m.me, .int .i64 m.rev, .int .i64 m.cr, .int .i64 m.h, .int .u64 (m.b : Int), .int .i64 m.bad, .int .i64 m.lock] 26) := HX0.out.next hb1
  clear hb1 HX0 HB0 HMM
  cases r with
  | false =>
    have hn : ¬ m.may := fun h => by have := hr.2 h; cases this
    have HI : Hid (CodeIs m [] 5) := .inr ⟨hn, rfl, rfl⟩
    clear hr hn HX1
    go_wp2_with fail
    go_ret2
    exact ⟨[], 5, rfl, HI.out, HB1.out⟩
  | true =>
    have hm : m.may := hr.1 rfl
    obtain ⟨hlt, h0, h1⟩ := num_lt hm
    have HI : Hid (CodeIs m (codeL (num m)) 0) := .inl ⟨hm, rfl, rfl⟩
    have HP := padded_big (num m) 18 W1 hlt (by decide)
    rw [show rcp.pad (num m) 18 = codeL (num m) from rfl] at HP
    obtain ⟨c0, c1⟩ := hm.cr
    obtain ⟨m0, m1⟩ := hm.me
    have q1 : IntKind.i64.wrap (1048576 * m.cr) = 1048576 * m.cr := by rw [IntKind.wrap_i64]; omega
    have q2 : IntKind.i64.wrap (1048576 * m.cr + m.h) = 1048576 * m.cr + m.h := by rw [IntKind.wrap_i64]; omega
    have q3 : IntKind.i64.wrap (50 * (1048576 * m.cr + m.h)) = 50 * (1048576 * m.cr + m.h) := by rw [IntKind.wrap_i64]; omega
    have q4 : IntKind.i64.wrap (50 * (1048576 * m.cr + m.h) + m.me) = 50 * (1048576 * m.cr + m.h) + m.me := by rw [IntKind.wrap_i64]; omega
    have q5 : IntKind.i64.wrap (97 * (50 * (1048576 * m.cr + m.h) + m.me)) = ((num m : Nat) : Int) := by rw [IntKind.wrap_i64]; unfold num; omega
    have k0 : W1.cell? ⟨w.heap.size, 0, none⟩ = some (.int .i64 m.me) := HX1.out.cell 0
    have k2 : W1.cell? ⟨w.heap.size, 2, none⟩ = some (.int .i64 m.cr) := HX1.out.cell 2
    have k3 : W1.cell? ⟨w.heap.size, 3, none⟩ = some (.int .i64 m.h) := HX1.out.cell 3
    clear hr hm hlt HX1
    generalize hT : (⟨(codeL (num m)).toArray⟩ : ByteArray) = T at *
    have HT : Hid ((⟨(codeL (num m)).toArray⟩ : ByteArray) = T) := hT
    clear hT
    go_wp2_with fail
    refine HP.mono ?_
    rintro e W2 ⟨rfl, hb⟩
    have HB2 : Hid (Below w.heap.size w W2) := bel_step HB1.out hb
    clear hb HP HB1 k0 k2 k3 q1 q2 q3 q4 q5
    go_wp2_with fail
    go_ret2
    exact ⟨codeL (num m), 0, by rw [HT.out]; rfl, HI.out, HB2.out⟩

end Go.Proofs.YtnhidiefchamlaaDoor.cod
