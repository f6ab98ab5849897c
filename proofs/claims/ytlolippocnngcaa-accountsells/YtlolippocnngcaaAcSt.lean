/- Terms compared by the exact statements. -/
import Derived.Test.YtlolippocnngcaaAcU
import Derived.Test.YtlolippocnngcaaTfS
import Derived.Deep.DeepCutAuto
namespace Go.Proofs.Ytlolippocnngcaa.acc
open Go.Proofs.Ytlolippocnngcaa.tar (Du du0 Came RowD Ld PairT)
open Go.RowKit
set_option maxRecDepth 100000
set_option linter.unusedVariables false
set_option linter.unusedSimpArgs false

set_option maxHeartbeats 4000000 in
theorem same_terms (x : Tm) (p p2 : Option Addr) (len cap cap2 : Nat) (w : World) (h : Came w p len cap x.ts) (h2 : Came w p2 len cap2 x.ts) : Calls Try.prog 12 #[x.v p len cap, x.v p2 len cap2] w fun e w' => e = .returned (.bool true) ∧ Below w.heap.size w w' := by
  unfold Tm.v
  have H0d : Hid (Blk ((w.alloc (.cells #[.slice p len cap, .int .i64 x.ff, .int .i64 x.fb, .int .i64 x.db, .int .i64 x.al] 24)).alloc (.cells #[.slice p2 len cap2, .int .i64 x.ff, .int .i64 x.fb, .int .i64 x.db, .int .i64 x.al] 24)) (w.heap.size) #[.slice p len cap, .int .i64 x.ff, .int .i64 x.fb, .int .i64 x.db, .int .i64 x.al] 24) := (Blk.new w _ _).alloc _
  have H0e : Hid (Blk ((w.alloc (.cells #[.slice p len cap, .int .i64 x.ff, .int .i64 x.fb, .int .i64 x.db, .int .i64 x.al] 24)).alloc (.cells #[.slice p2 len cap2, .int .i64 x.ff, .int .i64 x.fb, .int .i64 x.db, .int .i64 x.al] 24)) (w.heap.size + 1) #[.slice p2 len cap2, .int .i64 x.ff, .int .i64 x.fb, .int .i64 x.db, .int .i64 x.al] 24) := Blk.new1 w _ _ _
  have H0B : Hid (Below w.heap.size w ((w.alloc (.cells #[.slice p len cap, .int .i64 x.ff, .int .i64 x.fb, .int .i64 x.db, .int .i64 x.al] 24)).alloc (.cells #[.slice p2 len cap2, .int .i64 x.ff, .int .i64 x.fb, .int .i64 x.db, .int .i64 x.al] 24))) := ((Below.refl w.heap.size w).alloc (by simp) _).alloc (by simp) _
  have H0C : Hid (Came ((w.alloc (.cells #[.slice p len cap, .int .i64 x.ff, .int .i64 x.fb, .int .i64 x.db, .int .i64 x.al] 24)).alloc (.cells #[.slice p2 len cap2, .int .i64 x.ff, .int .i64 x.fb, .int .i64 x.db, .int .i64 x.al] 24)) p len cap x.ts) := h.below H0B.out
  have H0D : Hid (Came ((w.alloc (.cells #[.slice p len cap, .int .i64 x.ff, .int .i64 x.fb, .int .i64 x.db, .int .i64 x.al] 24)).alloc (.cells #[.slice p2 len cap2, .int .i64 x.ff, .int .i64 x.fb, .int .i64 x.db, .int .i64 x.al] 24)) p2 len cap2 x.ts) := h2.below H0B.out
  have hs0 : w.heap.size + 1 < ((w.alloc (.cells #[.slice p len cap, .int .i64 x.ff, .int .i64 x.fb, .int .i64 x.db, .int .i64 x.al] 24)).alloc (.cells #[.slice p2 len cap2, .int .i64 x.ff, .int .i64 x.fb, .int .i64 x.db, .int .i64 x.al] 24)).heap.size := H0e.out.lt
  generalize hWW : ((w.alloc (.cells #[.slice p len cap, .int .i64 x.ff, .int .i64 x.fb, .int .i64 x.db, .int .i64 x.al] 24)).alloc (.cells #[.slice p2 len cap2, .int .i64 x.ff, .int .i64 x.fb, .int .i64 x.db, .int .i64 x.al] 24)) = W0 at *
  have HWW : Hid (((w.alloc (.cells #[.slice p len cap, .int .i64 x.ff, .int .i64 x.fb, .int .i64 x.db, .int .i64 x.al] 24)).alloc (.cells #[.slice p2 len cap2, .int .i64 x.ff, .int .i64 x.fb, .int .i64 x.db, .int .i64 x.al] 24)) = W0) := hWW
  clear hWW
  go_enter Try.func12, Try.ntmps12
  go_upto_region 1 with fail
  rw [HWW.out]
  clear HWW
  have HSD : Hid (Calls Try.prog 30 #[.slice p len cap, .slice p2 len cap2] W0 fun e w' => e = .returned (.bool true) ∧ Below W0.heap.size W0 w') := tar.same_steps p p2 len cap cap2 x.ts W0 H0C.out.row H0D.out.row H0C.out.most
  clear h h2 H0C H0D
  have n0 : (x.ff == x.ff) = true := by simp
  have n1 : (x.fb == x.fb) = true := by simp
  have n2 : (x.db == x.db) = true := by simp
  have n3 : (x.al == x.al) = true := by simp
  have qd0 : W0.cell? ⟨w.heap.size, 0, none⟩ = some (.slice p len cap) := H0d.out.cell 0
  have qd1 : W0.cell? ⟨w.heap.size, 1, none⟩ = some (.int .i64 x.ff) := H0d.out.cell 1
  have qd2 : W0.cell? ⟨w.heap.size, 2, none⟩ = some (.int .i64 x.fb) := H0d.out.cell 2
  have qd3 : W0.cell? ⟨w.heap.size, 3, none⟩ = some (.int .i64 x.db) := H0d.out.cell 3
  have qd4 : W0.cell? ⟨w.heap.size, 4, none⟩ = some (.int .i64 x.al) := H0d.out.cell 4
  have qe0 : W0.cell? ⟨w.heap.size + 1, 0, none⟩ = some (.slice p2 len cap2) := H0e.out.cell 0
  have qe1 : W0.cell? ⟨w.heap.size + 1, 1, none⟩ = some (.int .i64 x.ff) := H0e.out.cell 1
  have qe2 : W0.cell? ⟨w.heap.size + 1, 2, none⟩ = some (.int .i64 x.fb) := H0e.out.cell 2
  have qe3 : W0.cell? ⟨w.heap.size + 1, 3, none⟩ = some (.int .i64 x.db) := H0e.out.cell 3
  have qe4 : W0.cell? ⟨w.heap.size + 1, 4, none⟩ = some (.int .i64 x.al) := H0e.out.cell 4
  clear H0d H0e
  go_wp2_with fail
  refine HSD.out.mono ?_
  rintro e w2 ⟨rfl, hb2⟩
  have H2B : Hid (Below w.heap.size w w2) := H0B.out.trans (hb2.mono H0B.out.size)
  clear hb2 HSD
  go_wp2_with fail
  go_ret
  exact ⟨rfl, H2B.out⟩

end Go.Proofs.Ytlolippocnngcaa.acc
