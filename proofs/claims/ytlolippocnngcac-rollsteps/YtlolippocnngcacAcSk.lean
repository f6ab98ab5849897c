/- Accounts compared by the keeping statements. -/
import Derived.Test.YtlolippocnngcacAcU
import Derived.Test.YtlolippocnngcacDbSk
import Derived.Deep.DeepCutAuto
namespace Go.Proofs.Ytlolippocnngcac.acc
open Go.Proofs.Ytlolippocnngcac.tar (Du du0 Came RowD Ld PairT)
open Go.RowKit
set_option maxRecDepth 100000
set_option linter.unusedVariables false
set_option linter.unusedSimpArgs false

set_option maxHeartbeats 4000000 in
theorem keep_acc (x : Ac) (p p2 : Option Addr) (len cap cap2 : Nat) (w : World) (h : Came w p len cap x.ds) (h2 : Came w p2 len cap2 x.ds) : Calls Try.prog 7 #[x.v p len cap, x.v p2 len cap2] w fun e w' => e = .returned (.bool true) ∧ Below w.heap.size w w' := by
  unfold Ac.v Ac.cs
  have H0d : Hid (Blk ((w.alloc (.cells #[.int .i64 x.me, .int .i64 x.rv, .int .i64 x.nx, .int .i64 x.mo, .int .i64 x.bo, .int .i64 x.fr, .slice p len cap] 27)).alloc (.cells #[.int .i64 x.me, .int .i64 x.rv, .int .i64 x.nx, .int .i64 x.mo, .int .i64 x.bo, .int .i64 x.fr, .slice p2 len cap2] 27)) (w.heap.size) #[.int .i64 x.me, .int .i64 x.rv, .int .i64 x.nx, .int .i64 x.mo, .int .i64 x.bo, .int .i64 x.fr, .slice p len cap] 27) := (Blk.new w _ _).alloc _
  have H0e : Hid (Blk ((w.alloc (.cells #[.int .i64 x.me, .int .i64 x.rv, .int .i64 x.nx, .int .i64 x.mo, .int .i64 x.bo, .int .i64 x.fr, .slice p len cap] 27)).alloc (.cells #[.int .i64 x.me, .int .i64 x.rv, .int .i64 x.nx, .int .i64 x.mo, .int .i64 x.bo, .int .i64 x.fr, .slice p2 len cap2] 27)) (w.heap.size + 1) #[.int .i64 x.me, .int .i64 x.rv, .int .i64 x.nx, .int .i64 x.mo, .int .i64 x.bo, .int .i64 x.fr, .slice p2 len cap2] 27) := Blk.new1 w _ _ _
  have H0B : Hid (Below w.heap.size w ((w.alloc (.cells #[.int .i64 x.me, .int .i64 x.rv, .int .i64 x.nx, .int .i64 x.mo, .int .i64 x.bo, .int .i64 x.fr, .slice p len cap] 27)).alloc (.cells #[.int .i64 x.me, .int .i64 x.rv, .int .i64 x.nx, .int .i64 x.mo, .int .i64 x.bo, .int .i64 x.fr, .slice p2 len cap2] 27))) := ((Below.refl w.heap.size w).alloc (by simp) _).alloc (by simp) _
  have H0C : Hid (Came ((w.alloc (.cells #[.int .i64 x.me, .int .i64 x.rv, .int .i64 x.nx, .int .i64 x.mo, .int .i64 x.bo, .int .i64 x.fr, .slice p len cap] 27)).alloc (.cells #[.int .i64 x.me, .int .i64 x.rv, .int .i64 x.nx, .int .i64 x.mo, .int .i64 x.bo, .int .i64 x.fr, .slice p2 len cap2] 27)) p len cap x.ds) := h.below H0B.out
  have H0D : Hid (Came ((w.alloc (.cells #[.int .i64 x.me, .int .i64 x.rv, .int .i64 x.nx, .int .i64 x.mo, .int .i64 x.bo, .int .i64 x.fr, .slice p len cap] 27)).alloc (.cells #[.int .i64 x.me, .int .i64 x.rv, .int .i64 x.nx, .int .i64 x.mo, .int .i64 x.bo, .int .i64 x.fr, .slice p2 len cap2] 27)) p2 len cap2 x.ds) := h2.below H0B.out
  have hs0 : w.heap.size + 1 < ((w.alloc (.cells #[.int .i64 x.me, .int .i64 x.rv, .int .i64 x.nx, .int .i64 x.mo, .int .i64 x.bo, .int .i64 x.fr, .slice p len cap] 27)).alloc (.cells #[.int .i64 x.me, .int .i64 x.rv, .int .i64 x.nx, .int .i64 x.mo, .int .i64 x.bo, .int .i64 x.fr, .slice p2 len cap2] 27)).heap.size := H0e.out.lt
  generalize hWW : ((w.alloc (.cells #[.int .i64 x.me, .int .i64 x.rv, .int .i64 x.nx, .int .i64 x.mo, .int .i64 x.bo, .int .i64 x.fr, .slice p len cap] 27)).alloc (.cells #[.int .i64 x.me, .int .i64 x.rv, .int .i64 x.nx, .int .i64 x.mo, .int .i64 x.bo, .int .i64 x.fr, .slice p2 len cap2] 27)) = W0 at *
  have HWW : Hid (((w.alloc (.cells #[.int .i64 x.me, .int .i64 x.rv, .int .i64 x.nx, .int .i64 x.mo, .int .i64 x.bo, .int .i64 x.fr, .slice p len cap] 27)).alloc (.cells #[.int .i64 x.me, .int .i64 x.rv, .int .i64 x.nx, .int .i64 x.mo, .int .i64 x.bo, .int .i64 x.fr, .slice p2 len cap2] 27)) = W0) := hWW
  clear hWW
  go_enter Try.func7, Try.ntmps7
  go_upto_region 1 with fail
  rw [HWW.out]
  clear HWW
  have HSD : Hid (Calls Try.prog 12 #[.slice p len cap, .slice p2 len cap2] W0 fun e w' => e = .returned (.bool true) ∧ Below W0.heap.size W0 w') := deb.keep_debts p p2 len cap cap2 x.ds W0 H0C.out.row H0D.out.row H0C.out.most
  clear h h2 H0C H0D
  have n0 : (x.me != x.me) = false := by simp
  have n1 : (x.rv != x.rv) = false := by simp
  have n2 : (x.nx != x.nx) = false := by simp
  have n3 : (x.mo != x.mo) = false := by simp
  have n4 : (x.bo != x.bo) = false := by simp
  have n5 : (x.fr != x.fr) = false := by simp
  have qd0 : W0.cell? ⟨w.heap.size, 0, none⟩ = some (.int .i64 x.me) := H0d.out.cell 0
  have qd1 : W0.cell? ⟨w.heap.size, 1, none⟩ = some (.int .i64 x.rv) := H0d.out.cell 1
  have qd2 : W0.cell? ⟨w.heap.size, 2, none⟩ = some (.int .i64 x.nx) := H0d.out.cell 2
  have qd3 : W0.cell? ⟨w.heap.size, 3, none⟩ = some (.int .i64 x.mo) := H0d.out.cell 3
  have qd4 : W0.cell? ⟨w.heap.size, 4, none⟩ = some (.int .i64 x.bo) := H0d.out.cell 4
  have qd5 : W0.cell? ⟨w.heap.size, 5, none⟩ = some (.int .i64 x.fr) := H0d.out.cell 5
  have qd6 : W0.cell? ⟨w.heap.size, 6, none⟩ = some (.slice p len cap) := H0d.out.cell 6
  have qe0 : W0.cell? ⟨w.heap.size + 1, 0, none⟩ = some (.int .i64 x.me) := H0e.out.cell 0
  have qe1 : W0.cell? ⟨w.heap.size + 1, 1, none⟩ = some (.int .i64 x.rv) := H0e.out.cell 1
  have qe2 : W0.cell? ⟨w.heap.size + 1, 2, none⟩ = some (.int .i64 x.nx) := H0e.out.cell 2
  have qe3 : W0.cell? ⟨w.heap.size + 1, 3, none⟩ = some (.int .i64 x.mo) := H0e.out.cell 3
  have qe4 : W0.cell? ⟨w.heap.size + 1, 4, none⟩ = some (.int .i64 x.bo) := H0e.out.cell 4
  have qe5 : W0.cell? ⟨w.heap.size + 1, 5, none⟩ = some (.int .i64 x.fr) := H0e.out.cell 5
  have qe6 : W0.cell? ⟨w.heap.size + 1, 6, none⟩ = some (.slice p2 len cap2) := H0e.out.cell 6
  clear H0d H0e
  go_wp2_with fail
  refine HSD.out.mono ?_
  rintro e w2 ⟨rfl, hb2⟩
  have H2B : Hid (Below w.heap.size w w2) := H0B.out.trans (hb2.mono H0B.out.size)
  clear hb2 HSD
  go_wp2_with fail
  go_ret
  exact ⟨rfl, H2B.out⟩

end Go.Proofs.Ytlolippocnngcac.acc
