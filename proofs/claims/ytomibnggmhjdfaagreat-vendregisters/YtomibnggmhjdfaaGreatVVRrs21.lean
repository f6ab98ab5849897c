import Derived.Test.YtomibnggmhjdfaaGreatVVRrs16
import Derived.Test.YtomibnggmhjdfaaGreatVVRrs18
import Derived.Test.YtomibnggmhjdfaaGreatVVRrs20
set_option linter.unusedVariables false
set_option linter.unusedSimpArgs false
namespace Go.Proofs.YtomibnggmhjdfaaGreat
namespace book
open Go.RowKit
open acc (Ac Tm Bi APost BPost OweIs SellIs GrantIs RekeyIs)
set_option maxRecDepth 100000
theorem rhap (a : Ac) (sol : List So) (dp : Option Addr) (dn dc : Nat) (sp : Option Addr) (sn sc : Nat) (t : Tm) (pt : Option Addr) (lt ct : Nat) (v : Ev) (base : Nat) (w : World) (hx : Has w base (cuA a dp dn dc sp sn sc) ⟨a, sol⟩) (ht : tar.RowD w pt lt t.ts) (htl : lt ≤ maxLen) (hbase : base ≤ w.heap.size) (hkd : v.kd = 2 ∨ v.kd = 3 ∨ v.kd = 4 ∨ v.kd = 5) (hsol : sol.length ≤ 2000000) (hrv : 0 ≤ a.rv ∧ a.rv ≤ 15) :
  Calls Tryz.prog 37 #[.agg #[.slice pt lt ct, .int .i64 t.ff, .int .i64 t.fb, .int .i64 t.db, .int .i64 t.al], .agg #[.int .i64 a.me, .int .i64 a.rv, .int .i64 a.nx, .int .i64 a.mo, .int .i64 a.bo, .int .i64 a.fr, .slice dp dn dc, .slice sp sn sc], .agg #[.int .i64 v.kd, .int .i64 v.me, .int .i64 v.mo, .int .i64 v.id, .int .i64 v.te, .int .i64 v.de, .int .i64 v.fe, .int .i64 v.pr, .int .i64 v.ch, .int .i64 v.un, .int .i64 v.tg, .int .i64 v.ow, .int .i64 v.bp]] w fun e w' => HapPost w base t (cuA a dp dn dc sp sn sc) ⟨a, sol⟩ v e w' := by
 rcases hkd with h | h | h | h
 ·exact rhap2 a sol dp dn dc sp sn sc t pt lt ct v base w hx ht htl hbase h hsol
 ·exact rhap3 a sol dp dn dc sp sn sc t pt lt ct v base w hx ht htl hbase h hsol
 ·exact rhap4 a sol dp dn dc sp sn sc t pt lt ct v base w hx ht htl hbase h hsol hrv
 ·exact rhap5 a sol dp dn dc sp sn sc t pt lt ct v base w hx ht htl hbase h
end book
namespace acc
open tar (Du du0 Came RowD Ld PairT)
open Go.RowKit
set_option maxRecDepth 100000
set_option maxHeartbeats 2000000 in
theorem ropen (m : Int) (w : World) : Calls Tryz.prog 36 #[.int .i64 m] w fun e w' => APost w (OpenIs m) e w' := by
 have HIM : Hid (∀ W, Calls Tryz.prog 25 #[.int .i64 m, .int .i64 0, .int .i64 49] W fun e w' => e = .returned (.bool (decide (0 ≤ m ∧ m ≤ 49))) ∧ w' = W) := fun W => cal.cin m 0 49 W
 have H0r : Hid (Blk (w.alloc (.cells #[.int .i64 0, .int .i64 0, .int .i64 0, .int .i64 0, .int .i64 0, .int .i64 0, .slice none 0 0] 59)) w.heap.size #[.int .i64 0, .int .i64 0, .int .i64 0, .int .i64 0, .int .i64 0, .int .i64 0, .slice none 0 0] 59) := Blk.new w _ _
 have H0B : Hid (Below w.heap.size w (w.alloc (.cells #[.int .i64 0, .int .i64 0, .int .i64 0, .int .i64 0, .int .i64 0, .int .i64 0, .slice none 0 0] 59))) := (Below.refl w.heap.size w).alloc (by simp) _
 by_cases hm : 0 ≤ m ∧ m ≤ 49
 ·rw [decide_eq_true hm] at HIM
  have HM : Hid ((0 ≤ m ∧ m ≤ 49)) := hm
  clear hm
  go_enter Tryz.func36, Tryz.ntmps36
  go_wp2_with fail
  refine (HIM.out _).mono ?_
  rintro e w1 ⟨rfl, hw1⟩
  subst hw1
  go_wp2_with (first | (refine zql rfl rfl rfl rfl zqu59 (by simp [Value.oneCell']) H0r rfl ?_) | fail)
  intro WF hU
  have H9r : Hid (Blk WF w.heap.size #[.int .i64 m, .int .i64 0, .int .i64 1, .int .i64 0, .int .i64 0, .int .i64 (-1), .slice none 0 0] 59) := hU.blk
  have H9B := shV hU H0B (by omega)
  clear hU H0r H0B
  have Rr0 : Hid (WF.cell? ⟨w.heap.size, 0, none⟩ = some (.int .i64 m)) := H9r.out.cell 0
  have Rr1 : Hid (WF.cell? ⟨w.heap.size, 1, none⟩ = some (.int .i64 0)) := H9r.out.cell 1
  have Rr2 : Hid (WF.cell? ⟨w.heap.size, 2, none⟩ = some (.int .i64 1)) := H9r.out.cell 2
  have Rr3 : Hid (WF.cell? ⟨w.heap.size, 3, none⟩ = some (.int .i64 0)) := H9r.out.cell 3
  have Rr4 : Hid (WF.cell? ⟨w.heap.size, 4, none⟩ = some (.int .i64 0)) := H9r.out.cell 4
  have Rr5 : Hid (WF.cell? ⟨w.heap.size, 5, none⟩ = some (.int .i64 (-1))) := H9r.out.cell 5
  have Rr6 : Hid (WF.cell? ⟨w.heap.size, 6, none⟩ = some (.slice none 0 0)) := H9r.out.cell 6
  go_wp2_with fail
  exact bodyPost_ret (v := .tuple #[.agg #[.int .i64 m, .int .i64 0, .int .i64 1, .int .i64 0, .int .i64 0, .int .i64 (-1), .slice none 0 0], .int .i64 0]) (by simp [results, Tryz.results36, Rr0.out, Rr1.out, Rr2.out, Rr3.out, Rr4.out, Rr5.out, Rr6.out, go_sem]) rfl ⟨⟨m, 0, 1, 0, 0, -1, []⟩, none, 0, 0, _, rfl, .inl ⟨HM.out, rfl, rfl⟩, deb.fresh_nil _ _, H9B.out⟩
 ·rw [decide_eq_false hm] at HIM
  have HM : Hid (¬ (0 ≤ m ∧ m ≤ 49)) := hm
  clear hm
  go_enter Tryz.func36, Tryz.ntmps36
  go_wp2_with fail
  refine (HIM.out _).mono ?_
  rintro e w1 ⟨rfl, hw1⟩
  subst hw1
  go_wp2_with (first | (refine zql rfl rfl rfl rfl zqu59 (by simp [Value.oneCell']) H0r rfl ?_) | fail)
  intro WF hU
  have H9r : Hid (Blk WF w.heap.size #[.int .i64 0, .int .i64 0, .int .i64 0, .int .i64 0, .int .i64 0, .int .i64 0, .slice none 0 0] 59) := hU.blk
  have H9B := shV hU H0B (by omega)
  clear hU H0r H0B
  obtain ⟨Rr0, Rr1, Rr2, Rr3, Rr4, Rr5, Rr6⟩ := shc7 H9r
  go_wp2_with fail
  exact bodyPost_ret (v := .tuple #[.agg #[.int .i64 0, .int .i64 0, .int .i64 0, .int .i64 0, .int .i64 0, .int .i64 0, .slice none 0 0], .int .i64 2]) (by simp [results, Tryz.results36, Rr0.out, Rr1.out, Rr2.out, Rr3.out, Rr4.out, Rr5.out, Rr6.out, go_sem]) rfl ⟨ac0, none, 0, 0, _, rfl, .inr ⟨HM.out, rfl, rfl⟩, deb.fresh_nil _ _, H9B.out⟩
end acc
end Go.Proofs.YtomibnggmhjdfaaGreat
