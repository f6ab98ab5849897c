/- The statement BookEncodes. -/
import Derived.Test.YtfhlokjpdkmdjaaKbE
import Derived.Test.YtfhlokjpdkmdjaaBkC
import Derived.Test.YtfhlokjpdkmdjaaWSame
namespace Go.Proofs.Ytfhlokjpdkmdjaa.book
open Go.RowKit Go.Proofs.Ytfhlokjpdkmdjaa.cell
set_option maxRecDepth 100000
set_option linter.unusedVariables false
set_option linter.unusedSimpArgs false

theorem eget {w w' : World} {v : Ev} {e : Ending} (h : EncPost w v e w') : EncGot w v e w' := by
  obtain ⟨V, ws, f, rfl, hi, hs, hb⟩ := h
  obtain ⟨a, cap, rfl, hr, hn, hc⟩ := hs.row
  exact ⟨a, _, cap, ws, f, rfl, hi, hr, hn, hc, enc_len hi, hb⟩
set_option maxHeartbeats 2000000 in
theorem BookEncodes_walk (K : KEnc) (v : Ev) (w : World) (hw : wf13 v) : Calls Try.prog 3 #[v.v] w fun e w' => e = .returned (.bool true) ∧ Below w.heap.size w w' := by
  have HK : Hid (∀ W, Calls Try.prog 9 #[.agg #[.int .i64 v.kd, .int .i64 v.me, .int .i64 v.mo, .int .i64 v.id, .int .i64 v.te, .int .i64 v.de, .int .i64 v.fe, .int .i64 v.pr, .int .i64 v.ch, .int .i64 v.un, .int .i64 v.tg, .int .i64 v.ow, .int .i64 v.bp]] W fun e w' => EncGot W v e w') := fun W => K W v hw
  have HR : Hid (∀ W, Calls Try.prog 10 #[.agg #[.int .i64 v.kd, .int .i64 v.me, .int .i64 v.mo, .int .i64 v.id, .int .i64 v.te, .int .i64 v.de, .int .i64 v.fe, .int .i64 v.pr, .int .i64 v.ch, .int .i64 v.un, .int .i64 v.tg, .int .i64 v.ow, .int .i64 v.bp]] W fun e w' => EncGot W v e w') := fun W => (rencoded v W).mono fun e w' h => eget h
  have HX0 : Hid (Blk (w.alloc (.cells #[.int .i64 v.kd, .int .i64 v.me, .int .i64 v.mo, .int .i64 v.id, .int .i64 v.te, .int .i64 v.de, .int .i64 v.fe, .int .i64 v.pr, .int .i64 v.ch, .int .i64 v.un, .int .i64 v.tg, .int .i64 v.ow, .int .i64 v.bp] 27)) w.heap.size #[.int .i64 v.kd, .int .i64 v.me, .int .i64 v.mo, .int .i64 v.id, .int .i64 v.te, .int .i64 v.de, .int .i64 v.fe, .int .i64 v.pr, .int .i64 v.ch, .int .i64 v.un, .int .i64 v.tg, .int .i64 v.ow, .int .i64 v.bp] 27) := Blk.new w _ _
  have HB0 : Hid (Below w.heap.size w (w.alloc (.cells #[.int .i64 v.kd, .int .i64 v.me, .int .i64 v.mo, .int .i64 v.id, .int .i64 v.te, .int .i64 v.de, .int .i64 v.fe, .int .i64 v.pr, .int .i64 v.ch, .int .i64 v.un, .int .i64 v.tg, .int .i64 v.ow, .int .i64 v.bp] 27))) := (Below.refl _ _).alloc (Nat.le_refl _) _
  have k0 : (w.alloc (.cells #[.int .i64 v.kd, .int .i64 v.me, .int .i64 v.mo, .int .i64 v.id, .int .i64 v.te, .int .i64 v.de, .int .i64 v.fe, .int .i64 v.pr, .int .i64 v.ch, .int .i64 v.un, .int .i64 v.tg, .int .i64 v.ow, .int .i64 v.bp] 27)).cell? ⟨w.heap.size, 0, none⟩ = some (.int .i64 v.kd) := (Blk.new w _ _).cell 0
  have k1 : (w.alloc (.cells #[.int .i64 v.kd, .int .i64 v.me, .int .i64 v.mo, .int .i64 v.id, .int .i64 v.te, .int .i64 v.de, .int .i64 v.fe, .int .i64 v.pr, .int .i64 v.ch, .int .i64 v.un, .int .i64 v.tg, .int .i64 v.ow, .int .i64 v.bp] 27)).cell? ⟨w.heap.size, 1, none⟩ = some (.int .i64 v.me) := (Blk.new w _ _).cell 1
  have k2 : (w.alloc (.cells #[.int .i64 v.kd, .int .i64 v.me, .int .i64 v.mo, .int .i64 v.id, .int .i64 v.te, .int .i64 v.de, .int .i64 v.fe, .int .i64 v.pr, .int .i64 v.ch, .int .i64 v.un, .int .i64 v.tg, .int .i64 v.ow, .int .i64 v.bp] 27)).cell? ⟨w.heap.size, 2, none⟩ = some (.int .i64 v.mo) := (Blk.new w _ _).cell 2
  have k3 : (w.alloc (.cells #[.int .i64 v.kd, .int .i64 v.me, .int .i64 v.mo, .int .i64 v.id, .int .i64 v.te, .int .i64 v.de, .int .i64 v.fe, .int .i64 v.pr, .int .i64 v.ch, .int .i64 v.un, .int .i64 v.tg, .int .i64 v.ow, .int .i64 v.bp] 27)).cell? ⟨w.heap.size, 3, none⟩ = some (.int .i64 v.id) := (Blk.new w _ _).cell 3
  have k4 : (w.alloc (.cells #[.int .i64 v.kd, .int .i64 v.me, .int .i64 v.mo, .int .i64 v.id, .int .i64 v.te, .int .i64 v.de, .int .i64 v.fe, .int .i64 v.pr, .int .i64 v.ch, .int .i64 v.un, .int .i64 v.tg, .int .i64 v.ow, .int .i64 v.bp] 27)).cell? ⟨w.heap.size, 4, none⟩ = some (.int .i64 v.te) := (Blk.new w _ _).cell 4
  have k5 : (w.alloc (.cells #[.int .i64 v.kd, .int .i64 v.me, .int .i64 v.mo, .int .i64 v.id, .int .i64 v.te, .int .i64 v.de, .int .i64 v.fe, .int .i64 v.pr, .int .i64 v.ch, .int .i64 v.un, .int .i64 v.tg, .int .i64 v.ow, .int .i64 v.bp] 27)).cell? ⟨w.heap.size, 5, none⟩ = some (.int .i64 v.de) := (Blk.new w _ _).cell 5
  have k6 : (w.alloc (.cells #[.int .i64 v.kd, .int .i64 v.me, .int .i64 v.mo, .int .i64 v.id, .int .i64 v.te, .int .i64 v.de, .int .i64 v.fe, .int .i64 v.pr, .int .i64 v.ch, .int .i64 v.un, .int .i64 v.tg, .int .i64 v.ow, .int .i64 v.bp] 27)).cell? ⟨w.heap.size, 6, none⟩ = some (.int .i64 v.fe) := (Blk.new w _ _).cell 6
  have k7 : (w.alloc (.cells #[.int .i64 v.kd, .int .i64 v.me, .int .i64 v.mo, .int .i64 v.id, .int .i64 v.te, .int .i64 v.de, .int .i64 v.fe, .int .i64 v.pr, .int .i64 v.ch, .int .i64 v.un, .int .i64 v.tg, .int .i64 v.ow, .int .i64 v.bp] 27)).cell? ⟨w.heap.size, 7, none⟩ = some (.int .i64 v.pr) := (Blk.new w _ _).cell 7
  have k8 : (w.alloc (.cells #[.int .i64 v.kd, .int .i64 v.me, .int .i64 v.mo, .int .i64 v.id, .int .i64 v.te, .int .i64 v.de, .int .i64 v.fe, .int .i64 v.pr, .int .i64 v.ch, .int .i64 v.un, .int .i64 v.tg, .int .i64 v.ow, .int .i64 v.bp] 27)).cell? ⟨w.heap.size, 8, none⟩ = some (.int .i64 v.ch) := (Blk.new w _ _).cell 8
  have k9 : (w.alloc (.cells #[.int .i64 v.kd, .int .i64 v.me, .int .i64 v.mo, .int .i64 v.id, .int .i64 v.te, .int .i64 v.de, .int .i64 v.fe, .int .i64 v.pr, .int .i64 v.ch, .int .i64 v.un, .int .i64 v.tg, .int .i64 v.ow, .int .i64 v.bp] 27)).cell? ⟨w.heap.size, 9, none⟩ = some (.int .i64 v.un) := (Blk.new w _ _).cell 9
  have k10 : (w.alloc (.cells #[.int .i64 v.kd, .int .i64 v.me, .int .i64 v.mo, .int .i64 v.id, .int .i64 v.te, .int .i64 v.de, .int .i64 v.fe, .int .i64 v.pr, .int .i64 v.ch, .int .i64 v.un, .int .i64 v.tg, .int .i64 v.ow, .int .i64 v.bp] 27)).cell? ⟨w.heap.size, 10, none⟩ = some (.int .i64 v.tg) := (Blk.new w _ _).cell 10
  have k11 : (w.alloc (.cells #[.int .i64 v.kd, .int .i64 v.me, .int .i64 v.mo, .int .i64 v.id, .int .i64 v.te, .int .i64 v.de, .int .i64 v.fe, .int .i64 v.pr, .int .i64 v.ch, .int .i64 v.un, .int .i64 v.tg, .int .i64 v.ow, .int .i64 v.bp] 27)).cell? ⟨w.heap.size, 11, none⟩ = some (.int .i64 v.ow) := (Blk.new w _ _).cell 11
  have k12 : (w.alloc (.cells #[.int .i64 v.kd, .int .i64 v.me, .int .i64 v.mo, .int .i64 v.id, .int .i64 v.te, .int .i64 v.de, .int .i64 v.fe, .int .i64 v.pr, .int .i64 v.ch, .int .i64 v.un, .int .i64 v.tg, .int .i64 v.ow, .int .i64 v.bp] 27)).cell? ⟨w.heap.size, 12, none⟩ = some (.int .i64 v.bp) := (Blk.new w _ _).cell 12
  clear hw
  unfold Ev.v
  go_enter Try.func3, Try.ntmps3
  go_wp2_with fail
  refine (HK.out _).mono ?_
  rintro e w1 ⟨ra, rn, rc, ws, f, rfl, hi, hr, _, _, hn, hb1⟩
  have HV1 : Hid (Blk w1 w.heap.size #[.int .i64 v.kd, .int .i64 v.me, .int .i64 v.mo, .int .i64 v.id, .int .i64 v.te, .int .i64 v.de, .int .i64 v.fe, .int .i64 v.pr, .int .i64 v.ch, .int .i64 v.un, .int .i64 v.tg, .int .i64 v.ow, .int .i64 v.bp] 27) := HX0.out.next hb1
  have HB1 : Hid (Below w.heap.size w w1) := HB0.out.trans (hb1.mono HB0.out.size)
  clear hb1 HX0 HB0 HK k0 k1 k2 k3 k4 k5 k6 k7 k8 k9 k10 k11 k12
  have k0 : w1.cell? ⟨w.heap.size, 0, none⟩ = some (.int .i64 v.kd) := HV1.out.cell 0
  have k1 : w1.cell? ⟨w.heap.size, 1, none⟩ = some (.int .i64 v.me) := HV1.out.cell 1
  have k2 : w1.cell? ⟨w.heap.size, 2, none⟩ = some (.int .i64 v.mo) := HV1.out.cell 2
  have k3 : w1.cell? ⟨w.heap.size, 3, none⟩ = some (.int .i64 v.id) := HV1.out.cell 3
  have k4 : w1.cell? ⟨w.heap.size, 4, none⟩ = some (.int .i64 v.te) := HV1.out.cell 4
  have k5 : w1.cell? ⟨w.heap.size, 5, none⟩ = some (.int .i64 v.de) := HV1.out.cell 5
  have k6 : w1.cell? ⟨w.heap.size, 6, none⟩ = some (.int .i64 v.fe) := HV1.out.cell 6
  have k7 : w1.cell? ⟨w.heap.size, 7, none⟩ = some (.int .i64 v.pr) := HV1.out.cell 7
  have k8 : w1.cell? ⟨w.heap.size, 8, none⟩ = some (.int .i64 v.ch) := HV1.out.cell 8
  have k9 : w1.cell? ⟨w.heap.size, 9, none⟩ = some (.int .i64 v.un) := HV1.out.cell 9
  have k10 : w1.cell? ⟨w.heap.size, 10, none⟩ = some (.int .i64 v.tg) := HV1.out.cell 10
  have k11 : w1.cell? ⟨w.heap.size, 11, none⟩ = some (.int .i64 v.ow) := HV1.out.cell 11
  have k12 : w1.cell? ⟨w.heap.size, 12, none⟩ = some (.int .i64 v.bp) := HV1.out.cell 12
  go_wp2_with fail
  refine (HR.out _).mono ?_
  rintro e w2 ⟨sa, sn, sc, ws2, f2, rfl, hi2, hr2, _, _, hn2, hb2⟩
  obtain ⟨rfl, rfl⟩ := hi.one hi2
  obtain rfl : rn = sn := hr.1.symm.trans hr2.1
  have HB2 : Hid (Below w.heap.size w w2) := HB1.out.trans (hb2.mono HB1.out.size)
  have HS : Hid (Calls Try.prog 11 #[.slice ra rn rc, .slice sa rn sc] w2 fun e w' => e = .returned (.bool true) ∧ Below w2.heap.size w2 w') := words_law ra sa rn rc sc ws w2 (hr.below hb2) hr2 (by unfold maxLen; omega)
  have ef : (f == f) = true := by simp
  clear hb2 hi hi2 hr hr2 HV1 HB1 HR k0 k1 k2 k3 k4 k5 k6 k7 k8 k9 k10 k11 k12
  go_wp2_with fail
  refine HS.out.mono ?_
  rintro e w3 ⟨rfl, hb3⟩
  have HB3 : Hid (Below w.heap.size w w3) := HB2.out.trans (hb3.mono HB2.out.size)
  clear hb3
  go_wp2_with fail
  go_ret
  exact ⟨rfl, HB3.out⟩

end Go.Proofs.Ytfhlokjpdkmdjaa.book
