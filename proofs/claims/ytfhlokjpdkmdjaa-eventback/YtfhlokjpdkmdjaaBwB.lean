/- The statement EventBack. -/
import Derived.Test.YtfhlokjpdkmdjaaKbE
import Derived.Test.YtfhlokjpdkmdjaaKbD
import Derived.Test.YtfhlokjpdkmdjaaBkS
import Derived.Deep.DeepCutAuto
namespace Go.Proofs.Ytfhlokjpdkmdjaa.book
open Go.RowKit Go.Proofs.Ytfhlokjpdkmdjaa.cell
set_option maxRecDepth 100000
set_option linter.unusedVariables false
set_option linter.unusedSimpArgs false

set_option maxHeartbeats 2000000 in
theorem EventBack_walk (KE : KEnc) (KD : KDec) (v : Ev) (w : World) (hw : wf13 v) : Calls Try.prog 7 #[v.v] w fun e w' => e = .returned (.bool true) ∧ Below w.heap.size w w' := by
  have HK : Hid (∀ W, Calls Try.prog 9 #[.agg #[.int .i64 v.kd, .int .i64 v.me, .int .i64 v.mo, .int .i64 v.id, .int .i64 v.te, .int .i64 v.de, .int .i64 v.fe, .int .i64 v.pr, .int .i64 v.ch, .int .i64 v.un, .int .i64 v.tg, .int .i64 v.ow, .int .i64 v.bp]] W fun e w' => EncGot W v e w') := fun W => KE W v hw
  have HX0 : Hid (Blk (w.alloc (.cells #[.int .i64 v.kd, .int .i64 v.me, .int .i64 v.mo, .int .i64 v.id, .int .i64 v.te, .int .i64 v.de, .int .i64 v.fe, .int .i64 v.pr, .int .i64 v.ch, .int .i64 v.un, .int .i64 v.tg, .int .i64 v.ow, .int .i64 v.bp] 27)) w.heap.size #[.int .i64 v.kd, .int .i64 v.me, .int .i64 v.mo, .int .i64 v.id, .int .i64 v.te, .int .i64 v.de, .int .i64 v.fe, .int .i64 v.pr, .int .i64 v.ch, .int .i64 v.un, .int .i64 v.tg, .int .i64 v.ow, .int .i64 v.bp] 27) := Blk.new w _ _
  have HB0 : Hid (Below w.heap.size w (w.alloc (.cells #[.int .i64 v.kd, .int .i64 v.me, .int .i64 v.mo, .int .i64 v.id, .int .i64 v.te, .int .i64 v.de, .int .i64 v.fe, .int .i64 v.pr, .int .i64 v.ch, .int .i64 v.un, .int .i64 v.tg, .int .i64 v.ow, .int .i64 v.bp] 27))) := (Below.refl _ _).alloc (Nat.le_refl _) _
  have k0 : (w.alloc (.cells #[.int .i64 v.kd, .int .i64 v.me, .int .i64 v.mo, .int .i64 v.id, .int .i64 v.te, .int .i64 v.de, .int .i64 v.fe, .int .i64 v.pr, .int .i64 v.ch, .int .i64 v.un, .int .i64 v.tg, .int .i64 v.ow, .int .i64 v.bp] 27)).cell? ⟨w.heap.size, 0, none⟩ = some (.int .i64 v.kd) := (Blk.new w _ _).cell 0
  have k1 : (w.alloc (.cells #[.int .i64 v.kd, .int .i64 v.me, .int .i64 v.mo, .int .i64 v.id, .int .i64 v.te, .int .i64 v.de, .int .i64 v.fe, .int .i64 v.pr, .int .i64 v.ch, .int .i64 v.un, .int .i64 v.tg, .int .i64 v.ow, .int .i64 v.bp] 27)).cell? ⟨w.heap.size, 1, none⟩ = some (.int .i64 v.me) := (Blk.new w _ _).cell 1
  have k2 : (w.alloc (.cells #[.int .i64 v.kd, .int .i64 v.me, .int .i64 v.mo, .int .i64 v.id, .int .i64 v.te, .int .i64 v.de, .int .i64 v.fe, .int .i64 v.pr, .int .i64 v.ch, .int .i64 v.un, .int .i64 v.tg, .int .i64 v.ow, .int .i64 v.bp] 27)).cell? ⟨w.heap.size, 2, none⟩ = some (.int .i64 v.mo) := (Blk.new w _ _).cell 2
  have k3 : (w.alloc (.cells #[.int .i64 v.kd, .int .i64 v.me, .int .i64 v.mo, .int .i64 v.id, .int .i64 v.te, .int .i64 v.de, .int .i64 v.fe, .int .i64 v.pr, .int .i64 v.ch, .int .i64 v.un, .int .i64 v.tg, .int .i64 v.ow, .int .i64 v.bp] 27)).cell? ⟨w.heap.size, 3, none⟩ = some (.int .i64 v.id) := (Blk.new w _ _).cell 3
  have k4 : (w.alloc (.cells #[.int .i64 v.kd, .int .i64 v.me, .int .i64 v.mo, .int .i64 v.id, .int .i64 v.te, .int .i64 v.de, .int .i64 v.fe, .int .i64 v.pr, .int .i64 v.ch, .int .i64 v.un, .int .i64 v.tg, .int .i64 v.ow, .int .i64 v.bp] 27)).cell? ⟨w.heap.size, 4, none⟩ = some (.int .i64 v.te) := (Blk.new w _ _).cell 4
  have k5 : (w.alloc (.cells #[.int .i64 v.kd, .int .i64 v.me, .int .i64 v.mo, .int .i64 v.id, .int .i64 v.te, .int .i64 v.de, .int .i64 v.fe, .int .i64 v.pr, .int .i64 v.ch, .int .i64 v.un, .int .i64 v.tg, .int .i64 v.ow, .int .i64 v.bp] 27)).cell? ⟨w.heap.size, 5, none⟩ = some (.int .i64 v.de) := (Blk.new w _ _).cell 5
  have k6 : (w.alloc (.cells #[.int .i64 v.kd, .int .i64 v.me, .int .i64 v.mo, .int .i64 v.id, .int .i64 v.te, .int .i64 v.de, .int .i64 v.fe, .int .i64 v.pr, .int .i64 v.ch, .int .i64 v.un, .int .i64 v.tg, .int .i64 v.ow, .int .i64 v.bp] 27)).cell? ⟨w.heap.size, 6, none⟩ = some (.int .i64 v.fe) := (Blk.new w _ _).cell 6
  have k7 : (w.alloc (.cells #[.int .i64 v.kd, .int .i64 v.me, .int .i64 v.mo, .int .i64 v.id, .int .i64 v.te, .int .i64 v.de, .int .i64 v.fe, .int .i64 v.pr, .int .i64 v.ch, .int .i64 v.un, .int .i64 v.tg, .int .i64 v.ow, .int .i64 v.bp] 27)).cell? ⟨w.heap.size, 7, none⟩ = some (.int .i64 v.pr) := (Blk.new w _ _).cell 7
  have k8 : (w.alloc (.cells #[.int .i64 v.kd, .int .i64 v.me, .int .i64 v.mo, .int .i64 v.id, .int .i64 v.te, .int .i64 v.de, .int .i64 v.fe, .int .i64 v.pr, .int .i64 v.ch, .int .i64 v.un, .int .i64 v.tg, .int .i64 v.ow, .int .i64 v.bp] 27)).cell? ⟨w.heap.size, 8, none⟩ = some (.int .i64 v.ch) := (Blk.new w _ _).cell 8
  have k9 : (w.alloc (.cells #[.int .i64 v.kd, .int .i64 v.me, .int .i64 v.mo, .int .i64 v.id, .int .i64 v.te, .int .i64 v.de, .int .i64 v.fe, .int .i64 v.pr, .int .i64 v.ch, .int .i64 v.un, .int .i64 v.tg, .int .i64 v.ow, .int .i64 v.bp] 27)).cell? ⟨w.heap.size, 9, none⟩ = some (.int .i64 v.un) := (Blk.new w _ _).cell 9
  have k10 : (w.alloc (.cells #[.int .i64 v.kd, .int .i64 v.me, .int .i64 v.mo, .int .i64 v.id, .int .i64 v.te, .int .i64 v.de, .int .i64 v.fe, .int .i64 v.pr, .int .i64 v.ch, .int .i64 v.un, .int .i64 v.tg, .int .i64 v.ow, .int .i64 v.bp] 27)).cell? ⟨w.heap.size, 10, none⟩ = some (.int .i64 v.tg) := (Blk.new w _ _).cell 10
  have k11 : (w.alloc (.cells #[.int .i64 v.kd, .int .i64 v.me, .int .i64 v.mo, .int .i64 v.id, .int .i64 v.te, .int .i64 v.de, .int .i64 v.fe, .int .i64 v.pr, .int .i64 v.ch, .int .i64 v.un, .int .i64 v.tg, .int .i64 v.ow, .int .i64 v.bp] 27)).cell? ⟨w.heap.size, 11, none⟩ = some (.int .i64 v.ow) := (Blk.new w _ _).cell 11
  have k12 : (w.alloc (.cells #[.int .i64 v.kd, .int .i64 v.me, .int .i64 v.mo, .int .i64 v.id, .int .i64 v.te, .int .i64 v.de, .int .i64 v.fe, .int .i64 v.pr, .int .i64 v.ch, .int .i64 v.un, .int .i64 v.tg, .int .i64 v.ow, .int .i64 v.bp] 27)).cell? ⟨w.heap.size, 12, none⟩ = some (.int .i64 v.bp) := (Blk.new w _ _).cell 12
  clear hw
  unfold Ev.v
  go_enter Try.func7, Try.ntmps7
  go_wp2_with fail
  refine (HK.out _).mono ?_
  rintro e w1 ⟨ra, rn, rc, ws, f, rfl, hi, hr, hnil, hroom, hn, hb1⟩
  have HV1 : Hid (Blk w1 w.heap.size #[.int .i64 v.kd, .int .i64 v.me, .int .i64 v.mo, .int .i64 v.id, .int .i64 v.te, .int .i64 v.de, .int .i64 v.fe, .int .i64 v.pr, .int .i64 v.ch, .int .i64 v.un, .int .i64 v.tg, .int .i64 v.ow, .int .i64 v.bp] 27) := HX0.out.next hb1
  have HB1 : Hid (Below w.heap.size w w1) := HB0.out.trans (hb1.mono HB0.out.size)
  clear hb1 HX0 HB0 HK k0 k1 k2 k3 k4 k5 k6 k7 k8 k9 k10 k11 k12
  rcases hi with ⟨hm, rfl, rfl⟩ | ⟨hm, rfl, rfl⟩
  · obtain rfl : rn = 13 := hr.1.symm
    have HD1 : Hid (Calls Try.prog 13 #[.slice ra 13 rc] w1 fun e w' => DecGot w1 (evL v) e w') := KD w1 ra 13 rc (evL v) hr hnil hroom (by decide) (may_word hm)
    have HM : Hid (EMay v) := hm
    clear hr hnil hroom hn hm KE KD
    go_wp2_with fail
    refine HD1.out.mono ?_
    rintro e w2 ⟨v2, f2, rfl, hi2, hb2⟩
    obtain ⟨rfl, rfl⟩ : v2 = v ∧ f2 = 0 := hi2.one (.inr (.inr ⟨rfl, HM.out, rfl, rfl⟩))
    have HB2 : Hid (Below w.heap.size w w2) := HB1.out.trans (hb2.mono HB1.out.size)
    have HV2 : Hid (Blk (w2.alloc (.cells #[.int .i64 v2.kd, .int .i64 v2.me, .int .i64 v2.mo, .int .i64 v2.id, .int .i64 v2.te, .int .i64 v2.de, .int .i64 v2.fe, .int .i64 v2.pr, .int .i64 v2.ch, .int .i64 v2.un, .int .i64 v2.tg, .int .i64 v2.ow, .int .i64 v2.bp] 27)) w.heap.size #[.int .i64 v2.kd, .int .i64 v2.me, .int .i64 v2.mo, .int .i64 v2.id, .int .i64 v2.te, .int .i64 v2.de, .int .i64 v2.fe, .int .i64 v2.pr, .int .i64 v2.ch, .int .i64 v2.un, .int .i64 v2.tg, .int .i64 v2.ow, .int .i64 v2.bp] 27) := (HV1.out.next hb2).alloc _
    have HU2 : Hid (Blk (w2.alloc (.cells #[.int .i64 v2.kd, .int .i64 v2.me, .int .i64 v2.mo, .int .i64 v2.id, .int .i64 v2.te, .int .i64 v2.de, .int .i64 v2.fe, .int .i64 v2.pr, .int .i64 v2.ch, .int .i64 v2.un, .int .i64 v2.tg, .int .i64 v2.ow, .int .i64 v2.bp] 27)) w2.heap.size #[.int .i64 v2.kd, .int .i64 v2.me, .int .i64 v2.mo, .int .i64 v2.id, .int .i64 v2.te, .int .i64 v2.de, .int .i64 v2.fe, .int .i64 v2.pr, .int .i64 v2.ch, .int .i64 v2.un, .int .i64 v2.tg, .int .i64 v2.ow, .int .i64 v2.bp] 27) := Blk.new w2 _ _
    have HB3 : Hid (Below w.heap.size w (w2.alloc (.cells #[.int .i64 v2.kd, .int .i64 v2.me, .int .i64 v2.mo, .int .i64 v2.id, .int .i64 v2.te, .int .i64 v2.de, .int .i64 v2.fe, .int .i64 v2.pr, .int .i64 v2.ch, .int .i64 v2.un, .int .i64 v2.tg, .int .i64 v2.ow, .int .i64 v2.bp] 27))) := HB2.out.alloc HB2.out.size _
    clear hb2 hi2 HV1 HB1 HB2 HD1
    unfold Ev.v
    go_upto_region 5 with fail
    generalize (w2.alloc (.cells #[.int .i64 v2.kd, .int .i64 v2.me, .int .i64 v2.mo, .int .i64 v2.id, .int .i64 v2.te, .int .i64 v2.de, .int .i64 v2.fe, .int .i64 v2.pr, .int .i64 v2.ch, .int .i64 v2.un, .int .i64 v2.tg, .int .i64 v2.ow, .int .i64 v2.bp] 27)) = W3 at *
    generalize w2.heap.size = g2 at *
    have qe := eqSame v2.kd v2.me v2.mo v2.id v2.te v2.de v2.fe v2.pr v2.ch v2.un v2.tg v2.ow v2.bp
    have k0 : W3.cell? ⟨w.heap.size, 0, none⟩ = some (.int .i64 v2.kd) := HV2.out.cell 0
    have k1 : W3.cell? ⟨w.heap.size, 1, none⟩ = some (.int .i64 v2.me) := HV2.out.cell 1
    have k2 : W3.cell? ⟨w.heap.size, 2, none⟩ = some (.int .i64 v2.mo) := HV2.out.cell 2
    have k3 : W3.cell? ⟨w.heap.size, 3, none⟩ = some (.int .i64 v2.id) := HV2.out.cell 3
    have k4 : W3.cell? ⟨w.heap.size, 4, none⟩ = some (.int .i64 v2.te) := HV2.out.cell 4
    have k5 : W3.cell? ⟨w.heap.size, 5, none⟩ = some (.int .i64 v2.de) := HV2.out.cell 5
    have k6 : W3.cell? ⟨w.heap.size, 6, none⟩ = some (.int .i64 v2.fe) := HV2.out.cell 6
    have k7 : W3.cell? ⟨w.heap.size, 7, none⟩ = some (.int .i64 v2.pr) := HV2.out.cell 7
    have k8 : W3.cell? ⟨w.heap.size, 8, none⟩ = some (.int .i64 v2.ch) := HV2.out.cell 8
    have k9 : W3.cell? ⟨w.heap.size, 9, none⟩ = some (.int .i64 v2.un) := HV2.out.cell 9
    have k10 : W3.cell? ⟨w.heap.size, 10, none⟩ = some (.int .i64 v2.tg) := HV2.out.cell 10
    have k11 : W3.cell? ⟨w.heap.size, 11, none⟩ = some (.int .i64 v2.ow) := HV2.out.cell 11
    have k12 : W3.cell? ⟨w.heap.size, 12, none⟩ = some (.int .i64 v2.bp) := HV2.out.cell 12
    have u0 : W3.cell? ⟨g2, 0, none⟩ = some (.int .i64 v2.kd) := HU2.out.cell 0
    have u1 : W3.cell? ⟨g2, 1, none⟩ = some (.int .i64 v2.me) := HU2.out.cell 1
    have u2 : W3.cell? ⟨g2, 2, none⟩ = some (.int .i64 v2.mo) := HU2.out.cell 2
    have u3 : W3.cell? ⟨g2, 3, none⟩ = some (.int .i64 v2.id) := HU2.out.cell 3
    have u4 : W3.cell? ⟨g2, 4, none⟩ = some (.int .i64 v2.te) := HU2.out.cell 4
    have u5 : W3.cell? ⟨g2, 5, none⟩ = some (.int .i64 v2.de) := HU2.out.cell 5
    have u6 : W3.cell? ⟨g2, 6, none⟩ = some (.int .i64 v2.fe) := HU2.out.cell 6
    have u7 : W3.cell? ⟨g2, 7, none⟩ = some (.int .i64 v2.pr) := HU2.out.cell 7
    have u8 : W3.cell? ⟨g2, 8, none⟩ = some (.int .i64 v2.ch) := HU2.out.cell 8
    have u9 : W3.cell? ⟨g2, 9, none⟩ = some (.int .i64 v2.un) := HU2.out.cell 9
    have u10 : W3.cell? ⟨g2, 10, none⟩ = some (.int .i64 v2.tg) := HU2.out.cell 10
    have u11 : W3.cell? ⟨g2, 11, none⟩ = some (.int .i64 v2.ow) := HU2.out.cell 11
    have u12 : W3.cell? ⟨g2, 12, none⟩ = some (.int .i64 v2.bp) := HU2.out.cell 12
    clear HV2 HU2
    go_wp2_with fail
    go_ret
    exact ⟨rfl, HB3.out⟩
  · obtain rfl : rn = 0 := hr.1.symm
    clear hr hnil hroom hn KE KD HV1 hm
    go_wp2_with fail
    go_ret
    exact ⟨rfl, HB1.out⟩

end Go.Proofs.Ytfhlokjpdkmdjaa.book
