/- The statement BookDecodes. -/
import Derived.Test.YtfhlokjpdkmdjaaKbD
import Derived.Test.YtfhlokjpdkmdjaaBkF
import Derived.Test.YtfhlokjpdkmdjaaBkS
import Derived.Test.YtfhlokjpdkmdjaaWSame
import Derived.Test.YtfhlokjpdkmdjaaClCopy
namespace Go.Proofs.Ytfhlokjpdkmdjaa.book
open Go.RowKit Go.Proofs.Ytfhlokjpdkmdjaa.cell
set_option maxRecDepth 100000
set_option linter.unusedVariables false
set_option linter.unusedSimpArgs false

set_option maxHeartbeats 2000000 in
theorem BookDecodes_walk (K : KDec) (a : Option Addr) (n cap : Nat) (l : List Int) (w : World) (h : RowU w a n l) (h1 : a = none → cap = 0) (h2 : n ≤ cap) (h3 : n * 4 ≤ 140737488351232) (hw : ∀ x ∈ l, 0 ≤ x ∧ x < 4294967296) :
    Calls Try.prog 4 #[.slice a n cap] w fun e w' => e = .returned (.bool true) ∧ Below w.heap.size w w' := by
  have H0 : Hid (Calls Try.prog 12 #[.slice a n cap] w fun e w' => GaveU w l e w') := words_any a n cap l w h h1 h3
  have HK : Hid (∀ W a1 cap1, RowU W a1 n l → (a1 = none → cap1 = 0) → n ≤ cap1 → Calls Try.prog 13 #[.slice a1 n cap1] W fun e w' => DecGot W l e w') := fun W a1 cap1 q1 q2 q3 => K W a1 n cap1 l q1 q2 q3 h3 hw
  have HR : Hid (∀ W, Below w.heap.size w W → Calls Try.prog 14 #[.slice a n cap] W fun e w' => DecGot W l e w') := fun W hB => (rdecoded a n cap l W (h.below hB) hw).mono fun e w' hh => hh
  have HSW : Hid (∀ W a1 cap1, Below w.heap.size w W → RowU W a1 n l → Calls Try.prog 11 #[.slice a1 n cap1, .slice a n cap] W fun e w' => e = .returned (.bool true) ∧ Below W.heap.size W w') := fun W a1 cap1 hB q => words_law a1 a n cap1 cap l W q (h.below hB) (by unfold maxLen; omega)
  have HCL : Hid (l.length = n) := h.1
  clear h h1 h2 h3 hw
  go_enter Try.func4, Try.ntmps4
  go_wp2_with fail
  refine H0.out.mono ?_
  rintro e w1 ⟨v1, rfl, hws, hb1⟩
  obtain ⟨a1, cap1, rfl, hd, hnn, hle⟩ := hws.row
  rw [HCL.out] at hd hle ⊢
  have HD1 : Hid (RowU w1 a1 n l) := hd
  have HB1 : Hid (Below w.heap.size w w1) := hb1
  have HK1 : Hid (Calls Try.prog 13 #[.slice a1 n cap1] w1 fun e w' => DecGot w1 l e w') := HK.out w1 a1 cap1 hd hnn hle
  clear hd hb1 H0 HK hws hnn hle
  go_wp2_with fail
  refine HK1.out.mono ?_
  rintro e w2 ⟨v, f, rfl, hi, hb2⟩
  have HI : Hid (DecIs l v f) := hi
  have hba : Below w2.heap.size w2 (w2.alloc (.cells #[.int .i64 v.kd, .int .i64 v.me, .int .i64 v.mo, .int .i64 v.id, .int .i64 v.te, .int .i64 v.de, .int .i64 v.fe, .int .i64 v.pr, .int .i64 v.ch, .int .i64 v.un, .int .i64 v.tg, .int .i64 v.ow, .int .i64 v.bp] 27)) := (Below.refl _ _).alloc (Nat.le_refl _) _
  have hB2 := HB1.out.trans (hb2.mono HB1.out.size)
  have HB2 : Hid (Below w.heap.size w (w2.alloc (.cells #[.int .i64 v.kd, .int .i64 v.me, .int .i64 v.mo, .int .i64 v.id, .int .i64 v.te, .int .i64 v.de, .int .i64 v.fe, .int .i64 v.pr, .int .i64 v.ch, .int .i64 v.un, .int .i64 v.tg, .int .i64 v.ow, .int .i64 v.bp] 27))) := hB2.trans (hba.mono hB2.size)
  have HD2 : Hid (RowU (w2.alloc (.cells #[.int .i64 v.kd, .int .i64 v.me, .int .i64 v.mo, .int .i64 v.id, .int .i64 v.te, .int .i64 v.de, .int .i64 v.fe, .int .i64 v.pr, .int .i64 v.ch, .int .i64 v.un, .int .i64 v.tg, .int .i64 v.ow, .int .i64 v.bp] 27)) a1 n l) := (HD1.out.below hb2).below hba
  have HV2 : Hid (Blk (w2.alloc (.cells #[.int .i64 v.kd, .int .i64 v.me, .int .i64 v.mo, .int .i64 v.id, .int .i64 v.te, .int .i64 v.de, .int .i64 v.fe, .int .i64 v.pr, .int .i64 v.ch, .int .i64 v.un, .int .i64 v.tg, .int .i64 v.ow, .int .i64 v.bp] 27)) w2.heap.size #[.int .i64 v.kd, .int .i64 v.me, .int .i64 v.mo, .int .i64 v.id, .int .i64 v.te, .int .i64 v.de, .int .i64 v.fe, .int .i64 v.pr, .int .i64 v.ch, .int .i64 v.un, .int .i64 v.tg, .int .i64 v.ow, .int .i64 v.bp] 27) := Blk.new w2 _ _
  clear HB1 HD1 HK1 hb2 hi hba hB2
  unfold Ev.v
  go_upto_region 3 with fail
  generalize (w2.alloc (.cells #[.int .i64 v.kd, .int .i64 v.me, .int .i64 v.mo, .int .i64 v.id, .int .i64 v.te, .int .i64 v.de, .int .i64 v.fe, .int .i64 v.pr, .int .i64 v.ch, .int .i64 v.un, .int .i64 v.tg, .int .i64 v.ow, .int .i64 v.bp] 27)) = W3 at *
  generalize w2.heap.size = g2 at *
  have HR1 : Hid (Calls Try.prog 14 #[.slice a n cap] W3 fun e w' => DecGot W3 l e w') := HR.out _ HB2.out
  clear HR
  go_wp2_with fail
  refine HR1.out.mono ?_
  rintro e w4 ⟨v', f', rfl, hi', hb4⟩
  obtain ⟨rfl, rfl⟩ := HI.out.one hi'
  have hba : Below w4.heap.size w4 (w4.alloc (.cells #[.int .i64 v.kd, .int .i64 v.me, .int .i64 v.mo, .int .i64 v.id, .int .i64 v.te, .int .i64 v.de, .int .i64 v.fe, .int .i64 v.pr, .int .i64 v.ch, .int .i64 v.un, .int .i64 v.tg, .int .i64 v.ow, .int .i64 v.bp] 27)) := (Below.refl _ _).alloc (Nat.le_refl _) _
  have hB4 := HB2.out.trans (hb4.mono HB2.out.size)
  have HB4 : Hid (Below w.heap.size w (w4.alloc (.cells #[.int .i64 v.kd, .int .i64 v.me, .int .i64 v.mo, .int .i64 v.id, .int .i64 v.te, .int .i64 v.de, .int .i64 v.fe, .int .i64 v.pr, .int .i64 v.ch, .int .i64 v.un, .int .i64 v.tg, .int .i64 v.ow, .int .i64 v.bp] 27))) := hB4.trans (hba.mono hB4.size)
  have HD4 : Hid (RowU (w4.alloc (.cells #[.int .i64 v.kd, .int .i64 v.me, .int .i64 v.mo, .int .i64 v.id, .int .i64 v.te, .int .i64 v.de, .int .i64 v.fe, .int .i64 v.pr, .int .i64 v.ch, .int .i64 v.un, .int .i64 v.tg, .int .i64 v.ow, .int .i64 v.bp] 27)) a1 n l) := (HD2.out.below hb4).below hba
  have HV4 : Hid (Blk (w4.alloc (.cells #[.int .i64 v.kd, .int .i64 v.me, .int .i64 v.mo, .int .i64 v.id, .int .i64 v.te, .int .i64 v.de, .int .i64 v.fe, .int .i64 v.pr, .int .i64 v.ch, .int .i64 v.un, .int .i64 v.tg, .int .i64 v.ow, .int .i64 v.bp] 27)) g2 #[.int .i64 v.kd, .int .i64 v.me, .int .i64 v.mo, .int .i64 v.id, .int .i64 v.te, .int .i64 v.de, .int .i64 v.fe, .int .i64 v.pr, .int .i64 v.ch, .int .i64 v.un, .int .i64 v.tg, .int .i64 v.ow, .int .i64 v.bp] 27) := (HV2.out.next hb4).next hba
  have HU4 : Hid (Blk (w4.alloc (.cells #[.int .i64 v.kd, .int .i64 v.me, .int .i64 v.mo, .int .i64 v.id, .int .i64 v.te, .int .i64 v.de, .int .i64 v.fe, .int .i64 v.pr, .int .i64 v.ch, .int .i64 v.un, .int .i64 v.tg, .int .i64 v.ow, .int .i64 v.bp] 27)) w4.heap.size #[.int .i64 v.kd, .int .i64 v.me, .int .i64 v.mo, .int .i64 v.id, .int .i64 v.te, .int .i64 v.de, .int .i64 v.fe, .int .i64 v.pr, .int .i64 v.ch, .int .i64 v.un, .int .i64 v.tg, .int .i64 v.ow, .int .i64 v.bp] 27) := Blk.new w4 _ _
  clear HB2 HD2 HV2 hb4 hi' hba hB4 HR1 HI
  unfold Ev.v
  go_upto_region 4 with fail
  generalize (w4.alloc (.cells #[.int .i64 v.kd, .int .i64 v.me, .int .i64 v.mo, .int .i64 v.id, .int .i64 v.te, .int .i64 v.de, .int .i64 v.fe, .int .i64 v.pr, .int .i64 v.ch, .int .i64 v.un, .int .i64 v.tg, .int .i64 v.ow, .int .i64 v.bp] 27)) = W5 at *
  generalize w4.heap.size = g4 at *
  have HS : Hid (Calls Try.prog 11 #[.slice a1 n cap1, .slice a n cap] W5 fun e w' => e = .returned (.bool true) ∧ Below W5.heap.size W5 w') := HSW.out W5 a1 cap1 HB4.out HD4.out
  have qe := eqSame v.kd v.me v.mo v.id v.te v.de v.fe v.pr v.ch v.un v.tg v.ow v.bp
  have ef : (f == f) = true := by simp
  have k0 : W5.cell? ⟨g2, 0, none⟩ = some (.int .i64 v.kd) := HV4.out.cell 0
  have k1 : W5.cell? ⟨g2, 1, none⟩ = some (.int .i64 v.me) := HV4.out.cell 1
  have k2 : W5.cell? ⟨g2, 2, none⟩ = some (.int .i64 v.mo) := HV4.out.cell 2
  have k3 : W5.cell? ⟨g2, 3, none⟩ = some (.int .i64 v.id) := HV4.out.cell 3
  have k4 : W5.cell? ⟨g2, 4, none⟩ = some (.int .i64 v.te) := HV4.out.cell 4
  have k5 : W5.cell? ⟨g2, 5, none⟩ = some (.int .i64 v.de) := HV4.out.cell 5
  have k6 : W5.cell? ⟨g2, 6, none⟩ = some (.int .i64 v.fe) := HV4.out.cell 6
  have k7 : W5.cell? ⟨g2, 7, none⟩ = some (.int .i64 v.pr) := HV4.out.cell 7
  have k8 : W5.cell? ⟨g2, 8, none⟩ = some (.int .i64 v.ch) := HV4.out.cell 8
  have k9 : W5.cell? ⟨g2, 9, none⟩ = some (.int .i64 v.un) := HV4.out.cell 9
  have k10 : W5.cell? ⟨g2, 10, none⟩ = some (.int .i64 v.tg) := HV4.out.cell 10
  have k11 : W5.cell? ⟨g2, 11, none⟩ = some (.int .i64 v.ow) := HV4.out.cell 11
  have k12 : W5.cell? ⟨g2, 12, none⟩ = some (.int .i64 v.bp) := HV4.out.cell 12
  have u0 : W5.cell? ⟨g4, 0, none⟩ = some (.int .i64 v.kd) := HU4.out.cell 0
  have u1 : W5.cell? ⟨g4, 1, none⟩ = some (.int .i64 v.me) := HU4.out.cell 1
  have u2 : W5.cell? ⟨g4, 2, none⟩ = some (.int .i64 v.mo) := HU4.out.cell 2
  have u3 : W5.cell? ⟨g4, 3, none⟩ = some (.int .i64 v.id) := HU4.out.cell 3
  have u4 : W5.cell? ⟨g4, 4, none⟩ = some (.int .i64 v.te) := HU4.out.cell 4
  have u5 : W5.cell? ⟨g4, 5, none⟩ = some (.int .i64 v.de) := HU4.out.cell 5
  have u6 : W5.cell? ⟨g4, 6, none⟩ = some (.int .i64 v.fe) := HU4.out.cell 6
  have u7 : W5.cell? ⟨g4, 7, none⟩ = some (.int .i64 v.pr) := HU4.out.cell 7
  have u8 : W5.cell? ⟨g4, 8, none⟩ = some (.int .i64 v.ch) := HU4.out.cell 8
  have u9 : W5.cell? ⟨g4, 9, none⟩ = some (.int .i64 v.un) := HU4.out.cell 9
  have u10 : W5.cell? ⟨g4, 10, none⟩ = some (.int .i64 v.tg) := HU4.out.cell 10
  have u11 : W5.cell? ⟨g4, 11, none⟩ = some (.int .i64 v.ow) := HU4.out.cell 11
  have u12 : W5.cell? ⟨g4, 12, none⟩ = some (.int .i64 v.bp) := HU4.out.cell 12
  clear HV4 HU4 HD4 HSW
  go_wp2_with fail
  refine HS.out.mono ?_
  rintro e w6 ⟨rfl, hb6⟩
  have HB6 : Hid (Below w.heap.size w w6) := HB4.out.trans (hb6.mono HB4.out.size)
  clear hb6
  go_wp2_with fail
  go_ret
  exact ⟨rfl, HB6.out⟩

end Go.Proofs.Ytfhlokjpdkmdjaa.book
