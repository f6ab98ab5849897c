/- The statement EventFixed. -/
import Derived.Test.YtfhlokjpdkmdjaaKbE
import Derived.Test.YtfhlokjpdkmdjaaKbD
import Derived.Test.YtfhlokjpdkmdjaaBkS
import Derived.Test.YtfhlokjpdkmdjaaSoX
import Derived.Test.YtfhlokjpdkmdjaaClSameK
import Derived.Deep.DeepCutAuto
namespace Go.Proofs.Ytfhlokjpdkmdjaa.book
open Go.RowKit Go.Proofs.Ytfhlokjpdkmdjaa.cell
set_option maxRecDepth 100000
set_option linter.unusedVariables false
set_option linter.unusedSimpArgs false

set_option maxHeartbeats 2000000 in
theorem EventFixed_walk (KE : KEnc) (KD : KDec) (a : Option Addr) (n cap : Nat) (l : List Int) (w : World) (h : RowU w a n l) (hw : ∀ x ∈ l, 0 ≤ x ∧ x < 4294967296) (h3 : n * 4 ≤ 140737488351232) : Calls Try.prog 8 #[.slice a n cap] w fun e w' => e = .returned (.bool true) ∧ Below w.heap.size w w' := by
  have HSO : Hid (Calls Try.prog 23 #[.slice a n cap, .int .i64 20] w fun e w' => SomeX w 20 l e w') := some_is a n cap 20 l w h (by decide) (by decide)
  have HL : Hid (∀ W, Below w.heap.size w W → RowU W a n l) := fun W hB => h.below hB
  have HKE : Hid (∀ W v, wf13 v → Calls Try.prog 9 #[v.v] W fun e w' => EncGot W v e w') := KE
  have HWL : Hid (∀ x ∈ someL l 20, 0 ≤ x ∧ x < 4294967296) := some_mem hw
  have HLN : Hid (l.length = n) := h.1
  clear h hw KE
  go_enter Try.func8, Try.ntmps8
  go_wp2_with fail
  refine HSO.out.mono ?_
  rintro e w1 ⟨v1, rfl, hws, hb1⟩
  obtain ⟨a1, cap1, rfl, hd, hnn, hle⟩ := hws.row
  have HB1 : Hid (Below w.heap.size w w1) := hb1
  have hml : (someL l 20).length ≤ 20 := by
    unfold someL
    split
    · decide
    · rw [List.length_take]; omega
  have HKD : Hid (Calls Try.prog 13 #[.slice a1 (someL l 20).length cap1] w1 fun e w' => DecGot w1 (someL l 20) e w') := KD w1 a1 _ cap1 _ hd hnn hle (by omega) HWL.out
  clear hd hb1 hws hnn hle KD HSO
  generalize hmm : (someL l 20).length = m at *
  have HMM : Hid ((someL l 20).length = m) := hmm
  clear hmm
  go_wp2_with fail
  refine HKD.out.mono ?_
  rintro e w2 ⟨v2, f2, rfl, hi2, hb2⟩
  have HB2 : Hid (Below w.heap.size w w2) := HB1.out.trans (hb2.mono HB1.out.size)
  clear hb2 HB1 HKD
  have hcase : (v2 = ev0 ∧ (f2 != 0) = true) ∨ (l.length = 13 ∧ EMay (evOf l) ∧ v2 = evOf l ∧ f2 = 0) := by
    rcases hi2 with ⟨_, rfl, rfl⟩ | ⟨_, _, rfl, rfl⟩ | ⟨q, q2, rfl, rfl⟩
    · exact .inl ⟨rfl, rfl⟩
    · exact .inl ⟨rfl, rfl⟩
    · have e1 := some_13 q
      rw [e1] at q q2 ⊢
      exact .inr ⟨q, q2, rfl, rfl⟩
  clear hi2
  rcases hcase with ⟨rfl, hne⟩ | ⟨q, q2, rfl, rfl⟩
  · have qe := eqSame 0 0 0 0 0 0 0 0 0 0 0 0 0
    have HB3 : Hid (∀ o, Below w.heap.size w (w2.alloc o)) := fun o => HB2.out.alloc HB2.out.size o
    unfold Ev.v ev0
    go_wp2_with fail
    go_ret
    exact ⟨rfl, HB3.out _⟩
  · obtain rfl : n = 13 := HLN.out.symm.trans q
    have HE1 := HKE.out
    have HV2 : Hid (Blk (w2.alloc (.cells #[.int .i64 (evOf l).kd, .int .i64 (evOf l).me, .int .i64 (evOf l).mo, .int .i64 (evOf l).id, .int .i64 (evOf l).te, .int .i64 (evOf l).de, .int .i64 (evOf l).fe, .int .i64 (evOf l).pr, .int .i64 (evOf l).ch, .int .i64 (evOf l).un, .int .i64 (evOf l).tg, .int .i64 (evOf l).ow, .int .i64 (evOf l).bp] 27)) w2.heap.size #[.int .i64 (evOf l).kd, .int .i64 (evOf l).me, .int .i64 (evOf l).mo, .int .i64 (evOf l).id, .int .i64 (evOf l).te, .int .i64 (evOf l).de, .int .i64 (evOf l).fe, .int .i64 (evOf l).pr, .int .i64 (evOf l).ch, .int .i64 (evOf l).un, .int .i64 (evOf l).tg, .int .i64 (evOf l).ow, .int .i64 (evOf l).bp] 27) := Blk.new w2 _ _
    have HB3 : Hid (Below w.heap.size w (w2.alloc (.cells #[.int .i64 (evOf l).kd, .int .i64 (evOf l).me, .int .i64 (evOf l).mo, .int .i64 (evOf l).id, .int .i64 (evOf l).te, .int .i64 (evOf l).de, .int .i64 (evOf l).fe, .int .i64 (evOf l).pr, .int .i64 (evOf l).ch, .int .i64 (evOf l).un, .int .i64 (evOf l).tg, .int .i64 (evOf l).ow, .int .i64 (evOf l).bp] 27))) := HB2.out.alloc HB2.out.size _
    have HQ : Hid (EMay (evOf l)) := q2
    have HLL : Hid (evL (evOf l) = l) := evL_Of q
    have HKE1 : Hid (∀ W, Calls Try.prog 9 #[.agg #[.int .i64 (evOf l).kd, .int .i64 (evOf l).me, .int .i64 (evOf l).mo, .int .i64 (evOf l).id, .int .i64 (evOf l).te, .int .i64 (evOf l).de, .int .i64 (evOf l).fe, .int .i64 (evOf l).pr, .int .i64 (evOf l).ch, .int .i64 (evOf l).un, .int .i64 (evOf l).tg, .int .i64 (evOf l).ow, .int .i64 (evOf l).bp]] W fun e w' => EncGot W (evOf l) e w') := fun W => HKE.out W (evOf l) (wf_may q2)
    clear q q2 HKE HE1 HB2 HMM HWL HLN
    unfold Ev.v
    go_upto_region 2 with fail
    generalize (w2.alloc (.cells #[.int .i64 (evOf l).kd, .int .i64 (evOf l).me, .int .i64 (evOf l).mo, .int .i64 (evOf l).id, .int .i64 (evOf l).te, .int .i64 (evOf l).de, .int .i64 (evOf l).fe, .int .i64 (evOf l).pr, .int .i64 (evOf l).ch, .int .i64 (evOf l).un, .int .i64 (evOf l).tg, .int .i64 (evOf l).ow, .int .i64 (evOf l).bp] 27)) = W3 at *
    generalize w2.heap.size = g2 at *
    generalize evOf l = v at *
    have k0 : W3.cell? ⟨g2, 0, none⟩ = some (.int .i64 v.kd) := HV2.out.cell 0
    have k1 : W3.cell? ⟨g2, 1, none⟩ = some (.int .i64 v.me) := HV2.out.cell 1
    have k2 : W3.cell? ⟨g2, 2, none⟩ = some (.int .i64 v.mo) := HV2.out.cell 2
    have k3 : W3.cell? ⟨g2, 3, none⟩ = some (.int .i64 v.id) := HV2.out.cell 3
    have k4 : W3.cell? ⟨g2, 4, none⟩ = some (.int .i64 v.te) := HV2.out.cell 4
    have k5 : W3.cell? ⟨g2, 5, none⟩ = some (.int .i64 v.de) := HV2.out.cell 5
    have k6 : W3.cell? ⟨g2, 6, none⟩ = some (.int .i64 v.fe) := HV2.out.cell 6
    have k7 : W3.cell? ⟨g2, 7, none⟩ = some (.int .i64 v.pr) := HV2.out.cell 7
    have k8 : W3.cell? ⟨g2, 8, none⟩ = some (.int .i64 v.ch) := HV2.out.cell 8
    have k9 : W3.cell? ⟨g2, 9, none⟩ = some (.int .i64 v.un) := HV2.out.cell 9
    have k10 : W3.cell? ⟨g2, 10, none⟩ = some (.int .i64 v.tg) := HV2.out.cell 10
    have k11 : W3.cell? ⟨g2, 11, none⟩ = some (.int .i64 v.ow) := HV2.out.cell 11
    have k12 : W3.cell? ⟨g2, 12, none⟩ = some (.int .i64 v.bp) := HV2.out.cell 12
    go_wp2_with fail
    refine (HKE1.out _).mono ?_
    rintro e w4 ⟨ra, rn, rc, ws, f, rfl, hi, hr, _, _, hn, hb4⟩
    obtain ⟨rfl, rfl⟩ : ws = evL v ∧ f = 0 := hi.one (.inl ⟨HQ.out, rfl, rfl⟩)
    rw [HLL.out] at hr
    have HB4 : Hid (Below w.heap.size w w4) := HB3.out.trans (hb4.mono HB3.out.size)
    obtain rfl : rn = 13 := hr.1.symm.trans (HL.out w (Below.refl _ _)).1
    have HS : Hid (Calls Try.prog 24 #[.slice ra 13 rc, .slice a 13 cap] w4 fun e w' => e = .returned (.bool true) ∧ Below w4.heap.size w4 w') := words_keep ra a 13 rc cap l w4 hr (HL.out w4 HB4.out) (by decide)
    clear hb4 hi hr hn HV2 HKE1 HB3 k0 k1 k2 k3 k4 k5 k6 k7 k8 k9 k10 k11 k12 HL
    go_wp2_with fail
    refine HS.out.mono ?_
    rintro e w5 ⟨rfl, hb5⟩
    have HB5 : Hid (Below w.heap.size w w5) := HB4.out.trans (hb5.mono HB4.out.size)
    clear hb5
    go_wp2_with fail
    go_ret
    exact ⟨rfl, HB5.out⟩

end Go.Proofs.Ytfhlokjpdkmdjaa.book
