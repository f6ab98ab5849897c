/- book.Decode. -/
import Derived.Test.YtfhlokjpdkmdjaaBpM
import Derived.Test.YtfhlokjpdkmdjaaBpY
import Derived.Test.YtfhlokjpdkmdjaaKbD
import Derived.Test.YtfhlokjpdkmdjaaLet
import Derived.Defers
import Derived.Recover
import Derived.Deep.DeepCutAuto
namespace Go.Proofs.Ytfhlokjpdkmdjaa.book
open Go.RowKit Go.Proofs.Ytfhlokjpdkmdjaa.cell
set_option maxRecDepth 100000
set_option linter.unusedVariables false
set_option linter.unusedSimpArgs false

set_option maxHeartbeats 4000000 in
theorem kdec : KDec := by
  intro w a n cap l hr hnil hle hbytes hm
  have hmf : ∀ (fn : Fn) (first cap : Array Value) (w : World), (Instr.makeFunc fn first cap).run Try.prog w = .ok (.func fn first cap) w := fun _ _ _ _ => rfl
  have HLN : Hid (l.length = n) := hr.1
  have HR1 : Hid (Blk ((w.alloc (.cells #[.int .i64 0, .int .i64 0, .int .i64 0, .int .i64 0, .int .i64 0, .int .i64 0, .int .i64 0, .int .i64 0, .int .i64 0, .int .i64 0, .int .i64 0, .int .i64 0, .int .i64 0] 27)).alloc (.cells #[.int .i64 0] 29)) w.heap.size #[.int .i64 0, .int .i64 0, .int .i64 0, .int .i64 0, .int .i64 0, .int .i64 0, .int .i64 0, .int .i64 0, .int .i64 0, .int .i64 0, .int .i64 0, .int .i64 0, .int .i64 0] 27) := (Blk.new _ _ _).alloc _
  have HE1 : Hid (Blk ((w.alloc (.cells #[.int .i64 0, .int .i64 0, .int .i64 0, .int .i64 0, .int .i64 0, .int .i64 0, .int .i64 0, .int .i64 0, .int .i64 0, .int .i64 0, .int .i64 0, .int .i64 0, .int .i64 0] 27)).alloc (.cells #[.int .i64 0] 29)) (w.heap.size + 1) #[.int .i64 0] 29) := Blk.new1 _ _ _ _
  have HB1 : Hid (Below w.heap.size w ((w.alloc (.cells #[.int .i64 0, .int .i64 0, .int .i64 0, .int .i64 0, .int .i64 0, .int .i64 0, .int .i64 0, .int .i64 0, .int .i64 0, .int .i64 0, .int .i64 0, .int .i64 0, .int .i64 0] 27)).alloc (.cells #[.int .i64 0] 29))) := ((Below.refl _ _).alloc (Nat.le_refl _) _).alloc (by simp) _
  by_cases hn : n = 13
  case neg =>
    have nn : ((n : Int) != 13) = true := by simp; omega
    have HNL : Hid (l.length ≠ 13) := by show _ ≠ _; rw [HLN.out]; exact hn
    clear hn hr hm
    go_enter_defers Try.func13, Try.ntmps13
    go_upto_region 2 with fail
    generalize ((w.alloc (.cells #[.int .i64 0, .int .i64 0, .int .i64 0, .int .i64 0, .int .i64 0, .int .i64 0, .int .i64 0, .int .i64 0, .int .i64 0, .int .i64 0, .int .i64 0, .int .i64 0, .int .i64 0] 27)).alloc (.cells #[.int .i64 0] 29)) = W1 at *
    go_wp2_with (first | (refine wp_letAll rfl 27 _ _ rfl w.heap.size rfl #[.int .i64 0, .int .i64 0, .int .i64 0, .int .i64 0, .int .i64 0, .int .i64 0, .int .i64 0, .int .i64 0, .int .i64 0, .int .i64 0, .int .i64 0, .int .i64 0, .int .i64 0] rfl (by kernel_rfl) (by simp [Value.oneCell']) #[.int .i64 0, .int .i64 0, .int .i64 0, .int .i64 0, .int .i64 0, .int .i64 0, .int .i64 0, .int .i64 0, .int .i64 0, .int .i64 0, .int .i64 0, .int .i64 0, .int .i64 0] 27 HR1.out rfl ?_) | fail)
    intro W2 hU
    have HR2 : Hid (Blk W2 w.heap.size #[.int .i64 0, .int .i64 0, .int .i64 0, .int .i64 0, .int .i64 0, .int .i64 0, .int .i64 0, .int .i64 0, .int .i64 0, .int .i64 0, .int .i64 0, .int .i64 0, .int .i64 0] 27) := hU.blk
    have HE2 : Hid (Blk W2 (w.heap.size + 1) #[.int .i64 0] 29) := hU.keep HE1.out (by omega)
    have HB2 : Hid (Below w.heap.size w W2) := hU.bel _ _ (Nat.le_refl _) HB1.out
    clear hU HR1 HE1 HB1
    go_wp2_with (first | (refine wp_let1 rfl 29 _ _ rfl (w.heap.size + 1) 0 rfl .i64 1 rfl (by kernel_rfl) #[.int .i64 0] 29 HE2.out (by decide) ?_) | fail)
    intro W3 hU
    have HR3 : Hid (Blk W3 w.heap.size #[.int .i64 0, .int .i64 0, .int .i64 0, .int .i64 0, .int .i64 0, .int .i64 0, .int .i64 0, .int .i64 0, .int .i64 0, .int .i64 0, .int .i64 0, .int .i64 0, .int .i64 0] 27) := hU.keep HR2.out (by omega)
    have r13 : W3.cell? ⟨w.heap.size + 1, 0, none⟩ = some (.int .i64 1) := hU.blk.cell 0
    have HB3 : Hid (Below w.heap.size w W3) := hU.bel _ _ (by omega) HB2.out
    clear hU
    go_wp2_with fail
    have r0 : W3.cell? ⟨w.heap.size, 0, none⟩ = some (.int .i64 0) := HR3.out.cell 0
    have r1 : W3.cell? ⟨w.heap.size, 1, none⟩ = some (.int .i64 0) := HR3.out.cell 1
    have r2 : W3.cell? ⟨w.heap.size, 2, none⟩ = some (.int .i64 0) := HR3.out.cell 2
    have r3 : W3.cell? ⟨w.heap.size, 3, none⟩ = some (.int .i64 0) := HR3.out.cell 3
    have r4 : W3.cell? ⟨w.heap.size, 4, none⟩ = some (.int .i64 0) := HR3.out.cell 4
    have r5 : W3.cell? ⟨w.heap.size, 5, none⟩ = some (.int .i64 0) := HR3.out.cell 5
    have r6 : W3.cell? ⟨w.heap.size, 6, none⟩ = some (.int .i64 0) := HR3.out.cell 6
    have r7 : W3.cell? ⟨w.heap.size, 7, none⟩ = some (.int .i64 0) := HR3.out.cell 7
    have r8 : W3.cell? ⟨w.heap.size, 8, none⟩ = some (.int .i64 0) := HR3.out.cell 8
    have r9 : W3.cell? ⟨w.heap.size, 9, none⟩ = some (.int .i64 0) := HR3.out.cell 9
    have r10 : W3.cell? ⟨w.heap.size, 10, none⟩ = some (.int .i64 0) := HR3.out.cell 10
    have r11 : W3.cell? ⟨w.heap.size, 11, none⟩ = some (.int .i64 0) := HR3.out.cell 11
    have r12 : W3.cell? ⟨w.heap.size, 12, none⟩ = some (.int .i64 0) := HR3.out.cell 12
    show Leaves _ _ _ _ [] .returning W3
    refine ⟨.tuple #[.agg #[.int .i64 0, .int .i64 0, .int .i64 0, .int .i64 0, .int .i64 0, .int .i64 0, .int .i64 0, .int .i64 0, .int .i64 0, .int .i64 0, .int .i64 0, .int .i64 0, .int .i64 0], .int .i64 1], by simp [results, Try.results13, r0, r1, r2, r3, r4, r5, r6, r7, r8, r9, r10, r11, r12, r13, go_sem], ?_⟩
    exact ⟨ev0, 1, rfl, .inl ⟨HNL.out, rfl, rfl⟩, HB3.out⟩
  subst hn
  have HEV : Hid (∀ W, Below w.heap.size w W → Calls Try.prog 31 #[.slice a 13 cap] W fun e w' => e = .returned (evOf l).v ∧ Below W.heap.size W w') := fun W hB => bevent a cap l W (hr.below hB) hm
  clear hr hm
  obtain ⟨v, hv⟩ : ∃ v, v = evOf l := ⟨_, rfl⟩
  have HVE : Hid (v = evOf l) := hv
  rw [← hv] at HEV
  clear hv
  have HMU : Hid (∀ W, Calls Try.prog 27 #[.agg #[.int .i64 v.kd, .int .i64 v.me, .int .i64 v.mo, .int .i64 v.id, .int .i64 v.te, .int .i64 v.de, .int .i64 v.fe, .int .i64 v.pr, .int .i64 v.ch, .int .i64 v.un, .int .i64 v.tg, .int .i64 v.ow, .int .i64 v.bp]] W fun e w' => MustPost W v e w') := fun W => bmust v W
  have nn : (((13 : Nat) : Int) != 13) = false := by decide
  go_enter_defers Try.func13, Try.ntmps13
  go_upto_region 4 with fail
  generalize ((w.alloc (.cells #[.int .i64 0, .int .i64 0, .int .i64 0, .int .i64 0, .int .i64 0, .int .i64 0, .int .i64 0, .int .i64 0, .int .i64 0, .int .i64 0, .int .i64 0, .int .i64 0, .int .i64 0] 27)).alloc (.cells #[.int .i64 0] 29)) = W1 at *
  have HE := HEV.out W1 HB1.out
  have HE' : Hid (Calls Try.prog 31 #[.slice a 13 cap] W1 fun e w' => e = .returned v.v ∧ Below W1.heap.size W1 w') := HE
  clear HE HEV
  go_wp2_with fail
  refine HE'.out.mono ?_
  rintro e W2 ⟨rfl, hb⟩
  have HR2 : Hid (Blk (W2.alloc (.cells #[.int .i64 v.kd, .int .i64 v.me, .int .i64 v.mo, .int .i64 v.id, .int .i64 v.te, .int .i64 v.de, .int .i64 v.fe, .int .i64 v.pr, .int .i64 v.ch, .int .i64 v.un, .int .i64 v.tg, .int .i64 v.ow, .int .i64 v.bp] 27)) w.heap.size #[.int .i64 0, .int .i64 0, .int .i64 0, .int .i64 0, .int .i64 0, .int .i64 0, .int .i64 0, .int .i64 0, .int .i64 0, .int .i64 0, .int .i64 0, .int .i64 0, .int .i64 0] 27) := (HR1.out.next hb).alloc _
  have HE2 : Hid (Blk (W2.alloc (.cells #[.int .i64 v.kd, .int .i64 v.me, .int .i64 v.mo, .int .i64 v.id, .int .i64 v.te, .int .i64 v.de, .int .i64 v.fe, .int .i64 v.pr, .int .i64 v.ch, .int .i64 v.un, .int .i64 v.tg, .int .i64 v.ow, .int .i64 v.bp] 27)) (w.heap.size + 1) #[.int .i64 0] 29) := (HE1.out.next hb).alloc _
  have HT2 : Hid (Blk (W2.alloc (.cells #[.int .i64 v.kd, .int .i64 v.me, .int .i64 v.mo, .int .i64 v.id, .int .i64 v.te, .int .i64 v.de, .int .i64 v.fe, .int .i64 v.pr, .int .i64 v.ch, .int .i64 v.un, .int .i64 v.tg, .int .i64 v.ow, .int .i64 v.bp] 27)) W2.heap.size #[.int .i64 v.kd, .int .i64 v.me, .int .i64 v.mo, .int .i64 v.id, .int .i64 v.te, .int .i64 v.de, .int .i64 v.fe, .int .i64 v.pr, .int .i64 v.ch, .int .i64 v.un, .int .i64 v.tg, .int .i64 v.ow, .int .i64 v.bp] 27) := Blk.new _ _ _
  have HB2 : Hid (Below w.heap.size w (W2.alloc (.cells #[.int .i64 v.kd, .int .i64 v.me, .int .i64 v.mo, .int .i64 v.id, .int .i64 v.te, .int .i64 v.de, .int .i64 v.fe, .int .i64 v.pr, .int .i64 v.ch, .int .i64 v.un, .int .i64 v.tg, .int .i64 v.ow, .int .i64 v.bp] 27))) := (bel_step HB1.out hb).alloc (bel_step HB1.out hb).size _
  have HG2 : Hid (w.heap.size + 1 < W2.heap.size) := (HE1.out.next hb).lt
  clear hb HR1 HE1 HB1 HE'
  unfold Ev.v
  go_upto_region 5 with fail
  generalize (W2.alloc (.cells #[.int .i64 v.kd, .int .i64 v.me, .int .i64 v.mo, .int .i64 v.id, .int .i64 v.te, .int .i64 v.de, .int .i64 v.fe, .int .i64 v.pr, .int .i64 v.ch, .int .i64 v.un, .int .i64 v.tg, .int .i64 v.ow, .int .i64 v.bp] 27)) = W3 at *
  generalize W2.heap.size = g at *
  have c0 : W3.cell? ⟨g, 0, none⟩ = some (.int .i64 v.kd) := HT2.out.cell 0
  have c1 : W3.cell? ⟨g, 1, none⟩ = some (.int .i64 v.me) := HT2.out.cell 1
  have c2 : W3.cell? ⟨g, 2, none⟩ = some (.int .i64 v.mo) := HT2.out.cell 2
  have c3 : W3.cell? ⟨g, 3, none⟩ = some (.int .i64 v.id) := HT2.out.cell 3
  have c4 : W3.cell? ⟨g, 4, none⟩ = some (.int .i64 v.te) := HT2.out.cell 4
  have c5 : W3.cell? ⟨g, 5, none⟩ = some (.int .i64 v.de) := HT2.out.cell 5
  have c6 : W3.cell? ⟨g, 6, none⟩ = some (.int .i64 v.fe) := HT2.out.cell 6
  have c7 : W3.cell? ⟨g, 7, none⟩ = some (.int .i64 v.pr) := HT2.out.cell 7
  have c8 : W3.cell? ⟨g, 8, none⟩ = some (.int .i64 v.ch) := HT2.out.cell 8
  have c9 : W3.cell? ⟨g, 9, none⟩ = some (.int .i64 v.un) := HT2.out.cell 9
  have c10 : W3.cell? ⟨g, 10, none⟩ = some (.int .i64 v.tg) := HT2.out.cell 10
  have c11 : W3.cell? ⟨g, 11, none⟩ = some (.int .i64 v.ow) := HT2.out.cell 11
  have c12 : W3.cell? ⟨g, 12, none⟩ = some (.int .i64 v.bp) := HT2.out.cell 12
  go_wp2_with fail
  refine (HMU.out _).mono ?_
  rintro e W4 ⟨hm, hb⟩
  have HR4 : Hid (Blk W4 w.heap.size #[.int .i64 0, .int .i64 0, .int .i64 0, .int .i64 0, .int .i64 0, .int .i64 0, .int .i64 0, .int .i64 0, .int .i64 0, .int .i64 0, .int .i64 0, .int .i64 0, .int .i64 0] 27) := HR2.out.next hb
  have HE4 : Hid (Blk W4 (w.heap.size + 1) #[.int .i64 0] 29) := HE2.out.next hb
  have HT4 : Hid (Blk W4 g #[.int .i64 v.kd, .int .i64 v.me, .int .i64 v.mo, .int .i64 v.id, .int .i64 v.te, .int .i64 v.de, .int .i64 v.fe, .int .i64 v.pr, .int .i64 v.ch, .int .i64 v.un, .int .i64 v.tg, .int .i64 v.ow, .int .i64 v.bp] 27) := HT2.out.next hb
  have HB4 : Hid (Below w.heap.size w W4) := bel_step HB2.out hb
  clear hb HR2 HE2 HT2 HB2 HMU c0 c1 c2 c3 c4 c5 c6 c7 c8 c9 c10 c11 c12
  rcases hm with ⟨hm, rfl⟩ | ⟨hm, rfl⟩
  · have HY : Hid (EMay v) := hm
    clear hm
    have c0 : W4.cell? ⟨g, 0, none⟩ = some (.int .i64 v.kd) := HT4.out.cell 0
    have c1 : W4.cell? ⟨g, 1, none⟩ = some (.int .i64 v.me) := HT4.out.cell 1
    have c2 : W4.cell? ⟨g, 2, none⟩ = some (.int .i64 v.mo) := HT4.out.cell 2
    have c3 : W4.cell? ⟨g, 3, none⟩ = some (.int .i64 v.id) := HT4.out.cell 3
    have c4 : W4.cell? ⟨g, 4, none⟩ = some (.int .i64 v.te) := HT4.out.cell 4
    have c5 : W4.cell? ⟨g, 5, none⟩ = some (.int .i64 v.de) := HT4.out.cell 5
    have c6 : W4.cell? ⟨g, 6, none⟩ = some (.int .i64 v.fe) := HT4.out.cell 6
    have c7 : W4.cell? ⟨g, 7, none⟩ = some (.int .i64 v.pr) := HT4.out.cell 7
    have c8 : W4.cell? ⟨g, 8, none⟩ = some (.int .i64 v.ch) := HT4.out.cell 8
    have c9 : W4.cell? ⟨g, 9, none⟩ = some (.int .i64 v.un) := HT4.out.cell 9
    have c10 : W4.cell? ⟨g, 10, none⟩ = some (.int .i64 v.tg) := HT4.out.cell 10
    have c11 : W4.cell? ⟨g, 11, none⟩ = some (.int .i64 v.ow) := HT4.out.cell 11
    have c12 : W4.cell? ⟨g, 12, none⟩ = some (.int .i64 v.bp) := HT4.out.cell 12
    go_wp2_with (first | (refine wp_letAll rfl 27 _ _ rfl w.heap.size rfl #[.int .i64 v.kd, .int .i64 v.me, .int .i64 v.mo, .int .i64 v.id, .int .i64 v.te, .int .i64 v.de, .int .i64 v.fe, .int .i64 v.pr, .int .i64 v.ch, .int .i64 v.un, .int .i64 v.tg, .int .i64 v.ow, .int .i64 v.bp] rfl (by kernel_rfl) (by simp [Value.oneCell']) #[.int .i64 0, .int .i64 0, .int .i64 0, .int .i64 0, .int .i64 0, .int .i64 0, .int .i64 0, .int .i64 0, .int .i64 0, .int .i64 0, .int .i64 0, .int .i64 0, .int .i64 0] 27 HR4.out rfl ?_) | fail)
    intro W5 hU
    have HR5 : Hid (Blk W5 w.heap.size #[.int .i64 v.kd, .int .i64 v.me, .int .i64 v.mo, .int .i64 v.id, .int .i64 v.te, .int .i64 v.de, .int .i64 v.fe, .int .i64 v.pr, .int .i64 v.ch, .int .i64 v.un, .int .i64 v.tg, .int .i64 v.ow, .int .i64 v.bp] 27) := hU.blk
    have HE5 : Hid (Blk W5 (w.heap.size + 1) #[.int .i64 0] 29) := hU.keep HE4.out (by omega)
    have HB5 : Hid (Below w.heap.size w W5) := hU.bel _ _ (Nat.le_refl _) HB4.out
    clear hU HR4 HE4 HB4 HT4 c0 c1 c2 c3 c4 c5 c6 c7 c8 c9 c10 c11 c12
    go_wp2_with (first | (refine wp_let1 rfl 29 _ _ rfl (w.heap.size + 1) 0 rfl .i64 0 rfl (by kernel_rfl) #[.int .i64 0] 29 HE5.out (by decide) ?_) | fail)
    intro W6 hU
    have HR6 : Hid (Blk W6 w.heap.size #[.int .i64 v.kd, .int .i64 v.me, .int .i64 v.mo, .int .i64 v.id, .int .i64 v.te, .int .i64 v.de, .int .i64 v.fe, .int .i64 v.pr, .int .i64 v.ch, .int .i64 v.un, .int .i64 v.tg, .int .i64 v.ow, .int .i64 v.bp] 27) := hU.keep HR5.out (by omega)
    have HE6 : Hid (Blk W6 (w.heap.size + 1) #[.int .i64 0] 29) := hU.blk
    have HB6 : Hid (Below w.heap.size w W6) := hU.bel _ _ (by omega) HB5.out
    clear hU HR5 HE5 HB5
    go_wp2_with fail
    refine leaves_cons (f := 30) (args := #[.pointer (some ⟨w.heap.size + 1, 0, none⟩)]) (by simp) (by simp [go_sem]) ?_
    refine (decode_idle (w.heap.size + 1) 0 _ HE6.out).mono ?_
    rintro e u' w5 ⟨rfl, hs, W, hb, hU⟩
    have HR7 : Blk w5 w.heap.size #[.int .i64 v.kd, .int .i64 v.me, .int .i64 v.mo, .int .i64 v.id, .int .i64 v.te, .int .i64 v.de, .int .i64 v.fe, .int .i64 v.pr, .int .i64 v.ch, .int .i64 v.un, .int .i64 v.tg, .int .i64 v.ow, .int .i64 v.bp] 27 := hU.keep (HR6.out.next hb) (by omega)
    have r13 : w5.cell? ⟨w.heap.size + 1, 0, none⟩ = some (.int .i64 0) := hU.blk.cell 0
    have HB7 : Below w.heap.size w w5 := hU.bel _ _ (by omega) (bel_step HB6.out hb)
    have r0 : w5.cell? ⟨w.heap.size, 0, none⟩ = some (.int .i64 v.kd) := HR7.cell 0
    have r1 : w5.cell? ⟨w.heap.size, 1, none⟩ = some (.int .i64 v.me) := HR7.cell 1
    have r2 : w5.cell? ⟨w.heap.size, 2, none⟩ = some (.int .i64 v.mo) := HR7.cell 2
    have r3 : w5.cell? ⟨w.heap.size, 3, none⟩ = some (.int .i64 v.id) := HR7.cell 3
    have r4 : w5.cell? ⟨w.heap.size, 4, none⟩ = some (.int .i64 v.te) := HR7.cell 4
    have r5 : w5.cell? ⟨w.heap.size, 5, none⟩ = some (.int .i64 v.de) := HR7.cell 5
    have r6 : w5.cell? ⟨w.heap.size, 6, none⟩ = some (.int .i64 v.fe) := HR7.cell 6
    have r7 : w5.cell? ⟨w.heap.size, 7, none⟩ = some (.int .i64 v.pr) := HR7.cell 7
    have r8 : w5.cell? ⟨w.heap.size, 8, none⟩ = some (.int .i64 v.ch) := HR7.cell 8
    have r9 : w5.cell? ⟨w.heap.size, 9, none⟩ = some (.int .i64 v.un) := HR7.cell 9
    have r10 : w5.cell? ⟨w.heap.size, 10, none⟩ = some (.int .i64 v.tg) := HR7.cell 10
    have r11 : w5.cell? ⟨w.heap.size, 11, none⟩ = some (.int .i64 v.ow) := HR7.cell 11
    have r12 : w5.cell? ⟨w.heap.size, 12, none⟩ = some (.int .i64 v.bp) := HR7.cell 12
    show Leaves _ _ _ _ [] (settle u') w5
    rw [hs]
    refine ⟨.tuple #[.agg #[.int .i64 v.kd, .int .i64 v.me, .int .i64 v.mo, .int .i64 v.id, .int .i64 v.te, .int .i64 v.de, .int .i64 v.fe, .int .i64 v.pr, .int .i64 v.ch, .int .i64 v.un, .int .i64 v.tg, .int .i64 v.ow, .int .i64 v.bp], .int .i64 0], by simp [results, Try.results13, r0, r1, r2, r3, r4, r5, r6, r7, r8, r9, r10, r11, r12, r13, go_sem], ?_⟩
    exact ⟨v, 0, rfl, .inr (.inr ⟨HLN.out, by rw [← HVE.out]; exact HY.out, HVE.out, rfl⟩), HB7⟩
  · have HN : Hid (¬ EMay v) := hm
    clear hm
    refine leaves_cons (f := 30) (args := #[.pointer (some ⟨w.heap.size + 1, 0, none⟩)]) (by simp) (by simp [go_sem]) ?_
    refine (decode_caught (w.heap.size + 1) 0 5 _ HE4.out).mono ?_
    rintro e u' w5 ⟨rfl, hs, W, hb, hU⟩
    have HR7 : Blk w5 w.heap.size #[.int .i64 0, .int .i64 0, .int .i64 0, .int .i64 0, .int .i64 0, .int .i64 0, .int .i64 0, .int .i64 0, .int .i64 0, .int .i64 0, .int .i64 0, .int .i64 0, .int .i64 0] 27 := hU.keep (HR4.out.next hb) (by omega)
    have r13 : w5.cell? ⟨w.heap.size + 1, 0, none⟩ = some (.int .i64 5) := hU.blk.cell 0
    have HB7 : Below w.heap.size w w5 := hU.bel _ _ (by omega) (bel_step HB4.out hb)
    have r0 : w5.cell? ⟨w.heap.size, 0, none⟩ = some (.int .i64 0) := HR7.cell 0
    have r1 : w5.cell? ⟨w.heap.size, 1, none⟩ = some (.int .i64 0) := HR7.cell 1
    have r2 : w5.cell? ⟨w.heap.size, 2, none⟩ = some (.int .i64 0) := HR7.cell 2
    have r3 : w5.cell? ⟨w.heap.size, 3, none⟩ = some (.int .i64 0) := HR7.cell 3
    have r4 : w5.cell? ⟨w.heap.size, 4, none⟩ = some (.int .i64 0) := HR7.cell 4
    have r5 : w5.cell? ⟨w.heap.size, 5, none⟩ = some (.int .i64 0) := HR7.cell 5
    have r6 : w5.cell? ⟨w.heap.size, 6, none⟩ = some (.int .i64 0) := HR7.cell 6
    have r7 : w5.cell? ⟨w.heap.size, 7, none⟩ = some (.int .i64 0) := HR7.cell 7
    have r8 : w5.cell? ⟨w.heap.size, 8, none⟩ = some (.int .i64 0) := HR7.cell 8
    have r9 : w5.cell? ⟨w.heap.size, 9, none⟩ = some (.int .i64 0) := HR7.cell 9
    have r10 : w5.cell? ⟨w.heap.size, 10, none⟩ = some (.int .i64 0) := HR7.cell 10
    have r11 : w5.cell? ⟨w.heap.size, 11, none⟩ = some (.int .i64 0) := HR7.cell 11
    have r12 : w5.cell? ⟨w.heap.size, 12, none⟩ = some (.int .i64 0) := HR7.cell 12
    show Leaves _ _ _ _ [] (settle u') w5
    rw [hs]
    refine ⟨.tuple #[.agg #[.int .i64 0, .int .i64 0, .int .i64 0, .int .i64 0, .int .i64 0, .int .i64 0, .int .i64 0, .int .i64 0, .int .i64 0, .int .i64 0, .int .i64 0, .int .i64 0, .int .i64 0], .int .i64 5], by simp [results, Try.results13, r0, r1, r2, r3, r4, r5, r6, r7, r8, r9, r10, r11, r12, r13, go_sem], ?_⟩
    exact ⟨ev0, 5, rfl, .inr (.inl ⟨HLN.out, by rw [← HVE.out]; exact HN.out, rfl, rfl⟩), HB7⟩

end Go.Proofs.Ytfhlokjpdkmdjaa.book
