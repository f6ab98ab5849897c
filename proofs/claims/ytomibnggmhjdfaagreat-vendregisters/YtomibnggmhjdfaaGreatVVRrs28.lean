import Derived.Test.YtomibnggmhjdfaaGreatVVRrs27
set_option linter.unusedVariables false
set_option linter.unusedSimpArgs false
namespace Go.Proofs.YtomibnggmhjdfaaGreat
namespace book
open Go.RowKit cell
set_option maxRecDepth 100000
set_option maxHeartbeats 4000000 in
theorem kdec : KDec := by
 intro w a n cap l hr hnil hle hbytes hm
 have hmf : ∀ (fn : Fn) (first cap : Array Value) (w : World), (Instr.makeFunc fn first cap).run Tryz.prog w = .ok (.func fn first cap) w := fun _ _ _ _ => rfl
 have HLN : Hid (l.length = n) := hr.1
 have HR1 : Hid (Blk ((w.alloc (.cells #[.int .i64 0, .int .i64 0, .int .i64 0, .int .i64 0, .int .i64 0, .int .i64 0, .int .i64 0, .int .i64 0, .int .i64 0, .int .i64 0, .int .i64 0, .int .i64 0, .int .i64 0] 71)).alloc (.cells #[.int .i64 0] 30)) w.heap.size #[.int .i64 0, .int .i64 0, .int .i64 0, .int .i64 0, .int .i64 0, .int .i64 0, .int .i64 0, .int .i64 0, .int .i64 0, .int .i64 0, .int .i64 0, .int .i64 0, .int .i64 0] 71) := (Blk.new _ _ _).alloc _
 have HE1 : Hid (Blk ((w.alloc (.cells #[.int .i64 0, .int .i64 0, .int .i64 0, .int .i64 0, .int .i64 0, .int .i64 0, .int .i64 0, .int .i64 0, .int .i64 0, .int .i64 0, .int .i64 0, .int .i64 0, .int .i64 0] 71)).alloc (.cells #[.int .i64 0] 30)) (w.heap.size + 1) #[.int .i64 0] 30) := Blk.new1 _ _ _ _
 have HB1 : Hid (Below w.heap.size w ((w.alloc (.cells #[.int .i64 0, .int .i64 0, .int .i64 0, .int .i64 0, .int .i64 0, .int .i64 0, .int .i64 0, .int .i64 0, .int .i64 0, .int .i64 0, .int .i64 0, .int .i64 0, .int .i64 0] 71)).alloc (.cells #[.int .i64 0] 30))) := ((Below.refl _ _).alloc (Nat.le_refl _) _).alloc (by simp) _
 by_cases hn : n = 13
 case neg =>
  have nn : ((n : Int) != 13) = true := by simp; omega
  have HNL : Hid (l.length ≠ 13) := by show _ ≠ _; rw [HLN.out]; exact hn
  clear hn hr hm
  go_enter_defers Tryz.func50, Tryz.ntmps50
  go_upto_region 2 with fail
  generalize ((w.alloc (.cells #[.int .i64 0, .int .i64 0, .int .i64 0, .int .i64 0, .int .i64 0, .int .i64 0, .int .i64 0, .int .i64 0, .int .i64 0, .int .i64 0, .int .i64 0, .int .i64 0, .int .i64 0] 71)).alloc (.cells #[.int .i64 0] 30)) = W1 at *
  go_wp2_with (first | (refine zql rfl rfl rfl rfl zqu71 (by simp [Value.oneCell']) HR1 rfl ?_) | fail)
  intro W2 hU
  have HR2 : Hid (Blk W2 w.heap.size #[.int .i64 0, .int .i64 0, .int .i64 0, .int .i64 0, .int .i64 0, .int .i64 0, .int .i64 0, .int .i64 0, .int .i64 0, .int .i64 0, .int .i64 0, .int .i64 0, .int .i64 0] 71) := hU.blk
  have HE2 := shK hU HE1 (by omega)
  have HB2 : Hid (Below w.heap.size w W2) := hU.bel _ _ (Nat.le_refl _) HB1.out
  clear hU HR1 HE1 HB1
  go_wp2_with (first | (refine wp_let1 rfl 30 _ _ rfl (w.heap.size + 1) 0 rfl .i64 1 rfl (by kernel_rfl) #[.int .i64 0] 30 HE2.out (by decide) ?_) | fail)
  intro W3 hU
  have HR3 := shK hU HR2 (by omega)
  have r13 : W3.cell? ⟨w.heap.size + 1, 0, none⟩ = some (.int .i64 1) := hU.blk.cell 0
  have HB3 := shV hU HB2 (by omega)
  clear hU
  go_wp2_with fail
  obtain ⟨r0, r1, r2, r3, r4, r5, r6, r7, r8, r9, r10, r11, r12⟩ := scl13 HR3
  show Leaves _ _ _ _ [] .returning W3
  refine ⟨.tuple #[.agg #[.int .i64 0, .int .i64 0, .int .i64 0, .int .i64 0, .int .i64 0, .int .i64 0, .int .i64 0, .int .i64 0, .int .i64 0, .int .i64 0, .int .i64 0, .int .i64 0, .int .i64 0], .int .i64 1], by simp [results, Tryz.results50, r0, r1, r2, r3, r4, r5, r6, r7, r8, r9, r10, r11, r12, r13, go_sem], ?_⟩
  exact ⟨ev0, 1, rfl, .inl ⟨HNL.out, rfl, rfl⟩, HB3.out⟩
 subst hn
 have HEV : Hid (∀ W, Below w.heap.size w W → Calls Tryz.prog 74 #[.slice a 13 cap] W fun e w' => e = .returned (evOf l).v ∧ Below W.heap.size W w') := fun W hB => bevent a cap l W (hr.below hB) hm
 clear hr hm
 obtain ⟨v, hv⟩ : ∃ v, v = evOf l := ⟨_, rfl⟩
 have HVE : Hid (v = evOf l) := hv
 rw [← hv] at HEV
 clear hv
 have HMU : Hid (∀ W, Calls Tryz.prog 63 #[.agg #[.int .i64 v.kd, .int .i64 v.me, .int .i64 v.mo, .int .i64 v.id, .int .i64 v.te, .int .i64 v.de, .int .i64 v.fe, .int .i64 v.pr, .int .i64 v.ch, .int .i64 v.un, .int .i64 v.tg, .int .i64 v.ow, .int .i64 v.bp]] W fun e w' => MustPost W v e w') := fun W => bmust v W
 have nn : (((13 : Nat) : Int) != 13) = false := by decide
 go_enter_defers Tryz.func50, Tryz.ntmps50
 go_upto_region 4 with fail
 generalize ((w.alloc (.cells #[.int .i64 0, .int .i64 0, .int .i64 0, .int .i64 0, .int .i64 0, .int .i64 0, .int .i64 0, .int .i64 0, .int .i64 0, .int .i64 0, .int .i64 0, .int .i64 0, .int .i64 0] 71)).alloc (.cells #[.int .i64 0] 30)) = W1 at *
 have HE := HEV.out W1 HB1.out
 have HE' : Hid (Calls Tryz.prog 74 #[.slice a 13 cap] W1 fun e w' => e = .returned v.v ∧ Below W1.heap.size W1 w') := HE
 clear HE HEV
 go_wp2_with fail
 refine HE'.out.mono ?_
 rintro e W2 ⟨rfl, hb⟩
 have HR2 : Hid (Blk (W2.alloc (.cells #[.int .i64 v.kd, .int .i64 v.me, .int .i64 v.mo, .int .i64 v.id, .int .i64 v.te, .int .i64 v.de, .int .i64 v.fe, .int .i64 v.pr, .int .i64 v.ch, .int .i64 v.un, .int .i64 v.tg, .int .i64 v.ow, .int .i64 v.bp] 71)) w.heap.size #[.int .i64 0, .int .i64 0, .int .i64 0, .int .i64 0, .int .i64 0, .int .i64 0, .int .i64 0, .int .i64 0, .int .i64 0, .int .i64 0, .int .i64 0, .int .i64 0, .int .i64 0] 71) := (HR1.out.next hb).alloc _
 have HE2 : Hid (Blk (W2.alloc (.cells #[.int .i64 v.kd, .int .i64 v.me, .int .i64 v.mo, .int .i64 v.id, .int .i64 v.te, .int .i64 v.de, .int .i64 v.fe, .int .i64 v.pr, .int .i64 v.ch, .int .i64 v.un, .int .i64 v.tg, .int .i64 v.ow, .int .i64 v.bp] 71)) (w.heap.size + 1) #[.int .i64 0] 30) := (HE1.out.next hb).alloc _
 have HT2 : Hid (Blk (W2.alloc (.cells #[.int .i64 v.kd, .int .i64 v.me, .int .i64 v.mo, .int .i64 v.id, .int .i64 v.te, .int .i64 v.de, .int .i64 v.fe, .int .i64 v.pr, .int .i64 v.ch, .int .i64 v.un, .int .i64 v.tg, .int .i64 v.ow, .int .i64 v.bp] 71)) W2.heap.size #[.int .i64 v.kd, .int .i64 v.me, .int .i64 v.mo, .int .i64 v.id, .int .i64 v.te, .int .i64 v.de, .int .i64 v.fe, .int .i64 v.pr, .int .i64 v.ch, .int .i64 v.un, .int .i64 v.tg, .int .i64 v.ow, .int .i64 v.bp] 71) := Blk.new _ _ _
 have HB2 : Hid (Below w.heap.size w (W2.alloc (.cells #[.int .i64 v.kd, .int .i64 v.me, .int .i64 v.mo, .int .i64 v.id, .int .i64 v.te, .int .i64 v.de, .int .i64 v.fe, .int .i64 v.pr, .int .i64 v.ch, .int .i64 v.un, .int .i64 v.tg, .int .i64 v.ow, .int .i64 v.bp] 71))) := (bel_step HB1.out hb).alloc (bel_step HB1.out hb).size _
 have HG2 : Hid (w.heap.size + 1 < W2.heap.size) := (HE1.out.next hb).lt
 clear hb HR1 HE1 HB1 HE'
 unfold Ev.v
 go_upto_region 5 with fail
 generalize (W2.alloc (.cells #[.int .i64 v.kd, .int .i64 v.me, .int .i64 v.mo, .int .i64 v.id, .int .i64 v.te, .int .i64 v.de, .int .i64 v.fe, .int .i64 v.pr, .int .i64 v.ch, .int .i64 v.un, .int .i64 v.tg, .int .i64 v.ow, .int .i64 v.bp] 71)) = W3 at *
 generalize W2.heap.size = g at *
 obtain ⟨c0, c1, c2, c3, c4, c5, c6, c7, c8, c9, c10, c11, c12⟩ := scl13 HT2
 go_wp2_with fail
 refine (HMU.out _).mono ?_
 rintro e W4 ⟨hm, hb⟩
 have HR4 := shN HR2 hb
 have HE4 := shN HE2 hb
 have HT4 := shN HT2 hb
 have HB4 := shB HB2 hb
 clear hb HR2 HE2 HT2 HB2 HMU c0 c1 c2 c3 c4 c5 c6 c7 c8 c9 c10 c11 c12
 rcases hm with ⟨hm, rfl⟩ | ⟨hm, rfl⟩
 ·have HY : Hid (EMay v) := hm
  clear hm
  obtain ⟨c0, c1, c2, c3, c4, c5, c6, c7, c8, c9, c10, c11, c12⟩ := scl13 HT4
  go_wp2_with (first | (refine zql rfl rfl rfl rfl zqu71 (by simp [Value.oneCell']) HR4 rfl ?_) | fail)
  intro W5 hU
  have HR5 : Hid (Blk W5 w.heap.size #[.int .i64 v.kd, .int .i64 v.me, .int .i64 v.mo, .int .i64 v.id, .int .i64 v.te, .int .i64 v.de, .int .i64 v.fe, .int .i64 v.pr, .int .i64 v.ch, .int .i64 v.un, .int .i64 v.tg, .int .i64 v.ow, .int .i64 v.bp] 71) := hU.blk
  have HE5 := shK hU HE4 (by omega)
  have HB5 : Hid (Below w.heap.size w W5) := hU.bel _ _ (Nat.le_refl _) HB4.out
  clear hU HR4 HE4 HB4 HT4 c0 c1 c2 c3 c4 c5 c6 c7 c8 c9 c10 c11 c12
  go_wp2_with (first | (refine wp_let1 rfl 30 _ _ rfl (w.heap.size + 1) 0 rfl .i64 0 rfl (by kernel_rfl) #[.int .i64 0] 30 HE5.out (by decide) ?_) | fail)
  intro W6 hU
  have HR6 := shK hU HR5 (by omega)
  have HE6 : Hid (Blk W6 (w.heap.size + 1) #[.int .i64 0] 30) := hU.blk
  have HB6 := shV hU HB5 (by omega)
  clear hU HR5 HE5 HB5
  go_wp2_with fail
  refine leaves_cons (f := 73) (args := #[.pointer (some ⟨w.heap.size + 1, 0, none⟩)]) (by simp) (by simp [go_sem]) ?_
  refine (decode_idle (w.heap.size + 1) 0 _ HE6.out).mono ?_
  rintro e u' w5 ⟨rfl, hs, W, hb, hU⟩
  have HR7 : Blk w5 w.heap.size #[.int .i64 v.kd, .int .i64 v.me, .int .i64 v.mo, .int .i64 v.id, .int .i64 v.te, .int .i64 v.de, .int .i64 v.fe, .int .i64 v.pr, .int .i64 v.ch, .int .i64 v.un, .int .i64 v.tg, .int .i64 v.ow, .int .i64 v.bp] 71 := hU.keep (HR6.out.next hb) (by omega)
  have r13 : w5.cell? ⟨w.heap.size + 1, 0, none⟩ = some (.int .i64 0) := hU.blk.cell 0
  have HB7 : Below w.heap.size w w5 := hU.bel _ _ (by omega) (bel_step HB6.out hb)
  have r0 : w5.cell? ⟨w.heap.size, 0, none⟩ = some (.int .i64 v.kd) := HR7.cell 0
  have r1 : w5.cell? ⟨w.heap.size, 1, none⟩ = some (.int .i64 v.me) := HR7.cell 1
  have r2 : w5.cell? ⟨w.heap.size, 2, none⟩ = some (.int .i64 v.mo) := HR7.cell 2
  have r3 : w5.cell? ⟨w.heap.size, 3, none⟩ = some (.int .i64 v.id) := HR7.cell 3
  have r4 : w5.cell? ⟨w.heap.size, 4, none⟩ = some (.int .i64 v.te) := HR7.cell 4
  have r5 : w5.cell? ⟨w.heap.size, 5, none⟩ = some (.int .i64 v.de) := HR7.cell 5
  have r6 : w5.cell? ⟨w.heap.size, 6, none⟩ = some (.int .i64 v.fe) := HR7.cell 6
  have r7 : w5.cell? ⟨w.heap.size, 7, none⟩ = some (.int .i64 v.pr) := HR7.cell 7
  have r8 : w5.cell? ⟨w.heap.size, 8, none⟩ = some (.int .i64 v.ch) := HR7.cell 8
  have r9 : w5.cell? ⟨w.heap.size, 9, none⟩ = some (.int .i64 v.un) := HR7.cell 9
  have r10 : w5.cell? ⟨w.heap.size, 10, none⟩ = some (.int .i64 v.tg) := HR7.cell 10
  have r11 : w5.cell? ⟨w.heap.size, 11, none⟩ = some (.int .i64 v.ow) := HR7.cell 11
  have r12 : w5.cell? ⟨w.heap.size, 12, none⟩ = some (.int .i64 v.bp) := HR7.cell 12
  show Leaves _ _ _ _ [] (settle u') w5
  rw [hs]
  refine ⟨.tuple #[.agg #[.int .i64 v.kd, .int .i64 v.me, .int .i64 v.mo, .int .i64 v.id, .int .i64 v.te, .int .i64 v.de, .int .i64 v.fe, .int .i64 v.pr, .int .i64 v.ch, .int .i64 v.un, .int .i64 v.tg, .int .i64 v.ow, .int .i64 v.bp], .int .i64 0], by simp [results, Tryz.results50, r0, r1, r2, r3, r4, r5, r6, r7, r8, r9, r10, r11, r12, r13, go_sem], ?_⟩
  exact ⟨v, 0, rfl, .inr (.inr ⟨HLN.out, by rw [← HVE.out]; exact HY.out, HVE.out, rfl⟩), HB7⟩
 ·have HN : Hid (¬ EMay v) := hm
  clear hm
  refine leaves_cons (f := 73) (args := #[.pointer (some ⟨w.heap.size + 1, 0, none⟩)]) (by simp) (by simp [go_sem]) ?_
  refine (decode_caught (w.heap.size + 1) 0 5 _ HE4.out).mono ?_
  rintro e u' w5 ⟨rfl, hs, W, hb, hU⟩
  have HR7 : Blk w5 w.heap.size #[.int .i64 0, .int .i64 0, .int .i64 0, .int .i64 0, .int .i64 0, .int .i64 0, .int .i64 0, .int .i64 0, .int .i64 0, .int .i64 0, .int .i64 0, .int .i64 0, .int .i64 0] 71 := hU.keep (HR4.out.next hb) (by omega)
  have r13 : w5.cell? ⟨w.heap.size + 1, 0, none⟩ = some (.int .i64 5) := hU.blk.cell 0
  have HB7 : Below w.heap.size w w5 := hU.bel _ _ (by omega) (bel_step HB4.out hb)
  have r0 : w5.cell? ⟨w.heap.size, 0, none⟩ = some (.int .i64 0) := HR7.cell 0
  have r1 : w5.cell? ⟨w.heap.size, 1, none⟩ = some (.int .i64 0) := HR7.cell 1
  have r2 : w5.cell? ⟨w.heap.size, 2, none⟩ = some (.int .i64 0) := HR7.cell 2
  have r3 : w5.cell? ⟨w.heap.size, 3, none⟩ = some (.int .i64 0) := HR7.cell 3
  have r4 : w5.cell? ⟨w.heap.size, 4, none⟩ = some (.int .i64 0) := HR7.cell 4
  have r5 : w5.cell? ⟨w.heap.size, 5, none⟩ = some (.int .i64 0) := HR7.cell 5
  have r6 : w5.cell? ⟨w.heap.size, 6, none⟩ = some (.int .i64 0) := HR7.cell 6
  have r7 : w5.cell? ⟨w.heap.size, 7, none⟩ = some (.int .i64 0) := HR7.cell 7
  have r8 : w5.cell? ⟨w.heap.size, 8, none⟩ = some (.int .i64 0) := HR7.cell 8
  have r9 : w5.cell? ⟨w.heap.size, 9, none⟩ = some (.int .i64 0) := HR7.cell 9
  have r10 : w5.cell? ⟨w.heap.size, 10, none⟩ = some (.int .i64 0) := HR7.cell 10
  have r11 : w5.cell? ⟨w.heap.size, 11, none⟩ = some (.int .i64 0) := HR7.cell 11
  have r12 : w5.cell? ⟨w.heap.size, 12, none⟩ = some (.int .i64 0) := HR7.cell 12
  show Leaves _ _ _ _ [] (settle u') w5
  rw [hs]
  refine ⟨.tuple #[.agg #[.int .i64 0, .int .i64 0, .int .i64 0, .int .i64 0, .int .i64 0, .int .i64 0, .int .i64 0, .int .i64 0, .int .i64 0, .int .i64 0, .int .i64 0, .int .i64 0, .int .i64 0], .int .i64 5], by simp [results, Tryz.results50, r0, r1, r2, r3, r4, r5, r6, r7, r8, r9, r10, r11, r12, r13, go_sem], ?_⟩
  exact ⟨ev0, 5, rfl, .inr (.inl ⟨HLN.out, by rw [← HVE.out]; exact HN.out, rfl, rfl⟩), HB7⟩
end book
namespace vnd
open disk (RepIs AppIs)
open book (Ev ev0 EMay evL evOf EncIs DecIs Cm cm0 So so0 BookIs Sees ECame FirstAt NoneAt)
open acc (Ac Tm Bi TCame ACame)
open cell (Wr RowU)
open Go.RowKit
set_option maxRecDepth 100000
theorem info_ev : ∃ i, Tryz.prog.info? 71 = some i ∧ i.zero = some (.agg #[.int .i64 0, .int .i64 0, .int .i64 0, .int .i64 0, .int .i64 0, .int .i64 0, .int .i64 0, .int .i64 0, .int .i64 0, .int .i64 0, .int .i64 0, .int .i64 0, .int .i64 0]) ∧ i.size = 13 ∧ i.bytes = 104 := info_parts (by kernel_rfl)
theorem make_ev (N : Nat) (h : N ≤ 100000) (w : World) : (Instr.makeSlice 51 (.int .i64 0) (.int .i64 (N : Int))).run Tryz.prog w = .ok (.slice (some ⟨w.heap.size, 0, none⟩) 0 N) (w.alloc (.cells (madeCells (Value.agg #[.int .i64 0, .int .i64 0, .int .i64 0, .int .i64 0, .int .i64 0, .int .i64 0, .int .i64 0, .int .i64 0, .int .i64 0, .int .i64 0, .int .i64 0, .int .i64 0, .int .i64 0]).cells (N * 13)) 71)) := by
 obtain ⟨i0, hi, hz0, hz1, hz2⟩ := info_ev
 have := run_make (P := Tryz.prog) w 51 71 i0 (.agg #[.int .i64 0, .int .i64 0, .int .i64 0, .int .i64 0, .int .i64 0, .int .i64 0, .int .i64 0, .int .i64 0, .int .i64 0, .int .i64 0, .int .i64 0, .int .i64 0, .int .i64 0]) Tryz.underlying51 hi hz0 .i64 .i64 0 (N : Int) (by omega) (by omega) (by rw [hz2]; omega) (by omega)
 rw [hz1, show (N : Int).toNat = N by omega] at this
 exact this
set_option maxHeartbeats 4000000 in
theorem pevents (a : Option Addr) (n cap : Nat) (c : List Int) (w : World) (h : Dk w a n cap c) : Calls Tryz.prog 30 #[.slice a n cap] w fun e w' => KeptPost w c e w' := by
 have HRE : Hid (Calls Tryz.prog 49 #[.slice a n cap] w fun e w' => disk.RepNew w c e w') := disk.kreplay w a n cap c h.row h.nil h.room h.bytes h.wd
 have HW : Hid (∀ x ∈ c, 0 ≤ x ∧ x < 4294967296) := h.wd
 clear h
 go_enter Tryz.func30, Tryz.ntmps30
 go_wp2_with fail
 refine HRE.out.mono ?_
 rintro e w1 ⟨ra, N, rc, o, x, f, rfl, hrd, hn, hri, hb1⟩
 have HB1 : Hid (Below w.heap.size w w1) := hb1
 have HRI : Hid (RepIs c o x f) := hri
 have HRD : Hid (disk.ReadsF w1 w.heap.size ra N o) := hrd
 have HOL : Hid (o.length = N) := hrd.1
 have hol : N ≤ 2048 := by rw [← hrd.1]; exact rep_len hri
 clear hrd hri hb1 HRE hn
 by_cases h0 : f = 0
 ·subst h0
  have hmk := make_ev N (by omega) w1
  have HL0 : Hid (book.Le (w1.alloc (.cells (madeCells (Value.agg #[.int .i64 0, .int .i64 0, .int .i64 0, .int .i64 0, .int .i64 0, .int .i64 0, .int .i64 0, .int .i64 0, .int .i64 0, .int .i64 0, .int .i64 0, .int .i64 0, .int .i64 0]).cells (N * 13)) 71)) w1.heap.size (.slice (some ⟨w1.heap.size, 0, none⟩) 0 N) []) := World.ownsRow_made w1 _ N (Nat.le_refl _) (by unfold maxLen; omega) (size_madeCells _ _)
  have HB0 : Hid (Below w1.heap.size w1 (w1.alloc (.cells (madeCells (Value.agg #[.int .i64 0, .int .i64 0, .int .i64 0, .int .i64 0, .int .i64 0, .int .i64 0, .int .i64 0, .int .i64 0, .int .i64 0, .int .i64 0, .int .i64 0, .int .i64 0, .int .i64 0]).cells (N * 13)) 71))) := (Below.refl _ _).alloc (Nat.le_refl _) _
  generalize (w1.alloc (.cells (madeCells (Value.agg #[.int .i64 0, .int .i64 0, .int .i64 0, .int .i64 0, .int .i64 0, .int .i64 0, .int .i64 0, .int .i64 0, .int .i64 0, .int .i64 0, .int .i64 0, .int .i64 0, .int .i64 0]).cells (N * 13)) 71)) = W0 at *
  go_wp2_with fail
  clear hmk
  go_loopw [7, 26] (fun u z wr => ∃ (k : Nat) (U : Value), k ≤ N ∧ z = .int .i64 (k : Int) ∧ U = u ∧ book.Le wr w1.heap.size U ((o.take k).map evOf) ∧ (∀ j, j < k → DecOk (o.getD j [])) ∧ Below w1.heap.size w1 wr) (fun _ z _ => N - (intOf z).toNat)
  case atStart => exact ⟨0, _, Nat.zero_le _, rfl, rfl, HL0.out, (fun j hj => absurd hj (Nat.not_lt_zero _)), HB0.out⟩
  case round =>
   obtain ⟨k, U, hk, rfl, hU, hle, hok, hb⟩ := hrel
   subst hU
   have HLE : Hid (book.Le wr w1.heap.size U ((o.take k).map evOf)) := hle
   have HOK : Hid (∀ j, j < k → DecOk (o.getD j [])) := hok
   have HBR : Hid (Below w1.heap.size w1 wr) := hb
   clear HL0 HB0
   by_cases hlt : k < N
   ·have hdl : decide ((k : Int) < (N : Int)) = true := by simp; omega
    have hko : k < o.length := by rw [HOL.out]; exact hlt
    obtain ⟨g, off, rfl, _, hgl, hgc⟩ := HRD.out.2.resolve_left (by omega)
    obtain ⟨s, h1, h2, h3, _⟩ := hgc k hlt
    have ck : wr.cell? ⟨g, off + k, none⟩ = some (.slice s.a s.n s.c) := (hb.cell (p := ⟨g, off + k, none⟩) hgl).trans h1
    have HDE : Hid (Calls Tryz.prog 50 #[.slice s.a s.n s.c] wr fun e w' => book.DecGot wr (o.getD k []) e w') := book.kdec wr s.a s.n s.c _ (h2.below hb) h3.2.2 h3.2.1 (by have := h3.1; omega) (fun y hy => HW.out y (rep_in HRI.out _ (getD_inR hko) y hy))
    clear hle hok hb hgc h1 h2 h3
    generalize s.a = sa at *
    generalize s.n = sn at *
    generalize s.c = sc at *
    have HTK : Hid ((o.take k).map evOf ++ [evOf (o.getD k [])] = (o.take (k + 1)).map evOf) := take_mapE o k hko
    have hzl : ((o.take k).map evOf).length ≤ 1000000 := by rw [List.length_map, List.length_take]; omega
    generalize (o.take k).map evOf = Z at *
    go_wp2_with fail
    refine HDE.out.mono ?_
    rintro e w2 ⟨v, f2, rfl, hd, hb2⟩
    unfold book.Ev.v
    have HX : Hid (Blk (w2.alloc (.cells #[.int .i64 v.kd, .int .i64 v.me, .int .i64 v.mo, .int .i64 v.id, .int .i64 v.te, .int .i64 v.de, .int .i64 v.fe, .int .i64 v.pr, .int .i64 v.ch, .int .i64 v.un, .int .i64 v.tg, .int .i64 v.ow, .int .i64 v.bp] 71)) w2.heap.size #[.int .i64 v.kd, .int .i64 v.me, .int .i64 v.mo, .int .i64 v.id, .int .i64 v.te, .int .i64 v.de, .int .i64 v.fe, .int .i64 v.pr, .int .i64 v.ch, .int .i64 v.un, .int .i64 v.tg, .int .i64 v.ow, .int .i64 v.bp] 71) := Blk.new w2 _ _
    have HBX : Hid (Below w1.heap.size w1 (w2.alloc (.cells #[.int .i64 v.kd, .int .i64 v.me, .int .i64 v.mo, .int .i64 v.id, .int .i64 v.te, .int .i64 v.de, .int .i64 v.fe, .int .i64 v.pr, .int .i64 v.ch, .int .i64 v.un, .int .i64 v.tg, .int .i64 v.ow, .int .i64 v.bp] 71))) := (HBR.out.trans (hb2.mono HBR.out.size)).alloc (Nat.le_trans HBR.out.size hb2.size) _
    have HLX : Hid (book.Le (w2.alloc (.cells #[.int .i64 v.kd, .int .i64 v.me, .int .i64 v.mo, .int .i64 v.id, .int .i64 v.te, .int .i64 v.de, .int .i64 v.fe, .int .i64 v.pr, .int .i64 v.ch, .int .i64 v.un, .int .i64 v.tg, .int .i64 v.ow, .int .i64 v.bp] 71)) w1.heap.size U Z) := (HLE.out.next hb2).alloc _
    have HD : Hid (DecIs (o.getD k []) v f2) := hd
    have hsx : w2.heap.size < (w2.alloc (.cells #[.int .i64 v.kd, .int .i64 v.me, .int .i64 v.mo, .int .i64 v.id, .int .i64 v.te, .int .i64 v.de, .int .i64 v.fe, .int .i64 v.pr, .int .i64 v.ch, .int .i64 v.un, .int .i64 v.tg, .int .i64 v.ow, .int .i64 v.bp] 71)).heap.size := (Blk.new w2 #[.int .i64 v.kd, .int .i64 v.me, .int .i64 v.mo, .int .i64 v.id, .int .i64 v.te, .int .i64 v.de, .int .i64 v.fe, .int .i64 v.pr, .int .i64 v.ch, .int .i64 v.un, .int .i64 v.tg, .int .i64 v.ow, .int .i64 v.bp] 71).lt
    clear hd hb2 HDE HLE HBR ck
    go_upto_region 9 with fail
    generalize (w2.alloc (.cells #[.int .i64 v.kd, .int .i64 v.me, .int .i64 v.mo, .int .i64 v.id, .int .i64 v.te, .int .i64 v.de, .int .i64 v.fe, .int .i64 v.pr, .int .i64 v.ch, .int .i64 v.un, .int .i64 v.tg, .int .i64 v.ow, .int .i64 v.bp] 71)) = W3 at *
    generalize w2.heap.size = gx at *
    by_cases h2 : f2 = 0
    ·subst h2
     obtain ⟨hdk, hve⟩ := dec_ok HD.out
     have HV : Hid (evOf (o.getD k []) = v) := hve.symm
     have HOK2 : Hid (∀ j, j < k + 1 → DecOk (o.getD j [])) := fun j hj => by
      by_cases e : j = k
      ·subst e; exact hdk
      ·exact HOK.out j (by omega)
     have HBK : Hid (Blk (W3.alloc (.cells #[.int .i64 v.kd, .int .i64 v.me, .int .i64 v.mo, .int .i64 v.id, .int .i64 v.te, .int .i64 v.de, .int .i64 v.fe, .int .i64 v.pr, .int .i64 v.ch, .int .i64 v.un, .int .i64 v.tg, .int .i64 v.ow, .int .i64 v.bp] 71)) W3.heap.size v.cl.toArray 71) := Blk.new W3 _ _
     have HLA : Hid (book.Le (W3.alloc (.cells #[.int .i64 v.kd, .int .i64 v.me, .int .i64 v.mo, .int .i64 v.id, .int .i64 v.te, .int .i64 v.de, .int .i64 v.fe, .int .i64 v.pr, .int .i64 v.ch, .int .i64 v.un, .int .i64 v.tg, .int .i64 v.ow, .int .i64 v.bp] 71)) w1.heap.size U Z) := HLX.out.alloc _
     have HBA : Hid (Below w1.heap.size w1 (W3.alloc (.cells #[.int .i64 v.kd, .int .i64 v.me, .int .i64 v.mo, .int .i64 v.id, .int .i64 v.te, .int .i64 v.de, .int .i64 v.fe, .int .i64 v.pr, .int .i64 v.ch, .int .i64 v.un, .int .i64 v.tg, .int .i64 v.ow, .int .i64 v.bp] 71))) := HBX.out.alloc HBX.out.size _
     clear hdk hve HD HOK
     go_wp2_with (first
      | (refine zqw rfl rfl rfl HX zqu71 ?_)
      | (at_builtin; refine book.wp_ev rfl _ _ rfl w1.heap.size W3.heap.size U Z v rfl rfl HLA.out HBK.out hzl HBA.out.size ?_)
      | fail)
     intro v3 w3 h3 hg3
     have HB3 : Hid (Below w1.heap.size w1 w3) := tar.own_bel HLA.out hg3 HBA.out (Nat.le_refl _) HBA.out.size
     have H3 : Hid (book.Le w3 w1.heap.size v3 (Z ++ [v])) := h3
     clear h3 hg3 HLA HBA HBK HX HLX HBX
     go_wp2_with fail
     go_roundw
     case rel => exact ⟨k + 1, v3, by omega, by go_num, by first | rfl | trivial, by rw [← HTK.out, HV.out]; exact H3.out, HOK2.out, HB3.out⟩
     case measure => simp [intOf]; omega
    ·have d2 : (f2 != 0) = true := by simpa using h2
     have HK : Hid (KeptIs c [] f2) := ⟨o, x, 0, HRI.out, .inr (.inr ⟨rfl, h2, rfl, k, hko, HOK.out, by have := dec_no HD.out h2; rw [← this]; exact HD.out⟩)⟩
     have HBF : Hid (Below w.heap.size w W3) := HB1.out.trans (HBX.out.mono HB1.out.size)
     clear h2 HD HOK
     go_wp2_with fail
     go_ret2
     exact ⟨none, 0, 0, [], f2, rfl, HK.out, ecame_nil _, Nat.zero_le _, HBF.out⟩
   ·obtain rfl : k = N := by omega
    have hdl : decide ((k : Int) < (k : Int)) = false := by simp
    have HTA : Hid (o.take k = o) := List.take_of_length_le (by rw [HOL.out]; exact Nat.le_refl _)
    have HK : Hid (KeptIs c (o.map evOf) 0) := ⟨o, x, 0, HRI.out, .inr (.inl ⟨rfl, fun j hj => HOK.out j (by rw [← HOL.out]; exact hj), rfl, rfl⟩)⟩
    have hwf : ∀ v ∈ o.map evOf, book.wf13 v := fun v hv => by
     obtain ⟨z, hz, rfl⟩ := List.mem_map.1 hv
     obtain ⟨j, hj, rfl⟩ := List.mem_iff_getElem.1 hz
     have e : o.getD j [] = o[j] := by simp [List.getD, List.getElem?_eq_getElem hj]
     have := HOK.out j (by rw [← HOL.out]; exact hj)
     rw [e] at this
     exact book.wf_may this.2
    have hl2 := HLE.out
    rw [HTA.out] at hl2
    obtain ⟨pz, cz, hvz, hcz⟩ := hl2.came (by rw [List.length_map, HOL.out]; omega) hwf
    have hlen : (o.map evOf).length = k := by rw [List.length_map]; exact HOL.out
    rw [hlen] at hvz hcz
    subst hvz
    have HCZ : Hid (ECame wr pz k cz (o.map evOf)) := hcz
    have HBF : Hid (Below w.heap.size w wr) := HB1.out.trans (HBR.out.mono HB1.out.size)
    clear hle hok hb hl2 hcz hwf hlen HLE HOK HTA
    go_wp2_with fail
    go_ret2
    exact ⟨pz, k, cz, _, 0, rfl, HK.out, HCZ.out, hol, HBF.out⟩
 ·have d0 : (f != 0) = true := by simpa using h0
  have HK : Hid (KeptIs c [] f) := ⟨o, x, f, HRI.out, .inl ⟨h0, rfl, rfl⟩⟩
  clear h0
  go_wp2_with fail
  go_ret2
  exact ⟨none, 0, 0, [], f, rfl, HK.out, ecame_nil _, Nat.zero_le _, HB1.out⟩
open disk (May repD lenAt appW)
open book (Tells billOf soldOf StepIs HapIs)
open acc (SellIs GrantIs RekeyIs OweIs)
theorem book_ok {t : Tm} {l : List Ev} {bk : List Cm} {a : Int} (h : BookIs t l bk a 0) : acc.TRight t ∧ l.length ≤ 120 ∧ a = 0 ∧ ∃ st : Nat → List Cm, st 0 = [] ∧ (∀ i, i < l.length → StepIs t (st i) (l.getD i ev0) (st (i + 1)) 0) ∧ bk = st l.length := by
 rcases h with ⟨_, p, _⟩ | ⟨_, _, _, _, p⟩ | ⟨p, q, k, st, s0, s1, ⟨rfl, s2, s3, _⟩ | ⟨_, _, s2, _⟩⟩
 ·exact absurd rfl p
 ·cases p
 ·exact ⟨p, q, s3, st, s0, s1, s2⟩
 ·exact absurd rfl s2
end vnd
namespace book
open Go.RowKit
open Go.ChangeMaps (setBlock heap_setBlock_same heap_setBlock_other)
set_option maxRecDepth 100000
def entI (m : Int) (i : Nat) : MapEntry := { key := .int .i64 m, val := .int .i64 (i : Int), born := i }
def entsI : List Int → Nat → List MapEntry
 | [], _ => []
 | p :: l, i => entI p i :: entsI l (i + 1)
theorem entsI_app (l : List Int) (p : Int) (i : Nat) : entsI (l ++ [p]) i = entsI l i ++ [entI p (i + l.length)] := by
 induction l generalizing i with
 | nil => rfl
 | cons x l ih => simp only [List.cons_append, entsI, ih, List.length_cons]; rw [show i + 1 + l.length = i + (l.length + 1) by omega]
def MpI (w : World) (B : Nat) (l : List Int) : Prop := w.heap[B]? = some (.map (entsI l 0).toArray l.length)
theorem MpI.lt {w : World} {B : Nat} {l : List Int} (h : MpI w B l) : B < w.heap.size := by
 unfold MpI at h
 by_cases hh : B < w.heap.size
 ·exact hh
 ·rw [Array.getElem?_eq_none (by omega)] at h; cases h
theorem MpI.below {w w' : World} {B : Nat} {l : List Int} (h : MpI w B l) (hb : Below w.heap.size w w') : MpI w' B l := by
 have hl := h.lt
 unfold MpI at *; rw [hb.block B hl]; exact h
theorem MpI.upd {w W : World} {B g : Nat} {cs : Array Value} {t : TypeId} {l : List Int} (h : MpI w B l) (hU : Upd w W g cs t) (hne : B ≠ g) : MpI W B l := by
 unfold MpI at *; rw [hU.oth B hne]; exact h
theorem MpI.new (w : World) : MpI (w.alloc (.map #[] 0)) w.heap.size [] := by
 show (w.heap.push _)[w.heap.size]? = _
 rw [Array.getElem?_push_size]; rfl
def firstI : List Int → Int → Option Nat
 | [], _ => none
 | m :: l, x => if x = m then some 0 else (firstI l x).map (· + 1)
theorem findingI (x : Int) : ∀ (l : List Int) (i j : Nat), Instr.findNow (.int .i64) (.int .i64 x) (entsI l i) j = some ((firstI l x).map fun k => (j + k, Value.int .i64 ((i + k : Nat) : Int)))
 | [], i, j => rfl
 | m :: l, i, j => by
  have ih := findingI x l (i + 1) (j + 1)
  unfold firstI
  by_cases h : x = m
  ·subst h
   simp [entsI, entI, Instr.findNow, Instr.sameNow]
  ·have hb : (x == m) = false := by simpa using h
   rw [if_neg h]
   simp only [entsI, entI, Instr.findNow, Instr.sameNow, if_true, hb]
   rw [ih]
   cases firstI l x with
   | none => rfl
   | some k => simp [show j + 1 + k = j + (k + 1) by omega, show i + 1 + k = i + (k + 1) by omega]; omega
theorem zintI (w : World) : (zeroValue 3).run Tryz.prog w = .ok (.int .i64 0) w := by kernel_rfl
theorem chkI (em : Bool) (x : Int) (w : World) : (Instr.checkKey em 10000 3 (.int .i64 x)).run Tryz.prog w = .ok () w := by kernel_rfl
theorem keyI (x : Int) (l : List Int) (w : World) : (Instr.findKey 3 (.int .i64 x) (entsI l 0)).run Tryz.prog w = .ok ((firstI l x).map fun k => (k, Value.int .i64 (k : Int))) w := by
 have h := findingI x l 0 0
 simp only [Nat.zero_add] at h
 simp [Instr.findKey, run_underlying Tryz.underlying3, Sem.run_bind, h]
theorem lookI_run {w : World} {B : Nat} {l : List Int} (h : MpI w B l) (x : Int) :
  (Instr.lookup 104 (.map (some B)) (.int .i64 x) true).run Tryz.prog w = .ok (.tuple #[.int .i64 (((firstI l x).getD 0 : Nat) : Int), .bool (firstI l x).isSome]) w := by
 have hf := keyI x l w
 cases hl : firstI l x with
 | none => rw [hl] at hf; simp [Instr.lookup, run_underlying Tryz.underlying104, MapKept.run_getObj_map h, chkI, hf, zintI, Result.andThen, Sem.run_bind]
 | some k => rw [hl] at hf; simp [Instr.lookup, run_underlying Tryz.underlying104, MapKept.run_getObj_map h, chkI, hf, Result.andThen, Sem.run_bind]
theorem updI_run {w : World} {B : Nat} {l : List Int} (h : MpI w B l) (x : Int) (hn : firstI l x = none) :
  ∃ W, (Instr.mapUpdate 104 (.map (some B)) (.int .i64 x) (.int .i64 (l.length : Int))).run Tryz.prog w = .ok () W ∧ MpI W B (l ++ [x]) ∧ (∀ G, G ≠ B → W.heap[G]? = w.heap[G]?) ∧ (∀ B0 w0, B0 ≤ B → Below B0 w0 w → Below B0 w0 W) ∧ W.heap.size = w.heap.size ∧ w.grownBy W (some B) := by
 have hf := keyI x l w
 rw [hn] at hf
 refine ⟨setBlock w B (.map ((entsI l 0).toArray.push ⟨.int .i64 x, .int .i64 (l.length : Int), l.length⟩) (l.length + 1)), ?_, ?_, fun G hG => heap_setBlock_other h _ hG, fun B0 w0 hB hb => ?_, by simp [setBlock], ⟨rfl, rfl, rfl, by simp [setBlock], fun k hk hne => heap_setBlock_other h _ (fun e => hne (by rw [e]))⟩⟩
 ·simp [Instr.mapUpdate, run_underlying Tryz.underlying104, MapKept.run_getObj_map h, chkI, hf, MapKept.run_setObj_map _ h, Result.andThen, setBlock, Sem.run_bind]
 ·unfold MpI
  rw [heap_setBlock_same h, entsI_app, List.length_append]
  simp [entI]
 ·refine ⟨hb.os, hb.tape, hb.output, by simp [setBlock]; exact hb.size, fun k hk => ?_⟩
  rw [heap_setBlock_other h _ (by omega)]; exact hb.block k hk
theorem mkMapI (w : World) : (Instr.makeMap 104 none).run Tryz.prog w = .ok (.map (some w.heap.size)) (w.alloc (.map #[] 0)) := by kernel_rfl
def mes (bk : List Cm) : List Int := bk.map fun c => c.a.me
theorem mes_len (bk : List Cm) : (mes bk).length = bk.length := by simp [mes]
theorem first_some {bk : List Cm} {x : Int} {k : Nat} (h : firstI (mes bk) x = some k) : FirstAt bk x k := by
 induction bk generalizing k with
 | nil => cases h
 | cons c bk ih =>
  unfold mes firstI at h
  simp only [List.map_cons] at h
  by_cases hx : x = c.a.me
  ·rw [if_pos hx] at h
   cases h
   exact ⟨by simp, hx.symm, fun j hj => absurd hj (Nat.not_lt_zero _)⟩
  ·rw [if_neg hx] at h
   cases hf : firstI (mes bk) x with
   | none => rw [show firstI (List.map (fun c => c.a.me) bk) x = none from hf] at h; cases h
   | some m =>
    rw [show firstI (List.map (fun c => c.a.me) bk) x = some m from hf] at h
    cases h
    have := ih hf
    exact ⟨by have := this.1; simp; omega, this.2.1, fun j hj => by
     cases j with
     | zero => exact fun e => hx e.symm
     | succ j => exact this.2.2 j (by have : j + 1 < m + 1 := hj; omega)⟩
theorem first_none {bk : List Cm} {x : Int} (h : firstI (mes bk) x = none) : NoneAt bk x := by
 induction bk with
 | nil => intro j hj; cases hj
 | cons c bk ih =>
  unfold mes firstI at h
  simp only [List.map_cons] at h
  by_cases hx : x = c.a.me
  ·rw [if_pos hx] at h; cases h
  ·rw [if_neg hx] at h
   have hf : firstI (mes bk) x = none := by
    cases hf : firstI (mes bk) x with
    | none => rfl
    | some m => rw [show firstI (List.map (fun c => c.a.me) bk) x = some m from hf] at h; cases h
   intro j hj
   cases j with
   | zero => exact fun e => hx e.symm
   | succ j => exact ih hf j (by simpa using hj)
theorem mes_set {bk : List Cm} {k : Nat} {c : Cm} (h : c.a.me = (bk.getD k cm0).a.me) : mes (bk.set k c) = mes bk := by
 unfold mes
 apply List.ext_getElem?
 intro j
 simp only [List.getElem?_map, List.getElem?_set]
 by_cases hj : k = j
 ·subst hj
  rw [if_pos rfl]
  by_cases hl : k < bk.length
  ·rw [if_pos hl, List.getElem?_eq_getElem hl]
   simp only [Option.map_some, h, List.getD, List.getElem?_eq_getElem hl, Option.getD]
  ·rw [if_neg hl, List.getElem?_eq_none (by omega)]
 ·rw [if_neg hj]
end book
end Go.Proofs.YtomibnggmhjdfaaGreat
