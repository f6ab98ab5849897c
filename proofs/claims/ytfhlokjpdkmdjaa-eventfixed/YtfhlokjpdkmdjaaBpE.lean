/- book.Encode. -/
import Derived.Test.YtfhlokjpdkmdjaaBpM
import Derived.Test.YtfhlokjpdkmdjaaBpX
import Derived.Test.YtfhlokjpdkmdjaaKbE
import Derived.Test.YtfhlokjpdkmdjaaLet
import Derived.Defers
import Derived.Recover
import Derived.Deep.DeepCutAuto
namespace Go.Proofs.Ytfhlokjpdkmdjaa.book
open Go.RowKit Go.Proofs.Ytfhlokjpdkmdjaa.cell
set_option maxRecDepth 100000
set_option linter.unusedVariables false
set_option linter.unusedSimpArgs false

theorem ws_upd {w W : World} {base g : Nat} {cs : Array Value} {t : TypeId} {v : Value} {l : List Int} (h : Ws w base v l) (hU : Upd w W g cs t) (hg : g < base) : Ws W base v l := by
  refine ⟨h.1, ?_⟩
  rcases h.2 with hn | ⟨g', cap, cur, hv, hb, hc, rest⟩
  · exact .inl hn
  · exact .inr ⟨g', cap, cur, hv, hb, by rw [hU.oth g' (by omega)]; exact hc, rest⟩
set_option maxHeartbeats 4000000 in
theorem kenc : KEnc := by
  intro w v hwf
  clear hwf
  unfold Ev.v
  have hmf : ∀ (fn : Fn) (first cap : Array Value) (w : World), (Instr.makeFunc fn first cap).run Try.prog w = .ok (.func fn first cap) w := fun _ _ _ _ => rfl
  have HMU : Hid (∀ W, Calls Try.prog 27 #[.agg #[.int .i64 v.kd, .int .i64 v.me, .int .i64 v.mo, .int .i64 v.id, .int .i64 v.te, .int .i64 v.de, .int .i64 v.fe, .int .i64 v.pr, .int .i64 v.ch, .int .i64 v.un, .int .i64 v.tg, .int .i64 v.ow, .int .i64 v.bp]] W fun e w' => MustPost W v e w') := fun W => bmust v W
  have HWO : Hid (EMay v → ∀ W, Calls Try.prog 28 #[.agg #[.int .i64 v.kd, .int .i64 v.me, .int .i64 v.mo, .int .i64 v.id, .int .i64 v.te, .int .i64 v.de, .int .i64 v.fe, .int .i64 v.pr, .int .i64 v.ch, .int .i64 v.un, .int .i64 v.tg, .int .i64 v.ow, .int .i64 v.bp]] W fun e w' => ∃ V, e = .returned V ∧ Ws w' W.heap.size V (evL v) ∧ Below W.heap.size W w') := fun hm W => bwords v (may_word hm) W
  have HX1 : Hid (Blk ((w.alloc (.cells #[.int .i64 v.kd, .int .i64 v.me, .int .i64 v.mo, .int .i64 v.id, .int .i64 v.te, .int .i64 v.de, .int .i64 v.fe, .int .i64 v.pr, .int .i64 v.ch, .int .i64 v.un, .int .i64 v.tg, .int .i64 v.ow, .int .i64 v.bp] 27)).alloc (.cells #[.int .i64 0] 29)) w.heap.size #[.int .i64 v.kd, .int .i64 v.me, .int .i64 v.mo, .int .i64 v.id, .int .i64 v.te, .int .i64 v.de, .int .i64 v.fe, .int .i64 v.pr, .int .i64 v.ch, .int .i64 v.un, .int .i64 v.tg, .int .i64 v.ow, .int .i64 v.bp] 27) := (Blk.new _ _ _).alloc _
  have HE1 : Hid (Blk ((w.alloc (.cells #[.int .i64 v.kd, .int .i64 v.me, .int .i64 v.mo, .int .i64 v.id, .int .i64 v.te, .int .i64 v.de, .int .i64 v.fe, .int .i64 v.pr, .int .i64 v.ch, .int .i64 v.un, .int .i64 v.tg, .int .i64 v.ow, .int .i64 v.bp] 27)).alloc (.cells #[.int .i64 0] 29)) (w.heap.size + 1) #[.int .i64 0] 29) := Blk.new1 _ _ _ _
  have HB1 : Hid (Below w.heap.size w ((w.alloc (.cells #[.int .i64 v.kd, .int .i64 v.me, .int .i64 v.mo, .int .i64 v.id, .int .i64 v.te, .int .i64 v.de, .int .i64 v.fe, .int .i64 v.pr, .int .i64 v.ch, .int .i64 v.un, .int .i64 v.tg, .int .i64 v.ow, .int .i64 v.bp] 27)).alloc (.cells #[.int .i64 0] 29))) := ((Below.refl _ _).alloc (Nat.le_refl _) _).alloc (by simp) _
  go_enter_defers Try.func9, Try.ntmps9
  go_upto_region 2 with fail
  generalize ((w.alloc (.cells #[.int .i64 v.kd, .int .i64 v.me, .int .i64 v.mo, .int .i64 v.id, .int .i64 v.te, .int .i64 v.de, .int .i64 v.fe, .int .i64 v.pr, .int .i64 v.ch, .int .i64 v.un, .int .i64 v.tg, .int .i64 v.ow, .int .i64 v.bp] 27)).alloc (.cells #[.int .i64 0] 29)) = W1 at *
  have c0 : W1.cell? ⟨w.heap.size, 0, none⟩ = some (.int .i64 v.kd) := HX1.out.cell 0
  have c1 : W1.cell? ⟨w.heap.size, 1, none⟩ = some (.int .i64 v.me) := HX1.out.cell 1
  have c2 : W1.cell? ⟨w.heap.size, 2, none⟩ = some (.int .i64 v.mo) := HX1.out.cell 2
  have c3 : W1.cell? ⟨w.heap.size, 3, none⟩ = some (.int .i64 v.id) := HX1.out.cell 3
  have c4 : W1.cell? ⟨w.heap.size, 4, none⟩ = some (.int .i64 v.te) := HX1.out.cell 4
  have c5 : W1.cell? ⟨w.heap.size, 5, none⟩ = some (.int .i64 v.de) := HX1.out.cell 5
  have c6 : W1.cell? ⟨w.heap.size, 6, none⟩ = some (.int .i64 v.fe) := HX1.out.cell 6
  have c7 : W1.cell? ⟨w.heap.size, 7, none⟩ = some (.int .i64 v.pr) := HX1.out.cell 7
  have c8 : W1.cell? ⟨w.heap.size, 8, none⟩ = some (.int .i64 v.ch) := HX1.out.cell 8
  have c9 : W1.cell? ⟨w.heap.size, 9, none⟩ = some (.int .i64 v.un) := HX1.out.cell 9
  have c10 : W1.cell? ⟨w.heap.size, 10, none⟩ = some (.int .i64 v.tg) := HX1.out.cell 10
  have c11 : W1.cell? ⟨w.heap.size, 11, none⟩ = some (.int .i64 v.ow) := HX1.out.cell 11
  have c12 : W1.cell? ⟨w.heap.size, 12, none⟩ = some (.int .i64 v.bp) := HX1.out.cell 12
  go_wp2_with fail
  refine (HMU.out _).mono ?_
  rintro e W2 ⟨hm, hb⟩
  have HX2 : Hid (Blk W2 w.heap.size #[.int .i64 v.kd, .int .i64 v.me, .int .i64 v.mo, .int .i64 v.id, .int .i64 v.te, .int .i64 v.de, .int .i64 v.fe, .int .i64 v.pr, .int .i64 v.ch, .int .i64 v.un, .int .i64 v.tg, .int .i64 v.ow, .int .i64 v.bp] 27) := HX1.out.next hb
  have HE2 : Hid (Blk W2 (w.heap.size + 1) #[.int .i64 0] 29) := HE1.out.next hb
  have HB2 : Hid (Below w.heap.size w W2) := bel_step HB1.out hb
  clear hb HX1 HE1 HB1 HMU c0 c1 c2 c3 c4 c5 c6 c7 c8 c9 c10 c11 c12
  rcases hm with ⟨hm, rfl⟩ | ⟨hm, rfl⟩
  · have HY : Hid (EMay v) := hm
    have HWV := HWO.out hm
    have HWV' : Hid (∀ W, Calls Try.prog 28 #[.agg #[.int .i64 v.kd, .int .i64 v.me, .int .i64 v.mo, .int .i64 v.id, .int .i64 v.te, .int .i64 v.de, .int .i64 v.fe, .int .i64 v.pr, .int .i64 v.ch, .int .i64 v.un, .int .i64 v.tg, .int .i64 v.ow, .int .i64 v.bp]] W fun e w' => ∃ V, e = .returned V ∧ Ws w' W.heap.size V (evL v) ∧ Below W.heap.size W w') := HWV
    clear hm HWO HWV
    have c0 : W2.cell? ⟨w.heap.size, 0, none⟩ = some (.int .i64 v.kd) := HX2.out.cell 0
    have c1 : W2.cell? ⟨w.heap.size, 1, none⟩ = some (.int .i64 v.me) := HX2.out.cell 1
    have c2 : W2.cell? ⟨w.heap.size, 2, none⟩ = some (.int .i64 v.mo) := HX2.out.cell 2
    have c3 : W2.cell? ⟨w.heap.size, 3, none⟩ = some (.int .i64 v.id) := HX2.out.cell 3
    have c4 : W2.cell? ⟨w.heap.size, 4, none⟩ = some (.int .i64 v.te) := HX2.out.cell 4
    have c5 : W2.cell? ⟨w.heap.size, 5, none⟩ = some (.int .i64 v.de) := HX2.out.cell 5
    have c6 : W2.cell? ⟨w.heap.size, 6, none⟩ = some (.int .i64 v.fe) := HX2.out.cell 6
    have c7 : W2.cell? ⟨w.heap.size, 7, none⟩ = some (.int .i64 v.pr) := HX2.out.cell 7
    have c8 : W2.cell? ⟨w.heap.size, 8, none⟩ = some (.int .i64 v.ch) := HX2.out.cell 8
    have c9 : W2.cell? ⟨w.heap.size, 9, none⟩ = some (.int .i64 v.un) := HX2.out.cell 9
    have c10 : W2.cell? ⟨w.heap.size, 10, none⟩ = some (.int .i64 v.tg) := HX2.out.cell 10
    have c11 : W2.cell? ⟨w.heap.size, 11, none⟩ = some (.int .i64 v.ow) := HX2.out.cell 11
    have c12 : W2.cell? ⟨w.heap.size, 12, none⟩ = some (.int .i64 v.bp) := HX2.out.cell 12
    go_wp2_with fail
    refine (HWV'.out _).mono ?_
    rintro e W3 ⟨V, rfl, hV, hb⟩
    have HE3 : Hid (Blk W3 (w.heap.size + 1) #[.int .i64 0] 29) := HE2.out.next hb
    have HB3 : Hid (Below w.heap.size w W3) := bel_step HB2.out hb
    have HV3 : Hid (Ws W3 W2.heap.size V (evL v)) := hV
    have hgs : Hid (w.heap.size + 1 < W2.heap.size) := HE2.out.lt
    clear hb hV HX2 HE2 HB2 HWV' c0 c1 c2 c3 c4 c5 c6 c7 c8 c9 c10 c11 c12
    go_wp2_with (first | (refine wp_let1 rfl 29 _ _ rfl (w.heap.size + 1) 0 rfl .i64 0 rfl (by kernel_rfl) #[.int .i64 0] 29 HE3.out (by decide) ?_) | fail)
    intro W4 hU
    have HE4 : Hid (Blk W4 (w.heap.size + 1) #[.int .i64 0] 29) := hU.blk
    have HB4 : Hid (Below w.heap.size w W4) := hU.bel _ _ (by omega) HB3.out
    have HV4 : Hid (Ws W4 W2.heap.size V (evL v)) := ws_upd HV3.out hU hgs.out
    clear hU
    go_wp2_with fail
    refine leaves_cons (f := 25) (args := #[.pointer (some ⟨w.heap.size + 1, 0, none⟩)]) (by simp) (by simp [go_sem]) ?_
    refine (encode_idle (w.heap.size + 1) 0 _ HE4.out).mono ?_
    rintro e u' w5 ⟨rfl, hs, W, hb, hU⟩
    have r0 : w5.cell? ⟨w.heap.size + 1, 0, none⟩ = some (.int .i64 0) := hU.blk.cell 0
    have HB5 : Below w.heap.size w w5 := hU.bel _ _ (by omega) (bel_step HB4.out hb)
    have HV5 : Ws w5 W2.heap.size V (evL v) := ws_upd (HV4.out.next hb) hU hgs.out
    obtain ⟨a, cap, hva, hrow, h1, h2⟩ := HV5.row
    show Leaves _ _ _ _ [] (settle u') w5
    rw [hs]
    refine ⟨.tuple #[V, .int .i64 0], by simp [results, Try.results9, r0, go_sem], ?_⟩
    subst hva
    exact ⟨a, _, cap, evL v, 0, rfl, .inl ⟨HY.out, rfl, rfl⟩, hrow, h1, h2, by rw [evL_len]; exact Nat.le_refl _, HB5⟩
  · have HN : Hid (¬ EMay v) := hm
    clear hm HWO
    refine leaves_cons (f := 25) (args := #[.pointer (some ⟨w.heap.size + 1, 0, none⟩)]) (by simp) (by simp [go_sem]) ?_
    refine (encode_caught (w.heap.size + 1) 0 5 _ HE2.out).mono ?_
    rintro e u' w5 ⟨rfl, hs, W, hb, hU⟩
    have r0 : w5.cell? ⟨w.heap.size + 1, 0, none⟩ = some (.int .i64 5) := hU.blk.cell 0
    have HB5 : Below w.heap.size w w5 := hU.bel _ _ (by omega) (bel_step HB2.out hb)
    show Leaves _ _ _ _ [] (settle u') w5
    rw [hs]
    refine ⟨.tuple #[.slice none 0 0, .int .i64 5], by simp [results, Try.results9, r0, go_sem], ?_⟩
    exact ⟨none, 0, 0, [], 5, rfl, .inr ⟨HN.out, rfl, rfl⟩, RowU.nil _ _, fun _ => rfl, Nat.le_refl _, Nat.zero_le _, HB5⟩

end Go.Proofs.Ytfhlokjpdkmdjaa.book
