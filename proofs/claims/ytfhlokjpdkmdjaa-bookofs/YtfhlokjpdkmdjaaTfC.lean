/- What units cost, as the document has it. -/
import Derived.Test.YtfhlokjpdkmdjaaTfD
import Derived.Test.YtfhlokjpdkmdjaaLet
import Derived.Test.YtfhlokjpdkmdjaaCallFirst
import Derived.Deep.DeepCutAuto
namespace Go.Proofs.Ytfhlokjpdkmdjaa.tar
open Go.RowKit
set_option maxRecDepth 100000
set_option linter.unusedVariables false
set_option linter.unusedSimpArgs false

theorem roverlap (lo hi x y : Int) (w : World) (h0 : 0 ≤ lo ∧ lo ≤ 10000000) (h1 : 0 ≤ hi ∧ hi ≤ 10000000) (h2 : 0 ≤ x ∧ x ≤ 10000000) (h3 : 0 ≤ y ∧ y ≤ 10000000) : Calls Try.prog 93 #[.int .i64 lo, .int .i64 hi, .int .i64 x, .int .i64 y] w fun e w' => e = .returned (.int .i64 (ov lo hi x y)) ∧ w' = w := by
  obtain ⟨a0, a1⟩ := h0
  obtain ⟨b0, b1⟩ := h1
  obtain ⟨c0, c1⟩ := h2
  obtain ⟨d0, d1⟩ := h3
  have HV : Hid (∀ z, (max lo x ≤ min hi y → z = min hi y - max lo x) → (min hi y < max lo x → z = 0) → z = ov lo hi x y) := fun z e1 e2 => by
    unfold ov
    by_cases h : max lo x ≤ min hi y
    · have := e1 h; omega
    · have := e2 (by omega); omega
  by_cases p : lo < x
  · have q : decide (lo < x) = true := decide_eq_true p
    by_cases p2 : y < hi
    · have q2 : decide (y < hi) = true := decide_eq_true p2
      by_cases p3 : y < x
      · have q3 : decide (y < x) = true := decide_eq_true p3
        have HZ : Hid ((0 : Int) = ov lo hi x y) := HV.out 0 (fun h => by omega) (fun _ => rfl)
        go_enter Try.func93, Try.ntmps93
        go_wp2_with fail
        go_ret
        exact ⟨by rw [← HZ.out]; rfl, rfl⟩
      · have q3 : decide (y < x) = false := decide_eq_false p3
        have HZ : Hid (y - x = ov lo hi x y) := HV.out _ (fun h => by omega) (fun h => by omega)
        go_enter Try.func93, Try.ntmps93
        go_wp2_with fail
        go_ret
        exact ⟨by rw [← HZ.out]; rfl, rfl⟩
    · have q2 : decide (y < hi) = false := decide_eq_false p2
      by_cases p3 : hi < x
      · have q3 : decide (hi < x) = true := decide_eq_true p3
        have HZ : Hid ((0 : Int) = ov lo hi x y) := HV.out 0 (fun h => by omega) (fun _ => rfl)
        go_enter Try.func93, Try.ntmps93
        go_wp2_with fail
        go_ret
        exact ⟨by rw [← HZ.out]; rfl, rfl⟩
      · have q3 : decide (hi < x) = false := decide_eq_false p3
        have HZ : Hid (hi - x = ov lo hi x y) := HV.out _ (fun h => by omega) (fun h => by omega)
        go_enter Try.func93, Try.ntmps93
        go_wp2_with fail
        go_ret
        exact ⟨by rw [← HZ.out]; rfl, rfl⟩
  · have q : decide (lo < x) = false := decide_eq_false p
    by_cases p2 : y < hi
    · have q2 : decide (y < hi) = true := decide_eq_true p2
      by_cases p3 : y < lo
      · have q3 : decide (y < lo) = true := decide_eq_true p3
        have HZ : Hid ((0 : Int) = ov lo hi x y) := HV.out 0 (fun h => by omega) (fun _ => rfl)
        go_enter Try.func93, Try.ntmps93
        go_wp2_with fail
        go_ret
        exact ⟨by rw [← HZ.out]; rfl, rfl⟩
      · have q3 : decide (y < lo) = false := decide_eq_false p3
        have HZ : Hid (y - lo = ov lo hi x y) := HV.out _ (fun h => by omega) (fun h => by omega)
        go_enter Try.func93, Try.ntmps93
        go_wp2_with fail
        go_ret
        exact ⟨by rw [← HZ.out]; rfl, rfl⟩
    · have q2 : decide (y < hi) = false := decide_eq_false p2
      by_cases p3 : hi < lo
      · have q3 : decide (hi < lo) = true := decide_eq_true p3
        have HZ : Hid ((0 : Int) = ov lo hi x y) := HV.out 0 (fun h => by omega) (fun _ => rfl)
        go_enter Try.func93, Try.ntmps93
        go_wp2_with fail
        go_ret
        exact ⟨by rw [← HZ.out]; rfl, rfl⟩
      · have q3 : decide (hi < lo) = false := decide_eq_false p3
        have HZ : Hid (hi - lo = ov lo hi x y) := HV.out _ (fun h => by omega) (fun h => by omega)
        go_enter Try.func93, Try.ntmps93
        go_wp2_with fail
        go_ret
        exact ⟨by rw [← HZ.out]; rfl, rfl⟩
set_option maxHeartbeats 2000000 in
theorem rcost (a : Option Addr) (n cap : Nat) (ls : List Du) (x y : Int) (w : World) (hr : RowD w a n ls) (hR : Right ls) (hx : 0 ≤ x) (hxy : x ≤ y) (hy : y ≤ 10000000) : Calls Try.prog 85 #[.slice a n cap, .int .i64 x, .int .i64 y] w fun e w' => ValPost w (cost ls x y) e w' := by
  have hlen := hr.1
  have hn1 : 1 ≤ n := by have := hR.1.1; omega
  have hn8 : n ≤ 8 := by have := hR.1.2; omega
  obtain ⟨b, off, rfl, hbl, hc⟩ := hr.at hn1
  have HC : Hid (∀ i, i < n → w.cell? ⟨b, off + i * 2, none⟩ = some (.int .i64 (ls.getD i du0).a) ∧ w.cell? ⟨b, off + i * 2 + 1, none⟩ = some (.int .i64 (ls.getD i du0).b)) := hc
  have HLEN : Hid (ls.length = n) := hlen
  have HR : Hid (Right ls) := hR
  have HX : Hid (0 ≤ x ∧ x ≤ y ∧ y ≤ 10000000) := ⟨hx, hxy, hy⟩
  clear hc hr hlen hR
  go_enter Try.func85, Try.ntmps85
  go_wp2_with fail
  go_loopw [7, 8, 9] (fun u v z wr => ∃ k : Nat, k ≤ n ∧ z = .int .i64 (k : Int) ∧ u = .int .i64 (costK ls x y k) ∧ v = .int .i64 (low ls k) ∧ Below w.heap.size w wr) (fun _ _ z _ => n - (intOf z).toNat)
  case atStart => exact ⟨0, Nat.zero_le _, rfl, rfl, rfl, Below.refl _ _⟩
  case round =>
    obtain ⟨k, hk, rfl, rfl, rfl, hb⟩ := hrel
    by_cases hlt : k < n
    · have hdl : decide ((k : Int) < (n : Int)) = true := by simp; omega
      have hkl : k < ls.length := by rw [HLEN.out]; exact hlt
      have c0 : wr.cell? ⟨b, off + k * 2, none⟩ = some (.int .i64 (ls.getD k du0).a) := (hb.cell (p := ⟨b, off + k * 2, none⟩) hbl).trans (HC.out k hlt).1
      have c1 : wr.cell? ⟨b, off + k * 2 + 1, none⟩ = some (.int .i64 (ls.getD k du0).b) := (hb.cell (p := ⟨b, off + k * 2 + 1, none⟩) hbl).trans (HC.out k hlt).2
      have HB : Hid (Below w.heap.size w wr) := hb
      have hp := HR.out.price k hkl
      have hu := HR.out.upto k hkl
      have hl0 := HR.out.low_pos k (by omega)
      have hl1 : low ls k ≤ 10000000 := by have := low_mono HR.out k ls.length (by omega) (Nat.le_refl _); rw [HR.out.low_end] at this; exact this
      have HOV : Hid (∀ W, Calls Try.prog 93 #[.int .i64 (low ls k), .int .i64 (ls.getD k du0).a, .int .i64 x, .int .i64 y] W fun e w' => e = .returned (.int .i64 (ov (low ls k) (ls.getD k du0).a x y)) ∧ w' = W) := fun W => roverlap _ _ x y W ⟨hl0, hl1⟩ ⟨by omega, by omega⟩ ⟨by omega, by omega⟩ ⟨by omega, by omega⟩
      have hc0 := costK_pos HR.out x y k (by omega)
      have hc1 := costK_le HR.out x y HX.out.1 HX.out.2.1 HX.out.2.2 k (by omega)
      have hpb := prod_bd (ov_pos (low ls k) (ls.getD k du0).a x y) (ov_le _ _ x y hl0 hu.2) hp.1 hp.2
      have HN : Hid (costK ls x y k + ov (low ls k) (ls.getD k du0).a x y * (ls.getD k du0).b = costK ls x y (k + 1)) := (costK_next ls x y k).symm
      have HL : Hid ((ls.getD k du0).a = low ls (k + 1)) := (low_next ls k).symm
      clear hb
      generalize costK ls x y k = cc at *
      generalize low ls k = lo at *
      generalize ov lo (ls.getD k du0).a x y = o at *
      generalize (ls.getD k du0).a = u at *
      generalize (ls.getD k du0).b = p at *
      have hw1 : IntKind.i64.wrap (o * p) = o * p := by rw [IntKind.wrap_i64]; omega
      have hw2 : IntKind.i64.wrap (cc + o * p) = cc + o * p := by rw [IntKind.wrap_i64]; omega
      go_wp2_with fail
      go_quiet (exact (HOV.out _).mono fun _ _ h => ⟨h.1, _, h.2⟩)
      have d1 : (wr.drewN nq).cell? ⟨b, off + k * 2, none⟩ = some (.int .i64 u) := c0
      have HBN : Hid (Below w.heap.size w (wr.drewN nq)) := bel_drewN HB.out nq
      go_wp2_with fail
      go_roundw
      case rel => exact ⟨k + 1, by omega, by go_num, by rw [← HN.out], by rw [← HL.out], HBN.out⟩
      case measure => simp [intOf]; omega
    · obtain rfl : k = n := by omega
      have hdl : decide ((k : Int) < (k : Int)) = false := by simp
      have HV : Hid (costK ls x y k = cost ls x y) := by show _ = _; unfold cost; rw [HLEN.out]
      have HB : Hid (Below w.heap.size w wr) := hb
      clear hb
      generalize hcc : costK ls x y k = cc at *
      go_wp2_with fail
      go_ret
      exact ⟨by rw [← HV.out]; rfl, HB.out⟩

end Go.Proofs.Ytfhlokjpdkmdjaa.tar
