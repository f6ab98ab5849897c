/- Small functions of order: within, numbers, withNumbers, kind. -/
import Derived.Test.YtlianhienbhbgaaDoorOdM
import Derived.BigRegion
import Derived.BigQuiet
import Derived.Deep.DeepCutAuto
namespace Go.Proofs.YtlianhienbhbgaaDoor.odr
open Go.RowKit
set_option maxRecDepth 100000
set_option linter.unusedVariables false
set_option linter.unusedSimpArgs false

set_option maxHeartbeats 1000000 in
theorem pwithin (lo hi : Int) (v : Value) (l : List Int) (w : World) (hr : Rd w v l) (hl : l.length ≤ 1000000) :
    Calls Tryd.prog 11 #[.int .i64 lo, .int .i64 hi, v] w fun e w' => e = .returned (.bool (l.all (inB lo hi))) ∧ w' = w := by
  obtain ⟨a, cap, rfl, hrow⟩ := hr
  have HR : Hid (l = [] ∨ ∃ g off, a = some ⟨g, off, none⟩ ∧ ∀ i, i < l.length → w.cell? ⟨g, off + i, none⟩ = some (.int .i64 (l.getD i 0))) := hrow
  have HE : Hid (∀ b : Bool, (b = true ↔ ∀ j, j < l.length → inB lo hi (l.getD j 0) = true) → b = l.all (inB lo hi)) := fun b hb => by
    have : l.all (inB lo hi) = true ↔ ∀ j, j < l.length → inB lo hi (l.getD j 0) = true := by
      rw [List.all_eq_true]
      constructor
      · intro h j hj
        have e : l.getD j 0 = l[j] := by simp [List.getD, hj]
        rw [e]
        exact h _ (List.getElem_mem hj)
      · intro h x hx
        obtain ⟨j, hj, rfl⟩ := List.getElem_of_mem hx
        have e : l.getD j 0 = l[j] := by simp [List.getD, hj]
        rw [← e]
        exact h j hj
    cases hb1 : b <;> cases hb2 : l.all (inB lo hi) <;> simp_all
  clear hrow
  generalize l.all (inB lo hi) = R at *
  go_enter Tryd.func11, Tryd.ntmps11
  go_wp2_with fail
  go_loopw [11] (fun v wr => ∃ i : Nat, i ≤ l.length ∧ v = .int .i64 (i : Int) ∧ (∀ j, j < i → inB lo hi (l.getD j 0) = true) ∧ wr = w) (fun v _ => l.length - (intOf v).toNat)
  case atStart => exact ⟨0, Nat.zero_le _, rfl, fun j hj => by omega, rfl⟩
  case round =>
    obtain ⟨i, hil, rfl, hall, rfl⟩ := hrel
    have HA : Hid (∀ j, j < i → inB lo hi (l.getD j 0) = true) := hall
    clear hall
    by_cases hlt : i < l.length
    · obtain ⟨g, off, rfl, hc⟩ : ∃ g off, a = some ⟨g, off, none⟩ ∧ ∀ i, i < l.length → wr.cell? ⟨g, off + i, none⟩ = some (.int .i64 (l.getD i 0)) := by
        rcases HR.out with h | h
        · rw [h] at hlt; exact absurd hlt (by simp)
        · exact h
      have hci := hc i hlt
      clear hc HR
      obtain ⟨n, hn⟩ : ∃ n, l.getD i 0 = n := ⟨_, rfl⟩
      have HN : Hid (l.getD i 0 = n) := hn
      rw [hn] at hci
      clear hn
      by_cases h1 : n < lo
      · have HF : Hid (false = R) := HE.out false ⟨(fun h => nomatch h), fun h => by
          have := h i hlt
          rw [HN.out] at this
          have : lo ≤ n ∧ n ≤ hi := by simpa [inB] using this
          omega⟩
        have d1 : decide (n < lo) = true := by simp; omega
        clear HE HN HA h1
        go_wp2_with fail
        go_ret
        exact ⟨by rw [← HF.out]; rfl, rfl⟩
      · have d1 : decide (n < lo) = false := by simp; omega
        by_cases h2 : hi < n
        · have HF : Hid (false = R) := HE.out false ⟨(fun h => nomatch h), fun h => by
            have := h i hlt
            rw [HN.out] at this
            have : lo ≤ n ∧ n ≤ hi := by simpa [inB] using this
            omega⟩
          have d2 : decide (hi < n) = true := by simp; omega
          clear HE HN HA h1 h2
          go_wp2_with fail
          go_ret
          exact ⟨by rw [← HF.out]; rfl, rfl⟩
        · have HA2 : Hid (∀ j, j < i + 1 → inB lo hi (l.getD j 0) = true) := fun j hj => by
            by_cases hji : j = i
            · rw [hji, HN.out]; simp [inB]; omega
            · exact HA.out j (by omega)
          have d2 : decide (hi < n) = false := by simp; omega
          clear HA HN h1 h2
          go_wp2_with fail
          go_roundw
          case rel => exact ⟨i + 1, by omega, by go_num, HA2.out, trivial⟩
          case measure => simp [intOf]; omega
    · have HF : Hid (true = R) := HE.out true ⟨fun _ j hj => HA.out j (by omega), fun _ => rfl⟩
      clear HE HR HA
      go_wp2_with fail
      go_ret
      exact ⟨by rw [← HF.out]; rfl, rfl⟩

def nums (x : Ac) : Array Value := #[.int .i64 x.me, .int .i64 x.a, .int .i64 x.b, .int .i64 x.c]
set_option maxHeartbeats 1000000 in
theorem pnumbers (x : Ac) (w : World) : Calls Tryd.prog 23 #[x.v] w fun e w' => e = .returned (.agg (nums x)) ∧ Below w.heap.size w w' := by
  obtain ⟨k, me, a, b, c, t, cut⟩ := x
  unfold Ac.v Ac.cells nums
  have HX : Hid (Blk ((w.alloc (.cells #[.int .i64 k, .int .i64 me, .int .i64 a, .int .i64 b, .int .i64 c, .string t, .int .i64 cut] 23)).alloc (.cells #[.int .i64 0, .int .i64 0, .int .i64 0, .int .i64 0] 51)) w.heap.size #[.int .i64 k, .int .i64 me, .int .i64 a, .int .i64 b, .int .i64 c, .string t, .int .i64 cut] 23) := (Blk.new _ _ _).alloc _
  have HZ : Hid (Blk ((w.alloc (.cells #[.int .i64 k, .int .i64 me, .int .i64 a, .int .i64 b, .int .i64 c, .string t, .int .i64 cut] 23)).alloc (.cells #[.int .i64 0, .int .i64 0, .int .i64 0, .int .i64 0] 51)) (w.heap.size + 1) #[.int .i64 0, .int .i64 0, .int .i64 0, .int .i64 0] 51) := Blk.new1 _ _ _ _
  have HB : Hid (Below w.heap.size w ((w.alloc (.cells #[.int .i64 k, .int .i64 me, .int .i64 a, .int .i64 b, .int .i64 c, .string t, .int .i64 cut] 23)).alloc (.cells #[.int .i64 0, .int .i64 0, .int .i64 0, .int .i64 0] 51))) := ((Below.refl _ _).alloc (Nat.le_refl _) _).alloc (by simp) _
  go_enter Tryd.func23, Tryd.ntmps23
  go_upto_region 1 with fail
  generalize (w.alloc (.cells #[.int .i64 k, .int .i64 me, .int .i64 a, .int .i64 b, .int .i64 c, .string t, .int .i64 cut] 23)).alloc (.cells #[.int .i64 0, .int .i64 0, .int .i64 0, .int .i64 0] 51) = W0 at *
  have c1 := HX.out.cell 1
  have c2 := HX.out.cell 2
  have c3 := HX.out.cell 3
  have c4 := HX.out.cell 4
  go_wp2_with (first | (refine wp_letAll rfl 51 _ _ rfl (w.heap.size + 1) rfl #[.int .i64 me, .int .i64 a, .int .i64 b, .int .i64 c] rfl (by kernel_rfl) (by simp [Value.oneCell']) #[.int .i64 0, .int .i64 0, .int .i64 0, .int .i64 0] 51 HZ.out rfl ?_) | fail)
  intro WF hUF
  have HBF : Hid (Below w.heap.size w WF) := hUF.bel _ _ (by omega) HB.out
  have R0 : Hid (WF.cell? ⟨w.heap.size + 1, 0, none⟩ = some (.int .i64 me)) := hUF.blk.cell 0
  have R1 : Hid (WF.cell? ⟨w.heap.size + 1, 1, none⟩ = some (.int .i64 a)) := hUF.blk.cell 1
  have R2 : Hid (WF.cell? ⟨w.heap.size + 1, 2, none⟩ = some (.int .i64 b)) := hUF.blk.cell 2
  have R3 : Hid (WF.cell? ⟨w.heap.size + 1, 3, none⟩ = some (.int .i64 c)) := hUF.blk.cell 3
  clear hUF c1 c2 c3 c4
  go_wp2_with fail
  exact bodyPost_ret (v := .agg #[.int .i64 me, .int .i64 a, .int .i64 b, .int .i64 c]) (by simp [results, Tryd.results23, R0.out, R1.out, R2.out, R3.out, go_sem]) rfl ⟨rfl, HBF.out⟩

end Go.Proofs.YtlianhienbhbgaaDoor.odr
