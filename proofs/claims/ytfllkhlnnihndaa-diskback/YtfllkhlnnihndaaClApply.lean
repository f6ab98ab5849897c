/- The first writes of a list, done. -/
import Derived.Test.YtfllkhlnnihndaaClWrit
namespace Go.Proofs.Ytfllkhlnnihndaa.cell
open Go.RowKit
set_option maxRecDepth 100000
set_option linter.unusedVariables false

def fv (B : Nat) : Value := .func (.func 33) #[] #[.pointer (some ⟨B, 0, none⟩)]
theorem astray_any (B n cc : Nat) (ca : Option Addr) (e0 : Wr) (W : World) (hc : W.cell? ⟨B, 0, none⟩ = some (.slice ca n cc)) (hB : B < W.heap.size) (hn : n ≤ 2048) :
    Calls Try.prog 33 #[.agg #[.int .i64 e0.p, .int .u32 e0.d], .pointer (some ⟨B, 0, none⟩)] W fun e w' => e = .returned (.bool (!inN n e0)) ∧ Below W.heap.size W w' := by
  obtain ⟨p, d⟩ := e0
  have hc2 : (W.alloc (.cells #[.int .i64 p, .int .u32 d] 44)).cell? ⟨B, 0, none⟩ = some (.slice ca n cc) := by rw [World.cell?_alloc_lt W _ _ hB]; exact hc
  have HB : Hid (Below W.heap.size W (W.alloc (.cells #[.int .i64 p, .int .u32 d] 44))) := (Below.refl _ _).alloc (Nat.le_refl _) _
  clear hc hB
  by_cases h0 : p < 0
  · have e1 : (!inN n ⟨p, d⟩) = true := by simp [inN]; omega
    rw [e1]; clear e1
    go_enter Try.func33, Try.ntmps33
    go_wp2_with fail
    go_ret
    exact ⟨rfl, HB.out⟩
  · by_cases h1 : p < n
    · have e1 : (!inN n ⟨p, d⟩) = false := by simp [inN]; omega
      have h2 : decide ((n : Int) ≤ p) = false := by simp; omega
      rw [e1]; clear e1
      go_enter Try.func33, Try.ntmps33
      go_wp2_with fail
      go_ret
      exact ⟨rfl, HB.out⟩
    · have e1 : (!inN n ⟨p, d⟩) = true := by simp [inN]; omega
      have h2 : decide ((n : Int) ≤ p) = true := by simp; omega
      rw [e1]; clear e1
      go_enter Try.func33, Try.ntmps33
      go_wp2_with fail
      go_ret
      exact ⟨rfl, HB.out⟩

/-- Where the first write goes astray: nowhere, if all are fine. -/
def IxPost (w : World) (n : Nat) (ls : List Wr) (e : Ending) (w' : World) : Prop :=
  ∃ r : Int, e = .returned (.int .i64 r) ∧ (allN n ls = true ∧ r = -1 ∨ allN n ls = false ∧ 0 ≤ r) ∧ Below w.heap.size w w'
set_option maxHeartbeats 2000000 in
theorem index_any (B n cc m c2 : Nat) (ca b : Option Addr) (ls : List Wr) (w : World) (hc : w.cell? ⟨B, 0, none⟩ = some (.slice ca n cc)) (hn : n ≤ 2048) (hr : RowW w b m ls) (hm : m ≤ 4096) :
    Calls Try.prog 36 #[.slice b m c2, fv B] w fun e w' => IxPost w n ls e w' := by
  have hB := World.block_lt_of_cell? w _ hc
  have HC : Hid (∀ wr, Below w.heap.size w wr → ∀ e0 : Wr, Calls Try.prog 33 #[.agg #[.int .i64 e0.p, .int .u32 e0.d], .pointer (some ⟨B, 0, none⟩)] wr fun e w' => e = .returned (.bool (!inN n e0)) ∧ Below wr.heap.size wr w') := fun wr hb e0 =>
    astray_any B n cc ca e0 wr ((hb.cell (p := ⟨B, 0, none⟩) hB).trans hc) (Nat.lt_of_lt_of_le hB hb.size) hn
  have HR : Hid (RowW w b m ls) := hr
  have HL : Hid (ls.length = m) := hr.1
  clear hc hB hr
  unfold fv
  go_enter Try.func36, Try.ntmps36
  go_wp2_with fail
  go_loopw [8] (fun i wr => ∃ k : Nat, k ≤ m ∧ i = .int .i64 (k : Int) ∧ allN n (ls.take k) = true ∧ Below w.heap.size w wr) (fun i _ => m - (intOf i).toNat)
  case atStart => exact ⟨0, Nat.zero_le _, rfl, rfl, Below.refl _ _⟩
  case round =>
    obtain ⟨k, hk, rfl, hal, hb⟩ := hrel
    have HA : Hid (allN n (ls.take k) = true) := hal
    have HB : Hid (Below w.heap.size w wr) := hb
    clear hal hb
    by_cases hlt : k < m
    · obtain ⟨b2, o2, rfl, l2, hc2⟩ := HR.out.at (by omega)
      have f1 : wr.cell? ⟨b2, o2 + k * 2, none⟩ = some (.int .i64 (ls.getD k wr0).p) := (HB.out.cell (p := ⟨b2, o2 + k * 2, none⟩) l2).trans (hc2 k hlt).1
      have f2 : wr.cell? ⟨b2, o2 + k * 2 + 1, none⟩ = some (.int .u32 (ls.getD k wr0).d) := (HB.out.cell (p := ⟨b2, o2 + k * 2 + 1, none⟩) l2).trans (hc2 k hlt).2
      have hcall := HC.out wr HB.out (ls.getD k wr0)
      have HST : Hid (allN n (ls.take (k + 1)) = (allN n (ls.take k) && inN n (ls.getD k wr0))) := allN_step n ls k (by have := HL.out; omega)
      have HFL : Hid (inN n (ls.getD k wr0) = false → allN n ls = false) := fun h => allN_of_false (by have := HL.out; omega) h
      clear hc2 l2
      cases hi : inN n (ls.getD k wr0) with
      | true =>
        rw [hi] at hcall HST
        have HSA : Hid (allN n (ls.take (k + 1)) = true) := by show _ = _; rw [HST.out, HA.out]; rfl
        have HCL : Hid (Calls Try.prog 33 #[.agg #[.int .i64 (ls.getD k wr0).p, .int .u32 (ls.getD k wr0).d], .pointer (some ⟨B, 0, none⟩)] wr fun e w' => e = .returned (.bool false) ∧ Below wr.heap.size wr w') := hcall
        clear hcall HST HFL hi
        generalize (ls.getD k wr0).p = p at *
        generalize (ls.getD k wr0).d = d at *
        go_wp2_with fail
        refine HCL.out.mono ?_
        rintro e w' ⟨rfl, hb'⟩
        have HB' : Hid (Below w.heap.size w w') := bel_step HB.out hb'
        clear hb' f1 f2
        go_wp2_with fail
        go_roundw
        case rel => exact ⟨k + 1, by omega, by go_num, HSA.out, HB'.out⟩
        case measure => simp [intOf]; omega
      | false =>
        rw [hi] at hcall
        have HFA : Hid (allN n ls = false) := HFL.out hi
        have HCL : Hid (Calls Try.prog 33 #[.agg #[.int .i64 (ls.getD k wr0).p, .int .u32 (ls.getD k wr0).d], .pointer (some ⟨B, 0, none⟩)] wr fun e w' => e = .returned (.bool true) ∧ Below wr.heap.size wr w') := hcall
        clear hcall HST HFL hi
        generalize (ls.getD k wr0).p = p at *
        generalize (ls.getD k wr0).d = d at *
        go_wp2_with fail
        refine HCL.out.mono ?_
        rintro e w' ⟨rfl, hb'⟩
        have HB' : Hid (Below w.heap.size w w') := bel_step HB.out hb'
        clear hb' f1 f2
        go_wp2_with fail
        go_ret
        exact ⟨(k : Int), rfl, .inr ⟨HFA.out, by omega⟩, HB'.out⟩
    · obtain rfl : k = m := by omega
      have HFA : Hid (allN n ls = true) := by have := HA.out; rw [List.take_of_length_le (by have := HL.out; omega)] at this; exact this
      go_wp2_with fail
      go_ret
      exact ⟨-1, rfl, .inl ⟨HFA.out, rfl⟩, HB.out⟩

theorem contains_any (B n cc m c2 : Nat) (ca b : Option Addr) (ls : List Wr) (w : World) (hc : w.cell? ⟨B, 0, none⟩ = some (.slice ca n cc)) (hn : n ≤ 2048) (hr : RowW w b m ls) (hm : m ≤ 4096) :
    Calls Try.prog 34 #[.slice b m c2, fv B] w fun e w' => e = .returned (.bool (!allN n ls)) ∧ Below w.heap.size w w' := by
  have HI : Hid (Calls Try.prog 36 #[.slice b m c2, fv B] w fun e w' => IxPost w n ls e w') := index_any B n cc m c2 ca b ls w hc hn hr hm
  clear hc hr
  generalize fv B = V at *
  go_enter Try.func34, Try.ntmps34
  go_wp2_with fail
  refine HI.out.mono ?_
  rintro e w' ⟨r, rfl, hr, hb'⟩
  have HB' : Hid (Below w.heap.size w w') := hb'
  clear hb'
  rcases hr with ⟨ha, rfl⟩ | ⟨ha, hr⟩
  · have HA : Hid ((!allN n ls) = false) := by show _ = _; rw [ha]; rfl
    clear ha
    go_wp2_with fail
    go_ret
    exact ⟨by rw [HA.out]; rfl, HB'.out⟩
  · have HA : Hid ((!allN n ls) = true) := by show _ = _; rw [ha]; rfl
    clear ha
    have hd : decide ((0 : Int) ≤ r) = true := by simpa using hr
    go_wp2_with fail
    go_ret
    exact ⟨by rw [HA.out]; rfl, HB'.out⟩

end Go.Proofs.Ytfllkhlnnihndaa.cell
