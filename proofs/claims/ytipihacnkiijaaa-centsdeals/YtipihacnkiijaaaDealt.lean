/- What vendmeterref.Dealt gives back. -/
import Derived.Test.YtipihacnkiijaaaBest
import Derived.Test.YtipihacnkiijaaaCopy
namespace Go.Proofs.Ytipihacnkiijaaa.cents
open Go.RowKit

theorem info_bool : (Try.prog.info? 4).map (fun i => (i.zero, i.size, i.bytes)) = some (some (.bool false), 1, 1) := by kernel_rfl

theorem dealt_size (total : Int) (a : Option Addr) (len cap : Nat) (w : World) (h : len = 0 ∨ 50 < len) :
    Calls Try.prog 11 #[.int .i64 total, .slice a len cap] w fun e w' => e = .returned (.tuple #[.slice none 0 0, .int .i64 1]) ∧ Below w.heap.size w w' := by
  by_cases h0 : len = 0
  · subst h0
    go_enter Try.func11, Try.ntmps11
    go_wp2_with fail
    go_ret2
    exact ⟨rfl, Below.refl _ _⟩
  · have h1 : ¬ (len : Int) < 1 := by omega
    have h2 : (50 : Int) < (len : Int) := by omega
    clear h h0
    go_enter Try.func11, Try.ntmps11
    go_wp2_with fail
    go_ret2
    exact ⟨rfl, Below.refl _ _⟩

theorem ok_take {zs : List Int} {k : Nat} (hk : k < zs.length) (h : okAll 0 1000000 (zs.take k) = true) (hz : 0 ≤ zs.getD k 0 ∧ zs.getD k 0 ≤ 1000000) : okAll 0 1000000 (zs.take (k + 1)) = true := by
  unfold okAll at *
  rw [List.all_eq_true] at *
  intro z hm
  rw [List.take_add_one] at hm
  rcases List.mem_append.1 hm with hm | hm
  · exact h z hm
  · simp [List.getElem?_eq_getElem hk] at hm
    simp [List.getD, List.getElem?_eq_getElem hk] at hz
    subst hm
    simpa using hz

set_option maxHeartbeats 1000000 in
theorem dealt_range (total : Int) (a : Option Addr) (len cap : Nat) (zs : List Int) (w : World) (hr : Row w a len zs) (h0 : 0 < len) (h1 : len ≤ 50) (h : (total < 0 ∨ 1000000000000 < total) ∨ okAll 0 1000000 zs = false) :
    Calls Try.prog 11 #[.int .i64 total, .slice a len cap] w fun e w' => e = .returned (.tuple #[.slice none 0 0, .int .i64 2]) ∧ Below w.heap.size w w' := by
  have e1 : ¬ (len : Int) < 1 := by omega
  have e2 : ¬ (50 : Int) < (len : Int) := by omega
  by_cases ht : total < 0 ∨ 1000000000000 < total
  · clear h
    go_enter Try.func11, Try.ntmps11
    go_wp2_with fail
    refine (in_no _ _ _ _ ht).mono ?_
    rintro e w ⟨rfl, rfl⟩
    clear ht
    go_wp2_with fail
    go_ret2
    exact ⟨rfl, Below.refl _ _⟩
  · have hok : okAll 0 1000000 zs = false := by rcases h with h | h; exact absurd h ht; exact h
    obtain ⟨hlen, hr⟩ := hr
    have t0 : 0 ≤ total := by omega
    have t1 : total ≤ 1000000000000 := by omega
    obtain ⟨b, off, rfl, hc⟩ : ∃ b off, a = some ⟨b, off, none⟩ ∧ ∀ i, i < len → w.cell? ⟨b, off + i, none⟩ = some (.int .i64 (zs.getD i 0)) := by
      rcases hr with h | h
      · omega
      · exact h
    have HC : Hid (∀ i, i < len → w.cell? ⟨b, off + i, none⟩ = some (.int .i64 (zs.getD i 0))) := hc
    have HK : Hid (okAll 0 1000000 zs = false) := hok
    clear h ht hok hc hr
    go_enter Try.func11, Try.ntmps11
    go_wp2_with fail
    refine (in_yes _ _ _ _ t0 t1).mono ?_
    rintro e w ⟨rfl, rfl⟩
    go_wp2_with fail
    go_loop [7, 8] (fun s i => ∃ k : Nat, k ≤ len ∧ i = .int .i64 k ∧ s = .int .i64 (zs.take k).sum ∧ okAll 0 1000000 (zs.take k) = true) (fun _ i => len - (intOf i).toNat)
    case atStart => exact ⟨0, Nat.zero_le _, rfl, rfl, rfl⟩
    case round =>
      obtain ⟨k, hk, rfl, rfl, hkk⟩ := hrel
      by_cases hlt : k < len
      · have hcell := HC.out k hlt
        by_cases hz : 0 ≤ zs.getD k 0 ∧ zs.getD k 0 ≤ 1000000
        · have HN : Hid (okAll 0 1000000 (zs.take (k + 1)) = true) := ok_take (by omega) hkk hz
          have hs2 := sum_bd 1000000 (zs.take k) fun z hz => by have := okAll_bd hkk z hz; omega
          have hl2 : (zs.take k).length = k := by rw [List.length_take]; omega
          rw [hl2] at hs2
          have HS : Hid ((zs.take (k + 1)).sum = (zs.take k).sum + zs.getD k 0) := sum_step zs k (by omega)
          clear hl2 hkk
          generalize (zs.take k).sum = s at *
          generalize zs.getD k 0 = z at *
          obtain ⟨z1, z2⟩ := hz
          go_wp2_with fail
          refine (in_yes _ _ _ _ z1 z2).mono ?_
          rintro e w ⟨rfl, rfl⟩
          go_wp2_with fail
          go_round
          case rel => exact ⟨k + 1, by omega, by go_num, by rw [HS.out], HN.out⟩
          case measure => simp [intOf]; omega
        · have hz' : zs.getD k 0 < 0 ∨ 1000000 < zs.getD k 0 := by omega
          clear hz hkk
          generalize zs.getD k 0 = z at *
          go_wp2_with fail
          refine (in_no _ _ _ _ hz').mono ?_
          rintro e w ⟨rfl, rfl⟩
          clear hz'
          go_wp2_with fail
          go_ret2
          exact ⟨rfl, Below.refl _ _⟩
      · have : zs.take k = zs := List.take_of_length_le (by omega)
        rw [this, HK.out] at hkk
        cases hkk

end Go.Proofs.Ytipihacnkiijaaa.cents
