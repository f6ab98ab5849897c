/- The statement NumberSlip. -/
import Derived.Test.YtlicdeppfhmfjabDoorKrN
import Derived.Test.YtlicdeppfhmfjabDoorKrM
import Derived.Test.YtlicdeppfhmfjabDoorCkSlN
import Derived.Test.YtlicdeppfhmfjabDoorCkSlip
import Derived.Test.YtlicdeppfhmfjabDoorTxW
namespace Go.Proofs.YtlicdeppfhmfjabDoor.rcp
open Go.RowKit
set_option maxRecDepth 100000
set_option linter.unusedVariables false
set_option linter.unusedSimpArgs false

theorem meter_same {k : Nat} (hk : k < 50) (s : ByteArray) (hs : s.data.toList = numL k) {m e : Int} (h : MeterIs s.data.toList m e) : m = (k : Int) ∧ e = 0 := by rw [hs] at h; exact meter_back hk h
theorem meter_bad {l : List UInt8} (h1 : l.length = 11) (h2 : check.flawR l = 0) (h3 : check.goodR l = false) {m e : Int} (h : MeterIs l m e) : m = 0 ∧ e = 8 := h.one (.inr (.inr (.inl ⟨h1, h2, h3, rfl, rfl⟩)))
/-- What a slip makes of a meter's number. -/
def Told (k : Nat) (s t : ByteArray) : Prop := (t = s) ∨ (t ≠ s ∧ t.data.toList.length = 11 ∧ check.flawR t.data.toList = 0 ∧ check.goodR t.data.toList = false)
theorem num_facts {k : Nat} (hk : k < 50) : (numL k).length = 11 ∧ check.allD (numL k) = true ∧ check.goodR (numL k) = true := by
  obtain ⟨a, b, c, _⟩ := num_all k hk
  exact ⟨a, (check.flawR_zero b).2, c⟩
theorem told_slip {k : Nat} (hk : k < 50) {s t : ByteArray} (hs : s.data.toList = numL k) {A B : List UInt8} {c c' : UInt8} (h1 : s.data.toList = A ++ c :: B) (h2 : t.data.toList = A ++ c' :: B) (h3 : check.isD c' = true) (hne : c ≠ c') : Told k s t := by
  obtain ⟨n1, n2, n3⟩ := num_facts hk
  rw [← hs] at n1 n2 n3
  have hl : t.data.toList.length = 11 := by rw [h2]; rw [h1] at n1; simpa using n1
  have hd : check.allD t.data.toList = true := by
    rw [h2]
    rw [h1] at n2
    have := check.allD_mid n2
    exact check.allD_mk this.1 h3 this.2.2
  refine .inr ⟨fun e => ?_, hl, check.flaw_good (by omega) (by omega) hd, check.slip_good (by omega) (by omega) n2 n3 h1 h2 h3 hne⟩
  rw [e, h1] at h2
  exact hne (by have := List.append_cancel_left h2; simp at this; exact this)
theorem told_swap {k : Nat} (hk : k < 50) {s t : ByteArray} (hs : s.data.toList = numL k) {A m B : List UInt8} {c c' : UInt8} (h1 : s.data.toList = A ++ c :: (m ++ c' :: B)) (h2 : t.data.toList = A ++ c' :: (m ++ c :: B)) (hm : m.length + 1 = 1) : Told k s t := by
  obtain rfl : m = [] := List.eq_nil_of_length_eq_zero (by omega)
  rw [List.nil_append] at h1 h2
  obtain ⟨n1, n2, n3⟩ := num_facts hk
  rw [← hs] at n1 n2 n3
  have hl : t.data.toList.length = 11 := by rw [h2]; rw [h1] at n1; simpa using n1
  have hd : check.allD t.data.toList = true := by
    rw [h2]
    rw [h1] at n2
    have a := check.allD_mid n2
    have b := check.allD_mid (A := []) (by rw [List.nil_append]; exact a.2.2)
    exact check.allD_mk a.1 b.2.1 (check.allD_mk (A := []) rfl a.2.1 b.2.2)
  have hg := check.swap_good (by omega) (by omega) n2 n3 h1 h2
  by_cases e : s.data.toList = t.data.toList
  · left
    cases s; cases t
    congr 1
    exact (Array.toList_inj.1 e).symm
  · refine .inr ⟨fun h => e (by rw [h]), hl, check.flaw_good (by omega) (by omega) hd, ?_⟩
    rw [hg]
    simpa using e
set_option maxHeartbeats 4000000 in
theorem NumberSlip_walk (me ata bya : Int) (swap : Bool) (w : World) (K : KrNumber w) (KM : KrMeter w) (hme : (Lit.int .i64 me).wf = true) (hat : (Lit.int .i64 ata).wf = true) (hby : (Lit.int .i64 bya).wf = true) : Calls Tryd.prog 4 #[.int .i64 me, .int .i64 ata, .int .i64 bya, .bool swap] w fun e w' => e = .returned (.bool true) ∧ Below w.heap.size w w' := by
  have HPK : Hid (∀ W, Calls Tryd.prog 6 #[.int .i64 me, .int .i64 50] W fun e w' => e = .returned (.int .i64 (check.pick me 50)) ∧ w' = W) := fun W => check.picked_any me 50 W hme (by decide) (by decide)
  have hp0 := check.pick_nonneg me 50 (by decide)
  have hp1 := check.pick_lt me 50 (by decide)
  generalize check.pick me 50 = pk at *
  obtain ⟨k, rfl⟩ : ∃ k : Nat, pk = (k : Int) := ⟨pk.toNat, by omega⟩
  have hk : k < 50 := by omega
  have HNU : Hid (∀ W, Below w.heap.size w W → Calls Tryd.prog 9 #[.int .i64 (k : Int)] W fun e w' => e = .returned (.tuple #[.string ⟨(numL k).toArray⟩, .int .i64 0]) ∧ Below W.heap.size W w') := fun W hW => (K W (k : Int) hW (tar.wf_mid (by omega) (by omega))).mono (by
    rintro e w9 ⟨l, f, rfl, h, hb⟩
    rcases h with ⟨_, rfl, rfl⟩ | ⟨a, _⟩
    · exact ⟨by rw [Int.toNat_natCast], hb⟩
    · exact absurd ⟨by omega, by omega⟩ a)
  obtain ⟨S, hS⟩ : ∃ S : ByteArray, (⟨(numL k).toArray⟩ : ByteArray) = S := ⟨_, rfl⟩
  have hSl : S.data.toList = numL k := by rw [← hS]
  have hSz : S.size = 11 := by have h : S.data.toList.length = S.size := Array.length_toList; rw [hSl, (num_all k hk).1] at h; exact h.symm
  rw [hS] at HNU
  have HM1 : Hid (∀ W, Below w.heap.size w W → Calls Tryd.prog 10 #[.string S] W fun e w' => e = .returned (.tuple #[.int .i64 (k : Int), .int .i64 0]) ∧ Below W.heap.size W w') := fun W hW => (KM W S hW).mono (by
    rintro e w9 ⟨m, f, rfl, h, hb⟩
    obtain ⟨rfl, rfl⟩ := meter_same hk S hSl h
    exact ⟨rfl, hb⟩)
  have HM2 : Hid (∀ t : ByteArray, (t ≠ S ∧ t.data.toList.length = 11 ∧ check.flawR t.data.toList = 0 ∧ check.goodR t.data.toList = false) → ∀ W, Below w.heap.size w W → Calls Tryd.prog 10 #[.string t] W fun e w' => e = .returned (.tuple #[.int .i64 0, .int .i64 8]) ∧ Below W.heap.size W w') := fun t ht W hW => (KM W t hW).mono (by
    rintro e w9 ⟨m, f, rfl, h, hb⟩
    obtain ⟨rfl, rfl⟩ := meter_bad ht.2.1 ht.2.2.1 ht.2.2.2 h
    exact ⟨rfl, hb⟩)
  have HSL : Hid (∀ W, Calls Tryd.prog 11 #[.string S, .int .i64 ata, .int .i64 bya] W fun e w' => ∃ t, e = .returned (.string t) ∧ Told k S t ∧ Below W.heap.size W w') := fun W => (check.slipped_any S ata bya W (by omega) (by omega) (by rw [hSl]; exact (num_facts hk).2.1) hat hby).mono (by
    rintro e w9 ⟨t, A, B, c, c', rfl, h1, h2, h3, h4, hb⟩
    exact ⟨t, rfl, told_slip hk hSl h1 h2 h3 h4, hb⟩)
  have HSW : Hid (∀ W, Calls Tryd.prog 12 #[.string S, .int .i64 ata, .int .i64 1] W fun e w' => ∃ t, e = .returned (.string t) ∧ Told k S t ∧ Below W.heap.size W w') := fun W => (check.swapped_any S ata 1 W (by omega) (by omega) (by decide) hat).mono (by
    rintro e w9 ⟨t, A, m, B, c, c', rfl, h1, h2, h3, hb⟩
    exact ⟨t, rfl, told_swap hk hSl h1 h2 h3, hb⟩)
  have n11 : ((S.size : Int) != 11) = false := by rw [hSz]; rfl
  have nkk : ((k : Int) != (k : Int)) = false := by simp
  have ekk : ((k : Int) == (k : Int)) = true := by simp
  clear hS hSl hp0 hp1
  go_enter Tryd.func4, Tryd.ntmps4
  go_wp2_with fail
  refine (HPK.out _).mono ?_
  rintro e wz ⟨rfl, hwz⟩
  subst wz
  go_wp2_with fail
  refine (HNU.out _ (Below.refl _ _)).mono ?_
  rintro e w1 ⟨rfl, hb1⟩
  go_wp2_with fail
  refine (HM1.out _ hb1).mono ?_
  rintro e w2 ⟨rfl, hb2⟩
  have HB2 : Hid (Below w.heap.size w w2) := hb1.trans (hb2.mono hb1.size)
  clear hb1 hb2 HNU
  go_wp2_with fail
  refine (HSL.out _).mono ?_
  rintro e w3 ⟨t0, rfl, ht0, hb3⟩
  have HB3 : Hid (Below w.heap.size w w3) := HB2.out.trans (hb3.mono HB2.out.size)
  have HT0 : Hid (Told k S t0) := ht0
  clear hb3 HB2 HSL ht0
  cases swap with
  | false =>
    rcases HT0.out with rfl | ht
    · have es : ((t0 : ByteArray).toList == (t0 : ByteArray).toList) = true := by simp
      go_wp2_with fail
      refine (HM1.out _ HB3.out).mono ?_
      rintro e w5 ⟨rfl, hb5⟩
      have HB5 : Hid (Below w.heap.size w w5) := HB3.out.trans (hb5.mono HB3.out.size)
      clear hb5
      go_wp2_with fail
      refine (HPK.out _).mono ?_
      rintro e wz ⟨rfl, hwz⟩
      subst wz
      go_wp2_with fail
      go_ret
      exact ⟨rfl, HB5.out⟩
    · have HTB : Hid (∀ W, Below w.heap.size w W → Calls Tryd.prog 10 #[.string t0] W fun e w' => e = .returned (.tuple #[.int .i64 0, .int .i64 8]) ∧ Below W.heap.size W w') := HM2.out t0 ht
      have es : (t0.toList == S.toList) = false := by rw [ByteArray.toList_eq, ByteArray.toList_eq]; simpa using fun h => ht.1 (by cases t0; cases S; exact congrArg ByteArray.mk h)
      clear ht
      go_wp2_with fail
      refine (HTB.out _ HB3.out).mono ?_
      rintro e w5 ⟨rfl, hb5⟩
      have HB5 : Hid (Below w.heap.size w w5) := HB3.out.trans (hb5.mono HB3.out.size)
      clear hb5
      go_wp2_with fail
      refine (HPK.out _).mono ?_
      rintro e wz ⟨rfl, hwz⟩
      subst wz
      go_wp2_with fail
      go_ret
      exact ⟨rfl, HB5.out⟩
  | true =>
    clear HT0
    go_wp2_with fail
    refine (HSW.out _).mono ?_
    rintro e w4 ⟨t1, rfl, ht1, hb4⟩
    have HB4 : Hid (Below w.heap.size w w4) := HB3.out.trans (hb4.mono HB3.out.size)
    have HT1 : Hid (Told k S t1) := ht1
    clear hb4 HB3 ht1
    rcases HT1.out with rfl | ht
    · have es : ((t1 : ByteArray).toList == (t1 : ByteArray).toList) = true := by simp
      go_wp2_with fail
      refine (HM1.out _ HB4.out).mono ?_
      rintro e w5 ⟨rfl, hb5⟩
      have HB5 : Hid (Below w.heap.size w w5) := HB4.out.trans (hb5.mono HB4.out.size)
      clear hb5
      go_wp2_with fail
      refine (HPK.out _).mono ?_
      rintro e wz ⟨rfl, hwz⟩
      subst wz
      go_wp2_with fail
      go_ret
      exact ⟨rfl, HB5.out⟩
    · have HTB : Hid (∀ W, Below w.heap.size w W → Calls Tryd.prog 10 #[.string t1] W fun e w' => e = .returned (.tuple #[.int .i64 0, .int .i64 8]) ∧ Below W.heap.size W w') := HM2.out t1 ht
      have es : (t1.toList == S.toList) = false := by rw [ByteArray.toList_eq, ByteArray.toList_eq]; simpa using fun h => ht.1 (by cases t1; cases S; exact congrArg ByteArray.mk h)
      clear ht
      go_wp2_with fail
      refine (HTB.out _ HB4.out).mono ?_
      rintro e w5 ⟨rfl, hb5⟩
      have HB5 : Hid (Below w.heap.size w w5) := HB4.out.trans (hb5.mono HB4.out.size)
      clear hb5
      go_wp2_with fail
      refine (HPK.out _).mono ?_
      rintro e wz ⟨rfl, hwz⟩
      subst wz
      go_wp2_with fail
      go_ret
      exact ⟨rfl, HB5.out⟩

end Go.Proofs.YtlicdeppfhmfjabDoor.rcp
