/- The statement CodeBack. -/
import Derived.Test.YtnhidiefchamlaaDoorKoC
import Derived.Test.YtnhidiefchamlaaDoorKoR
import Derived.Test.YtnhidiefchamlaaDoorCdE
import Derived.Test.YtnhidiefchamlaaDoorMtNew
import Derived.Test.YtnhidiefchamlaaDoorLet
import Derived.Test.YtnhidiefchamlaaDoorLetG
import Derived.Test.YtnhidiefchamlaaDoorProg
import Derived.WalkKit
import Derived.Deep.DeepCutAuto
namespace Go.Proofs.YtnhidiefchamlaaDoor.cod
open Go.Proofs.YtnhidiefchamlaaDoor.met (Mt)
open Go.RowKit
set_option maxRecDepth 100000
set_option linter.unusedVariables false
set_option linter.unusedSimpArgs false

theorem wh_may {p q r s : Int} {h : Nat} (hm : (⟨p, q, r, 0, 0, s, 0⟩ : Mt).may) (h1 : 1 ≤ h) (h2 : h ≤ 1048575) : (⟨p, q, r, (h : Int), 1, s, 0⟩ : Mt).may :=
  ⟨hm.me, hm.rev, hm.cr, hm.bad, hm.lock, hm.one, .inr ⟨by show (1 : Int) ≤ (h : Int); omega, by show (h : Int) ≤ 1048575; omega, (by show Nat.testBit 1 0 = true; decide), fun i hi ht => by
    have : i = 0 := by
      rcases Nat.eq_zero_or_pos i with h0 | h0
      · exact h0
      · exfalso
        have : Nat.testBit 1 i = false := Nat.testBit_lt_two_pow (Nat.lt_of_lt_of_le (by decide : 1 < 2 ^ 1) (Nat.pow_le_pow_right (by decide) h0))
        rw [this] at ht; cases ht
    subst this
    show (0 : Int) < (h : Int); omega⟩⟩
set_option maxHeartbeats 4000000 in
theorem back_abs (x y z u p q r s hi : Int) (h : Nat) (w : World) (K : KoCode w) (KR : KoRead w) (hm : (⟨p, q, r, 0, 0, s, 0⟩ : Mt).may) (hh : h ≤ 1048575)
    (hN : ∀ W, Calls Tryd.prog 11 #[.agg #[.int .i64 x, .int .i64 y, .int .i64 z, .int .i64 u]] W fun e w' => e = .returned (.agg #[.int .i64 p, .int .i64 q, .int .i64 r, .int .i64 0, .int .u64 0, .int .i64 s, .int .i64 0]) ∧ Below W.heap.size W w')
    (hP : ∀ W, Calls Tryd.prog 12 #[.int .i64 hi, .int .i64 1048576] W fun e w' => e = .returned (.int .i64 (h : Int)) ∧ w' = W) :
    Calls Tryd.prog 5 #[.agg #[.int .i64 x, .int .i64 y, .int .i64 z, .int .i64 u], .int .i64 hi] w fun e w' => e = .returned (.bool true) ∧ Below w.heap.size w w' := by
  have HN : Hid (∀ W, Calls Tryd.prog 11 #[.agg #[.int .i64 x, .int .i64 y, .int .i64 z, .int .i64 u]] W fun e w' => e = .returned (.agg #[.int .i64 p, .int .i64 q, .int .i64 r, .int .i64 0, .int .u64 0, .int .i64 s, .int .i64 0]) ∧ Below W.heap.size W w') := hN
  have HP : Hid (∀ W, Calls Tryd.prog 12 #[.int .i64 hi, .int .i64 1048576] W fun e w' => e = .returned (.int .i64 (h : Int)) ∧ w' = W) := hP
  have HC : Hid (∀ (W : World) (m : Mt), m.may → m.b < 18446744073709551616 → Below w.heap.size w W → Calls Tryd.prog 7 #[m.v] W fun e w' => e = .returned (.tuple #[.string ⟨(codeL (num m)).toArray⟩, .int .i64 0]) ∧ Below W.heap.size W w') := fun W m hm hb hW => (K W m hW hb).mono fun e w' hx => by
    obtain ⟨l, f, rfl, hi, hb⟩ := hx
    rcases hi with ⟨_, rfl, rfl⟩ | ⟨hn, _⟩
    · exact ⟨rfl, hb⟩
    · exact absurd hm hn
  have HR : Hid (∀ (W : World) (m : Mt), m.may → Below w.heap.size w W → Calls Tryd.prog 9 #[.string ⟨(codeL (num m)).toArray⟩] W fun e w' => e = .returned (.tuple #[.agg #[.int .i64 m.me, .int .i64 m.cr, .int .i64 m.h], .int .i64 0]) ∧ Below W.heap.size W w') := fun W m hm hW => (KR W _ hW).mono fun e w' hx => by
    obtain ⟨v, f, rfl, hi, hb⟩ := hx
    obtain ⟨rfl, rfl⟩ := hi.one (unc_code hm)
    exact ⟨rfl, hb⟩
  have HL : Hid (∀ m : Mt, m.may → (⟨(codeL (num m)).toArray⟩ : ByteArray).size = 18) := fun m hm => (code_facts (num_lt hm).1).1
  have HMM : Hid ((⟨p, q, r, 0, 0, s, 0⟩ : Mt).may) := hm
  have HX0 : Hid (Blk (w.alloc (.cells #[.int .i64 x, .int .i64 y, .int .i64 z, .int .i64 u] 37)) w.heap.size #[.int .i64 x, .int .i64 y, .int .i64 z, .int .i64 u] 37) := Blk.new _ _ _
  have HB0 : Hid (Below w.heap.size w (w.alloc (.cells #[.int .i64 x, .int .i64 y, .int .i64 z, .int .i64 u] 37))) := (Below.refl _ _).alloc (Nat.le_refl _) _
  clear hN hP K KR hm
  go_enter Tryd.func5, Tryd.ntmps5
  go_upto_region 1 with fail
  generalize w.alloc (.cells #[.int .i64 x, .int .i64 y, .int .i64 z, .int .i64 u] 37) = W0 at *
  go_wp2_with (first | (refine wp_whole rfl 37 _ rfl (w.heap.size) rfl 37 #[.int .i64 x, .int .i64 y, .int .i64 z, .int .i64 u] _ HX0.out Tryd.underlying37 rfl (by kernel_rfl) ?_) | fail)
  refine (HN.out _).mono ?_
  rintro e W1 ⟨rfl, hb⟩
  have HB1 : Hid (Below w.heap.size w W1) := bel_step HB0.out hb
  clear hb HX0 HB0 HN
  have HM2 : Hid (Blk (W1.alloc (.cells #[.int .i64 p, .int .i64 q, .int .i64 r, .int .i64 0, .int .u64 0, .int .i64 s, .int .i64 0] 26)) W1.heap.size #[.int .i64 p, .int .i64 q, .int .i64 r, .int .i64 0, .int .u64 0, .int .i64 s, .int .i64 0] 26) := Blk.new _ _ _
  have HB2 : Hid (Below w.heap.size w (W1.alloc (.cells #[.int .i64 p, .int .i64 q, .int .i64 r, .int .i64 0, .int .u64 0, .int .i64 s, .int .i64 0] 26))) := HB1.out.alloc HB1.out.size _
  have HG : Hid (w.heap.size ≤ W1.heap.size) := HB1.out.size
  clear HB1
  go_upto_region 2 with fail
  generalize W1.alloc (.cells #[.int .i64 p, .int .i64 q, .int .i64 r, .int .i64 0, .int .u64 0, .int .i64 s, .int .i64 0] 26) = W2 at *
  generalize W1.heap.size = gm at *
  go_wp2_with fail
  refine (HP.out _).mono ?_
  rintro e wz ⟨rfl, hwz⟩
  subst wz
  clear HP
  by_cases h0 : h = 0
  · subst h0
    have hd : decide ((0 : Int) < ((0 : Nat) : Int)) = false := by decide
    have HCC := HC.out W2 (⟨p, q, r, 0, 0, s, 0⟩ : Mt) HMM.out (show (0 : Nat) < 18446744073709551616 by decide) HB2.out
    have HLL : Hid ((⟨(codeL (num (⟨p, q, r, 0, 0, s, 0⟩ : Mt))).toArray⟩ : ByteArray).size = 18) := HL.out _ HMM.out
    have HRR : Hid (∀ W, Below w.heap.size w W → Calls Tryd.prog 9 #[.string ⟨(codeL (num (⟨p, q, r, 0, 0, s, 0⟩ : Mt))).toArray⟩] W fun e w' => e = .returned (.tuple #[.agg #[.int .i64 p, .int .i64 r, .int .i64 0], .int .i64 0]) ∧ Below W.heap.size W w') := fun W hW => HR.out W (⟨p, q, r, 0, 0, s, 0⟩ : Mt) HMM.out hW
    generalize (⟨(codeL (num (⟨p, q, r, 0, 0, s, 0⟩ : Mt))).toArray⟩ : ByteArray) = T at *
    clear HC HR HL HMM
    unfold met.Mt.v met.Mt.cells at HCC
    go_wp2_with (first | (refine wp_whole rfl 26 _ rfl (gm) rfl 26 #[.int .i64 p, .int .i64 q, .int .i64 r, .int .i64 0, .int .u64 0, .int .i64 s, .int .i64 0] _ HM2.out Tryd.underlying26 rfl (by kernel_rfl) ?_) | fail)
    refine HCC.mono ?_
    rintro e W4 ⟨rfl, hb⟩
    have HB4 : Hid (Below w.heap.size w W4) := bel_step HB2.out hb
    have HM4 : Hid (Blk W4 gm #[.int .i64 p, .int .i64 q, .int .i64 r, .int .i64 0, .int .u64 0, .int .i64 s, .int .i64 0] 26) := HM2.out.next hb
    clear hb HCC HB2 HM2
    go_wp2_with fail
    refine (HRR.out _ HB4.out).mono ?_
    rintro e W5 ⟨rfl, hb⟩
    have HB6 : Hid (Below w.heap.size w (W5.alloc (.cells #[.int .i64 p, .int .i64 r, .int .i64 0] 32))) := (bel_step HB4.out hb).alloc (bel_step HB4.out hb).size _
    have HM6 : Hid (Blk (W5.alloc (.cells #[.int .i64 p, .int .i64 r, .int .i64 0] 32)) gm #[.int .i64 p, .int .i64 q, .int .i64 r, .int .i64 0, .int .u64 0, .int .i64 s, .int .i64 0] 26) := (HM4.out.next hb).alloc _
    have HS6 : Hid (Blk (W5.alloc (.cells #[.int .i64 p, .int .i64 r, .int .i64 0] 32)) W5.heap.size #[.int .i64 p, .int .i64 r, .int .i64 0] 32) := Blk.new _ _ _
    clear hb HRR HB4 HM4
    go_upto_region 7 with fail
    generalize W5.alloc (.cells #[.int .i64 p, .int .i64 r, .int .i64 0] 32) = W6 at *
    generalize W5.heap.size = gs at *
    have k0 : W6.cell? ⟨gm, 0, none⟩ = some (.int .i64 p) := HM6.out.cell 0
    have k2 : W6.cell? ⟨gm, 2, none⟩ = some (.int .i64 r) := HM6.out.cell 2
    have eb : ∀ wz : World, (Op.equalIn 10000 32 (.agg #[.int .i64 p, .int .i64 r, .int .i64 0]) (.agg #[.int .i64 p, .int .i64 r, .int .i64 0])).run Tryd.prog wz = .ok true wz := fun wz => eqSh _ _ _ wz
    have hls : ((T.size : Int) == 18) = true := by rw [HLL.out]; rfl
    go_wp2_with (first | (refine wp_wholeG (by rfl) 32 _ rfl (gs) rfl 32 #[.int .i64 p, .int .i64 r, .int .i64 0] _ HS6.out Tryd.underlying32 rfl (by kernel_rfl) ?_) | fail)
    go_ret
    exact ⟨rfl, HB6.out⟩
  · have h1 : 1 ≤ h := by omega
    have hd : (0 : Int) < (h : Int) := by omega
    have HMH : Hid ((⟨p, q, r, (h : Int), 1, s, 0⟩ : Mt).may) := wh_may HMM.out h1 hh
    clear HMM h0 h1
    go_wp2_with (first | (refine wp_let rfl 24 _ _ rfl gm 3 rfl (.agg #[.int .i64 (h : Int), .int .u64 1]) rfl #[.int .i64 (h : Int), .int .u64 1] rfl (by kernel_rfl) (by simp [Value.oneCell']) #[.int .i64 p, .int .i64 q, .int .i64 r, .int .i64 0, .int .u64 0, .int .i64 s, .int .i64 0] 26 HM2.out (by simp) #[.int .i64 p, .int .i64 q, .int .i64 r, .int .i64 (h : Int), .int .u64 1, .int .i64 s, .int .i64 0] rfl ?_) | fail)
    intro W3 hU
    have HB3 : Hid (Below w.heap.size w W3) := hU.bel _ _ HG.out HB2.out
    have HM3 : Hid (Blk W3 gm #[.int .i64 p, .int .i64 q, .int .i64 r, .int .i64 (h : Int), .int .u64 1, .int .i64 s, .int .i64 0] 26) := hU.blk
    clear hU HM2 HB2
    have HCC := HC.out W3 (⟨p, q, r, (h : Int), 1, s, 0⟩ : Mt) HMH.out (show (1 : Nat) < 18446744073709551616 by decide) HB3.out
    have HLL : Hid ((⟨(codeL (num (⟨p, q, r, (h : Int), 1, s, 0⟩ : Mt))).toArray⟩ : ByteArray).size = 18) := HL.out _ HMH.out
    have HRR : Hid (∀ W, Below w.heap.size w W → Calls Tryd.prog 9 #[.string ⟨(codeL (num (⟨p, q, r, (h : Int), 1, s, 0⟩ : Mt))).toArray⟩] W fun e w' => e = .returned (.tuple #[.agg #[.int .i64 p, .int .i64 r, .int .i64 (h : Int)], .int .i64 0]) ∧ Below W.heap.size W w') := fun W hW => HR.out W (⟨p, q, r, (h : Int), 1, s, 0⟩ : Mt) HMH.out hW
    generalize (⟨(codeL (num (⟨p, q, r, (h : Int), 1, s, 0⟩ : Mt))).toArray⟩ : ByteArray) = T at *
    clear HC HR HL HMH
    unfold met.Mt.v met.Mt.cells at HCC
    go_wp2_with (first | (refine wp_whole rfl 26 _ rfl (gm) rfl 26 #[.int .i64 p, .int .i64 q, .int .i64 r, .int .i64 (h : Int), .int .u64 1, .int .i64 s, .int .i64 0] _ HM3.out Tryd.underlying26 rfl (by kernel_rfl) ?_) | fail)
    refine HCC.mono ?_
    rintro e W4 ⟨rfl, hb⟩
    have HB4 : Hid (Below w.heap.size w W4) := bel_step HB3.out hb
    have HM4 : Hid (Blk W4 gm #[.int .i64 p, .int .i64 q, .int .i64 r, .int .i64 (h : Int), .int .u64 1, .int .i64 s, .int .i64 0] 26) := HM3.out.next hb
    clear hb HCC HB3 HM3
    go_wp2_with fail
    refine (HRR.out _ HB4.out).mono ?_
    rintro e W5 ⟨rfl, hb⟩
    have HB6 : Hid (Below w.heap.size w (W5.alloc (.cells #[.int .i64 p, .int .i64 r, .int .i64 (h : Int)] 32))) := (bel_step HB4.out hb).alloc (bel_step HB4.out hb).size _
    have HM6 : Hid (Blk (W5.alloc (.cells #[.int .i64 p, .int .i64 r, .int .i64 (h : Int)] 32)) gm #[.int .i64 p, .int .i64 q, .int .i64 r, .int .i64 (h : Int), .int .u64 1, .int .i64 s, .int .i64 0] 26) := (HM4.out.next hb).alloc _
    have HS6 : Hid (Blk (W5.alloc (.cells #[.int .i64 p, .int .i64 r, .int .i64 (h : Int)] 32)) W5.heap.size #[.int .i64 p, .int .i64 r, .int .i64 (h : Int)] 32) := Blk.new _ _ _
    clear hb HRR HB4 HM4
    go_upto_region 7 with fail
    generalize W5.alloc (.cells #[.int .i64 p, .int .i64 r, .int .i64 (h : Int)] 32) = W6 at *
    generalize W5.heap.size = gs at *
    have k0 : W6.cell? ⟨gm, 0, none⟩ = some (.int .i64 p) := HM6.out.cell 0
    have k2 : W6.cell? ⟨gm, 2, none⟩ = some (.int .i64 r) := HM6.out.cell 2
    have eb : ∀ wz : World, (Op.equalIn 10000 32 (.agg #[.int .i64 p, .int .i64 r, .int .i64 (h : Int)]) (.agg #[.int .i64 p, .int .i64 r, .int .i64 (h : Int)])).run Tryd.prog wz = .ok true wz := fun wz => eqSh _ _ _ wz
    have hls : ((T.size : Int) == 18) = true := by rw [HLL.out]; rfl
    go_wp2_with (first | (refine wp_wholeG (by rfl) 32 _ rfl (gs) rfl 32 #[.int .i64 p, .int .i64 r, .int .i64 (h : Int)] _ HS6.out Tryd.underlying32 rfl (by kernel_rfl) ?_) | fail)
    go_ret
    exact ⟨rfl, HB6.out⟩
theorem CodeBack_walk (x y z u hi : Int) (w : World) (K : KoCode w) (KR : KoRead w) (hw : met.wf4i x y z u) (hh : (Lit.int .i64 hi).wf = true) :
    Calls Tryd.prog 5 #[.agg #[.int .i64 x, .int .i64 y, .int .i64 z, .int .i64 u], .int .i64 hi] w fun e w' => e = .returned (.bool true) ∧ Below w.heap.size w w' := by
  have hp : (check.pick hi 1048576).toNat < 1048576 := check.pick_toNat hi 1048576 (by decide)
  exact back_abs x y z u _ _ _ _ hi (check.pick hi 1048576).toNat w K KR (met.newM_may x y z u) (by omega) (fun W => met.newMeter_any x y z u W hw) (fun W => check.picked_nat hi 1048576 W hh (by decide) (by decide))

end Go.Proofs.YtnhidiefchamlaaDoor.cod
