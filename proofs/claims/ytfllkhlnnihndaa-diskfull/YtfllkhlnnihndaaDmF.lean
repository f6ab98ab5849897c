/- The statement DiskFull. -/
import Derived.Test.YtfllkhlnnihndaaDkTa
import Derived.Test.YtfllkhlnnihndaaDkAt
import Derived.Test.YtfllkhlnnihndaaCkPick
namespace Go.Proofs.Ytfllkhlnnihndaa.disk
open Go.RowKit Go.Proofs.Ytfllkhlnnihndaa.cell
set_option maxRecDepth 100000
set_option linter.unusedVariables false

set_option maxHeartbeats 4000000 in
theorem DiskFull_walk (KA : KAppend) (a : Option Addr) (len cap : Nat) (A : Nat → Option Addr) (L C : Nat → Nat) (Z : Nat → List Int) (b : Option Addr) (m cap2 : Nat) (rz : List Int) (mo : Int) (w : World) (hr : RwsW w a len A L C Z) (hb : RowU w b m rz) (hbw : Wds rz) (hmo : (Lit.int .i64 mo).wf = true) :
    Calls Try.prog 8 #[.slice a len cap, .slice b m cap2, .int .i64 mo] w fun e w' => e = .returned (.bool true) ∧ Below w.heap.size w w' := by
  have HP : Hid (∀ W, Calls Try.prog 18 #[.int .i64 mo, .int .i64 24] W fun e w' => e = .returned (.int .i64 (((check.pick mo 24).toNat : Nat) : Int)) ∧ w' = W) := fun W => check.picked_nat mo 24 W hmo (by decide) (by decide)
  have hp : (check.pick mo 24).toNat < 24 := check.pick_toNat mo 24 (by decide)
  generalize (check.pick mo 24).toNat = p at *
  have HTP : Hid (∀ W, Below w.heap.size w W → Calls Try.prog 17 #[.slice a len cap, .int .i64 (p : Int)] W fun e w' => TapePost W p e w') := fun W hB => by
    have := tape_any KA a len cap p A L C Z W (hr.below hB) (by omega)
    exact this
  have HSO : Hid (∀ W, Below w.heap.size w W → Calls Try.prog 20 #[.slice b m cap2, .int .i64 20] W fun e w' => SomeR W 20 e w') := fun W hB => some_row b m cap2 20 rz W (hb.below hB) hbw (by decide) (by decide)
  have HAP : Hid (∀ W a' n' c' z zs e0 g rn rc r, Dsk W a' n' c' z → Tape z zs e0 → RowU W (some ⟨g, 0, none⟩) rn r → Wds r → 1 ≤ rn → rn ≤ 20 → rn ≤ rc → Calls Try.prog 14 #[.slice a' n' c', .slice (some ⟨g, 0, none⟩) rn rc] W fun e w' => AppT W z r e0 n' rn e w') := fun W a' n' c' z zs e0 g rn rc r hd ht hr hw h1 h2 h3 => app_t KA a' n' c' z zs e0 g rn rc r W hd ht hr hw h1 h2 h3
  clear hr KA hmo hb hbw
  go_enter Try.func8, Try.ntmps8
  go_wp2_with fail
  refine (HP.out _).mono ?_
  rintro e w1 ⟨rfl, hw1⟩
  subst hw1
  go_wp2_with fail
  refine (HTP.out _ (Below.refl _ _)).mono ?_
  rintro e w2 (⟨ta, tn, tc, V, c, sl, zs, rfl, hn1, ht⟩ | ⟨h0, rfl, hb2⟩)
  · have HT2 : Hid (Taped w1 p ta tn tc V c sl zs w2) := ht
    obtain ⟨av, cv, hv, _⟩ := ht.reads
    subst hv
    obtain ⟨E, hE⟩ : ∃ E : Nat, E = sumR zs := ⟨_, rfl⟩
    have HE : Hid (E = sumR zs) := hE
    have hsz1 : tn ≤ p + E := by rw [hE, ht.size]; exact Nat.le_refl _
    have hsz2 : p + E ≤ tn := by rw [hE, ht.size]; exact Nat.le_refl _
    have hz12 := ht.few
    have hzE : zs.length = 0 → E = 0 := fun h => by rw [hE, List.eq_nil_of_length_eq_zero h]; rfl
    have HSO1 : Hid (Calls Try.prog 20 #[.slice b m cap2, .int .i64 20] w2 fun e w' => SomeR w2 20 e w') := HSO.out w2 ht.bel
    clear ht HTP HP HSO hE
    go_wp2_with fail
    refine HSO1.out.mono ?_
    rintro e w3 ⟨g, rn, rc, r, rfl, hr3, _, _, hr1, hr20, hrc, hrw, hb3⟩
    have HT3 : Hid (Taped w1 p ta tn tc (.slice av zs.length cv) c sl zs w3) := HT2.out.next hb3
    have HAP1 : Hid (Calls Try.prog 14 #[.slice ta tn tc, .slice (some ⟨g, 0, none⟩) rn rc] w3 fun e w' => AppT w3 c r E tn rn e w') := by
      have := HAP.out w3 ta tn tc c zs E g rn rc r HT3.out.disk (by rw [HE.out]; exact HT3.out.tape) hr3 hrw hr1 hr20 hrc
      exact this
    have HB3 : Hid (Below w1.heap.size w1 w3) := HT3.out.bel
    clear hr3 hrw hb3 HT2 HSO1 HAP HT3 HE
    by_cases hz : zs.length = 0
    · have h1 : ((zs.length : Int) == 0) = true := by simp [hz]
      have h2 : ((p : Int) == 0) = false := by have := hzE hz; simp; omega
      clear hzE
      generalize zs.length = ln at *
      clear hz
      go_wp2_with fail
      refine HAP1.out.mono ?_
      rintro e w4 (⟨hfit, x, q, cx, rfl, _, _, _, hq, hb4⟩ | ⟨hful, x, cx, rfl, hb4⟩)
      · have HB4 : Hid (Below w1.heap.size w1 w4) := HB3.out.trans (hb4.mono HB3.out.size)
        have hq1 : rn < q := by split at hq <;> omega
        have hq2 : q ≤ rn + 2 := by split at hq <;> omega
        have hd1 : decide ((p : Int) < (rn : Int) + 1) = false := decide_eq_false (by omega)
        have hd2 : decide ((rn : Int) < (q : Int)) = true := decide_eq_true (by omega)
        clear hb4 hq HAP1 HB3
        go_wp2_with fail
        go_ret
        exact ⟨rfl, HB4.out⟩
      · have HB4 : Hid (Below w1.heap.size w1 w4) := HB3.out.trans (hb4.mono HB3.out.size)
        have hd1 : decide ((p : Int) < (rn : Int) + 1) = true := decide_eq_true (by omega)
        clear hb4 HAP1 HB3
        go_wp2_with fail
        go_ret
        exact ⟨rfl, HB4.out⟩
    · have h1 : ((zs.length : Int) == 0) = false := by simpa using hz
      clear hzE
      generalize zs.length = ln at *
      clear hz
      go_wp2_with fail
      refine HAP1.out.mono ?_
      rintro e w4 (⟨hfit, x, q, cx, rfl, _, _, _, hq, hb4⟩ | ⟨hful, x, cx, rfl, hb4⟩)
      · have HB4 : Hid (Below w1.heap.size w1 w4) := HB3.out.trans (hb4.mono HB3.out.size)
        have hq1 : rn < q := by split at hq <;> omega
        have hq2 : q ≤ rn + 2 := by split at hq <;> omega
        have hd1 : decide ((p : Int) < (rn : Int) + 1) = false := decide_eq_false (by omega)
        have hd2 : decide ((rn : Int) < (q : Int)) = true := decide_eq_true (by omega)
        clear hb4 hq HAP1 HB3
        go_wp2_with fail
        go_ret
        exact ⟨rfl, HB4.out⟩
      · have HB4 : Hid (Below w1.heap.size w1 w4) := HB3.out.trans (hb4.mono HB3.out.size)
        have hd1 : decide ((p : Int) < (rn : Int) + 1) = true := decide_eq_true (by omega)
        clear hb4 HAP1 HB3
        go_wp2_with fail
        go_ret
        exact ⟨rfl, HB4.out⟩
  · subst h0
    have HB2 : Hid (Below w1.heap.size w1 w2) := hb2
    have HSO1 : Hid (Calls Try.prog 20 #[.slice b m cap2, .int .i64 20] w2 fun e w' => SomeR w2 20 e w') := HSO.out w2 hb2
    clear HTP HP HSO hb2 HAP
    go_wp2_with fail
    refine HSO1.out.mono ?_
    rintro e w3 ⟨g, rn, rc, r, rfl, _, _, _, _, _, _, _, hb3⟩
    have HB3 : Hid (Below w1.heap.size w1 w3) := HB2.out.trans (hb3.mono HB2.out.size)
    clear hb3 HSO1
    go_wp2_with fail
    go_ret
    exact ⟨rfl, HB3.out⟩

end Go.Proofs.Ytfllkhlnnihndaa.disk
