/- The statement DiskBack. -/
import Derived.Test.YtfllkhlnnihndaaDkTa
import Derived.Test.YtfllkhlnnihndaaDkRt
import Derived.Test.YtfllkhlnnihndaaDkEk
import Derived.Test.YtfllkhlnnihndaaCkPick
namespace Go.Proofs.Ytfllkhlnnihndaa.disk
open Go.RowKit Go.Proofs.Ytfllkhlnnihndaa.cell
set_option maxRecDepth 100000
set_option linter.unusedVariables false

set_option maxHeartbeats 4000000 in
theorem DiskBack_walk (KR : KReplay) (KA : KAppend) (a : Option Addr) (len cap : Nat) (A : Nat → Option Addr) (L C : Nat → Nat) (Z : Nat → List Int) (mo : Int) (w : World) (hr : RwsW w a len A L C Z) (hmo : (Lit.int .i64 mo).wf = true) :
    Calls Try.prog 5 #[.slice a len cap, .int .i64 mo] w fun e w' => e = .returned (.bool true) ∧ Below w.heap.size w w' := by
  have HP : Hid (∀ W, Calls Try.prog 18 #[.int .i64 mo, .int .i64 30] W fun e w' => e = .returned (.int .i64 (((check.pick mo 30).toNat : Nat) : Int)) ∧ w' = W) := fun W => check.picked_nat mo 30 W hmo (by decide) (by decide)
  have hp : (check.pick mo 30).toNat < 30 := check.pick_toNat mo 30 (by decide)
  generalize (check.pick mo 30).toNat = p at *
  have HTP : Hid (∀ W, Below w.heap.size w W → Calls Try.prog 17 #[.slice a len cap, .int .i64 (1 + (p : Int))] W fun e w' => TapePost W (p + 1) e w') := fun W hB => by
    have := tape_any KA a len cap (p + 1) A L C Z W (hr.below hB) (by omega)
    rw [show ((p + 1 : Nat) : Int) = 1 + (p : Int) by omega] at this; exact this
  have HRP : Hid (∀ W a' n' c' z zs e0, Dsk W a' n' c' z → Tape z zs e0 → Calls Try.prog 10 #[.slice a' n' c'] W fun e w' => RepT W zs e0 e w') := fun W a' n' c' z zs e0 hd ht => rep_t KR a' n' c' z zs e0 W hd ht
  have HSR : Hid (∀ W a1 c1 b1 c2 (zs : List (List Int)), Reads W a1 zs.length zs → Reads W b1 zs.length zs → zs.length ≤ 100000 → Calls Try.prog 19 #[.slice a1 zs.length c1, .slice b1 zs.length c2] W fun e w' => e = .returned (.bool true) ∧ Below W.heap.size W w') := fun W a1 c1 b1 c2 zs h1 h2 hn => records_keep a1 b1 zs.length c1 c2 zs W h1 h2 hn
  clear hr KA KR hmo
  go_enter Try.func5, Try.ntmps5
  go_wp2_with fail
  refine (HP.out _).mono ?_
  rintro e w1 ⟨rfl, hw1⟩
  subst hw1
  go_wp2_with fail
  refine (HTP.out _ (Below.refl _ _)).mono ?_
  rintro e w2 (⟨ta, tn, tc, V, c, sl, zs, rfl, hn1, ht⟩ | ⟨h0, _⟩)
  case inr => omega
  have HT2 : Hid (Taped w1 (p + 1) ta tn tc V c sl zs w2) := ht
  obtain ⟨E, hE⟩ : ∃ E : Nat, E = sumR zs := ⟨_, rfl⟩
  have HE : Hid (E = sumR zs) := hE
  have HRP1 : Hid (Calls Try.prog 10 #[.slice ta tn tc] w2 fun e w' => RepT w2 zs E e w') := by have := HRP.out w2 _ _ _ _ _ _ ht.disk ht.tape; rw [← hE] at this; exact this
  have hsz : E ≤ 1000 := by have := sumR_most ht.ok; have := ht.few; omega
  clear hE
  obtain ⟨av, cv, hv, _⟩ := ht.reads
  subst hv
  have hz12 := ht.few
  clear ht HTP HP HRP
  go_wp2_with fail
  refine HRP1.out.mono ?_
  rintro e w3 ⟨ra, rc, rfl, hrd, hb3⟩
  have HT3 : Hid (Taped w1 (p + 1) ta tn tc (.slice av zs.length cv) c sl zs w3) := HT2.out.next hb3
  have HRD : Hid (ReadsF w3 w2.heap.size ra zs.length zs) := hrd
  clear hb3 hrd HT2 HRP1
  go_wp2_with fail
  go_loopw [11, 12] (fun s i wr => ∃ k S : Nat, k ≤ zs.length ∧ i = .int .i64 (k : Int) ∧ s = .int .i64 (S : Int) ∧ S = sumR (zs.take k) ∧ wr = w3) (fun _ i _ => zs.length - (intOf i).toNat)
  case atStart => exact ⟨0, 0, Nat.zero_le _, rfl, rfl, rfl, rfl⟩
  case round =>
    obtain ⟨k, S, hk, rfl, rfl, hS, hwr⟩ := hrel
    have HS : Hid (S = sumR (zs.take k)) := hS
    have hSE : S ≤ E := by have := HE.out; have := sumR_le zs k; omega
    clear hS
    subst hwr
    by_cases hlt : k < zs.length
    · obtain ⟨g, off, cq, hv, lg, hcc⟩ := lr_at HT3.out.lr HT3.out.recs HT3.out.room (by omega)
      injection hv with e1 _ e3
      obtain ⟨b', o', m', c3, hcell, hrow, hmc, hm20⟩ := hcc k hlt
      have HN : Hid (sumR (zs.take (k + 1)) = sumR (zs.take k) + (m' + 1)) := by show _ = _; rw [sumR_take zs k hlt, hrow.1]
      subst e1
      subst e3
      clear hcc hrow
      go_wp2_with fail
      go_roundw
      case rel => exact ⟨k + 1, S + (m' + 1), by omega, by go_num, by go_num, by rw [HN.out, HS.out], by first | rfl | trivial⟩
      case measure => simp [intOf]; omega
    · obtain rfl : k = zs.length := by omega
      obtain ⟨av2, cv2, hv2, hre⟩ := HT3.out.reads
      injection hv2 with e1 _ e3
      subst e1
      subst e3
      have HS1 : Hid (Calls Try.prog 19 #[.slice ra zs.length rc, .slice av zs.length cv] wr fun e w' => e = .returned (.bool true) ∧ Below wr.heap.size wr w') := HSR.out wr ra rc av cv zs HRD.out.reads hre (by omega)
      have hel : S = E := by rw [HS.out, HE.out, List.take_length]
      subst hel
      have hdl : decide ((zs.length : Int) < (zs.length : Int)) = false := by simp
      have HB3 : Hid (Below w1.heap.size w1 wr) := HT3.out.bel
      clear hre HT3 HRD HSR
      go_wp2_with fail
      refine HS1.out.mono ?_
      rintro e w5 ⟨rfl, hb5⟩
      have HB5 : Hid (Below w1.heap.size w1 w5) := HB3.out.trans (hb5.mono HB3.out.size)
      clear hb5 HS1
      go_wp2_with fail
      go_ret
      exact ⟨rfl, HB5.out⟩

end Go.Proofs.Ytfllkhlnnihndaa.disk
