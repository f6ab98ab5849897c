/- stepped: a tariff that is right. -/
import Derived.Test.YtlolippocnngcabTfD
import Derived.Test.YtlolippocnngcabTfG
import Derived.Test.YtlolippocnngcabCkPick
import Derived.Test.YtlolippocnngcabCaWf
namespace Go.Proofs.Ytlolippocnngcab.tar
open Go.Proofs.Ytlolippocnngcab.check (pick picked_any pick_nonneg pick_lt)
open Go.RowKit
set_option maxRecDepth 100000
set_option linter.unusedVariables false
set_option linter.unusedSimpArgs false

theorem stepT2 : PairT Try.prog 87 40 := ⟨by kernel_rfl, Try.underlying40⟩
/-- A tariff that is right was given back. -/
def GaveT (w : World) (e : Ending) (w' : World) : Prop := ∃ v ls, e = .returned v ∧ Right ls ∧ Ld 87 w' w.heap.size v ls ∧ Below w.heap.size w w'
set_option maxHeartbeats 4000000 in
theorem stepped_any (a : Option Addr) (len cap : Nat) (rs : List Du) (w : World) (h : Came w a len cap rs) : Calls Try.prog 31 #[.slice a len cap] w fun e w' => GaveT w e w' := by
  have HM : Hid (Came w a len cap rs) := h
  have hlm : len ≤ 9223372036854775807 := by have := h.bytes; omega
  clear h
  go_enter Try.func31, Try.ntmps31
  go_wp2_with fail
  go_loopw [3, 4, 5] (fun u v z wr => ∃ (k : Nat) (V : Value) (Z : List Du) (up : Int), k ≤ len ∧ k ≤ 7 ∧ z = .int .i64 (k : Int) ∧ v = .int .i64 up ∧ V = u ∧ Grow Z k up ∧ Ld 87 wr w.heap.size V Z ∧ Below w.heap.size w wr) (fun _ _ z _ => 7 - (intOf z).toNat)
  case atStart => exact ⟨0, _, [], 0, Nat.zero_le _, by decide, rfl, rfl, rfl, Grow.zero, Ld.zero _ _ _, Below.refl _ _⟩
  case round =>
    obtain ⟨k, V, Z, up, hk, hk7, rfl, rfl, hV, hg, hZ, hb⟩ := hrel
    subst hV
    have HB : Hid (Below w.heap.size w wr) := hb
    have HZ : Hid (Ld 87 wr w.heap.size V Z) := hZ
    have HG : Hid (Grow Z k up) := hg
    have hu0 := hg.low
    have hu1 := hg.top
    have hzl : Z.length ≤ 1000000 := by rw [hg.len]; omega
    clear hZ hg
    by_cases hlt : k < len ∧ k < 7
    · obtain ⟨hl1, hl2⟩ := hlt
      have hd1 : decide ((k : Int) < (len : Int)) = true := by simp; omega
      have hd2 : decide ((k : Int) < 7) = true := by simp; omega
      obtain ⟨b, off, rfl, hbl, hc⟩ := HM.out.row.at (by omega)
      have hw1 := (HM.out.wf (rs.getD k du0) (by have : k < rs.length := by rw [HM.out.row.1]; exact hl1
                                                 simp [List.getD, List.getElem?_eq_getElem this]))
      have c0 : wr.cell? ⟨b, off + k * 2, none⟩ = some (.int .i64 (rs.getD k du0).a) := (hb.cell (p := ⟨b, off + k * 2, none⟩) hbl).trans (hc k hl1).1
      have c1 : wr.cell? ⟨b, off + k * 2 + 1, none⟩ = some (.int .i64 (rs.getD k du0).b) := (hb.cell (p := ⟨b, off + k * 2 + 1, none⟩) hbl).trans (hc k hl1).2
      have HP1 : Hid (∀ W, Calls Try.prog 15 #[.int .i64 (rs.getD k du0).a, .int .i64 1000000] W fun e w' => e = .returned (.int .i64 (pick (rs.getD k du0).a 1000000)) ∧ w' = W) := fun W => picked_any _ _ W hw1.1 (by decide) (by decide)
      have HP2 : Hid (∀ W, Calls Try.prog 15 #[.int .i64 (rs.getD k du0).b, .int .i64 100000] W fun e w' => e = .returned (.int .i64 (pick (rs.getD k du0).b 100000)) ∧ w' = W) := fun W => picked_any _ _ W hw1.2 (by decide) (by decide)
      have q1 := pick_nonneg (rs.getD k du0).a 1000000 (by decide)
      have q2 := pick_lt (rs.getD k du0).a 1000000 (by decide)
      have q3 := pick_nonneg (rs.getD k du0).b 100000 (by decide)
      have q4 := pick_lt (rs.getD k du0).b 100000 (by decide)
      clear hc hb hw1
      generalize pick (rs.getD k du0).a 1000000 = d at *
      generalize pick (rs.getD k du0).b 100000 = p at *
      generalize (rs.getD k du0).a = x at *
      generalize (rs.getD k du0).b = y at *
      have HGN : Hid (Grow (Z ++ [⟨up + (1 + d), 1 + p⟩]) (k + 1) (up + (1 + d))) := HG.out.step (by omega) (by omega) (by omega) (by omega)
      go_wp2_with fail
      refine (HP1.out _).mono ?_
      rintro e w2 ⟨rfl, hw2⟩
      subst hw2
      go_wp2_with fail
      refine (HP2.out _).mono ?_
      rintro e w2 ⟨rfl, hw2⟩
      subst hw2
      have HBA : Hid (Below w.heap.size w (w2.alloc (.cells #[.int .i64 (up + (1 + d)), .int .i64 (1 + p)] 87))) := HB.out.alloc HB.out.size _
      have HZA : Hid (Ld 87 (w2.alloc (.cells #[.int .i64 (up + (1 + d)), .int .i64 (1 + p)] 87)) w.heap.size V Z) := HZ.out.alloc _
      have HCA : Hid ((w2.alloc (.cells #[.int .i64 (up + (1 + d)), .int .i64 (1 + p)] 87)).cell? ⟨w2.heap.size, 0, none⟩ = some (.int .i64 (up + (1 + d))) ∧ (w2.alloc (.cells #[.int .i64 (up + (1 + d)), .int .i64 (1 + p)] 87)).cell? ⟨w2.heap.size, 1, none⟩ = some (.int .i64 (1 + p))) := ⟨(Blk.new w2 _ _).cell 0, (Blk.new w2 _ _).cell 1⟩
      go_wp2_with (first
        | (at_builtin; refine wp_pair stepT2 rfl _ _ rfl w.heap.size w2.heap.size V Z ⟨up + (1 + d), 1 + p⟩ rfl rfl HZA.out HCA.out hzl HBA.out.size ?_)
        | fail)
      intro v3 w3 h3 hg3
      have HB3 : Hid (Below w.heap.size w w3) := own_bel HZA.out hg3 HBA.out (Nat.le_refl _) HBA.out.size
      have H3 : Hid (Ld 87 w3 w.heap.size v3 (Z ++ [⟨up + (1 + d), 1 + p⟩])) := h3
      clear h3 hg3 HZA HCA HBA HZ c0 c1
      go_wp2_with fail
      go_roundw
      case rel => exact ⟨k + 1, v3, _, _, by omega, by omega, by go_num, rfl, by first | rfl | trivial, HGN.out, H3.out, HB3.out⟩
      case measure => simp [intOf]; omega
    · have HRT : Hid (∀ p, 1 ≤ p → p ≤ 100000 → Right (Z ++ [⟨10000000, p⟩])) := fun p p1 p2 => HG.out.right hk7 p1 p2
      have hq : Int.tmod up 100000 = up % 100000 := Int.tmod_eq_emod_of_nonneg hu0
      have r0 : 0 ≤ up % 100000 := by omega
      have r1 : up % 100000 < 100000 := by omega
      generalize up % 100000 = r at *
      have HBA : Hid (Below w.heap.size w (wr.alloc (.cells #[.int .i64 10000000, .int .i64 (1 + r)] 87))) := HB.out.alloc HB.out.size _
      have HZA : Hid (Ld 87 (wr.alloc (.cells #[.int .i64 10000000, .int .i64 (1 + r)] 87)) w.heap.size V Z) := HZ.out.alloc _
      have HCA : Hid ((wr.alloc (.cells #[.int .i64 10000000, .int .i64 (1 + r)] 87)).cell? ⟨wr.heap.size, 0, none⟩ = some (.int .i64 10000000) ∧ (wr.alloc (.cells #[.int .i64 10000000, .int .i64 (1 + r)] 87)).cell? ⟨wr.heap.size, 1, none⟩ = some (.int .i64 (1 + r))) := ⟨(Blk.new wr _ _).cell 0, (Blk.new wr _ _).cell 1⟩
      have HRR : Hid (Right (Z ++ [⟨10000000, 1 + r⟩])) := HRT.out _ (by omega) (by omega)
      clear hb HRT
      by_cases hl1 : k < len
      · have hd1 : decide ((k : Int) < (len : Int)) = true := by simp; omega
        obtain rfl : k = 7 := by omega
        clear hlt hk7
        go_wp2_with (first
          | (at_builtin; refine wp_pair stepT2 rfl _ _ rfl w.heap.size wr.heap.size V Z ⟨10000000, 1 + r⟩ rfl rfl HZA.out HCA.out hzl HBA.out.size ?_)
          | fail)
        intro v3 w3 h3 hg3
        have HB3 : Hid (Below w.heap.size w w3) := own_bel HZA.out hg3 HBA.out (Nat.le_refl _) HBA.out.size
        have H3 : Hid (Ld 87 w3 w.heap.size v3 (Z ++ [⟨10000000, 1 + r⟩])) := h3
        clear h3 hg3 HZA HCA HBA HZ
        go_wp2_with fail
        go_ret
        exact ⟨v3, _, rfl, HRR.out, H3.out, HB3.out⟩
      · have hd1 : decide ((k : Int) < (len : Int)) = false := by simp; omega
        clear hlt
        go_wp2_with (first
          | (at_builtin; refine wp_pair stepT2 rfl _ _ rfl w.heap.size wr.heap.size V Z ⟨10000000, 1 + r⟩ rfl rfl HZA.out HCA.out hzl HBA.out.size ?_)
          | fail)
        intro v3 w3 h3 hg3
        have HB3 : Hid (Below w.heap.size w w3) := own_bel HZA.out hg3 HBA.out (Nat.le_refl _) HBA.out.size
        have H3 : Hid (Ld 87 w3 w.heap.size v3 (Z ++ [⟨10000000, 1 + r⟩])) := h3
        clear h3 hg3 HZA HCA HBA HZ
        go_wp2_with fail
        go_ret
        exact ⟨v3, _, rfl, HRR.out, H3.out, HB3.out⟩

end Go.Proofs.Ytlolippocnngcab.tar
