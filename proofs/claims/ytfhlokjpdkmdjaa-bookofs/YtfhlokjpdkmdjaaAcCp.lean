/- An account copied, as the document has it. -/
import Derived.Test.YtfhlokjpdkmdjaaSh
import Derived.Test.YtfhlokjpdkmdjaaAcU
import Derived.Test.YtfhlokjpdkmdjaaDbK
import Derived.Test.YtfhlokjpdkmdjaaLetS
import Derived.Test.YtfhlokjpdkmdjaaBlk
import Derived.Deep.DeepCutAuto
namespace Go.Proofs.Ytfhlokjpdkmdjaa.acc
open Go.Proofs.Ytfhlokjpdkmdjaa.tar (Du du0 Came RowD Ld PairT)
open Go.RowKit
set_option maxRecDepth 100000
set_option linter.unusedVariables false
set_option linter.unusedSimpArgs false

set_option maxHeartbeats 4000000 in
theorem rcopyL (x : Ac) (p : Option Addr) (len cap : Nat) (w : World) (h : RowD w p len x.ds) (hm : deb.Mays x.ds) : Calls Try.prog 69 #[.agg #[.int .i64 x.me, .int .i64 x.rv, .int .i64 x.nx, .int .i64 x.mo, .int .i64 x.bo, .int .i64 x.fr, .slice p len cap]] w fun e w' => ∃ p' cap', e = .returned (Ac.v x p' len cap') ∧ deb.Fresh w' w.heap.size p' len cap' x.ds ∧ Ld 25 w' w.heap.size (.slice p' len cap') x.ds ∧ Below w.heap.size w w' := by
  have hlen := h.1
  have hl8 : len ≤ 8 := by have := hm.1; omega
  obtain ⟨W2, HWW, H0d, H0r, H0B, hs1⟩ := sh2 w #[.int .i64 x.me, .int .i64 x.rv, .int .i64 x.nx, .int .i64 x.mo, .int .i64 x.bo, .int .i64 x.fr, .slice p len cap] 55 #[.int .i64 0, .int .i64 0, .int .i64 0, .int .i64 0, .int .i64 0, .int .i64 0, .slice none 0 0] 55
  have HROW : Hid (RowD W2 p len x.ds) := h.below H0B.out
  have HM : Hid (deb.Mays x.ds) := hm
  have HLEN : Hid (x.ds.length = len) := hlen
  clear h hm hlen
  go_enter Try.func69, Try.ntmps69
  go_upto_region 1 with fail
  rw [HWW.out]
  clear HWW
  go_wp2_with fail
  go_loopw [3, 4] (fun u z wr => ∃ (k : Nat) (V : Value), k ≤ len ∧ z = .int .i64 (k : Int) ∧ V = u ∧ Ld 25 wr W2.heap.size V (x.ds.take k) ∧ Below W2.heap.size W2 wr) (fun _ z _ => len - (intOf z).toNat)
  case atStart => exact ⟨0, _, Nat.zero_le _, rfl, rfl, tar.Ld.zero _ _ _, Below.refl _ _⟩
  case round =>
    obtain ⟨k, V, hk, rfl, hV, hu, hb⟩ := hrel
    subst hV
    have HBW : Hid (Below W2.heap.size W2 wr) := hb
    have HU : Hid (Ld 25 wr W2.heap.size V (x.ds.take k)) := hu
    have HKd : Hid (Blk wr w.heap.size #[.int .i64 x.me, .int .i64 x.rv, .int .i64 x.nx, .int .i64 x.mo, .int .i64 x.bo, .int .i64 x.fr, .slice p len cap] 55) := H0d.out.below hb (by omega)
    have HKr : Hid (Blk wr (w.heap.size + 1) #[.int .i64 0, .int .i64 0, .int .i64 0, .int .i64 0, .int .i64 0, .int .i64 0, .slice none 0 0] 55) := H0r.out.below hb (by omega)
    have c6 : wr.cell? ⟨w.heap.size, 6, none⟩ = some (.slice p len cap) := HKd.out.cell 6
    by_cases hlt : k < len
    · have hdl : decide ((k : Int) < (len : Int)) = true := by simp; omega
      have hkl : k < x.ds.length := by rw [HLEN.out]; exact hlt
      obtain ⟨b, off, rfl, hbl, hc⟩ := HROW.out.at (by omega)
      have c0 : wr.cell? ⟨b, off + k * 2, none⟩ = some (.int .i64 (x.ds.getD k du0).a) := (hb.cell (p := ⟨b, off + k * 2, none⟩) hbl).trans (hc k hlt).1
      have c1 : wr.cell? ⟨b, off + k * 2 + 1, none⟩ = some (.int .i64 (x.ds.getD k du0).b) := (hb.cell (p := ⟨b, off + k * 2 + 1, none⟩) hbl).trans (hc k hlt).2
      have HTK : Hid (x.ds.take (k + 1) = x.ds.take k ++ [⟨(x.ds.getD k du0).a, (x.ds.getD k du0).b⟩]) := tar.take_one x.ds k hkl
      have hzl : (x.ds.take k).length ≤ 1000000 := by rw [List.length_take]; omega
      clear hc hb hu hkl
      generalize x.ds.take k = Z at *
      generalize (x.ds.getD k du0).a = da at *
      generalize (x.ds.getD k du0).b = db at *
      have HBA : Hid (Below W2.heap.size W2 (wr.alloc (.cells #[.int .i64 da, .int .i64 db] 25))) := HBW.out.alloc HBW.out.size _
      have HZA : Hid (Ld 25 (wr.alloc (.cells #[.int .i64 da, .int .i64 db] 25)) W2.heap.size V Z) := HU.out.alloc _
      have HCA : Hid ((wr.alloc (.cells #[.int .i64 da, .int .i64 db] 25)).cell? ⟨wr.heap.size, 0, none⟩ = some (.int .i64 da) ∧ (wr.alloc (.cells #[.int .i64 da, .int .i64 db] 25)).cell? ⟨wr.heap.size, 1, none⟩ = some (.int .i64 db)) := ⟨(Blk.new wr _ _).cell 0, (Blk.new wr _ _).cell 1⟩
      clear HKd HKr
      go_wp2_with (first
        | (at_builtin; refine tar.wp_pair deb.debtT rfl _ _ rfl W2.heap.size wr.heap.size V Z ⟨da, db⟩ rfl rfl HZA.out HCA.out hzl HBA.out.size ?_)
        | fail)
      intro v3 w3 h3 hg3
      have HB3 : Hid (Below W2.heap.size W2 w3) := tar.own_bel HZA.out hg3 HBA.out (Nat.le_refl _) HBA.out.size
      have H3 : Hid (Ld 25 w3 W2.heap.size v3 (Z ++ [⟨da, db⟩])) := h3
      clear h3 hg3 HZA HCA HBA HU c0 c1 c6
      go_wp2_with fail
      go_roundw
      case rel => exact ⟨k + 1, v3, by omega, by go_num, by first | rfl | trivial, by rw [HTK.out]; exact H3.out, HB3.out⟩
      case measure => simp [intOf]; omega
    · obtain rfl : len = k := by omega
      have hdl : decide ((len : Int) < (len : Int)) = false := by simp
      have htk : x.ds.take len = x.ds := List.take_of_length_le (by rw [HLEN.out]; exact Nat.le_refl _)
      rw [htk] at hu
      obtain ⟨p3, cap3, hv3, hcm⟩ := deb.ld_fresh hu HM.out
      subst hv3
      rw [HLEN.out] at hcm ⊢
      have HCM : Hid (deb.Fresh wr W2.heap.size p3 len cap3 x.ds) := hcm
      have HLD : Hid (Ld 25 wr W2.heap.size (.slice p3 len cap3) x.ds) := by have hu2 := hu; rw [HLEN.out] at hu2; exact hu2
      have HBF : Hid (Below w.heap.size w wr) := H0B.out.trans (hb.mono (by omega))
      clear hb hu hcm htk HU HBW
      go_wp2_with (first
        | (refine wp_letS rfl 53 _ _ rfl (w.heap.size) 6 rfl p3 len cap3 rfl (by kernel_rfl) #[.int .i64 x.me, .int .i64 x.rv, .int .i64 x.nx, .int .i64 x.mo, .int .i64 x.bo, .int .i64 x.fr, .slice p len cap] 55 HKd.out (by simp) ?_)
        | fail)
      intro W3 hU
      have H3d : Hid (Blk W3 w.heap.size #[.int .i64 x.me, .int .i64 x.rv, .int .i64 x.nx, .int .i64 x.mo, .int .i64 x.bo, .int .i64 x.fr, .slice p3 len cap3] 55) := hU.blk
      have H3r := shK hU HKr (by omega)
      have H3B := shV hU HBF (by omega)
      have H3C : Hid (deb.Fresh W3 W2.heap.size p3 len cap3 x.ds) := fresh_upd HCM.out hU (by omega)
      have H3L : Hid (Ld 25 W3 W2.heap.size (.slice p3 len cap3) x.ds) := ld_upd HLD.out hU (by omega)
      clear hU c6 HKd HKr HBF HCM HLD
      go_wp2_with (first
        | (refine wp_whole rfl 55 _ rfl _ rfl 55 _ _ H3d.out Try.underlying55 rfl (by kernel_rfl) ?_)
        | (refine wp_letAll rfl 55 _ _ rfl _ rfl _ rfl (by kernel_rfl) (by simp [Value.oneCell']) _ 55 H3r.out rfl ?_)
        | fail)
      intro WF hU
      have H9r : Hid (Blk WF (w.heap.size + 1) #[.int .i64 x.me, .int .i64 x.rv, .int .i64 x.nx, .int .i64 x.mo, .int .i64 x.bo, .int .i64 x.fr, .slice p3 len cap3] 55) := hU.blk
      have H9B := shV hU H3B (by omega)
      have H9C : Hid (deb.Fresh WF w.heap.size p3 len cap3 x.ds) := (fresh_upd H3C.out hU (by omega)).low (by omega)
      have H9L : Hid (Ld 25 WF w.heap.size (.slice p3 len cap3) x.ds) := (ld_upd H3L.out hU (by omega)).low (by omega)
      clear hU H3d H3r H3B H3C H3L
      obtain ⟨Rr0, Rr1, Rr2, Rr3, Rr4, Rr5, Rr6⟩ := shc7 H9r
      go_wp2_with fail
      exact bodyPost_ret (v := .agg #[.int .i64 x.me, .int .i64 x.rv, .int .i64 x.nx, .int .i64 x.mo, .int .i64 x.bo, .int .i64 x.fr, .slice p3 len cap3]) (by simp [results, Try.results69, Rr0.out, Rr1.out, Rr2.out, Rr3.out, Rr4.out, Rr5.out, Rr6.out, go_sem]) rfl ⟨p3, cap3, rfl, H9C.out, H9L.out, H9B.out⟩
theorem rcopy (x : Ac) (p : Option Addr) (len cap : Nat) (w : World) (h : RowD w p len x.ds) (hm : deb.Mays x.ds) : Calls Try.prog 69 #[.agg #[.int .i64 x.me, .int .i64 x.rv, .int .i64 x.nx, .int .i64 x.mo, .int .i64 x.bo, .int .i64 x.fr, .slice p len cap]] w fun e w' => ∃ p' cap', e = .returned (Ac.v x p' len cap') ∧ deb.Fresh w' w.heap.size p' len cap' x.ds ∧ Below w.heap.size w w' :=
  (rcopyL x p len cap w h hm).mono fun e w' hh => by
    obtain ⟨p', cap', he, hf, _, hb⟩ := hh
    exact ⟨p', cap', he, hf, hb⟩

end Go.Proofs.Ytfhlokjpdkmdjaa.acc
