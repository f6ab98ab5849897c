/- The statement DiskReplays. -/
import Derived.Test.YtfllkhlnnihndaaKkR
import Derived.Test.YtfllkhlnnihndaaDkR
import Derived.Test.YtfllkhlnnihndaaDkE
import Derived.Test.YtfllkhlnnihndaaClCopy
import Derived.Test.YtfllkhlnnihndaaWSame
namespace Go.Proofs.Ytfllkhlnnihndaa.disk
open Go.RowKit Go.Proofs.Ytfllkhlnnihndaa.cell
set_option maxRecDepth 100000
set_option linter.unusedVariables false

theorem got_of {w w' : World} {c : List Int} {e : Ending} (h : RepPost w c e w') : RepGot w c e w' := by
  obtain ⟨V, sl, out, x, f, rfl, h1, h2, h3, h4⟩ := h
  obtain ⟨q1, q2⟩ := rep_few h3
  obtain ⟨a, cap, rfl, hr⟩ := reads_of h1 h2 (fun i hi => by
    rw [← (h2.2 i hi).2.1]
    have hi' : i < out.length := h2.1 ▸ hi
    have := q2 (out.getD i []) (by rw [List.getD_eq_getElem?_getD, List.getElem?_eq_getElem hi']; exact List.getElem_mem _)
    omega)
  exact ⟨a, _, cap, out, x, f, rfl, hr, by omega, h3, h4⟩
set_option maxHeartbeats 2000000 in
theorem DiskReplays_walk (K : KReplay) (a : Option Addr) (n cap : Nat) (c : List Int) (w : World) (h : RowU w a n c) (h1 : a = none → cap = 0) (h2 : n ≤ cap) (h3 : n * 4 ≤ 140737488351232) (hw : ∀ x ∈ c, 0 ≤ x ∧ x < 4294967296) :
    Calls Try.prog 3 #[.slice a n cap] w fun e w' => e = .returned (.bool true) ∧ Below w.heap.size w w' := by
  have H0 : Hid (Calls Try.prog 9 #[.slice a n cap] w fun e w' => GaveU w c e w') := words_any a n cap c w h h1 h3
  have HK : Hid (∀ W a1 cap1, RowU W a1 n c → (a1 = none → cap1 = 0) → n ≤ cap1 → Calls Try.prog 10 #[.slice a1 n cap1] W fun e w' => RepGot W c e w') := fun W a1 cap1 q1 q2 q3 => (K W a1 n cap1 c q1 q2 q3 h3 hw).mono fun _ _ hh => hh.got
  have HR : Hid (∀ W, Below w.heap.size w W → Calls Try.prog 11 #[.slice a n cap] W fun e w' => RepGot W c e w') := fun W hB => (replayed a n cap c W (h.below hB) hw).mono fun e w' hh => got_of hh
  have HSW : Hid (∀ W a1 cap1, Below w.heap.size w W → RowU W a1 n c → Calls Try.prog 13 #[.slice a n cap, .slice a1 n cap1] W fun e w' => e = .returned (.bool true) ∧ Below W.heap.size W w') := fun W a1 cap1 hB q => words_law a a1 n cap cap1 c W (h.below hB) q (by unfold maxLen; omega)
  have HCL : Hid (c.length = n) := h.1
  clear h h1 h2 h3 hw
  go_enter Try.func3, Try.ntmps3
  go_wp2_with fail
  refine H0.out.mono ?_
  rintro e w1 ⟨v1, rfl, hws, hb1⟩
  obtain ⟨a1, cap1, rfl, hd, hnn, hle⟩ := hws.row
  rw [HCL.out] at hd hle ⊢
  have HD1 : Hid (RowU w1 a1 n c) := hd
  have HB1 : Hid (Below w.heap.size w w1) := hb1
  have HK1 : Hid (Calls Try.prog 10 #[.slice a1 n cap1] w1 fun e w' => RepGot w1 c e w') := HK.out w1 a1 cap1 hd hnn hle
  clear hd hb1 H0 HK hws hnn hle
  go_wp2_with fail
  refine HK1.out.mono ?_
  rintro e w2 ⟨ra, rn, rc, o2, x, f, rfl, hr2, hn2, hi2, hb2⟩
  have HB2 : Hid (Below w.heap.size w w2) := HB1.out.trans (hb2.mono HB1.out.size)
  have HD2 : Hid (RowU w2 a1 n c) := HD1.out.below hb2
  clear HB1 HD1 HK1
  go_wp2_with fail
  refine (HR.out _ HB2.out).mono ?_
  rintro e w3 ⟨sa, sn, sc, o3, y, g, rfl, hr3, hn3, hi3, hb3⟩
  obtain ⟨rfl, rfl, rfl⟩ := hi2.one hi3
  obtain rfl : rn = sn := hr2.1.symm.trans hr3.1
  have HB3 : Hid (Below w.heap.size w w3) := HB2.out.trans (hb3.mono HB2.out.size)
  have HD3 : Hid (RowU w3 a1 n c) := HD2.out.below hb3
  have HS3 : Hid (Calls Try.prog 12 #[.slice ra rn rc, .slice sa rn sc] w3 fun e w' => e = .returned (.bool true) ∧ Below w3.heap.size w3 w') := records_law ra sa rn rc sc o2 w3 (hr2.below hb3) hr3 hn2
  have ex : (x == x) = true := by simp
  have ef : (f == f) = true := by simp
  clear hr2 hi2 hb2 hr3 hi3 hb3 HB2 HD2 HR
  go_wp2_with fail
  refine HS3.out.mono ?_
  rintro e w4 ⟨rfl, hb4⟩
  have HB4 : Hid (Below w.heap.size w w4) := HB3.out.trans (hb4.mono HB3.out.size)
  have HD4 : Hid (RowU w4 a1 n c) := HD3.out.below hb4
  clear hb4 HB3 HD3 HS3
  go_wp2_with fail
  refine (HSW.out _ a1 cap1 HB4.out HD4.out).mono ?_
  rintro e w5 ⟨rfl, hb5⟩
  have HB5 : Hid (Below w.heap.size w w5) := HB4.out.trans (hb5.mono HB4.out.size)
  clear hb5 HB4 HD4 HSW
  go_wp2_with fail
  go_ret
  exact ⟨rfl, HB5.out⟩

end Go.Proofs.Ytfllkhlnnihndaa.disk
