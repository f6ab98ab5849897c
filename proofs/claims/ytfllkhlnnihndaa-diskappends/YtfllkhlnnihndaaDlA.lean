/- The statement DiskAppends. -/
import Derived.Test.YtfllkhlnnihndaaKkA
import Derived.Test.YtfllkhlnnihndaaDkA
import Derived.Test.YtfllkhlnnihndaaClCopy
import Derived.Test.YtfllkhlnnihndaaWSame
import Derived.Test.YtfllkhlnnihndaaClSame
namespace Go.Proofs.Ytfllkhlnnihndaa.disk
open Go.RowKit Go.Proofs.Ytfllkhlnnihndaa.cell
set_option maxRecDepth 100000
set_option linter.unusedVariables false

theorem agot_of {w w' : World} {c r : List Int} {e : Ending} (h : AppPost w c r e w') : AppGot w c r e w' := by
  obtain ⟨V, ls, f, rfl, h1, h3, h4⟩ := h
  have q := app_few h3
  have hlt := World.ownsRow.lt h1
  obtain ⟨a, cap, rfl, hr, _, hle, _⟩ := h1.row
  exact ⟨a, _, cap, ls, f, rfl, hr, fun x hx => (hlt x.block (by rw [hx]; rfl)).1, hle, by omega, h3, h4⟩
set_option maxHeartbeats 2000000 in
theorem DiskAppends_walk (K : KAppend) (a : Option Addr) (n cap : Nat) (c : List Int) (b : Option Addr) (m cap2 : Nat) (r : List Int) (w : World) (h : RowU w a n c) (h1 : a = none → cap = 0) (h2 : n ≤ cap) (h3 : n * 4 ≤ 140737488351232) (hw : ∀ x ∈ c, 0 ≤ x ∧ x < 4294967296) (hr : RowU w b m r) (h1r : b = none → cap2 = 0) (h2r : m ≤ cap2) (h3r : m * 4 ≤ 140737488351232) (hwr : ∀ x ∈ r, 0 ≤ x ∧ x < 4294967296) :
    Calls Try.prog 4 #[.slice a n cap, .slice b m cap2] w fun e w' => e = .returned (.bool true) ∧ Below w.heap.size w w' := by
  have H0 : Hid (Calls Try.prog 9 #[.slice a n cap] w fun e w' => GaveU w c e w') := words_any a n cap c w h h1 h3
  have H0r : Hid (∀ W, Below w.heap.size w W → Calls Try.prog 9 #[.slice b m cap2] W fun e w' => GaveU W r e w') := fun W hB => words_any b m cap2 r W (hr.below hB) h1r h3r
  have HK : Hid (∀ W a1 cap1 b1 cap3, RowU W a1 n c → (a1 = none → cap1 = 0) → n ≤ cap1 → RowU W b1 m r → (b1 = none → cap3 = 0) → m ≤ cap3 → Calls Try.prog 14 #[.slice a1 n cap1, .slice b1 m cap3] W fun e w' => AppGot W c r e w') := fun W a1 cap1 b1 cap3 q1 q2 q3 q4 q5 q6 => K W a1 n cap1 c b1 m cap3 r q1 q2 q3 h3 hw q4 q5 q6 h3r hwr
  have HR : Hid (∀ W, Below w.heap.size w W → Calls Try.prog 15 #[.slice a n cap, .slice b m cap2] W fun e w' => AppGot W c r e w') := fun W hB => (appended a n cap c b m cap2 r W (h.below hB) hw (hr.below hB)).mono fun e w' hh => agot_of hh
  have HSW : Hid (∀ W a1 cap1, Below w.heap.size w W → RowU W a1 n c → Calls Try.prog 13 #[.slice a n cap, .slice a1 n cap1] W fun e w' => e = .returned (.bool true) ∧ Below W.heap.size W w') := fun W a1 cap1 hB q => words_law a a1 n cap cap1 c W (h.below hB) q (by unfold maxLen; omega)
  have HSR : Hid (∀ W b1 cap3, Below w.heap.size w W → RowU W b1 m r → Calls Try.prog 13 #[.slice b1 m cap3, .slice b m cap2] W fun e w' => e = .returned (.bool true) ∧ Below W.heap.size W w') := fun W b1 cap3 hB q => words_law b1 b m cap3 cap2 r W q (hr.below hB) (by unfold maxLen; omega)
  have HCL : Hid (c.length = n ∧ r.length = m) := ⟨h.1, hr.1⟩
  clear h h1 h2 h3 hw hr h1r h2r h3r hwr
  go_enter Try.func4, Try.ntmps4
  go_wp2_with fail
  refine H0.out.mono ?_
  rintro e w1 ⟨v1, rfl, hws, hb1⟩
  obtain ⟨a1, cap1, rfl, hd, hnn, hle⟩ := hws.row
  rw [HCL.out.1] at hd hle ⊢
  have HD1 : Hid (RowU w1 a1 n c) := hd
  have HB1 : Hid (Below w.heap.size w w1) := hb1
  have HNN : Hid ((a1 = none → cap1 = 0) ∧ n ≤ cap1) := ⟨hnn, hle⟩
  clear hd hb1 H0 hws hnn hle
  go_wp2_with fail
  refine (H0r.out _ HB1.out).mono ?_
  rintro e w2 ⟨v2, rfl, hws, hb2⟩
  obtain ⟨b1, cap3, rfl, hd, hnn, hle⟩ := hws.row
  rw [HCL.out.2] at hd hle ⊢
  have HE2 : Hid (RowU w2 b1 m r) := hd
  have HD2 : Hid (RowU w2 a1 n c) := HD1.out.below hb2
  have HB2 : Hid (Below w.heap.size w w2) := HB1.out.trans (hb2.mono HB1.out.size)
  have HK1 : Hid (Calls Try.prog 14 #[.slice a1 n cap1, .slice b1 m cap3] w2 fun e w' => AppGot w2 c r e w') := HK.out w2 a1 cap1 b1 cap3 HD2.out HNN.out.1 HNN.out.2 hd hnn hle
  clear hd hb2 H0r hws hnn hle HNN HK HB1 HD1
  go_wp2_with fail
  refine HK1.out.mono ?_
  rintro e w3 ⟨ra, rn, rc, o2, f, rfl, hr2, _, hle2, hn2, hi2, hb3⟩
  have HB3 : Hid (Below w.heap.size w w3) := HB2.out.trans (hb3.mono HB2.out.size)
  have HD3 : Hid (RowU w3 a1 n c) := HD2.out.below hb3
  have HE3 : Hid (RowU w3 b1 m r) := HE2.out.below hb3
  clear HB2 HD2 HE2 HK1 hb3
  go_wp2_with fail
  refine (HR.out _ HB3.out).mono ?_
  rintro e w4 ⟨sa, sn, sc, o3, g, rfl, hr3, _, hle3, hn3, hi3, hb4⟩
  obtain ⟨rfl, rfl⟩ := hi2.one hi3
  obtain rfl : rn = sn := hr2.1.symm.trans hr3.1
  have HB4 : Hid (Below w.heap.size w w4) := HB3.out.trans (hb4.mono HB3.out.size)
  have HD4 : Hid (RowU w4 a1 n c) := HD3.out.below hb4
  have HE4 : Hid (RowU w4 b1 m r) := HE3.out.below hb4
  have HS4 : Hid (Calls Try.prog 16 #[.slice ra rn rc, .slice sa rn sc] w4 fun e w' => e = .returned (.bool true) ∧ Below w4.heap.size w4 w') := writes_law ra sa rn rc sc o2 w4 (hr2.below hb4) hr3 (by unfold maxLen; omega)
  have ef : (f == f) = true := by simp
  clear hr2 hi2 hr3 hi3 hb4 HB3 HD3 HE3 HR
  go_wp2_with fail
  refine HS4.out.mono ?_
  rintro e w5 ⟨rfl, hb5⟩
  have HB5 : Hid (Below w.heap.size w w5) := HB4.out.trans (hb5.mono HB4.out.size)
  have HD5 : Hid (RowU w5 a1 n c) := HD4.out.below hb5
  have HE5 : Hid (RowU w5 b1 m r) := HE4.out.below hb5
  clear hb5 HB4 HD4 HE4 HS4
  go_wp2_with fail
  refine (HSW.out _ a1 cap1 HB5.out HD5.out).mono ?_
  rintro e w6 ⟨rfl, hb6⟩
  have HB6 : Hid (Below w.heap.size w w6) := HB5.out.trans (hb6.mono HB5.out.size)
  have HD6 : Hid (RowU w6 a1 n c) := HD5.out.below hb6
  have HE6 : Hid (RowU w6 b1 m r) := HE5.out.below hb6
  clear hb6 HB5 HD5 HE5 HSW
  go_wp2_with fail
  refine (HSR.out _ b1 cap3 HB6.out HE6.out).mono ?_
  rintro e w7 ⟨rfl, hb7⟩
  have HB7 : Hid (Below w.heap.size w w7) := HB6.out.trans (hb7.mono HB6.out.size)
  clear hb7 HB6 HD6 HE6 HSR
  go_wp2_with fail
  go_ret
  exact ⟨rfl, HB7.out⟩

end Go.Proofs.Ytfllkhlnnihndaa.disk
