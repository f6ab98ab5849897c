import Derived.Test.YtgipkpkjoicehaaPkD
import Derived.Test.YtgipkpkjoicehaaSlL
import Derived.Test.YtgipkpkjoicehaaMpR
import Derived.Test.YtgipkpkjoicehaaSlT
import Derived.Test.YtgipkpkjoicehaaMtX
import Derived.Test.YtgipkpkjoicehaaWRow
import Derived.Test.YtgipkpkjoicehaaClCopy
import Derived.Test.YtgipkpkjoicehaaMtE
import Derived.Test.YtgipkpkjoicehaaLetG
import Derived.Test.YtgipkpkjoicehaaRows
import Derived.Test.YtgipkpkjoicehaaMtD
import Derived.WalkKit
import Derived.ProofKit
import Derived.OpenShut
import Derived.Below
import Derived.ChangeSame
import Derived.Lib.SmallJoins

/- The program boots a pocket. -/
namespace Go.Proofs.Ytgipkpkjoicehaa.pkt
open Go.RowKit Go.Proofs.Ytgipkpkjoicehaa.met Go.Proofs.Ytgipkpkjoicehaa.slot Go.Proofs.Ytgipkpkjoicehaa.cell
set_option maxRecDepth 100000
set_option linter.unusedVariables false
set_option linter.unusedSimpArgs false

set_option maxHeartbeats 1000000 in
theorem pboot_no (a : Option Addr) (n cap : Nat) (f : Int) (w : World) (hf : f ≠ 0) (hL : ∀ W, Below w.heap.size w W → Calls Try.prog 19 #[.slice a n cap, .int .i64 5] W fun e w' => GaveR W [] f e w') :
    Calls Try.prog 10 #[.slice a n cap] w fun e w' => e = .returned (.tuple #[.agg #[.int .i64 0, .int .i64 0, .int .i64 0, .int .i64 0, .int .u64 0, .int .i64 0, .int .i64 0], .int .i64 f]) ∧ Below w.heap.size w w' := by
  have HL : Hid (∀ W, Below w.heap.size w W → Calls Try.prog 19 #[.slice a n cap, .int .i64 5] W fun e w' => GaveR W [] f e w') := hL
  have hd : (f != 0) = true := by simpa using hf
  clear hL hf
  have H0r : Hid (Blk (w.alloc (.cells #[.int .i64 0, .int .i64 0, .int .i64 0, .int .i64 0, .int .u64 0, .int .i64 0, .int .i64 0] 33)) (w.heap.size) #[.int .i64 0, .int .i64 0, .int .i64 0, .int .i64 0, .int .u64 0, .int .i64 0, .int .i64 0] 33) := Blk.new w _ _
  have H0B : Hid (Below w.heap.size w (w.alloc (.cells #[.int .i64 0, .int .i64 0, .int .i64 0, .int .i64 0, .int .u64 0, .int .i64 0, .int .i64 0] 33))) := (Below.refl w.heap.size w).alloc (by simp) _
  go_enter Try.func10, Try.ntmps10
  go_wp2_with fail
  refine (HL.out _ H0B.out).mono ?_
  rintro e w1 ⟨x1, c1, rfl, hr1, _, hb1⟩
  have H1r : Hid (Blk w1 (w.heap.size) #[.int .i64 0, .int .i64 0, .int .i64 0, .int .i64 0, .int .u64 0, .int .i64 0, .int .i64 0] 33) := H0r.out.next hb1
  have H1B : Hid (Below w.heap.size w w1) := bel_step H0B.out hb1
  clear H0r H0B hb1 HL
  go_wp2_with (first | (refine wp_letAll rfl 33 _ _ rfl (w.heap.size) rfl #[.int .i64 0, .int .i64 0, .int .i64 0, .int .i64 0, .int .u64 0, .int .i64 0, .int .i64 0] rfl (by kernel_rfl) (by simp [Value.oneCell']) #[.int .i64 0, .int .i64 0, .int .i64 0, .int .i64 0, .int .u64 0, .int .i64 0, .int .i64 0] 33 H1r.out rfl ?_) | fail)
  intro WF hU
  have H2r : Hid (Blk WF (w.heap.size) #[.int .i64 0, .int .i64 0, .int .i64 0, .int .i64 0, .int .u64 0, .int .i64 0, .int .i64 0] 33) := hU.blk
  have H2B : Hid (Below w.heap.size w WF) := hU.bel _ _ (by omega) H1B.out
  clear hU H1r H1B  
  have HBF : Hid (Below w.heap.size w WF) := H2B.out
  have Rr0 : Hid (WF.cell? ⟨w.heap.size, 0, none⟩ = some (.int .i64 0)) := H2r.out.cell 0
  have Rr1 : Hid (WF.cell? ⟨w.heap.size, 1, none⟩ = some (.int .i64 0)) := H2r.out.cell 1
  have Rr2 : Hid (WF.cell? ⟨w.heap.size, 2, none⟩ = some (.int .i64 0)) := H2r.out.cell 2
  have Rr3 : Hid (WF.cell? ⟨w.heap.size, 3, none⟩ = some (.int .i64 0)) := H2r.out.cell 3
  have Rr4 : Hid (WF.cell? ⟨w.heap.size, 4, none⟩ = some (.int .u64 0)) := H2r.out.cell 4
  have Rr5 : Hid (WF.cell? ⟨w.heap.size, 5, none⟩ = some (.int .i64 0)) := H2r.out.cell 5
  have Rr6 : Hid (WF.cell? ⟨w.heap.size, 6, none⟩ = some (.int .i64 0)) := H2r.out.cell 6
  go_wp2_with fail
  exact bodyPost_ret (v := .tuple #[.agg #[.int .i64 0, .int .i64 0, .int .i64 0, .int .i64 0, .int .u64 0, .int .i64 0, .int .i64 0], .int .i64 f]) (by simp [results, Try.results10, Rr0.out, Rr1.out, Rr2.out, Rr3.out, Rr4.out, Rr5.out, Rr6.out, go_sem]) rfl ⟨rfl, HBF.out⟩
set_option maxHeartbeats 1000000 in
theorem pboot_yes (a : Option Addr) (n cap : Nat) (rs : List Int) (w : World) (hn : rs.length = 5) (hL : ∀ W, Below w.heap.size w W → Calls Try.prog 19 #[.slice a n cap, .int .i64 5] W fun e w' => GaveR W rs 0 e w') (hR : ∀ W r c, RowU W r 5 rs → Calls Try.prog 20 #[.slice r 5 c] W fun e w' => ReadPost W rs e w') :
    Calls Try.prog 10 #[.slice a n cap] w fun e w' => ReadPost w rs e w' := by
  have HL : Hid (∀ W, Below w.heap.size w W → Calls Try.prog 19 #[.slice a n cap, .int .i64 5] W fun e w' => GaveR W rs 0 e w') := hL
  have HR : Hid (∀ W r c, RowU W r 5 rs → Calls Try.prog 20 #[.slice r 5 c] W fun e w' => ReadPost W rs e w') := hR
  have HN : Hid (rs.length = 5) := hn
  clear hL hR hn
  have H0r : Hid (Blk (w.alloc (.cells #[.int .i64 0, .int .i64 0, .int .i64 0, .int .i64 0, .int .u64 0, .int .i64 0, .int .i64 0] 33)) (w.heap.size) #[.int .i64 0, .int .i64 0, .int .i64 0, .int .i64 0, .int .u64 0, .int .i64 0, .int .i64 0] 33) := Blk.new w _ _
  have H0B : Hid (Below w.heap.size w (w.alloc (.cells #[.int .i64 0, .int .i64 0, .int .i64 0, .int .i64 0, .int .u64 0, .int .i64 0, .int .i64 0] 33))) := (Below.refl w.heap.size w).alloc (by simp) _
  go_enter Try.func10, Try.ntmps10
  go_wp2_with fail
  refine (HL.out _ H0B.out).mono ?_
  rintro e w1 ⟨x1, c1, rfl, hr1, _, hb1⟩
  have H1r : Hid (Blk w1 (w.heap.size) #[.int .i64 0, .int .i64 0, .int .i64 0, .int .i64 0, .int .u64 0, .int .i64 0, .int .i64 0] 33) := H0r.out.next hb1
  have H1B : Hid (Below w.heap.size w w1) := bel_step H0B.out hb1
  have HX : Hid (RowU w1 x1 5 rs) := by have := HN.out; rw [this] at hr1; exact hr1
  have hn := HN.out
  rw [hn]
  clear H0r H0B hb1 hr1 hn HL HN
  go_wp2_with fail
  refine (HR.out _ _ _ HX.out).mono ?_
  rintro e w2 ⟨m2, f2, rfl, hi2, hb2⟩
  have H2r : Hid (Blk w2 (w.heap.size) #[.int .i64 0, .int .i64 0, .int .i64 0, .int .i64 0, .int .u64 0, .int .i64 0, .int .i64 0] 33) := H1r.out.next hb2
  have H2B : Hid (Below w.heap.size w w2) := bel_step H1B.out hb2
  have HI : Hid (ReadIs rs m2 f2) := hi2
  obtain ⟨me2, rev2, cr2, h2, b2, bad2, lock2⟩ := m2
  unfold Mt.v Mt.cells
  simp only []
  clear H1r H1B hb2 hi2 HR HX
  go_wp2_with (first | (refine wp_letAll rfl 33 _ _ rfl (w.heap.size) rfl #[.int .i64 me2, .int .i64 rev2, .int .i64 cr2, .int .i64 h2, .int .u64 (b2 : Int), .int .i64 bad2, .int .i64 lock2] rfl (by kernel_rfl) (by simp [Value.oneCell']) #[.int .i64 0, .int .i64 0, .int .i64 0, .int .i64 0, .int .u64 0, .int .i64 0, .int .i64 0] 33 H2r.out rfl ?_) | fail)
  intro WF hU
  have H3r : Hid (Blk WF (w.heap.size) #[.int .i64 me2, .int .i64 rev2, .int .i64 cr2, .int .i64 h2, .int .u64 (b2 : Int), .int .i64 bad2, .int .i64 lock2] 33) := hU.blk
  have H3B : Hid (Below w.heap.size w WF) := hU.bel _ _ (by omega) H2B.out
  clear hU H2r H2B  
  have HBF : Hid (Below w.heap.size w WF) := H3B.out
  have Rr0 : Hid (WF.cell? ⟨w.heap.size, 0, none⟩ = some (.int .i64 me2)) := H3r.out.cell 0
  have Rr1 : Hid (WF.cell? ⟨w.heap.size, 1, none⟩ = some (.int .i64 rev2)) := H3r.out.cell 1
  have Rr2 : Hid (WF.cell? ⟨w.heap.size, 2, none⟩ = some (.int .i64 cr2)) := H3r.out.cell 2
  have Rr3 : Hid (WF.cell? ⟨w.heap.size, 3, none⟩ = some (.int .i64 h2)) := H3r.out.cell 3
  have Rr4 : Hid (WF.cell? ⟨w.heap.size, 4, none⟩ = some (.int .u64 (b2 : Int))) := H3r.out.cell 4
  have Rr5 : Hid (WF.cell? ⟨w.heap.size, 5, none⟩ = some (.int .i64 bad2)) := H3r.out.cell 5
  have Rr6 : Hid (WF.cell? ⟨w.heap.size, 6, none⟩ = some (.int .i64 lock2)) := H3r.out.cell 6
  go_wp2_with fail
  exact bodyPost_ret (v := .tuple #[.agg #[.int .i64 me2, .int .i64 rev2, .int .i64 cr2, .int .i64 h2, .int .u64 (b2 : Int), .int .i64 bad2, .int .i64 lock2], .int .i64 f2]) (by simp [results, Try.results10, Rr0.out, Rr1.out, Rr2.out, Rr3.out, Rr4.out, Rr5.out, Rr6.out, go_sem]) rfl ⟨⟨me2, rev2, cr2, h2, b2, bad2, lock2⟩, f2, rfl, HI.out, HBF.out⟩
theorem pboot (a : Option Addr) (n cap : Nat) (xs : List Int) (w : World) (h : RowU w a n xs) (hc : n ≤ cap) (hw : ∀ x ∈ rcd xs 5 (which xs 5), 0 ≤ x ∧ x < 4294967296) :
    Calls Try.prog 10 #[.slice a n cap] w fun e w' => BootPost w xs e w' := by
  have hl := h.1
  by_cases h12 : n = 12
  · subst h12
    by_cases h2 : which xs 5 = 2
    · refine (pboot_no a 12 cap 17 w (by decide) (fun W hB => load_blank a 12 cap 5 xs W (h.below hB) (by decide) (by decide) rfl h2)).mono ?_
      rintro e w' ⟨rfl, hb⟩
      exact ⟨mt0, 17, rfl, .inr (.inl ⟨hl, h2, rfl, rfl⟩), hb⟩
    · have h1 : which xs 5 ≤ 1 := by have := which_le xs 5; omega
      refine (pboot_yes a 12 cap (rcd xs 5 (which xs 5)) w (rcd_len _ _ _) (fun W hB => load_yes a 12 cap 5 _ xs W (h.below hB) hc (by decide) (by decide) rfl rfl h1) (fun W r c hr => pread r 5 c _ W hr hw)).mono ?_
      rintro e w' ⟨m, f, rfl, hi, hb⟩
      exact ⟨m, f, rfl, .inr (.inr ⟨hl, h1, hi⟩), hb⟩
  · refine (pboot_no a n cap 1 w (by decide) (fun W hB => load_size a n cap 5 W (.inr (.inr (by omega))))).mono ?_
    rintro e w' ⟨rfl, hb⟩
    exact ⟨mt0, 1, rfl, .inl ⟨by omega, rfl, rfl⟩, hb⟩

end Go.Proofs.Ytgipkpkjoicehaa.pkt

/- A pocket boots, as the document says. -/
namespace Go.Proofs.Ytgipkpkjoicehaa.pkt
open Go.RowKit Go.Proofs.Ytgipkpkjoicehaa.met Go.Proofs.Ytgipkpkjoicehaa.slot Go.Proofs.Ytgipkpkjoicehaa.cell
set_option maxRecDepth 100000
set_option linter.unusedVariables false
set_option linter.unusedSimpArgs false

set_option maxHeartbeats 1000000 in
theorem rboot_no (a : Option Addr) (n cap : Nat) (f : Int) (w : World) (hf : f ≠ 0) (hL : ∀ W, Below w.heap.size w W → Calls Try.prog 21 #[.slice a n cap, .int .i64 5] W fun e w' => GaveR W [] f e w') :
    Calls Try.prog 11 #[.slice a n cap] w fun e w' => e = .returned (.tuple #[.agg #[.int .i64 0, .int .i64 0, .int .i64 0, .int .i64 0, .int .u64 0, .int .i64 0, .int .i64 0], .int .i64 f]) ∧ Below w.heap.size w w' := by
  have HL : Hid (∀ W, Below w.heap.size w W → Calls Try.prog 21 #[.slice a n cap, .int .i64 5] W fun e w' => GaveR W [] f e w') := hL
  have hd : (f != 0) = true := by simpa using hf
  clear hL hf
  have H0r : Hid (Blk (w.alloc (.cells #[.int .i64 0, .int .i64 0, .int .i64 0, .int .i64 0, .int .u64 0, .int .i64 0, .int .i64 0] 33)) (w.heap.size) #[.int .i64 0, .int .i64 0, .int .i64 0, .int .i64 0, .int .u64 0, .int .i64 0, .int .i64 0] 33) := Blk.new w _ _
  have H0B : Hid (Below w.heap.size w (w.alloc (.cells #[.int .i64 0, .int .i64 0, .int .i64 0, .int .i64 0, .int .u64 0, .int .i64 0, .int .i64 0] 33))) := (Below.refl w.heap.size w).alloc (by simp) _
  go_enter Try.func11, Try.ntmps11
  go_wp2_with fail
  refine (HL.out _ H0B.out).mono ?_
  rintro e w1 ⟨x1, c1, rfl, hr1, _, hb1⟩
  have H1r : Hid (Blk w1 (w.heap.size) #[.int .i64 0, .int .i64 0, .int .i64 0, .int .i64 0, .int .u64 0, .int .i64 0, .int .i64 0] 33) := H0r.out.next hb1
  have H1B : Hid (Below w.heap.size w w1) := bel_step H0B.out hb1
  clear H0r H0B hb1 HL
  go_wp2_with (first | (refine wp_letAll rfl 33 _ _ rfl (w.heap.size) rfl #[.int .i64 0, .int .i64 0, .int .i64 0, .int .i64 0, .int .u64 0, .int .i64 0, .int .i64 0] rfl (by kernel_rfl) (by simp [Value.oneCell']) #[.int .i64 0, .int .i64 0, .int .i64 0, .int .i64 0, .int .u64 0, .int .i64 0, .int .i64 0] 33 H1r.out rfl ?_) | fail)
  intro WF hU
  have H2r : Hid (Blk WF (w.heap.size) #[.int .i64 0, .int .i64 0, .int .i64 0, .int .i64 0, .int .u64 0, .int .i64 0, .int .i64 0] 33) := hU.blk
  have H2B : Hid (Below w.heap.size w WF) := hU.bel _ _ (by omega) H1B.out
  clear hU H1r H1B  
  have HBF : Hid (Below w.heap.size w WF) := H2B.out
  have Rr0 : Hid (WF.cell? ⟨w.heap.size, 0, none⟩ = some (.int .i64 0)) := H2r.out.cell 0
  have Rr1 : Hid (WF.cell? ⟨w.heap.size, 1, none⟩ = some (.int .i64 0)) := H2r.out.cell 1
  have Rr2 : Hid (WF.cell? ⟨w.heap.size, 2, none⟩ = some (.int .i64 0)) := H2r.out.cell 2
  have Rr3 : Hid (WF.cell? ⟨w.heap.size, 3, none⟩ = some (.int .i64 0)) := H2r.out.cell 3
  have Rr4 : Hid (WF.cell? ⟨w.heap.size, 4, none⟩ = some (.int .u64 0)) := H2r.out.cell 4
  have Rr5 : Hid (WF.cell? ⟨w.heap.size, 5, none⟩ = some (.int .i64 0)) := H2r.out.cell 5
  have Rr6 : Hid (WF.cell? ⟨w.heap.size, 6, none⟩ = some (.int .i64 0)) := H2r.out.cell 6
  go_wp2_with fail
  exact bodyPost_ret (v := .tuple #[.agg #[.int .i64 0, .int .i64 0, .int .i64 0, .int .i64 0, .int .u64 0, .int .i64 0, .int .i64 0], .int .i64 f]) (by simp [results, Try.results11, Rr0.out, Rr1.out, Rr2.out, Rr3.out, Rr4.out, Rr5.out, Rr6.out, go_sem]) rfl ⟨rfl, HBF.out⟩
set_option maxHeartbeats 1000000 in
theorem rboot_yes (a : Option Addr) (n cap : Nat) (rs : List Int) (w : World) (hn : rs.length = 5) (hL : ∀ W, Below w.heap.size w W → Calls Try.prog 21 #[.slice a n cap, .int .i64 5] W fun e w' => GaveR W rs 0 e w') (hR : ∀ W r c, RowU W r 5 rs → Calls Try.prog 22 #[.slice r 5 c] W fun e w' => ReadPost W rs e w') :
    Calls Try.prog 11 #[.slice a n cap] w fun e w' => ReadPost w rs e w' := by
  have HL : Hid (∀ W, Below w.heap.size w W → Calls Try.prog 21 #[.slice a n cap, .int .i64 5] W fun e w' => GaveR W rs 0 e w') := hL
  have HR : Hid (∀ W r c, RowU W r 5 rs → Calls Try.prog 22 #[.slice r 5 c] W fun e w' => ReadPost W rs e w') := hR
  have HN : Hid (rs.length = 5) := hn
  clear hL hR hn
  have H0r : Hid (Blk (w.alloc (.cells #[.int .i64 0, .int .i64 0, .int .i64 0, .int .i64 0, .int .u64 0, .int .i64 0, .int .i64 0] 33)) (w.heap.size) #[.int .i64 0, .int .i64 0, .int .i64 0, .int .i64 0, .int .u64 0, .int .i64 0, .int .i64 0] 33) := Blk.new w _ _
  have H0B : Hid (Below w.heap.size w (w.alloc (.cells #[.int .i64 0, .int .i64 0, .int .i64 0, .int .i64 0, .int .u64 0, .int .i64 0, .int .i64 0] 33))) := (Below.refl w.heap.size w).alloc (by simp) _
  go_enter Try.func11, Try.ntmps11
  go_wp2_with fail
  refine (HL.out _ H0B.out).mono ?_
  rintro e w1 ⟨x1, c1, rfl, hr1, _, hb1⟩
  have H1r : Hid (Blk w1 (w.heap.size) #[.int .i64 0, .int .i64 0, .int .i64 0, .int .i64 0, .int .u64 0, .int .i64 0, .int .i64 0] 33) := H0r.out.next hb1
  have H1B : Hid (Below w.heap.size w w1) := bel_step H0B.out hb1
  have HX : Hid (RowU w1 x1 5 rs) := by have := HN.out; rw [this] at hr1; exact hr1
  have hn := HN.out
  rw [hn]
  clear H0r H0B hb1 hr1 hn HL HN
  go_wp2_with fail
  refine (HR.out _ _ _ HX.out).mono ?_
  rintro e w2 ⟨m2, f2, rfl, hi2, hb2⟩
  have H2r : Hid (Blk w2 (w.heap.size) #[.int .i64 0, .int .i64 0, .int .i64 0, .int .i64 0, .int .u64 0, .int .i64 0, .int .i64 0] 33) := H1r.out.next hb2
  have H2B : Hid (Below w.heap.size w w2) := bel_step H1B.out hb2
  have HI : Hid (ReadIs rs m2 f2) := hi2
  obtain ⟨me2, rev2, cr2, h2, b2, bad2, lock2⟩ := m2
  unfold Mt.v Mt.cells
  simp only []
  have H3r : Hid (Blk (w2.alloc (.cells #[.int .i64 me2, .int .i64 rev2, .int .i64 cr2, .int .i64 h2, .int .u64 (b2 : Int), .int .i64 bad2, .int .i64 lock2] 33)) (w.heap.size) #[.int .i64 0, .int .i64 0, .int .i64 0, .int .i64 0, .int .u64 0, .int .i64 0, .int .i64 0] 33) := (H2r.out).alloc _
  have H3m : Hid (Blk (w2.alloc (.cells #[.int .i64 me2, .int .i64 rev2, .int .i64 cr2, .int .i64 h2, .int .u64 (b2 : Int), .int .i64 bad2, .int .i64 lock2] 33)) (w2.heap.size) #[.int .i64 me2, .int .i64 rev2, .int .i64 cr2, .int .i64 h2, .int .u64 (b2 : Int), .int .i64 bad2, .int .i64 lock2] 33) := (Blk.new w2 _ _)
  have L3mr : Hid (w.heap.size < w2.heap.size) := Nat.lt_of_lt_of_le H2r.out.lt (by simp)
  have H3B : Hid (Below w.heap.size w (w2.alloc (.cells #[.int .i64 me2, .int .i64 rev2, .int .i64 cr2, .int .i64 h2, .int .u64 (b2 : Int), .int .i64 bad2, .int .i64 lock2] 33))) := (H2B.out).alloc (Nat.le_trans H2B.out.size (by simp)) _
  have L30 : Hid (w.heap.size ≤ w2.heap.size) := H2B.out.size
  clear H1r H1B H2r H2B hb2 hi2 HR HX
  go_wp2_with (first
    | (refine wp_letAll rfl 33 _ _ rfl (w.heap.size) rfl #[.int .i64 me2, .int .i64 rev2, .int .i64 cr2, .int .i64 h2, .int .u64 (b2 : Int), .int .i64 bad2, .int .i64 lock2] rfl (by kernel_rfl) (by simp [Value.oneCell']) #[.int .i64 0, .int .i64 0, .int .i64 0, .int .i64 0, .int .u64 0, .int .i64 0, .int .i64 0] 33 H3r.out rfl ?_)
    | (refine wp_whole rfl 33 _ rfl (w.heap.size) rfl 33 #[.int .i64 0, .int .i64 0, .int .i64 0, .int .i64 0, .int .u64 0, .int .i64 0, .int .i64 0] _ H3r.out Try.underlying33 rfl (by kernel_rfl) ?_)
    | (refine wp_wholeG (by rfl) 33 _ rfl (w.heap.size) rfl 33 #[.int .i64 0, .int .i64 0, .int .i64 0, .int .i64 0, .int .u64 0, .int .i64 0, .int .i64 0] _ H3r.out Try.underlying33 rfl (by kernel_rfl) ?_)
    | (refine wp_whole rfl 33 _ rfl (w2.heap.size) rfl 33 #[.int .i64 me2, .int .i64 rev2, .int .i64 cr2, .int .i64 h2, .int .u64 (b2 : Int), .int .i64 bad2, .int .i64 lock2] _ H3m.out Try.underlying33 rfl (by kernel_rfl) ?_)
    | (refine wp_wholeG (by rfl) 33 _ rfl (w2.heap.size) rfl 33 #[.int .i64 me2, .int .i64 rev2, .int .i64 cr2, .int .i64 h2, .int .u64 (b2 : Int), .int .i64 bad2, .int .i64 lock2] _ H3m.out Try.underlying33 rfl (by kernel_rfl) ?_)
    | fail)
  intro WF hU
  have hL3mr := L3mr.out
  have hL30 := L30.out
  have H4r : Hid (Blk WF (w.heap.size) #[.int .i64 me2, .int .i64 rev2, .int .i64 cr2, .int .i64 h2, .int .u64 (b2 : Int), .int .i64 bad2, .int .i64 lock2] 33) := hU.blk
  have H4m : Hid (Blk WF (w2.heap.size) #[.int .i64 me2, .int .i64 rev2, .int .i64 cr2, .int .i64 h2, .int .u64 (b2 : Int), .int .i64 bad2, .int .i64 lock2] 33) := hU.keep H3m.out (by omega)
  have H4B : Hid (Below w.heap.size w WF) := hU.bel _ _ (by omega) H3B.out
  clear hU H3r H3m H3B hL3mr hL30 
  have HBF : Hid (Below w.heap.size w WF) := H4B.out
  have Rr0 : Hid (WF.cell? ⟨w.heap.size, 0, none⟩ = some (.int .i64 me2)) := H4r.out.cell 0
  have Rr1 : Hid (WF.cell? ⟨w.heap.size, 1, none⟩ = some (.int .i64 rev2)) := H4r.out.cell 1
  have Rr2 : Hid (WF.cell? ⟨w.heap.size, 2, none⟩ = some (.int .i64 cr2)) := H4r.out.cell 2
  have Rr3 : Hid (WF.cell? ⟨w.heap.size, 3, none⟩ = some (.int .i64 h2)) := H4r.out.cell 3
  have Rr4 : Hid (WF.cell? ⟨w.heap.size, 4, none⟩ = some (.int .u64 (b2 : Int))) := H4r.out.cell 4
  have Rr5 : Hid (WF.cell? ⟨w.heap.size, 5, none⟩ = some (.int .i64 bad2)) := H4r.out.cell 5
  have Rr6 : Hid (WF.cell? ⟨w.heap.size, 6, none⟩ = some (.int .i64 lock2)) := H4r.out.cell 6
  go_wp2_with fail
  exact bodyPost_ret (v := .tuple #[.agg #[.int .i64 me2, .int .i64 rev2, .int .i64 cr2, .int .i64 h2, .int .u64 (b2 : Int), .int .i64 bad2, .int .i64 lock2], .int .i64 f2]) (by simp [results, Try.results11, Rr0.out, Rr1.out, Rr2.out, Rr3.out, Rr4.out, Rr5.out, Rr6.out, go_sem]) rfl ⟨⟨me2, rev2, cr2, h2, b2, bad2, lock2⟩, f2, rfl, HI.out, HBF.out⟩
theorem booted (a : Option Addr) (n cap : Nat) (xs : List Int) (w : World) (h : RowU w a n xs) (hw : ∀ x ∈ rcd xs 5 (which xs 5), 0 ≤ x ∧ x < 4294967296) :
    Calls Try.prog 11 #[.slice a n cap] w fun e w' => BootPost w xs e w' := by
  have hl := h.1
  by_cases h12 : n = 12
  · subst h12
    by_cases h2 : which xs 5 = 2
    · refine (rboot_no a 12 cap 17 w (by decide) (fun W hB => sloaded_blank a 12 cap 5 xs W (h.below hB) (by decide) (by decide) rfl h2)).mono ?_
      rintro e w' ⟨rfl, hb⟩
      exact ⟨mt0, 17, rfl, .inr (.inl ⟨hl, h2, rfl, rfl⟩), hb⟩
    · have h1 : which xs 5 ≤ 1 := by have := which_le xs 5; omega
      refine (rboot_yes a 12 cap (rcd xs 5 (which xs 5)) w (rcd_len _ _ _) (fun W hB => sloaded_yes a 12 cap 5 _ xs W (h.below hB) (by decide) (by decide) rfl rfl h1) (fun W r c hr => mread_any r 5 c _ W hr hw)).mono ?_
      rintro e w' ⟨m, f, rfl, hi, hb⟩
      exact ⟨m, f, rfl, .inr (.inr ⟨hl, h1, hi⟩), hb⟩
  · refine (rboot_no a n cap 1 w (by decide) (fun W hB => sloaded_size a n cap 5 W (.inr (.inr (by omega))))).mono ?_
    rintro e w' ⟨rfl, hb⟩
    exact ⟨mt0, 1, rfl, .inl ⟨by omega, rfl, rfl⟩, hb⟩

end Go.Proofs.Ytgipkpkjoicehaa.pkt

/- Rows of words, compared. -/
namespace Go.Proofs.Ytgipkpkjoicehaa.cell
open Go.RowKit
set_option linter.unusedSimpArgs false
set_option maxRecDepth 100000

set_option maxHeartbeats 1000000 in
theorem words_law (a b : Option Addr) (n c1 c2 : Nat) (zs : List Int) (w : World) (h1 : RowU w a n zs) (h2 : RowU w b n zs) (hn : n ≤ maxLen) :
    Calls Try.prog 8 #[.slice a n c1, .slice b n c2] w fun e w' => e = .returned (.bool true) ∧ Below w.heap.size w w' := by
  have hne : ((n : Int) != (n : Int)) = false := by simp
  unfold maxLen at hn
  go_enter Try.func8, Try.ntmps8
  go_wp2_with fail
  go_loopw [5] (fun i wr => ∃ k : Nat, k ≤ n ∧ i = .int .i64 k ∧ Below w.heap.size w wr) (fun i _ => n - (intOf i).toNat)
  case atStart => exact ⟨0, Nat.zero_le _, rfl, Below.refl _ _⟩
  case round =>
    obtain ⟨k, hk, rfl, hb⟩ := hrel
    by_cases hlt : k < n
    · obtain ⟨b1, o1, rfl, l1, hc1⟩ := h1.at (by omega)
      obtain ⟨b2, o2, rfl, l2, hc2⟩ := h2.at (by omega)
      have f1 : wr.cell? ⟨b1, o1 + k, none⟩ = some (.int .u32 (zs.getD k 0)) := (hb.cell (p := ⟨b1, o1 + k, none⟩) l1).trans (hc1 k hlt)
      have f2 : wr.cell? ⟨b2, o2 + k, none⟩ = some (.int .u32 (zs.getD k 0)) := (hb.cell (p := ⟨b2, o2 + k, none⟩) l2).trans (hc2 k hlt)
      clear hc1 hc2 h1 h2 l1 l2
      generalize zs.getD k 0 = z at f1 f2
      have hz : (z != z) = false := by simp
      go_wp2_with fail
      go_region
      all_goals go_wp2_with fail
      go_roundw
      case rel => exact ⟨k + 1, by omega, by go_num, hb.drew⟩
      case measure => simp [intOf]; omega
    · go_wp2_with fail
      go_ret
      exact ⟨rfl, hb⟩

end Go.Proofs.Ytgipkpkjoicehaa.cell

/- The statement of booting. -/
namespace Go.Proofs.Ytgipkpkjoicehaa.pkt
open Go.RowKit Go.Proofs.Ytgipkpkjoicehaa.met Go.Proofs.Ytgipkpkjoicehaa.slot Go.Proofs.Ytgipkpkjoicehaa.cell
set_option maxRecDepth 100000
set_option linter.unusedVariables false
set_option linter.unusedSimpArgs false

set_option maxHeartbeats 1000000 in
theorem boots_walk (a : Option Addr) (n cap : Nat) (l : List Int) (w : World) (hr : RowU w a n l) (hn : a = none → cap = 0) (hs : n * 4 ≤ 140737488351232) (hl : ∀ x ∈ l, 0 ≤ x ∧ x < 4294967296) :
    Calls Try.prog 4 #[.slice a n cap] w fun e w' => e = .returned (.bool true) ∧ Below w.heap.size w w' := by
  have HC : Hid (Calls Try.prog 9 #[.slice a n cap] w fun e w' => GaveU w l e w') := words_any a n cap l w hr hn hs
  have H1 : Hid (∀ W a1 cap1, RowU W a1 n l → n ≤ cap1 → Calls Try.prog 10 #[.slice a1 n cap1] W fun e w' => BootPost W l e w') := fun W a1 cap1 h1 h2 => pboot a1 n cap1 l W h1 h2 (rcd_word hl _ _)
  have H2 : Hid (∀ W, Below w.heap.size w W → Calls Try.prog 11 #[.slice a n cap] W fun e w' => BootPost W l e w') := fun W hB => booted a n cap l W (hr.below hB) (rcd_word hl _ _)
  have HSW : Hid (∀ W a1 cap1, RowU W a n l → RowU W a1 n l → Calls Try.prog 8 #[.slice a n cap, .slice a1 n cap1] W fun e w' => e = .returned (.bool true) ∧ Below W.heap.size W w') := fun W a1 cap1 h1 h2 => words_law a a1 n cap cap1 l W h1 h2 (by unfold maxLen; omega)
  have HR : Hid (RowU w a n l) := hr
  clear hr hl hs hn
  have H0B : Hid (Below w.heap.size w w) := Below.refl _ _
  go_enter Try.func4, Try.ntmps4
  go_wp2_with fail
  refine HC.out.mono ?_
  rintro e w1 ⟨v, rfl, hv, hb1⟩
  have H1B : Hid (Below w.heap.size w w1) := bel_step H0B.out hb1
  have H1Ca : Hid (RowU w1 a n l) := HR.out.below hb1
  obtain ⟨a1, cap1, rfl, hr1, hn1, hc1⟩ := hv.row
  have hL : l.length = n := H1Ca.out.1
  rw [hL] at hr1 hc1
  rw [hL]
  have HCd : Hid (RowU w1 a1 n l) := hr1
  have HC1 : Hid (n ≤ cap1) := hc1
  clear HR H0B hb1 hv hr1 hn1 hc1 hL HC
  go_wp2_with fail
  refine (H1.out _ _ _ HCd.out HC1.out).mono ?_
  rintro e w2 ⟨m1, f1, rfl, hi1, hb2⟩
  have H2B : Hid (Below w.heap.size w w2) := bel_step H1B.out hb2
  have H2Ca : Hid (RowU w2 a n l) := H1Ca.out.below hb2
  have H2Cd : Hid (RowU w2 a1 n l) := HCd.out.below hb2
  have HI1 : Hid (BootIs l m1 f1) := hi1
  obtain ⟨me1, rev1, cr1, h1, b1, bad1, lock1⟩ := m1
  unfold Mt.v Mt.cells
  simp only []
  have H3m : Hid (Blk (w2.alloc (.cells #[.int .i64 me1, .int .i64 rev1, .int .i64 cr1, .int .i64 h1, .int .u64 (b1 : Int), .int .i64 bad1, .int .i64 lock1] 33)) (w2.heap.size) #[.int .i64 me1, .int .i64 rev1, .int .i64 cr1, .int .i64 h1, .int .u64 (b1 : Int), .int .i64 bad1, .int .i64 lock1] 33) := (Blk.new w2 _ _)
  have H3B : Hid (Below w.heap.size w (w2.alloc (.cells #[.int .i64 me1, .int .i64 rev1, .int .i64 cr1, .int .i64 h1, .int .u64 (b1 : Int), .int .i64 bad1, .int .i64 lock1] 33))) := (H2B.out).alloc (Nat.le_trans H2B.out.size (by simp)) _
  have L30 : Hid (w.heap.size ≤ w2.heap.size) := H2B.out.size
  have H3Ca : Hid (RowU (w2.alloc (.cells #[.int .i64 me1, .int .i64 rev1, .int .i64 cr1, .int .i64 h1, .int .u64 (b1 : Int), .int .i64 bad1, .int .i64 lock1] 33)) a n l) := H2Ca.out.below ((Below.refl w2.heap.size w2).alloc (by simp) _)
  have H3Cd : Hid (RowU (w2.alloc (.cells #[.int .i64 me1, .int .i64 rev1, .int .i64 cr1, .int .i64 h1, .int .u64 (b1 : Int), .int .i64 bad1, .int .i64 lock1] 33)) a1 n l) := H2Cd.out.below ((Below.refl w2.heap.size w2).alloc (by simp) _)
  clear H1Ca HCd H1B H2Ca H2Cd H2B hb2 hi1 H1
  go_wp2_with (first
    | (refine wp_whole rfl 33 _ rfl (w2.heap.size) rfl 33 #[.int .i64 me1, .int .i64 rev1, .int .i64 cr1, .int .i64 h1, .int .u64 (b1 : Int), .int .i64 bad1, .int .i64 lock1] _ H3m.out Try.underlying33 rfl (by kernel_rfl) ?_)
    | (refine wp_wholeG (by rfl) 33 _ rfl (w2.heap.size) rfl 33 #[.int .i64 me1, .int .i64 rev1, .int .i64 cr1, .int .i64 h1, .int .u64 (b1 : Int), .int .i64 bad1, .int .i64 lock1] _ H3m.out Try.underlying33 rfl (by kernel_rfl) ?_)
    | fail)
  refine (H2.out _ H3B.out).mono ?_
  rintro e w3 ⟨m2, f2, rfl, hi2, hb3⟩
  have H4m : Hid (Blk w3 (w2.heap.size) #[.int .i64 me1, .int .i64 rev1, .int .i64 cr1, .int .i64 h1, .int .u64 (b1 : Int), .int .i64 bad1, .int .i64 lock1] 33) := H3m.out.next hb3
  have H4B : Hid (Below w.heap.size w w3) := bel_step H3B.out hb3
  have H4Ca : Hid (RowU w3 a n l) := H3Ca.out.below hb3
  have H4Cd : Hid (RowU w3 a1 n l) := H3Cd.out.below hb3
  obtain ⟨rfl, rfl⟩ := HI1.out.one hi2
  unfold Mt.v Mt.cells
  simp only []
  have H5m : Hid (Blk (w3.alloc (.cells #[.int .i64 me1, .int .i64 rev1, .int .i64 cr1, .int .i64 h1, .int .u64 (b1 : Int), .int .i64 bad1, .int .i64 lock1] 33)) (w2.heap.size) #[.int .i64 me1, .int .i64 rev1, .int .i64 cr1, .int .i64 h1, .int .u64 (b1 : Int), .int .i64 bad1, .int .i64 lock1] 33) := (H4m.out).alloc _
  have H5n : Hid (Blk (w3.alloc (.cells #[.int .i64 me1, .int .i64 rev1, .int .i64 cr1, .int .i64 h1, .int .u64 (b1 : Int), .int .i64 bad1, .int .i64 lock1] 33)) (w3.heap.size) #[.int .i64 me1, .int .i64 rev1, .int .i64 cr1, .int .i64 h1, .int .u64 (b1 : Int), .int .i64 bad1, .int .i64 lock1] 33) := (Blk.new w3 _ _)
  have L5nm : Hid (w2.heap.size < w3.heap.size) := Nat.lt_of_lt_of_le H4m.out.lt (by simp)
  have H5B : Hid (Below w.heap.size w (w3.alloc (.cells #[.int .i64 me1, .int .i64 rev1, .int .i64 cr1, .int .i64 h1, .int .u64 (b1 : Int), .int .i64 bad1, .int .i64 lock1] 33))) := (H4B.out).alloc (Nat.le_trans H4B.out.size (by simp)) _
  have L50 : Hid (w.heap.size ≤ w3.heap.size) := H4B.out.size
  have H5Ca : Hid (RowU (w3.alloc (.cells #[.int .i64 me1, .int .i64 rev1, .int .i64 cr1, .int .i64 h1, .int .u64 (b1 : Int), .int .i64 bad1, .int .i64 lock1] 33)) a n l) := H4Ca.out.below ((Below.refl w3.heap.size w3).alloc (by simp) _)
  have H5Cd : Hid (RowU (w3.alloc (.cells #[.int .i64 me1, .int .i64 rev1, .int .i64 cr1, .int .i64 h1, .int .u64 (b1 : Int), .int .i64 bad1, .int .i64 lock1] 33)) a1 n l) := H4Cd.out.below ((Below.refl w3.heap.size w3).alloc (by simp) _)
  have hq : ∀ W : World, (Op.equalIn 10000 33 (.agg #[.int .i64 me1, .int .i64 rev1, .int .i64 cr1, .int .i64 h1, .int .u64 (b1 : Int), .int .i64 bad1, .int .i64 lock1]) (.agg #[.int .i64 me1, .int .i64 rev1, .int .i64 cr1, .int .i64 h1, .int .u64 (b1 : Int), .int .i64 bad1, .int .i64 lock1])).run Try.prog W = .ok true W := fun W => eqMt _ _ _ _ _ _ _ W
  have hf : (f1 == f1) = true := beq_self_eq_true f1
  have HS : Hid (Calls Try.prog 8 #[.slice a n cap, .slice a1 n cap1] (w3.alloc (.cells #[.int .i64 me1, .int .i64 rev1, .int .i64 cr1, .int .i64 h1, .int .u64 (b1 : Int), .int .i64 bad1, .int .i64 lock1] 33)) fun e w' => e = .returned (.bool true) ∧ Below (w3.alloc (.cells #[.int .i64 me1, .int .i64 rev1, .int .i64 cr1, .int .i64 h1, .int .u64 (b1 : Int), .int .i64 bad1, .int .i64 lock1] 33)).heap.size (w3.alloc (.cells #[.int .i64 me1, .int .i64 rev1, .int .i64 cr1, .int .i64 h1, .int .u64 (b1 : Int), .int .i64 bad1, .int .i64 lock1] 33)) w') := HSW.out _ _ _ H5Ca.out H5Cd.out
  clear H3m H3Ca H3Cd H3B H4m H4Ca H4Cd H4B hb3 hi2 H2 HI1 HSW
  go_wp2_with (first
    | (refine wp_whole rfl 33 _ rfl (w2.heap.size) rfl 33 #[.int .i64 me1, .int .i64 rev1, .int .i64 cr1, .int .i64 h1, .int .u64 (b1 : Int), .int .i64 bad1, .int .i64 lock1] _ H5m.out Try.underlying33 rfl (by kernel_rfl) ?_)
    | (refine wp_wholeG (by rfl) 33 _ rfl (w2.heap.size) rfl 33 #[.int .i64 me1, .int .i64 rev1, .int .i64 cr1, .int .i64 h1, .int .u64 (b1 : Int), .int .i64 bad1, .int .i64 lock1] _ H5m.out Try.underlying33 rfl (by kernel_rfl) ?_)
    | (refine wp_whole rfl 33 _ rfl (w3.heap.size) rfl 33 #[.int .i64 me1, .int .i64 rev1, .int .i64 cr1, .int .i64 h1, .int .u64 (b1 : Int), .int .i64 bad1, .int .i64 lock1] _ H5n.out Try.underlying33 rfl (by kernel_rfl) ?_)
    | (refine wp_wholeG (by rfl) 33 _ rfl (w3.heap.size) rfl 33 #[.int .i64 me1, .int .i64 rev1, .int .i64 cr1, .int .i64 h1, .int .u64 (b1 : Int), .int .i64 bad1, .int .i64 lock1] _ H5n.out Try.underlying33 rfl (by kernel_rfl) ?_)
    | fail)
  refine HS.out.mono ?_
  rintro e w4 ⟨rfl, hb4⟩
  have H6m : Hid (Blk w4 (w2.heap.size) #[.int .i64 me1, .int .i64 rev1, .int .i64 cr1, .int .i64 h1, .int .u64 (b1 : Int), .int .i64 bad1, .int .i64 lock1] 33) := H5m.out.next hb4
  have H6n : Hid (Blk w4 (w3.heap.size) #[.int .i64 me1, .int .i64 rev1, .int .i64 cr1, .int .i64 h1, .int .u64 (b1 : Int), .int .i64 bad1, .int .i64 lock1] 33) := H5n.out.next hb4
  have H6B : Hid (Below w.heap.size w w4) := bel_step H5B.out hb4
  have H6Ca : Hid (RowU w4 a n l) := H5Ca.out.below hb4
  have H6Cd : Hid (RowU w4 a1 n l) := H5Cd.out.below hb4
  go_wp2_with fail
  go_ret
  exact ⟨rfl, H6B.out⟩

end Go.Proofs.Ytgipkpkjoicehaa.pkt

/- A meter that came in: its numbers. -/
namespace Go.Proofs.Ytgipkpkjoicehaa.met
open Go.ChangeShapes Go.WideShapes Go.ChangeAt Go.RowKit Go.Deep
set_option maxRecDepth 100000

theorem u64_nat {z : Int} (h : (Lit.int .u64 z).wf = true) : ∃ y : Nat, z = (y : Int) ∧ y < 18446744073709551616 := by
  have h2 : 0 ≤ z ∧ z < 18446744073709551616 := by
    simp only [Lit.wf, Bool.and_eq_true, decide_eq_true_eq] at h
    rw [show IntKind.u64.min = 0 from by decide, show IntKind.u64.max = 18446744073709551615 from by decide] at h
    omega
  exact ⟨z.toNat, by omega, by omega⟩
theorem open_met {H : Type} {enc : TypeId × Value → H} {W : World} {r : Reach} {b0 b1 : Nat} {spare : Nat → Bool} {held : Bool} {v : Value} {d : DataW H} {ps : List MemPlace}
    (hval : Value.okWide Try.prog W r b0 33 v) (h : DataW.Trod enc Try.prog W b1 spare held 33 v d ps) :
    ∃ m : Mt, v = m.v ∧ m.b < 18446744073709551616 := by
  have hu := Try.underlying33
  have hc : Try.prog.cellsOf 33 = 7 := by kernel_rfl
  have ci : Try.prog.cellsOf 3 = 1 := by kernel_rfl
  have cu : Try.prog.cellsOf 29 = 1 := by kernel_rfl
  have cw : Try.prog.cellsOf 31 = 2 := by kernel_rfl
  obtain ⟨cs, rfl, hsz⟩ := okWide_struct hu hval
  rw [hc] at hsz
  obtain ⟨c0, c1, c2, c3, c4, c5, c6, rfl⟩ : ∃ c0 c1 c2 c3 c4 c5 c6, cs = #[c0, c1, c2, c3, c4, c5, c6] := by
    cases cs with
    | mk l => match l, hsz with
      | [c0, c1, c2, c3, c4, c5, c6], _ => exact ⟨c0, c1, c2, c3, c4, c5, c6, rfl⟩
  obtain ⟨fuel, hf⟩ := h
  obtain ⟨xs, n, _, _, _, hlen, hg⟩ := DataW.trod_struct hu hf
  match xs, hlen with
  | [y0, y1, y2, y3, y4, y5], _ =>
    have g0 := hg 0 _ rfl
    have g1 := hg 1 _ rfl
    have g2 := hg 2 _ rfl
    have g3 := hg 3 _ rfl
    have g4 := hg 4 _ rfl
    have g5 := hg 5 _ rfl
    simp [Value.cells, ci, cw] at g0 g1 g2 g3 g4 g5
    obtain ⟨x0, e0, -, _⟩ := DataW.trod_int Try.underlying3 g0
    obtain ⟨x1, e1, -, _⟩ := DataW.trod_int Try.underlying3 g1
    obtain ⟨x2, e2, -, _⟩ := DataW.trod_int Try.underlying3 g2
    obtain ⟨x5, e5, -, _⟩ := DataW.trod_int Try.underlying3 g4
    obtain ⟨x6, e6, -, _⟩ := DataW.trod_int Try.underlying3 g5
    obtain ⟨z0, z1, k, _, _, q0, q1⟩ := trod_struct2 Try.underlying31 g3
    simp [ci, cu] at q0 q1
    obtain ⟨x3, e3, -, _⟩ := DataW.trod_int Try.underlying3 q0
    obtain ⟨x4, e4, -, w4⟩ := DataW.trod_int Try.underlying29 q1
    simp at e0 e1 e2 e3 e4 e5 e6
    subst e0 e1 e2 e3 e4 e5 e6
    obtain ⟨y, rfl, hy⟩ := u64_nat w4
    exact ⟨⟨x0, x1, x2, x3, y, x5, x6⟩, rfl, hy⟩
/-- A word is a word. -/
theorem _root_.Go.Proofs.Ytgipkpkjoicehaa.cell.word_of {z : Int} (h : (Lit.int .u32 z).wf = true) : 0 ≤ z ∧ z < 4294967296 := by
  simp only [Lit.wf, Bool.and_eq_true, decide_eq_true_eq] at h
  rw [show IntKind.u32.min = 0 from by decide, show IntKind.u32.max = 4294967295 from by decide] at h
  omega
/-- Four numbers that came in. -/
def wf4i (x y z u : Int) : Prop := (Lit.int .i64 x).wf = true ∧ (Lit.int .i64 y).wf = true ∧ (Lit.int .i64 z).wf = true ∧ (Lit.int .i64 u).wf = true
theorem open_four {H : Type} {enc : TypeId × Value → H} {W : World} {r : Reach} {b0 b1 : Nat} {spare : Nat → Bool} {held : Bool} {t : TypeId} {f0 f1 f2 f3 : Field} {v : Value} {d : DataW H} {ps : List MemPlace}
    (hs : Try.prog.underlying t = some (.struct #[f0, f1, f2, f3])) (hone : oneCellFields Try.prog #[f0, f1, f2, f3] = true) (hC : Try.prog.cellsOf t = 4) (e0 : f0.type = 3) (e1 : f1.type = 3) (e2 : f2.type = 3) (e3 : f3.type = 3)
    (hval : Value.okWide Try.prog W r b0 t v) (h : DataW.Trod enc Try.prog W b1 spare held t v d ps) : ∃ x y z u, v = .agg #[.int .i64 x, .int .i64 y, .int .i64 z, .int .i64 u] ∧ wf4i x y z u := by
  obtain ⟨v0, v1, v2, v3, y0, y1, y2, y3, n, rfl, -, -, h0, h1, h2, h3⟩ := Joins.open_agg4 hs hone hC hval h
  rw [e0] at h0
  rw [e1] at h1
  rw [e2] at h2
  rw [e3] at h3
  obtain ⟨x0, q0, -, w0⟩ := DataW.trod_int Try.underlying3 h0
  obtain ⟨x1, q1, -, w1⟩ := DataW.trod_int Try.underlying3 h1
  obtain ⟨x2, q2, -, w2⟩ := DataW.trod_int Try.underlying3 h2
  obtain ⟨x3, q3, -, w3⟩ := DataW.trod_int Try.underlying3 h3
  simp at q0 q1 q2 q3
  subst q0 q1 q2 q3
  exact ⟨x0, x1, x2, x3, rfl, w0, w1, w2, w3⟩

end Go.Proofs.Ytgipkpkjoicehaa.met
