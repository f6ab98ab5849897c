/- account.Open. -/
import Derived.Test.YtlolippocnngcaaApM
import Derived.Test.YtlolippocnngcaaKcO
import Derived.Test.YtlolippocnngcaaAcU
import Derived.Test.YtlolippocnngcaaLetS
namespace Go.Proofs.Ytlolippocnngcaa.acc
open Go.Proofs.Ytlolippocnngcaa.tar (Du du0 Came RowD Ld PairT)
open Go.RowKit
set_option maxRecDepth 100000
set_option linter.unusedVariables false
set_option linter.unusedSimpArgs false

theorem open_may {m : Int} (h : 0 ≤ m ∧ m ≤ 49) : AMay ⟨m, 0, 1, 0, 0, -1, []⟩ := by
  unfold AMay deb.Mays deb.DFits
  simp
  omega
set_option maxHeartbeats 4000000 in
theorem kopen : KcOpen := by
  intro w m hm
  have HPM : Hid (∀ W, Calls Try.prog 31 #[.agg #[.int .i64 m, .int .i64 0, .int .i64 1, .int .i64 0, .int .i64 0, .int .i64 (-1), .slice none 0 0]] W fun e w' => MayPost W ⟨m, 0, 1, 0, 0, -1, []⟩ e w') := fun W => pmay ⟨m, 0, 1, 0, 0, -1, []⟩ none 0 0 W (deb.came_nil W)
  clear hm
  have H0r : Hid (Blk ((w.alloc (.cells #[.int .i64 0, .int .i64 0, .int .i64 0, .int .i64 0, .int .i64 0, .int .i64 0, .slice none 0 0] 32)).alloc (.cells #[.int .i64 m, .int .i64 0, .int .i64 1, .int .i64 0, .int .i64 0, .int .i64 (-1), .slice none 0 0] 32)) w.heap.size #[.int .i64 0, .int .i64 0, .int .i64 0, .int .i64 0, .int .i64 0, .int .i64 0, .slice none 0 0] 32) := (Blk.new w _ _).alloc _
  have H0n : Hid (Blk ((w.alloc (.cells #[.int .i64 0, .int .i64 0, .int .i64 0, .int .i64 0, .int .i64 0, .int .i64 0, .slice none 0 0] 32)).alloc (.cells #[.int .i64 m, .int .i64 0, .int .i64 1, .int .i64 0, .int .i64 0, .int .i64 (-1), .slice none 0 0] 32)) (w.heap.size + 1) #[.int .i64 m, .int .i64 0, .int .i64 1, .int .i64 0, .int .i64 0, .int .i64 (-1), .slice none 0 0] 32) := Blk.new1 w _ _ _
  have H0B : Hid (Below w.heap.size w ((w.alloc (.cells #[.int .i64 0, .int .i64 0, .int .i64 0, .int .i64 0, .int .i64 0, .int .i64 0, .slice none 0 0] 32)).alloc (.cells #[.int .i64 m, .int .i64 0, .int .i64 1, .int .i64 0, .int .i64 0, .int .i64 (-1), .slice none 0 0] 32))) := ((Below.refl w.heap.size w).alloc (by simp) _).alloc (by simp) _
  generalize hWW : ((w.alloc (.cells #[.int .i64 0, .int .i64 0, .int .i64 0, .int .i64 0, .int .i64 0, .int .i64 0, .slice none 0 0] 32)).alloc (.cells #[.int .i64 m, .int .i64 0, .int .i64 1, .int .i64 0, .int .i64 0, .int .i64 (-1), .slice none 0 0] 32)) = W0 at *
  have HWW : Hid (((w.alloc (.cells #[.int .i64 0, .int .i64 0, .int .i64 0, .int .i64 0, .int .i64 0, .int .i64 0, .slice none 0 0] 32)).alloc (.cells #[.int .i64 m, .int .i64 0, .int .i64 1, .int .i64 0, .int .i64 0, .int .i64 (-1), .slice none 0 0] 32)) = W0) := hWW
  clear hWW
  go_enter Try.func13, Try.ntmps13
  go_upto_region 2 with fail
  rw [HWW.out]
  clear HWW
  go_wp2_with (first
    | (refine wp_whole rfl 32 _ rfl (w.heap.size) rfl 32 #[.int .i64 0, .int .i64 0, .int .i64 0, .int .i64 0, .int .i64 0, .int .i64 0, .slice none 0 0] _ H0r.out Try.underlying32 rfl (by kernel_rfl) ?_)
    | (refine wp_whole rfl 32 _ rfl (w.heap.size + 1) rfl 32 #[.int .i64 m, .int .i64 0, .int .i64 1, .int .i64 0, .int .i64 0, .int .i64 (-1), .slice none 0 0] _ H0n.out Try.underlying32 rfl (by kernel_rfl) ?_)
    | fail)
  refine (HPM.out _).mono ?_
  rintro e w1 ⟨r, rfl, hr, hb1⟩
  have H1r : Hid (Blk w1 (w.heap.size) #[.int .i64 0, .int .i64 0, .int .i64 0, .int .i64 0, .int .i64 0, .int .i64 0, .slice none 0 0] 32) := H0r.out.next hb1
  have H1n : Hid (Blk w1 (w.heap.size + 1) #[.int .i64 m, .int .i64 0, .int .i64 1, .int .i64 0, .int .i64 0, .int .i64 (-1), .slice none 0 0] 32) := H0n.out.next hb1
  have H1B : Hid (Below w.heap.size w w1) := H0B.out.trans (hb1.mono H0B.out.size)
  have hsw1 : W0.heap.size ≤ w1.heap.size := hb1.size
  clear hb1 H0r H0n H0B
  clear HPM
  cases r with
  | false =>
    have HV : Hid (OpenIs m ac0 2) := .inr ⟨fun hh => Bool.noConfusion (hr.2 (open_may hh)), rfl, rfl⟩
    clear hr
    go_wp2_with (first
      | (refine wp_letAll rfl 32 _ _ rfl (w.heap.size) rfl #[.int .i64 0, .int .i64 0, .int .i64 0, .int .i64 0, .int .i64 0, .int .i64 0, .slice none 0 0] rfl (by kernel_rfl) (by simp [Value.oneCell']) #[.int .i64 0, .int .i64 0, .int .i64 0, .int .i64 0, .int .i64 0, .int .i64 0, .slice none 0 0] 32 H1r.out rfl ?_)
      | (refine wp_whole rfl 32 _ rfl (w.heap.size) rfl 32 #[.int .i64 0, .int .i64 0, .int .i64 0, .int .i64 0, .int .i64 0, .int .i64 0, .slice none 0 0] _ H1r.out Try.underlying32 rfl (by kernel_rfl) ?_)
      | (refine wp_whole rfl 32 _ rfl (w.heap.size + 1) rfl 32 #[.int .i64 m, .int .i64 0, .int .i64 1, .int .i64 0, .int .i64 0, .int .i64 (-1), .slice none 0 0] _ H1n.out Try.underlying32 rfl (by kernel_rfl) ?_)
      | fail)
    intro w1a hU
    have H2r : Hid (Blk w1a (w.heap.size) #[.int .i64 0, .int .i64 0, .int .i64 0, .int .i64 0, .int .i64 0, .int .i64 0, .slice none 0 0] 32) := hU.blk
    have H2n : Hid (Blk w1a (w.heap.size + 1) #[.int .i64 m, .int .i64 0, .int .i64 1, .int .i64 0, .int .i64 0, .int .i64 (-1), .slice none 0 0] 32) := hU.keep H1n.out (by omega)
    have H2B : Hid (Below w.heap.size w w1a) := hU.bel _ _ (by omega) H1B.out
    have hsw1a : w1a.heap.size = w1.heap.size := hU.size
    clear hU H1r H1n H1B
    have Rr0 : Hid (w1a.cell? ⟨w.heap.size, 0, none⟩ = some (.int .i64 0)) := H2r.out.cell 0
    have Rr1 : Hid (w1a.cell? ⟨w.heap.size, 1, none⟩ = some (.int .i64 0)) := H2r.out.cell 1
    have Rr2 : Hid (w1a.cell? ⟨w.heap.size, 2, none⟩ = some (.int .i64 0)) := H2r.out.cell 2
    have Rr3 : Hid (w1a.cell? ⟨w.heap.size, 3, none⟩ = some (.int .i64 0)) := H2r.out.cell 3
    have Rr4 : Hid (w1a.cell? ⟨w.heap.size, 4, none⟩ = some (.int .i64 0)) := H2r.out.cell 4
    have Rr5 : Hid (w1a.cell? ⟨w.heap.size, 5, none⟩ = some (.int .i64 0)) := H2r.out.cell 5
    have Rr6 : Hid (w1a.cell? ⟨w.heap.size, 6, none⟩ = some (.slice none 0 0)) := H2r.out.cell 6
    go_wp2_with fail
    exact bodyPost_ret (v := .tuple #[.agg #[.int .i64 0, .int .i64 0, .int .i64 0, .int .i64 0, .int .i64 0, .int .i64 0, .slice none 0 0], .int .i64 2]) (by simp [results, Try.results13, Rr0.out, Rr1.out, Rr2.out, Rr3.out, Rr4.out, Rr5.out, Rr6.out, go_sem]) rfl ⟨ac0, none, 0, 0, _, rfl, HV.out, deb.fresh_nil _ _, H2B.out⟩
  | true =>
    have HV : Hid (OpenIs m ⟨m, 0, 1, 0, 0, -1, []⟩ 0) := .inl ⟨(hr.1 rfl).2.1, rfl, rfl⟩
    clear hr
    go_wp2_with (first
      | (refine wp_letAll rfl 32 _ _ rfl (w.heap.size) rfl #[.int .i64 m, .int .i64 0, .int .i64 1, .int .i64 0, .int .i64 0, .int .i64 (-1), .slice none 0 0] rfl (by kernel_rfl) (by simp [Value.oneCell']) #[.int .i64 0, .int .i64 0, .int .i64 0, .int .i64 0, .int .i64 0, .int .i64 0, .slice none 0 0] 32 H1r.out rfl ?_)
      | (refine wp_whole rfl 32 _ rfl (w.heap.size) rfl 32 #[.int .i64 0, .int .i64 0, .int .i64 0, .int .i64 0, .int .i64 0, .int .i64 0, .slice none 0 0] _ H1r.out Try.underlying32 rfl (by kernel_rfl) ?_)
      | (refine wp_whole rfl 32 _ rfl (w.heap.size + 1) rfl 32 #[.int .i64 m, .int .i64 0, .int .i64 1, .int .i64 0, .int .i64 0, .int .i64 (-1), .slice none 0 0] _ H1n.out Try.underlying32 rfl (by kernel_rfl) ?_)
      | fail)
    intro w1a hU
    have H2r : Hid (Blk w1a (w.heap.size) #[.int .i64 m, .int .i64 0, .int .i64 1, .int .i64 0, .int .i64 0, .int .i64 (-1), .slice none 0 0] 32) := hU.blk
    have H2n : Hid (Blk w1a (w.heap.size + 1) #[.int .i64 m, .int .i64 0, .int .i64 1, .int .i64 0, .int .i64 0, .int .i64 (-1), .slice none 0 0] 32) := hU.keep H1n.out (by omega)
    have H2B : Hid (Below w.heap.size w w1a) := hU.bel _ _ (by omega) H1B.out
    have hsw1a : w1a.heap.size = w1.heap.size := hU.size
    clear hU H1r H1n H1B
    have Rr0 : Hid (w1a.cell? ⟨w.heap.size, 0, none⟩ = some (.int .i64 m)) := H2r.out.cell 0
    have Rr1 : Hid (w1a.cell? ⟨w.heap.size, 1, none⟩ = some (.int .i64 0)) := H2r.out.cell 1
    have Rr2 : Hid (w1a.cell? ⟨w.heap.size, 2, none⟩ = some (.int .i64 1)) := H2r.out.cell 2
    have Rr3 : Hid (w1a.cell? ⟨w.heap.size, 3, none⟩ = some (.int .i64 0)) := H2r.out.cell 3
    have Rr4 : Hid (w1a.cell? ⟨w.heap.size, 4, none⟩ = some (.int .i64 0)) := H2r.out.cell 4
    have Rr5 : Hid (w1a.cell? ⟨w.heap.size, 5, none⟩ = some (.int .i64 (-1))) := H2r.out.cell 5
    have Rr6 : Hid (w1a.cell? ⟨w.heap.size, 6, none⟩ = some (.slice none 0 0)) := H2r.out.cell 6
    go_wp2_with fail
    exact bodyPost_ret (v := .tuple #[.agg #[.int .i64 m, .int .i64 0, .int .i64 1, .int .i64 0, .int .i64 0, .int .i64 (-1), .slice none 0 0], .int .i64 0]) (by simp [results, Try.results13, Rr0.out, Rr1.out, Rr2.out, Rr3.out, Rr4.out, Rr5.out, Rr6.out, go_sem]) rfl ⟨⟨m, 0, 1, 0, 0, -1, []⟩, none, 0, 0, _, rfl, HV.out, deb.fresh_nil _ _, H2B.out⟩

end Go.Proofs.Ytlolippocnngcaa.acc
