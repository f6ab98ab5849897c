/- A new pocket. -/
import Derived.Test.YtgipkpkjoicehaaPkD
import Derived.Test.YtgipkpkjoicehaaSlF
import Derived.Test.YtgipkpkjoicehaaMpB
import Derived.Test.YtgipkpkjoicehaaMpW
import Derived.Test.YtgipkpkjoicehaaLetG
import Derived.Laws.CopyOwn
namespace Go.Proofs.Ytgipkpkjoicehaa.pkt
open Go.RowKit Go.Proofs.Ytgipkpkjoicehaa.met Go.Proofs.Ytgipkpkjoicehaa.slot Go.Proofs.Ytgipkpkjoicehaa.cell
set_option maxRecDepth 100000
set_option linter.unusedVariables false
set_option linter.unusedSimpArgs false

theorem copy_rec (a : Addr) (cc g : Nat) (me : Int) (w : World) (hr : Blk w g (arr (fre 5)) 45) (hc : ∀ i, i < 5 → w.cell? (a.add i) = some (.int .u32 ((wds (mtNew me)).getD i 0))) :
    (Builtin.copy_ #[22, 22] 3 #[.slice (some ⟨g, 1, none⟩) 11 11, .slice (some a) 5 cc]).run Try.prog w = .ok (.int .i64 5) (w.setRow g (arr (mk me))) := by
  rw [wds_new] at hc
  have hrun := run_copy_row (P := Try.prog) w 22 22 3 45 g 1 11 11 a 5 cc (arr (fre 5)) 45 (([0, me, 0, 0, 0] : List Int).map (Value.int .u32)) Try.underlying22 (by kernel_rfl) hr rfl (by
      intro j u hu
      by_cases hj : j < 5
      · have := hc j hj
        rw [this]
        have hj' : j < ([0, me, 0, 0, 0] : List Int).length := hj
        rw [List.getElem?_map, List.getElem?_eq_getElem hj'] at hu
        rw [← hu]
        simp [List.getD, List.getElem?_eq_getElem hj']
      · rw [List.getElem?_eq_none (by simp; omega)] at hu; cases hu) (by simp [arr, fre]) (by
      intro u hu; obtain ⟨z, _, rfl⟩ := List.mem_map.1 hu; rfl)
  rw [hrun]
  rfl
theorem setRow_blk' {w : World} {g : Nat} {c0 c1 : Array Value} {t : TypeId} (h : Blk w g c0 t) : Blk (w.setRow g c1) g c1 t := setRow_heap w g _ _ t _ h
set_option maxHeartbeats 1000000 in
theorem pmake (me : Int) (w : World) : Calls Try.prog 6 #[.int .i64 me] w fun e w' => MakePost w me e w' := by
  have HBG : Hid (Calls Try.prog 15 #[.int .i64 me] w fun e w' => BeginPost w me e w') := pbegin me w
  have HWD : Hid (∀ W, Calls Try.prog 16 #[.agg #[.int .i64 me, .int .i64 0, .int .i64 0, .int .i64 0, .int .u64 0, .int .i64 0, .int .i64 0]] W fun e w' => met.WordsPost W (mtNew me) e w') := fun W => pwords (mtNew me) W (by show (0 : Nat) < _; decide)
  have HFR : Hid (∀ W, Calls Try.prog 17 #[.int .i64 5] W fun e w' => ∃ g, e = .returned (.tuple #[.slice (some ⟨g, 0, none⟩) 12 12, .int .i64 0]) ∧ Blk w' g (arr (fre 5)) 45 ∧ W.heap.size ≤ g ∧ Below W.heap.size W w') := fun W => fresh_blk 5 W (by decide) (by decide)
  have H0B : Hid (Below w.heap.size w w) := Below.refl _ _
  go_enter Try.func6, Try.ntmps6
  go_wp2_with fail
  refine HBG.out.mono ?_
  rintro e w1 ⟨m1, f1, rfl, hi1, hb1⟩
  have H1B : Hid (Below w.heap.size w w1) := bel_step H0B.out hb1
  clear HBG
  rcases hi1 with ⟨hme, rfl, rfl⟩ | ⟨hme, rfl, rfl⟩
  · have HME : Hid (0 ≤ me ∧ me ≤ 49) := hme
    clear hme
    unfold mtNew Mt.v Mt.cells
    simp only []
    have H2m : Hid (Blk (w1.alloc (.cells #[.int .i64 me, .int .i64 0, .int .i64 0, .int .i64 0, .int .u64 0, .int .i64 0, .int .i64 0] 33)) (w1.heap.size) #[.int .i64 me, .int .i64 0, .int .i64 0, .int .i64 0, .int .u64 0, .int .i64 0, .int .i64 0] 33) := (Blk.new w1 _ _)
    have H2B : Hid (Below w.heap.size w (w1.alloc (.cells #[.int .i64 me, .int .i64 0, .int .i64 0, .int .i64 0, .int .u64 0, .int .i64 0, .int .i64 0] 33))) := (H1B.out).alloc (Nat.le_trans H1B.out.size (by simp)) _
    have L20 : Hid (w.heap.size ≤ w1.heap.size) := H1B.out.size
    clear H0B H1B hb1
    go_wp2_with (first
      | (refine wp_whole rfl 33 _ rfl (w1.heap.size) rfl 33 #[.int .i64 me, .int .i64 0, .int .i64 0, .int .i64 0, .int .u64 0, .int .i64 0, .int .i64 0] _ H2m.out Try.underlying33 rfl (by kernel_rfl) ?_)
      | (refine wp_wholeG (by rfl) 33 _ rfl (w1.heap.size) rfl 33 #[.int .i64 me, .int .i64 0, .int .i64 0, .int .i64 0, .int .u64 0, .int .i64 0, .int .i64 0] _ H2m.out Try.underlying33 rfl (by kernel_rfl) ?_)
      | fail)
    refine (HWD.out _).mono ?_
    rintro e w2 ⟨x2, n2, c2, zs, f2, rfl, hr2, _, hle2, hi2, hb2⟩
    have H3m : Hid (Blk w2 (w1.heap.size) #[.int .i64 me, .int .i64 0, .int .i64 0, .int .i64 0, .int .u64 0, .int .i64 0, .int .i64 0] 33) := H2m.out.next hb2
    have H3B : Hid (Below w.heap.size w w2) := bel_step H2B.out hb2
    obtain ⟨rfl, rfl⟩ := hi2.one (WordsIs.ok (new_mw HME.out).may)
    obtain rfl : n2 = 5 := hr2.1.symm.trans rfl
    have HX : Hid (RowU w2 x2 5 (wds (mtNew me)) ∧ w.heap.size ≤ w2.heap.size) := ⟨hr2, H3B.out.size⟩
    clear H2m H2B hb2 hr2 hi2 hle2 HWD
    go_wp2_with fail
    refine (HFR.out _).mono ?_
    rintro e w3 ⟨g, rfl, hg3, hl3, hb3⟩
    have H4m : Hid (Blk w3 (w1.heap.size) #[.int .i64 me, .int .i64 0, .int .i64 0, .int .i64 0, .int .u64 0, .int .i64 0, .int .i64 0] 33) := H3m.out.next hb3
    have H4B : Hid (Below w.heap.size w w3) := bel_step H3B.out hb3
    obtain ⟨xb, xo, rfl, xl, xc⟩ := (HX.out.1.below hb3).at (by decide)
    have hcp := copy_rec ⟨xb, xo, none⟩ c2 g me w3 hg3 (fun i hi => by rw [Addr.add_lit]; exact xc i hi)
    have HG : Hid (Blk (w3.setRow g (arr (mk me))) g (arr (mk me)) 45) := setRow_blk' hg3
    have HBF : Hid (Below w.heap.size w (w3.setRow g (arr (mk me)))) := below_setRow H4B.out (by have := HX.out.2; omega) _
    have HRU : Hid (RowU (w3.setRow g (arr (mk me))) (some ⟨g, 0, none⟩) 12 (mk me)) := Blk.rowU HG.out rfl
    clear H3m H3B hb3 hg3 hl3 xl xc HX HFR HG
    generalize arr (mk me) = A at *
    go_wp2_with fail
    go_ret2
    exact ⟨_, 12, 12, mk me, 0, rfl, ⟨HRU.out, (fun h => by cases h), Nat.le_refl _⟩, .inl ⟨HME.out, rfl, rfl⟩, HBF.out⟩
  · have HME : Hid (¬ (0 ≤ me ∧ me ≤ 49)) := hme
    clear hme
    unfold mt0 Mt.v Mt.cells
    simp only []
    have H2m : Hid (Blk (w1.alloc (.cells #[.int .i64 0, .int .i64 0, .int .i64 0, .int .i64 0, .int .u64 0, .int .i64 0, .int .i64 0] 33)) (w1.heap.size) #[.int .i64 0, .int .i64 0, .int .i64 0, .int .i64 0, .int .u64 0, .int .i64 0, .int .i64 0] 33) := (Blk.new w1 _ _)
    have H2B : Hid (Below w.heap.size w (w1.alloc (.cells #[.int .i64 0, .int .i64 0, .int .i64 0, .int .i64 0, .int .u64 0, .int .i64 0, .int .i64 0] 33))) := (H1B.out).alloc (Nat.le_trans H1B.out.size (by simp)) _
    have L20 : Hid (w.heap.size ≤ w1.heap.size) := H1B.out.size
    clear H0B H1B hb1
    go_wp2_with (first
      | (refine wp_whole rfl 33 _ rfl (w1.heap.size) rfl 33 #[.int .i64 0, .int .i64 0, .int .i64 0, .int .i64 0, .int .u64 0, .int .i64 0, .int .i64 0] _ H2m.out Try.underlying33 rfl (by kernel_rfl) ?_)
      | (refine wp_wholeG (by rfl) 33 _ rfl (w1.heap.size) rfl 33 #[.int .i64 0, .int .i64 0, .int .i64 0, .int .i64 0, .int .u64 0, .int .i64 0, .int .i64 0] _ H2m.out Try.underlying33 rfl (by kernel_rfl) ?_)
      | fail)
    go_ret2
    exact ⟨none, 0, 0, [], 2, rfl, ⟨RowU.nil _ _, (fun _ => rfl), Nat.le_refl _⟩, .inr ⟨HME.out, rfl, rfl⟩, H2B.out⟩

end Go.Proofs.Ytgipkpkjoicehaa.pkt
