/- Disks: what is done with each record that is told: it is copied, and put behind the others. -/
import Derived.Test.YtfllkhlnnihndaaDqC
import Derived.Deep.DeepCutAuto
namespace Go.Proofs.Ytfllkhlnnihndaa.disk
open Go.RowKit Go.Proofs.Ytfllkhlnnihndaa.cell
set_option maxRecDepth 100000
set_option linter.unusedVariables false
set_option linter.unusedSimpArgs false

theorem lr_cells {T : TypeId} {w : World} {base : Nat} {v : Value} {l : List Sli} (h : Lr T w base v l) : v.cells = #[v] := by
  obtain ⟨a, cap, rfl⟩ := h.len
  rfl
theorem lr_one {T : TypeId} {w : World} {base : Nat} {v : Value} {l : List Sli} (h : Lr T w base v l) : v.oneCell' = true := by
  obtain ⟨a, cap, rfl⟩ := h.len
  rfl
set_option maxHeartbeats 4000000 in
theorem put_record (w : World) (L : Nat) (V : Value) (sl : List Sli) (zs : List (List Int)) (R : List Int) (b off m : Nat) (W : World) (h : Box w L V sl zs W) (hr : RowU W (some ⟨b, off, none⟩) m R) (h1 : 1 ≤ m) (h2 : m ≤ 64) (hs : sl.length ≤ 1000000) :
    Calls Try.prog 24 #[.slice (some ⟨b, off, none⟩) m m, .pointer (some ⟨L, 0, none⟩)] W fun e w' => e = .returned (.tuple #[]) ∧ ∃ V' sl', Box w L V' sl' (zs ++ [R]) w' := by
  have HC : Hid (Calls Try.prog 25 #[.slice (some ⟨b, off, none⟩) m m] W.drew fun e w' => GaveU W.drew R e w') := clone_any _ m m R _ hr (by omega)
  have HBU0 : Hid (Box w L V sl zs W.drew) := h.next (Below.refl _ _).drew
  have HB0 : Hid (Box w L V sl zs W.drew) := HBU0.out
  have HRL : Hid (R.length = m) := hr.1
  have HM1 : Hid (0 < m) := h1
  have HM6 : Hid (m ≤ 100000) := Nat.le_trans h2 (by decide)
  have HS6 : Hid (sl.length ≤ 1000000) := hs
  clear hr h h1 h2 hs
  go_enter Try.func24, Try.ntmps24
  refine wp_region_held_drew (S := fun v => True) (by kernel_rfl) trivial (fun hHeld => ?_)
  generalize W.drew = U0 at *
  refine take_at 1 4 (.slice (some ⟨b, off, none⟩) m m) _ rfl rfl (by kernel_rfl) (by kernel_rfl) (by kernel_rfl) (fun _ _ _ h => h) (Or.inl ⟨by rfl, fun v hv => by clear hv; go_simp⟩) hHeld ?_
  simp only [Act.put, List.setIfInBounds_toArray, List.set_cons_zero, List.set_cons_succ]
  refine wpAnyH_ready (rs := [0, 2]) (by kernel_rfl) (by simp) (AllReadyH.cons rfl (fun K hK => ?_) (AllReadyH.cons rfl (fun K hK => ?_) AllReadyH.nil))
  · rw [if_pos (by rfl)]
    have cU0 : U0.cell? ⟨L, 0, none⟩ = some V := HBU0.out.blk.cell 0
    refine wp_runOp (v := V) (w' := U0) 3 rfl (by clear hK; go_simp) ?_
    refine hK.out _ _ trivial (fun hHeld => ?_)
    clear hK cU0
    simp only [Act.put, List.setIfInBounds_toArray, List.set_cons_zero, List.set_cons_succ]
    refine wpAnyH_ready (rs := [2]) (by kernel_rfl) (by simp) (AllReadyH.cons rfl (fun K hK => ?_) AllReadyH.nil)
    rw [if_pos (by rfl)]
    refine wp_callOp 5 rfl (by clear hK; go_simp) (HC.out) ?_
    rintro e U1 ⟨v5, rfl, hws, hb⟩
    obtain ⟨a5, cap5, rfl, hrow, hnl, hcp⟩ := Ws.row hws
    rw [HRL.out] at hrow hcp ⊢
    obtain ⟨g, o5, rfl, hg5, hc5⟩ := hrow.at HM1.out
    have HG : Hid (U0.heap.size ≤ g) := (World.ownsRow.lt hws g rfl).1
    have HRU1 : Hid (RowU U1 (some ⟨g, o5, none⟩) m R ∧ g < U1.heap.size) := ⟨hrow, hg5⟩
    have HBU1 : Hid (Box w L V sl zs U1) := HBU0.out.next hb
    refine ⟨_, rfl, hK.out _ _ trivial (fun hHeld => ?_)⟩
    clear hK HC hws hb hnl hcp hc5 hg5 hrow HBU0
    simp only [Act.put, List.setIfInBounds_toArray, List.set_cons_zero, List.set_cons_succ]
    have HNE : Hid (some g ≠ V.ownBlock) := fun e => by have := (World.ownsRow.lt HB0.out.row g e.symm).2; have := HG.out; omega
    have HGL : Hid (L + 1 ≤ g) := by have := HB0.out.blk.lt; have := HG.out; show _ ≤ _; omega
    refine wpAnyH_ready (rs := [3]) (by kernel_rfl) (by simp) (AllReadyH.cons rfl (fun K hK => ?_) AllReadyH.nil)
    rw [if_pos (by rfl)]
    have hb : Below U1.heap.size U1 (U1.alloc (.cells #[.slice (some ⟨g, o5, none⟩) m cap5] 22)) := (Below.refl _ _).alloc (Nat.le_refl _) _
    have HBU2 : Hid (Box w L V sl zs (U1.alloc (.cells #[.slice (some ⟨g, o5, none⟩) m cap5] 22))) := HBU1.out.next hb
    have HRU2 : Hid (RowU (U1.alloc (.cells #[.slice (some ⟨g, o5, none⟩) m cap5] 22)) (some ⟨g, o5, none⟩) m R ∧ g < (U1.alloc (.cells #[.slice (some ⟨g, o5, none⟩) m cap5] 22)).heap.size) := ⟨HRU1.out.1.below hb, Nat.lt_of_lt_of_le HRU1.out.2 hb.size⟩
    have HX : Hid ((U1.alloc (.cells #[.slice (some ⟨g, o5, none⟩) m cap5] 22)).cell? ⟨U1.heap.size, 0, none⟩ = some (.slice (some ⟨g, o5, none⟩) m cap5)) := (Blk.new _ _ _).cell 0
    clear hb
    refine wp_runOp (v := .slice (some ⟨U1.heap.size, 0, none⟩) 1 1) (w' := (U1.alloc (.cells #[.slice (some ⟨g, o5, none⟩) m cap5] 22))) 6 rfl (by clear hK; go_simp) ?_
    refine hK.out _ _ trivial (fun hHeld => ?_)
    clear hK HBU1 HRU1
    simp only [Act.put, List.setIfInBounds_toArray, List.set_cons_zero, List.set_cons_succ]
    generalize U1.heap.size = G at *
    generalize (U1.alloc (.cells #[.slice (some ⟨g, o5, none⟩) m cap5] 22)) = U2 at *
    refine wpAnyH_ready (rs := [4]) (by kernel_rfl) (by simp) (AllReadyH.cons rfl (fun K hK => ?_) AllReadyH.nil)
    refine step_sli sliT rfl _ _ rfl (L + 1) G V sl ⟨some ⟨g, o5, none⟩, m, cap5⟩ rfl rfl HBU2.out.row HX.out HS6.out (HBU2.out.blk.lt) ?_
    intro v7 W3 h3 hg3 ho3
    refine hK.out _ _ trivial (fun hHeld => ?_)
    clear hK
    simp only [Act.put, List.setIfInBounds_toArray, List.set_cons_zero, List.set_cons_succ]
    refine wpAnyH_ready (rs := [5]) (by kernel_rfl) (by simp) (AllReadyH.cons rfl (fun K hK => ?_) AllReadyH.nil)
    rw [if_pos (by rfl)]
    refine wp_letOne 24 _ _ rfl L rfl v7 rfl (lr_cells h3) (by kernel_rfl) (lr_one h3) V 24 (HBU2.out.kept hg3) rfl ?_
    intro W4 hU
    have HF : Hid (Box w L v7 (sl ++ [⟨some ⟨g, o5, none⟩, m, cap5⟩]) (zs ++ [R]) W4) := box_step HBU2.out rfl HRU2.out.2 HNE.out HGL.out HRU2.out.1 HM6.out h3 hg3 ho3 hU
    refine hK.out _ _ trivial (fun hHeld => ?_)
    clear hK hU h3 hg3 ho3
    refine wpAnyH_done (by kernel_rfl) ?_ _
    clear hHeld
    go_wp2_with fail
    go_end0
    exact ⟨rfl, _, _, HF.out⟩
  · rw [if_pos (by rfl)]
    refine wp_callOp 5 rfl (by clear hK; go_simp) (HC.out) ?_
    rintro e U1 ⟨v5, rfl, hws, hb⟩
    obtain ⟨a5, cap5, rfl, hrow, hnl, hcp⟩ := Ws.row hws
    rw [HRL.out] at hrow hcp ⊢
    obtain ⟨g, o5, rfl, hg5, hc5⟩ := hrow.at HM1.out
    have HG : Hid (U0.heap.size ≤ g) := (World.ownsRow.lt hws g rfl).1
    have HRU1 : Hid (RowU U1 (some ⟨g, o5, none⟩) m R ∧ g < U1.heap.size) := ⟨hrow, hg5⟩
    have HBU1 : Hid (Box w L V sl zs U1) := HBU0.out.next hb
    refine ⟨_, rfl, hK.out _ _ trivial (fun hHeld => ?_)⟩
    clear hK HC hws hb hnl hcp hc5 hg5 hrow HBU0
    simp only [Act.put, List.setIfInBounds_toArray, List.set_cons_zero, List.set_cons_succ]
    have HNE : Hid (some g ≠ V.ownBlock) := fun e => by have := (World.ownsRow.lt HB0.out.row g e.symm).2; have := HG.out; omega
    have HGL : Hid (L + 1 ≤ g) := by have := HB0.out.blk.lt; have := HG.out; show _ ≤ _; omega
    refine wpAnyH_ready (rs := [0, 3]) (by kernel_rfl) (by simp) (AllReadyH.cons rfl (fun K hK => ?_) (AllReadyH.cons rfl (fun K hK => ?_) AllReadyH.nil))
    · rw [if_pos (by rfl)]
      have cU1 : U1.cell? ⟨L, 0, none⟩ = some V := HBU1.out.blk.cell 0
      refine wp_runOp (v := V) (w' := U1) 3 rfl (by clear hK; go_simp) ?_
      refine hK.out _ _ trivial (fun hHeld => ?_)
      clear hK cU1
      simp only [Act.put, List.setIfInBounds_toArray, List.set_cons_zero, List.set_cons_succ]
      refine wpAnyH_ready (rs := [3]) (by kernel_rfl) (by simp) (AllReadyH.cons rfl (fun K hK => ?_) AllReadyH.nil)
      rw [if_pos (by rfl)]
      have hb : Below U1.heap.size U1 (U1.alloc (.cells #[.slice (some ⟨g, o5, none⟩) m cap5] 22)) := (Below.refl _ _).alloc (Nat.le_refl _) _
      have HBU2 : Hid (Box w L V sl zs (U1.alloc (.cells #[.slice (some ⟨g, o5, none⟩) m cap5] 22))) := HBU1.out.next hb
      have HRU2 : Hid (RowU (U1.alloc (.cells #[.slice (some ⟨g, o5, none⟩) m cap5] 22)) (some ⟨g, o5, none⟩) m R ∧ g < (U1.alloc (.cells #[.slice (some ⟨g, o5, none⟩) m cap5] 22)).heap.size) := ⟨HRU1.out.1.below hb, Nat.lt_of_lt_of_le HRU1.out.2 hb.size⟩
      have HX : Hid ((U1.alloc (.cells #[.slice (some ⟨g, o5, none⟩) m cap5] 22)).cell? ⟨U1.heap.size, 0, none⟩ = some (.slice (some ⟨g, o5, none⟩) m cap5)) := (Blk.new _ _ _).cell 0
      clear hb
      refine wp_runOp (v := .slice (some ⟨U1.heap.size, 0, none⟩) 1 1) (w' := (U1.alloc (.cells #[.slice (some ⟨g, o5, none⟩) m cap5] 22))) 6 rfl (by clear hK; go_simp) ?_
      refine hK.out _ _ trivial (fun hHeld => ?_)
      clear hK HBU1 HRU1
      simp only [Act.put, List.setIfInBounds_toArray, List.set_cons_zero, List.set_cons_succ]
      generalize U1.heap.size = G at *
      generalize (U1.alloc (.cells #[.slice (some ⟨g, o5, none⟩) m cap5] 22)) = U2 at *
      refine wpAnyH_ready (rs := [4]) (by kernel_rfl) (by simp) (AllReadyH.cons rfl (fun K hK => ?_) AllReadyH.nil)
      refine step_sli sliT rfl _ _ rfl (L + 1) G V sl ⟨some ⟨g, o5, none⟩, m, cap5⟩ rfl rfl HBU2.out.row HX.out HS6.out (HBU2.out.blk.lt) ?_
      intro v7 W3 h3 hg3 ho3
      refine hK.out _ _ trivial (fun hHeld => ?_)
      clear hK
      simp only [Act.put, List.setIfInBounds_toArray, List.set_cons_zero, List.set_cons_succ]
      refine wpAnyH_ready (rs := [5]) (by kernel_rfl) (by simp) (AllReadyH.cons rfl (fun K hK => ?_) AllReadyH.nil)
      rw [if_pos (by rfl)]
      refine wp_letOne 24 _ _ rfl L rfl v7 rfl (lr_cells h3) (by kernel_rfl) (lr_one h3) V 24 (HBU2.out.kept hg3) rfl ?_
      intro W4 hU
      have HF : Hid (Box w L v7 (sl ++ [⟨some ⟨g, o5, none⟩, m, cap5⟩]) (zs ++ [R]) W4) := box_step HBU2.out rfl HRU2.out.2 HNE.out HGL.out HRU2.out.1 HM6.out h3 hg3 ho3 hU
      refine hK.out _ _ trivial (fun hHeld => ?_)
      clear hK hU h3 hg3 ho3
      refine wpAnyH_done (by kernel_rfl) ?_ _
      clear hHeld
      go_wp2_with fail
      go_end0
      exact ⟨rfl, _, _, HF.out⟩
    · rw [if_pos (by rfl)]
      have hb : Below U1.heap.size U1 (U1.alloc (.cells #[.slice (some ⟨g, o5, none⟩) m cap5] 22)) := (Below.refl _ _).alloc (Nat.le_refl _) _
      have HBU2 : Hid (Box w L V sl zs (U1.alloc (.cells #[.slice (some ⟨g, o5, none⟩) m cap5] 22))) := HBU1.out.next hb
      have HRU2 : Hid (RowU (U1.alloc (.cells #[.slice (some ⟨g, o5, none⟩) m cap5] 22)) (some ⟨g, o5, none⟩) m R ∧ g < (U1.alloc (.cells #[.slice (some ⟨g, o5, none⟩) m cap5] 22)).heap.size) := ⟨HRU1.out.1.below hb, Nat.lt_of_lt_of_le HRU1.out.2 hb.size⟩
      have HX : Hid ((U1.alloc (.cells #[.slice (some ⟨g, o5, none⟩) m cap5] 22)).cell? ⟨U1.heap.size, 0, none⟩ = some (.slice (some ⟨g, o5, none⟩) m cap5)) := (Blk.new _ _ _).cell 0
      clear hb
      refine wp_runOp (v := .slice (some ⟨U1.heap.size, 0, none⟩) 1 1) (w' := (U1.alloc (.cells #[.slice (some ⟨g, o5, none⟩) m cap5] 22))) 6 rfl (by clear hK; go_simp) ?_
      refine hK.out _ _ trivial (fun hHeld => ?_)
      clear hK HBU1 HRU1
      simp only [Act.put, List.setIfInBounds_toArray, List.set_cons_zero, List.set_cons_succ]
      generalize U1.heap.size = G at *
      generalize (U1.alloc (.cells #[.slice (some ⟨g, o5, none⟩) m cap5] 22)) = U2 at *
      refine wpAnyH_ready (rs := [0]) (by kernel_rfl) (by simp) (AllReadyH.cons rfl (fun K hK => ?_) AllReadyH.nil)
      rw [if_pos (by rfl)]
      have cU2 : U2.cell? ⟨L, 0, none⟩ = some V := HBU2.out.blk.cell 0
      refine wp_runOp (v := V) (w' := U2) 3 rfl (by clear hK; go_simp) ?_
      refine hK.out _ _ trivial (fun hHeld => ?_)
      clear hK cU2
      simp only [Act.put, List.setIfInBounds_toArray, List.set_cons_zero, List.set_cons_succ]
      refine wpAnyH_ready (rs := [4]) (by kernel_rfl) (by simp) (AllReadyH.cons rfl (fun K hK => ?_) AllReadyH.nil)
      refine step_sli sliT rfl _ _ rfl (L + 1) G V sl ⟨some ⟨g, o5, none⟩, m, cap5⟩ rfl rfl HBU2.out.row HX.out HS6.out (HBU2.out.blk.lt) ?_
      intro v7 W3 h3 hg3 ho3
      refine hK.out _ _ trivial (fun hHeld => ?_)
      clear hK
      simp only [Act.put, List.setIfInBounds_toArray, List.set_cons_zero, List.set_cons_succ]
      refine wpAnyH_ready (rs := [5]) (by kernel_rfl) (by simp) (AllReadyH.cons rfl (fun K hK => ?_) AllReadyH.nil)
      rw [if_pos (by rfl)]
      refine wp_letOne 24 _ _ rfl L rfl v7 rfl (lr_cells h3) (by kernel_rfl) (lr_one h3) V 24 (HBU2.out.kept hg3) rfl ?_
      intro W4 hU
      have HF : Hid (Box w L v7 (sl ++ [⟨some ⟨g, o5, none⟩, m, cap5⟩]) (zs ++ [R]) W4) := box_step HBU2.out rfl HRU2.out.2 HNE.out HGL.out HRU2.out.1 HM6.out h3 hg3 ho3 hU
      refine hK.out _ _ trivial (fun hHeld => ?_)
      clear hK hU h3 hg3 ho3
      refine wpAnyH_done (by kernel_rfl) ?_ _
      clear hHeld
      go_wp2_with fail
      go_end0
      exact ⟨rfl, _, _, HF.out⟩

end Go.Proofs.Ytfllkhlnnihndaa.disk
