import Derived.Test.YtomibnggmhjdfaaGreatVVRrs24
set_option linter.unusedVariables false
set_option linter.unusedSimpArgs false
namespace Go.Proofs.YtomibnggmhjdfaaGreat
namespace disk
open Go.RowKit cell
set_option maxRecDepth 100000
theorem lr_cells {T : TypeId} {w : World} {base : Nat} {v : Value} {l : List Sli} (h : Lr T w base v l) : v.cells = #[v] := by
 obtain ⟨a, cap, rfl⟩ := h.len
 rfl
theorem lr_one {T : TypeId} {w : World} {base : Nat} {v : Value} {l : List Sli} (h : Lr T w base v l) : v.oneCell' = true := by
 obtain ⟨a, cap, rfl⟩ := h.len
 rfl
set_option maxHeartbeats 4000000 in
theorem put_record (w : World) (L : Nat) (V : Value) (sl : List Sli) (zs : List (List Int)) (R : List Int) (b off m : Nat) (W : World) (h : Box w L V sl zs W) (hr : RowU W (some ⟨b, off, none⟩) m R) (h1 : 1 ≤ m) (h2 : m ≤ 64) (hs : sl.length ≤ 1000000) :
  Calls Tryz.prog 71 #[.slice (some ⟨b, off, none⟩) m m, .pointer (some ⟨L, 0, none⟩)] W fun e w' => e = .returned (.tuple #[]) ∧ ∃ V' sl', Box w L V' sl' (zs ++ [R]) w' := by
 have HC : Hid (Calls Tryz.prog 72 #[.slice (some ⟨b, off, none⟩) m m] W.drew fun e w' => GaveU W.drew R e w') := clone_any _ m m R _ hr (by omega)
 have HBU0 : Hid (Box w L V sl zs W.drew) := h.next (Below.refl _ _).drew
 have HB0 : Hid (Box w L V sl zs W.drew) := HBU0.out
 have HRL : Hid (R.length = m) := hr.1
 have HM1 : Hid (0 < m) := h1
 have HM6 : Hid (m ≤ 100000) := Nat.le_trans h2 (by decide)
 have HS6 : Hid (sl.length ≤ 1000000) := hs
 clear hr h h1 h2 hs
 go_enter Tryz.func71, Tryz.ntmps71
 refine wp_region_held_drew (S := fun v => True) (by kernel_rfl) trivial (fun hHeld => ?_)
 generalize W.drew = U0 at *
 refine zqt 1 4 (.slice (some ⟨b, off, none⟩) m m) rfl rfl (by kernel_rfl) (fun _ _ _ h => h) (Or.inl ⟨by rfl, fun v hv => by clear hv; go_simp⟩) hHeld ?_
 simp only [Act.put, zqa, zqb, zqc]
 refine wpAnyH_ready (rs := [0, 2]) (by kernel_rfl) (by simp) (AllReadyH.cons rfl (fun K hK => ?_) (AllReadyH.cons rfl (fun K hK => ?_) AllReadyH.nil))
 ·rw [if_pos (by rfl)]
  have cU0 : U0.cell? ⟨L, 0, none⟩ = some V := HBU0.out.blk.cell 0
  refine wp_runOp (v := V) (w' := U0) 3 rfl (by clear hK; go_simp) ?_
  refine hK.out _ _ trivial (fun hHeld => ?_)
  clear hK cU0
  simp only [Act.put, zqa, zqb, zqc]
  refine wpAnyH_ready (rs := [2]) (by kernel_rfl) (by simp) (AllReadyH.cons rfl (fun K hK => ?_) AllReadyH.nil)
  rw [if_pos (by rfl)]
  refine wp_callOp 5 rfl (by clear hK; go_simp) (HC.out) ?_
  rintro e U1 ⟨v5, rfl, hws, hb⟩
  obtain ⟨a5, cap5, rfl, hrow, hnl, hcp⟩ := Ws.row hws
  rw [HRL.out] at hrow hcp ⊢
  obtain ⟨g, o5, rfl, hg5, hc5⟩ := hrow.at HM1.out
  have HCP : Hid (m ≤ cap5) := hcp
  have HG : Hid (U0.heap.size ≤ g) := (World.ownsRow.lt hws g rfl).1
  have HRU1 : Hid (RowU U1 (some ⟨g, o5, none⟩) m R ∧ g < U1.heap.size) := ⟨hrow, hg5⟩
  have HBU1 : Hid (Box w L V sl zs U1) := HBU0.out.next hb
  refine ⟨_, rfl, hK.out _ _ trivial (fun hHeld => ?_)⟩
  clear hK HC hws hb hnl hcp hc5 hg5 hrow HBU0
  simp only [Act.put, zqa, zqb, zqc]
  have HNE : Hid (some g ≠ V.ownBlock) := fun e => by have := (World.ownsRow.lt HB0.out.row g e.symm).2; have := HG.out; omega
  have HGL : Hid (L + 1 ≤ g) := by have := HB0.out.blk.lt; have := HG.out; show _ ≤ _; omega
  refine wpAnyH_ready (rs := [3]) (by kernel_rfl) (by simp) (AllReadyH.cons rfl (fun K hK => ?_) AllReadyH.nil)
  rw [if_pos (by rfl)]
  have hb : Below U1.heap.size U1 (U1.alloc (.cells #[.slice (some ⟨g, o5, none⟩) m cap5] 25)) := (Below.refl _ _).alloc (Nat.le_refl _) _
  have HBU2 : Hid (Box w L V sl zs (U1.alloc (.cells #[.slice (some ⟨g, o5, none⟩) m cap5] 25))) := HBU1.out.next hb
  have HRU2 : Hid (RowU (U1.alloc (.cells #[.slice (some ⟨g, o5, none⟩) m cap5] 25)) (some ⟨g, o5, none⟩) m R ∧ g < (U1.alloc (.cells #[.slice (some ⟨g, o5, none⟩) m cap5] 25)).heap.size) := ⟨HRU1.out.1.below hb, Nat.lt_of_lt_of_le HRU1.out.2 hb.size⟩
  have HX : Hid ((U1.alloc (.cells #[.slice (some ⟨g, o5, none⟩) m cap5] 25)).cell? ⟨U1.heap.size, 0, none⟩ = some (.slice (some ⟨g, o5, none⟩) m cap5)) := (Blk.new _ _ _).cell 0
  clear hb
  refine wp_runOp (v := .slice (some ⟨U1.heap.size, 0, none⟩) 1 1) (w' := (U1.alloc (.cells #[.slice (some ⟨g, o5, none⟩) m cap5] 25))) 6 rfl (by clear hK; go_simp) ?_
  refine hK.out _ _ trivial (fun hHeld => ?_)
  clear hK HBU1 HRU1
  simp only [Act.put, zqa, zqb, zqc]
  generalize U1.heap.size = G at *
  generalize (U1.alloc (.cells #[.slice (some ⟨g, o5, none⟩) m cap5] 25)) = U2 at *
  refine wpAnyH_ready (rs := [4]) (by kernel_rfl) (by simp) (AllReadyH.cons rfl (fun K hK => ?_) AllReadyH.nil)
  refine step_sli sliT rfl _ _ rfl (L + 1) G V sl ⟨some ⟨g, o5, none⟩, m, cap5⟩ rfl rfl HBU2.out.row HX.out HS6.out (HBU2.out.blk.lt) ?_
  intro v7 W3 h3 hg3 ho3
  refine hK.out _ _ trivial (fun hHeld => ?_)
  clear hK
  simp only [Act.put, zqa, zqb, zqc]
  refine wpAnyH_ready (rs := [5]) (by kernel_rfl) (by simp) (AllReadyH.cons rfl (fun K hK => ?_) AllReadyH.nil)
  rw [if_pos (by rfl)]
  refine wp_letOne 79 _ _ rfl L rfl v7 rfl (lr_cells h3) (by kernel_rfl) (lr_one h3) V 79 (HBU2.out.kept hg3) rfl ?_
  intro W4 hU
  have HF : Hid (Box w L v7 (sl ++ [⟨some ⟨g, o5, none⟩, m, cap5⟩]) (zs ++ [R]) W4) := box_step HBU2.out rfl HRU2.out.2 HNE.out HGL.out HRU2.out.1 ⟨HM6.out, HCP.out, fun h => by cases h⟩ h3 hg3 ho3 hU
  refine hK.out _ _ trivial (fun hHeld => ?_)
  clear hK hU h3 hg3 ho3
  refine wpAnyH_done (by kernel_rfl) ?_ _
  clear hHeld
  go_wp2_with fail
  go_end0
  exact ⟨rfl, _, _, HF.out⟩
 ·rw [if_pos (by rfl)]
  refine wp_callOp 5 rfl (by clear hK; go_simp) (HC.out) ?_
  rintro e U1 ⟨v5, rfl, hws, hb⟩
  obtain ⟨a5, cap5, rfl, hrow, hnl, hcp⟩ := Ws.row hws
  rw [HRL.out] at hrow hcp ⊢
  obtain ⟨g, o5, rfl, hg5, hc5⟩ := hrow.at HM1.out
  have HCP : Hid (m ≤ cap5) := hcp
  have HG : Hid (U0.heap.size ≤ g) := (World.ownsRow.lt hws g rfl).1
  have HRU1 : Hid (RowU U1 (some ⟨g, o5, none⟩) m R ∧ g < U1.heap.size) := ⟨hrow, hg5⟩
  have HBU1 : Hid (Box w L V sl zs U1) := HBU0.out.next hb
  refine ⟨_, rfl, hK.out _ _ trivial (fun hHeld => ?_)⟩
  clear hK HC hws hb hnl hcp hc5 hg5 hrow HBU0
  simp only [Act.put, zqa, zqb, zqc]
  have HNE : Hid (some g ≠ V.ownBlock) := fun e => by have := (World.ownsRow.lt HB0.out.row g e.symm).2; have := HG.out; omega
  have HGL : Hid (L + 1 ≤ g) := by have := HB0.out.blk.lt; have := HG.out; show _ ≤ _; omega
  refine wpAnyH_ready (rs := [0, 3]) (by kernel_rfl) (by simp) (AllReadyH.cons rfl (fun K hK => ?_) (AllReadyH.cons rfl (fun K hK => ?_) AllReadyH.nil))
  ·rw [if_pos (by rfl)]
   have cU1 : U1.cell? ⟨L, 0, none⟩ = some V := HBU1.out.blk.cell 0
   refine wp_runOp (v := V) (w' := U1) 3 rfl (by clear hK; go_simp) ?_
   refine hK.out _ _ trivial (fun hHeld => ?_)
   clear hK cU1
   simp only [Act.put, zqa, zqb, zqc]
   refine wpAnyH_ready (rs := [3]) (by kernel_rfl) (by simp) (AllReadyH.cons rfl (fun K hK => ?_) AllReadyH.nil)
   rw [if_pos (by rfl)]
   have hb : Below U1.heap.size U1 (U1.alloc (.cells #[.slice (some ⟨g, o5, none⟩) m cap5] 25)) := (Below.refl _ _).alloc (Nat.le_refl _) _
   have HBU2 : Hid (Box w L V sl zs (U1.alloc (.cells #[.slice (some ⟨g, o5, none⟩) m cap5] 25))) := HBU1.out.next hb
   have HRU2 : Hid (RowU (U1.alloc (.cells #[.slice (some ⟨g, o5, none⟩) m cap5] 25)) (some ⟨g, o5, none⟩) m R ∧ g < (U1.alloc (.cells #[.slice (some ⟨g, o5, none⟩) m cap5] 25)).heap.size) := ⟨HRU1.out.1.below hb, Nat.lt_of_lt_of_le HRU1.out.2 hb.size⟩
   have HX : Hid ((U1.alloc (.cells #[.slice (some ⟨g, o5, none⟩) m cap5] 25)).cell? ⟨U1.heap.size, 0, none⟩ = some (.slice (some ⟨g, o5, none⟩) m cap5)) := (Blk.new _ _ _).cell 0
   clear hb
   refine wp_runOp (v := .slice (some ⟨U1.heap.size, 0, none⟩) 1 1) (w' := (U1.alloc (.cells #[.slice (some ⟨g, o5, none⟩) m cap5] 25))) 6 rfl (by clear hK; go_simp) ?_
   refine hK.out _ _ trivial (fun hHeld => ?_)
   clear hK HBU1 HRU1
   simp only [Act.put, zqa, zqb, zqc]
   generalize U1.heap.size = G at *
   generalize (U1.alloc (.cells #[.slice (some ⟨g, o5, none⟩) m cap5] 25)) = U2 at *
   refine wpAnyH_ready (rs := [4]) (by kernel_rfl) (by simp) (AllReadyH.cons rfl (fun K hK => ?_) AllReadyH.nil)
   refine step_sli sliT rfl _ _ rfl (L + 1) G V sl ⟨some ⟨g, o5, none⟩, m, cap5⟩ rfl rfl HBU2.out.row HX.out HS6.out (HBU2.out.blk.lt) ?_
   intro v7 W3 h3 hg3 ho3
   refine hK.out _ _ trivial (fun hHeld => ?_)
   clear hK
   simp only [Act.put, zqa, zqb, zqc]
   refine wpAnyH_ready (rs := [5]) (by kernel_rfl) (by simp) (AllReadyH.cons rfl (fun K hK => ?_) AllReadyH.nil)
   rw [if_pos (by rfl)]
   refine wp_letOne 79 _ _ rfl L rfl v7 rfl (lr_cells h3) (by kernel_rfl) (lr_one h3) V 79 (HBU2.out.kept hg3) rfl ?_
   intro W4 hU
   have HF : Hid (Box w L v7 (sl ++ [⟨some ⟨g, o5, none⟩, m, cap5⟩]) (zs ++ [R]) W4) := box_step HBU2.out rfl HRU2.out.2 HNE.out HGL.out HRU2.out.1 ⟨HM6.out, HCP.out, fun h => by cases h⟩ h3 hg3 ho3 hU
   refine hK.out _ _ trivial (fun hHeld => ?_)
   clear hK hU h3 hg3 ho3
   refine wpAnyH_done (by kernel_rfl) ?_ _
   clear hHeld
   go_wp2_with fail
   go_end0
   exact ⟨rfl, _, _, HF.out⟩
  ·rw [if_pos (by rfl)]
   have hb : Below U1.heap.size U1 (U1.alloc (.cells #[.slice (some ⟨g, o5, none⟩) m cap5] 25)) := (Below.refl _ _).alloc (Nat.le_refl _) _
   have HBU2 : Hid (Box w L V sl zs (U1.alloc (.cells #[.slice (some ⟨g, o5, none⟩) m cap5] 25))) := HBU1.out.next hb
   have HRU2 : Hid (RowU (U1.alloc (.cells #[.slice (some ⟨g, o5, none⟩) m cap5] 25)) (some ⟨g, o5, none⟩) m R ∧ g < (U1.alloc (.cells #[.slice (some ⟨g, o5, none⟩) m cap5] 25)).heap.size) := ⟨HRU1.out.1.below hb, Nat.lt_of_lt_of_le HRU1.out.2 hb.size⟩
   have HX : Hid ((U1.alloc (.cells #[.slice (some ⟨g, o5, none⟩) m cap5] 25)).cell? ⟨U1.heap.size, 0, none⟩ = some (.slice (some ⟨g, o5, none⟩) m cap5)) := (Blk.new _ _ _).cell 0
   clear hb
   refine wp_runOp (v := .slice (some ⟨U1.heap.size, 0, none⟩) 1 1) (w' := (U1.alloc (.cells #[.slice (some ⟨g, o5, none⟩) m cap5] 25))) 6 rfl (by clear hK; go_simp) ?_
   refine hK.out _ _ trivial (fun hHeld => ?_)
   clear hK HBU1 HRU1
   simp only [Act.put, zqa, zqb, zqc]
   generalize U1.heap.size = G at *
   generalize (U1.alloc (.cells #[.slice (some ⟨g, o5, none⟩) m cap5] 25)) = U2 at *
   refine wpAnyH_ready (rs := [0]) (by kernel_rfl) (by simp) (AllReadyH.cons rfl (fun K hK => ?_) AllReadyH.nil)
   rw [if_pos (by rfl)]
   have cU2 : U2.cell? ⟨L, 0, none⟩ = some V := HBU2.out.blk.cell 0
   refine wp_runOp (v := V) (w' := U2) 3 rfl (by clear hK; go_simp) ?_
   refine hK.out _ _ trivial (fun hHeld => ?_)
   clear hK cU2
   simp only [Act.put, zqa, zqb, zqc]
   refine wpAnyH_ready (rs := [4]) (by kernel_rfl) (by simp) (AllReadyH.cons rfl (fun K hK => ?_) AllReadyH.nil)
   refine step_sli sliT rfl _ _ rfl (L + 1) G V sl ⟨some ⟨g, o5, none⟩, m, cap5⟩ rfl rfl HBU2.out.row HX.out HS6.out (HBU2.out.blk.lt) ?_
   intro v7 W3 h3 hg3 ho3
   refine hK.out _ _ trivial (fun hHeld => ?_)
   clear hK
   simp only [Act.put, zqa, zqb, zqc]
   refine wpAnyH_ready (rs := [5]) (by kernel_rfl) (by simp) (AllReadyH.cons rfl (fun K hK => ?_) AllReadyH.nil)
   rw [if_pos (by rfl)]
   refine wp_letOne 79 _ _ rfl L rfl v7 rfl (lr_cells h3) (by kernel_rfl) (lr_one h3) V 79 (HBU2.out.kept hg3) rfl ?_
   intro W4 hU
   have HF : Hid (Box w L v7 (sl ++ [⟨some ⟨g, o5, none⟩, m, cap5⟩]) (zs ++ [R]) W4) := box_step HBU2.out rfl HRU2.out.2 HNE.out HGL.out HRU2.out.1 ⟨HM6.out, HCP.out, fun h => by cases h⟩ h3 hg3 ho3 hU
   refine hK.out _ _ trivial (fun hHeld => ?_)
   clear hK hU h3 hg3 ho3
   refine wpAnyH_done (by kernel_rfl) ?_ _
   clear hHeld
   go_wp2_with fail
   go_end0
   exact ⟨rfl, _, _, HF.out⟩
def EPost (J : Nat → World → Prop) (c : List Int) (e : Ending) (w' : World) : Prop :=
 ∃ x f k, e = .returned (.tuple #[.int .i64 x, .int .i64 f]) ∧ J k w' ∧ ((¬ May c ∧ x = 0 ∧ f = 1) ∨ (May c ∧ lenAt c (repD c).2 < 0 ∧ x = 0 ∧ f = 3) ∨ (May c ∧ lenAt c (repD c).2 = 0 ∧ repD c = itD c k ∧ x = ((repD c).2 : Int) ∧ f = 0))
theorem len_zero {c : List Int} {p : Nat} (h : c.getD p 0 = 0) : lenAt c p = 0 := by unfold lenAt; rw [if_pos (.inr h)]
theorem len_end {c : List Int} {p : Nat} (h : p = c.length) : lenAt c p = 0 := by unfold lenAt; rw [if_pos (.inl h)]
theorem len_bad {c : List Int} {p : Nat} (hp : p < c.length) (h0 : c.getD p 0 ≠ 0) (h : 64 < c.getD p 0 ∨ (c.length : Int) ≤ p + c.getD p 0) : lenAt c p < 0 := by
 unfold lenAt
 rw [if_neg (by omega)]
 by_cases h1 : 64 < c.getD p 0
 ·rw [if_pos h1]; decide
 ·rw [if_neg h1, if_pos (by omega)]; decide
theorem get_wd {c : List Int} (hw : ∀ x ∈ c, 0 ≤ x ∧ x < 4294967296) (p : Nat) : 0 ≤ c.getD p 0 ∧ c.getD p 0 < 4294967296 := by
 by_cases h : p < c.length
 ·have e : c.getD p 0 = c[p] := by simp [List.getD, h]
  rw [e]
  exact hw _ (List.getElem_mem h)
 ·have e : c.getD p 0 = 0 := by simp [List.getD, Nat.le_of_not_lt h]
  rw [e]; decide
theorem rowU_part {W : World} {b o n : Nat} {c : List Int} (h : RowU W (some ⟨b, o, none⟩) n c) {p m : Nat} (hm : (c.getD p 0).toNat = m) (hp : p + m < n) : RowU W (some ⟨b, o + (p + 1), none⟩) m (recAt c p) := by
 refine ⟨rec_len hm (by rw [h.1]; exact hp), .inr ⟨b, o + (p + 1), rfl, fun i hi => ?_⟩⟩
 obtain ⟨b', o', e, _, hc⟩ := h.at (by omega)
 cases e
 rw [rec_at hm hi, show o + (p + 1) + i = o + (p + 1 + i) by omega]
 exact hc (p + 1 + i) (by omega)
set_option maxHeartbeats 4000000 in
theorem each_any (F : Nat) (caps : Array Value) (J : Nat → World → Prop) (a : Option Addr) (n cap : Nat) (c : List Int) (w : World) (hJ : ∀ k W, J k W → RowU W a n c) (h0 : J 0 w) (hcap : n ≤ cap) (hw : ∀ x ∈ c, 0 ≤ x ∧ x < 4294967296) (hK : ∀ args w, (callFunc F args).run Tryz.prog w = .ok (.enter F args) w)
  (hf : ∀ (k p m b o : Nat) (W : World), J k W → (itD c k).2 = p → itD c (k + 1) = ((itD c k).1 ++ [recAt c p], p + m + 1) → RowU W (some ⟨b, o, none⟩) m (recAt c p) → 1 ≤ m → m ≤ 64 → p ≤ 2048 → Calls Tryz.prog F (#[.slice (some ⟨b, o, none⟩) m m] ++ caps) W fun e w' => e = .returned (.tuple #[]) ∧ J (k + 1) w') :
  Calls Tryz.prog 65 #[.slice a n cap, .func (.func F) #[] caps] w fun e w' => EPost J c e w' := by
 have hcl := (hJ 0 w h0).1
 have H0 : Hid (J 0 w) := h0
 have HN : Hid (c.length = n) := hcl
 by_cases hmay : 1 ≤ n ∧ n ≤ 2048
 ·obtain ⟨b, o, rfl, _, _⟩ := (hJ 0 w h0).at (by omega)
  have HJ : Hid (∀ k W, J k W → RowU W (some ⟨b, o, none⟩) n c) := hJ
  have HCL : Hid (∀ k W, J k W → ∀ j, j < n → W.cell? ⟨b, o + j, none⟩ = some (.int .u32 (c.getD j 0))) := fun k W h j hj => by
   obtain ⟨b', o', e, _, hc⟩ := (hJ k W h).at (by omega)
   cases e
   exact hc j hj
  have HW : Hid (∀ p, 0 ≤ c.getD p 0 ∧ c.getD p 0 < 4294967296) := get_wd hw
  have HF : Hid (∀ (k p m b o : Nat) (W : World), J k W → (itD c k).2 = p → itD c (k + 1) = ((itD c k).1 ++ [recAt c p], p + m + 1) → RowU W (some ⟨b, o, none⟩) m (recAt c p) → 1 ≤ m → m ≤ 64 → p ≤ 2048 → Calls Tryz.prog F (#[.slice (some ⟨b, o, none⟩) m m] ++ caps) W fun e w' => e = .returned (.tuple #[]) ∧ J (k + 1) w') := hf
  have HMY : Hid (May c) := ⟨by omega, by omega⟩
  obtain ⟨hn1, hn2⟩ := hmay
  have d1 : decide ((n : Int) < 1) = false := by simp; omega
  have d2 : decide ((2048 : Int) < (n : Int)) = false := by simp; omega
  clear hJ hf hw hcl h0
  go_enter Tryz.func65, Tryz.ntmps65
  go_wp2_with fail
  go_loopw [6] (fun v6 wr => ∃ (k p : Nat), p ≤ n ∧ v6 = .int .i64 (p : Int) ∧ (itD c k).2 = p ∧ J k wr) (fun v6 _ => n + 1 - (intOf v6).toNat)
  case atStart => exact ⟨0, 0, Nat.zero_le _, rfl, rfl, H0.out⟩
  case round =>
   obtain ⟨k, p, hp, rfl, hk, hj⟩ := hrel
   have HJK : Hid (J k wr) := hj
   have HK : Hid ((itD c k).2 = p) := hk
   clear hj hk H0
   by_cases hpn : p < n
   ·have k2 := HCL.out k wr HJK.out p hpn
    have hz := HW.out p
    have e1 : decide ((p : Int) < (n : Int)) = true := by simp; omega
    by_cases hz0 : c.getD p 0 = 0
    ·have HL0 : Hid (lenAt c p = 0) := len_zero hz0
     have HE : Hid (EPost J c (.returned (.tuple #[.int .i64 (p : Int), .int .i64 0])) wr) := by
      have hd : ¬ 0 < lenAt c (itD c k).2 := by rw [HK.out, HL0.out]; decide
      have hr := rep_of hd
      exact ⟨_, _, k, rfl, HJK.out, .inr (.inr ⟨HMY.out, by rw [hr, HK.out]; exact HL0.out, hr, by rw [hr, HK.out], rfl⟩)⟩
     rw [hz0] at k2
     clear hz hz0 HJ HCL HW HF HK HJK HL0
     go_wp2_with fail
     go_ret2
     exact HE.out
    ·by_cases hbad : 64 < c.getD p 0 ∨ (n : Int) ≤ p + c.getD p 0
     ·have HE : Hid (EPost J c (.returned (.tuple #[.int .i64 0, .int .i64 3])) wr) := by
       have hl := len_bad (c := c) (p := p) (by rw [HN.out]; exact hpn) hz0 (by rw [HN.out]; exact hbad)
       have hd : ¬ 0 < lenAt c (itD c k).2 := by rw [HK.out]; omega
       exact ⟨_, _, k, rfl, HJK.out, .inr (.inl ⟨HMY.out, by rw [rep_of hd, HK.out]; exact hl, rfl, rfl⟩)⟩
      have e0 : (c.getD p 0 != 0) = true := by simpa using hz0
      clear HJ HCL HW HF HK HJK
      generalize c.getD p 0 = z at *
      obtain ⟨hz1, hz2⟩ := hz
      by_cases h64 : 64 < z
      ·have e3 : decide ((64 : Int) < z) = true := by simpa using h64
       clear hbad
       go_wp2_with fail
       go_ret2
       exact HE.out
      ·have e3 : decide ((64 : Int) < z) = false := by simpa using h64
       have e4 : decide ((n : Int) < (p : Int) + 1 + z) = true := by simp; omega
       clear hbad
       go_wp2_with fail
       go_ret2
       exact HE.out
     ·obtain ⟨m, hm⟩ : ∃ m : Nat, c.getD p 0 = (m : Int) := ⟨(c.getD p 0).toNat, by omega⟩
      have hgm : (c.getD p 0).toNat = m := by rw [hm]; simp
      have hm1 : 1 ≤ m := by omega
      have hm2 : m ≤ 64 := by omega
      have hpm : p + m < n := by omega
      have hla : lenAt c p = (m : Int) := by rw [len_of (by omega) (by omega) (by rw [HN.out]; omega), hm]
      have HIT : Hid (itD c (k + 1) = ((itD c k).1 ++ [recAt c p], p + m + 1)) := by
       have h := it_live (c := c) (k := k) (by rw [HK.out, hla]; omega)
       rw [HK.out, hla, Int.toNat_natCast] at h
       exact h
      have HCC : Hid (Calls Tryz.prog F (#[.slice (some ⟨b, o + (p + 1), none⟩) m m] ++ caps) wr fun e w' => e = .returned (.tuple #[]) ∧ J (k + 1) w') := HF.out k p m b (o + (p + 1)) wr HJK.out HK.out HIT.out (rowU_part (HJ.out k wr HJK.out) hgm hpm) hm1 hm2 (by omega)
      rw [hm] at k2
      have e0 : ((m : Int) != 0) = true := by simp; omega
      have e3 : decide ((64 : Int) < (m : Int)) = false := by simp; omega
      have e4 : decide ((n : Int) < (p : Int) + 1 + (m : Int)) = false := by simp; omega
      have hc1 : p + 1 < cap := by omega
      clear hz hz0 hbad hm hgm hla HF HJ HW HCL
      go_wp2_with fail
      refine HCC.out.mono ?_
      rintro e w1 ⟨rfl, hj1⟩
      have HJ1 : Hid (J (k + 1) w1) := hj1
      clear hj1
      go_wp2_with fail
      go_roundw
      case rel => exact ⟨k + 1, p + m + 1, by omega, by go_num, by rw [HIT.out], HJ1.out⟩
      case measure => simp [intOf]; omega
   ·have e1 : decide ((p : Int) < (n : Int)) = false := by simp; omega
    have HE : Hid (EPost J c (.returned (.tuple #[.int .i64 (p : Int), .int .i64 0])) wr) := by
     have hl : lenAt c p = 0 := len_end (by rw [HN.out]; omega)
     have hd : ¬ 0 < lenAt c (itD c k).2 := by rw [HK.out, hl]; decide
     have hr := rep_of hd
     exact ⟨_, _, k, rfl, HJK.out, .inr (.inr ⟨HMY.out, by rw [hr, HK.out]; exact hl, hr, by rw [hr, HK.out], rfl⟩)⟩
    clear HJ HCL HW HF HK HJK
    go_wp2_with fail
    go_ret2
    exact HE.out
 ·have HE : Hid (EPost J c (.returned (.tuple #[.int .i64 0, .int .i64 1])) w) := ⟨0, 1, 0, rfl, H0.out, .inl ⟨fun h => hmay ⟨by rw [← hcl]; exact h.1, by rw [← hcl]; exact h.2⟩, rfl, rfl⟩⟩
  clear hJ hf hw h0 H0 hcl HN
  go_enter Tryz.func65, Tryz.ntmps65
  by_cases h1 : 1 ≤ n
  ·have d1 : decide ((n : Int) < 1) = false := by simp; omega
   have d2 : decide ((2048 : Int) < (n : Int)) = true := by simp; omega
   go_wp2_with fail
   go_ret2
   exact HE.out
  ·have d1 : decide ((n : Int) < 1) = true := by simp; omega
   go_wp2_with fail
   go_ret2
   exact HE.out
def KReplay : Prop := ∀ (W : World) (a : Option Addr) (n cap : Nat) (c : List Int), RowU W a n c → (a = none → cap = 0) → n ≤ cap → n * 4 ≤ 140737488351232 → (∀ x ∈ c, 0 ≤ x ∧ x < 4294967296) → Calls Tryz.prog 49 #[.slice a n cap] W fun e w' => RepNew W c e w'
def JR (w : World) (c : List Int) (k : Nat) (W : World) : Prop := ∃ V sl, Box w w.heap.size V sl (itD c k).1 W
set_option maxHeartbeats 4000000 in
theorem kreplay : KReplay := by
 intro w a n cap c h hnil hcap hby hw
 have H0 : JR w c 0 (w.alloc (.cells #[.slice none 0 0] 79)) := ⟨.slice none 0 0, [], Blk.new _ _ _, Lr.zero _ _ _, Recs.nil _ _, (fun i hi => by cases hi), (Below.refl _ _).alloc (Nat.le_refl _) _⟩
 have HE : Hid (Calls Tryz.prog 65 #[.slice a n cap, .func (.func 71) #[] #[.pointer (some ⟨w.heap.size, 0, none⟩)]] (w.alloc (.cells #[.slice none 0 0] 79)) fun e w' => EPost (JR w c) c e w') := by
  refine each_any 71 #[.pointer (some ⟨w.heap.size, 0, none⟩)] (JR w c) a n cap c _ (fun k W hj => ?_) H0 hcap hw (fun _ _ => by kernel_rfl) ?_
  ·obtain ⟨V, sl, hb⟩ := hj
   exact h.below hb.bel
  ·intro k p m b o W hj hp hit hr h1 h2 h3
   obtain ⟨V, sl, hb⟩ := hj
   have hs : sl.length ≤ 1000000 := by have := hb.recs.1; have := it_count c k; omega
   refine (put_record w w.heap.size V sl _ (recAt c p) b o m W hb hr h1 h2 hs).mono ?_
   rintro e w' ⟨rfl, V', sl', hb'⟩
   refine ⟨rfl, V', sl', ?_⟩
   rw [hit]
   exact hb'
 clear H0 h hnil hcap hby hw
 go_enter Tryz.func49, Tryz.ntmps49
 go_wp2_with fail
 refine HE.out.mono ?_
 rintro e w1 ⟨x, f, k, rfl, ⟨V, sl, hb⟩, hi⟩
 have HB : Hid (Box w w.heap.size V sl (itD c k).1 w1) := hb
 have HI : Hid ((¬ May c ∧ x = 0 ∧ f = 1) ∨ (May c ∧ lenAt c (repD c).2 < 0 ∧ x = 0 ∧ f = 3) ∨ (May c ∧ lenAt c (repD c).2 = 0 ∧ repD c = itD c k ∧ x = ((repD c).2 : Int) ∧ f = 0)) := hi
 clear hb hi HE
 by_cases hf : f = 0
 ·have HR : Hid (RepIs c (itD c k).1 x 0) := by
   rcases HI.out with ⟨_, _, e⟩ | ⟨_, _, _, e⟩ | ⟨q1, q2, q3, q4, _⟩
   ·rw [hf] at e; exact absurd e (by decide)
   ·rw [hf] at e; exact absurd e (by decide)
   ·exact .inr (.inr ⟨q1, q2, by rw [q3], q4, rfl⟩)
  have q0 : w1.cell? ⟨w.heap.size, 0, none⟩ = some V := HB.out.blk.cell 0
  obtain ⟨va, vc, hV, hrd⟩ := HB.out.reads
  have HRD : Hid (ReadsF w1 w.heap.size va (itD c k).1.length (itD c k).1) := hrd
  have HBL : Hid (Below w.heap.size w w1) := HB.out.bel
  subst hf
  subst hV
  clear hrd HB HI
  generalize (itD c k).1 = zs at *
  have HFW : Hid (zs.length ≤ 100000) := Nat.le_trans (rep_few HR.out).1 (by decide)
  generalize hzl : zs.length = zl at *
  clear hzl
  go_wp2_with fail
  go_ret3
  exact ⟨va, _, vc, zs, x, 0, rfl, HRD.out, HFW.out, HR.out, HBL.out⟩
 ·have HR : Hid (RepIs c [] 0 f) := by
   rcases HI.out with ⟨q1, _, e⟩ | ⟨q1, q2, _, e⟩ | ⟨_, _, _, _, e⟩
   ·exact .inl ⟨q1, rfl, rfl, e⟩
   ·exact .inr (.inl ⟨q1, q2, rfl, rfl, e⟩)
   ·exact absurd e hf
  have HBL : Hid (Below w.heap.size w w1) := HB.out.bel
  have hne : (f != 0) = true := by simpa using hf
  clear HB HI hf
  go_wp2_with fail
  go_ret3
  exact ⟨none, 0, 0, [], 0, f, rfl, ⟨rfl, .inl rfl⟩, Nat.zero_le _, HR.out, HBL.out⟩
end disk
namespace book
open Go.RowKit
set_option maxRecDepth 100000
def leftE (v : Ev) : Ev := if v.kd = 2 then ⟨0, 0, 0, 0, 0, 0, 0, 0, 0, 0, 0, v.ow, v.bp⟩ else if v.kd = 3 then ⟨0, 0, 0, 0, v.te, v.de, v.fe, v.pr, v.ch, 0, 0, v.ow, v.bp⟩ else if v.kd = 4 then ⟨0, 0, v.mo, 0, v.te, v.de, v.fe, v.pr, v.ch, v.un, 0, v.ow, v.bp⟩ else if v.kd = 5 then ⟨0, 0, v.mo, v.id, v.te, v.de, v.fe, v.pr, v.ch, v.un, v.tg, 0, 0⟩ else ⟨0, 0, v.mo, v.id, v.te, v.de, v.fe, v.pr, v.ch, v.un, v.tg, v.ow, v.bp⟩
def Numd (id tg : Int) : Prop := (1 ≤ id ∧ id ≤ 1048575) ∧ 0 ≤ tg ∧ tg ≤ 65535
def Unt (un : Int) : Prop := 1 ≤ un ∧ un ≤ 2097151
def Mon (mo : Int) : Prop := 0 ≤ mo ∧ mo ≤ 2399
def Mony (te de fe pr ch : Int) : Prop := (1 ≤ te ∧ te ≤ 100000000) ∧ ((0 ≤ de ∧ de ≤ 100000000) ∧ (0 ≤ fe ∧ fe ≤ 100000000) ∧ (0 ≤ pr ∧ pr ≤ 100000000) ∧ 0 ≤ ch ∧ ch ≤ 100000000) ∧ de + fe + pr + ch = te
def Dbt (ow bp : Int) : Prop := (1 ≤ ow ∧ ow ≤ 1000000000) ∧ 0 ≤ bp ∧ bp ≤ 10000
def KindR (v : Ev) : Prop := v.kd = 1 ∨ (v.kd = 2 ∧ Mon v.mo ∧ Numd v.id v.tg ∧ Unt v.un ∧ Mony v.te v.de v.fe v.pr v.ch) ∨ (v.kd = 3 ∧ Mon v.mo ∧ Numd v.id v.tg ∧ Unt v.un) ∨ (v.kd = 4 ∧ Numd v.id v.tg) ∨ (v.kd = 5 ∧ Dbt v.ow v.bp)
set_option maxHeartbeats 2000000 in
theorem may_iff (v : Ev) : EMay v ↔ (0 ≤ v.me ∧ v.me ≤ 49) ∧ KindR v ∧ leftE v = ev0 := by
 obtain ⟨kd, me, mo, id, te, de, fe, pr, ch, un, tg, ow, bp⟩ := v
 unfold EMay KindR leftE ev0 Numd Unt Mon Mony Dbt
 simp only
 by_cases h1 : kd = 1
 ·subst h1; simp
 by_cases h2 : kd = 2
 ·subst h2; simp; intro _ _; constructor <;> intro h <;> omega
 by_cases h3 : kd = 3
 ·subst h3; simp; intro _ _; constructor <;> intro h <;> omega
 by_cases h4 : kd = 4
 ·subst h4; simp; intro _ _; constructor <;> intro h <;> omega
 by_cases h5 : kd = 5
 ·subst h5; simp; intro _ _; constructor <;> intro h <;> omega
 constructor
 ·rintro ⟨_, h | h | h⟩
  ·exact absurd h.1 h1
  ·exact absurd h.1 h5
  ·have := h.1; omega
 ·rintro ⟨_, h | h | h | h | h, _⟩
  ·exact absurd h h1
  ·exact absurd h.1 h2
  ·exact absurd h.1 h3
  ·exact absurd h.1 h4
  ·exact absurd h.1 h5
theorem kind_2 {v : Ev} (h : v.kd = 2) : KindR v ↔ Mon v.mo ∧ Numd v.id v.tg ∧ Unt v.un ∧ Mony v.te v.de v.fe v.pr v.ch := by simp [KindR, h]
theorem kind_3 {v : Ev} (h : v.kd = 3) : KindR v ↔ Mon v.mo ∧ Numd v.id v.tg ∧ Unt v.un := by simp [KindR, h]
theorem kind_4 {v : Ev} (h : v.kd = 4) : KindR v ↔ Numd v.id v.tg := by simp [KindR, h]
theorem kind_5 {v : Ev} (h : v.kd = 5) : KindR v ↔ Dbt v.ow v.bp := by simp [KindR, h]
def YN (w : World) (P : Prop) (e : Ending) (w' : World) : Prop := ∃ B, e = .returned (.bool B) ∧ (B = true ↔ P) ∧ Below w.heap.size w w'
theorem YN.yes {w w' : World} {P : Prop} (h : P) (hb : Below w.heap.size w w') : YN w P (.returned (.bool true)) w' := ⟨true, rfl, ⟨fun _ => h, fun _ => rfl⟩, hb⟩
theorem YN.no {w w' : World} {P : Prop} (h : ¬ P) (hb : Below w.heap.size w w') : YN w P (.returned (.bool false)) w' := ⟨false, rfl, ⟨fun q => (by cases q), fun q => absurd q h⟩, hb⟩
end book
namespace bki
open Go.RowKit
def Row (w : World) (a : Option Addr) (len : Nat) (zs : List Int) : Prop :=
 zs.length = len ∧ (len = 0 ∨ ∃ b off, a = some ⟨b, off, none⟩ ∧ ∀ i, i < len → w.cell? ⟨b, off + i, none⟩ = some (.int .i64 (zs.getD i 0)))
def okAll (lo hi : Int) (l : List Int) : Bool := l.all fun n => decide (lo ≤ n) && decide (n ≤ hi)
theorem okAll_step (lo hi : Int) (zs : List Int) (k : Nat) (hk : k < zs.length) (h : okAll lo hi (zs.take k) = true) (h1 : lo ≤ zs.getD k 0) (h2 : zs.getD k 0 ≤ hi) : okAll lo hi (zs.take (k + 1)) = true := by
 unfold okAll at *
 rw [List.take_add_one, List.all_append, h]
 simp only [List.getD, List.getElem?_eq_getElem hk, Option.getD] at h1 h2 ⊢
 simp [h1, h2]
theorem okAll_no (lo hi : Int) (zs : List Int) (k : Nat) (hk : k < zs.length) (h : zs.getD k 0 < lo ∨ hi < zs.getD k 0) : okAll lo hi zs = false := by
 unfold okAll
 rw [List.all_eq_false]
 refine ⟨zs[k], List.getElem_mem hk, ?_⟩
 simp only [List.getD, List.getElem?_eq_getElem hk, Option.getD] at h
 simp; omega
theorem ret_bool {a b : Bool} (h : a = b) : Ending.returned (.bool a) = .returned (.bool b) := by rw [h]
set_option maxHeartbeats 400000 in
theorem within_any (lo hi : Int) (a : Option Addr) (len cap : Nat) (zs : List Int) (w : World) (hr : Row w a len zs) (hl : len ≤ maxLen) :
  Calls Tryz.prog 84 #[.int .i64 lo, .int .i64 hi, .slice a len cap] w fun e w' => e = .returned (.bool (okAll lo hi zs)) ∧ w' = w := by
 unfold maxLen at hl
 obtain ⟨hz, hr⟩ := hr
 go_enter Tryz.func84, Tryz.ntmps84
 go_wp2
 go_loop [11] (fun i => ∃ k : Nat, k ≤ len ∧ i = .int .i64 k ∧ okAll lo hi (zs.take k) = true) (fun i => len - (intOf i).toNat)
 case atStart => exact ⟨0, Nat.zero_le _, rfl, rfl⟩
 case round =>
  obtain ⟨k, hk, rfl, hok⟩ := hrel
  have HK : Hid (okAll lo hi (zs.take k) = true) := hok
  clear hok
  by_cases hlt : k < len
  ·rcases hr with h0 | ⟨b, off, rfl, hc⟩
   ·omega
   have hcell := hc k hlt
   clear hc
   generalize hzk : zs.getD k 0 = z at hcell
   have HZ : Hid (zs.getD k 0 = z) := hzk
   clear hzk
   by_cases h1 : z < lo
   ·go_wp2
    go_ret
    exact ⟨ret_bool (okAll_no lo hi zs k (by omega) (.inl (by rw [HZ.out]; exact h1))).symm, rfl⟩
   ·by_cases h2 : hi < z
    ·go_wp2
     go_ret
     exact ⟨ret_bool (okAll_no lo hi zs k (by omega) (.inr (by rw [HZ.out]; exact h2))).symm, rfl⟩
    ·go_wp2
     go_round
     case rel => exact ⟨k + 1, by omega, by go_num, okAll_step lo hi zs k (by omega) HK.out (by rw [HZ.out]; omega) (by rw [HZ.out]; omega)⟩
     case measure => simp [intOf]; omega
  ·go_wp2
   go_ret
   refine ⟨ret_bool ?_, rfl⟩
   have := HK.out
   rw [List.take_of_length_le (by omega)] at this
   exact this.symm
theorem row_one (w : World) (z : Int) (t : TypeId) : Row (w.alloc (.cells #[.int .i64 z] t)) (some ⟨w.heap.size, 0, none⟩) 1 [z] := by
 refine ⟨rfl, .inr ⟨_, _, rfl, fun i hi => ?_⟩⟩
 obtain rfl : i = 0 := by omega
 simp
theorem bel1 (w : World) (o : Obj) : Below w.heap.size w (w.alloc o) := (Below.refl _ _).alloc (Nat.le_refl _) _
theorem bel2 (w : World) (o o' : Obj) : Below w.heap.size w ((w.alloc o).alloc o') := (bel1 w o).alloc (by simp) _
theorem within_one (lo hi z : Int) (w : World) (b : Nat) (hb : b = w.heap.size) :
  Calls Tryz.prog 84 #[.int .i64 lo, .int .i64 hi, .slice (some ⟨b, 0, none⟩) 1 1] (w.alloc (.cells #[.int .i64 z] 3)) fun e w' => e = .returned (.bool (decide (lo ≤ z ∧ z ≤ hi))) ∧ w' = w.alloc (.cells #[.int .i64 z] 3) := by
 have h := within_any lo hi _ 1 1 [z] _ (row_one w z 3) (by decide)
 have e : okAll lo hi [z] = decide (lo ≤ z ∧ z ≤ hi) := by simp [okAll]
 rw [e] at h
 rw [hb]
 exact h
theorem row_four (w : World) (a b c d : Int) (t : TypeId) : Row (w.alloc (.cells #[.int .i64 a, .int .i64 b, .int .i64 c, .int .i64 d] t)) (some ⟨w.heap.size, 0, none⟩) 4 [a, b, c, d] := by
 refine ⟨rfl, .inr ⟨_, _, rfl, fun i hi => ?_⟩⟩
 match i, hi with
 | 0, _ => simp
 | 1, _ => simp
 | 2, _ => simp
 | 3, _ => simp
end bki
end Go.Proofs.YtomibnggmhjdfaaGreat
