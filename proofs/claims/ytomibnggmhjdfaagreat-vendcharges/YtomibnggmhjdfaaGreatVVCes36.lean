import Derived.Test.YtomibnggmhjdfaaGreatVVCes29
set_option linter.unusedVariables false
set_option linter.unusedSimpArgs false
namespace Go.Proofs.YtomibnggmhjdfaaGreat
namespace disk
open Go.RowKit cell
set_option maxRecDepth 100000
set_option maxHeartbeats 4000000 in
theorem replayed (a : Option Addr) (n cap : Nat) (c : List Int) (w : World) (h : RowU w a n c) (hw : ∀ x ∈ c, 0 ≤ x ∧ x < 4294967296) :
  Calls Tryz.prog 32 #[.slice a n cap] w fun e w' => RepPost w c e w' := by
 have hcl := h.1
 by_cases hmay : 1 ≤ n ∧ n ≤ 2048
 ·have HM : Hid (∀ W, Calls Tryz.prog 25 #[.int .i64 (n : Int), .int .i64 1, .int .i64 2048] W fun e w' => e = .returned (.bool true) ∧ w' = W) := fun W => in_yes _ _ _ W (by omega) (by omega)
  have HLN : Hid (∀ W p, Below w.heap.size w W → p ≤ n → Calls Tryz.prog 55 #[.slice a n cap, .int .i64 (p : Int)] W fun e w' => e = .returned (.int .i64 (lenAt c p)) ∧ w' = W) := fun W p hB hp => length_any a n cap p c W (h.below hB) hmay.2 hp hw
  have HL0 : Hid (Calls Tryz.prog 55 #[.slice a n cap, .int .i64 0] w fun e w' => e = .returned (.int .i64 (lenAt c 0)) ∧ w' = w) := HLN.out w 0 (Below.refl _ _) (Nat.zero_le _)
  obtain ⟨b, o, rfl, lb, hc⟩ := h.at (by omega)
  have HCL : Hid (∀ W, Below w.heap.size w W → ∀ j, j < n → W.cell? ⟨b, o + j, none⟩ = some (.int .u32 (c.getD j 0))) := fun W hB j hj => (hB.cell (p := ⟨b, o + j, none⟩) lb).trans (hc j hj)
  have HMY : Hid (May c) := ⟨by omega, by omega⟩
  have HN : Hid (c.length = n) := hcl
  obtain ⟨hn1, hn2⟩ := hmay
  clear h hw hc lb hcl
  go_enter Tryz.func32, Tryz.ntmps32
  go_wp2_with fail
  refine (HM.out _).mono ?_
  rintro e w1 ⟨rfl, hq⟩
  subst w1
  clear HM
  go_wp2_with fail
  refine HL0.out.mono ?_
  rintro e w1 ⟨rfl, hq⟩
  subst w1
  clear HL0
  go_wp2_with fail
  go_loopw [5, 6, 7] (fun v5 v6 v7 wr => ∃ (k p : Nat) (V : Value) (sl : List Sli), p ≤ n ∧ V = v5 ∧ v6 = .int .i64 (p : Int) ∧ v7 = .int .i64 (lenAt c p) ∧ (itD c k).2 = p ∧ Lr 25 wr w.heap.size V sl ∧ Recs wr V.ownBlock sl (itD c k).1 ∧ sl.length ≤ p ∧ Below w.heap.size w wr) (fun _ v6 _ _ => n + 1 - (intOf v6).toNat)
  case atStart => exact ⟨0, 0, _, [], Nat.zero_le _, rfl, rfl, rfl, rfl, Lr.zero _ _ _, Recs.nil _ _, Nat.le_refl _, Below.refl _ _⟩
  case round =>
   obtain ⟨k, p, V, sl, hp, hV, rfl, rfl, hk, hlr, hrc, hsl, hbl⟩ := hrel
   subst hV
   have HLR : Hid (Lr 25 wr w.heap.size V sl) := hlr
   have HRC : Hid (Recs wr V.ownBlock sl (itD c k).1) := hrc
   have HBL : Hid (Below w.heap.size w wr) := hbl
   have HK : Hid ((itD c k).2 = p) := hk
   clear hlr hrc hbl hk
   obtain ⟨wo, hwo⟩ : ∃ wo, wo = wr := ⟨_, rfl⟩
   subst hwo
   by_cases hpos : 0 < lenAt c p
   ·obtain ⟨q0, q1, q2, q3⟩ := len_pos hpos
    obtain ⟨m, hm⟩ : ∃ m : Nat, lenAt c p = (m : Int) := ⟨(lenAt c p).toNat, by omega⟩
    have hgm : (c.getD p 0).toNat = m := by rw [← q0, hm]; simp
    have hpm : p + m < n := by have := HN.out; omega
    have hm1 : 1 ≤ m := by omega
    have hm2 : m ≤ 64 := by omega
    have HIT : Hid (itD c (k + 1) = ((itD c k).1 ++ [recAt c p], p + m + 1)) := by
     have h := it_live (c := c) (k := k) (by rw [HK.out]; exact hpos)
     rw [HK.out, hm, Int.toNat_natCast] at h
     exact h
    have HRL : Hid ((recAt c p).length = m) := rec_len hgm (by have := HN.out; omega)
    have HRA : Hid (∀ x, x < m → (recAt c p).getD x 0 = c.getD (p + 1 + x) 0) := fun x hx => rec_at hgm hx
    rw [hm]
    have e1 : decide ((0 : Int) < (m : Int)) = true := by simp; omega
    have hmk : ∀ W : World, (Instr.makeSlice 25 (.int .i64 (m : Int)) (.int .i64 (m : Int))).run Tryz.prog W = .ok (.slice (some ⟨W.heap.size, 0, none⟩) m m) (W.alloc (.cells (arr (List.replicate m 0)) 64)) := make_u32 m (by omega)
    have HG0 : Hid (Blk (wo.alloc (.cells (arr (List.replicate m 0)) 64)) wo.heap.size (arr (List.replicate m 0)) 64) := Blk.new _ _ _
    have HB0 : Hid (Below wo.heap.size wo (wo.alloc (.cells (arr (List.replicate m 0)) 64))) := (Below.refl _ _).alloc (Nat.le_refl _) _
    have HZL : Hid ((List.replicate m (0 : Int)).length = m) := List.length_replicate
    have HSZ : Hid (w.heap.size ≤ wo.heap.size) := HBL.out.size
    have HL2 : Hid (∀ W, Below w.heap.size w W → Calls Tryz.prog 55 #[.slice (some ⟨b, o, none⟩) n cap, .int .i64 ((p : Int) + (m : Int) + 1)] W fun e w' => e = .returned (.int .i64 (lenAt c (p + m + 1))) ∧ w' = W) := fun W hB => by
     have h := HLN.out W (p + m + 1) hB (by omega)
     rwa [show ((p + m + 1 : Nat) : Int) = (p : Int) + (m : Int) + 1 by omega] at h
    clear hpos q0 q1 q2 q3 hm hgm HLN
    generalize List.replicate m (0 : Int) = zz at *
    generalize recAt c p = R at *
    go_wp2_with fail
    generalize wo.alloc (.cells (arr zz) 64) = W0 at *
    generalize hgg : wo.heap.size = g at *
    have HGG : Hid (wo.heap.size = g) := hgg
    clear hgg hmk
    go_loopw [9] (fun i wq => ∃ (x : Nat) (zs : List Int), x ≤ m ∧ i = .int .i64 (x : Int) ∧ zs.length = m ∧ (∀ i, i < x → zs.getD i 0 = R.getD i 0) ∧ Blk wq g (arr zs) 64 ∧ Below g wo wq) (fun i _ => m - (intOf i).toNat)
    case atStart => exact ⟨0, zz, Nat.zero_le _, rfl, HZL.out, fun i hi => absurd hi (Nat.not_lt_zero _), HG0.out, HB0.out⟩
    case round =>
     obtain ⟨x, zs, hx, rfl, hzl, hze, hg, hb⟩ := hrel
     have HKB : Hid (Blk wr g (arr zs) 64) := hg
     have HB : Hid (Below g wo wr) := hb
     have HBW : Hid (Below w.heap.size w wr) := HBL.out.trans (hb.mono HSZ.out)
     have HZ : Hid (zs.length = m ∧ ∀ i, i < x → zs.getD i 0 = R.getD i 0) := ⟨hzl, hze⟩
     clear hzl hze hg hb HG0 HB0 HZL
     by_cases hxm : x < m
     ·have k2 := HCL.out wr HBW.out (p + 1 + x) (by omega)
      rw [← HRA.out x hxm] at k2
      have k0 := Blk.word HKB.out x (by rw [HZ.out.1]; exact hxm)
      have k1 := HKB.out.free x
      have HNX : Hid (Blk (wr.setCell ⟨g, x, none⟩ (.int .u32 (R.getD x 0))) g (arr (zs.set x (R.getD x 0))) 64) := by
       have h := HKB.out.set x (.int .u32 (R.getD x 0))
       rw [arr_set] at h
       exact h
      have HBX : Hid (Below g wo (wr.setCell ⟨g, x, none⟩ (.int .u32 (R.getD x 0)))) := bel_set HB.out g x _ (Nat.le_refl _)
      have HZX : Hid ((zs.set x (R.getD x 0)).length = m ∧ ∀ i, i < x + 1 → (zs.set x (R.getD x 0)).getD i 0 = R.getD i 0) := by
       refine ⟨by rw [List.length_set]; exact HZ.out.1, fun i hi => ?_⟩
       rw [set_at]
       by_cases e : i = x
       ·rw [if_pos ⟨e, by rw [HZ.out.1]; exact hxm⟩, e]
       ·rw [if_neg (by omega)]; exact HZ.out.2 i (by omega)
      generalize zs.set x (R.getD x 0) = zs2 at *
      generalize R.getD x 0 = u at *
      generalize zs.getD x 0 = u0 at *
      clear HKB HB HZ HBW
      go_wp2_with fail
      go_roundw
      case rel => exact ⟨x + 1, zs2, by omega, by go_num, HZX.out.1, HZX.out.2, HNX.out, HBX.out⟩
      case measure => simp [intOf]; omega
     ·obtain rfl : x = m := by omega
      have HX : Hid (RowU wr (some ⟨g, 0, none⟩) x R) := by
       have e : zs = R := list_ext (by rw [HZ.out.1, HRL.out]) (fun i hi => HZ.out.2 i (by rw [HZ.out.1] at hi; exact hi))
       rw [← e]
       exact Blk.rowU HKB.out HZ.out.1
      have HGL : Hid (g < wr.heap.size) := HKB.out.lt
      have HBO : Hid (Below wo.heap.size wo wr) := by show Below _ _ _; rw [HGG.out]; exact HB.out
      have HNE : Hid (some g ≠ V.ownBlock) := fun e => by have := (World.ownsRow.lt HLR.out g e.symm).2; have := HGG.out; omega
      have HUA : Hid (∀ o, Lr 25 (wr.alloc o) w.heap.size V sl) := fun o => (HLR.out.next HBO.out).alloc o
      have HBA : Hid (∀ o, Below w.heap.size w (wr.alloc o)) := fun o => HBW.out.alloc HBW.out.size o
      have HRA2 : Hid (∀ o, Recs (wr.alloc o) V.ownBlock (sl ++ [⟨some ⟨g, 0, none⟩, x, x⟩]) ((itD c k).1 ++ [R])) := fun o => ((HRC.out.below HBO.out).snoc ⟨⟨g, 0, rfl, HGL.out, HNE.out⟩, HX.out⟩).below ((Below.refl _ _).alloc (Nat.le_refl _) _)
      have hs6 : sl.length ≤ 1000000 := by omega
      clear HKB HB HZ HX HNE HGL HRA HRL
      go_wp2_with (first | (refine wp_sli sliT rfl _ _ rfl w.heap.size wr.heap.size V sl ⟨some ⟨g, 0, none⟩, x, x⟩ rfl rfl (HUA.out _) ((Blk.new wr _ _).cell 0) hs6 (by have := HBW.out.size; simp; omega) ?_; intro v3 w3 h3 hg3 ho3; have HB3 : Hid (Below w.heap.size w w3) := own_bel (HUA.out _) hg3 (HBA.out _) (Nat.le_refl _) (by have := HBW.out.size; simp; omega); have H3 : Hid (Lr 25 w3 w.heap.size v3 (sl ++ [⟨some ⟨g, 0, none⟩, x, x⟩])) := h3; have HR3 : Hid (Recs w3 v3.ownBlock (sl ++ [⟨some ⟨g, 0, none⟩, x, x⟩]) ((itD c k).1 ++ [R])) := (HRA2.out _).grown hg3 ho3; clear h3 hg3 ho3) | fail)
      refine (HL2.out _ HB3.out).mono ?_
      rintro e w4 ⟨rfl, hq⟩
      subst w4
      go_wp2_with fail
      go_roundw
      case rel => exact ⟨k + 1, p + x + 1, v3, sl ++ [⟨some ⟨g, 0, none⟩, x, x⟩], by omega, rfl, by go_num, rfl, by rw [HIT.out], H3.out, by rw [HIT.out]; exact HR3.out, by rw [List.length_append]; simp; omega, HB3.out⟩
      case measure => simp [intOf]; omega
   ·have HRD : Hid (repD c = itD c k) := rep_of (by rw [HK.out]; exact hpos)
    have e1 : decide ((0 : Int) < lenAt c p) = false := by simpa using hpos
    by_cases hneg : lenAt c p < 0
    ·have HRI : Hid (RepIs c [] 0 3) := .inr (.inl ⟨HMY.out, by rw [HRD.out, HK.out]; exact hneg, rfl, rfl, rfl⟩)
     have e2 : decide (lenAt c p < 0) = true := by simpa using hneg
     clear HRD hpos hneg HLN
     generalize lenAt c p = z at *
     go_wp2_with fail
     go_ret3
     exact ⟨.slice none 0 0, [], [], 0, 3, rfl, Lr.zero _ _ _, Recs.nil _ _, HRI.out, HBL.out⟩
    ·have HRI : Hid (RepIs c (itD c k).1 (p : Int) 0) := .inr (.inr ⟨HMY.out, by rw [HRD.out, HK.out]; omega, by rw [HRD.out], by rw [HRD.out, HK.out], rfl⟩)
     have e2 : decide (lenAt c p < 0) = false := by simpa using hneg
     clear HRD hpos hneg HLN
     generalize lenAt c p = z at *
     go_wp2_with fail
     go_ret3
     exact ⟨V, sl, _, _, 0, rfl, HLR.out, HRC.out, HRI.out, HBL.out⟩
 ·have HM : Hid (∀ W, Calls Tryz.prog 25 #[.int .i64 (n : Int), .int .i64 1, .int .i64 2048] W fun e w' => e = .returned (.bool false) ∧ w' = W) := fun W => in_no _ _ _ W (by omega)
  have HRI : Hid (RepIs c [] 0 1) := .inl ⟨fun h => hmay ⟨by rw [← hcl]; exact h.1, by rw [← hcl]; exact h.2⟩, rfl, rfl, rfl⟩
  clear h hw hcl hmay
  go_enter Tryz.func32, Tryz.ntmps32
  go_wp2_with fail
  refine (HM.out _).mono ?_
  rintro e w1 ⟨rfl, hq⟩
  subst w1
  go_wp2_with fail
  go_ret3
  exact ⟨.slice none 0 0, [], [], 0, 1, rfl, Lr.zero _ _ _, Recs.nil _ _, HRI.out, Below.refl _ _⟩
theorem lr_cells {T : TypeId} {w : World} {base : Nat} {v : Value} {l : List Sli} (h : Lr T w base v l) : v.cells = #[v] := by
 obtain ⟨a, cap, rfl⟩ := h.len
 rfl
theorem lr_one {T : TypeId} {w : World} {base : Nat} {v : Value} {l : List Sli} (h : Lr T w base v l) : v.oneCell' = true := by
 obtain ⟨a, cap, rfl⟩ := h.len
 rfl
set_option maxHeartbeats 4000000 in
theorem put_record (w : World) (L : Nat) (V : Value) (sl : List Sli) (zs : List (List Int)) (R : List Int) (b off m : Nat) (W : World) (h : Box w L V sl zs W) (hr : RowU W (some ⟨b, off, none⟩) m R) (h1 : 1 ≤ m) (h2 : m ≤ 64) (hs : sl.length ≤ 1000000) :
  Calls Tryz.prog 71 #[.slice (some ⟨b, off, none⟩) m m, .pointer (some ⟨L, 0, none⟩)] W fun e w' => e = .returned (.tuple #[]) ∧ ∃ V' sl', Box w L V' sl' (zs ++ [R]) w' := by
 have HC : Hid (Calls Tryz.prog 72 #[.slice (some ⟨b, off, none⟩) m m] W.drew fun e w' => GaveU W.drew R e w') := clone_any _ m m R _ hr (by omega)
 have HBU0 : Hid (Box w L V sl zs W.drew) := h.next (Below.refl _ _).drew
 have HB0 : Hid (Box w L V sl zs W.drew) := HBU0.out
 have HRL : Hid (R.length = m) := hr.1
 have HM1 : Hid (0 < m) := h1
 have HM6 : Hid (m ≤ 100000) := Nat.le_trans h2 (by decide)
 have HS6 : Hid (sl.length ≤ 1000000) := hs
 clear hr h h1 h2 hs
 go_enter Tryz.func71, Tryz.ntmps71
 refine wp_region_held_drew (S := fun v => True) (by kernel_rfl) trivial (fun hHeld => ?_)
 generalize W.drew = U0 at *
 refine zqs 1 4 (.slice (some ⟨b, off, none⟩) m m) rfl rfl (by kernel_rfl) (fun _ _ _ h => h) rfl (fun v hv => by clear hv; go_simp) hHeld ?_
 simp only [Act.put, zqa, zqb, zqc]
 refine wpAnyH_ready (rs := [0, 2]) (by kernel_rfl) (by simp) (AllReadyH.cons rfl (fun K hK => ?_) (AllReadyH.cons rfl (fun K hK => ?_) AllReadyH.nil))
 ·rw [if_pos (by rfl)]
  have cU0 : U0.cell? ⟨L, 0, none⟩ = some V := HBU0.out.blk.cell 0
  refine wp_runOp (v := V) (w' := U0) 3 rfl (by clear hK; go_simp) ?_
  refine hK.out _ _ trivial (fun hHeld => ?_)
  clear hK cU0
  simp only [Act.put, zqa, zqb, zqc]
  refine zqo 2 (by kernel_rfl) rfl (fun K hK => ?_)
  rw [if_pos (by rfl)]
  refine wp_callOp 5 rfl (by clear hK; go_simp) (HC.out) ?_
  rintro e U1 ⟨v5, rfl, hws, hb⟩
  obtain ⟨a5, cap5, rfl, hrow, hnl, hcp⟩ := Ws.row hws
  rw [HRL.out] at hrow hcp ⊢
  obtain ⟨g, o5, rfl, hg5, hc5⟩ := hrow.at HM1.out
  have HCP : Hid (m ≤ cap5) := hcp
  have HG : Hid (U0.heap.size ≤ g) := (World.ownsRow.lt hws g rfl).1
  have HRU1 : Hid (RowU U1 (some ⟨g, o5, none⟩) m R ∧ g < U1.heap.size) := ⟨hrow, hg5⟩
  have HBU1 : Hid (Box w L V sl zs U1) := HBU0.out.next hb
  refine ⟨_, rfl, hK.out _ _ trivial (fun hHeld => ?_)⟩
  clear hK HC hws hb hnl hcp hc5 hg5 hrow HBU0
  simp only [Act.put, zqa, zqb, zqc]
  have HNE : Hid (some g ≠ V.ownBlock) := fun e => by have := (World.ownsRow.lt HB0.out.row g e.symm).2; have := HG.out; omega
  have HGL : Hid (L + 1 ≤ g) := by have := HB0.out.blk.lt; have := HG.out; show _ ≤ _; omega
  refine zqo 3 (by kernel_rfl) rfl (fun K hK => ?_)
  rw [if_pos (by rfl)]
  have hb : Below U1.heap.size U1 (U1.alloc (.cells #[.slice (some ⟨g, o5, none⟩) m cap5] 25)) := (Below.refl _ _).alloc (Nat.le_refl _) _
  have HBU2 : Hid (Box w L V sl zs (U1.alloc (.cells #[.slice (some ⟨g, o5, none⟩) m cap5] 25))) := HBU1.out.next hb
  have HRU2 : Hid (RowU (U1.alloc (.cells #[.slice (some ⟨g, o5, none⟩) m cap5] 25)) (some ⟨g, o5, none⟩) m R ∧ g < (U1.alloc (.cells #[.slice (some ⟨g, o5, none⟩) m cap5] 25)).heap.size) := ⟨HRU1.out.1.below hb, Nat.lt_of_lt_of_le HRU1.out.2 hb.size⟩
  have HX : Hid ((U1.alloc (.cells #[.slice (some ⟨g, o5, none⟩) m cap5] 25)).cell? ⟨U1.heap.size, 0, none⟩ = some (.slice (some ⟨g, o5, none⟩) m cap5)) := (Blk.new _ _ _).cell 0
  clear hb
  refine wp_runOp (v := .slice (some ⟨U1.heap.size, 0, none⟩) 1 1) (w' := (U1.alloc (.cells #[.slice (some ⟨g, o5, none⟩) m cap5] 25))) 6 rfl (by clear hK; go_simp) ?_
  refine hK.out _ _ trivial (fun hHeld => ?_)
  clear hK HBU1 HRU1
  simp only [Act.put, zqa, zqb, zqc]
  generalize U1.heap.size = G at *
  generalize (U1.alloc (.cells #[.slice (some ⟨g, o5, none⟩) m cap5] 25)) = U2 at *
  refine zqo 4 (by kernel_rfl) rfl (fun K hK => ?_)
  refine step_sli sliT rfl _ _ rfl (L + 1) G V sl ⟨some ⟨g, o5, none⟩, m, cap5⟩ rfl rfl HBU2.out.row HX.out HS6.out (HBU2.out.blk.lt) ?_
  intro v7 W3 h3 hg3 ho3
  refine hK.out _ _ trivial (fun hHeld => ?_)
  clear hK
  simp only [Act.put, zqa, zqb, zqc]
  refine zqo 5 (by kernel_rfl) rfl (fun K hK => ?_)
  rw [if_pos (by rfl)]
  refine wp_letOne 79 _ _ rfl L rfl v7 rfl (lr_cells h3) (by kernel_rfl) (lr_one h3) V 79 (HBU2.out.kept hg3) rfl ?_
  intro W4 hU
  have HF : Hid (Box w L v7 (sl ++ [⟨some ⟨g, o5, none⟩, m, cap5⟩]) (zs ++ [R]) W4) := box_step HBU2.out rfl HRU2.out.2 HNE.out HGL.out HRU2.out.1 ⟨HM6.out, HCP.out, fun h => by cases h⟩ h3 hg3 ho3 hU
  refine hK.out _ _ trivial (fun hHeld => ?_)
  clear hK hU h3 hg3 ho3
  refine wpAnyH_done (by kernel_rfl) ?_ _
  clear hHeld
  go_wp2_with fail
  go_end0
  exact ⟨rfl, _, _, HF.out⟩
 ·rw [if_pos (by rfl)]
  refine wp_callOp 5 rfl (by clear hK; go_simp) (HC.out) ?_
  rintro e U1 ⟨v5, rfl, hws, hb⟩
  obtain ⟨a5, cap5, rfl, hrow, hnl, hcp⟩ := Ws.row hws
  rw [HRL.out] at hrow hcp ⊢
  obtain ⟨g, o5, rfl, hg5, hc5⟩ := hrow.at HM1.out
  have HCP : Hid (m ≤ cap5) := hcp
  have HG : Hid (U0.heap.size ≤ g) := (World.ownsRow.lt hws g rfl).1
  have HRU1 : Hid (RowU U1 (some ⟨g, o5, none⟩) m R ∧ g < U1.heap.size) := ⟨hrow, hg5⟩
  have HBU1 : Hid (Box w L V sl zs U1) := HBU0.out.next hb
  refine ⟨_, rfl, hK.out _ _ trivial (fun hHeld => ?_)⟩
  clear hK HC hws hb hnl hcp hc5 hg5 hrow HBU0
  simp only [Act.put, zqa, zqb, zqc]
  have HNE : Hid (some g ≠ V.ownBlock) := fun e => by have := (World.ownsRow.lt HB0.out.row g e.symm).2; have := HG.out; omega
  have HGL : Hid (L + 1 ≤ g) := by have := HB0.out.blk.lt; have := HG.out; show _ ≤ _; omega
  refine wpAnyH_ready (rs := [0, 3]) (by kernel_rfl) (by simp) (AllReadyH.cons rfl (fun K hK => ?_) (AllReadyH.cons rfl (fun K hK => ?_) AllReadyH.nil))
  ·rw [if_pos (by rfl)]
   have cU1 : U1.cell? ⟨L, 0, none⟩ = some V := HBU1.out.blk.cell 0
   refine wp_runOp (v := V) (w' := U1) 3 rfl (by clear hK; go_simp) ?_
   refine hK.out _ _ trivial (fun hHeld => ?_)
   clear hK cU1
   simp only [Act.put, zqa, zqb, zqc]
   refine zqo 3 (by kernel_rfl) rfl (fun K hK => ?_)
   rw [if_pos (by rfl)]
   have hb : Below U1.heap.size U1 (U1.alloc (.cells #[.slice (some ⟨g, o5, none⟩) m cap5] 25)) := (Below.refl _ _).alloc (Nat.le_refl _) _
   have HBU2 : Hid (Box w L V sl zs (U1.alloc (.cells #[.slice (some ⟨g, o5, none⟩) m cap5] 25))) := HBU1.out.next hb
   have HRU2 : Hid (RowU (U1.alloc (.cells #[.slice (some ⟨g, o5, none⟩) m cap5] 25)) (some ⟨g, o5, none⟩) m R ∧ g < (U1.alloc (.cells #[.slice (some ⟨g, o5, none⟩) m cap5] 25)).heap.size) := ⟨HRU1.out.1.below hb, Nat.lt_of_lt_of_le HRU1.out.2 hb.size⟩
   have HX : Hid ((U1.alloc (.cells #[.slice (some ⟨g, o5, none⟩) m cap5] 25)).cell? ⟨U1.heap.size, 0, none⟩ = some (.slice (some ⟨g, o5, none⟩) m cap5)) := (Blk.new _ _ _).cell 0
   clear hb
   refine wp_runOp (v := .slice (some ⟨U1.heap.size, 0, none⟩) 1 1) (w' := (U1.alloc (.cells #[.slice (some ⟨g, o5, none⟩) m cap5] 25))) 6 rfl (by clear hK; go_simp) ?_
   refine hK.out _ _ trivial (fun hHeld => ?_)
   clear hK HBU1 HRU1
   simp only [Act.put, zqa, zqb, zqc]
   generalize U1.heap.size = G at *
   generalize (U1.alloc (.cells #[.slice (some ⟨g, o5, none⟩) m cap5] 25)) = U2 at *
   refine zqo 4 (by kernel_rfl) rfl (fun K hK => ?_)
   refine step_sli sliT rfl _ _ rfl (L + 1) G V sl ⟨some ⟨g, o5, none⟩, m, cap5⟩ rfl rfl HBU2.out.row HX.out HS6.out (HBU2.out.blk.lt) ?_
   intro v7 W3 h3 hg3 ho3
   refine hK.out _ _ trivial (fun hHeld => ?_)
   clear hK
   simp only [Act.put, zqa, zqb, zqc]
   refine zqo 5 (by kernel_rfl) rfl (fun K hK => ?_)
   rw [if_pos (by rfl)]
   refine wp_letOne 79 _ _ rfl L rfl v7 rfl (lr_cells h3) (by kernel_rfl) (lr_one h3) V 79 (HBU2.out.kept hg3) rfl ?_
   intro W4 hU
   have HF : Hid (Box w L v7 (sl ++ [⟨some ⟨g, o5, none⟩, m, cap5⟩]) (zs ++ [R]) W4) := box_step HBU2.out rfl HRU2.out.2 HNE.out HGL.out HRU2.out.1 ⟨HM6.out, HCP.out, fun h => by cases h⟩ h3 hg3 ho3 hU
   refine hK.out _ _ trivial (fun hHeld => ?_)
   clear hK hU h3 hg3 ho3
   refine wpAnyH_done (by kernel_rfl) ?_ _
   clear hHeld
   go_wp2_with fail
   go_end0
   exact ⟨rfl, _, _, HF.out⟩
  ·rw [if_pos (by rfl)]
   have hb : Below U1.heap.size U1 (U1.alloc (.cells #[.slice (some ⟨g, o5, none⟩) m cap5] 25)) := (Below.refl _ _).alloc (Nat.le_refl _) _
   have HBU2 : Hid (Box w L V sl zs (U1.alloc (.cells #[.slice (some ⟨g, o5, none⟩) m cap5] 25))) := HBU1.out.next hb
   have HRU2 : Hid (RowU (U1.alloc (.cells #[.slice (some ⟨g, o5, none⟩) m cap5] 25)) (some ⟨g, o5, none⟩) m R ∧ g < (U1.alloc (.cells #[.slice (some ⟨g, o5, none⟩) m cap5] 25)).heap.size) := ⟨HRU1.out.1.below hb, Nat.lt_of_lt_of_le HRU1.out.2 hb.size⟩
   have HX : Hid ((U1.alloc (.cells #[.slice (some ⟨g, o5, none⟩) m cap5] 25)).cell? ⟨U1.heap.size, 0, none⟩ = some (.slice (some ⟨g, o5, none⟩) m cap5)) := (Blk.new _ _ _).cell 0
   clear hb
   refine wp_runOp (v := .slice (some ⟨U1.heap.size, 0, none⟩) 1 1) (w' := (U1.alloc (.cells #[.slice (some ⟨g, o5, none⟩) m cap5] 25))) 6 rfl (by clear hK; go_simp) ?_
   refine hK.out _ _ trivial (fun hHeld => ?_)
   clear hK HBU1 HRU1
   simp only [Act.put, zqa, zqb, zqc]
   generalize U1.heap.size = G at *
   generalize (U1.alloc (.cells #[.slice (some ⟨g, o5, none⟩) m cap5] 25)) = U2 at *
   refine zqo 0 (by kernel_rfl) rfl (fun K hK => ?_)
   rw [if_pos (by rfl)]
   have cU2 : U2.cell? ⟨L, 0, none⟩ = some V := HBU2.out.blk.cell 0
   refine wp_runOp (v := V) (w' := U2) 3 rfl (by clear hK; go_simp) ?_
   refine hK.out _ _ trivial (fun hHeld => ?_)
   clear hK cU2
   simp only [Act.put, zqa, zqb, zqc]
   refine zqo 4 (by kernel_rfl) rfl (fun K hK => ?_)
   refine step_sli sliT rfl _ _ rfl (L + 1) G V sl ⟨some ⟨g, o5, none⟩, m, cap5⟩ rfl rfl HBU2.out.row HX.out HS6.out (HBU2.out.blk.lt) ?_
   intro v7 W3 h3 hg3 ho3
   refine hK.out _ _ trivial (fun hHeld => ?_)
   clear hK
   simp only [Act.put, zqa, zqb, zqc]
   refine zqo 5 (by kernel_rfl) rfl (fun K hK => ?_)
   rw [if_pos (by rfl)]
   refine wp_letOne 79 _ _ rfl L rfl v7 rfl (lr_cells h3) (by kernel_rfl) (lr_one h3) V 79 (HBU2.out.kept hg3) rfl ?_
   intro W4 hU
   have HF : Hid (Box w L v7 (sl ++ [⟨some ⟨g, o5, none⟩, m, cap5⟩]) (zs ++ [R]) W4) := box_step HBU2.out rfl HRU2.out.2 HNE.out HGL.out HRU2.out.1 ⟨HM6.out, HCP.out, fun h => by cases h⟩ h3 hg3 ho3 hU
   refine hK.out _ _ trivial (fun hHeld => ?_)
   clear hK hU h3 hg3 ho3
   refine wpAnyH_done (by kernel_rfl) ?_ _
   clear hHeld
   go_wp2_with fail
   go_end0
   exact ⟨rfl, _, _, HF.out⟩
end disk
end Go.Proofs.YtomibnggmhjdfaaGreat
