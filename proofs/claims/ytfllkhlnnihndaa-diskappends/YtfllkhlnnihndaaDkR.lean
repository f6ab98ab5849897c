/- Disks: what is told of one, as the document says. -/
import Derived.Test.YtfllkhlnnihndaaDkL
import Derived.Test.YtfllkhlnnihndaaRRow
import Derived.Test.YtfllkhlnnihndaaDkSt
import Derived.Test.YtfllkhlnnihndaaClAr
import Derived.Test.YtfllkhlnnihndaaClIn0
import Derived.Test.YtfllkhlnnihndaaBlk
namespace Go.Proofs.Ytfllkhlnnihndaa.disk
open Go.RowKit Go.Proofs.Ytfllkhlnnihndaa.cell
set_option maxRecDepth 100000
set_option linter.unusedVariables false

/-- What Replay gives back: new slices of new rows. -/
def RepPost (w : World) (c : List Int) (e : Ending) (w' : World) : Prop :=
  ∃ V sl out x f, e = .returned (.tuple #[V, .int .i64 x, .int .i64 f]) ∧ Lr 22 w' w.heap.size V sl ∧ Recs w' V.ownBlock sl out ∧ RepIs c out x f ∧ Below w.heap.size w w'
theorem rec_at {c : List Int} {p m x : Nat} (hm : (c.getD p 0).toNat = m) (hx : x < m) : (recAt c p).getD x 0 = c.getD (p + 1 + x) 0 := by
  unfold recAt
  rw [hm]
  simp [List.getD, List.getElem?_drop, hx]
theorem rec_len {c : List Int} {p m : Nat} (hm : (c.getD p 0).toNat = m) (hf : p + m < c.length) : (recAt c p).length = m := by
  unfold recAt
  rw [hm, List.length_take, List.length_drop]
  omega
set_option maxHeartbeats 4000000 in
theorem replayed (a : Option Addr) (n cap : Nat) (c : List Int) (w : World) (h : RowU w a n c) (hw : ∀ x ∈ c, 0 ≤ x ∧ x < 4294967296) :
    Calls Try.prog 11 #[.slice a n cap] w fun e w' => RepPost w c e w' := by
  have hcl := h.1
  by_cases hmay : 1 ≤ n ∧ n ≤ 2048
  · have HM : Hid (∀ W, Calls Try.prog 26 #[.int .i64 (n : Int), .int .i64 1, .int .i64 2048] W fun e w' => e = .returned (.bool true) ∧ w' = W) := fun W => in_yes _ _ _ W (by omega) (by omega)
    have HLN : Hid (∀ W p, Below w.heap.size w W → p ≤ n → Calls Try.prog 27 #[.slice a n cap, .int .i64 (p : Int)] W fun e w' => e = .returned (.int .i64 (lenAt c p)) ∧ w' = W) := fun W p hB hp => length_any a n cap p c W (h.below hB) hmay.2 hp hw
    have HL0 : Hid (Calls Try.prog 27 #[.slice a n cap, .int .i64 0] w fun e w' => e = .returned (.int .i64 (lenAt c 0)) ∧ w' = w) := HLN.out w 0 (Below.refl _ _) (Nat.zero_le _)
    obtain ⟨b, o, rfl, lb, hc⟩ := h.at (by omega)
    have HCL : Hid (∀ W, Below w.heap.size w W → ∀ j, j < n → W.cell? ⟨b, o + j, none⟩ = some (.int .u32 (c.getD j 0))) := fun W hB j hj => (hB.cell (p := ⟨b, o + j, none⟩) lb).trans (hc j hj)
    have HMY : Hid (May c) := ⟨by omega, by omega⟩
    have HN : Hid (c.length = n) := hcl
    obtain ⟨hn1, hn2⟩ := hmay
    clear h hw hc lb hcl
    go_enter Try.func11, Try.ntmps11
    go_wp2_with fail
    refine (HM.out _).mono ?_
    rintro e w1 ⟨rfl, hq⟩
    subst w1
    clear HM
    go_wp2_with fail
    refine HL0.out.mono ?_
    rintro e w1 ⟨rfl, hq⟩
    subst w1
    clear HL0
    go_wp2_with fail
    go_loopw [5, 6, 7] (fun v5 v6 v7 wr => ∃ (k p : Nat) (V : Value) (sl : List Sli), p ≤ n ∧ V = v5 ∧ v6 = .int .i64 (p : Int) ∧ v7 = .int .i64 (lenAt c p) ∧ (itD c k).2 = p ∧ Lr 22 wr w.heap.size V sl ∧ Recs wr V.ownBlock sl (itD c k).1 ∧ sl.length ≤ p ∧ Below w.heap.size w wr) (fun _ v6 _ _ => n + 1 - (intOf v6).toNat)
    case atStart => exact ⟨0, 0, _, [], Nat.zero_le _, rfl, rfl, rfl, rfl, Lr.zero _ _ _, Recs.nil _ _, Nat.le_refl _, Below.refl _ _⟩
    case round =>
      obtain ⟨k, p, V, sl, hp, hV, rfl, rfl, hk, hlr, hrc, hsl, hbl⟩ := hrel
      subst hV
      have HLR : Hid (Lr 22 wr w.heap.size V sl) := hlr
      have HRC : Hid (Recs wr V.ownBlock sl (itD c k).1) := hrc
      have HBL : Hid (Below w.heap.size w wr) := hbl
      have HK : Hid ((itD c k).2 = p) := hk
      clear hlr hrc hbl hk
      obtain ⟨wo, hwo⟩ : ∃ wo, wo = wr := ⟨_, rfl⟩
      subst hwo
      by_cases hpos : 0 < lenAt c p
      · obtain ⟨q0, q1, q2, q3⟩ := len_pos hpos
        obtain ⟨m, hm⟩ : ∃ m : Nat, lenAt c p = (m : Int) := ⟨(lenAt c p).toNat, by omega⟩
        have hgm : (c.getD p 0).toNat = m := by rw [← q0, hm]; simp
        have hpm : p + m < n := by have := HN.out; omega
        have hm1 : 1 ≤ m := by omega
        have hm2 : m ≤ 64 := by omega
        have HIT : Hid (itD c (k + 1) = ((itD c k).1 ++ [recAt c p], p + m + 1)) := by
          have h := it_live (c := c) (k := k) (by rw [HK.out]; exact hpos)
          rw [HK.out, hm, Int.toNat_natCast] at h
          exact h
        have HRL : Hid ((recAt c p).length = m) := rec_len hgm (by have := HN.out; omega)
        have HRA : Hid (∀ x, x < m → (recAt c p).getD x 0 = c.getD (p + 1 + x) 0) := fun x hx => rec_at hgm hx
        rw [hm]
        have e1 : decide ((0 : Int) < (m : Int)) = true := by simp; omega
        have hmk : ∀ W : World, (Instr.makeSlice 22 (.int .i64 (m : Int)) (.int .i64 (m : Int))).run Try.prog W = .ok (.slice (some ⟨W.heap.size, 0, none⟩) m m) (W.alloc (.cells (arr (List.replicate m 0)) 42)) := make_u32 m (by omega)
        have HG0 : Hid (Blk (wo.alloc (.cells (arr (List.replicate m 0)) 42)) wo.heap.size (arr (List.replicate m 0)) 42) := Blk.new _ _ _
        have HB0 : Hid (Below wo.heap.size wo (wo.alloc (.cells (arr (List.replicate m 0)) 42))) := (Below.refl _ _).alloc (Nat.le_refl _) _
        have HZL : Hid ((List.replicate m (0 : Int)).length = m) := List.length_replicate
        have HSZ : Hid (w.heap.size ≤ wo.heap.size) := HBL.out.size
        have HL2 : Hid (∀ W, Below w.heap.size w W → Calls Try.prog 27 #[.slice (some ⟨b, o, none⟩) n cap, .int .i64 ((p : Int) + (m : Int) + 1)] W fun e w' => e = .returned (.int .i64 (lenAt c (p + m + 1))) ∧ w' = W) := fun W hB => by
          have h := HLN.out W (p + m + 1) hB (by omega)
          rwa [show ((p + m + 1 : Nat) : Int) = (p : Int) + (m : Int) + 1 by omega] at h
        clear hpos q0 q1 q2 q3 hm hgm HLN
        generalize List.replicate m (0 : Int) = zz at *
        generalize recAt c p = R at *
        go_wp2_with fail
        generalize wo.alloc (.cells (arr zz) 42) = W0 at *
        generalize hgg : wo.heap.size = g at *
        have HGG : Hid (wo.heap.size = g) := hgg
        clear hgg hmk
        go_loopw [9] (fun i wq => ∃ (x : Nat) (zs : List Int), x ≤ m ∧ i = .int .i64 (x : Int) ∧ zs.length = m ∧ (∀ i, i < x → zs.getD i 0 = R.getD i 0) ∧ Blk wq g (arr zs) 42 ∧ Below g wo wq) (fun i _ => m - (intOf i).toNat)
        case atStart => exact ⟨0, zz, Nat.zero_le _, rfl, HZL.out, fun i hi => absurd hi (Nat.not_lt_zero _), HG0.out, HB0.out⟩
        case round =>
          obtain ⟨x, zs, hx, rfl, hzl, hze, hg, hb⟩ := hrel
          have HKB : Hid (Blk wr g (arr zs) 42) := hg
          have HB : Hid (Below g wo wr) := hb
          have HBW : Hid (Below w.heap.size w wr) := HBL.out.trans (hb.mono HSZ.out)
          have HZ : Hid (zs.length = m ∧ ∀ i, i < x → zs.getD i 0 = R.getD i 0) := ⟨hzl, hze⟩
          clear hzl hze hg hb HG0 HB0 HZL
          by_cases hxm : x < m
          · have k2 := HCL.out wr HBW.out (p + 1 + x) (by omega)
            rw [← HRA.out x hxm] at k2
            have k0 := Blk.word HKB.out x (by rw [HZ.out.1]; exact hxm)
            have k1 := HKB.out.free x
            have HNX : Hid (Blk (wr.setCell ⟨g, x, none⟩ (.int .u32 (R.getD x 0))) g (arr (zs.set x (R.getD x 0))) 42) := by
              have h := HKB.out.set x (.int .u32 (R.getD x 0))
              rw [arr_set] at h
              exact h
            have HBX : Hid (Below g wo (wr.setCell ⟨g, x, none⟩ (.int .u32 (R.getD x 0)))) := bel_set HB.out g x _ (Nat.le_refl _)
            have HZX : Hid ((zs.set x (R.getD x 0)).length = m ∧ ∀ i, i < x + 1 → (zs.set x (R.getD x 0)).getD i 0 = R.getD i 0) := by
              refine ⟨by rw [List.length_set]; exact HZ.out.1, fun i hi => ?_⟩
              rw [set_at]
              by_cases e : i = x
              · rw [if_pos ⟨e, by rw [HZ.out.1]; exact hxm⟩, e]
              · rw [if_neg (by omega)]; exact HZ.out.2 i (by omega)
            generalize zs.set x (R.getD x 0) = zs2 at *
            generalize R.getD x 0 = u at *
            generalize zs.getD x 0 = u0 at *
            clear HKB HB HZ HBW
            go_wp2_with fail
            go_roundw
            case rel => exact ⟨x + 1, zs2, by omega, by go_num, HZX.out.1, HZX.out.2, HNX.out, HBX.out⟩
            case measure => simp [intOf]; omega
          · obtain rfl : x = m := by omega
            have HX : Hid (RowU wr (some ⟨g, 0, none⟩) x R) := by
              have e : zs = R := list_ext (by rw [HZ.out.1, HRL.out]) (fun i hi => HZ.out.2 i (by rw [HZ.out.1] at hi; exact hi))
              rw [← e]
              exact Blk.rowU HKB.out HZ.out.1
            have HGL : Hid (g < wr.heap.size) := HKB.out.lt
            have HBO : Hid (Below wo.heap.size wo wr) := by show Below _ _ _; rw [HGG.out]; exact HB.out
            have HNE : Hid (some g ≠ V.ownBlock) := fun e => by have := (World.ownsRow.lt HLR.out g e.symm).2; have := HGG.out; omega
            have HUA : Hid (∀ o, Lr 22 (wr.alloc o) w.heap.size V sl) := fun o => (HLR.out.next HBO.out).alloc o
            have HBA : Hid (∀ o, Below w.heap.size w (wr.alloc o)) := fun o => HBW.out.alloc HBW.out.size o
            have HRA2 : Hid (∀ o, Recs (wr.alloc o) V.ownBlock (sl ++ [⟨some ⟨g, 0, none⟩, x, x⟩]) ((itD c k).1 ++ [R])) := fun o => ((HRC.out.below HBO.out).snoc ⟨⟨g, 0, rfl, HGL.out, HNE.out⟩, HX.out⟩).below ((Below.refl _ _).alloc (Nat.le_refl _) _)
            have hs6 : sl.length ≤ 1000000 := by omega
            clear HKB HB HZ HX HNE HGL HRA HRL
            go_wp2_with (first | (refine wp_sli sliT rfl _ _ rfl w.heap.size wr.heap.size V sl ⟨some ⟨g, 0, none⟩, x, x⟩ rfl rfl (HUA.out _) ((Blk.new wr _ _).cell 0) hs6 (by have := HBW.out.size; simp; omega) ?_; intro v3 w3 h3 hg3 ho3; have HB3 : Hid (Below w.heap.size w w3) := own_bel (HUA.out _) hg3 (HBA.out _) (Nat.le_refl _) (by have := HBW.out.size; simp; omega); have H3 : Hid (Lr 22 w3 w.heap.size v3 (sl ++ [⟨some ⟨g, 0, none⟩, x, x⟩])) := h3; have HR3 : Hid (Recs w3 v3.ownBlock (sl ++ [⟨some ⟨g, 0, none⟩, x, x⟩]) ((itD c k).1 ++ [R])) := (HRA2.out _).grown hg3 ho3; clear h3 hg3 ho3) | fail)
            refine (HL2.out _ HB3.out).mono ?_
            rintro e w4 ⟨rfl, hq⟩
            subst w4
            go_wp2_with fail
            go_roundw
            case rel => exact ⟨k + 1, p + x + 1, v3, sl ++ [⟨some ⟨g, 0, none⟩, x, x⟩], by omega, rfl, by go_num, rfl, by rw [HIT.out], H3.out, by rw [HIT.out]; exact HR3.out, by rw [List.length_append]; simp; omega, HB3.out⟩
            case measure => simp [intOf]; omega
      · have HRD : Hid (repD c = itD c k) := rep_of (by rw [HK.out]; exact hpos)
        have e1 : decide ((0 : Int) < lenAt c p) = false := by simpa using hpos
        by_cases hneg : lenAt c p < 0
        · have HRI : Hid (RepIs c [] 0 3) := .inr (.inl ⟨HMY.out, by rw [HRD.out, HK.out]; exact hneg, rfl, rfl, rfl⟩)
          have e2 : decide (lenAt c p < 0) = true := by simpa using hneg
          clear HRD hpos hneg HLN
          generalize lenAt c p = z at *
          go_wp2_with fail
          go_ret3
          exact ⟨.slice none 0 0, [], [], 0, 3, rfl, Lr.zero _ _ _, Recs.nil _ _, HRI.out, HBL.out⟩
        · have HRI : Hid (RepIs c (itD c k).1 (p : Int) 0) := .inr (.inr ⟨HMY.out, by rw [HRD.out, HK.out]; omega, by rw [HRD.out], by rw [HRD.out, HK.out], rfl⟩)
          have e2 : decide (lenAt c p < 0) = false := by simpa using hneg
          clear HRD hpos hneg HLN
          generalize lenAt c p = z at *
          go_wp2_with fail
          go_ret3
          exact ⟨V, sl, _, _, 0, rfl, HLR.out, HRC.out, HRI.out, HBL.out⟩
  · have HM : Hid (∀ W, Calls Try.prog 26 #[.int .i64 (n : Int), .int .i64 1, .int .i64 2048] W fun e w' => e = .returned (.bool false) ∧ w' = W) := fun W => in_no _ _ _ W (by omega)
    have HRI : Hid (RepIs c [] 0 1) := .inl ⟨fun h => hmay ⟨by rw [← hcl]; exact h.1, by rw [← hcl]; exact h.2⟩, rfl, rfl, rfl⟩
    clear h hw hcl hmay
    go_enter Try.func11, Try.ntmps11
    go_wp2_with fail
    refine (HM.out _).mono ?_
    rintro e w1 ⟨rfl, hq⟩
    subst w1
    go_wp2_with fail
    go_ret3
    exact ⟨.slice none 0 0, [], [], 0, 1, rfl, Lr.zero _ _ _, Recs.nil _ _, HRI.out, Below.refl _ _⟩

end Go.Proofs.Ytfllkhlnnihndaa.disk
