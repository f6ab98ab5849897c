/- What vendmeterref.Compared gives back. -/
import Derived.Test.YtkhiipohdiibeaaBigVal
namespace Go.Proofs.Ytkhiipohdiibeaa.words
open Go.RowKit

set_option maxHeartbeats 1000000 in
theorem Cmp_any (x y m k : Nat) (w : World) (hx : Bg w x m) (hy : Bg w y k) (hm : (dig m).length ≤ 100) (hk : (dig k).length ≤ 100) :
    Calls Try.prog 13 #[.pointer (some ⟨x, 0, none⟩), .pointer (some ⟨y, 0, none⟩)] w fun e w' => CmpPost w m k e w' := by
  obtain ⟨xa, xn, xc, x0, x1, xr⟩ := hx.parts
  obtain ⟨ya, yn, yc, y0, y1, yr⟩ := hy.parts
  have hne : (false != false) = false := rfl
  have HM : Hid (∀ q, Calls Try.prog 23 #[.slice xa xn xc, .slice ya yn yc] (w.drewN q) fun e w'' => CmpPost (w.drewN q) m k e w'') := fun q =>
    bigcmp_any xa ya xn yn xc yc m k _ (xr.below (below_drewN (Below.refl _ _) q)) (yr.below (below_drewN (Below.refl _ _) q)) (by rw [← xr.len]; exact hm) (by rw [← yr.len]; exact hk)
  clear hx hy xr yr hm hk
  go_enter Try.func13, Try.ntmps13
  go_wp2_with fail
  go_quiet (fail)
  go_wp2_with fail
  go_quiet (first | (go_at_call 23; exact (HM.out _).mono fun _ _ h => ⟨h.1, by obtain ⟨q, hq⟩ := h.2; rw [hq]; first | exact ⟨_, drew2 _ _ _⟩ | exact ⟨_, (drew2 _ _ _).trans (by rw [Nat.add_assoc])⟩⟩))
  go_wp2_with fail
  go_ret
  exact ⟨rfl, _, rfl⟩

def AnsPost (w : World) (v : Int) (e : Ending) (w' : World) : Prop := e = .returned (.int .i64 v) ∧ Below w.heap.size w w'

set_option maxHeartbeats 4000000 in
theorem compared_any (a b c a' b' c' : Nat) (w : World) (ha : a < 4294967296) (hb : b < 4294967296) (hc : c < 4294967296) (ha' : a' < 4294967296) (hb' : b' < 4294967296) (hc' : c' < 4294967296) :
    Calls Try.prog 7 #[.agg #[.int .u32 (a : Int), .int .u32 (b : Int), .int .u32 (c : Int)], .agg #[.int .u32 (a' : Int), .int .u32 (b' : Int), .int .u32 (c' : Int)]] w fun e w' => AnsPost w (cmp3 (W3.val ⟨a, b, c⟩) (W3.val ⟨a', b', c'⟩)) e w' := by
  have HT1 : Hid (Trio ((w.alloc (.cells #[.int .u32 (a : Int), .int .u32 (b : Int), .int .u32 (c : Int)] 24)).alloc (.cells #[.int .u32 (a' : Int), .int .u32 (b' : Int), .int .u32 (c' : Int)] 24)) w.heap.size (.int .u32 (a : Int)) (.int .u32 (b : Int)) (.int .u32 (c : Int))) := (trio_new _ _ _ _).alloc _
  have HT2 : Hid (Trio ((w.alloc (.cells #[.int .u32 (a : Int), .int .u32 (b : Int), .int .u32 (c : Int)] 24)).alloc (.cells #[.int .u32 (a' : Int), .int .u32 (b' : Int), .int .u32 (c' : Int)] 24)) (w.heap.size + 1) (.int .u32 (a' : Int)) (.int .u32 (b' : Int)) (.int .u32 (c' : Int))) := trio_b _ _ _ _ _
  have HB : Hid (Below w.heap.size w ((w.alloc (.cells #[.int .u32 (a : Int), .int .u32 (b : Int), .int .u32 (c : Int)] 24)).alloc (.cells #[.int .u32 (a' : Int), .int .u32 (b' : Int), .int .u32 (c' : Int)] 24))) := bel2 _ _ _
  have H1 : Hid (∀ w, Calls Try.prog 12 #[.agg #[.int .u32 (a : Int), .int .u32 (b : Int), .int .u32 (c : Int)]] w fun e w' => NewPost w (big96V a b c) e w') := fun w => big96_any a b c w ha hb hc
  have H2 : Hid (∀ w, Calls Try.prog 12 #[.agg #[.int .u32 (a' : Int), .int .u32 (b' : Int), .int .u32 (c' : Int)]] w fun e w' => NewPost w (big96V a' b' c') e w') := fun w => big96_any a' b' c' w ha' hb' hc'
  have HL : Hid ((dig (big96V a b c)).length ≤ 100 ∧ (dig (big96V a' b' c')).length ≤ 100) := ⟨big96_len ha hb hc, big96_len ha' hb' hc'⟩
  have HV : Hid (cmp3 (W3.val ⟨a, b, c⟩) (W3.val ⟨a', b', c'⟩) = cmp3 ((big96V a b c : Nat) : Int) ((big96V a' b' c' : Nat) : Int)) := (by rw [big96_val, big96_val] : cmp3 (W3.val ⟨a, b, c⟩) (W3.val ⟨a', b', c'⟩) = cmp3 ((big96V a b c : Nat) : Int) ((big96V a' b' c' : Nat) : Int))
  generalize big96V a b c = M at *
  generalize big96V a' b' c' = K at *
  go_enter Try.func7, Try.ntmps7
  go_wp2_with fail
  generalize hW : ((w.alloc (.cells #[.int .u32 (a : Int), .int .u32 (b : Int), .int .u32 (c : Int)] 24)).alloc (.cells #[.int .u32 (a' : Int), .int .u32 (b' : Int), .int .u32 (c' : Int)] 24)) = W at *
  clear hW
  have KW : Hid (W.drew.cell? ⟨w.heap.size, 0, none⟩ = some (.int .u32 (a : Int)) ∧ W.drew.cell? ⟨w.heap.size, 1, none⟩ = some (.int .u32 (b : Int)) ∧ W.drew.cell? ⟨w.heap.size, 2, none⟩ = some (.int .u32 (c : Int)) ∧ W.drew.cell? ⟨w.heap.size + 1, 0, none⟩ = some (.int .u32 (a' : Int)) ∧ W.drew.cell? ⟨w.heap.size + 1, 1, none⟩ = some (.int .u32 (b' : Int)) ∧ W.drew.cell? ⟨w.heap.size + 1, 2, none⟩ = some (.int .u32 (c' : Int))) := ⟨HT1.out.c0, HT1.out.c1, HT1.out.c2, HT2.out.c0, HT2.out.c1, HT2.out.c2⟩
  have BW : Hid (Below w.heap.size w W.drew) := HB.out.drew
  go_region_held (fun v => v.cell? ⟨w.heap.size, 0, none⟩ = some (.int .u32 (a : Int)) ∧ v.cell? ⟨w.heap.size, 1, none⟩ = some (.int .u32 (b : Int)) ∧ v.cell? ⟨w.heap.size, 2, none⟩ = some (.int .u32 (c : Int)) ∧ v.cell? ⟨w.heap.size + 1, 0, none⟩ = some (.int .u32 (a' : Int)) ∧ v.cell? ⟨w.heap.size + 1, 1, none⟩ = some (.int .u32 (b' : Int)) ∧ v.cell? ⟨w.heap.size + 1, 2, none⟩ = some (.int .u32 (c' : Int)))
    (first | exact K3.out | exact K2.out | exact K1.out | exact KW.out)
    (first
      | (go_at_call 13; refine (Cmp_any _ _ _ _ _ G1.out G2.out HL.out.1 HL.out.2).mono ?_; rintro e w3 ⟨rfl, q, rfl⟩
         have K3 : Hid ((w2.drewN q).cell? ⟨w.heap.size, 0, none⟩ = some (.int .u32 (a : Int)) ∧ (w2.drewN q).cell? ⟨w.heap.size, 1, none⟩ = some (.int .u32 (b : Int)) ∧ (w2.drewN q).cell? ⟨w.heap.size, 2, none⟩ = some (.int .u32 (c : Int)) ∧ (w2.drewN q).cell? ⟨w.heap.size + 1, 0, none⟩ = some (.int .u32 (a' : Int)) ∧ (w2.drewN q).cell? ⟨w.heap.size + 1, 1, none⟩ = some (.int .u32 (b' : Int)) ∧ (w2.drewN q).cell? ⟨w.heap.size + 1, 2, none⟩ = some (.int .u32 (c' : Int))) := K2.out
         have B3 : Hid (Below w.heap.size w (w2.drewN q)) := below_drewN B2.out q)
      | (go_at_call_of 12 (Value.agg #[.int .u32 (a : Int), .int .u32 (b : Int), .int .u32 (c : Int)]); refine (H1.out _).mono ?_; rintro e w1 ⟨z1, rfl, hz1, hg1, hb1⟩
         have K1 : Hid (w1.cell? ⟨w.heap.size, 0, none⟩ = some (.int .u32 (a : Int)) ∧ w1.cell? ⟨w.heap.size, 1, none⟩ = some (.int .u32 (b : Int)) ∧ w1.cell? ⟨w.heap.size, 2, none⟩ = some (.int .u32 (c : Int)) ∧ w1.cell? ⟨w.heap.size + 1, 0, none⟩ = some (.int .u32 (a' : Int)) ∧ w1.cell? ⟨w.heap.size + 1, 1, none⟩ = some (.int .u32 (b' : Int)) ∧ w1.cell? ⟨w.heap.size + 1, 2, none⟩ = some (.int .u32 (c' : Int))) := ⟨cell_bel hb1 KW.out.1, cell_bel hb1 KW.out.2.1, cell_bel hb1 KW.out.2.2.1, cell_bel hb1 KW.out.2.2.2.1, cell_bel hb1 KW.out.2.2.2.2.1, cell_bel hb1 KW.out.2.2.2.2.2⟩
         have B1 : Hid (Below w.heap.size w w1) := BW.out.trans (hb1.mono BW.out.size)
         have G0 : Hid (Bg w1 z1 M) := hg1
         clear hz1 hg1 hb1)
      | (go_at_call_of 12 (Value.agg #[.int .u32 (a' : Int), .int .u32 (b' : Int), .int .u32 (c' : Int)]); refine (H2.out _).mono ?_; rintro e w2 ⟨z2, rfl, hz2, hg2, hb2⟩
         have K2 : Hid (w2.cell? ⟨w.heap.size, 0, none⟩ = some (.int .u32 (a : Int)) ∧ w2.cell? ⟨w.heap.size, 1, none⟩ = some (.int .u32 (b : Int)) ∧ w2.cell? ⟨w.heap.size, 2, none⟩ = some (.int .u32 (c : Int)) ∧ w2.cell? ⟨w.heap.size + 1, 0, none⟩ = some (.int .u32 (a' : Int)) ∧ w2.cell? ⟨w.heap.size + 1, 1, none⟩ = some (.int .u32 (b' : Int)) ∧ w2.cell? ⟨w.heap.size + 1, 2, none⟩ = some (.int .u32 (c' : Int))) := ⟨cell_bel hb2 K1.out.1, cell_bel hb2 K1.out.2.1, cell_bel hb2 K1.out.2.2.1, cell_bel hb2 K1.out.2.2.2.1, cell_bel hb2 K1.out.2.2.2.2.1, cell_bel hb2 K1.out.2.2.2.2.2⟩
         have B2 : Hid (Below w.heap.size w w2) := B1.out.trans (hb2.mono B1.out.size)
         have G1 : Hid (Bg w2 z1 M) := G0.out.below hb2
         have G2 : Hid (Bg w2 z2 K) := hg2
         clear hz2 hg2 hb2))
  all_goals (go_wp2_with fail; go_ret; exact ⟨by rw [HV.out]; rfl, B3.out⟩)

end Go.Proofs.Ytkhiipohdiibeaa.words
