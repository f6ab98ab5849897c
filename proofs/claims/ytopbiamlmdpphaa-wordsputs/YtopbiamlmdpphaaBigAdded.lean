/- What the document's answers to Plus and Times give back. -/
import Derived.Test.YtopbiamlmdpphaaBigW96
namespace Go.Proofs.Ytopbiamlmdpphaa.words
open Go.RowKit

/-- A wide number and what is above it were given back. -/
def WPost (w : World) (Y : W3) (t : Int) (e : Ending) (w' : World) : Prop := e = .returned (.tuple #[.agg #[.int .u32 Y.a, .int .u32 Y.b, .int .u32 Y.c], .int .u32 t]) ∧ Below w.heap.size w w'

theorem words_of {Y : W3} {t : Int} {m : Nat} (hY : Y.ok) (h : Y.val + t * top = (m : Int)) :
    ((m % 4294967296 : Nat) : Int) = Y.a ∧ ((m / 4294967296 % 4294967296 : Nat) : Int) = Y.b ∧ ((m / 4294967296 / 4294967296 % 4294967296 : Nat) : Int) = Y.c ∧ ((m / 4294967296 / 4294967296 / 4294967296 : Nat) : Int) = t := by
  obtain ⟨⟨a1, a2⟩, ⟨b1, b2⟩, c1, c2⟩ := hY
  obtain ⟨ya, yb, yc⟩ := Y
  unfold W3.val top at h
  simp only at *
  omega

theorem wide96_any (n m : Nat) (w : World) (hg : Bg w n m) (hm : m < 340282366920938463463374607431768211456) :
    Calls Try.prog 27 #[.pointer (some ⟨n, 0, none⟩)] w fun e w' => WidePost w (m % 4294967296) (m / 4294967296 % 4294967296) (m / 4294967296 / 4294967296 % 4294967296) (m / 4294967296 / 4294967296 / 4294967296) e w' := by
  have hl : ∀ k, k < 340282366920938463463374607431768211456 → (dig k).length ≤ 60 := fun k hk => by
    have := dig_len (m := k) 4 (by omega)
    omega
  exact wide96_abs n m _ _ _ _ _ _ w hg ⟨rfl, rfl, rfl, rfl, rfl, rfl⟩ (by omega) (by omega) (by omega) (by omega) ⟨hl m hm, hl _ (by omega), hl _ (by omega)⟩

theorem wide96_W (n m : Nat) (Y : W3) (t : Int) (w : World) (hg : Bg w n m) (hY : Y.ok) (ht : 0 ≤ t) (ht2 : t < 4294967296) (h : Y.val + t * top = (m : Int)) :
    Calls Try.prog 27 #[.pointer (some ⟨n, 0, none⟩)] w fun e w' => WPost w Y t e w' := by
  have hb := W3.bd hY
  have hm : m < 340282366920938463463374607431768211456 := by unfold top at *; omega
  obtain ⟨e0, e1, e2, e3⟩ := words_of hY h
  refine (wide96_any n m w hg hm).mono ?_
  rintro e w' ⟨rfl, hb⟩
  rw [e0, e1, e2, e3]
  exact ⟨rfl, hb⟩

theorem len100' {m : Nat} (h : m < 340282366920938463463374607431768211456) : (dig m).length ≤ 100 := by
  have := dig_len (m := m) 4 (by omega)
  omega

set_option maxHeartbeats 2000000 in
theorem added_any (a b c x : Nat) (Y : W3) (t : Int) (w : World) (ha : a < 4294967296) (hb : b < 4294967296) (hc : c < 4294967296) (hx : x < 4294967296) (hY : Y.ok) (ht : 0 ≤ t) (ht2 : t < 4294967296) (h : Y.val + t * top = ((big96V a b c + x : Nat) : Int)) :
    Calls Try.prog 10 #[.agg #[.int .u32 (a : Int), .int .u32 (b : Int), .int .u32 (c : Int)], .int .u32 (x : Int)] w fun e w' => WPost w Y t e w' := by
  have HT : Hid (Trio ((w.alloc (.cells #[.int .u32 (a : Int), .int .u32 (b : Int), .int .u32 (c : Int)] 24)).alloc (.cells #[.int .u32 0, .int .u32 0, .int .u32 0] 24)) w.heap.size (.int .u32 (a : Int)) (.int .u32 (b : Int)) (.int .u32 (c : Int))) := (trio_new _ _ _ _).alloc _
  have HR : Hid (Trio ((w.alloc (.cells #[.int .u32 (a : Int), .int .u32 (b : Int), .int .u32 (c : Int)] 24)).alloc (.cells #[.int .u32 0, .int .u32 0, .int .u32 0] 24)) (w.heap.size + 1) (.int .u32 0) (.int .u32 0) (.int .u32 0)) := trio_b _ _ _ _ _
  have HB : Hid (Below w.heap.size w ((w.alloc (.cells #[.int .u32 (a : Int), .int .u32 (b : Int), .int .u32 (c : Int)] 24)).alloc (.cells #[.int .u32 0, .int .u32 0, .int .u32 0] 24))) := bel2 _ _ _
  have hlV := big96_len ha hb hc
  have hlx : (dig x).length ≤ 100 := len100' (by omega)
  have c0 := HT.out.c0
  have c1 := HT.out.c1
  have c2 := HT.out.c2
  have HW : Hid (∀ n w, Bg w n (big96V a b c + x) → Calls Try.prog 27 #[.pointer (some ⟨n, 0, none⟩)] w fun e w' => WPost w Y t e w') := fun n w hg => wide96_W n _ Y t w hg hY ht ht2 h
  clear h hY ht ht2
  go_enter Try.func10, Try.ntmps10
  go_wp2_with fail
  refine (big96_any a b c _ ha hb hc).mono ?_
  rintro e w1 ⟨n, rfl, hn, hg, hb1⟩
  have HR1 : Hid (Trio w1 (w.heap.size + 1) (.int .u32 0) (.int .u32 0) (.int .u32 0)) := HR.out.below hb1
  have HB1 : Hid (Below w.heap.size w w1) := HB.out.trans (hb1.mono HB.out.size)
  have HG : Hid (Bg w1 n (big96V a b c)) := hg
  have hnR : w.heap.size + 2 ≤ n := by simp at hn; omega
  have hn1 := hg.ob.lt
  clear hg hb1 hn c0 c1 c2 HT HR HB
  generalize big96V a b c = V at *
  go_wp2_with fail
  refine (newInt_any x _ (by omega)).mono ?_
  rintro e w2 ⟨q, rfl, hq, hg, hb2⟩
  have HR2 : Hid (Trio w2 (w.heap.size + 1) (.int .u32 0) (.int .u32 0) (.int .u32 0)) := HR1.out.below hb2
  have HB2 : Hid (Below w.heap.size w w2) := HB1.out.trans (hb2.mono HB1.out.size)
  have HG2 : Hid (Bg w2 n V) := HG.out.below hb2
  have HQ : Hid (Bg w2 q x) := hg
  have hqn : q ≠ n := by omega
  clear hg hb2 HR1 HB1 HG
  go_wp2_with fail
  refine (Add_any n n q V x _ HG2.out HQ.out HG2.out.ob hqn hlV hlx).mono ?_
  rintro e w3 ⟨rfl, hg3, hex⟩
  have HR3 : Hid (Trio w3 (w.heap.size + 1) (.int .u32 0) (.int .u32 0) (.int .u32 0)) := HR2.out.ex hex (by omega)
  have HB3 : Hid (Below w.heap.size w w3) := hex.below HB2.out (by omega)
  have HG3 : Hid (Bg w3 n (V + x)) := hg3
  clear hg3 hex HR2 HB2 HG2 HQ
  go_wp2_with fail
  refine (HW.out n _ HG3.out).mono ?_
  rintro e w4 ⟨rfl, hb4⟩
  have R4 := HR3.out.below hb4
  have HB4 : Hid (Below w.heap.size w w4) := HB3.out.trans (hb4.mono HB3.out.size)
  have HR4 : Hid (Trio w4 (w.heap.size + 1) (.int .u32 0) (.int .u32 0) (.int .u32 0)) := R4
  have r0 := R4.c0
  have r1 := R4.c1
  have r2 := R4.c2
  have g0 := R4.free 0
  have g1 := R4.free 1
  have g2 := R4.free 2
  clear R4 hb4 HR3 HB3 HG3 HW
  go_wp2_with fail
  have RR := HR4.out.put (.int .u32 Y.a) (.int .u32 Y.b) (.int .u32 Y.c)
  refine bodyPost_ret (v := .tuple #[.agg #[.int .u32 Y.a, .int .u32 Y.b, .int .u32 Y.c], .int .u32 t]) (by simp [results, Try.results10, RR.c0, RR.c1, RR.c2, go_sem]) rfl ⟨rfl, below_put3 HB4.out _ _ _ _ (by omega)⟩

set_option maxHeartbeats 2000000 in
theorem multiplied_any (a b c x : Nat) (Y : W3) (t : Int) (w : World) (ha : a < 4294967296) (hb : b < 4294967296) (hc : c < 4294967296) (hx : x < 4294967296) (hY : Y.ok) (ht : 0 ≤ t) (ht2 : t < 4294967296) (h : Y.val + t * top = ((big96V a b c * x : Nat) : Int)) :
    Calls Try.prog 12 #[.agg #[.int .u32 (a : Int), .int .u32 (b : Int), .int .u32 (c : Int)], .int .u32 (x : Int)] w fun e w' => WPost w Y t e w' := by
  have HT : Hid (Trio ((w.alloc (.cells #[.int .u32 (a : Int), .int .u32 (b : Int), .int .u32 (c : Int)] 24)).alloc (.cells #[.int .u32 0, .int .u32 0, .int .u32 0] 24)) w.heap.size (.int .u32 (a : Int)) (.int .u32 (b : Int)) (.int .u32 (c : Int))) := (trio_new _ _ _ _).alloc _
  have HR : Hid (Trio ((w.alloc (.cells #[.int .u32 (a : Int), .int .u32 (b : Int), .int .u32 (c : Int)] 24)).alloc (.cells #[.int .u32 0, .int .u32 0, .int .u32 0] 24)) (w.heap.size + 1) (.int .u32 0) (.int .u32 0) (.int .u32 0)) := trio_b _ _ _ _ _
  have HB : Hid (Below w.heap.size w ((w.alloc (.cells #[.int .u32 (a : Int), .int .u32 (b : Int), .int .u32 (c : Int)] 24)).alloc (.cells #[.int .u32 0, .int .u32 0, .int .u32 0] 24))) := bel2 _ _ _
  have hlV := big96_len ha hb hc
  have hlx : (dig x).length ≤ 100 := len100' (by omega)
  have c0 := HT.out.c0
  have c1 := HT.out.c1
  have c2 := HT.out.c2
  have HW : Hid (∀ n w, Bg w n (big96V a b c * x) → Calls Try.prog 27 #[.pointer (some ⟨n, 0, none⟩)] w fun e w' => WPost w Y t e w') := fun n w hg => wide96_W n _ Y t w hg hY ht ht2 h
  clear h hY ht ht2
  go_enter Try.func12, Try.ntmps12
  go_wp2_with fail
  refine (big96_any a b c _ ha hb hc).mono ?_
  rintro e w1 ⟨n, rfl, hn, hg, hb1⟩
  have HR1 : Hid (Trio w1 (w.heap.size + 1) (.int .u32 0) (.int .u32 0) (.int .u32 0)) := HR.out.below hb1
  have HB1 : Hid (Below w.heap.size w w1) := HB.out.trans (hb1.mono HB.out.size)
  have HG : Hid (Bg w1 n (big96V a b c)) := hg
  have hnR : w.heap.size + 2 ≤ n := by simp at hn; omega
  have hn1 := hg.ob.lt
  clear hg hb1 hn c0 c1 c2 HT HR HB
  generalize big96V a b c = V at *
  go_wp2_with fail
  refine (newInt_any x _ (by omega)).mono ?_
  rintro e w2 ⟨q, rfl, hq, hg, hb2⟩
  have HR2 : Hid (Trio w2 (w.heap.size + 1) (.int .u32 0) (.int .u32 0) (.int .u32 0)) := HR1.out.below hb2
  have HB2 : Hid (Below w.heap.size w w2) := HB1.out.trans (hb2.mono HB1.out.size)
  have HG2 : Hid (Bg w2 n V) := HG.out.below hb2
  have HQ : Hid (Bg w2 q x) := hg
  have hqn : q ≠ n := by omega
  clear hg hb2 HR1 HB1 HG
  go_wp2_with fail
  refine (Mul_any n n q V x _ HG2.out HQ.out HG2.out.ob hqn hlV hlx).mono ?_
  rintro e w3 ⟨rfl, hg3, hex⟩
  have HR3 : Hid (Trio w3 (w.heap.size + 1) (.int .u32 0) (.int .u32 0) (.int .u32 0)) := HR2.out.ex hex (by omega)
  have HB3 : Hid (Below w.heap.size w w3) := hex.below HB2.out (by omega)
  have HG3 : Hid (Bg w3 n (V * x)) := hg3
  clear hg3 hex HR2 HB2 HG2 HQ
  go_wp2_with fail
  refine (HW.out n _ HG3.out).mono ?_
  rintro e w4 ⟨rfl, hb4⟩
  have R4 := HR3.out.below hb4
  have HB4 : Hid (Below w.heap.size w w4) := HB3.out.trans (hb4.mono HB3.out.size)
  have HR4 : Hid (Trio w4 (w.heap.size + 1) (.int .u32 0) (.int .u32 0) (.int .u32 0)) := R4
  have r0 := R4.c0
  have r1 := R4.c1
  have r2 := R4.c2
  have g0 := R4.free 0
  have g1 := R4.free 1
  have g2 := R4.free 2
  clear R4 hb4 HR3 HB3 HG3 HW
  go_wp2_with fail
  have RR := HR4.out.put (.int .u32 Y.a) (.int .u32 Y.b) (.int .u32 Y.c)
  refine bodyPost_ret (v := .tuple #[.agg #[.int .u32 Y.a, .int .u32 Y.b, .int .u32 Y.c], .int .u32 t]) (by simp [results, Try.results12, RR.c0, RR.c1, RR.c2, go_sem]) rfl ⟨rfl, below_put3 HB4.out _ _ _ _ (by omega)⟩

end Go.Proofs.Ytopbiamlmdpphaa.words
