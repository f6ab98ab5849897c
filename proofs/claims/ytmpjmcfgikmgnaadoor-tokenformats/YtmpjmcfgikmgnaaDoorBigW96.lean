/- A number's three words, and what is above them. -/
import Derived.Test.YtmpjmcfgikmgnaaDoorBigMB
namespace Go.Proofs.YtmpjmcfgikmgnaaDoor.words
open Go.RowKit
set_option maxRecDepth 100000

theorem Ru.same {w w' : World} {a : Option Addr} {n cap : Nat} {l : List Nat} (h : Ru w a n cap l) (hs : ∀ b, Ty w b → w'.heap[b]? = w.heap[b]?) : Ru w' a n cap l := by
  refine ⟨h.len, h.lt, h.nil, h.room, ?_, fun b off s e hn => (h.typ b off s e hn).same (hs b (h.typ b off s e hn))⟩
  rcases h.cell with h0 | ⟨b, off, rfl, hc⟩
  · exact .inl h0
  · refine .inr ⟨b, off, rfl, fun i hi => ?_⟩
    rw [World.cell?_of_block (w := w) (a := ⟨b, off + i, none⟩) (hs b (h.typ b off none rfl (by omega)))]
    exact hc i hi
theorem set_block {w : World} {V k : Nat} (i : Nat) (u : Value) (h : k ≠ V) : (w.setCell ⟨V, i, none⟩ u).heap[k]? = w.heap[k]? := by
  simp only [World.setCell, Array.getElem?_modify]
  rw [if_neg (fun e => h e.symm)]
/-- A wide number's variable is written: numbers of any size stand. -/
theorem Bg.setV {w : World} {z m V : Nat} {y0 y1 y2 : Value} (h : Bg w z m) (ht : Trio w V y0 y1 y2) (i : Nat) (u : Value) : Bg (w.setCell ⟨V, i, none⟩ u) z m := by
  obtain ⟨a, n, c, h1, h2⟩ := h
  unfold Trio at ht
  refine ⟨a, n, c, ?_, h2.same fun b hb => set_block i u ?_⟩
  · rw [set_block i u (fun e => by rw [e, ht] at h1; simp at h1)]; exact h1
  · intro e
    obtain ⟨cs, fr, hb⟩ := hb
    rw [e, ht] at hb
    simp at hb

/-- While a number is taken apart: the result's cell R, the variable V, the number Z and the base q. -/
structure W96 (w W : World) (q : Nat) (c0 c1 c2 : Value) (M : Nat) : Prop where
  below : Below w.heap.size w W
  res : Trio W w.heap.size (.int .u32 0) (.int .u32 0) (.int .u32 0)
  var : Trio W (w.heap.size + 1) c0 c1 c2
  num : Bg W (w.heap.size + 2) M
  base : Bg W q 4294967296
variable {w W W' : World} {q M : Nat} {c0 c1 c2 : Value}
theorem W96.alloc (h : W96 w W q c0 c1 c2 M) (o : Obj) : W96 w (W.alloc o) q c0 c1 c2 M :=
  have hb := (Below.refl W.heap.size W).alloc (Nat.le_refl _) o
  ⟨h.below.alloc h.below.size o, h.res.alloc o, h.var.alloc o, h.num.below hb, h.base.below hb⟩
theorem W96.ex (h : W96 w W q c0 c1 c2 M) {P : Nat} (ho : Ob W P) (he : Ex W W' P) (hP : w.heap.size + 3 ≤ P) (hq : q ≠ P) : W96 w W' q c0 c1 c2 M :=
  ⟨he.below h.below (by omega), h.res.ex he (by omega), h.var.ex he (by omega), h.num.ex ho he (by omega), h.base.ex ho he hq⟩
theorem W96.div (h : W96 w W q c0 c1 c2 M) {M' : Nat} (hg : Bg W' (w.heap.size + 2) M') (he : Ex W W' (w.heap.size + 2)) (hq : w.heap.size + 3 ≤ q) : W96 w W' q c0 c1 c2 M' :=
  ⟨he.below h.below (by omega), h.res.ex he (by omega), h.var.ex he (by omega), hg, h.base.ex h.num.ob he (by omega)⟩
theorem W96.set0 (h : W96 w W q c0 c1 c2 M) (u : Value) : W96 w (W.setCell ⟨w.heap.size + 1, 0, none⟩ u) q u c1 c2 M :=
  ⟨below_set h.below _ _ _ (by omega), h.res.other 0 u (by omega), h.var.set0 u, h.num.setV h.var 0 u, h.base.setV h.var 0 u⟩
theorem W96.set1 (h : W96 w W q c0 c1 c2 M) (u : Value) : W96 w (W.setCell ⟨w.heap.size + 1, 1, none⟩ u) q c0 u c2 M :=
  ⟨below_set h.below _ _ _ (by omega), h.res.other 1 u (by omega), h.var.set1 u, h.num.setV h.var 1 u, h.base.setV h.var 1 u⟩
theorem W96.set2 (h : W96 w W q c0 c1 c2 M) (u : Value) : W96 w (W.setCell ⟨w.heap.size + 1, 2, none⟩ u) q c0 c1 u M :=
  ⟨below_set h.below _ _ _ (by omega), h.res.other 2 u (by omega), h.var.set2 u, h.num.setV h.var 2 u, h.base.setV h.var 2 u⟩

/-- Three words and what is above them were given back. -/
def WidePost (w : World) (x y z t : Nat) (e : Ending) (w' : World) : Prop := e = .returned (.tuple #[.agg #[.int .u32 (x : Int), .int .u32 (y : Int), .int .u32 (z : Int)], .int .u32 (t : Int)]) ∧ Below w.heap.size w w'

set_option maxHeartbeats 4000000 in
theorem wide96_abs (n m r0 m1 r1 m2 r2 m3 : Nat) (w : World) (hg : Bg w n m)
    (HE : Hid (m % 4294967296 = r0 ∧ m / 4294967296 = m1 ∧ m1 % 4294967296 = r1 ∧ m1 / 4294967296 = m2 ∧ m2 % 4294967296 = r2 ∧ m2 / 4294967296 = m3))
    (b0 : r0 < 4294967296) (b1 : r1 < 4294967296) (b2 : r2 < 4294967296) (b3 : m3 < 4294967296)
    (HL : Hid ((dig m).length ≤ 60 ∧ (dig m1).length ≤ 60 ∧ (dig m2).length ≤ 60)) :
    Calls Tryd.prog 23 #[.pointer (some ⟨n, 0, none⟩)] w fun e w' => WidePost w r0 r1 r2 m3 e w' := by
  have hnl := hg.ob.lt
  have hba : Below w.heap.size w (((w.alloc (.cells #[.int .u32 0, .int .u32 0, .int .u32 0] 30)).alloc (.cells #[.int .u32 0, .int .u32 0, .int .u32 0] 30)).alloc (.cells #[.bool false, .slice none 0 0] 61)) := bel3 _ _ _ _
  have HG : Hid (Bg (((w.alloc (.cells #[.int .u32 0, .int .u32 0, .int .u32 0] 30)).alloc (.cells #[.int .u32 0, .int .u32 0, .int .u32 0] 30)).alloc (.cells #[.bool false, .slice none 0 0] 61)) n m) := hg.below hba
  have HO : Hid (Ob (((w.alloc (.cells #[.int .u32 0, .int .u32 0, .int .u32 0] 30)).alloc (.cells #[.int .u32 0, .int .u32 0, .int .u32 0] 30)).alloc (.cells #[.bool false, .slice none 0 0] 61)) (w.heap.size + 2)) := by
    show Ob _ _
    have := ob_new ((w.alloc (.cells #[.int .u32 0, .int .u32 0, .int .u32 0] 30)).alloc (.cells #[.int .u32 0, .int .u32 0, .int .u32 0] 30))
    simpa using this
  have HR : Hid (Trio (((w.alloc (.cells #[.int .u32 0, .int .u32 0, .int .u32 0] 30)).alloc (.cells #[.int .u32 0, .int .u32 0, .int .u32 0] 30)).alloc (.cells #[.bool false, .slice none 0 0] 61)) w.heap.size (.int .u32 0) (.int .u32 0) (.int .u32 0)) := ((trio_new _ _ _ _).alloc _).alloc _
  have HV : Hid (Trio (((w.alloc (.cells #[.int .u32 0, .int .u32 0, .int .u32 0] 30)).alloc (.cells #[.int .u32 0, .int .u32 0, .int .u32 0] 30)).alloc (.cells #[.bool false, .slice none 0 0] 61)) (w.heap.size + 1) (.int .u32 0) (.int .u32 0) (.int .u32 0)) := (trio_b _ _ _ _ _).alloc _
  have HB : Hid (Below w.heap.size w (((w.alloc (.cells #[.int .u32 0, .int .u32 0, .int .u32 0] 30)).alloc (.cells #[.int .u32 0, .int .u32 0, .int .u32 0] 30)).alloc (.cells #[.bool false, .slice none 0 0] 61))) := hba
  have hsz : (((w.alloc (.cells #[.int .u32 0, .int .u32 0, .int .u32 0] 30)).alloc (.cells #[.int .u32 0, .int .u32 0, .int .u32 0] 30)).alloc (.cells #[.bool false, .slice none 0 0] 61)).heap.size = w.heap.size + 3 := by simp
  clear hg hba
  go_enter Tryd.func23, Tryd.ntmps23
  go_wp2_with fail
  generalize hW : (((w.alloc (.cells #[.int .u32 0, .int .u32 0, .int .u32 0] 30)).alloc (.cells #[.int .u32 0, .int .u32 0, .int .u32 0] 30)).alloc (.cells #[.bool false, .slice none 0 0] 61)) = W at *
  clear hW
  refine (Set_any (w.heap.size + 2) n m _ HG.out HO.out (by omega) (by have := HL.out.1; omega)).mono ?_
  rintro e W1 ⟨rfl, hg1, hex⟩
  have hs1 := hex.size
  have HB1 : Hid (Below w.heap.size w W1) := hex.below HB.out (by omega)
  have HR1 : Hid (Trio W1 w.heap.size (.int .u32 0) (.int .u32 0) (.int .u32 0)) := HR.out.ex hex (by omega)
  have HV1 : Hid (Trio W1 (w.heap.size + 1) (.int .u32 0) (.int .u32 0) (.int .u32 0)) := HV.out.ex hex (by omega)
  have HG1 : Hid (Bg W1 (w.heap.size + 2) m) := hg1
  clear hex hg1 HB HR HV HG HO
  go_wp2_with fail
  refine (newInt_any 4294967296 _ (by decide)).mono ?_
  rintro e W2 ⟨q, rfl, hq, hgq, hb2⟩
  have hq3 : w.heap.size + 3 ≤ q := by omega
  have H : Hid (W96 w W2 q (.int .u32 0) (.int .u32 0) (.int .u32 0) m) := ⟨HB1.out.trans (hb2.mono HB1.out.size), HR1.out.below hb2, HV1.out.below hb2, HG1.out.below hb2, hgq⟩
  have hs2 : w.heap.size + 3 ≤ W2.heap.size := by have := hb2.size; omega
  clear hb2 hgq hq HB1 HR1 HV1 HG1 hs1 hsz
  generalize hWW : W2 = W at *
  clear hWW
  go_wp2_with fail
  refine wp_loop_rounds 4 ?_
  rw [rounds_succ]
  have A : Hid (W96 w (W.alloc (.cells #[.bool false, .slice none 0 0] 61)) q (.int .u32 0) (.int .u32 0) (.int .u32 0) m) := H.out.alloc _
  have OP : Hid (Ob (W.alloc (.cells #[.bool false, .slice none 0 0] 61)) W.heap.size) := ob_new W
  have hqW : q < W.heap.size := H.out.base.ob.lt
  clear H
  go_wp2_with fail
  refine (Mod_base W.heap.size (w.heap.size + 2) q m _ A.out.num A.out.base OP.out HL.out.1).mono ?_
  rintro e W3 ⟨rfl, hgp, hex⟩
  rw [HE.out.1] at hgp
  have hs3 := hex.size
  have h3 := A.out.ex OP.out hex hs2 (by omega)
  have HGP : Hid (Bg W3 W.heap.size r0) := hgp
  have v0 := h3.var.c0
  have f0 := h3.var.free 0
  have H3 : Hid (W96 w W3 q (.int .u32 0) (.int .u32 0) (.int .u32 0) m) := h3
  have hs3' : w.heap.size + 3 ≤ W3.heap.size := by simp at hs3; omega
  clear hgp hex h3 A OP hs3
  go_wp2_with fail
  refine (uint64_any W.heap.size r0 _ HGP.out (by omega)).mono ?_
  rintro e W4 ⟨rfl, rfl⟩
  have H4 : Hid (W96 w (W4.setCell ⟨w.heap.size + 1, 0, none⟩ (.int .u32 (r0 : Int))) q (.int .u32 (r0 : Int)) (.int .u32 0) (.int .u32 0) m) := H3.out.set0 _
  have hs4 : w.heap.size + 3 ≤ (W4.setCell ⟨w.heap.size + 1, 0, none⟩ (.int .u32 (r0 : Int))).heap.size := by simp [World.setCell]; omega
  clear HGP H3
  go_wp2_with fail
  clear v0 f0
  generalize hWS : W4.setCell ⟨w.heap.size + 1, 0, none⟩ (.int .u32 (r0 : Int)) = WS at *
  clear hWS
  refine (Div_base (w.heap.size + 2) (w.heap.size + 2) q m _ H4.out.num H4.out.base H4.out.num.ob HL.out.1).mono ?_
  rintro e W ⟨rfl, hgz, hex⟩
  rw [HE.out.2.1] at hgz
  have hs5 := hex.size
  have H : Hid (W96 w W q (.int .u32 (r0 : Int)) (.int .u32 0) (.int .u32 0) m1) := H4.out.div hgz hex hq3
  have hs2 : w.heap.size + 3 ≤ W.heap.size := by omega
  clear hgz hex H4 hs5 hs4 hs3' hqW
  go_wp2_with fail
  rw [rounds_succ]
  have A : Hid (W96 w (W.alloc (.cells #[.bool false, .slice none 0 0] 61)) q (.int .u32 (r0 : Int)) (.int .u32 0) (.int .u32 0) m1) := H.out.alloc _
  have OP : Hid (Ob (W.alloc (.cells #[.bool false, .slice none 0 0] 61)) W.heap.size) := ob_new W
  have hqW : q < W.heap.size := H.out.base.ob.lt
  clear H
  go_wp2_with fail
  refine (Mod_base W.heap.size (w.heap.size + 2) q m1 _ A.out.num A.out.base OP.out HL.out.2.1).mono ?_
  rintro e W3 ⟨rfl, hgp, hex⟩
  rw [HE.out.2.2.1] at hgp
  have hs3 := hex.size
  have h3 := A.out.ex OP.out hex hs2 (by omega)
  have HGP : Hid (Bg W3 W.heap.size r1) := hgp
  have v0 := h3.var.c1
  have f0 := h3.var.free 1
  have H3 : Hid (W96 w W3 q (.int .u32 (r0 : Int)) (.int .u32 0) (.int .u32 0) m1) := h3
  have hs3' : w.heap.size + 3 ≤ W3.heap.size := by simp at hs3; omega
  clear hgp hex h3 A OP hs3
  go_wp2_with fail
  refine (uint64_any W.heap.size r1 _ HGP.out (by omega)).mono ?_
  rintro e W4 ⟨rfl, rfl⟩
  have H4 : Hid (W96 w (W4.setCell ⟨w.heap.size + 1, 1, none⟩ (.int .u32 (r1 : Int))) q (.int .u32 (r0 : Int)) (.int .u32 (r1 : Int)) (.int .u32 0) m1) := H3.out.set1 _
  have hs4 : w.heap.size + 3 ≤ (W4.setCell ⟨w.heap.size + 1, 1, none⟩ (.int .u32 (r1 : Int))).heap.size := by simp [World.setCell]; omega
  clear HGP H3
  go_wp2_with fail
  clear v0 f0
  generalize hWS : W4.setCell ⟨w.heap.size + 1, 1, none⟩ (.int .u32 (r1 : Int)) = WS at *
  clear hWS
  refine (Div_base (w.heap.size + 2) (w.heap.size + 2) q m1 _ H4.out.num H4.out.base H4.out.num.ob HL.out.2.1).mono ?_
  rintro e W ⟨rfl, hgz, hex⟩
  rw [HE.out.2.2.2.1] at hgz
  have hs5 := hex.size
  have H : Hid (W96 w W q (.int .u32 (r0 : Int)) (.int .u32 (r1 : Int)) (.int .u32 0) m2) := H4.out.div hgz hex hq3
  have hs2 : w.heap.size + 3 ≤ W.heap.size := by omega
  clear hgz hex H4 hs5 hs4 hs3' hqW
  go_wp2_with fail
  rw [rounds_succ]
  have A : Hid (W96 w (W.alloc (.cells #[.bool false, .slice none 0 0] 61)) q (.int .u32 (r0 : Int)) (.int .u32 (r1 : Int)) (.int .u32 0) m2) := H.out.alloc _
  have OP : Hid (Ob (W.alloc (.cells #[.bool false, .slice none 0 0] 61)) W.heap.size) := ob_new W
  have hqW : q < W.heap.size := H.out.base.ob.lt
  clear H
  go_wp2_with fail
  refine (Mod_base W.heap.size (w.heap.size + 2) q m2 _ A.out.num A.out.base OP.out HL.out.2.2).mono ?_
  rintro e W3 ⟨rfl, hgp, hex⟩
  rw [HE.out.2.2.2.2.1] at hgp
  have hs3 := hex.size
  have h3 := A.out.ex OP.out hex hs2 (by omega)
  have HGP : Hid (Bg W3 W.heap.size r2) := hgp
  have v0 := h3.var.c2
  have f0 := h3.var.free 2
  have H3 : Hid (W96 w W3 q (.int .u32 (r0 : Int)) (.int .u32 (r1 : Int)) (.int .u32 0) m2) := h3
  have hs3' : w.heap.size + 3 ≤ W3.heap.size := by simp at hs3; omega
  clear hgp hex h3 A OP hs3
  go_wp2_with fail
  refine (uint64_any W.heap.size r2 _ HGP.out (by omega)).mono ?_
  rintro e W4 ⟨rfl, rfl⟩
  have H4 : Hid (W96 w (W4.setCell ⟨w.heap.size + 1, 2, none⟩ (.int .u32 (r2 : Int))) q (.int .u32 (r0 : Int)) (.int .u32 (r1 : Int)) (.int .u32 (r2 : Int)) m2) := H3.out.set2 _
  have hs4 : w.heap.size + 3 ≤ (W4.setCell ⟨w.heap.size + 1, 2, none⟩ (.int .u32 (r2 : Int))).heap.size := by simp [World.setCell]; omega
  clear HGP H3
  go_wp2_with fail
  clear v0 f0
  generalize hWS : W4.setCell ⟨w.heap.size + 1, 2, none⟩ (.int .u32 (r2 : Int)) = WS at *
  clear hWS
  refine (Div_base (w.heap.size + 2) (w.heap.size + 2) q m2 _ H4.out.num H4.out.base H4.out.num.ob HL.out.2.2).mono ?_
  rintro e W ⟨rfl, hgz, hex⟩
  rw [HE.out.2.2.2.2.2] at hgz
  have hs5 := hex.size
  have H : Hid (W96 w W q (.int .u32 (r0 : Int)) (.int .u32 (r1 : Int)) (.int .u32 (r2 : Int)) m3) := H4.out.div hgz hex hq3
  have hs2 : w.heap.size + 3 ≤ W.heap.size := by omega
  clear hgz hex H4 hs5 hs4 hs3' hqW
  go_wp2_with fail
  rw [rounds_succ]
  have HU : Hid (∀ w', Bg w' (w.heap.size + 2) m3 → Calls Tryd.prog 52 #[.pointer (some ⟨w.heap.size + 2, 0, none⟩)] w' fun e w'' => e = .returned (.int .u64 (m3 : Int)) ∧ w'' = w') := fun w' hg => uint64_any _ m3 w' hg (by omega)
  have v0 := H.out.var.c0
  have v1 := H.out.var.c1
  have v2 := H.out.var.c2
  have r0c := H.out.res.c0
  have r1c := H.out.res.c1
  have r2c := H.out.res.c2
  have g0 := H.out.res.free 0
  have g1 := H.out.res.free 1
  have g2 := H.out.res.free 2
  have HN : Hid (∀ k, Bg (W.drewN k) (w.heap.size + 2) m3) := fun k => H.out.num.below (below_drewN (Below.refl _ W) k)
  have HFIN : Hid (∀ k, Trio (put3 (W.drewN k) w.heap.size (.int .u32 (r0 : Int)) (.int .u32 (r1 : Int)) (.int .u32 (r2 : Int))) w.heap.size (.int .u32 (r0 : Int)) (.int .u32 (r1 : Int)) (.int .u32 (r2 : Int)) ∧ Below w.heap.size w (put3 (W.drewN k) w.heap.size (.int .u32 (r0 : Int)) (.int .u32 (r1 : Int)) (.int .u32 (r2 : Int)))) := fun k =>
    ⟨Trio.put (w := W.drewN k) H.out.res _ _ _, below_put3 (below_drewN H.out.below k) _ _ _ _ (Nat.le_refl _)⟩
  have hm3 : (m3 : Int) < 4294967296 := by omega
  have hwr : IntKind.u32.wrap (m3 : Int) = (m3 : Int) := by rw [wrap_u32]; omega
  clear H HE HL b0 b1 b2 b3 hs2 hq3 hnl
  go_wp2_with fail
  go_region_with (go_at_call 52; refine (HU.out _ (HN.out _)).mono ?_; rintro e w' ⟨rfl, rfl⟩)
  all_goals go_wp2_with fail
  all_goals
    have RR := (HFIN.out 1).1
    refine bodyPost_ret (v := .tuple #[.agg #[.int .u32 (r0 : Int), .int .u32 (r1 : Int), .int .u32 (r2 : Int)], .int .u32 (m3 : Int)]) (by simp [results, Act.put, Tryd.results23, RR.c0, RR.c1, RR.c2, go_sem]) rfl ⟨rfl, (HFIN.out 1).2⟩

end Go.Proofs.YtmpjmcfgikmgnaaDoor.words
