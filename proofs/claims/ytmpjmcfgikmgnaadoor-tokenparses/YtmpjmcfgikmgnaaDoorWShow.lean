/- What words.Show gives back. -/
import Derived.Test.YtmpjmcfgikmgnaaDoorOver
import Derived.Test.YtmpjmcfgikmgnaaDoorEq3
import Derived.Test.YtmpjmcfgikmgnaaDoorDec10
import Derived.Laws.BytesString
import Derived.Laws.Cells
namespace Go.Proofs.YtmpjmcfgikmgnaaDoor.words
open Go.RowKit

/-- Twenty-nine bytes lie in block D. -/
def Dg (w : World) (D : Nat) (d : Nat → Int) : Prop := w.heap[D]? = some (.cells ((List.range 29).map fun i => Value.int .u8 (d i)).toArray 90 (0, 0))

variable {w w' : World} {D : Nat} {d : Nat → Int}
theorem Dg.cell (h : Dg w D d) {i : Nat} (hi : i < 29) : w.cell? ⟨D, i, none⟩ = some (.int .u8 (d i)) := by unfold Dg at h; simp [World.cell?, h, hi]
theorem Dg.free (h : Dg w D d) (i : Nat) : w.frozen? ⟨D, i, none⟩ = false := by unfold Dg at h; simp [World.frozen?, h]
theorem Dg.lt (h : Dg w D d) : D < w.heap.size := by
  by_cases hh : D < w.heap.size
  · exact hh
  · unfold Dg at h; rw [Array.getElem?_eq_none (by omega)] at h; cases h
theorem Dg.below (h : Dg w D d) (hb : Below w.heap.size w w') : Dg w' D d := by
  have hlt := h.lt
  unfold Dg at *
  rw [hb.block D hlt]; exact h
theorem Dg.other (h : Dg w D d) {G : Nat} (i : Nat) (u : Value) (hne : G ≠ D) : Dg (w.setCell ⟨G, i, none⟩ u) D d := by
  unfold Dg at *; simp only [World.setCell, Array.getElem?_modify]; rw [if_neg hne]; exact h
def updd (d : Nat → Int) (i : Nat) (v : Int) : Nat → Int := fun k => if k = i then v else d k
theorem Dg.set (h : Dg w D d) (i : Nat) (v : Int) : Dg (w.setCell ⟨D, i, none⟩ (.int .u8 v)) D (updd d i v) := by
  unfold Dg at *
  simp only [World.setCell, Array.getElem?_modify, h, if_true, Option.map_some]
  congr 2
  simp only [Option.isSome_none, Bool.false_eq_true, if_false]
  apply Array.ext'
  simp only [Array.toList_setIfInBounds]
  apply List.ext_getElem?
  intro k
  by_cases hk : k < 29
  · by_cases e : k = i
    · subst e; simp [updd, hk]
    · rw [List.getElem?_set_ne (by omega)]; simp [updd, hk, e]
  · rw [List.getElem?_eq_none (by simp; omega), List.getElem?_eq_none (by simp; omega)]

/-- The last t of them. -/
def dsOf (d : Nat → Int) (t : Nat) : List Int := (List.range t).map fun i => d (29 - t + i)
theorem dsOf_len (d : Nat → Int) (t : Nat) : (dsOf d t).length = t := by simp [dsOf]
theorem dsOf_upd (d : Nat → Int) (t : Nat) (v : Int) (ht : t < 29) : dsOf (updd d (28 - t) v) (t + 1) = v :: dsOf d t := by
  unfold dsOf
  rw [List.range_succ_eq_map, List.map_cons, List.map_map]
  congr 1
  · simp [updd]
  · apply List.map_congr_left
    intro i hi
    simp [updd]
    congr 1
    omega

theorem dg_new (w : World) (o : Obj) : Dg ((w.alloc o).alloc (.cells ((List.range 29).map fun _ => Value.int .u8 0).toArray 90)) (w.heap.size + 1) (fun _ => 0) := by
  show ((w.heap.push o).push _)[w.heap.size + 1]? = _
  have : w.heap.size + 1 = (w.heap.push o).size := by simp
  rw [this, Array.getElem?_push_size]

/-- What the digits so far, and the rest of the number, make. -/
def ShowInv (V : Nat) (X : W3) (d : Nat → Int) (t : Nat) : Prop :=
  (t = 0 ∧ X.val = V) ∨ (0 < t ∧ X.val = 0 ∧ decL V = dsOf d t) ∨ (0 < t ∧ 0 < X.val ∧ decL V = decL X.val.toNat ++ dsOf d t)

theorem show_more {V : Nat} {X : W3} {d : Nat → Int} {t : Nat} (hV : (V : Int) < top) (h : ShowInv V X d t) (hgo : t = 0 ∨ 0 < X.val) (hX : X.ok) :
    t < 29 ∧ ShowInv V (overW X 10) (updd d (28 - t) (48 + overR X 10)) (t + 1) := by
  have hv := over_val X 10
  have hr := over_left (w := X) 10 (by omega)
  have hq := (W3.bd (over_ok hX (d := 10) (by omega))).1
  have hlen := decL_len29 V hV
  have ht : t < 29 := by
    rcases h with ⟨h1, _⟩ | ⟨h1, h2, h3⟩ | ⟨h1, h2, h3⟩
    · omega
    · omega
    · rw [h3, List.length_append, dsOf_len] at hlen
      have h5 : 1 ≤ (decL X.val.toNat).length := (decL_len29 _ (by have := (W3.bd hX).2; omega)).1
      omega
  refine ⟨ht, ?_⟩
  have hn : decL V = decL X.val.toNat ++ dsOf d t := by
    rcases h with ⟨h1, h2⟩ | ⟨h1, h2, h3⟩ | ⟨_, _, h3⟩
    · subst h1; rw [h2]; simp [dsOf]
    · omega
    · exact h3
  have hds := dsOf_upd d t (48 + overR X 10) ht
  by_cases h10 : X.val < 10
  · right; left
    have e0 : (overW X 10).val = 0 := by omega
    have e1 : overR X 10 = X.val := by omega
    refine ⟨by omega, e0, ?_⟩
    rw [hn, hds, decL_one (by omega), e1]
    have hx0 := (W3.bd hX).1
    rw [show ((X.val.toNat : Nat) : Int) = X.val by omega]
    rfl
  · right; right
    refine ⟨by omega, by omega, ?_⟩
    rw [hn, hds, decL_more (by omega)]
    have e1 : X.val.toNat / 10 = (overW X 10).val.toNat := by omega
    have e2 : ((X.val.toNat % 10 : Nat) : Int) = overR X 10 := by omega
    rw [e1, e2, List.append_assoc]
    rfl

theorem zero_iff {X : W3} (hX : X.ok) : X.val = 0 ↔ X = ⟨0, 0, 0⟩ := by
  obtain ⟨⟨h1, _⟩, ⟨h2, _⟩, h3, _⟩ := hX
  constructor
  · intro h
    unfold W3.val at h
    obtain ⟨a, b, c⟩ := X
    simp only at *
    have : a = 0 := by omega
    have : b = 0 := by omega
    have : c = 0 := by omega
    subst_vars; rfl
  · intro h; rw [h]; rfl

/-- A text of these bytes. -/
def strOf (ns : List Int) : ByteArray := ns.foldl (fun r n => r.push (UInt8.ofNat n.toNat)) ByteArray.empty

theorem conv_ds (w : World) (D : Nat) (d : Nat → Int) (t : Nat) (ht : t ≤ 29) (h : Dg w D d) :
    (convert 91 9 (.slice (some ⟨D, 29 - t, none⟩) t t)).run Tryd.prog w = .ok (.string (strOf (dsOf d t))) w := by
  rw [run_convert_bytes_string _ _ _ _ _ _ _ Tryd.underlying91 Tryd.underlying5 Tryd.underlying9, run_bytesToString _ _ _ _ (dsOf d t)]
  · rfl
  · have := run_loadCells (P := Tryd.prog) w ⟨D, 29 - t, none⟩ t (fun i => .int .u8 (d (29 - t + i))) (fun j hj => by rw [Addr.add_lit]; exact h.cell (by omega))
    rw [this]
    congr 2
    simp [dsOf]

theorem slice_ds (D t : Nat) (w : World) (h0 : 0 < t) (h1 : t ≤ 29) :
    (Instr.sliceAt 90 (.pointer (some ⟨D, 0, none⟩)) (some (.int .i64 ((29 - t : Nat) : Int))) none none).run Tryd.prog w = .ok (.slice (some ⟨D, 29 - t, none⟩) t t) w := by
  have e2 : 29 - (29 - t) = t := by omega
  simp [Instr.sliceAt, Instr.sliceBounds, Instr.sliceBound, asIntOf, run_underlying Tryd.underlying90, go_sem, e2]
  omega

set_option maxHeartbeats 1000000 in
theorem show_any (x : W3) (w : World) (hx : x.ok) :
    Calls Tryd.prog 25 #[wv x] w fun e w' => e = .returned (.string (strOf (decL x.val.toNat))) ∧ Below w.heap.size w w' := by
  have hxb := W3.bd hx
  have HX : Hid (x.ok) := hx
  have HB0 : Hid (∀ o1 o2 : Obj, Below w.heap.size w ((w.alloc o1).alloc o2)) := fun o1 o2 => bel2 w o1 o2
  clear hx
  go_enter Tryd.func25, Tryd.ntmps25
  go_wp2_with fail
  go_loopw [4] (fun v wr => ∃ (t : Nat) (X : W3) (d : Nat → Int), t ≤ 29 ∧ v = .int .i64 ((29 - t : Nat) : Int) ∧ X.ok ∧ Wat wr w.heap.size X ∧ Dg wr (w.heap.size + 1) d ∧ Below w.heap.size w wr ∧ ShowInv x.val.toNat X d t) (fun v _ => (intOf v).toNat)
  case atStart => exact ⟨0, x, fun _ => 0, by omega, rfl, HX.out, trio_a _ _ _ _ _, dg_new _ _, bel2 _ _ _, .inl ⟨rfl, by omega⟩⟩
  case round =>
    obtain ⟨t, X, d, ht, rfl, hX, hT, hD, hb, hi⟩ := hrel
    by_cases hgo : t = 0 ∨ 0 < X.val
    · obtain ⟨ht29, hm⟩ := show_more (by omega) hi hgo hX
      have HM : Hid (ShowInv x.val.toNat (overW X 10) (updd d (28 - t) (48 + overR X 10)) (t + 1)) := hm
      have hz := (zero_iff hX)
      have HT : Hid (Wat wr w.heap.size X) := hT
      have HD : Hid (Dg wr (w.heap.size + 1) d) := hD
      have HB : Hid (Below w.heap.size w wr) := hb
      have c0 := hT.c0
      have c1 := hT.c1
      have c2 := hT.c2
      clear hT hD hb hi hm
      have e28 : ((29 - t : Nat) : Int) - 1 = ((28 - t : Nat) : Int) := by omega
      have g29 : 28 - t < 29 := by omega
      have HG : Hid (29 - (t + 1) = 28 - t) := (by omega : 29 - (t + 1) = 28 - t)
      by_cases h0 : t = 0
      · have e29 : (((29 - t : Nat) : Int) == 29) = true := by simp; omega
        have f29 : ((29 - t : Nat) : Int) ≤ 29 := by omega
        clear hgo hz ht
        generalize 29 - t = f at *
        generalize 28 - t = g at *
        go_wp2_with fail
        refine (over_any X 10 _ hX (by omega) (by omega)).mono ?_
        rintro e w2 ⟨rfl, hb2⟩
        have hQ := over_ok hX (d := 10) (by omega)
        have hr := over_left (w := X) 10 (by omega)
        have T2 := HT.out.below hb2
        have D2 := HD.out.below hb2
        have B2 := HB.out.trans (hb2.mono HB.out.size)
        clear hb2 HT HD HB c0 c1 c2
        generalize overW X 10 = Q at *
        generalize overR X 10 = r at *
        have c0 := T2.c0
        have c1 := T2.c1
        have c2 := T2.c2
        have f0 := T2.free 0
        have f1 := T2.free 1
        have f2 := T2.free 2
        have T3 := T2.put (.int .u32 Q.a) (.int .u32 Q.b) (.int .u32 Q.c)
        have D3 := ((D2.other (G := w.heap.size) 0 (.int .u32 Q.a) (by omega)).other (G := w.heap.size) 1 (.int .u32 Q.b) (by omega)).other (G := w.heap.size) 2 (.int .u32 Q.c) (by omega)
        have B3 := below_put3 B2 w.heap.size (.int .u32 Q.a) (.int .u32 Q.b) (.int .u32 Q.c) (Nat.le_refl _)
        have d1 := D3.cell (i := g) (by omega)
        have d2 := D3.free g
        have HT : Hid (Wat ((put3 w2 w.heap.size (.int .u32 Q.a) (.int .u32 Q.b) (.int .u32 Q.c)).setCell ⟨w.heap.size + 1, g, none⟩ (.int .u8 (48 + r))) w.heap.size Q) := T3.other _ _ (by omega)
        have HD : Hid (Dg ((put3 w2 w.heap.size (.int .u32 Q.a) (.int .u32 Q.b) (.int .u32 Q.c)).setCell ⟨w.heap.size + 1, g, none⟩ (.int .u8 (48 + r))) (w.heap.size + 1) (updd d g (48 + r))) := D3.set _ _
        have HB : Hid (Below w.heap.size w ((put3 w2 w.heap.size (.int .u32 Q.a) (.int .u32 Q.b) (.int .u32 Q.c)).setCell ⟨w.heap.size + 1, g, none⟩ (.int .u8 (48 + r)))) := below_set B3 _ _ _ (by omega)
        clear T2 D2 B2 T3 D3 B3
        obtain ⟨r0, r1⟩ := hr
        generalize d g = dd at *
        go_wp2_with fail
        go_roundw
        case rel => exact ⟨t + 1, Q, _, by omega, by rw [HG.out], hQ, HT.out, HD.out, HB.out, HM.out⟩
        case measure => simp [intOf]; omega
      · have hne : X ≠ ⟨0, 0, 0⟩ := fun e => by have := hz.2 e; omega
        have q := eq3_other hne
        have e29 : (((29 - t : Nat) : Int) == 29) = false := by simp; omega
        have f29 : ((29 - t : Nat) : Int) ≤ 29 := by omega
        clear hgo hz
        generalize 29 - t = f at *
        generalize 28 - t = g at *
        go_wp2_with fail
        refine (over_any X 10 _ hX (by omega) (by omega)).mono ?_
        rintro e w2 ⟨rfl, hb2⟩
        have hQ := over_ok hX (d := 10) (by omega)
        have hr := over_left (w := X) 10 (by omega)
        have T2 := HT.out.below hb2
        have D2 := HD.out.below hb2
        have B2 := HB.out.trans (hb2.mono HB.out.size)
        clear hb2 HT HD HB c0 c1 c2
        generalize overW X 10 = Q at *
        generalize overR X 10 = r at *
        have c0 := T2.c0
        have c1 := T2.c1
        have c2 := T2.c2
        have f0 := T2.free 0
        have f1 := T2.free 1
        have f2 := T2.free 2
        have T3 := T2.put (.int .u32 Q.a) (.int .u32 Q.b) (.int .u32 Q.c)
        have D3 := ((D2.other (G := w.heap.size) 0 (.int .u32 Q.a) (by omega)).other (G := w.heap.size) 1 (.int .u32 Q.b) (by omega)).other (G := w.heap.size) 2 (.int .u32 Q.c) (by omega)
        have B3 := below_put3 B2 w.heap.size (.int .u32 Q.a) (.int .u32 Q.b) (.int .u32 Q.c) (Nat.le_refl _)
        have d1 := D3.cell (i := g) (by omega)
        have d2 := D3.free g
        have HT : Hid (Wat ((put3 w2 w.heap.size (.int .u32 Q.a) (.int .u32 Q.b) (.int .u32 Q.c)).setCell ⟨w.heap.size + 1, g, none⟩ (.int .u8 (48 + r))) w.heap.size Q) := T3.other _ _ (by omega)
        have HD : Hid (Dg ((put3 w2 w.heap.size (.int .u32 Q.a) (.int .u32 Q.b) (.int .u32 Q.c)).setCell ⟨w.heap.size + 1, g, none⟩ (.int .u8 (48 + r))) (w.heap.size + 1) (updd d g (48 + r))) := D3.set _ _
        have HB : Hid (Below w.heap.size w ((put3 w2 w.heap.size (.int .u32 Q.a) (.int .u32 Q.b) (.int .u32 Q.c)).setCell ⟨w.heap.size + 1, g, none⟩ (.int .u8 (48 + r)))) := below_set B3 _ _ _ (by omega)
        clear T2 D2 B2 T3 D3 B3
        obtain ⟨r0, r1⟩ := hr
        generalize d g = dd at *
        go_wp2_with fail
        go_roundw
        case rel => exact ⟨t + 1, Q, _, by omega, by rw [HG.out], hQ, HT.out, HD.out, HB.out, HM.out⟩
        case measure => simp [intOf]; omega
    · have ht0 : 0 < t := by omega
      have hX0 : X.val = 0 := by have := (W3.bd hX).1; omega
      have hXz := (zero_iff hX).1 hX0
      have hfin : decL x.val.toNat = dsOf d t := by
        rcases hi with h | ⟨_, _, h⟩ | h
        · omega
        · exact h
        · omega
      subst hXz
      have c0 := hT.c0
      have c1 := hT.c1
      have c2 := hT.c2
      have q := eq3_same ⟨0, 0, 0⟩
      have e29 : (((29 - t : Nat) : Int) == 29) = false := by simp; omega
      have hsl := slice_ds (w.heap.size + 1) t wr ht0 ht
      have hcv := conv_ds wr (w.heap.size + 1) d t ht hD
      rw [← hfin] at hcv
      have HB : Hid (Below w.heap.size w wr) := hb
      clear hi hgo hX0 hfin hT hD hb hX
      go_wp2_with fail
      go_ret
      exact ⟨rfl, HB.out⟩

end Go.Proofs.YtmpjmcfgikmgnaaDoor.words
