import Derived.Test.YtgipkpkjoicehabDoorJPocketBurns1
import Derived.Test.YtgipkpkjoicehabDoorDec10
import Derived.Laws.BytesString
import Derived.Laws.Cells
import Derived.Test.YtgipkpkjoicehabDoorJPocketBurns2
import Derived.Lib.Strings
import Derived.Test.YtgipkpkjoicehabDoorMpT
import Derived.Test.YtgipkpkjoicehabDoorCkPick
import Derived.Test.YtgipkpkjoicehabDoorCallFirst
import Derived.Test.YtgipkpkjoicehabDoorOpAt

/- What words.Show gives back. -/
namespace Go.Proofs.YtgipkpkjoicehabDoor.words
open Go.RowKit

/-- Twenty-nine bytes lie in block D. -/
def Dg (w : World) (D : Nat) (d : Nat → Int) : Prop := w.heap[D]? = some (.cells ((List.range 29).map fun i => Value.int .u8 (d i)).toArray 118 (0, 0))

variable {w w' : World} {D : Nat} {d : Nat → Int}
theorem Dg.cell (h : Dg w D d) {i : Nat} (hi : i < 29) : w.cell? ⟨D, i, none⟩ = some (.int .u8 (d i)) := by unfold Dg at h; simp [World.cell?, h, hi]
theorem Dg.free (h : Dg w D d) (i : Nat) : w.frozen? ⟨D, i, none⟩ = false := by unfold Dg at h; simp [World.frozen?, h]
theorem Dg.lt (h : Dg w D d) : D < w.heap.size := by
  by_cases hh : D < w.heap.size
  · exact hh
  · unfold Dg at h; rw [Array.getElem?_eq_none (by omega)] at h; cases h
theorem Dg.below (h : Dg w D d) (hb : Below w.heap.size w w') : Dg w' D d := by
  have hlt := h.lt
  unfold Dg at *
  rw [hb.block D hlt]; exact h
theorem Dg.other (h : Dg w D d) {G : Nat} (i : Nat) (u : Value) (hne : G ≠ D) : Dg (w.setCell ⟨G, i, none⟩ u) D d := by
  unfold Dg at *; simp only [World.setCell, Array.getElem?_modify]; rw [if_neg hne]; exact h
def updd (d : Nat → Int) (i : Nat) (v : Int) : Nat → Int := fun k => if k = i then v else d k
theorem Dg.set (h : Dg w D d) (i : Nat) (v : Int) : Dg (w.setCell ⟨D, i, none⟩ (.int .u8 v)) D (updd d i v) := by
  unfold Dg at *
  simp only [World.setCell, Array.getElem?_modify, h, if_true, Option.map_some]
  congr 2
  simp only [Option.isSome_none, Bool.false_eq_true, if_false]
  apply Array.ext'
  simp only [Array.toList_setIfInBounds]
  apply List.ext_getElem?
  intro k
  by_cases hk : k < 29
  · by_cases e : k = i
    · subst e; simp [updd, hk]
    · rw [List.getElem?_set_ne (by omega)]; simp [updd, hk, e]
  · rw [List.getElem?_eq_none (by simp; omega), List.getElem?_eq_none (by simp; omega)]

/-- The last t of them. -/
def dsOf (d : Nat → Int) (t : Nat) : List Int := (List.range t).map fun i => d (29 - t + i)
theorem dsOf_len (d : Nat → Int) (t : Nat) : (dsOf d t).length = t := by simp [dsOf]
theorem dsOf_upd (d : Nat → Int) (t : Nat) (v : Int) (ht : t < 29) : dsOf (updd d (28 - t) v) (t + 1) = v :: dsOf d t := by
  unfold dsOf
  rw [List.range_succ_eq_map, List.map_cons, List.map_map]
  congr 1
  · simp [updd]
  · apply List.map_congr_left
    intro i hi
    simp [updd]
    congr 1
    omega

theorem dg_new (w : World) (o : Obj) : Dg ((w.alloc o).alloc (.cells ((List.range 29).map fun _ => Value.int .u8 0).toArray 118)) (w.heap.size + 1) (fun _ => 0) := by
  show ((w.heap.push o).push _)[w.heap.size + 1]? = _
  have : w.heap.size + 1 = (w.heap.push o).size := by simp
  rw [this, Array.getElem?_push_size]

/-- What the digits so far, and the rest of the number, make. -/
def ShowInv (V : Nat) (X : W3) (d : Nat → Int) (t : Nat) : Prop :=
  (t = 0 ∧ X.val = V) ∨ (0 < t ∧ X.val = 0 ∧ decL V = dsOf d t) ∨ (0 < t ∧ 0 < X.val ∧ decL V = decL X.val.toNat ++ dsOf d t)

theorem show_more {V : Nat} {X : W3} {d : Nat → Int} {t : Nat} (hV : (V : Int) < top) (h : ShowInv V X d t) (hgo : t = 0 ∨ 0 < X.val) (hX : X.ok) :
    t < 29 ∧ ShowInv V (overW X 10) (updd d (28 - t) (48 + overR X 10)) (t + 1) := by
  have hv := over_val X 10
  have hr := over_left (w := X) 10 (by omega)
  have hq := (W3.bd (over_ok hX (d := 10) (by omega))).1
  have hlen := decL_len29 V hV
  have ht : t < 29 := by
    rcases h with ⟨h1, _⟩ | ⟨h1, h2, h3⟩ | ⟨h1, h2, h3⟩
    · omega
    · omega
    · rw [h3, List.length_append, dsOf_len] at hlen
      have h5 : 1 ≤ (decL X.val.toNat).length := (decL_len29 _ (by have := (W3.bd hX).2; omega)).1
      omega
  refine ⟨ht, ?_⟩
  have hn : decL V = decL X.val.toNat ++ dsOf d t := by
    rcases h with ⟨h1, h2⟩ | ⟨h1, h2, h3⟩ | ⟨_, _, h3⟩
    · subst h1; rw [h2]; simp [dsOf]
    · omega
    · exact h3
  have hds := dsOf_upd d t (48 + overR X 10) ht
  by_cases h10 : X.val < 10
  · right; left
    have e0 : (overW X 10).val = 0 := by omega
    have e1 : overR X 10 = X.val := by omega
    refine ⟨by omega, e0, ?_⟩
    rw [hn, hds, decL_one (by omega), e1]
    have hx0 := (W3.bd hX).1
    rw [show ((X.val.toNat : Nat) : Int) = X.val by omega]
    rfl
  · right; right
    refine ⟨by omega, by omega, ?_⟩
    rw [hn, hds, decL_more (by omega)]
    have e1 : X.val.toNat / 10 = (overW X 10).val.toNat := by omega
    have e2 : ((X.val.toNat % 10 : Nat) : Int) = overR X 10 := by omega
    rw [e1, e2, List.append_assoc]
    rfl

theorem zero_iff {X : W3} (hX : X.ok) : X.val = 0 ↔ X = ⟨0, 0, 0⟩ := by
  obtain ⟨⟨h1, _⟩, ⟨h2, _⟩, h3, _⟩ := hX
  constructor
  · intro h
    unfold W3.val at h
    obtain ⟨a, b, c⟩ := X
    simp only at *
    have : a = 0 := by omega
    have : b = 0 := by omega
    have : c = 0 := by omega
    subst_vars; rfl
  · intro h; rw [h]; rfl

/-- A text of these bytes. -/
def strOf (ns : List Int) : ByteArray := ns.foldl (fun r n => r.push (UInt8.ofNat n.toNat)) ByteArray.empty

theorem conv_ds (w : World) (D : Nat) (d : Nat → Int) (t : Nat) (ht : t ≤ 29) (h : Dg w D d) :
    (convert 119 9 (.slice (some ⟨D, 29 - t, none⟩) t t)).run Tryd.prog w = .ok (.string (strOf (dsOf d t))) w := by
  rw [run_convert_bytes_string _ _ _ _ _ _ _ Tryd.underlying119 Tryd.underlying5 Tryd.underlying9, run_bytesToString _ _ _ _ (dsOf d t)]
  · rfl
  · have := run_loadCells (P := Tryd.prog) w ⟨D, 29 - t, none⟩ t (fun i => .int .u8 (d (29 - t + i))) (fun j hj => by rw [Addr.add_lit]; exact h.cell (by omega))
    rw [this]
    congr 2
    simp [dsOf]

theorem slice_ds (D t : Nat) (w : World) (h0 : 0 < t) (h1 : t ≤ 29) :
    (Instr.sliceAt 118 (.pointer (some ⟨D, 0, none⟩)) (some (.int .i64 ((29 - t : Nat) : Int))) none none).run Tryd.prog w = .ok (.slice (some ⟨D, 29 - t, none⟩) t t) w := by
  have e2 : 29 - (29 - t) = t := by omega
  simp [Instr.sliceAt, Instr.sliceBounds, Instr.sliceBound, asIntOf, run_underlying Tryd.underlying118, go_sem, e2]
  omega

set_option maxHeartbeats 1000000 in
theorem show_any (x : W3) (w : World) (hx : x.ok) :
    Calls Tryd.prog 31 #[wv x] w fun e w' => e = .returned (.string (strOf (decL x.val.toNat))) ∧ Below w.heap.size w w' := by
  have hxb := W3.bd hx
  have HX : Hid (x.ok) := hx
  have HB0 : Hid (∀ o1 o2 : Obj, Below w.heap.size w ((w.alloc o1).alloc o2)) := fun o1 o2 => bel2 w o1 o2
  clear hx
  go_enter Tryd.func31, Tryd.ntmps31
  go_wp2_with fail
  go_loopw [4] (fun v wr => ∃ (t : Nat) (X : W3) (d : Nat → Int), t ≤ 29 ∧ v = .int .i64 ((29 - t : Nat) : Int) ∧ X.ok ∧ Wat wr w.heap.size X ∧ Dg wr (w.heap.size + 1) d ∧ Below w.heap.size w wr ∧ ShowInv x.val.toNat X d t) (fun v _ => (intOf v).toNat)
  case atStart => exact ⟨0, x, fun _ => 0, by omega, rfl, HX.out, trio_a _ _ _ _ _, dg_new _ _, bel2 _ _ _, .inl ⟨rfl, by omega⟩⟩
  case round =>
    obtain ⟨t, X, d, ht, rfl, hX, hT, hD, hb, hi⟩ := hrel
    by_cases hgo : t = 0 ∨ 0 < X.val
    · obtain ⟨ht29, hm⟩ := show_more (by omega) hi hgo hX
      have HM : Hid (ShowInv x.val.toNat (overW X 10) (updd d (28 - t) (48 + overR X 10)) (t + 1)) := hm
      have hz := (zero_iff hX)
      have HT : Hid (Wat wr w.heap.size X) := hT
      have HD : Hid (Dg wr (w.heap.size + 1) d) := hD
      have HB : Hid (Below w.heap.size w wr) := hb
      have c0 := hT.c0
      have c1 := hT.c1
      have c2 := hT.c2
      clear hT hD hb hi hm
      have e28 : ((29 - t : Nat) : Int) - 1 = ((28 - t : Nat) : Int) := by omega
      have g29 : 28 - t < 29 := by omega
      have HG : Hid (29 - (t + 1) = 28 - t) := (by omega : 29 - (t + 1) = 28 - t)
      by_cases h0 : t = 0
      · have e29 : (((29 - t : Nat) : Int) == 29) = true := by simp; omega
        have f29 : ((29 - t : Nat) : Int) ≤ 29 := by omega
        clear hgo hz ht
        generalize 29 - t = f at *
        generalize 28 - t = g at *
        go_wp2_with fail
        refine (over_any X 10 _ hX (by omega) (by omega)).mono ?_
        rintro e w2 ⟨rfl, hb2⟩
        have hQ := over_ok hX (d := 10) (by omega)
        have hr := over_left (w := X) 10 (by omega)
        have T2 := HT.out.below hb2
        have D2 := HD.out.below hb2
        have B2 := HB.out.trans (hb2.mono HB.out.size)
        clear hb2 HT HD HB c0 c1 c2
        generalize overW X 10 = Q at *
        generalize overR X 10 = r at *
        have c0 := T2.c0
        have c1 := T2.c1
        have c2 := T2.c2
        have f0 := T2.free 0
        have f1 := T2.free 1
        have f2 := T2.free 2
        have T3 := T2.put (.int .u32 Q.a) (.int .u32 Q.b) (.int .u32 Q.c)
        have D3 := ((D2.other (G := w.heap.size) 0 (.int .u32 Q.a) (by omega)).other (G := w.heap.size) 1 (.int .u32 Q.b) (by omega)).other (G := w.heap.size) 2 (.int .u32 Q.c) (by omega)
        have B3 := below_put3 B2 w.heap.size (.int .u32 Q.a) (.int .u32 Q.b) (.int .u32 Q.c) (Nat.le_refl _)
        have d1 := D3.cell (i := g) (by omega)
        have d2 := D3.free g
        have HT : Hid (Wat ((put3 w2 w.heap.size (.int .u32 Q.a) (.int .u32 Q.b) (.int .u32 Q.c)).setCell ⟨w.heap.size + 1, g, none⟩ (.int .u8 (48 + r))) w.heap.size Q) := T3.other _ _ (by omega)
        have HD : Hid (Dg ((put3 w2 w.heap.size (.int .u32 Q.a) (.int .u32 Q.b) (.int .u32 Q.c)).setCell ⟨w.heap.size + 1, g, none⟩ (.int .u8 (48 + r))) (w.heap.size + 1) (updd d g (48 + r))) := D3.set _ _
        have HB : Hid (Below w.heap.size w ((put3 w2 w.heap.size (.int .u32 Q.a) (.int .u32 Q.b) (.int .u32 Q.c)).setCell ⟨w.heap.size + 1, g, none⟩ (.int .u8 (48 + r)))) := below_set B3 _ _ _ (by omega)
        clear T2 D2 B2 T3 D3 B3
        obtain ⟨r0, r1⟩ := hr
        generalize d g = dd at *
        go_wp2_with fail
        go_roundw
        case rel => exact ⟨t + 1, Q, _, by omega, by rw [HG.out], hQ, HT.out, HD.out, HB.out, HM.out⟩
        case measure => simp [intOf]; omega
      · have hne : X ≠ ⟨0, 0, 0⟩ := fun e => by have := hz.2 e; omega
        have q := eq3_other hne
        have e29 : (((29 - t : Nat) : Int) == 29) = false := by simp; omega
        have f29 : ((29 - t : Nat) : Int) ≤ 29 := by omega
        clear hgo hz
        generalize 29 - t = f at *
        generalize 28 - t = g at *
        go_wp2_with fail
        refine (over_any X 10 _ hX (by omega) (by omega)).mono ?_
        rintro e w2 ⟨rfl, hb2⟩
        have hQ := over_ok hX (d := 10) (by omega)
        have hr := over_left (w := X) 10 (by omega)
        have T2 := HT.out.below hb2
        have D2 := HD.out.below hb2
        have B2 := HB.out.trans (hb2.mono HB.out.size)
        clear hb2 HT HD HB c0 c1 c2
        generalize overW X 10 = Q at *
        generalize overR X 10 = r at *
        have c0 := T2.c0
        have c1 := T2.c1
        have c2 := T2.c2
        have f0 := T2.free 0
        have f1 := T2.free 1
        have f2 := T2.free 2
        have T3 := T2.put (.int .u32 Q.a) (.int .u32 Q.b) (.int .u32 Q.c)
        have D3 := ((D2.other (G := w.heap.size) 0 (.int .u32 Q.a) (by omega)).other (G := w.heap.size) 1 (.int .u32 Q.b) (by omega)).other (G := w.heap.size) 2 (.int .u32 Q.c) (by omega)
        have B3 := below_put3 B2 w.heap.size (.int .u32 Q.a) (.int .u32 Q.b) (.int .u32 Q.c) (Nat.le_refl _)
        have d1 := D3.cell (i := g) (by omega)
        have d2 := D3.free g
        have HT : Hid (Wat ((put3 w2 w.heap.size (.int .u32 Q.a) (.int .u32 Q.b) (.int .u32 Q.c)).setCell ⟨w.heap.size + 1, g, none⟩ (.int .u8 (48 + r))) w.heap.size Q) := T3.other _ _ (by omega)
        have HD : Hid (Dg ((put3 w2 w.heap.size (.int .u32 Q.a) (.int .u32 Q.b) (.int .u32 Q.c)).setCell ⟨w.heap.size + 1, g, none⟩ (.int .u8 (48 + r))) (w.heap.size + 1) (updd d g (48 + r))) := D3.set _ _
        have HB : Hid (Below w.heap.size w ((put3 w2 w.heap.size (.int .u32 Q.a) (.int .u32 Q.b) (.int .u32 Q.c)).setCell ⟨w.heap.size + 1, g, none⟩ (.int .u8 (48 + r)))) := below_set B3 _ _ _ (by omega)
        clear T2 D2 B2 T3 D3 B3
        obtain ⟨r0, r1⟩ := hr
        generalize d g = dd at *
        go_wp2_with fail
        go_roundw
        case rel => exact ⟨t + 1, Q, _, by omega, by rw [HG.out], hQ, HT.out, HD.out, HB.out, HM.out⟩
        case measure => simp [intOf]; omega
    · have ht0 : 0 < t := by omega
      have hX0 : X.val = 0 := by have := (W3.bd hX).1; omega
      have hXz := (zero_iff hX).1 hX0
      have hfin : decL x.val.toNat = dsOf d t := by
        rcases hi with h | ⟨_, _, h⟩ | h
        · omega
        · exact h
        · omega
      subst hXz
      have c0 := hT.c0
      have c1 := hT.c1
      have c2 := hT.c2
      have q := eq3_same ⟨0, 0, 0⟩
      have e29 : (((29 - t : Nat) : Int) == 29) = false := by simp; omega
      have hsl := slice_ds (w.heap.size + 1) t wr ht0 ht
      have hcv := conv_ds wr (w.heap.size + 1) d t ht hD
      rw [← hfin] at hcv
      have HB : Hid (Below w.heap.size w wr) := hb
      clear hi hgo hX0 hfin hT hD hb hX
      go_wp2_with fail
      go_ret
      exact ⟨rfl, HB.out⟩

end Go.Proofs.YtgipkpkjoicehabDoor.words

/- What Format gives back. -/
namespace Go.Proofs.YtgipkpkjoicehabDoor.token
open Go.Proofs.YtgipkpkjoicehabDoor.words
open Go.RowKit
set_option linter.unusedSimpArgs false

theorem str_list (ns : List Int) : (strOf ns).data.toList = ns.map byt := by
  have h : ∀ (ns : List Int) (r : ByteArray), (ns.foldl (fun r n => r.push (UInt8.ofNat n.toNat)) r).data.toList = r.data.toList ++ ns.map byt := by
    intro ns
    induction ns with
    | nil => intro r; simp
    | cons x l ih => intro r; rw [List.foldl_cons, ih]; simp [ByteArray.push, byt]
  have := h ns ByteArray.empty
  simpa [strOf] using this
theorem str_size (ns : List Int) : (strOf ns).size = ns.length := by
  rw [← check.len_eq, str_list]; simp
theorem rep_list (n : Nat) : Lib.repeatL [48] n = List.replicate n 48 := by
  induction n with
  | zero => rfl
  | succ n ih => rw [Lib.repeatL, ih]; rfl
theorem bytes_ext {a b : ByteArray} (h : a.data.toList = b.data.toList) : a = b := by
  cases a; cases b; congr 1; exact Array.toList_inj.1 h
/-- Noughts ahead of a number's digits. -/
theorem pad_fmt (V n : Nat) (h : n + (decL V).length = 20) : (⟨(Lib.repeatL [48] n).toArray⟩ : ByteArray) ++ strOf (decL V) = fmtB V := by
  apply bytes_ext
  rw [fmtB_list, show ((⟨(Lib.repeatL [48] n).toArray⟩ : ByteArray) ++ strOf (decL V)).data.toList = Lib.repeatL [48] n ++ (strOf (decL V)).data.toList by simp, str_list, rep_list]
  unfold fmtL
  rw [show 20 - (decL V).length = n by omega]

theorem show_wn (a b c V : Nat) (w : World) (h : WN a b c V) :
    Calls Tryd.prog 31 #[.agg #[.int .u32 (a : Int), .int .u32 (b : Int), .int .u32 (c : Int)]] w fun e w' => e = .returned (.string (strOf (decL V))) ∧ Below w.heap.size w w' := by
  have hk := wn_ok h
  have := show_any ⟨a, b, c⟩ w hk.1
  rwa [hk.2, Int.toNat_natCast] at this

set_option maxHeartbeats 400000 in
theorem format_no (c i a t : Int) (w : World) (ht : TTab w) (h : flawT c i a t ≠ 0) :
    Calls Tryd.prog 13 #[.agg #[.int .i64 c, .int .i64 i, .int .i64 a, .int .i64 t]] w fun e w' => e = .returned (.tuple #[.string ByteArray.empty, .int .i64 (flawT c i a t)]) ∧ Below w.heap.size w w' := by
  have HF : Hid (∀ W, TTab W → Calls Tryd.prog 30 #[.agg #[.int .i64 c, .int .i64 i, .int .i64 a, .int .i64 t]] W fun e w' => e = .returned (.tuple #[.agg #[.int .u32 0, .int .u32 0, .int .u32 0], .int .i64 (flawT c i a t)]) ∧ Below W.heap.size W w') := fun W hW => words_no c i a t W hW h
  have hd : (flawT c i a t != 0) = true := by simpa using h
  have HB : Hid (Below w.heap.size w (w.alloc (.cells #[.int .i64 c, .int .i64 i, .int .i64 a, .int .i64 t] 50))) := bel_box _ _
  have HT : Hid (TTab (w.alloc (.cells #[.int .i64 c, .int .i64 i, .int .i64 a, .int .i64 t] 50))) := ht.below (bel_box _ _)
  clear ht h
  generalize flawT c i a t = f at *
  go_enter Tryd.func13, Tryd.ntmps13
  go_wp2_with fail
  refine (HF.out _ HT.out).mono ?_
  rintro e w1 ⟨rfl, hb1⟩
  have HB1 : Hid (Below w.heap.size w (w1.alloc (.cells #[.int .u32 0, .int .u32 0, .int .u32 0] 77))) := (bel_step HB.out hb1).alloc (bel_step HB.out hb1).size _
  clear hb1 HF HB HT
  go_wp2_with fail
  refine bodyPost_ret (v := .tuple #[.string ByteArray.empty, .int .i64 f]) (by simp [results, Tryd.results13, go_sem]; rfl) rfl ⟨rfl, HB1.out⟩

set_option maxHeartbeats 400000 in
theorem format_ok (k : Tok) (w : World) (ht : TTab w) (hk : k.ok) :
    Calls Tryd.prog 13 #[k.v] w fun e w' => e = .returned (.tuple #[.string (fmtB (97 * k.num)), .int .i64 0]) ∧ Below w.heap.size w w' := by
  have HF : Hid (∀ W, TTab W → Calls Tryd.prog 30 #[.agg #[.int .i64 (k.c : Int), .int .i64 (k.i : Int), .int .i64 (k.a : Int), .int .i64 (k.t : Int)]] W fun e w' => WordsPost W k e w') := fun W hW => words_ok k W hW hk
  have hnb := num_bd hk
  have hln := dec_len20 (V := k.num * 97) (by omega)
  have hsz := str_size (decL (k.num * 97))
  have HSh : Hid (∀ (a b c : Nat) W, WN a b c (k.num * 97) → Calls Tryd.prog 31 #[.agg #[.int .u32 (a : Int), .int .u32 (b : Int), .int .u32 (c : Int)]] W fun e w' => e = .returned (.string (strOf (decL (k.num * 97)))) ∧ Below W.heap.size W w') := fun a b c W hW => show_wn a b c _ W hW
  obtain ⟨n, hn⟩ : ∃ n : Nat, n + (decL (k.num * 97)).length = 20 := ⟨20 - (decL (k.num * 97)).length, by omega⟩
  have HRp : Hid (∀ W, Calls Tryd.prog 32 #[.string ⟨#[48]⟩, .int .i64 (n : Int)] W fun e w' => e = .returned (.string ⟨(Lib.repeatL [48] n).toArray⟩) ∧ Below W.heap.size W w') := fun W => Tryd.strings_Repeat ⟨#[48]⟩ n W (by omega) (by show 1 * n ≤ _; omega)
  have HX : Hid ((⟨(Lib.repeatL [48] n).toArray⟩ : ByteArray) ++ strOf (decL (k.num * 97)) = fmtB (97 * k.num)) := by
    show _ = _
    rw [pad_fmt _ _ hn, Nat.mul_comm]
  have hzz : (⟨(Lib.repeatL [48] n).toArray⟩ : ByteArray).size = n := by
    show (Lib.repeatL [48] n).toArray.size = n
    rw [rep_list]; simp
  have HT : Hid (TTab (w.alloc (.cells #[.int .i64 (k.c : Int), .int .i64 (k.i : Int), .int .i64 (k.a : Int), .int .i64 (k.t : Int)] 50))) := ht.below (bel_box _ _)
  have HB : Hid (Below w.heap.size w (w.alloc (.cells #[.int .i64 (k.c : Int), .int .i64 (k.i : Int), .int .i64 (k.a : Int), .int .i64 (k.t : Int)] 50))) := bel_box _ _
  rw [← hsz] at hn hln
  clear ht hk hnb hsz
  generalize strOf (decL (k.num * 97)) = D at *
  generalize (⟨(Lib.repeatL [48] n).toArray⟩ : ByteArray) = Z at *
  have hds : (20 : Int) - (D.size : Int) = (n : Int) := by omega
  unfold Tok.v
  go_enter Tryd.func13, Tryd.ntmps13
  go_wp2_with fail
  refine (HF.out _ HT.out).mono ?_
  rintro e w1 ⟨a, b, c, rfl, hwn, hb1⟩
  have hN := Blk.new w1 #[.int .u32 (a : Int), .int .u32 (b : Int), .int .u32 (c : Int)] 77
  have HB1 : Hid (Below w.heap.size w (w1.alloc (.cells #[.int .u32 (a : Int), .int .u32 (b : Int), .int .u32 (c : Int)] 77))) := (bel_step HB.out hb1).alloc (bel_step HB.out hb1).size _
  have HW : Hid (WN a b c (k.num * 97)) := hwn
  have c0 := hN.cell 0
  have c1 := hN.cell 1
  have c2 := hN.cell 2
  clear hb1 HF HB HT hwn hN
  go_wp2_with fail
  refine (HSh.out _ _ _ _ HW.out).mono ?_
  rintro e w2 ⟨rfl, hb2⟩
  have HB2 : Hid (Below w.heap.size w w2) := bel_step HB1.out hb2
  clear hb2 HSh HB1 HW c0 c1 c2
  go_wp2_with fail
  refine (HRp.out _).mono ?_
  rintro e w3 ⟨rfl, hb3⟩
  have HB3 : Hid (Below w.heap.size w w3) := bel_step HB2.out hb3
  clear hb3 HRp HB2
  go_wp2_with fail
  refine bodyPost_ret (v := .tuple #[.string (Z ++ D), .int .i64 0]) (by simp [results, Tryd.results13, go_sem]) rfl ⟨by rw [HX.out], HB3.out⟩

end Go.Proofs.YtgipkpkjoicehabDoor.token

/- A pocket at which tokens were sold and keyed: by the program's own contracts. -/
namespace Go.Proofs.YtgipkpkjoicehabDoor.pkt
open Go.RowKit Go.Proofs.YtgipkpkjoicehabDoor.met Go.Proofs.YtgipkpkjoicehabDoor.slot Go.Proofs.YtgipkpkjoicehabDoor.cell Go.Proofs.YtgipkpkjoicehabDoor.ora Go.Proofs.YtgipkpkjoicehabDoor.token
set_option maxRecDepth 100000
set_option linter.unusedVariables false

/-- What is sold of a raw token. -/
theorem hsold (m : Mt) (ao : Option Addr) (no co : Nat) (l : List Pr) (x y z u : Int) (w : World) (ht : TTab w) (hc : Came w ao no co l) (hal : Alive w ao) (hl : May l) (hn : l.length < 500) (hm : m.may) (hw : wf4 x y z u) :
    Calls Tryd.prog 12 #[.agg #[.slice ao no co], m.v, .agg #[.int .i64 x, .int .i64 y, .int .i64 z, .int .i64 u]] w fun e w' => ∃ a' n' co' ls, ∃ t : Nat, e = .returned (.tuple #[.agg #[.slice a' n' co'], .agg #[.int .i64 ((madeT x y z u).c : Int), .int .i64 ((madeT x y z u).i : Int), .int .i64 ((madeT x y z u).a : Int), .int .i64 (t : Int)], .bool true]) ∧ Came w' a' n' co' ls ∧ Alive w' a' ∧ Near w ao a' ∧ SoldIs m l (madeT x y z u) ls t ∧ Below w.heap.size w w' := by
  refine (sold_any minv kbody kissue m ao no co l x y z u w ht hc hal hw).mono ?_
  rintro e w' ⟨a', n', co', ls, tg, f, rfl, h1, h2, h3, h4, h5⟩
  obtain ⟨rfl, k2, k3, t, rfl, k5, k6⟩ := issue_tok hm (made_ok x y z u) h4 hl hn
  exact ⟨a', n', co', ls, t, rfl, h1, h2, h3, ⟨h4, k2, k3, k5, k6⟩, h5⟩
theorem hmake (me : Int) (h : 0 ≤ me ∧ me ≤ 49) (w : World) :
    Calls Tryd.prog 10 #[.int .i64 me] w fun e w' => ∃ a c xs, e = .returned (.tuple #[.slice a 12 c, .int .i64 0]) ∧ Hm w' a c xs (mtNew me) ∧ Below w.heap.size w w' := by
  refine (pmake me w).mono ?_
  rintro e w' ⟨a, n, c, xs, f, rfl, hs, hi, hb⟩
  obtain ⟨rfl, rfl⟩ := hi.one (.inl ⟨h, rfl, rfl⟩)
  obtain rfl : n = 12 := hs.row.1.symm
  exact ⟨a, c, _, rfl, ⟨hs, mk_holds _, new_mw h⟩, hb⟩
/-- The tokens that raw ones make. -/
def toks (zs : List Pr) (k : Nat) : Tok := madeT (zs.getD k pr0).m (zs.getD k pr0).r (zs.getD k pr0).b (zs.getD k pr0).t
/-- What pocketAt gives back. -/
def AtPost (w : World) (me : Int) (zs : List Pr) (n : Nat) (e : Ending) (w' : World) : Prop :=
  ∃ a c xs m ao no co l, e = .returned (.tuple #[.slice a 12 c, .agg #[.slice ao no co], .bool true]) ∧ Hm w' a c xs m ∧ Came w' ao no co l ∧ Alive w' ao ∧ (∀ y, ao = some y → w.heap.size ≤ y.block) ∧ AtIs me (toks zs) n m l ∧ Below w.heap.size w w'
theorem at_any (me : Int) (hme : 0 ≤ me ∧ me ≤ 49) (a0 : Option Addr) (len0 cap0 : Nat) (zs : List Pr) (w : World) (ht : TTab w) (hrw : RowA w a0 len0 zs) :
    Calls Tryd.prog 5 #[.int .i64 me, .slice a0 len0 cap0] w fun e w' => AtPost w me zs (min len0 12) e w' := by
  refine at_abs me a0 len0 cap0 zs (toks zs) w hrw (fun W => hmake me hme W) (fun W a c xs m hm => hboot a c xs m W hm) (fun k hk h12 W ao no co l m hB hc hal hl hn hm => ?_) (fun W k hk hB => format_ok k W (ht.below hB) hk) (fun W a c xs m ao no co l k hk hB hm hc hl => hkeyed a c xs m ao no co l k hk W (ht.below hB) hm hc.row hl) (fun W a c xs m m' b d ls hm hg hi hw => ?_)
  · obtain ⟨_, _, _, _, hwf⟩ := hrw k hk
    exact hsold m ao no co l _ _ _ _ W (ht.below hB) hc hal hl (by omega) hm.may hwf
  · refine (happly a c xs m m' b 7 d 7 ls W hm hg hi hw (Nat.le_refl _)).mono ?_
    rintro e w' ⟨a', c', xs', rfl, h1, _, hb⟩
    exact ⟨a', c', xs', rfl, h1 rfl, hb⟩

end Go.Proofs.YtgipkpkjoicehabDoor.pkt

/- A tick of a pocket. -/
namespace Go.Proofs.YtgipkpkjoicehabDoor.pkt
open Go.RowKit Go.Proofs.YtgipkpkjoicehabDoor.met Go.Proofs.YtgipkpkjoicehabDoor.slot Go.Proofs.YtgipkpkjoicehabDoor.cell
set_option maxRecDepth 100000
set_option linter.unusedVariables false
set_option linter.unusedSimpArgs false

set_option maxHeartbeats 1000000 in
theorem pticked (a : Option Addr) (n cap : Nat) (xs : List Int) (ld : Int) (w : World) (h : RowU w a n xs) (hc : n ≤ cap) (hw : ∀ x ∈ rcd xs 5 (which xs 5), 0 ≤ x ∧ x < 4294967296) :
    Calls Tryd.prog 8 #[.slice a n cap, .int .i64 ld] w fun e w' => TickedPost w xs ld e w' := by
  have HBT : Hid (Calls Tryd.prog 7 #[.slice a n cap] w fun e w' => BootPost w xs e w') := pboot a n cap xs w h hc hw
  have HTK : Hid (∀ W (m : Mt), Mw m → Calls Tryd.prog 16 #[m.v, .int .i64 ld] W fun e w' => TickPost W m ld e w') := fun W m hm => ptick m ld W hm.b
  have HSU : Hid (∀ m, BootIs xs m 0 → Mw m ∧ n = 12 ∧ which xs 5 ≤ 1) := fun m hb => by
    obtain ⟨h1, h2⟩ := BootIs.sure hw hb
    exact ⟨h2, h.1.symm.trans h1.len, h1.one⟩
  have HRW : Hid (∀ W, Below w.heap.size w W → RowU W a n xs) := fun W hB => h.below hB
  clear h hc hw
  have H0B : Hid (Below w.heap.size w w) := Below.refl _ _
  go_enter Tryd.func8, Tryd.ntmps8
  go_wp2_with fail
  refine HBT.out.mono ?_
  rintro e w1 ⟨m1, f1, rfl, hi1, hb1⟩
  have H1B : Hid (Below w.heap.size w w1) := bel_step H0B.out hb1
  have HI1 : Hid (BootIs xs m1 f1) := hi1
  clear hi1 HBT
  by_cases hf : f1 = 0
  · subst hf
    obtain ⟨hmw, rfl, hwh⟩ := HSU.out _ HI1.out
    have HMW : Hid (Mw m1 ∧ which xs 5 ≤ 1) := ⟨hmw, hwh⟩
    have HT1 : Hid (∀ W, Calls Tryd.prog 16 #[m1.v, .int .i64 ld] W fun e w' => TickPost W m1 ld e w') := fun W => HTK.out W m1 hmw
    have HWR : Hid (∀ W m2, Below w.heap.size w W → Mw m2 → Calls Tryd.prog 17 #[.slice a 12 cap, m1.v, m2.v] W fun e w' => WritesPost W xs m1 m2 e w') := fun W m2 hB hm2 => pwrites a cap xs m1 m2 W (HRW.out W hB) hwh hm2
    clear hmw hwh HTK HSU HRW
    obtain ⟨me1, rev1, cr1, h1, b1, bad1, lock1⟩ := m1
    unfold Mt.v Mt.cells at *
    simp only [] at HT1 HWR ⊢
    have H2m : Hid (Blk (w1.alloc (.cells #[.int .i64 me1, .int .i64 rev1, .int .i64 cr1, .int .i64 h1, .int .u64 (b1 : Int), .int .i64 bad1, .int .i64 lock1] 36)) (w1.heap.size) #[.int .i64 me1, .int .i64 rev1, .int .i64 cr1, .int .i64 h1, .int .u64 (b1 : Int), .int .i64 bad1, .int .i64 lock1] 36) := (Blk.new w1 _ _)
    have H2B : Hid (Below w.heap.size w (w1.alloc (.cells #[.int .i64 me1, .int .i64 rev1, .int .i64 cr1, .int .i64 h1, .int .u64 (b1 : Int), .int .i64 bad1, .int .i64 lock1] 36))) := (H1B.out).alloc (Nat.le_trans H1B.out.size (by simp)) _
    have L20 : Hid (w.heap.size ≤ w1.heap.size) := H1B.out.size
    clear H0B H1B hb1
    go_wp2_with (first
      | (refine wp_whole rfl 36 _ rfl (w1.heap.size) rfl 36 #[.int .i64 me1, .int .i64 rev1, .int .i64 cr1, .int .i64 h1, .int .u64 (b1 : Int), .int .i64 bad1, .int .i64 lock1] _ H2m.out Tryd.underlying36 rfl (by kernel_rfl) ?_)
      | (refine wp_wholeG (by rfl) 36 _ rfl (w1.heap.size) rfl 36 #[.int .i64 me1, .int .i64 rev1, .int .i64 cr1, .int .i64 h1, .int .u64 (b1 : Int), .int .i64 bad1, .int .i64 lock1] _ H2m.out Tryd.underlying36 rfl (by kernel_rfl) ?_)
      | fail)
    refine (HT1.out _).mono ?_
    rintro e w2 ⟨m2, x2, f2, rfl, hi2, hb2⟩
    have H3m : Hid (Blk w2 (w1.heap.size) #[.int .i64 me1, .int .i64 rev1, .int .i64 cr1, .int .i64 h1, .int .u64 (b1 : Int), .int .i64 bad1, .int .i64 lock1] 36) := H2m.out.next hb2
    have H3B : Hid (Below w.heap.size w w2) := bel_step H2B.out hb2
    have HI2 : Hid (TickIs ⟨me1, rev1, cr1, h1, b1, bad1, lock1⟩ ld m2 x2 f2) := hi2
    clear hi2 HT1
    by_cases hf : f2 = 0
    · subst hf
      have HM2 : Hid (Mw m2) := tick_mw HMW.out.1 HI2.out
      have HW2 : Hid (∀ W, Below w.heap.size w W → Calls Tryd.prog 17 #[.slice a 12 cap, .agg #[.int .i64 me1, .int .i64 rev1, .int .i64 cr1, .int .i64 h1, .int .u64 (b1 : Int), .int .i64 bad1, .int .i64 lock1], m2.v] W fun e w' => WritesPost W xs ⟨me1, rev1, cr1, h1, b1, bad1, lock1⟩ m2 e w') := fun W hB => HWR.out W m2 hB HM2.out
      clear HWR
      obtain ⟨me2, rev2, cr2, h2, b2, bad2, lock2⟩ := m2
      unfold Mt.v Mt.cells at *
      simp only [] at HW2 ⊢
      have H4m : Hid (Blk (w2.alloc (.cells #[.int .i64 me2, .int .i64 rev2, .int .i64 cr2, .int .i64 h2, .int .u64 (b2 : Int), .int .i64 bad2, .int .i64 lock2] 36)) (w1.heap.size) #[.int .i64 me1, .int .i64 rev1, .int .i64 cr1, .int .i64 h1, .int .u64 (b1 : Int), .int .i64 bad1, .int .i64 lock1] 36) := (H3m.out).alloc _
      have H4n : Hid (Blk (w2.alloc (.cells #[.int .i64 me2, .int .i64 rev2, .int .i64 cr2, .int .i64 h2, .int .u64 (b2 : Int), .int .i64 bad2, .int .i64 lock2] 36)) (w2.heap.size) #[.int .i64 me2, .int .i64 rev2, .int .i64 cr2, .int .i64 h2, .int .u64 (b2 : Int), .int .i64 bad2, .int .i64 lock2] 36) := (Blk.new w2 _ _)
      have L4nm : Hid (w1.heap.size < w2.heap.size) := Nat.lt_of_lt_of_le H3m.out.lt (by simp)
      have H4B : Hid (Below w.heap.size w (w2.alloc (.cells #[.int .i64 me2, .int .i64 rev2, .int .i64 cr2, .int .i64 h2, .int .u64 (b2 : Int), .int .i64 bad2, .int .i64 lock2] 36))) := (H3B.out).alloc (Nat.le_trans H3B.out.size (by simp)) _
      have L40 : Hid (w.heap.size ≤ w2.heap.size) := H3B.out.size
      clear H2m H2B H3m H3B hb2
      go_wp2_with (first
        | (refine wp_whole rfl 36 _ rfl (w1.heap.size) rfl 36 #[.int .i64 me1, .int .i64 rev1, .int .i64 cr1, .int .i64 h1, .int .u64 (b1 : Int), .int .i64 bad1, .int .i64 lock1] _ H4m.out Tryd.underlying36 rfl (by kernel_rfl) ?_)
        | (refine wp_wholeG (by rfl) 36 _ rfl (w1.heap.size) rfl 36 #[.int .i64 me1, .int .i64 rev1, .int .i64 cr1, .int .i64 h1, .int .u64 (b1 : Int), .int .i64 bad1, .int .i64 lock1] _ H4m.out Tryd.underlying36 rfl (by kernel_rfl) ?_)
        | (refine wp_whole rfl 36 _ rfl (w2.heap.size) rfl 36 #[.int .i64 me2, .int .i64 rev2, .int .i64 cr2, .int .i64 h2, .int .u64 (b2 : Int), .int .i64 bad2, .int .i64 lock2] _ H4n.out Tryd.underlying36 rfl (by kernel_rfl) ?_)
        | (refine wp_wholeG (by rfl) 36 _ rfl (w2.heap.size) rfl 36 #[.int .i64 me2, .int .i64 rev2, .int .i64 cr2, .int .i64 h2, .int .u64 (b2 : Int), .int .i64 bad2, .int .i64 lock2] _ H4n.out Tryd.underlying36 rfl (by kernel_rfl) ?_)
        | fail)
      refine (HW2.out _ H4B.out).mono ?_
      rintro e w3 ⟨a3, n3, c3, ls, rfl, hg3, hi3, hb3⟩
      have H5m : Hid (Blk w3 (w1.heap.size) #[.int .i64 me1, .int .i64 rev1, .int .i64 cr1, .int .i64 h1, .int .u64 (b1 : Int), .int .i64 bad1, .int .i64 lock1] 36) := H4m.out.next hb3
      have H5n : Hid (Blk w3 (w2.heap.size) #[.int .i64 me2, .int .i64 rev2, .int .i64 cr2, .int .i64 h2, .int .u64 (b2 : Int), .int .i64 bad2, .int .i64 lock2] 36) := H4n.out.next hb3
      have H5B : Hid (Below w.heap.size w w3) := bel_step H4B.out hb3
      have HF : Hid (Wg w3 a3 n3 c3 ls ∧ WrIs xs ⟨me1, rev1, cr1, h1, b1, bad1, lock1⟩ ⟨me2, rev2, cr2, h2, b2, bad2, lock2⟩ ls) := ⟨hg3, hi3⟩
      clear H4m H4n H4B hb3 hg3 hi3 HW2
      go_wp2_with fail
      go_ret3
      exact ⟨a3, n3, c3, ls, x2, 0, rfl, HF.out.1, .inr (.inr ⟨_, _, HI1.out, HI2.out, rfl, HF.out.2⟩), H5B.out⟩
    · have hd : (f2 != 0) = true := by simpa using hf
      have HF : Hid (f2 ≠ 0) := hf
      clear hf
      obtain ⟨me2, rev2, cr2, h2, b2, bad2, lock2⟩ := m2
      unfold Mt.v Mt.cells at *
      simp only []
      have H4m : Hid (Blk (w2.alloc (.cells #[.int .i64 me2, .int .i64 rev2, .int .i64 cr2, .int .i64 h2, .int .u64 (b2 : Int), .int .i64 bad2, .int .i64 lock2] 36)) (w1.heap.size) #[.int .i64 me1, .int .i64 rev1, .int .i64 cr1, .int .i64 h1, .int .u64 (b1 : Int), .int .i64 bad1, .int .i64 lock1] 36) := (H3m.out).alloc _
      have H4n : Hid (Blk (w2.alloc (.cells #[.int .i64 me2, .int .i64 rev2, .int .i64 cr2, .int .i64 h2, .int .u64 (b2 : Int), .int .i64 bad2, .int .i64 lock2] 36)) (w2.heap.size) #[.int .i64 me2, .int .i64 rev2, .int .i64 cr2, .int .i64 h2, .int .u64 (b2 : Int), .int .i64 bad2, .int .i64 lock2] 36) := (Blk.new w2 _ _)
      have L4nm : Hid (w1.heap.size < w2.heap.size) := Nat.lt_of_lt_of_le H3m.out.lt (by simp)
      have H4B : Hid (Below w.heap.size w (w2.alloc (.cells #[.int .i64 me2, .int .i64 rev2, .int .i64 cr2, .int .i64 h2, .int .u64 (b2 : Int), .int .i64 bad2, .int .i64 lock2] 36))) := (H3B.out).alloc (Nat.le_trans H3B.out.size (by simp)) _
      have L40 : Hid (w.heap.size ≤ w2.heap.size) := H3B.out.size
      clear H2m H2B H3m H3B hb2 HWR
      go_wp2_with (first
        | (refine wp_whole rfl 36 _ rfl (w1.heap.size) rfl 36 #[.int .i64 me1, .int .i64 rev1, .int .i64 cr1, .int .i64 h1, .int .u64 (b1 : Int), .int .i64 bad1, .int .i64 lock1] _ H4m.out Tryd.underlying36 rfl (by kernel_rfl) ?_)
        | (refine wp_wholeG (by rfl) 36 _ rfl (w1.heap.size) rfl 36 #[.int .i64 me1, .int .i64 rev1, .int .i64 cr1, .int .i64 h1, .int .u64 (b1 : Int), .int .i64 bad1, .int .i64 lock1] _ H4m.out Tryd.underlying36 rfl (by kernel_rfl) ?_)
        | (refine wp_whole rfl 36 _ rfl (w2.heap.size) rfl 36 #[.int .i64 me2, .int .i64 rev2, .int .i64 cr2, .int .i64 h2, .int .u64 (b2 : Int), .int .i64 bad2, .int .i64 lock2] _ H4n.out Tryd.underlying36 rfl (by kernel_rfl) ?_)
        | (refine wp_wholeG (by rfl) 36 _ rfl (w2.heap.size) rfl 36 #[.int .i64 me2, .int .i64 rev2, .int .i64 cr2, .int .i64 h2, .int .u64 (b2 : Int), .int .i64 bad2, .int .i64 lock2] _ H4n.out Tryd.underlying36 rfl (by kernel_rfl) ?_)
        | fail)
      go_ret3
      exact ⟨none, 0, 0, [], 0, f2, rfl, Wg.none _, .inr (.inl ⟨_, _, _, HI1.out, HI2.out, HF.out, rfl, rfl⟩), H4B.out⟩
  · have hd : (f1 != 0) = true := by simpa using hf
    have HF : Hid (f1 ≠ 0) := hf
    clear hf HTK HSU HRW
    obtain ⟨me1, rev1, cr1, h1, b1, bad1, lock1⟩ := m1
    unfold Mt.v Mt.cells
    simp only []
    have H2m : Hid (Blk (w1.alloc (.cells #[.int .i64 me1, .int .i64 rev1, .int .i64 cr1, .int .i64 h1, .int .u64 (b1 : Int), .int .i64 bad1, .int .i64 lock1] 36)) (w1.heap.size) #[.int .i64 me1, .int .i64 rev1, .int .i64 cr1, .int .i64 h1, .int .u64 (b1 : Int), .int .i64 bad1, .int .i64 lock1] 36) := (Blk.new w1 _ _)
    have H2B : Hid (Below w.heap.size w (w1.alloc (.cells #[.int .i64 me1, .int .i64 rev1, .int .i64 cr1, .int .i64 h1, .int .u64 (b1 : Int), .int .i64 bad1, .int .i64 lock1] 36))) := (H1B.out).alloc (Nat.le_trans H1B.out.size (by simp)) _
    have L20 : Hid (w.heap.size ≤ w1.heap.size) := H1B.out.size
    clear H0B H1B hb1
    go_wp2_with (first
      | (refine wp_whole rfl 36 _ rfl (w1.heap.size) rfl 36 #[.int .i64 me1, .int .i64 rev1, .int .i64 cr1, .int .i64 h1, .int .u64 (b1 : Int), .int .i64 bad1, .int .i64 lock1] _ H2m.out Tryd.underlying36 rfl (by kernel_rfl) ?_)
      | (refine wp_wholeG (by rfl) 36 _ rfl (w1.heap.size) rfl 36 #[.int .i64 me1, .int .i64 rev1, .int .i64 cr1, .int .i64 h1, .int .u64 (b1 : Int), .int .i64 bad1, .int .i64 lock1] _ H2m.out Tryd.underlying36 rfl (by kernel_rfl) ?_)
      | fail)
    go_ret3
    exact ⟨none, 0, 0, [], 0, f1, rfl, Wg.none _, .inl ⟨_, HI1.out, HF.out, rfl, rfl⟩, H2B.out⟩

end Go.Proofs.YtgipkpkjoicehabDoor.pkt

/- A tick that is cut burns all or nothing. -/
namespace Go.Proofs.YtgipkpkjoicehabDoor.pkt
open Go.RowKit Go.Proofs.YtgipkpkjoicehabDoor.met Go.Proofs.YtgipkpkjoicehabDoor.slot Go.Proofs.YtgipkpkjoicehabDoor.cell Go.Proofs.YtgipkpkjoicehabDoor.ora Go.Proofs.YtgipkpkjoicehabDoor.token Go.Proofs.YtgipkpkjoicehabDoor.check
set_option maxRecDepth 100000
set_option linter.unusedVariables false
set_option linter.unusedSimpArgs false

theorem wrap_small {z : Int} (h0 : 0 ≤ z) (h1 : z ≤ 1000000000) : IntKind.i64.wrap z = z := by
  unfold IntKind.wrap
  simp [IntKind.bits, IntKind.signed]
  omega
set_option maxHeartbeats 8000000 in
theorem burns_A (me0 me units load k0 ld bu h1 : Int) (b1 pu q : Nat) (w : World) (hq : q ≤ 7) (hpu : pu < 2097151) (hl0 : 0 ≤ ld) (hl1 : ld ≤ 1000) (hld : ld = 0) (hbu : bu = 0)
    (hp : ∀ W, Calls Tryd.prog 6 #[.int .i64 me0, .int .i64 50] W fun e w' => e = .returned (.int .i64 me) ∧ w' = W)
    (hpl : ∀ W, Calls Tryd.prog 6 #[.int .i64 load, .int .i64 1001] W fun e w' => e = .returned (.int .i64 ld) ∧ w' = W)
    (hpu : ∀ W, Calls Tryd.prog 6 #[.int .i64 units, .int .i64 2097151] W fun e w' => e = .returned (.int .i64 (pu : Int)) ∧ w' = W)
    (hpk : ∀ W, Calls Tryd.prog 6 #[.int .i64 k0, .int .i64 8] W fun e w' => e = .returned (.int .i64 (q : Int)) ∧ w' = W)
    (hat : ∀ W, Below w.heap.size w W → Blk W w.heap.size #[.int .i64 0, .int .i64 0, .int .i64 units, .int .i64 0] 30 → Calls Tryd.prog 5 #[.int .i64 me, .slice (some ⟨w.heap.size, 0, none⟩) 1 1] W fun e w' => ∃ a c xs ao no co, e = .returned (.tuple #[.slice a 12 c, .agg #[.slice ao no co], .bool true]) ∧ Hm w' a c xs ⟨me, 0, 1 + (pu : Int), h1, b1, 0, 0⟩ ∧ Below W.heap.size W w')
    (hbt : ∀ W a c xs m, Hm W a c xs m → Calls Tryd.prog 7 #[.slice a 12 c] W fun e w' => e = .returned (.tuple #[m.v, .int .i64 0]) ∧ Below W.heap.size W w')
    (htd : ∀ W a c xs, Hm W a c xs ⟨me, 0, 1 + (pu : Int), h1, b1, 0, 0⟩ → Calls Tryd.prog 8 #[.slice a 12 c, .int .i64 ld] W fun e w' => ∃ b d wl, e = .returned (.tuple #[.slice b 0 d, .int .i64 bu, .int .i64 0]) ∧ Wg w' b 0 d wl ∧ WrIs xs ⟨me, 0, 1 + (pu : Int), h1, b1, 0, 0⟩ ⟨me, 0, 1 + (pu : Int) - bu, h1, b1, 0, 0⟩ wl ∧ Below W.heap.size W w')
    (hap : ∀ W a c xs b d wl (q : Nat), Hm W a c xs ⟨me, 0, 1 + (pu : Int), h1, b1, 0, 0⟩ → Wg W b 7 d wl → WrIs xs ⟨me, 0, 1 + (pu : Int), h1, b1, 0, 0⟩ ⟨me, 0, 1 + (pu : Int) - bu, h1, b1, 0, 0⟩ wl → q ≤ 7 → Calls Tryd.prog 9 #[.slice a 12 c, .slice b 7 d, .int .i64 (q : Int)] W fun e w' => ∃ a' c' xs', e = .returned (.tuple #[.slice a' 12 c', .int .i64 0]) ∧ (q = 7 → Hm w' a' c' xs' ⟨me, 0, 1 + (pu : Int) - bu, h1, b1, 0, 0⟩) ∧ (q < 7 → Hm w' a' c' xs' ⟨me, 0, 1 + (pu : Int), h1, b1, 0, 0⟩) ∧ Below W.heap.size W w')
    : Calls Tryd.prog 3 #[.int .i64 me0, .int .i64 units, .int .i64 load, .int .i64 k0] w fun e w' => e = .returned (.bool true) ∧ Below w.heap.size w w' := by
  have HP : Hid (∀ W, Calls Tryd.prog 6 #[.int .i64 me0, .int .i64 50] W fun e w' => e = .returned (.int .i64 me) ∧ w' = W) := hp
  have HPL : Hid (∀ W, Calls Tryd.prog 6 #[.int .i64 load, .int .i64 1001] W fun e w' => e = .returned (.int .i64 ld) ∧ w' = W) := hpl
  have HPU : Hid (∀ W, Calls Tryd.prog 6 #[.int .i64 units, .int .i64 2097151] W fun e w' => e = .returned (.int .i64 (pu : Int)) ∧ w' = W) := hpu
  have HPK : Hid (∀ W, Calls Tryd.prog 6 #[.int .i64 k0, .int .i64 8] W fun e w' => e = .returned (.int .i64 (q : Int)) ∧ w' = W) := hpk
  have HAT : Hid (∀ W, Below w.heap.size w W → Blk W w.heap.size #[.int .i64 0, .int .i64 0, .int .i64 units, .int .i64 0] 30 → Calls Tryd.prog 5 #[.int .i64 me, .slice (some ⟨w.heap.size, 0, none⟩) 1 1] W fun e w' => ∃ a c xs ao no co, e = .returned (.tuple #[.slice a 12 c, .agg #[.slice ao no co], .bool true]) ∧ Hm w' a c xs ⟨me, 0, 1 + (pu : Int), h1, b1, 0, 0⟩ ∧ Below W.heap.size W w') := hat
  have HBT : Hid (∀ W a c xs m, Hm W a c xs m → Calls Tryd.prog 7 #[.slice a 12 c] W fun e w' => e = .returned (.tuple #[m.v, .int .i64 0]) ∧ Below W.heap.size W w') := hbt
  have HTD : Hid (∀ W a c xs, Hm W a c xs ⟨me, 0, 1 + (pu : Int), h1, b1, 0, 0⟩ → Calls Tryd.prog 8 #[.slice a 12 c, .int .i64 ld] W fun e w' => ∃ b d wl, e = .returned (.tuple #[.slice b 0 d, .int .i64 bu, .int .i64 0]) ∧ Wg w' b 0 d wl ∧ WrIs xs ⟨me, 0, 1 + (pu : Int), h1, b1, 0, 0⟩ ⟨me, 0, 1 + (pu : Int) - bu, h1, b1, 0, 0⟩ wl ∧ Below W.heap.size W w') := htd
  have HAP : Hid (∀ W a c xs b d wl (q : Nat), Hm W a c xs ⟨me, 0, 1 + (pu : Int), h1, b1, 0, 0⟩ → Wg W b 7 d wl → WrIs xs ⟨me, 0, 1 + (pu : Int), h1, b1, 0, 0⟩ ⟨me, 0, 1 + (pu : Int) - bu, h1, b1, 0, 0⟩ wl → q ≤ 7 → Calls Tryd.prog 9 #[.slice a 12 c, .slice b 7 d, .int .i64 (q : Int)] W fun e w' => ∃ a' c' xs', e = .returned (.tuple #[.slice a' 12 c', .int .i64 0]) ∧ (q = 7 → Hm w' a' c' xs' ⟨me, 0, 1 + (pu : Int) - bu, h1, b1, 0, 0⟩) ∧ (q < 7 → Hm w' a' c' xs' ⟨me, 0, 1 + (pu : Int), h1, b1, 0, 0⟩) ∧ Below W.heap.size W w') := hap
  have HQ7 : Hid (q ≤ 7) := hq
  have hwr : IntKind.i64.wrap (1 + (pu : Int)) = 1 + (pu : Int) := wrap_small (by omega) (by omega)
  subst hld hbu
  have hmn : min 0 (1 + (pu : Int)) = 0 := by omega
  clear hq hp hpl hpu hpk hat hbt htd hap
  have H0B : Hid (Below w.heap.size w w) := Below.refl _ _
  go_enter Tryd.func3, Tryd.ntmps3
  go_wp2_with fail
  refine (HP.out _).mono ?_
  rintro e w0 ⟨rfl, hw0⟩
  have hw1 := hw0.symm
  subst hw1
  clear hw0
  have H1x : Hid (Blk (w.alloc (.cells #[.int .i64 0, .int .i64 0, .int .i64 units, .int .i64 0] 30)) (w.heap.size) #[.int .i64 0, .int .i64 0, .int .i64 units, .int .i64 0] 30) := (Blk.new w _ _)
  have H1B : Hid (Below w.heap.size w (w.alloc (.cells #[.int .i64 0, .int .i64 0, .int .i64 units, .int .i64 0] 30))) := (H0B.out).alloc (Nat.le_trans H0B.out.size (by simp)) _
  have L10 : Hid (w.heap.size ≤ w.heap.size) := H0B.out.size
  clear H0B 
  go_wp2_with fail
  refine (HAT.out _ H1B.out H1x.out).mono ?_
  rintro e w1 ⟨a, c, xs, ao, no, co, rfl, hm1, hb1⟩
  have H2x : Hid (Blk w1 (w.heap.size) #[.int .i64 0, .int .i64 0, .int .i64 units, .int .i64 0] 30) := H1x.out.next hb1
  have H2B : Hid (Below w.heap.size w w1) := bel_step H1B.out hb1
  clear H2x
  have HCh : Hid (Hm w1 a c xs ⟨me, 0, 1 + (pu : Int), h1, b1, 0, 0⟩) := hm1
  have H3o : Hid (Blk (w1.alloc (.cells #[.slice ao no co] 25)) (w1.heap.size) #[.slice ao no co] 25) := (Blk.new w1 _ _)
  have H3B : Hid (Below w.heap.size w (w1.alloc (.cells #[.slice ao no co] 25))) := (H2B.out).alloc (Nat.le_trans H2B.out.size (by simp)) _
  have L30 : Hid (w.heap.size ≤ w1.heap.size) := H2B.out.size
  have H3Ch : Hid (Hm (w1.alloc (.cells #[.slice ao no co] 25)) a c xs ⟨me, 0, 1 + (pu : Int), h1, b1, 0, 0⟩) := HCh.out.below ((Below.refl w1.heap.size w1).alloc (by simp) _)
  clear H1x H1B HCh H2B hb1 hm1 HAT
  clear H3o
  go_wp2_with fail
  refine (HPL.out _).mono ?_
  rintro e wl0 ⟨rfl, hwl⟩
  subst hwl
  go_wp2_with fail
  refine (HBT.out _ _ _ _ _ H3Ch.out).mono ?_
  rintro e w2 ⟨rfl, hb2⟩
  have H4B : Hid (Below w.heap.size w w2) := bel_step H3B.out hb2
  have H4Ch : Hid (Hm w2 a c xs ⟨me, 0, 1 + (pu : Int), h1, b1, 0, 0⟩) := H3Ch.out.below hb2
  unfold Mt.v Mt.cells
  simp only []
  have H5m : Hid (Blk (w2.alloc (.cells #[.int .i64 me, .int .i64 0, .int .i64 (1 + (pu : Int)), .int .i64 h1, .int .u64 (b1 : Int), .int .i64 0, .int .i64 0] 36)) (w2.heap.size) #[.int .i64 me, .int .i64 0, .int .i64 (1 + (pu : Int)), .int .i64 h1, .int .u64 (b1 : Int), .int .i64 0, .int .i64 0] 36) := (Blk.new w2 _ _)
  have H5B : Hid (Below w.heap.size w (w2.alloc (.cells #[.int .i64 me, .int .i64 0, .int .i64 (1 + (pu : Int)), .int .i64 h1, .int .u64 (b1 : Int), .int .i64 0, .int .i64 0] 36))) := (H4B.out).alloc (Nat.le_trans H4B.out.size (by simp)) _
  have L50 : Hid (w.heap.size ≤ w2.heap.size) := H4B.out.size
  have H5Ch : Hid (Hm (w2.alloc (.cells #[.int .i64 me, .int .i64 0, .int .i64 (1 + (pu : Int)), .int .i64 h1, .int .u64 (b1 : Int), .int .i64 0, .int .i64 0] 36)) a c xs ⟨me, 0, 1 + (pu : Int), h1, b1, 0, 0⟩) := H4Ch.out.below ((Below.refl w2.heap.size w2).alloc (by simp) _)
  clear H3Ch H3B H4Ch H4B hb2
  go_wp2_with fail
  refine (HTD.out _ _ _ _ H5Ch.out).mono ?_
  rintro e w3 ⟨b3, d3, wl, rfl, hg3, hw3, hb3⟩
  have H6m : Hid (Blk w3 (w2.heap.size) #[.int .i64 me, .int .i64 0, .int .i64 (1 + (pu : Int)), .int .i64 h1, .int .u64 (b1 : Int), .int .i64 0, .int .i64 0] 36) := H5m.out.next hb3
  have H6B : Hid (Below w.heap.size w w3) := bel_step H5B.out hb3
  have H6Ch : Hid (Hm w3 a c xs ⟨me, 0, 1 + (pu : Int), h1, b1, 0, 0⟩) := H5Ch.out.below hb3
  have HCg : Hid (Wg w3 b3 0 d3 wl) := hg3
  have HWI : Hid (WrIs xs ⟨me, 0, 1 + (pu : Int), h1, b1, 0, 0⟩ ⟨me, 0, 1 + (pu : Int) - 0, h1, b1, 0, 0⟩ wl) := hw3
  clear H5m H5Ch H5B hb3 hg3 hw3 HTD
  have e1 : (1 + (pu : Int) != 1 + (pu : Int)) = false := by simp
  skip
  go_upto_region 7 with fail
  have HBK : Hid (Blk w3.drew (w2.heap.size) #[.int .i64 me, .int .i64 0, .int .i64 (1 + (pu : Int)), .int .i64 h1, .int .u64 (b1 : Int), .int .i64 0, .int .i64 0] 36) := Blk.drew H6m.out 1
  refine wp_region_held_drew (S := fun v => Blk v (w2.heap.size) #[.int .i64 me, .int .i64 0, .int .i64 (1 + (pu : Int)), .int .i64 h1, .int .u64 (b1 : Int), .int .i64 0, .int .i64 0] 36) (by kernel_rfl) HBK.out (fun hHeld => ?_)
  refine take_at 0 50 (.int .i64 0) _ rfl rfl (by kernel_rfl) (by kernel_rfl) (by kernel_rfl) (fun _ _ _ h => h) (Or.inl ⟨by rfl, fun v hv => by skip; clear hv; go_simp⟩) hHeld ?_
  simp only [Act.put, List.setIfInBounds_toArray, List.set_cons_zero, List.set_cons_succ]
  refine take_at 1 51 (.bool false) _ rfl rfl (by kernel_rfl) (by kernel_rfl) (by kernel_rfl) (fun _ _ _ h => h) (Or.inl ⟨by rfl, fun v hv => by skip; clear hv; go_simp⟩) hHeld ?_
  simp only [Act.put, List.setIfInBounds_toArray, List.set_cons_zero, List.set_cons_succ]
  refine take_at 2 52 (.bool false) _ rfl rfl (by kernel_rfl) (by kernel_rfl) (by kernel_rfl) (fun _ _ _ h => h) (Or.inl ⟨by rfl, fun v hv => by skip; clear hv; go_simp⟩) hHeld ?_
  simp only [Act.put, List.setIfInBounds_toArray, List.set_cons_zero, List.set_cons_succ]
  refine take_at 3 53 (.int .i64 0) _ rfl rfl (by kernel_rfl) (by kernel_rfl) (by kernel_rfl) (fun _ _ _ h => h) (Or.inl ⟨by rfl, fun v hv => by skip; clear hv; go_simp⟩) hHeld ?_
  simp only [Act.put, List.setIfInBounds_toArray, List.set_cons_zero, List.set_cons_succ]
  refine take_at 4 54 (.bool false) _ rfl rfl (by kernel_rfl) (by kernel_rfl) (by kernel_rfl) (fun _ _ _ h => h) (Or.inl ⟨by rfl, fun v hv => by skip; clear hv; go_simp⟩) hHeld ?_
  simp only [Act.put, List.setIfInBounds_toArray, List.set_cons_zero, List.set_cons_succ]
  refine take_at 5 55 (.bool false) _ rfl rfl (by kernel_rfl) (by kernel_rfl) (by kernel_rfl) (fun _ _ _ h => h) (Or.inl ⟨by rfl, fun v hv => by skip; clear hv; go_simp⟩) hHeld ?_
  simp only [Act.put, List.setIfInBounds_toArray, List.set_cons_zero, List.set_cons_succ]
  refine take_at 6 56 (.bool false) _ rfl rfl (by kernel_rfl) (by kernel_rfl) (by kernel_rfl) (fun _ _ _ h => h) (Or.inl ⟨by rfl, fun v hv => by skip; clear hv; go_simp⟩) hHeld ?_
  simp only [Act.put, List.setIfInBounds_toArray, List.set_cons_zero, List.set_cons_succ]
  refine take_at 7 57 (.pointer (some ⟨w2.heap.size, 2, none⟩)) _ rfl rfl (by kernel_rfl) (by kernel_rfl) (by kernel_rfl) (fun _ _ _ h => h) (Or.inl ⟨by rfl, fun v hv => by skip; clear hv; go_simp⟩) hHeld ?_
  simp only [Act.put, List.setIfInBounds_toArray, List.set_cons_zero, List.set_cons_succ]
  refine take_at 8 58 (.int .i64 (1 + (pu : Int))) _ rfl rfl (by kernel_rfl) (by kernel_rfl) (by kernel_rfl) (fun _ _ _ h => h) (Or.inl ⟨by rfl, fun v hv => by have h2 := hv.cell 2; clear hv; go_simp⟩) hHeld ?_
  simp only [Act.put, List.setIfInBounds_toArray, List.set_cons_zero, List.set_cons_succ]
  refine take_at 9 59 (.int .i64 units) _ rfl rfl (by kernel_rfl) (by kernel_rfl) (by kernel_rfl) (fun _ _ _ h => h) (Or.inl ⟨by rfl, fun v hv => by skip; clear hv; go_simp⟩) hHeld ?_
  simp only [Act.put, List.setIfInBounds_toArray, List.set_cons_zero, List.set_cons_succ]
  refine call_at 10 60 (.int .i64 (pu : Int)) _ rfl rfl (by kernel_rfl) (by kernel_rfl) (by kernel_rfl) (fun _ _ _ h => h) 6 #[.int .i64 units, .int .i64 2097151] ⟨by rfl, fun v hv => by clear hv; go_simp⟩ (fun v _ => HPU.out v) hHeld ?_
  simp only [Act.put, List.setIfInBounds_toArray, List.set_cons_zero, List.set_cons_succ]
  refine take_at 11 61 (.int .i64 (1 + (pu : Int))) _ rfl rfl (by kernel_rfl) (by kernel_rfl) (by kernel_rfl) (fun _ _ _ h => h) (Or.inl ⟨by rfl, fun v hv => by skip; clear hv; go_simp⟩) hHeld ?_
  simp only [Act.put, List.setIfInBounds_toArray, List.set_cons_zero, List.set_cons_succ]
  refine take_at 12 62 (.bool false) _ rfl rfl (by kernel_rfl) (by kernel_rfl) (by kernel_rfl) (fun _ _ _ h => h) (Or.inl ⟨by rfl, fun v hv => by skip; clear hv; go_simp⟩) hHeld ?_
  simp only [Act.put, List.setIfInBounds_toArray, List.set_cons_zero, List.set_cons_succ]
  refine take_at 13 63 (.bool false) _ rfl rfl (by kernel_rfl) (by kernel_rfl) (by kernel_rfl) (fun _ _ _ h => h) (Or.inl ⟨by rfl, fun v hv => by skip; clear hv; go_simp⟩) hHeld ?_
  simp only [Act.put, List.setIfInBounds_toArray, List.set_cons_zero, List.set_cons_succ]
  refine take_at 14 64 (.bool false) _ rfl rfl (by kernel_rfl) (by kernel_rfl) (by kernel_rfl) (fun _ _ _ h => h) (Or.inl ⟨by rfl, fun v hv => by skip; clear hv; go_simp⟩) hHeld ?_
  simp only [Act.put, List.setIfInBounds_toArray, List.set_cons_zero, List.set_cons_succ]
  refine take_at 15 65 (.int .i64 0) _ rfl rfl (by kernel_rfl) (by kernel_rfl) (by kernel_rfl) (fun _ _ _ h => h) (Or.inl ⟨by rfl, fun v hv => by skip; clear hv; go_simp⟩) hHeld ?_
  simp only [Act.put, List.setIfInBounds_toArray, List.set_cons_zero, List.set_cons_succ]
  refine take_at 16 66 (.int .i64 0) _ rfl rfl (by kernel_rfl) (by kernel_rfl) (by kernel_rfl) (fun _ _ _ h => h) (Or.inl ⟨by rfl, fun v hv => by skip; clear hv; go_simp⟩) hHeld ?_
  simp only [Act.put, List.setIfInBounds_toArray, List.set_cons_zero, List.set_cons_succ]
  refine take_at 17 67 (.pointer (some ⟨w2.heap.size, 2, none⟩)) _ rfl rfl (by kernel_rfl) (by kernel_rfl) (by kernel_rfl) (fun _ _ _ h => h) (Or.inl ⟨by rfl, fun v hv => by skip; clear hv; go_simp⟩) hHeld ?_
  simp only [Act.put, List.setIfInBounds_toArray, List.set_cons_zero, List.set_cons_succ]
  refine take_at 18 68 (.int .i64 (1 + (pu : Int))) _ rfl rfl (by kernel_rfl) (by kernel_rfl) (by kernel_rfl) (fun _ _ _ h => h) (Or.inl ⟨by rfl, fun v hv => by have h2 := hv.cell 2; clear hv; go_simp⟩) hHeld ?_
  simp only [Act.put, List.setIfInBounds_toArray, List.set_cons_zero, List.set_cons_succ]
  refine take_at 19 69 (.int .i64 0) _ rfl rfl (by kernel_rfl) (by kernel_rfl) (by kernel_rfl) (fun _ _ _ h => h) (Or.inl ⟨by rfl, fun v hv => by skip; clear hv; go_simp⟩) hHeld ?_
  simp only [Act.put, List.setIfInBounds_toArray, List.set_cons_zero, List.set_cons_succ]
  refine take_at 20 70 (.bool false) _ rfl rfl (by kernel_rfl) (by kernel_rfl) (by kernel_rfl) (fun _ _ _ h => h) (Or.inl ⟨by rfl, fun v hv => by skip; clear hv; go_simp⟩) hHeld ?_
  simp only [Act.put, List.setIfInBounds_toArray, List.set_cons_zero, List.set_cons_succ]
  refine take_at 21 71 (.bool false) _ rfl rfl (by kernel_rfl) (by kernel_rfl) (by kernel_rfl) (fun _ _ _ h => h) (Or.inl ⟨by rfl, fun v hv => by skip; clear hv; go_simp⟩) hHeld ?_
  simp only [Act.put, List.setIfInBounds_toArray, List.set_cons_zero, List.set_cons_succ]
  refine take_at 22 72 (.bool false) _ rfl rfl (by kernel_rfl) (by kernel_rfl) (by kernel_rfl) (fun _ _ _ h => h) (Or.inl ⟨by rfl, fun v hv => by skip; clear hv; go_simp⟩) hHeld ?_
  simp only [Act.put, List.setIfInBounds_toArray, List.set_cons_zero, List.set_cons_succ]
  refine take_at 23 73 (.slice b3 0 d3) _ rfl rfl (by kernel_rfl) (by kernel_rfl) (by kernel_rfl) (fun _ _ _ h => h) (Or.inl ⟨by rfl, fun v hv => by skip; clear hv; go_simp⟩) hHeld ?_
  simp only [Act.put, List.setIfInBounds_toArray, List.set_cons_zero, List.set_cons_succ]
  refine take_at 24 74 (.int .i64 0) _ rfl rfl (by kernel_rfl) (by kernel_rfl) (by kernel_rfl) (fun _ _ _ h => h) (Or.inl ⟨by rfl, fun v hv => by skip; clear hv; go_simp⟩) hHeld ?_
  simp only [Act.put, List.setIfInBounds_toArray, List.set_cons_zero, List.set_cons_succ]
  refine take_at 25 75 (.bool true) _ rfl rfl (by kernel_rfl) (by kernel_rfl) (by kernel_rfl) (fun _ _ _ h => h) (Or.inl ⟨by rfl, fun v hv => by skip; clear hv; go_simp⟩) hHeld ?_
  simp only [Act.put, List.setIfInBounds_toArray, List.set_cons_zero, List.set_cons_succ]
  refine take_at 26 76 (.int .i64 0) _ rfl rfl (by kernel_rfl) (by kernel_rfl) (by kernel_rfl) (fun _ _ _ h => h) (Or.inl ⟨by rfl, fun v hv => by skip; clear hv; go_simp⟩) hHeld ?_
  simp only [Act.put, List.setIfInBounds_toArray, List.set_cons_zero, List.set_cons_succ]
  refine take_at 27 77 (.bool true) _ rfl rfl (by kernel_rfl) (by kernel_rfl) (by kernel_rfl) (fun _ _ _ h => h) (Or.inl ⟨by rfl, fun v hv => by skip; clear hv; go_simp⟩) hHeld ?_
  simp only [Act.put, List.setIfInBounds_toArray, List.set_cons_zero, List.set_cons_succ]
  refine take_at 28 78 (.bool false) _ rfl rfl (by kernel_rfl) (by kernel_rfl) (by kernel_rfl) (fun _ _ _ h => h) (Or.inl ⟨by rfl, fun v hv => by skip; clear hv; go_simp⟩) hHeld ?_
  simp only [Act.put, List.setIfInBounds_toArray, List.set_cons_zero, List.set_cons_succ]
  refine take_at 29 79 (.bool false) _ rfl rfl (by kernel_rfl) (by kernel_rfl) (by kernel_rfl) (fun _ _ _ h => h) (Or.inl ⟨by rfl, fun v hv => by skip; clear hv; go_simp⟩) hHeld ?_
  simp only [Act.put, List.setIfInBounds_toArray, List.set_cons_zero, List.set_cons_succ]
  refine wpAnyH_done (by kernel_rfl) ?_ _
  clear hHeld HBK
  have H7m : Hid (Blk w3.drew (w2.heap.size) #[.int .i64 me, .int .i64 0, .int .i64 (1 + (pu : Int)), .int .i64 h1, .int .u64 (b1 : Int), .int .i64 0, .int .i64 0] 36) := Blk.drew H6m.out 1
  have H7B : Hid (Below w.heap.size w w3.drew) := H6B.out.drew
  have H7Ch : Hid (Hm w3.drew a c xs ⟨me, 0, 1 + (pu : Int), h1, b1, 0, 0⟩) := H6Ch.out.below (Below.refl _ _).drew
  have H7Cg : Hid (Wg w3.drew b3 0 d3 wl) := HCg.out.below (Below.refl _ _).drew
  clear H6m H6Ch HCg H6B
  generalize w3.drew = WD at *
  go_wp2_with fail
  go_ret
  exact ⟨rfl, H7B.out⟩
set_option maxHeartbeats 8000000 in
theorem burns_B1 (me0 me units load k0 ld bu h1 : Int) (b1 pu q : Nat) (w : World) (hq : q ≤ 7) (hpu : pu < 2097151) (hl0 : 0 ≤ ld) (hl1 : ld ≤ 1000) (hld : 0 < ld) (hlc : 1 + (pu : Int) < ld) (hbu : bu = 1 + (pu : Int))
    (hp : ∀ W, Calls Tryd.prog 6 #[.int .i64 me0, .int .i64 50] W fun e w' => e = .returned (.int .i64 me) ∧ w' = W)
    (hpl : ∀ W, Calls Tryd.prog 6 #[.int .i64 load, .int .i64 1001] W fun e w' => e = .returned (.int .i64 ld) ∧ w' = W)
    (hpu : ∀ W, Calls Tryd.prog 6 #[.int .i64 units, .int .i64 2097151] W fun e w' => e = .returned (.int .i64 (pu : Int)) ∧ w' = W)
    (hpk : ∀ W, Calls Tryd.prog 6 #[.int .i64 k0, .int .i64 8] W fun e w' => e = .returned (.int .i64 (q : Int)) ∧ w' = W)
    (hat : ∀ W, Below w.heap.size w W → Blk W w.heap.size #[.int .i64 0, .int .i64 0, .int .i64 units, .int .i64 0] 30 → Calls Tryd.prog 5 #[.int .i64 me, .slice (some ⟨w.heap.size, 0, none⟩) 1 1] W fun e w' => ∃ a c xs ao no co, e = .returned (.tuple #[.slice a 12 c, .agg #[.slice ao no co], .bool true]) ∧ Hm w' a c xs ⟨me, 0, 1 + (pu : Int), h1, b1, 0, 0⟩ ∧ Below W.heap.size W w')
    (hbt : ∀ W a c xs m, Hm W a c xs m → Calls Tryd.prog 7 #[.slice a 12 c] W fun e w' => e = .returned (.tuple #[m.v, .int .i64 0]) ∧ Below W.heap.size W w')
    (htd : ∀ W a c xs, Hm W a c xs ⟨me, 0, 1 + (pu : Int), h1, b1, 0, 0⟩ → Calls Tryd.prog 8 #[.slice a 12 c, .int .i64 ld] W fun e w' => ∃ b d wl, e = .returned (.tuple #[.slice b 7 d, .int .i64 bu, .int .i64 0]) ∧ Wg w' b 7 d wl ∧ WrIs xs ⟨me, 0, 1 + (pu : Int), h1, b1, 0, 0⟩ ⟨me, 0, 1 + (pu : Int) - bu, h1, b1, 0, 0⟩ wl ∧ Below W.heap.size W w')
    (hap : ∀ W a c xs b d wl (q : Nat), Hm W a c xs ⟨me, 0, 1 + (pu : Int), h1, b1, 0, 0⟩ → Wg W b 7 d wl → WrIs xs ⟨me, 0, 1 + (pu : Int), h1, b1, 0, 0⟩ ⟨me, 0, 1 + (pu : Int) - bu, h1, b1, 0, 0⟩ wl → q ≤ 7 → Calls Tryd.prog 9 #[.slice a 12 c, .slice b 7 d, .int .i64 (q : Int)] W fun e w' => ∃ a' c' xs', e = .returned (.tuple #[.slice a' 12 c', .int .i64 0]) ∧ (q = 7 → Hm w' a' c' xs' ⟨me, 0, 1 + (pu : Int) - bu, h1, b1, 0, 0⟩) ∧ (q < 7 → Hm w' a' c' xs' ⟨me, 0, 1 + (pu : Int), h1, b1, 0, 0⟩) ∧ Below W.heap.size W w')
    : Calls Tryd.prog 3 #[.int .i64 me0, .int .i64 units, .int .i64 load, .int .i64 k0] w fun e w' => e = .returned (.bool true) ∧ Below w.heap.size w w' := by
  have HP : Hid (∀ W, Calls Tryd.prog 6 #[.int .i64 me0, .int .i64 50] W fun e w' => e = .returned (.int .i64 me) ∧ w' = W) := hp
  have HPL : Hid (∀ W, Calls Tryd.prog 6 #[.int .i64 load, .int .i64 1001] W fun e w' => e = .returned (.int .i64 ld) ∧ w' = W) := hpl
  have HPU : Hid (∀ W, Calls Tryd.prog 6 #[.int .i64 units, .int .i64 2097151] W fun e w' => e = .returned (.int .i64 (pu : Int)) ∧ w' = W) := hpu
  have HPK : Hid (∀ W, Calls Tryd.prog 6 #[.int .i64 k0, .int .i64 8] W fun e w' => e = .returned (.int .i64 (q : Int)) ∧ w' = W) := hpk
  have HAT : Hid (∀ W, Below w.heap.size w W → Blk W w.heap.size #[.int .i64 0, .int .i64 0, .int .i64 units, .int .i64 0] 30 → Calls Tryd.prog 5 #[.int .i64 me, .slice (some ⟨w.heap.size, 0, none⟩) 1 1] W fun e w' => ∃ a c xs ao no co, e = .returned (.tuple #[.slice a 12 c, .agg #[.slice ao no co], .bool true]) ∧ Hm w' a c xs ⟨me, 0, 1 + (pu : Int), h1, b1, 0, 0⟩ ∧ Below W.heap.size W w') := hat
  have HBT : Hid (∀ W a c xs m, Hm W a c xs m → Calls Tryd.prog 7 #[.slice a 12 c] W fun e w' => e = .returned (.tuple #[m.v, .int .i64 0]) ∧ Below W.heap.size W w') := hbt
  have HTD : Hid (∀ W a c xs, Hm W a c xs ⟨me, 0, 1 + (pu : Int), h1, b1, 0, 0⟩ → Calls Tryd.prog 8 #[.slice a 12 c, .int .i64 ld] W fun e w' => ∃ b d wl, e = .returned (.tuple #[.slice b 7 d, .int .i64 bu, .int .i64 0]) ∧ Wg w' b 7 d wl ∧ WrIs xs ⟨me, 0, 1 + (pu : Int), h1, b1, 0, 0⟩ ⟨me, 0, 1 + (pu : Int) - bu, h1, b1, 0, 0⟩ wl ∧ Below W.heap.size W w') := htd
  have HAP : Hid (∀ W a c xs b d wl (q : Nat), Hm W a c xs ⟨me, 0, 1 + (pu : Int), h1, b1, 0, 0⟩ → Wg W b 7 d wl → WrIs xs ⟨me, 0, 1 + (pu : Int), h1, b1, 0, 0⟩ ⟨me, 0, 1 + (pu : Int) - bu, h1, b1, 0, 0⟩ wl → q ≤ 7 → Calls Tryd.prog 9 #[.slice a 12 c, .slice b 7 d, .int .i64 (q : Int)] W fun e w' => ∃ a' c' xs', e = .returned (.tuple #[.slice a' 12 c', .int .i64 0]) ∧ (q = 7 → Hm w' a' c' xs' ⟨me, 0, 1 + (pu : Int) - bu, h1, b1, 0, 0⟩) ∧ (q < 7 → Hm w' a' c' xs' ⟨me, 0, 1 + (pu : Int), h1, b1, 0, 0⟩) ∧ Below W.heap.size W w') := hap
  have HQ7 : Hid (q ≤ 7) := hq
  have hwr : IntKind.i64.wrap (1 + (pu : Int)) = 1 + (pu : Int) := wrap_small (by omega) (by omega)
  have e4 : (bu == 0) = false := by simp; omega
  have hb0 : 0 < bu := by omega
  have hb1 : bu ≤ 1 + (pu : Int) := by omega
  have hmn : min ld (1 + (pu : Int)) = bu := by omega
  clear hbu hlc hld
  clear hq hp hpl hpu hpk hat hbt htd hap
  have H0B : Hid (Below w.heap.size w w) := Below.refl _ _
  go_enter Tryd.func3, Tryd.ntmps3
  go_wp2_with fail
  refine (HP.out _).mono ?_
  rintro e w0 ⟨rfl, hw0⟩
  have hw1 := hw0.symm
  subst hw1
  clear hw0
  have H1x : Hid (Blk (w.alloc (.cells #[.int .i64 0, .int .i64 0, .int .i64 units, .int .i64 0] 30)) (w.heap.size) #[.int .i64 0, .int .i64 0, .int .i64 units, .int .i64 0] 30) := (Blk.new w _ _)
  have H1B : Hid (Below w.heap.size w (w.alloc (.cells #[.int .i64 0, .int .i64 0, .int .i64 units, .int .i64 0] 30))) := (H0B.out).alloc (Nat.le_trans H0B.out.size (by simp)) _
  have L10 : Hid (w.heap.size ≤ w.heap.size) := H0B.out.size
  clear H0B 
  go_wp2_with fail
  refine (HAT.out _ H1B.out H1x.out).mono ?_
  rintro e w1 ⟨a, c, xs, ao, no, co, rfl, hm1, hb1⟩
  have H2x : Hid (Blk w1 (w.heap.size) #[.int .i64 0, .int .i64 0, .int .i64 units, .int .i64 0] 30) := H1x.out.next hb1
  have H2B : Hid (Below w.heap.size w w1) := bel_step H1B.out hb1
  clear H2x
  have HCh : Hid (Hm w1 a c xs ⟨me, 0, 1 + (pu : Int), h1, b1, 0, 0⟩) := hm1
  have H3o : Hid (Blk (w1.alloc (.cells #[.slice ao no co] 25)) (w1.heap.size) #[.slice ao no co] 25) := (Blk.new w1 _ _)
  have H3B : Hid (Below w.heap.size w (w1.alloc (.cells #[.slice ao no co] 25))) := (H2B.out).alloc (Nat.le_trans H2B.out.size (by simp)) _
  have L30 : Hid (w.heap.size ≤ w1.heap.size) := H2B.out.size
  have H3Ch : Hid (Hm (w1.alloc (.cells #[.slice ao no co] 25)) a c xs ⟨me, 0, 1 + (pu : Int), h1, b1, 0, 0⟩) := HCh.out.below ((Below.refl w1.heap.size w1).alloc (by simp) _)
  clear H1x H1B HCh H2B hb1 hm1 HAT
  clear H3o
  go_wp2_with fail
  refine (HPL.out _).mono ?_
  rintro e wl0 ⟨rfl, hwl⟩
  subst hwl
  go_wp2_with fail
  refine (HBT.out _ _ _ _ _ H3Ch.out).mono ?_
  rintro e w2 ⟨rfl, hb2⟩
  have H4B : Hid (Below w.heap.size w w2) := bel_step H3B.out hb2
  have H4Ch : Hid (Hm w2 a c xs ⟨me, 0, 1 + (pu : Int), h1, b1, 0, 0⟩) := H3Ch.out.below hb2
  unfold Mt.v Mt.cells
  simp only []
  have H5m : Hid (Blk (w2.alloc (.cells #[.int .i64 me, .int .i64 0, .int .i64 (1 + (pu : Int)), .int .i64 h1, .int .u64 (b1 : Int), .int .i64 0, .int .i64 0] 36)) (w2.heap.size) #[.int .i64 me, .int .i64 0, .int .i64 (1 + (pu : Int)), .int .i64 h1, .int .u64 (b1 : Int), .int .i64 0, .int .i64 0] 36) := (Blk.new w2 _ _)
  have H5B : Hid (Below w.heap.size w (w2.alloc (.cells #[.int .i64 me, .int .i64 0, .int .i64 (1 + (pu : Int)), .int .i64 h1, .int .u64 (b1 : Int), .int .i64 0, .int .i64 0] 36))) := (H4B.out).alloc (Nat.le_trans H4B.out.size (by simp)) _
  have L50 : Hid (w.heap.size ≤ w2.heap.size) := H4B.out.size
  have H5Ch : Hid (Hm (w2.alloc (.cells #[.int .i64 me, .int .i64 0, .int .i64 (1 + (pu : Int)), .int .i64 h1, .int .u64 (b1 : Int), .int .i64 0, .int .i64 0] 36)) a c xs ⟨me, 0, 1 + (pu : Int), h1, b1, 0, 0⟩) := H4Ch.out.below ((Below.refl w2.heap.size w2).alloc (by simp) _)
  clear H3Ch H3B H4Ch H4B hb2
  go_wp2_with fail
  refine (HTD.out _ _ _ _ H5Ch.out).mono ?_
  rintro e w3 ⟨b3, d3, wl, rfl, hg3, hw3, hb3⟩
  have H6m : Hid (Blk w3 (w2.heap.size) #[.int .i64 me, .int .i64 0, .int .i64 (1 + (pu : Int)), .int .i64 h1, .int .u64 (b1 : Int), .int .i64 0, .int .i64 0] 36) := H5m.out.next hb3
  have H6B : Hid (Below w.heap.size w w3) := bel_step H5B.out hb3
  have H6Ch : Hid (Hm w3 a c xs ⟨me, 0, 1 + (pu : Int), h1, b1, 0, 0⟩) := H5Ch.out.below hb3
  have HCg : Hid (Wg w3 b3 7 d3 wl) := hg3
  have HWI : Hid (WrIs xs ⟨me, 0, 1 + (pu : Int), h1, b1, 0, 0⟩ ⟨me, 0, 1 + (pu : Int) - bu, h1, b1, 0, 0⟩ wl) := hw3
  clear H5m H5Ch H5B hb3 hg3 hw3 HTD
  have e1 : (1 + (pu : Int) != 1 + (pu : Int)) = false := by simp
  have e2 : (bu != bu) = false := by simp
  go_upto_region 7 with fail
  have HBK : Hid (Blk w3.drew (w2.heap.size) #[.int .i64 me, .int .i64 0, .int .i64 (1 + (pu : Int)), .int .i64 h1, .int .u64 (b1 : Int), .int .i64 0, .int .i64 0] 36) := Blk.drew H6m.out 1
  refine wp_region_held_drew (S := fun v => Blk v (w2.heap.size) #[.int .i64 me, .int .i64 0, .int .i64 (1 + (pu : Int)), .int .i64 h1, .int .u64 (b1 : Int), .int .i64 0, .int .i64 0] 36) (by kernel_rfl) HBK.out (fun hHeld => ?_)
  refine take_at 0 50 (.int .i64 0) _ rfl rfl (by kernel_rfl) (by kernel_rfl) (by kernel_rfl) (fun _ _ _ h => h) (Or.inl ⟨by rfl, fun v hv => by skip; clear hv; go_simp⟩) hHeld ?_
  simp only [Act.put, List.setIfInBounds_toArray, List.set_cons_zero, List.set_cons_succ]
  refine take_at 1 51 (.bool false) _ rfl rfl (by kernel_rfl) (by kernel_rfl) (by kernel_rfl) (fun _ _ _ h => h) (Or.inl ⟨by rfl, fun v hv => by skip; clear hv; go_simp⟩) hHeld ?_
  simp only [Act.put, List.setIfInBounds_toArray, List.set_cons_zero, List.set_cons_succ]
  refine take_at 2 52 (.bool false) _ rfl rfl (by kernel_rfl) (by kernel_rfl) (by kernel_rfl) (fun _ _ _ h => h) (Or.inl ⟨by rfl, fun v hv => by skip; clear hv; go_simp⟩) hHeld ?_
  simp only [Act.put, List.setIfInBounds_toArray, List.set_cons_zero, List.set_cons_succ]
  refine take_at 3 53 (.int .i64 0) _ rfl rfl (by kernel_rfl) (by kernel_rfl) (by kernel_rfl) (fun _ _ _ h => h) (Or.inl ⟨by rfl, fun v hv => by skip; clear hv; go_simp⟩) hHeld ?_
  simp only [Act.put, List.setIfInBounds_toArray, List.set_cons_zero, List.set_cons_succ]
  refine take_at 4 54 (.bool false) _ rfl rfl (by kernel_rfl) (by kernel_rfl) (by kernel_rfl) (fun _ _ _ h => h) (Or.inl ⟨by rfl, fun v hv => by skip; clear hv; go_simp⟩) hHeld ?_
  simp only [Act.put, List.setIfInBounds_toArray, List.set_cons_zero, List.set_cons_succ]
  refine take_at 5 55 (.bool false) _ rfl rfl (by kernel_rfl) (by kernel_rfl) (by kernel_rfl) (fun _ _ _ h => h) (Or.inl ⟨by rfl, fun v hv => by skip; clear hv; go_simp⟩) hHeld ?_
  simp only [Act.put, List.setIfInBounds_toArray, List.set_cons_zero, List.set_cons_succ]
  refine take_at 6 56 (.bool false) _ rfl rfl (by kernel_rfl) (by kernel_rfl) (by kernel_rfl) (fun _ _ _ h => h) (Or.inl ⟨by rfl, fun v hv => by skip; clear hv; go_simp⟩) hHeld ?_
  simp only [Act.put, List.setIfInBounds_toArray, List.set_cons_zero, List.set_cons_succ]
  refine take_at 7 57 (.pointer (some ⟨w2.heap.size, 2, none⟩)) _ rfl rfl (by kernel_rfl) (by kernel_rfl) (by kernel_rfl) (fun _ _ _ h => h) (Or.inl ⟨by rfl, fun v hv => by skip; clear hv; go_simp⟩) hHeld ?_
  simp only [Act.put, List.setIfInBounds_toArray, List.set_cons_zero, List.set_cons_succ]
  refine take_at 8 58 (.int .i64 (1 + (pu : Int))) _ rfl rfl (by kernel_rfl) (by kernel_rfl) (by kernel_rfl) (fun _ _ _ h => h) (Or.inl ⟨by rfl, fun v hv => by have h2 := hv.cell 2; clear hv; go_simp⟩) hHeld ?_
  simp only [Act.put, List.setIfInBounds_toArray, List.set_cons_zero, List.set_cons_succ]
  refine take_at 9 59 (.int .i64 units) _ rfl rfl (by kernel_rfl) (by kernel_rfl) (by kernel_rfl) (fun _ _ _ h => h) (Or.inl ⟨by rfl, fun v hv => by skip; clear hv; go_simp⟩) hHeld ?_
  simp only [Act.put, List.setIfInBounds_toArray, List.set_cons_zero, List.set_cons_succ]
  refine call_at 10 60 (.int .i64 (pu : Int)) _ rfl rfl (by kernel_rfl) (by kernel_rfl) (by kernel_rfl) (fun _ _ _ h => h) 6 #[.int .i64 units, .int .i64 2097151] ⟨by rfl, fun v hv => by clear hv; go_simp⟩ (fun v _ => HPU.out v) hHeld ?_
  simp only [Act.put, List.setIfInBounds_toArray, List.set_cons_zero, List.set_cons_succ]
  refine take_at 11 61 (.int .i64 (1 + (pu : Int))) _ rfl rfl (by kernel_rfl) (by kernel_rfl) (by kernel_rfl) (fun _ _ _ h => h) (Or.inl ⟨by rfl, fun v hv => by skip; clear hv; go_simp⟩) hHeld ?_
  simp only [Act.put, List.setIfInBounds_toArray, List.set_cons_zero, List.set_cons_succ]
  refine take_at 12 62 (.bool false) _ rfl rfl (by kernel_rfl) (by kernel_rfl) (by kernel_rfl) (fun _ _ _ h => h) (Or.inl ⟨by rfl, fun v hv => by skip; clear hv; go_simp⟩) hHeld ?_
  simp only [Act.put, List.setIfInBounds_toArray, List.set_cons_zero, List.set_cons_succ]
  refine take_at 13 63 (.bool false) _ rfl rfl (by kernel_rfl) (by kernel_rfl) (by kernel_rfl) (fun _ _ _ h => h) (Or.inl ⟨by rfl, fun v hv => by skip; clear hv; go_simp⟩) hHeld ?_
  simp only [Act.put, List.setIfInBounds_toArray, List.set_cons_zero, List.set_cons_succ]
  refine take_at 14 64 (.bool false) _ rfl rfl (by kernel_rfl) (by kernel_rfl) (by kernel_rfl) (fun _ _ _ h => h) (Or.inl ⟨by rfl, fun v hv => by skip; clear hv; go_simp⟩) hHeld ?_
  simp only [Act.put, List.setIfInBounds_toArray, List.set_cons_zero, List.set_cons_succ]
  refine take_at 15 65 (.int .i64 bu) _ rfl rfl (by kernel_rfl) (by kernel_rfl) (by kernel_rfl) (fun _ _ _ h => h) (Or.inl ⟨by rfl, fun v hv => by skip; clear hv; go_simp⟩) hHeld ?_
  simp only [Act.put, List.setIfInBounds_toArray, List.set_cons_zero, List.set_cons_succ]
  refine take_at 16 66 (.int .i64 ld) _ rfl rfl (by kernel_rfl) (by kernel_rfl) (by kernel_rfl) (fun _ _ _ h => h) (Or.inl ⟨by rfl, fun v hv => by skip; clear hv; go_simp⟩) hHeld ?_
  simp only [Act.put, List.setIfInBounds_toArray, List.set_cons_zero, List.set_cons_succ]
  refine take_at 17 67 (.pointer (some ⟨w2.heap.size, 2, none⟩)) _ rfl rfl (by kernel_rfl) (by kernel_rfl) (by kernel_rfl) (fun _ _ _ h => h) (Or.inl ⟨by rfl, fun v hv => by skip; clear hv; go_simp⟩) hHeld ?_
  simp only [Act.put, List.setIfInBounds_toArray, List.set_cons_zero, List.set_cons_succ]
  refine take_at 18 68 (.int .i64 (1 + (pu : Int))) _ rfl rfl (by kernel_rfl) (by kernel_rfl) (by kernel_rfl) (fun _ _ _ h => h) (Or.inl ⟨by rfl, fun v hv => by have h2 := hv.cell 2; clear hv; go_simp⟩) hHeld ?_
  simp only [Act.put, List.setIfInBounds_toArray, List.set_cons_zero, List.set_cons_succ]
  refine take_at 19 69 (.int .i64 bu) _ rfl rfl (by kernel_rfl) (by kernel_rfl) (by kernel_rfl) (fun _ _ _ h => h) (Or.inl ⟨by rfl, fun v hv => by skip; clear hv; go_simp⟩) hHeld ?_
  simp only [Act.put, List.setIfInBounds_toArray, List.set_cons_zero, List.set_cons_succ]
  refine take_at 20 70 (.bool false) _ rfl rfl (by kernel_rfl) (by kernel_rfl) (by kernel_rfl) (fun _ _ _ h => h) (Or.inl ⟨by rfl, fun v hv => by skip; clear hv; go_simp⟩) hHeld ?_
  simp only [Act.put, List.setIfInBounds_toArray, List.set_cons_zero, List.set_cons_succ]
  refine take_at 21 71 (.bool false) _ rfl rfl (by kernel_rfl) (by kernel_rfl) (by kernel_rfl) (fun _ _ _ h => h) (Or.inl ⟨by rfl, fun v hv => by skip; clear hv; go_simp⟩) hHeld ?_
  simp only [Act.put, List.setIfInBounds_toArray, List.set_cons_zero, List.set_cons_succ]
  refine take_at 22 72 (.bool false) _ rfl rfl (by kernel_rfl) (by kernel_rfl) (by kernel_rfl) (fun _ _ _ h => h) (Or.inl ⟨by rfl, fun v hv => by skip; clear hv; go_simp⟩) hHeld ?_
  simp only [Act.put, List.setIfInBounds_toArray, List.set_cons_zero, List.set_cons_succ]
  refine take_at 23 73 (.slice b3 7 d3) _ rfl rfl (by kernel_rfl) (by kernel_rfl) (by kernel_rfl) (fun _ _ _ h => h) (Or.inl ⟨by rfl, fun v hv => by skip; clear hv; go_simp⟩) hHeld ?_
  simp only [Act.put, List.setIfInBounds_toArray, List.set_cons_zero, List.set_cons_succ]
  refine take_at 24 74 (.int .i64 7) _ rfl rfl (by kernel_rfl) (by kernel_rfl) (by kernel_rfl) (fun _ _ _ h => h) (Or.inl ⟨by rfl, fun v hv => by skip; clear hv; go_simp⟩) hHeld ?_
  simp only [Act.put, List.setIfInBounds_toArray, List.set_cons_zero, List.set_cons_succ]
  refine take_at 25 75 (.bool false) _ rfl rfl (by kernel_rfl) (by kernel_rfl) (by kernel_rfl) (fun _ _ _ h => h) (Or.inl ⟨by rfl, fun v hv => by skip; clear hv; go_simp⟩) hHeld ?_
  simp only [Act.put, List.setIfInBounds_toArray, List.set_cons_zero, List.set_cons_succ]
  refine take_at 26 76 (.int .i64 bu) _ rfl rfl (by kernel_rfl) (by kernel_rfl) (by kernel_rfl) (fun _ _ _ h => h) (Or.inl ⟨by rfl, fun v hv => by skip; clear hv; go_simp⟩) hHeld ?_
  simp only [Act.put, List.setIfInBounds_toArray, List.set_cons_zero, List.set_cons_succ]
  refine take_at 27 77 (.bool false) _ rfl rfl (by kernel_rfl) (by kernel_rfl) (by kernel_rfl) (fun _ _ _ h => h) (Or.inl ⟨by rfl, fun v hv => by skip; clear hv; go_simp⟩) hHeld ?_
  simp only [Act.put, List.setIfInBounds_toArray, List.set_cons_zero, List.set_cons_succ]
  refine take_at 28 78 (.bool false) _ rfl rfl (by kernel_rfl) (by kernel_rfl) (by kernel_rfl) (fun _ _ _ h => h) (Or.inl ⟨by rfl, fun v hv => by skip; clear hv; go_simp⟩) hHeld ?_
  simp only [Act.put, List.setIfInBounds_toArray, List.set_cons_zero, List.set_cons_succ]
  refine take_at 29 79 (.bool false) _ rfl rfl (by kernel_rfl) (by kernel_rfl) (by kernel_rfl) (fun _ _ _ h => h) (Or.inl ⟨by rfl, fun v hv => by skip; clear hv; go_simp⟩) hHeld ?_
  simp only [Act.put, List.setIfInBounds_toArray, List.set_cons_zero, List.set_cons_succ]
  refine wpAnyH_done (by kernel_rfl) ?_ _
  clear hHeld HBK
  have H7m : Hid (Blk w3.drew (w2.heap.size) #[.int .i64 me, .int .i64 0, .int .i64 (1 + (pu : Int)), .int .i64 h1, .int .u64 (b1 : Int), .int .i64 0, .int .i64 0] 36) := Blk.drew H6m.out 1
  have H7B : Hid (Below w.heap.size w w3.drew) := H6B.out.drew
  have H7Ch : Hid (Hm w3.drew a c xs ⟨me, 0, 1 + (pu : Int), h1, b1, 0, 0⟩) := H6Ch.out.below (Below.refl _ _).drew
  have H7Cg : Hid (Wg w3.drew b3 7 d3 wl) := HCg.out.below (Below.refl _ _).drew
  clear H6m H6Ch HCg H6B
  generalize w3.drew = WD at *
  clear e1 e2 e4
  have HAQ : Hid (Calls Tryd.prog 9 #[.slice a 12 c, .slice b3 7 d3, .int .i64 (q : Int)] WD fun e w' => ∃ a' c' xs', e = .returned (.tuple #[.slice a' 12 c', .int .i64 0]) ∧ (q = 7 → Hm w' a' c' xs' ⟨me, 0, 1 + (pu : Int) - bu, h1, b1, 0, 0⟩) ∧ (q < 7 → Hm w' a' c' xs' ⟨me, 0, 1 + (pu : Int), h1, b1, 0, 0⟩) ∧ Below WD.heap.size WD w') := HAP.out WD a c xs b3 d3 wl q H7Ch.out H7Cg.out HWI.out HQ7.out
  clear H7Ch H7Cg HWI
  go_wp2_with fail
  refine (HPK.out _).mono ?_
  rintro e wq ⟨rfl, hwq⟩
  subst hwq
  go_wp2_with fail
  refine HAQ.out.mono ?_
  rintro e w10 ⟨a10, c10, xs10, rfl, hA, hB, hb10⟩
  have H8m : Hid (Blk w10 (w2.heap.size) #[.int .i64 me, .int .i64 0, .int .i64 (1 + (pu : Int)), .int .i64 h1, .int .u64 (b1 : Int), .int .i64 0, .int .i64 0] 36) := H7m.out.next hb10
  have H8B : Hid (Below w.heap.size w w10) := bel_step H7B.out hb10
  clear H7m H7B hb10 HAQ
  have hqq := HQ7.out
  by_cases hq : q < 7
  · have HH : Hid (Hm w10 a10 c10 xs10 ⟨me, 0, 1 + (pu : Int), h1, b1, 0, 0⟩) := hB hq
    have hdq : ((q : Int) == 7) = false := by simp; omega
    have e5 : ((1 + (pu : Int)) == (1 + (pu : Int))) = true := by simp
    have hqm : ∀ W : World, (Op.equalIn 10000 34 (.agg #[.int .i64 h1, .int .u64 (b1 : Int)]) (.agg #[.int .i64 h1, .int .u64 (b1 : Int)])).run Tryd.prog W = .ok true W := fun W => eqWd 9998 _ _ W
    clear hA hB hq hqq
    go_wp2_with fail
    refine (HBT.out _ _ _ _ _ HH.out).mono ?_
    rintro e w11 ⟨rfl, hb11⟩
    have H9m : Hid (Blk w11 (w2.heap.size) #[.int .i64 me, .int .i64 0, .int .i64 (1 + (pu : Int)), .int .i64 h1, .int .u64 (b1 : Int), .int .i64 0, .int .i64 0] 36) := H8m.out.next hb11
    have H9B : Hid (Below w.heap.size w w11) := bel_step H8B.out hb11
    unfold Mt.v Mt.cells
    simp only []
    have H10m : Hid (Blk (w11.alloc (.cells #[.int .i64 me, .int .i64 0, .int .i64 (1 + (pu : Int)), .int .i64 h1, .int .u64 (b1 : Int), .int .i64 0, .int .i64 0] 36)) (w2.heap.size) #[.int .i64 me, .int .i64 0, .int .i64 (1 + (pu : Int)), .int .i64 h1, .int .u64 (b1 : Int), .int .i64 0, .int .i64 0] 36) := (H9m.out).alloc _
    have H10z : Hid (Blk (w11.alloc (.cells #[.int .i64 me, .int .i64 0, .int .i64 (1 + (pu : Int)), .int .i64 h1, .int .u64 (b1 : Int), .int .i64 0, .int .i64 0] 36)) (w11.heap.size) #[.int .i64 me, .int .i64 0, .int .i64 (1 + (pu : Int)), .int .i64 h1, .int .u64 (b1 : Int), .int .i64 0, .int .i64 0] 36) := (Blk.new w11 _ _)
    have L10zm : Hid (w2.heap.size < w11.heap.size) := Nat.lt_of_lt_of_le H9m.out.lt (by simp)
    have H10B : Hid (Below w.heap.size w (w11.alloc (.cells #[.int .i64 me, .int .i64 0, .int .i64 (1 + (pu : Int)), .int .i64 h1, .int .u64 (b1 : Int), .int .i64 0, .int .i64 0] 36))) := (H9B.out).alloc (Nat.le_trans H9B.out.size (by simp)) _
    have L100 : Hid (w.heap.size ≤ w11.heap.size) := H9B.out.size
    clear H8m H8B H9m H9B hb11 HH HBT
    have q_m_2 : (w11.alloc (.cells #[.int .i64 me, .int .i64 0, .int .i64 (1 + (pu : Int)), .int .i64 h1, .int .u64 (b1 : Int), .int .i64 0, .int .i64 0] 36)).cell? ⟨w2.heap.size, 2, none⟩ = some (.int .i64 (1 + (pu : Int))) := H10m.out.cell 2
    have q_m_3 : (w11.alloc (.cells #[.int .i64 me, .int .i64 0, .int .i64 (1 + (pu : Int)), .int .i64 h1, .int .u64 (b1 : Int), .int .i64 0, .int .i64 0] 36)).cell? ⟨w2.heap.size, 3, none⟩ = some (.int .i64 h1) := H10m.out.cell 3
    have q_m_4 : (w11.alloc (.cells #[.int .i64 me, .int .i64 0, .int .i64 (1 + (pu : Int)), .int .i64 h1, .int .u64 (b1 : Int), .int .i64 0, .int .i64 0] 36)).cell? ⟨w2.heap.size, 4, none⟩ = some (.int .u64 (b1 : Int)) := H10m.out.cell 4
    have q_z_2 : (w11.alloc (.cells #[.int .i64 me, .int .i64 0, .int .i64 (1 + (pu : Int)), .int .i64 h1, .int .u64 (b1 : Int), .int .i64 0, .int .i64 0] 36)).cell? ⟨w11.heap.size, 2, none⟩ = some (.int .i64 (1 + (pu : Int))) := H10z.out.cell 2
    have q_z_3 : (w11.alloc (.cells #[.int .i64 me, .int .i64 0, .int .i64 (1 + (pu : Int)), .int .i64 h1, .int .u64 (b1 : Int), .int .i64 0, .int .i64 0] 36)).cell? ⟨w11.heap.size, 3, none⟩ = some (.int .i64 h1) := H10z.out.cell 3
    have q_z_4 : (w11.alloc (.cells #[.int .i64 me, .int .i64 0, .int .i64 (1 + (pu : Int)), .int .i64 h1, .int .u64 (b1 : Int), .int .i64 0, .int .i64 0] 36)).cell? ⟨w11.heap.size, 4, none⟩ = some (.int .u64 (b1 : Int)) := H10z.out.cell 4
    go_wp2_with (first
      | (refine wp_whole rfl 36 _ rfl (w2.heap.size) rfl 36 #[.int .i64 me, .int .i64 0, .int .i64 (1 + (pu : Int)), .int .i64 h1, .int .u64 (b1 : Int), .int .i64 0, .int .i64 0] _ H10m.out Tryd.underlying36 rfl (by kernel_rfl) ?_)
      | (refine wp_wholeG (by rfl) 36 _ rfl (w2.heap.size) rfl 36 #[.int .i64 me, .int .i64 0, .int .i64 (1 + (pu : Int)), .int .i64 h1, .int .u64 (b1 : Int), .int .i64 0, .int .i64 0] _ H10m.out Tryd.underlying36 rfl (by kernel_rfl) ?_)
      | (refine wp_whole rfl 36 _ rfl (w11.heap.size) rfl 36 #[.int .i64 me, .int .i64 0, .int .i64 (1 + (pu : Int)), .int .i64 h1, .int .u64 (b1 : Int), .int .i64 0, .int .i64 0] _ H10z.out Tryd.underlying36 rfl (by kernel_rfl) ?_)
      | (refine wp_wholeG (by rfl) 36 _ rfl (w11.heap.size) rfl 36 #[.int .i64 me, .int .i64 0, .int .i64 (1 + (pu : Int)), .int .i64 h1, .int .u64 (b1 : Int), .int .i64 0, .int .i64 0] _ H10z.out Tryd.underlying36 rfl (by kernel_rfl) ?_)
      | fail)
    go_ret
    exact ⟨rfl, H10B.out⟩
  · have HH : Hid (Hm w10 a10 c10 xs10 ⟨me, 0, 1 + (pu : Int) - bu, h1, b1, 0, 0⟩) := hA (by omega)
    have hdq : ((q : Int) == 7) = true := by simp; omega
    have e5 : ((1 + (pu : Int) - bu) == (1 + (pu : Int) - bu)) = true := by simp
    have hqm : ∀ W : World, (Op.equalIn 10000 34 (.agg #[.int .i64 h1, .int .u64 (b1 : Int)]) (.agg #[.int .i64 h1, .int .u64 (b1 : Int)])).run Tryd.prog W = .ok true W := fun W => eqWd 9998 _ _ W
    clear hA hB hq hqq
    go_wp2_with fail
    refine (HBT.out _ _ _ _ _ HH.out).mono ?_
    rintro e w11 ⟨rfl, hb11⟩
    have H9m : Hid (Blk w11 (w2.heap.size) #[.int .i64 me, .int .i64 0, .int .i64 (1 + (pu : Int)), .int .i64 h1, .int .u64 (b1 : Int), .int .i64 0, .int .i64 0] 36) := H8m.out.next hb11
    have H9B : Hid (Below w.heap.size w w11) := bel_step H8B.out hb11
    unfold Mt.v Mt.cells
    simp only []
    have H10m : Hid (Blk (w11.alloc (.cells #[.int .i64 me, .int .i64 0, .int .i64 (1 + (pu : Int) - bu), .int .i64 h1, .int .u64 (b1 : Int), .int .i64 0, .int .i64 0] 36)) (w2.heap.size) #[.int .i64 me, .int .i64 0, .int .i64 (1 + (pu : Int)), .int .i64 h1, .int .u64 (b1 : Int), .int .i64 0, .int .i64 0] 36) := (H9m.out).alloc _
    have H10z : Hid (Blk (w11.alloc (.cells #[.int .i64 me, .int .i64 0, .int .i64 (1 + (pu : Int) - bu), .int .i64 h1, .int .u64 (b1 : Int), .int .i64 0, .int .i64 0] 36)) (w11.heap.size) #[.int .i64 me, .int .i64 0, .int .i64 (1 + (pu : Int) - bu), .int .i64 h1, .int .u64 (b1 : Int), .int .i64 0, .int .i64 0] 36) := (Blk.new w11 _ _)
    have L10zm : Hid (w2.heap.size < w11.heap.size) := Nat.lt_of_lt_of_le H9m.out.lt (by simp)
    have H10B : Hid (Below w.heap.size w (w11.alloc (.cells #[.int .i64 me, .int .i64 0, .int .i64 (1 + (pu : Int) - bu), .int .i64 h1, .int .u64 (b1 : Int), .int .i64 0, .int .i64 0] 36))) := (H9B.out).alloc (Nat.le_trans H9B.out.size (by simp)) _
    have L100 : Hid (w.heap.size ≤ w11.heap.size) := H9B.out.size
    clear H8m H8B H9m H9B hb11 HH HBT
    have q_m_2 : (w11.alloc (.cells #[.int .i64 me, .int .i64 0, .int .i64 (1 + (pu : Int) - bu), .int .i64 h1, .int .u64 (b1 : Int), .int .i64 0, .int .i64 0] 36)).cell? ⟨w2.heap.size, 2, none⟩ = some (.int .i64 (1 + (pu : Int))) := H10m.out.cell 2
    have q_m_3 : (w11.alloc (.cells #[.int .i64 me, .int .i64 0, .int .i64 (1 + (pu : Int) - bu), .int .i64 h1, .int .u64 (b1 : Int), .int .i64 0, .int .i64 0] 36)).cell? ⟨w2.heap.size, 3, none⟩ = some (.int .i64 h1) := H10m.out.cell 3
    have q_m_4 : (w11.alloc (.cells #[.int .i64 me, .int .i64 0, .int .i64 (1 + (pu : Int) - bu), .int .i64 h1, .int .u64 (b1 : Int), .int .i64 0, .int .i64 0] 36)).cell? ⟨w2.heap.size, 4, none⟩ = some (.int .u64 (b1 : Int)) := H10m.out.cell 4
    have q_z_2 : (w11.alloc (.cells #[.int .i64 me, .int .i64 0, .int .i64 (1 + (pu : Int) - bu), .int .i64 h1, .int .u64 (b1 : Int), .int .i64 0, .int .i64 0] 36)).cell? ⟨w11.heap.size, 2, none⟩ = some (.int .i64 (1 + (pu : Int) - bu)) := H10z.out.cell 2
    have q_z_3 : (w11.alloc (.cells #[.int .i64 me, .int .i64 0, .int .i64 (1 + (pu : Int) - bu), .int .i64 h1, .int .u64 (b1 : Int), .int .i64 0, .int .i64 0] 36)).cell? ⟨w11.heap.size, 3, none⟩ = some (.int .i64 h1) := H10z.out.cell 3
    have q_z_4 : (w11.alloc (.cells #[.int .i64 me, .int .i64 0, .int .i64 (1 + (pu : Int) - bu), .int .i64 h1, .int .u64 (b1 : Int), .int .i64 0, .int .i64 0] 36)).cell? ⟨w11.heap.size, 4, none⟩ = some (.int .u64 (b1 : Int)) := H10z.out.cell 4
    go_wp2_with (first
      | (refine wp_whole rfl 36 _ rfl (w2.heap.size) rfl 36 #[.int .i64 me, .int .i64 0, .int .i64 (1 + (pu : Int)), .int .i64 h1, .int .u64 (b1 : Int), .int .i64 0, .int .i64 0] _ H10m.out Tryd.underlying36 rfl (by kernel_rfl) ?_)
      | (refine wp_wholeG (by rfl) 36 _ rfl (w2.heap.size) rfl 36 #[.int .i64 me, .int .i64 0, .int .i64 (1 + (pu : Int)), .int .i64 h1, .int .u64 (b1 : Int), .int .i64 0, .int .i64 0] _ H10m.out Tryd.underlying36 rfl (by kernel_rfl) ?_)
      | (refine wp_whole rfl 36 _ rfl (w11.heap.size) rfl 36 #[.int .i64 me, .int .i64 0, .int .i64 (1 + (pu : Int) - bu), .int .i64 h1, .int .u64 (b1 : Int), .int .i64 0, .int .i64 0] _ H10z.out Tryd.underlying36 rfl (by kernel_rfl) ?_)
      | (refine wp_wholeG (by rfl) 36 _ rfl (w11.heap.size) rfl 36 #[.int .i64 me, .int .i64 0, .int .i64 (1 + (pu : Int) - bu), .int .i64 h1, .int .u64 (b1 : Int), .int .i64 0, .int .i64 0] _ H10z.out Tryd.underlying36 rfl (by kernel_rfl) ?_)
      | fail)
    go_ret
    exact ⟨rfl, H10B.out⟩
set_option maxHeartbeats 8000000 in
theorem burns_B2 (me0 me units load k0 ld bu h1 : Int) (b1 pu q : Nat) (w : World) (hq : q ≤ 7) (hpu : pu < 2097151) (hl0 : 0 ≤ ld) (hl1 : ld ≤ 1000) (hld : 0 < ld) (hlc : ¬ 1 + (pu : Int) < ld) (hbu : bu = ld)
    (hp : ∀ W, Calls Tryd.prog 6 #[.int .i64 me0, .int .i64 50] W fun e w' => e = .returned (.int .i64 me) ∧ w' = W)
    (hpl : ∀ W, Calls Tryd.prog 6 #[.int .i64 load, .int .i64 1001] W fun e w' => e = .returned (.int .i64 ld) ∧ w' = W)
    (hpu : ∀ W, Calls Tryd.prog 6 #[.int .i64 units, .int .i64 2097151] W fun e w' => e = .returned (.int .i64 (pu : Int)) ∧ w' = W)
    (hpk : ∀ W, Calls Tryd.prog 6 #[.int .i64 k0, .int .i64 8] W fun e w' => e = .returned (.int .i64 (q : Int)) ∧ w' = W)
    (hat : ∀ W, Below w.heap.size w W → Blk W w.heap.size #[.int .i64 0, .int .i64 0, .int .i64 units, .int .i64 0] 30 → Calls Tryd.prog 5 #[.int .i64 me, .slice (some ⟨w.heap.size, 0, none⟩) 1 1] W fun e w' => ∃ a c xs ao no co, e = .returned (.tuple #[.slice a 12 c, .agg #[.slice ao no co], .bool true]) ∧ Hm w' a c xs ⟨me, 0, 1 + (pu : Int), h1, b1, 0, 0⟩ ∧ Below W.heap.size W w')
    (hbt : ∀ W a c xs m, Hm W a c xs m → Calls Tryd.prog 7 #[.slice a 12 c] W fun e w' => e = .returned (.tuple #[m.v, .int .i64 0]) ∧ Below W.heap.size W w')
    (htd : ∀ W a c xs, Hm W a c xs ⟨me, 0, 1 + (pu : Int), h1, b1, 0, 0⟩ → Calls Tryd.prog 8 #[.slice a 12 c, .int .i64 ld] W fun e w' => ∃ b d wl, e = .returned (.tuple #[.slice b 7 d, .int .i64 bu, .int .i64 0]) ∧ Wg w' b 7 d wl ∧ WrIs xs ⟨me, 0, 1 + (pu : Int), h1, b1, 0, 0⟩ ⟨me, 0, 1 + (pu : Int) - bu, h1, b1, 0, 0⟩ wl ∧ Below W.heap.size W w')
    (hap : ∀ W a c xs b d wl (q : Nat), Hm W a c xs ⟨me, 0, 1 + (pu : Int), h1, b1, 0, 0⟩ → Wg W b 7 d wl → WrIs xs ⟨me, 0, 1 + (pu : Int), h1, b1, 0, 0⟩ ⟨me, 0, 1 + (pu : Int) - bu, h1, b1, 0, 0⟩ wl → q ≤ 7 → Calls Tryd.prog 9 #[.slice a 12 c, .slice b 7 d, .int .i64 (q : Int)] W fun e w' => ∃ a' c' xs', e = .returned (.tuple #[.slice a' 12 c', .int .i64 0]) ∧ (q = 7 → Hm w' a' c' xs' ⟨me, 0, 1 + (pu : Int) - bu, h1, b1, 0, 0⟩) ∧ (q < 7 → Hm w' a' c' xs' ⟨me, 0, 1 + (pu : Int), h1, b1, 0, 0⟩) ∧ Below W.heap.size W w')
    : Calls Tryd.prog 3 #[.int .i64 me0, .int .i64 units, .int .i64 load, .int .i64 k0] w fun e w' => e = .returned (.bool true) ∧ Below w.heap.size w w' := by
  have HP : Hid (∀ W, Calls Tryd.prog 6 #[.int .i64 me0, .int .i64 50] W fun e w' => e = .returned (.int .i64 me) ∧ w' = W) := hp
  have HPL : Hid (∀ W, Calls Tryd.prog 6 #[.int .i64 load, .int .i64 1001] W fun e w' => e = .returned (.int .i64 ld) ∧ w' = W) := hpl
  have HPU : Hid (∀ W, Calls Tryd.prog 6 #[.int .i64 units, .int .i64 2097151] W fun e w' => e = .returned (.int .i64 (pu : Int)) ∧ w' = W) := hpu
  have HPK : Hid (∀ W, Calls Tryd.prog 6 #[.int .i64 k0, .int .i64 8] W fun e w' => e = .returned (.int .i64 (q : Int)) ∧ w' = W) := hpk
  have HAT : Hid (∀ W, Below w.heap.size w W → Blk W w.heap.size #[.int .i64 0, .int .i64 0, .int .i64 units, .int .i64 0] 30 → Calls Tryd.prog 5 #[.int .i64 me, .slice (some ⟨w.heap.size, 0, none⟩) 1 1] W fun e w' => ∃ a c xs ao no co, e = .returned (.tuple #[.slice a 12 c, .agg #[.slice ao no co], .bool true]) ∧ Hm w' a c xs ⟨me, 0, 1 + (pu : Int), h1, b1, 0, 0⟩ ∧ Below W.heap.size W w') := hat
  have HBT : Hid (∀ W a c xs m, Hm W a c xs m → Calls Tryd.prog 7 #[.slice a 12 c] W fun e w' => e = .returned (.tuple #[m.v, .int .i64 0]) ∧ Below W.heap.size W w') := hbt
  have HTD : Hid (∀ W a c xs, Hm W a c xs ⟨me, 0, 1 + (pu : Int), h1, b1, 0, 0⟩ → Calls Tryd.prog 8 #[.slice a 12 c, .int .i64 ld] W fun e w' => ∃ b d wl, e = .returned (.tuple #[.slice b 7 d, .int .i64 bu, .int .i64 0]) ∧ Wg w' b 7 d wl ∧ WrIs xs ⟨me, 0, 1 + (pu : Int), h1, b1, 0, 0⟩ ⟨me, 0, 1 + (pu : Int) - bu, h1, b1, 0, 0⟩ wl ∧ Below W.heap.size W w') := htd
  have HAP : Hid (∀ W a c xs b d wl (q : Nat), Hm W a c xs ⟨me, 0, 1 + (pu : Int), h1, b1, 0, 0⟩ → Wg W b 7 d wl → WrIs xs ⟨me, 0, 1 + (pu : Int), h1, b1, 0, 0⟩ ⟨me, 0, 1 + (pu : Int) - bu, h1, b1, 0, 0⟩ wl → q ≤ 7 → Calls Tryd.prog 9 #[.slice a 12 c, .slice b 7 d, .int .i64 (q : Int)] W fun e w' => ∃ a' c' xs', e = .returned (.tuple #[.slice a' 12 c', .int .i64 0]) ∧ (q = 7 → Hm w' a' c' xs' ⟨me, 0, 1 + (pu : Int) - bu, h1, b1, 0, 0⟩) ∧ (q < 7 → Hm w' a' c' xs' ⟨me, 0, 1 + (pu : Int), h1, b1, 0, 0⟩) ∧ Below W.heap.size W w') := hap
  have HQ7 : Hid (q ≤ 7) := hq
  have hwr : IntKind.i64.wrap (1 + (pu : Int)) = 1 + (pu : Int) := wrap_small (by omega) (by omega)
  have e4 : (bu == 0) = false := by simp; omega
  have hb0 : 0 < bu := by omega
  have hb1 : bu ≤ 1 + (pu : Int) := by omega
  have hmn : min ld (1 + (pu : Int)) = bu := by omega
  clear hbu hlc hld
  clear hq hp hpl hpu hpk hat hbt htd hap
  have H0B : Hid (Below w.heap.size w w) := Below.refl _ _
  go_enter Tryd.func3, Tryd.ntmps3
  go_wp2_with fail
  refine (HP.out _).mono ?_
  rintro e w0 ⟨rfl, hw0⟩
  have hw1 := hw0.symm
  subst hw1
  clear hw0
  have H1x : Hid (Blk (w.alloc (.cells #[.int .i64 0, .int .i64 0, .int .i64 units, .int .i64 0] 30)) (w.heap.size) #[.int .i64 0, .int .i64 0, .int .i64 units, .int .i64 0] 30) := (Blk.new w _ _)
  have H1B : Hid (Below w.heap.size w (w.alloc (.cells #[.int .i64 0, .int .i64 0, .int .i64 units, .int .i64 0] 30))) := (H0B.out).alloc (Nat.le_trans H0B.out.size (by simp)) _
  have L10 : Hid (w.heap.size ≤ w.heap.size) := H0B.out.size
  clear H0B 
  go_wp2_with fail
  refine (HAT.out _ H1B.out H1x.out).mono ?_
  rintro e w1 ⟨a, c, xs, ao, no, co, rfl, hm1, hb1⟩
  have H2x : Hid (Blk w1 (w.heap.size) #[.int .i64 0, .int .i64 0, .int .i64 units, .int .i64 0] 30) := H1x.out.next hb1
  have H2B : Hid (Below w.heap.size w w1) := bel_step H1B.out hb1
  clear H2x
  have HCh : Hid (Hm w1 a c xs ⟨me, 0, 1 + (pu : Int), h1, b1, 0, 0⟩) := hm1
  have H3o : Hid (Blk (w1.alloc (.cells #[.slice ao no co] 25)) (w1.heap.size) #[.slice ao no co] 25) := (Blk.new w1 _ _)
  have H3B : Hid (Below w.heap.size w (w1.alloc (.cells #[.slice ao no co] 25))) := (H2B.out).alloc (Nat.le_trans H2B.out.size (by simp)) _
  have L30 : Hid (w.heap.size ≤ w1.heap.size) := H2B.out.size
  have H3Ch : Hid (Hm (w1.alloc (.cells #[.slice ao no co] 25)) a c xs ⟨me, 0, 1 + (pu : Int), h1, b1, 0, 0⟩) := HCh.out.below ((Below.refl w1.heap.size w1).alloc (by simp) _)
  clear H1x H1B HCh H2B hb1 hm1 HAT
  clear H3o
  go_wp2_with fail
  refine (HPL.out _).mono ?_
  rintro e wl0 ⟨rfl, hwl⟩
  subst hwl
  go_wp2_with fail
  refine (HBT.out _ _ _ _ _ H3Ch.out).mono ?_
  rintro e w2 ⟨rfl, hb2⟩
  have H4B : Hid (Below w.heap.size w w2) := bel_step H3B.out hb2
  have H4Ch : Hid (Hm w2 a c xs ⟨me, 0, 1 + (pu : Int), h1, b1, 0, 0⟩) := H3Ch.out.below hb2
  unfold Mt.v Mt.cells
  simp only []
  have H5m : Hid (Blk (w2.alloc (.cells #[.int .i64 me, .int .i64 0, .int .i64 (1 + (pu : Int)), .int .i64 h1, .int .u64 (b1 : Int), .int .i64 0, .int .i64 0] 36)) (w2.heap.size) #[.int .i64 me, .int .i64 0, .int .i64 (1 + (pu : Int)), .int .i64 h1, .int .u64 (b1 : Int), .int .i64 0, .int .i64 0] 36) := (Blk.new w2 _ _)
  have H5B : Hid (Below w.heap.size w (w2.alloc (.cells #[.int .i64 me, .int .i64 0, .int .i64 (1 + (pu : Int)), .int .i64 h1, .int .u64 (b1 : Int), .int .i64 0, .int .i64 0] 36))) := (H4B.out).alloc (Nat.le_trans H4B.out.size (by simp)) _
  have L50 : Hid (w.heap.size ≤ w2.heap.size) := H4B.out.size
  have H5Ch : Hid (Hm (w2.alloc (.cells #[.int .i64 me, .int .i64 0, .int .i64 (1 + (pu : Int)), .int .i64 h1, .int .u64 (b1 : Int), .int .i64 0, .int .i64 0] 36)) a c xs ⟨me, 0, 1 + (pu : Int), h1, b1, 0, 0⟩) := H4Ch.out.below ((Below.refl w2.heap.size w2).alloc (by simp) _)
  clear H3Ch H3B H4Ch H4B hb2
  go_wp2_with fail
  refine (HTD.out _ _ _ _ H5Ch.out).mono ?_
  rintro e w3 ⟨b3, d3, wl, rfl, hg3, hw3, hb3⟩
  have H6m : Hid (Blk w3 (w2.heap.size) #[.int .i64 me, .int .i64 0, .int .i64 (1 + (pu : Int)), .int .i64 h1, .int .u64 (b1 : Int), .int .i64 0, .int .i64 0] 36) := H5m.out.next hb3
  have H6B : Hid (Below w.heap.size w w3) := bel_step H5B.out hb3
  have H6Ch : Hid (Hm w3 a c xs ⟨me, 0, 1 + (pu : Int), h1, b1, 0, 0⟩) := H5Ch.out.below hb3
  have HCg : Hid (Wg w3 b3 7 d3 wl) := hg3
  have HWI : Hid (WrIs xs ⟨me, 0, 1 + (pu : Int), h1, b1, 0, 0⟩ ⟨me, 0, 1 + (pu : Int) - bu, h1, b1, 0, 0⟩ wl) := hw3
  clear H5m H5Ch H5B hb3 hg3 hw3 HTD
  have e1 : (1 + (pu : Int) != 1 + (pu : Int)) = false := by simp
  have e2 : (bu != bu) = false := by simp
  go_upto_region 7 with fail
  have HBK : Hid (Blk w3.drew (w2.heap.size) #[.int .i64 me, .int .i64 0, .int .i64 (1 + (pu : Int)), .int .i64 h1, .int .u64 (b1 : Int), .int .i64 0, .int .i64 0] 36) := Blk.drew H6m.out 1
  refine wp_region_held_drew (S := fun v => Blk v (w2.heap.size) #[.int .i64 me, .int .i64 0, .int .i64 (1 + (pu : Int)), .int .i64 h1, .int .u64 (b1 : Int), .int .i64 0, .int .i64 0] 36) (by kernel_rfl) HBK.out (fun hHeld => ?_)
  refine take_at 0 50 (.int .i64 0) _ rfl rfl (by kernel_rfl) (by kernel_rfl) (by kernel_rfl) (fun _ _ _ h => h) (Or.inl ⟨by rfl, fun v hv => by skip; clear hv; go_simp⟩) hHeld ?_
  simp only [Act.put, List.setIfInBounds_toArray, List.set_cons_zero, List.set_cons_succ]
  refine take_at 1 51 (.bool false) _ rfl rfl (by kernel_rfl) (by kernel_rfl) (by kernel_rfl) (fun _ _ _ h => h) (Or.inl ⟨by rfl, fun v hv => by skip; clear hv; go_simp⟩) hHeld ?_
  simp only [Act.put, List.setIfInBounds_toArray, List.set_cons_zero, List.set_cons_succ]
  refine take_at 2 52 (.bool false) _ rfl rfl (by kernel_rfl) (by kernel_rfl) (by kernel_rfl) (fun _ _ _ h => h) (Or.inl ⟨by rfl, fun v hv => by skip; clear hv; go_simp⟩) hHeld ?_
  simp only [Act.put, List.setIfInBounds_toArray, List.set_cons_zero, List.set_cons_succ]
  refine take_at 3 53 (.int .i64 0) _ rfl rfl (by kernel_rfl) (by kernel_rfl) (by kernel_rfl) (fun _ _ _ h => h) (Or.inl ⟨by rfl, fun v hv => by skip; clear hv; go_simp⟩) hHeld ?_
  simp only [Act.put, List.setIfInBounds_toArray, List.set_cons_zero, List.set_cons_succ]
  refine take_at 4 54 (.bool false) _ rfl rfl (by kernel_rfl) (by kernel_rfl) (by kernel_rfl) (fun _ _ _ h => h) (Or.inl ⟨by rfl, fun v hv => by skip; clear hv; go_simp⟩) hHeld ?_
  simp only [Act.put, List.setIfInBounds_toArray, List.set_cons_zero, List.set_cons_succ]
  refine take_at 5 55 (.bool false) _ rfl rfl (by kernel_rfl) (by kernel_rfl) (by kernel_rfl) (fun _ _ _ h => h) (Or.inl ⟨by rfl, fun v hv => by skip; clear hv; go_simp⟩) hHeld ?_
  simp only [Act.put, List.setIfInBounds_toArray, List.set_cons_zero, List.set_cons_succ]
  refine take_at 6 56 (.bool false) _ rfl rfl (by kernel_rfl) (by kernel_rfl) (by kernel_rfl) (fun _ _ _ h => h) (Or.inl ⟨by rfl, fun v hv => by skip; clear hv; go_simp⟩) hHeld ?_
  simp only [Act.put, List.setIfInBounds_toArray, List.set_cons_zero, List.set_cons_succ]
  refine take_at 7 57 (.pointer (some ⟨w2.heap.size, 2, none⟩)) _ rfl rfl (by kernel_rfl) (by kernel_rfl) (by kernel_rfl) (fun _ _ _ h => h) (Or.inl ⟨by rfl, fun v hv => by skip; clear hv; go_simp⟩) hHeld ?_
  simp only [Act.put, List.setIfInBounds_toArray, List.set_cons_zero, List.set_cons_succ]
  refine take_at 8 58 (.int .i64 (1 + (pu : Int))) _ rfl rfl (by kernel_rfl) (by kernel_rfl) (by kernel_rfl) (fun _ _ _ h => h) (Or.inl ⟨by rfl, fun v hv => by have h2 := hv.cell 2; clear hv; go_simp⟩) hHeld ?_
  simp only [Act.put, List.setIfInBounds_toArray, List.set_cons_zero, List.set_cons_succ]
  refine take_at 9 59 (.int .i64 units) _ rfl rfl (by kernel_rfl) (by kernel_rfl) (by kernel_rfl) (fun _ _ _ h => h) (Or.inl ⟨by rfl, fun v hv => by skip; clear hv; go_simp⟩) hHeld ?_
  simp only [Act.put, List.setIfInBounds_toArray, List.set_cons_zero, List.set_cons_succ]
  refine call_at 10 60 (.int .i64 (pu : Int)) _ rfl rfl (by kernel_rfl) (by kernel_rfl) (by kernel_rfl) (fun _ _ _ h => h) 6 #[.int .i64 units, .int .i64 2097151] ⟨by rfl, fun v hv => by clear hv; go_simp⟩ (fun v _ => HPU.out v) hHeld ?_
  simp only [Act.put, List.setIfInBounds_toArray, List.set_cons_zero, List.set_cons_succ]
  refine take_at 11 61 (.int .i64 (1 + (pu : Int))) _ rfl rfl (by kernel_rfl) (by kernel_rfl) (by kernel_rfl) (fun _ _ _ h => h) (Or.inl ⟨by rfl, fun v hv => by skip; clear hv; go_simp⟩) hHeld ?_
  simp only [Act.put, List.setIfInBounds_toArray, List.set_cons_zero, List.set_cons_succ]
  refine take_at 12 62 (.bool false) _ rfl rfl (by kernel_rfl) (by kernel_rfl) (by kernel_rfl) (fun _ _ _ h => h) (Or.inl ⟨by rfl, fun v hv => by skip; clear hv; go_simp⟩) hHeld ?_
  simp only [Act.put, List.setIfInBounds_toArray, List.set_cons_zero, List.set_cons_succ]
  refine take_at 13 63 (.bool false) _ rfl rfl (by kernel_rfl) (by kernel_rfl) (by kernel_rfl) (fun _ _ _ h => h) (Or.inl ⟨by rfl, fun v hv => by skip; clear hv; go_simp⟩) hHeld ?_
  simp only [Act.put, List.setIfInBounds_toArray, List.set_cons_zero, List.set_cons_succ]
  refine take_at 14 64 (.bool false) _ rfl rfl (by kernel_rfl) (by kernel_rfl) (by kernel_rfl) (fun _ _ _ h => h) (Or.inl ⟨by rfl, fun v hv => by skip; clear hv; go_simp⟩) hHeld ?_
  simp only [Act.put, List.setIfInBounds_toArray, List.set_cons_zero, List.set_cons_succ]
  refine take_at 15 65 (.int .i64 bu) _ rfl rfl (by kernel_rfl) (by kernel_rfl) (by kernel_rfl) (fun _ _ _ h => h) (Or.inl ⟨by rfl, fun v hv => by skip; clear hv; go_simp⟩) hHeld ?_
  simp only [Act.put, List.setIfInBounds_toArray, List.set_cons_zero, List.set_cons_succ]
  refine take_at 16 66 (.int .i64 ld) _ rfl rfl (by kernel_rfl) (by kernel_rfl) (by kernel_rfl) (fun _ _ _ h => h) (Or.inl ⟨by rfl, fun v hv => by skip; clear hv; go_simp⟩) hHeld ?_
  simp only [Act.put, List.setIfInBounds_toArray, List.set_cons_zero, List.set_cons_succ]
  refine take_at 17 67 (.pointer (some ⟨w2.heap.size, 2, none⟩)) _ rfl rfl (by kernel_rfl) (by kernel_rfl) (by kernel_rfl) (fun _ _ _ h => h) (Or.inl ⟨by rfl, fun v hv => by skip; clear hv; go_simp⟩) hHeld ?_
  simp only [Act.put, List.setIfInBounds_toArray, List.set_cons_zero, List.set_cons_succ]
  refine take_at 18 68 (.int .i64 (1 + (pu : Int))) _ rfl rfl (by kernel_rfl) (by kernel_rfl) (by kernel_rfl) (fun _ _ _ h => h) (Or.inl ⟨by rfl, fun v hv => by have h2 := hv.cell 2; clear hv; go_simp⟩) hHeld ?_
  simp only [Act.put, List.setIfInBounds_toArray, List.set_cons_zero, List.set_cons_succ]
  refine take_at 19 69 (.int .i64 bu) _ rfl rfl (by kernel_rfl) (by kernel_rfl) (by kernel_rfl) (fun _ _ _ h => h) (Or.inl ⟨by rfl, fun v hv => by skip; clear hv; go_simp⟩) hHeld ?_
  simp only [Act.put, List.setIfInBounds_toArray, List.set_cons_zero, List.set_cons_succ]
  refine take_at 20 70 (.bool false) _ rfl rfl (by kernel_rfl) (by kernel_rfl) (by kernel_rfl) (fun _ _ _ h => h) (Or.inl ⟨by rfl, fun v hv => by skip; clear hv; go_simp⟩) hHeld ?_
  simp only [Act.put, List.setIfInBounds_toArray, List.set_cons_zero, List.set_cons_succ]
  refine take_at 21 71 (.bool false) _ rfl rfl (by kernel_rfl) (by kernel_rfl) (by kernel_rfl) (fun _ _ _ h => h) (Or.inl ⟨by rfl, fun v hv => by skip; clear hv; go_simp⟩) hHeld ?_
  simp only [Act.put, List.setIfInBounds_toArray, List.set_cons_zero, List.set_cons_succ]
  refine take_at 22 72 (.bool false) _ rfl rfl (by kernel_rfl) (by kernel_rfl) (by kernel_rfl) (fun _ _ _ h => h) (Or.inl ⟨by rfl, fun v hv => by skip; clear hv; go_simp⟩) hHeld ?_
  simp only [Act.put, List.setIfInBounds_toArray, List.set_cons_zero, List.set_cons_succ]
  refine take_at 23 73 (.slice b3 7 d3) _ rfl rfl (by kernel_rfl) (by kernel_rfl) (by kernel_rfl) (fun _ _ _ h => h) (Or.inl ⟨by rfl, fun v hv => by skip; clear hv; go_simp⟩) hHeld ?_
  simp only [Act.put, List.setIfInBounds_toArray, List.set_cons_zero, List.set_cons_succ]
  refine take_at 24 74 (.int .i64 7) _ rfl rfl (by kernel_rfl) (by kernel_rfl) (by kernel_rfl) (fun _ _ _ h => h) (Or.inl ⟨by rfl, fun v hv => by skip; clear hv; go_simp⟩) hHeld ?_
  simp only [Act.put, List.setIfInBounds_toArray, List.set_cons_zero, List.set_cons_succ]
  refine take_at 25 75 (.bool false) _ rfl rfl (by kernel_rfl) (by kernel_rfl) (by kernel_rfl) (fun _ _ _ h => h) (Or.inl ⟨by rfl, fun v hv => by skip; clear hv; go_simp⟩) hHeld ?_
  simp only [Act.put, List.setIfInBounds_toArray, List.set_cons_zero, List.set_cons_succ]
  refine take_at 26 76 (.int .i64 bu) _ rfl rfl (by kernel_rfl) (by kernel_rfl) (by kernel_rfl) (fun _ _ _ h => h) (Or.inl ⟨by rfl, fun v hv => by skip; clear hv; go_simp⟩) hHeld ?_
  simp only [Act.put, List.setIfInBounds_toArray, List.set_cons_zero, List.set_cons_succ]
  refine take_at 27 77 (.bool false) _ rfl rfl (by kernel_rfl) (by kernel_rfl) (by kernel_rfl) (fun _ _ _ h => h) (Or.inl ⟨by rfl, fun v hv => by skip; clear hv; go_simp⟩) hHeld ?_
  simp only [Act.put, List.setIfInBounds_toArray, List.set_cons_zero, List.set_cons_succ]
  refine take_at 28 78 (.bool false) _ rfl rfl (by kernel_rfl) (by kernel_rfl) (by kernel_rfl) (fun _ _ _ h => h) (Or.inl ⟨by rfl, fun v hv => by skip; clear hv; go_simp⟩) hHeld ?_
  simp only [Act.put, List.setIfInBounds_toArray, List.set_cons_zero, List.set_cons_succ]
  refine take_at 29 79 (.bool false) _ rfl rfl (by kernel_rfl) (by kernel_rfl) (by kernel_rfl) (fun _ _ _ h => h) (Or.inl ⟨by rfl, fun v hv => by skip; clear hv; go_simp⟩) hHeld ?_
  simp only [Act.put, List.setIfInBounds_toArray, List.set_cons_zero, List.set_cons_succ]
  refine wpAnyH_done (by kernel_rfl) ?_ _
  clear hHeld HBK
  have H7m : Hid (Blk w3.drew (w2.heap.size) #[.int .i64 me, .int .i64 0, .int .i64 (1 + (pu : Int)), .int .i64 h1, .int .u64 (b1 : Int), .int .i64 0, .int .i64 0] 36) := Blk.drew H6m.out 1
  have H7B : Hid (Below w.heap.size w w3.drew) := H6B.out.drew
  have H7Ch : Hid (Hm w3.drew a c xs ⟨me, 0, 1 + (pu : Int), h1, b1, 0, 0⟩) := H6Ch.out.below (Below.refl _ _).drew
  have H7Cg : Hid (Wg w3.drew b3 7 d3 wl) := HCg.out.below (Below.refl _ _).drew
  clear H6m H6Ch HCg H6B
  generalize w3.drew = WD at *
  clear e1 e2 e4
  have HAQ : Hid (Calls Tryd.prog 9 #[.slice a 12 c, .slice b3 7 d3, .int .i64 (q : Int)] WD fun e w' => ∃ a' c' xs', e = .returned (.tuple #[.slice a' 12 c', .int .i64 0]) ∧ (q = 7 → Hm w' a' c' xs' ⟨me, 0, 1 + (pu : Int) - bu, h1, b1, 0, 0⟩) ∧ (q < 7 → Hm w' a' c' xs' ⟨me, 0, 1 + (pu : Int), h1, b1, 0, 0⟩) ∧ Below WD.heap.size WD w') := HAP.out WD a c xs b3 d3 wl q H7Ch.out H7Cg.out HWI.out HQ7.out
  clear H7Ch H7Cg HWI
  go_wp2_with fail
  refine (HPK.out _).mono ?_
  rintro e wq ⟨rfl, hwq⟩
  subst hwq
  go_wp2_with fail
  refine HAQ.out.mono ?_
  rintro e w10 ⟨a10, c10, xs10, rfl, hA, hB, hb10⟩
  have H8m : Hid (Blk w10 (w2.heap.size) #[.int .i64 me, .int .i64 0, .int .i64 (1 + (pu : Int)), .int .i64 h1, .int .u64 (b1 : Int), .int .i64 0, .int .i64 0] 36) := H7m.out.next hb10
  have H8B : Hid (Below w.heap.size w w10) := bel_step H7B.out hb10
  clear H7m H7B hb10 HAQ
  have hqq := HQ7.out
  by_cases hq : q < 7
  · have HH : Hid (Hm w10 a10 c10 xs10 ⟨me, 0, 1 + (pu : Int), h1, b1, 0, 0⟩) := hB hq
    have hdq : ((q : Int) == 7) = false := by simp; omega
    have e5 : ((1 + (pu : Int)) == (1 + (pu : Int))) = true := by simp
    have hqm : ∀ W : World, (Op.equalIn 10000 34 (.agg #[.int .i64 h1, .int .u64 (b1 : Int)]) (.agg #[.int .i64 h1, .int .u64 (b1 : Int)])).run Tryd.prog W = .ok true W := fun W => eqWd 9998 _ _ W
    clear hA hB hq hqq
    go_wp2_with fail
    refine (HBT.out _ _ _ _ _ HH.out).mono ?_
    rintro e w11 ⟨rfl, hb11⟩
    have H9m : Hid (Blk w11 (w2.heap.size) #[.int .i64 me, .int .i64 0, .int .i64 (1 + (pu : Int)), .int .i64 h1, .int .u64 (b1 : Int), .int .i64 0, .int .i64 0] 36) := H8m.out.next hb11
    have H9B : Hid (Below w.heap.size w w11) := bel_step H8B.out hb11
    unfold Mt.v Mt.cells
    simp only []
    have H10m : Hid (Blk (w11.alloc (.cells #[.int .i64 me, .int .i64 0, .int .i64 (1 + (pu : Int)), .int .i64 h1, .int .u64 (b1 : Int), .int .i64 0, .int .i64 0] 36)) (w2.heap.size) #[.int .i64 me, .int .i64 0, .int .i64 (1 + (pu : Int)), .int .i64 h1, .int .u64 (b1 : Int), .int .i64 0, .int .i64 0] 36) := (H9m.out).alloc _
    have H10z : Hid (Blk (w11.alloc (.cells #[.int .i64 me, .int .i64 0, .int .i64 (1 + (pu : Int)), .int .i64 h1, .int .u64 (b1 : Int), .int .i64 0, .int .i64 0] 36)) (w11.heap.size) #[.int .i64 me, .int .i64 0, .int .i64 (1 + (pu : Int)), .int .i64 h1, .int .u64 (b1 : Int), .int .i64 0, .int .i64 0] 36) := (Blk.new w11 _ _)
    have L10zm : Hid (w2.heap.size < w11.heap.size) := Nat.lt_of_lt_of_le H9m.out.lt (by simp)
    have H10B : Hid (Below w.heap.size w (w11.alloc (.cells #[.int .i64 me, .int .i64 0, .int .i64 (1 + (pu : Int)), .int .i64 h1, .int .u64 (b1 : Int), .int .i64 0, .int .i64 0] 36))) := (H9B.out).alloc (Nat.le_trans H9B.out.size (by simp)) _
    have L100 : Hid (w.heap.size ≤ w11.heap.size) := H9B.out.size
    clear H8m H8B H9m H9B hb11 HH HBT
    have q_m_2 : (w11.alloc (.cells #[.int .i64 me, .int .i64 0, .int .i64 (1 + (pu : Int)), .int .i64 h1, .int .u64 (b1 : Int), .int .i64 0, .int .i64 0] 36)).cell? ⟨w2.heap.size, 2, none⟩ = some (.int .i64 (1 + (pu : Int))) := H10m.out.cell 2
    have q_m_3 : (w11.alloc (.cells #[.int .i64 me, .int .i64 0, .int .i64 (1 + (pu : Int)), .int .i64 h1, .int .u64 (b1 : Int), .int .i64 0, .int .i64 0] 36)).cell? ⟨w2.heap.size, 3, none⟩ = some (.int .i64 h1) := H10m.out.cell 3
    have q_m_4 : (w11.alloc (.cells #[.int .i64 me, .int .i64 0, .int .i64 (1 + (pu : Int)), .int .i64 h1, .int .u64 (b1 : Int), .int .i64 0, .int .i64 0] 36)).cell? ⟨w2.heap.size, 4, none⟩ = some (.int .u64 (b1 : Int)) := H10m.out.cell 4
    have q_z_2 : (w11.alloc (.cells #[.int .i64 me, .int .i64 0, .int .i64 (1 + (pu : Int)), .int .i64 h1, .int .u64 (b1 : Int), .int .i64 0, .int .i64 0] 36)).cell? ⟨w11.heap.size, 2, none⟩ = some (.int .i64 (1 + (pu : Int))) := H10z.out.cell 2
    have q_z_3 : (w11.alloc (.cells #[.int .i64 me, .int .i64 0, .int .i64 (1 + (pu : Int)), .int .i64 h1, .int .u64 (b1 : Int), .int .i64 0, .int .i64 0] 36)).cell? ⟨w11.heap.size, 3, none⟩ = some (.int .i64 h1) := H10z.out.cell 3
    have q_z_4 : (w11.alloc (.cells #[.int .i64 me, .int .i64 0, .int .i64 (1 + (pu : Int)), .int .i64 h1, .int .u64 (b1 : Int), .int .i64 0, .int .i64 0] 36)).cell? ⟨w11.heap.size, 4, none⟩ = some (.int .u64 (b1 : Int)) := H10z.out.cell 4
    go_wp2_with (first
      | (refine wp_whole rfl 36 _ rfl (w2.heap.size) rfl 36 #[.int .i64 me, .int .i64 0, .int .i64 (1 + (pu : Int)), .int .i64 h1, .int .u64 (b1 : Int), .int .i64 0, .int .i64 0] _ H10m.out Tryd.underlying36 rfl (by kernel_rfl) ?_)
      | (refine wp_wholeG (by rfl) 36 _ rfl (w2.heap.size) rfl 36 #[.int .i64 me, .int .i64 0, .int .i64 (1 + (pu : Int)), .int .i64 h1, .int .u64 (b1 : Int), .int .i64 0, .int .i64 0] _ H10m.out Tryd.underlying36 rfl (by kernel_rfl) ?_)
      | (refine wp_whole rfl 36 _ rfl (w11.heap.size) rfl 36 #[.int .i64 me, .int .i64 0, .int .i64 (1 + (pu : Int)), .int .i64 h1, .int .u64 (b1 : Int), .int .i64 0, .int .i64 0] _ H10z.out Tryd.underlying36 rfl (by kernel_rfl) ?_)
      | (refine wp_wholeG (by rfl) 36 _ rfl (w11.heap.size) rfl 36 #[.int .i64 me, .int .i64 0, .int .i64 (1 + (pu : Int)), .int .i64 h1, .int .u64 (b1 : Int), .int .i64 0, .int .i64 0] _ H10z.out Tryd.underlying36 rfl (by kernel_rfl) ?_)
      | fail)
    go_ret
    exact ⟨rfl, H10B.out⟩
  · have HH : Hid (Hm w10 a10 c10 xs10 ⟨me, 0, 1 + (pu : Int) - bu, h1, b1, 0, 0⟩) := hA (by omega)
    have hdq : ((q : Int) == 7) = true := by simp; omega
    have e5 : ((1 + (pu : Int) - bu) == (1 + (pu : Int) - bu)) = true := by simp
    have hqm : ∀ W : World, (Op.equalIn 10000 34 (.agg #[.int .i64 h1, .int .u64 (b1 : Int)]) (.agg #[.int .i64 h1, .int .u64 (b1 : Int)])).run Tryd.prog W = .ok true W := fun W => eqWd 9998 _ _ W
    clear hA hB hq hqq
    go_wp2_with fail
    refine (HBT.out _ _ _ _ _ HH.out).mono ?_
    rintro e w11 ⟨rfl, hb11⟩
    have H9m : Hid (Blk w11 (w2.heap.size) #[.int .i64 me, .int .i64 0, .int .i64 (1 + (pu : Int)), .int .i64 h1, .int .u64 (b1 : Int), .int .i64 0, .int .i64 0] 36) := H8m.out.next hb11
    have H9B : Hid (Below w.heap.size w w11) := bel_step H8B.out hb11
    unfold Mt.v Mt.cells
    simp only []
    have H10m : Hid (Blk (w11.alloc (.cells #[.int .i64 me, .int .i64 0, .int .i64 (1 + (pu : Int) - bu), .int .i64 h1, .int .u64 (b1 : Int), .int .i64 0, .int .i64 0] 36)) (w2.heap.size) #[.int .i64 me, .int .i64 0, .int .i64 (1 + (pu : Int)), .int .i64 h1, .int .u64 (b1 : Int), .int .i64 0, .int .i64 0] 36) := (H9m.out).alloc _
    have H10z : Hid (Blk (w11.alloc (.cells #[.int .i64 me, .int .i64 0, .int .i64 (1 + (pu : Int) - bu), .int .i64 h1, .int .u64 (b1 : Int), .int .i64 0, .int .i64 0] 36)) (w11.heap.size) #[.int .i64 me, .int .i64 0, .int .i64 (1 + (pu : Int) - bu), .int .i64 h1, .int .u64 (b1 : Int), .int .i64 0, .int .i64 0] 36) := (Blk.new w11 _ _)
    have L10zm : Hid (w2.heap.size < w11.heap.size) := Nat.lt_of_lt_of_le H9m.out.lt (by simp)
    have H10B : Hid (Below w.heap.size w (w11.alloc (.cells #[.int .i64 me, .int .i64 0, .int .i64 (1 + (pu : Int) - bu), .int .i64 h1, .int .u64 (b1 : Int), .int .i64 0, .int .i64 0] 36))) := (H9B.out).alloc (Nat.le_trans H9B.out.size (by simp)) _
    have L100 : Hid (w.heap.size ≤ w11.heap.size) := H9B.out.size
    clear H8m H8B H9m H9B hb11 HH HBT
    have q_m_2 : (w11.alloc (.cells #[.int .i64 me, .int .i64 0, .int .i64 (1 + (pu : Int) - bu), .int .i64 h1, .int .u64 (b1 : Int), .int .i64 0, .int .i64 0] 36)).cell? ⟨w2.heap.size, 2, none⟩ = some (.int .i64 (1 + (pu : Int))) := H10m.out.cell 2
    have q_m_3 : (w11.alloc (.cells #[.int .i64 me, .int .i64 0, .int .i64 (1 + (pu : Int) - bu), .int .i64 h1, .int .u64 (b1 : Int), .int .i64 0, .int .i64 0] 36)).cell? ⟨w2.heap.size, 3, none⟩ = some (.int .i64 h1) := H10m.out.cell 3
    have q_m_4 : (w11.alloc (.cells #[.int .i64 me, .int .i64 0, .int .i64 (1 + (pu : Int) - bu), .int .i64 h1, .int .u64 (b1 : Int), .int .i64 0, .int .i64 0] 36)).cell? ⟨w2.heap.size, 4, none⟩ = some (.int .u64 (b1 : Int)) := H10m.out.cell 4
    have q_z_2 : (w11.alloc (.cells #[.int .i64 me, .int .i64 0, .int .i64 (1 + (pu : Int) - bu), .int .i64 h1, .int .u64 (b1 : Int), .int .i64 0, .int .i64 0] 36)).cell? ⟨w11.heap.size, 2, none⟩ = some (.int .i64 (1 + (pu : Int) - bu)) := H10z.out.cell 2
    have q_z_3 : (w11.alloc (.cells #[.int .i64 me, .int .i64 0, .int .i64 (1 + (pu : Int) - bu), .int .i64 h1, .int .u64 (b1 : Int), .int .i64 0, .int .i64 0] 36)).cell? ⟨w11.heap.size, 3, none⟩ = some (.int .i64 h1) := H10z.out.cell 3
    have q_z_4 : (w11.alloc (.cells #[.int .i64 me, .int .i64 0, .int .i64 (1 + (pu : Int) - bu), .int .i64 h1, .int .u64 (b1 : Int), .int .i64 0, .int .i64 0] 36)).cell? ⟨w11.heap.size, 4, none⟩ = some (.int .u64 (b1 : Int)) := H10z.out.cell 4
    go_wp2_with (first
      | (refine wp_whole rfl 36 _ rfl (w2.heap.size) rfl 36 #[.int .i64 me, .int .i64 0, .int .i64 (1 + (pu : Int)), .int .i64 h1, .int .u64 (b1 : Int), .int .i64 0, .int .i64 0] _ H10m.out Tryd.underlying36 rfl (by kernel_rfl) ?_)
      | (refine wp_wholeG (by rfl) 36 _ rfl (w2.heap.size) rfl 36 #[.int .i64 me, .int .i64 0, .int .i64 (1 + (pu : Int)), .int .i64 h1, .int .u64 (b1 : Int), .int .i64 0, .int .i64 0] _ H10m.out Tryd.underlying36 rfl (by kernel_rfl) ?_)
      | (refine wp_whole rfl 36 _ rfl (w11.heap.size) rfl 36 #[.int .i64 me, .int .i64 0, .int .i64 (1 + (pu : Int) - bu), .int .i64 h1, .int .u64 (b1 : Int), .int .i64 0, .int .i64 0] _ H10z.out Tryd.underlying36 rfl (by kernel_rfl) ?_)
      | (refine wp_wholeG (by rfl) 36 _ rfl (w11.heap.size) rfl 36 #[.int .i64 me, .int .i64 0, .int .i64 (1 + (pu : Int) - bu), .int .i64 h1, .int .u64 (b1 : Int), .int .i64 0, .int .i64 0] _ H10z.out Tryd.underlying36 rfl (by kernel_rfl) ?_)
      | fail)
    go_ret
    exact ⟨rfl, H10B.out⟩

end Go.Proofs.YtgipkpkjoicehabDoor.pkt

/- A tick that is cut burns all or nothing: by the program's own contracts. -/
namespace Go.Proofs.YtgipkpkjoicehabDoor.pkt
open Go.RowKit Go.Proofs.YtgipkpkjoicehabDoor.met Go.Proofs.YtgipkpkjoicehabDoor.slot Go.Proofs.YtgipkpkjoicehabDoor.cell Go.Proofs.YtgipkpkjoicehabDoor.ora Go.Proofs.YtgipkpkjoicehabDoor.token Go.Proofs.YtgipkpkjoicehabDoor.check
set_option maxRecDepth 100000
set_option linter.unusedVariables false

/-- The meter behind one token of credit. -/
theorem at_one {me : Int} (hme : 0 ≤ me ∧ me ≤ 49) {K : Nat → Tok} (hk : (K 0).ok) (hc : (K 0).c = 0) {m : Mt} {l : List Pr} (h : AtIs me K 1 m l) : m = taken (mtNew me) 0 (K 0).i (K 0).a := by
  obtain ⟨m0, l0, ⟨rfl, rfl⟩, t, x, e, hi, hkey⟩ := h.run
  have hm : (mtNew me).may := (new_mw hme).may
  obtain ⟨rfl, rfl, _⟩ := first_sold hm hk hi
  have hf := flaw_tok.2 hk
  have hb := body_tok (K 0)
  have ha := hk.a2
  have hi1 := hk.i1
  have hi2 := hk.i2
  have hL := one_may (pr_may hm hk)
  rw [hb] at hkey
  rw [hc] at hf hkey
  rcases key_sold hkey hm hL hf (Int.le_refl _) (by decide) (one_here _ _ _ _) (judge_new (Int.ofNat_le.2 hi1) (Int.ofNat_le.2 hi2)) with ⟨_, h1, _⟩ | ⟨h1, _⟩ | ⟨_, _, h3, _⟩
  · exact absurd h1 (by show ¬ (99999999 - 0 < (((K 0).a : Nat) : Int)); omega)
  · exact absurd h1 (by decide)
  · exact h3
theorem taken_new (me i : Int) (a : Nat) : taken (mtNew me) 0 i (a : Int) = ⟨me, 0, (a : Int), max 0 i, win.took 0 0 i, 0, 0⟩ := by
  unfold taken mtNew
  simp
/-- What a tick does to it. -/
theorem burns_tick (me cr h1 ld bu : Int) (b1 : Nat) (xs : List Int) (ls : List Wr) (x e : Int) (hm : Mw ⟨me, 0, cr, h1, b1, 0, 0⟩) (hb : BootIs xs ⟨me, 0, cr, h1, b1, 0, 0⟩ 0) (hl : 0 ≤ ld ∧ ld ≤ 1000) (hbu : bu = if cr < ld then cr else ld) (h : TickedIs xs ld ls x e) :
    x = bu ∧ e = 0 ∧ WrIs xs ⟨me, 0, cr, h1, b1, 0, 0⟩ ⟨me, 0, cr - bu, h1, b1, 0, 0⟩ ls := by
  have hok := TickIs.ok hm.may hl
  have hcr := hm.may.cr
  have hcr0 : 0 ≤ cr := hcr.1
  have e1 : burnt ⟨me, 0, cr, h1, b1, 0, 0⟩ ld = bu := by
    unfold burnt; simp only []; rw [hbu]
    by_cases h : cr < ld
    · rw [if_pos h, if_pos (by omega)]
    · rw [if_neg h]
      by_cases h2 : cr ≤ ld
      · rw [if_pos h2]; omega
      · rw [if_neg h2]
  have e2 : ticked ⟨me, 0, cr, h1, b1, 0, 0⟩ ld = ⟨me, 0, cr - bu, h1, b1, 0, 0⟩ := by
    unfold ticked; simp only []
    have : (if cr ≤ ld then (0 : Int) else cr - ld) = cr - bu := by
      rw [hbu]
      by_cases h : cr < ld
      · rw [if_pos h, if_pos (by omega)]; omega
      · rw [if_neg h]
        by_cases h2 : cr ≤ ld
        · rw [if_pos h2]; omega
        · rw [if_neg h2]
    rw [this]
    rfl
  rcases h with ⟨m, a0, a1, _⟩ | ⟨m, m1, y, a0, a2, a1, _⟩ | ⟨m, m1, a0, a2, rfl, a3⟩
  · exact absurd (a0.one hb).2 a1
  · obtain ⟨rfl, _⟩ := a0.one hb
    exact absurd (a2.one hok).2.2 a1
  · obtain ⟨rfl, _⟩ := a0.one hb
    obtain ⟨rfl, rfl, _⟩ := a2.one hok
    rw [e2] at a3
    exact ⟨e1, rfl, a3⟩
theorem burns_walk (me0 units load k0 : Int) (w : World) (ht : TTab w) (hme0 : (Lit.int .i64 me0).wf = true) (hun : (Lit.int .i64 units).wf = true) (hlo : (Lit.int .i64 load).wf = true) (hk0 : (Lit.int .i64 k0).wf = true) :
    Calls Tryd.prog 3 #[.int .i64 me0, .int .i64 units, .int .i64 load, .int .i64 k0] w fun e w' => e = .returned (.bool true) ∧ Below w.heap.size w w' := by
  have hp := pick_toNat me0 50 (by decide)
  have hq := pick_toNat k0 8 (by decide)
  have hpu := pick_toNat units 2097151 (by decide)
  have hpl := pick_toNat load 1001 (by decide)
  have HP := fun W => picked_nat me0 50 W hme0 (by decide) (by decide)
  have HPK := fun W => picked_nat k0 8 W hk0 (by decide) (by decide)
  have HPU := fun W => picked_nat units 2097151 W hun (by decide) (by decide)
  have HPL := fun W => picked_nat load 1001 W hlo (by decide) (by decide)
  have hka : (toks [⟨0, 0, units, 0⟩] 0).a = 1 + (pick units ((2097151 : Nat) : Int)).toNat := by
    show madeA 0 units = _
    unfold madeA
    rw [if_pos (by decide)]
    rfl
  have hkc : (toks [⟨0, 0, units, 0⟩] 0).c = 0 := by show (pick 0 4).toNat = 0; decide
  have hko : (toks [⟨0, 0, units, 0⟩] 0).ok := made_ok 0 0 units 0
  generalize (pick me0 ((50 : Nat) : Int)).toNat = mn at *
  generalize (pick k0 ((8 : Nat) : Int)).toNat = q at *
  generalize (pick units ((2097151 : Nat) : Int)).toNat = pu at *
  generalize (pick load ((1001 : Nat) : Int)).toNat = ln at *
  have hme : 0 ≤ (mn : Int) ∧ (mn : Int) ≤ 49 := by omega
  have w0 : (Lit.int .i64 0).wf = true := by decide
  generalize hK : toks [⟨0, 0, units, 0⟩] 0 = kk at hka hkc hko
  have hV : ∀ m l, AtIs (mn : Int) (toks [⟨0, 0, units, 0⟩]) (min 1 12) m l → m = ⟨(mn : Int), 0, 1 + (pu : Int), max 0 (kk.i : Int), win.took 0 0 (kk.i : Int), 0, 0⟩ := by
    intro m l h
    have h1 := at_one hme (K := toks [⟨0, 0, units, 0⟩]) (by rw [hK]; exact hko) (by rw [hK]; exact hkc) h
    rw [hK, taken_new, hka] at h1
    rw [h1]
    congr 1
  have HAT : ∀ W, Below w.heap.size w W → Blk W w.heap.size #[.int .i64 0, .int .i64 0, .int .i64 units, .int .i64 0] 30 → Calls Tryd.prog 5 #[.int .i64 (mn : Int), .slice (some ⟨w.heap.size, 0, none⟩) 1 1] W fun e w' => ∃ a c xs ao no co, e = .returned (.tuple #[.slice a 12 c, .agg #[.slice ao no co], .bool true]) ∧ Hm w' a c xs ⟨(mn : Int), 0, 1 + (pu : Int), max 0 (kk.i : Int), win.took 0 0 (kk.i : Int), 0, 0⟩ ∧ Below W.heap.size W w' := by
    intro W hB hb
    have hr : RowA W (some ⟨w.heap.size, 0, none⟩) 1 [⟨0, 0, units, 0⟩] := by
      intro i hi
      obtain rfl : i = 0 := by omega
      exact ⟨w.heap.size, 0, rfl, ⟨hb.cell 0, hb.cell 1, hb.cell 2, hb.cell 3⟩, w0, w0, hun, w0⟩
    refine (at_any _ hme (some ⟨w.heap.size, 0, none⟩) 1 1 [⟨0, 0, units, 0⟩] W (ht.below hB) hr).mono ?_
    rintro e w' ⟨a, c, xs, m, ao, no, co, l, rfl, h1, _, _, _, h5, h6⟩
    obtain rfl := hV m l h5
    exact ⟨a, c, xs, ao, no, co, rfl, h1, h6⟩
  have HBT := fun W a c xs m (hm : Hm W a c xs m) => hboot a c xs m W hm
  have HTD : ∀ bu : Int, (bu = if 1 + (pu : Int) < (ln : Int) then 1 + (pu : Int) else (ln : Int)) → ∀ W a c xs, Hm W a c xs ⟨(mn : Int), 0, 1 + (pu : Int), max 0 (kk.i : Int), win.took 0 0 (kk.i : Int), 0, 0⟩ → Calls Tryd.prog 8 #[.slice a 12 c, .int .i64 (ln : Int)] W fun e w' => ∃ b n d wl, e = .returned (.tuple #[.slice b n d, .int .i64 bu, .int .i64 0]) ∧ Wg w' b n d wl ∧ WrIs xs ⟨(mn : Int), 0, 1 + (pu : Int), max 0 (kk.i : Int), win.took 0 0 (kk.i : Int), 0, 0⟩ ⟨(mn : Int), 0, 1 + (pu : Int) - bu, max 0 (kk.i : Int), win.took 0 0 (kk.i : Int), 0, 0⟩ wl ∧ Below W.heap.size W w' := by
    intro bu hbu W a c xs hm
    refine (pticked a 12 c xs (ln : Int) W hm.sg.row hm.sg.le (holds_word hm.holds hm.mw)).mono ?_
    rintro e w' ⟨b, n, d, wl, x, f, rfl, hg, hi, hb⟩
    obtain ⟨rfl, rfl, hw⟩ := burns_tick (mn : Int) (1 + (pu : Int)) _ (ln : Int) bu _ xs wl x f hm.mw hm.boot ⟨by omega, by omega⟩ hbu hi
    exact ⟨b, n, d, wl, rfl, hg, hw, hb⟩
  by_cases h0 : ln = 0
  · subst h0
    refine burns_A me0 (mn : Int) units load k0 ((0 : Nat) : Int) 0 (max 0 (kk.i : Int)) (win.took 0 0 (kk.i : Int)) pu q w (by omega) hpu (by omega) (by omega) rfl rfl HP HPL HPU HPK HAT HBT (fun W a c xs hm => ?_) (fun W a c xs b d wl q hm hw hi hq => ?_)
    · refine (HTD 0 (by rw [if_neg (by omega)]; rfl) W a c xs hm).mono ?_
      rintro e w' ⟨b, n, d, wl, rfl, hg, hw, hb⟩
      have hl := hg.row.1
      rcases hw.len with ⟨_, h⟩ | ⟨h, _⟩
      · obtain rfl : n = 0 := by omega
        exact ⟨b, d, wl, rfl, hg, hw, hb⟩
      · exact absurd (by congr 1 <;> omega) h
    · refine (happly a c xs _ _ b 7 d q wl W hm hw hi ⟨?_, hm.mw.b⟩ hq).mono fun e w' h => h
      have := hm.mw.may
      rw [show 1 + (pu : Int) - 0 = 1 + (pu : Int) by omega]
      exact this
  · have hb7 : ∀ (bu : Int), 0 < bu → bu ≤ 1 + (pu : Int) → ∀ W a c xs b n d wl, Hm W a c xs ⟨(mn : Int), 0, 1 + (pu : Int), max 0 (kk.i : Int), win.took 0 0 (kk.i : Int), 0, 0⟩ → Wg W b n d wl → WrIs xs ⟨(mn : Int), 0, 1 + (pu : Int), max 0 (kk.i : Int), win.took 0 0 (kk.i : Int), 0, 0⟩ ⟨(mn : Int), 0, 1 + (pu : Int) - bu, max 0 (kk.i : Int), win.took 0 0 (kk.i : Int), 0, 0⟩ wl → n = 7 := by
      intro bu hb hb1 W a c xs b n d wl hm hg hw
      have hl := hg.row.1
      rcases hw.len with ⟨h, _⟩ | ⟨_, h⟩
      · have := (Mt.mk.inj h).2.2.1
        omega
      · omega
    have hmw : ∀ (bu : Int), 0 < bu → bu ≤ 1 + (pu : Int) → Mw ⟨(mn : Int), 0, 1 + (pu : Int), max 0 (kk.i : Int), win.took 0 0 (kk.i : Int), 0, 0⟩ → Mw ⟨(mn : Int), 0, 1 + (pu : Int) - bu, max 0 (kk.i : Int), win.took 0 0 (kk.i : Int), 0, 0⟩ := by
      intro bu hb hb1 hm
      have h := hm.may
      have h1 := h.cr
      have h1' : 1 + (pu : Int) ≤ 99999999 := h1.2
      exact ⟨⟨h.me, h.rev, ⟨by show 0 ≤ 1 + (pu : Int) - bu; omega, by show 1 + (pu : Int) - bu ≤ 99999999; omega⟩, h.bad, h.lock, h.one, h.win⟩, hm.b⟩
    by_cases hlc : 1 + (pu : Int) < (ln : Int)
    · refine burns_B1 me0 (mn : Int) units load k0 (ln : Int) (1 + (pu : Int)) (max 0 (kk.i : Int)) (win.took 0 0 (kk.i : Int)) pu q w (by omega) hpu (by omega) (by omega) (by omega) hlc rfl HP HPL HPU HPK HAT HBT (fun W a c xs hm => ?_) (fun W a c xs b d wl q hm hw hi hq => ?_)
      · refine (HTD _ (by rw [if_pos hlc]) W a c xs hm).mono ?_
        rintro e w' ⟨b, n, d, wl, rfl, hg, hw, hb⟩
        obtain rfl := hb7 _ (by omega) (Int.le_refl _) w' a c xs b n d wl (hm.below hb) hg hw
        exact ⟨b, d, wl, rfl, hg, hw, hb⟩
      · exact (happly a c xs _ _ b 7 d q wl W hm hw hi (hmw _ (by omega) (Int.le_refl _) hm.mw) hq).mono fun e w' h => h
    · refine burns_B2 me0 (mn : Int) units load k0 (ln : Int) (ln : Int) (max 0 (kk.i : Int)) (win.took 0 0 (kk.i : Int)) pu q w (by omega) hpu (by omega) (by omega) (by omega) hlc rfl HP HPL HPU HPK HAT HBT (fun W a c xs hm => ?_) (fun W a c xs b d wl q hm hw hi hq => ?_)
      · refine (HTD _ (by rw [if_neg hlc]) W a c xs hm).mono ?_
        rintro e w' ⟨b, n, d, wl, rfl, hg, hw, hb⟩
        obtain rfl := hb7 _ (by omega) (by omega) w' a c xs b n d wl (hm.below hb) hg hw
        exact ⟨b, d, wl, rfl, hg, hw, hb⟩
      · exact (happly a c xs _ _ b 7 d q wl W hm hw hi (hmw _ (by omega) (by omega) hm.mw) hq).mono fun e w' h => h

end Go.Proofs.YtgipkpkjoicehabDoor.pkt
