/- Slots in which records were stored, one behind the other. -/
import Derived.Test.YthbalnldfegobaaSlS
import Derived.Test.YthbalnldfegobaaClApp
namespace Go.Proofs.Ythbalnldfegobaa.slot
open Go.RowKit Go.Proofs.Ythbalnldfegobaa.cell
set_option maxRecDepth 100000
set_option linter.unusedVariables false

/-- A record of n words, made of a list. -/
def fit (zs : List Int) (n : Nat) : List Int := (List.range n).map fun i => if i < zs.length then zs.getD i 0 else (i : Int)
theorem fit_len (zs : List Int) (n : Nat) : (fit zs n).length = n := by simp [fit]
theorem fit_in (zs : List Int) (k : Nat) (h : k < zs.length) : fit zs k ++ [zs.getD k 0] = fit zs (k + 1) := by
  rw [fit, fit, List.range_succ, List.map_append]
  simp [h]
theorem fit_out (zs : List Int) (k : Nat) (h : ¬ k < zs.length) : fit zs k ++ [(k : Int)] = fit zs (k + 1) := by
  rw [fit, fit, List.range_succ, List.map_append]
  simp [h]

set_option maxHeartbeats 1000000 in
theorem fitted_any (a : Option Addr) (len cap n : Nat) (zs : List Int) (w : World) (hr : RowU w a len zs) (hn : n ≤ 64) :
    Calls Try.prog 21 #[.slice a len cap, .int .i64 (n : Int)] w fun e w' => ∃ v, e = .returned v ∧ Ws w' w.heap.size v (fit zs n) ∧ Below w.heap.size w w' := by
  have HR : Hid (RowU w a len zs) := hr
  have HL : Hid (zs.length = len) := hr.1
  clear hr
  go_enter Try.func21, Try.ntmps21
  go_wp2_with fail
  go_loopw [5, 6] (fun v i wr => ∃ (k : Nat) (V : Value), V = v ∧ k ≤ n ∧ i = .int .i64 (k : Int) ∧ Ws wr w.heap.size V (fit zs k) ∧ Below w.heap.size w wr) (fun _ i _ => n - (intOf i).toNat)
  case atStart => exact ⟨0, _, rfl, Nat.zero_le _, rfl, Ws.zero _ _, Below.refl _ _⟩
  case round =>
    obtain ⟨k, V, hV, hk, rfl, hown, hb⟩ := hrel
    subst hV
    have HO : Hid (Ws wr w.heap.size V (fit zs k)) := hown
    have HB : Hid (Below w.heap.size w wr) := hb
    clear hown hb
    by_cases hlt : k < n
    · have HLN : Hid ((fit zs k).length ≤ 1000000) := by show _ ≤ _; rw [fit_len]; omega
      by_cases hin : k < len
      · have HD : Hid (fit zs k ++ [zs.getD k 0] = fit zs (k + 1)) := fit_in zs k (by rw [HL.out]; exact hin)
        obtain ⟨b, off, rfl, l1, hc⟩ := HR.out.at (by omega)
        have hcell : wr.cell? ⟨b, off + k, none⟩ = some (.int .u32 (zs.getD k 0)) := (HB.out.cell (p := ⟨b, off + k, none⟩) l1).trans (hc k hin)
        clear hc l1
        generalize zs.getD k 0 = z at *
        generalize fit zs k = fs at *
        have HG : Hid ((wr.alloc (.cells #[.int .u32 z] 45)).cell? ⟨wr.heap.size, 0, none⟩ = some (.int .u32 z)) := word_cell wr z
        have HOA : Hid (Ws (wr.alloc (.cells #[.int .u32 z] 45)) w.heap.size V fs) := HO.out.alloc _
        have HSZ : Hid (w.heap.size ≤ (wr.alloc (.cells #[.int .u32 z] 45)).heap.size) := alloc_le HB.out.size _
        go_wp2_with (first
          | (at_builtin; refine wp_word rfl _ _ rfl w.heap.size wr.heap.size _ fs z rfl rfl HOA.out HG.out HLN.out HSZ.out ?_)
          | go_in)
        intro v' w4 hL4 hg4
        have HL4 : Hid (Ws w4 w.heap.size v' (fit zs (k + 1))) := by have := HD.out; rw [this] at hL4; exact hL4
        have HB4 : Hid (Below w.heap.size w w4) := own_bel HOA.out hg4 (HB.out.alloc HB.out.size _) (Nat.le_refl _) HSZ.out
        clear hL4 hg4 HOA HO HB HG HSZ HD
        go_wp2_with fail
        go_roundw
        case rel => exact ⟨k + 1, _, rfl, by omega, by go_num, HL4.out, HB4.out⟩
        case measure => simp [intOf]; omega
      · have HD : Hid (fit zs k ++ [(k : Int)] = fit zs (k + 1)) := fit_out zs k (by rw [HL.out]; exact hin)
        generalize fit zs k = fs at *
        have HG : Hid ((wr.alloc (.cells #[.int .u32 (k : Int)] 45)).cell? ⟨wr.heap.size, 0, none⟩ = some (.int .u32 (k : Int))) := word_cell wr _
        have HOA : Hid (Ws (wr.alloc (.cells #[.int .u32 (k : Int)] 45)) w.heap.size V fs) := HO.out.alloc _
        have HSZ : Hid (w.heap.size ≤ (wr.alloc (.cells #[.int .u32 (k : Int)] 45)).heap.size) := alloc_le HB.out.size _
        go_wp2_with (first
          | (at_builtin; refine wp_word rfl _ _ rfl w.heap.size wr.heap.size _ fs (k : Int) rfl rfl HOA.out HG.out HLN.out HSZ.out ?_)
          | go_in)
        intro v' w4 hL4 hg4
        have HL4 : Hid (Ws w4 w.heap.size v' (fit zs (k + 1))) := by have := HD.out; rw [this] at hL4; exact hL4
        have HB4 : Hid (Below w.heap.size w w4) := own_bel HOA.out hg4 (HB.out.alloc HB.out.size _) (Nat.le_refl _) HSZ.out
        clear hL4 hg4 HOA HO HB HG HSZ HD
        go_wp2_with fail
        go_roundw
        case rel => exact ⟨k + 1, _, rfl, by omega, by go_num, HL4.out, HB4.out⟩
        case measure => simp [intOf]; omega
    · obtain rfl : n = k := by omega
      go_wp2_with fail
      go_ret
      exact ⟨_, rfl, HO.out, HB.out⟩

/-- The same, in the form that a caller wants: a slice of n words. -/
def Fit (w : World) (n : Nat) (zs : List Int) (e : Ending) (w' : World) : Prop :=
  ∃ a c, e = .returned (.slice a n c) ∧ RowU w' a n (fit zs n) ∧ n ≤ c ∧ Below w.heap.size w w'
theorem fitted_row (a : Option Addr) (len cap n : Nat) (zs : List Int) (w : World) (hr : RowU w a len zs) (hn : n ≤ 64) :
    Calls Try.prog 21 #[.slice a len cap, .int .i64 (n : Int)] w fun e w' => Fit w n zs e w' :=
  (fitted_any a len cap n zs w hr hn).mono fun e w' ⟨v, he, hv, hb⟩ => by
    obtain ⟨x, c, rfl, rx, _, hc⟩ := hv.row
    rw [fit_len] at rx hc he
    exact ⟨x, c, he, rx, hc, hb⟩

/-- Slots, whole: what they read as. -/
structure Sl (w : World) (n : Nat) (a : Option Addr) (m c : Nat) (zo : List Int) (zc : List Int) : Prop where
  row : RowU w a m zc
  cap : m ≤ c
  len : m = 2 * n + 2
  holds : Holds zc n zo
theorem Sl.below {w w' : World} {n m c : Nat} {a : Option Addr} {zo zc : List Int} (h : Sl w n a m c zo zc) (hb : Below w.heap.size w w') : Sl w' n a m c zo zc := ⟨h.row.below hb, h.cap, h.len, h.holds⟩
theorem Holds.old_len {c r : List Int} {n : Nat} (h : Holds c n r) : r.length = n := by rw [← h.is, rcd_len]
/-- Storing in slots: n + 2 writes. -/
def Stored (w : World) (n q : Nat) (zc zr : List Int) (e : Ending) (w' : World) : Prop :=
  ∃ b c, e = .returned (.tuple #[.slice b q c, .int .i64 0]) ∧ RowW w' b q (sto zc zr n) ∧ q ≤ c ∧ Below w.heap.size w w'
theorem store_sl (a r : Option Addr) (m c1 n c2 q : Nat) (zo zc zr : List Int) (w : World) (h : Sl w n a m c1 zo zc) (hr : RowU w r n zr) (h1 : 1 ≤ n) (h2 : n ≤ 64) (hq : q = n + 2) :
    Calls Try.prog 15 #[.slice a m c1, .slice r n c2] w fun e w' => Stored w n q zc zr e w' :=
  (store_yes a r m c1 n c2 _ zc zr w h.row hr h1 h2 h.len rfl h.holds.one).mono fun e w' ⟨v, he, hv, hb⟩ => by
    obtain ⟨x, c, rfl, rx, _, hc, _⟩ := hv.row
    rw [sto_len, ← hq] at rx hc he
    exact ⟨x, c, he, rx, hc, hb⟩
/-- Behind some of the writes. -/
def Cut (w : World) (n m : Nat) (zo zn : List Int) (e : Ending) (w' : World) : Prop :=
  ∃ a c zc, e = .returned (.tuple #[.slice a m c, .int .i64 0]) ∧ Sl w' n a m c zn zc ∧ Below w.heap.size w w'
theorem apply_sl (a b : Option Addr) (m c1 n q c2 k : Nat) (zo zc zr : List Int) (w : World) (h : Sl w n a m c1 zo zc) (hw : RowW w b q (sto zc zr n)) (hc : q ≤ c2) (h1 : 1 ≤ n) (h2 : n ≤ 64) (hq : q = n + 2) (hr : zr.length = n) (hk : k ≤ q) :
    Calls Try.prog 22 #[.slice a m c1, .slice b q c2, .int .i64 (k : Int)] w fun e w' => Cut w n m zo (if k < q then zo else zr) e w' :=
  (apply_cap a b m q c1 c2 k zc (sto zc zr n) w h.row hw (by have := h.len; omega) (by have := h.len; omega) (by omega) hc (by rw [h.len]; exact sto_in zc zr n) hk).mono fun e w' ⟨x, c, he, rx, _, hcx, hb⟩ => by
    have hl : (wrt zc ((sto zc zr n).take k)).length = m := by rw [wrt_len]; exact h.row.1
    rw [hl] at he rx hcx
    refine ⟨x, c, _, he, ⟨rx, hcx, h.len, ?_⟩, hb⟩
    by_cases hlt : k < q
    · rw [if_pos hlt]
      exact store_cut h.holds (by omega)
    · rw [if_neg hlt, List.take_of_length_le (by rw [sto_len]; omega)]
      exact store_all h.holds hr
/-- The record of slots. -/
def Got (w : World) (n : Nat) (zo : List Int) (e : Ending) (w' : World) : Prop :=
  ∃ a c, e = .returned (.tuple #[.slice a n c, .int .i64 0]) ∧ RowU w' a n zo ∧ Below w.heap.size w w'
theorem load_sl (a : Option Addr) (m c1 n : Nat) (zo zc : List Int) (w : World) (h : Sl w n a m c1 zo zc) (h1 : 1 ≤ n) (h2 : n ≤ 64) :
    Calls Try.prog 13 #[.slice a m c1, .int .i64 (n : Int)] w fun e w' => Got w n zo e w' :=
  (load_yes a m c1 n _ zc w h.row h.cap h1 h2 h.len rfl h.holds.one).mono fun e w' ⟨x, c, he, rx, _, hb⟩ => by
    rw [rcd_len] at he rx
    rw [h.holds.is] at rx
    exact ⟨x, c, he, rx, hb⟩
theorem fresh_sl (n m : Nat) (w : World) (h1 : 1 ≤ n) (h2 : n ≤ 64) (hm : m = 2 * n + 2) :
    Calls Try.prog 9 #[.int .i64 (n : Int)] w fun e w' => Cut w n m [] (List.replicate n 0) e w' :=
  (fresh_cap n w h1 h2).mono fun e w' ⟨x, c, he, rx, _, hc, hb⟩ => by
    rw [fre_len, ← hm] at he rx hc
    exact ⟨x, c, _, he, ⟨rx, hc, hm, fre_holds n⟩, hb⟩

/-- Lists of words that came in. -/
def Rws (w : World) (a : Option Addr) (len : Nat) (A : Nat → Option Addr) (L C : Nat → Nat) (Z : Nat → List Int) : Prop :=
  ∀ i, i < len → ∃ b off, a = some ⟨b, off, none⟩ ∧ w.cell? ⟨b, off + i, none⟩ = some (.slice (A i) (L i) (C i)) ∧ RowU w (A i) (L i) (Z i)
theorem Rws.below {w w' : World} {a : Option Addr} {len : Nat} {A : Nat → Option Addr} {L C : Nat → Nat} {Z : Nat → List Int} (h : Rws w a len A L C Z) (hb : Below w.heap.size w w') : Rws w' a len A L C Z := fun i hi => by
  obtain ⟨b, off, h1, h2, h3⟩ := h i hi
  exact ⟨b, off, h1, (hb.cell (p := ⟨b, off + i, none⟩) (World.block_lt_of_cell? w _ h2)).trans h2, h3.below hb⟩

/-- Slots in which records were stored. -/
def Slots (w : World) (n m : Nat) (e : Ending) (w' : World) : Prop :=
  ∃ a c b d zo zc, e = .returned (.tuple #[.slice a m c, .slice b n d, .bool true]) ∧ Sl w' n a m c zo zc ∧ RowU w' b n zo ∧ Below w.heap.size w w'

set_option maxHeartbeats 2000000 in
theorem slots_any (a : Option Addr) (len cap n m q : Nat) (A : Nat → Option Addr) (L C : Nat → Nat) (Z : Nat → List Int) (w : World) (hr : Rws w a len A L C Z) (h1 : 1 ≤ n) (h2 : n ≤ 64) (hm : m = 2 * n + 2) (hq : q = n + 2) :
    Calls Try.prog 19 #[.int .i64 (n : Int), .slice a len cap] w fun e w' => Slots w n m e w' := by
  have HR : Hid (∀ wr, Below w.heap.size w wr → Rws wr a len A L C Z) := fun wr hb => hr.below hb
  have HF : Hid (Calls Try.prog 9 #[.int .i64 (n : Int)] w fun e w' => Cut w n m [] (List.replicate n 0) e w') := fresh_sl n m w h1 h2 hm
  have HFI : Hid (∀ W a' len' cap' zs', RowU W a' len' zs' → Calls Try.prog 21 #[.slice a' len' cap', .int .i64 (n : Int)] W fun e w' => Fit W n zs' e w') := fun W a' len' cap' zs' h => fitted_row a' len' cap' n zs' W h h2
  have HST : Hid (∀ W a' c1 r c2 zo zc zr, Sl W n a' m c1 zo zc → RowU W r n zr → Calls Try.prog 15 #[.slice a' m c1, .slice r n c2] W fun e w' => Stored W n q zc zr e w') := fun W a' c1 r c2 zo zc zr h h' => store_sl a' r m c1 n c2 q zo zc zr W h h' h1 h2 hq
  have HAP : Hid (∀ W a' c1 b c2 zo zc zr, Sl W n a' m c1 zo zc → RowW W b q (sto zc zr n) → q ≤ c2 → zr.length = n → Calls Try.prog 22 #[.slice a' m c1, .slice b q c2, .int .i64 (q : Int)] W fun e w' => Cut W n m zo zr e w') := fun W a' c1 b c2 zo zc zr h h' hc hl => by
    have := apply_sl a' b m c1 n q c2 q zo zc zr W h h' hc h1 h2 hq hl (Nat.le_refl _)
    rw [if_neg (Nat.lt_irrefl _)] at this; exact this
  have hmk : ∀ W : World, (Instr.makeSlice 22 (.int .i64 (n : Int)) (.int .i64 (n : Int))).run Try.prog W = .ok (.slice (some ⟨W.heap.size, 0, none⟩) n n) (W.alloc (.cells (arr (List.replicate n 0)) 45)) := make_u32 n (by omega)
  have hne : ((m : Int) != 2 * ((n : Int) + 1)) = false := by simp; omega
  have HZ : Hid ((List.replicate n (0 : Int)).length = n) := List.length_replicate
  clear hr hm hq
  generalize List.replicate n (0 : Int) = z0 at *
  go_enter Try.func19, Try.ntmps19
  go_wp2_with fail
  refine HF.out.mono ?_
  rintro e w1 ⟨a1, c1, zc1, rfl, hs1, hb1⟩
  have HO1 : Hid (Sl (w1.alloc (.cells (arr z0) 45)) n a1 m c1 z0 zc1 ∧ RowU (w1.alloc (.cells (arr z0) 45)) (some ⟨w1.heap.size, 0, none⟩) n z0 ∧ Below w.heap.size w (w1.alloc (.cells (arr z0) 45))) :=
    ⟨hs1.below ((Below.refl _ _).alloc (Nat.le_refl _) _), Blk.rowU (Blk.new _ _ _) HZ.out, hb1.alloc hb1.size _⟩
  clear hs1 hb1 HF
  go_wp2_with fail
  go_loopw [7, 9, 10] (fun vc vo i wr => ∃ (k : Nat) (a' : Option Addr) (c : Nat) (b : Option Addr) (d : Nat) (zo zc : List Int), vc = .slice a' m c ∧ vo = .slice b n d ∧ i = .int .i64 (k : Int) ∧ k ≤ 10 ∧ k ≤ len ∧ Sl wr n a' m c zo zc ∧ RowU wr b n zo ∧ Below w.heap.size w wr) (fun _ _ i _ => 10 - (intOf i).toNat)
  case atStart => exact ⟨0, a1, c1, _, _, z0, zc1, rfl, rfl, rfl, Nat.zero_le _, Nat.zero_le _, HO1.out⟩
  case round =>
    obtain ⟨k, a', c, b, d, zo, zc, rfl, rfl, rfl, hk, hkl, hS, hB, hb⟩ := hrel
    have HI : Hid (Sl wr n a' m c zo zc ∧ RowU wr b n zo ∧ Below w.heap.size w wr) := ⟨hS, hB, hb⟩
    clear hS hB hb HO1
    by_cases hgo : k < len ∧ k < 10
    · obtain ⟨g1, g2⟩ := hgo
      obtain ⟨br, off, rfl, hcell, hrow⟩ := HR.out wr HI.out.2.2 k g1
      have HRW : Hid (RowU wr (A k) (L k) (Z k)) := hrow
      clear hrow
      generalize A k = Ak at *
      generalize L k = Lk at *
      generalize C k = Ck at *
      generalize Z k = Zk at *
      go_wp2_with fail
      refine (HFI.out _ _ _ _ _ HRW.out).mono ?_
      rintro e w2 ⟨x2, c2, rfl, r2, _, hb2⟩
      have H2 : Hid (RowU w2 x2 n (fit Zk n) ∧ Sl w2 n a' m c zo zc ∧ Below w.heap.size w w2) := ⟨r2, HI.out.1.below hb2, bel_step HI.out.2.2 hb2⟩
      clear r2 hb2 HI HRW
      go_wp2_with fail
      refine (HST.out _ _ _ _ _ _ _ _ H2.out.2.1 H2.out.1).mono ?_
      rintro e w3 ⟨x3, c3, rfl, r3, hc3, hb3⟩
      have H3 : Hid (RowW w3 x3 q (sto zc (fit Zk n) n) ∧ q ≤ c3 ∧ Sl w3 n a' m c zo zc ∧ RowU w3 x2 n (fit Zk n) ∧ Below w.heap.size w w3) := ⟨r3, hc3, H2.out.2.1.below hb3, H2.out.1.below hb3, bel_step H2.out.2.2 hb3⟩
      clear r3 hc3 hb3 H2
      go_wp2_with fail
      refine (HAP.out _ _ _ _ _ _ _ _ H3.out.2.2.1 H3.out.1 H3.out.2.1 (fit_len _ _)).mono ?_
      rintro e w4 ⟨x4, c4, zc4, rfl, s4, hb4⟩
      have H4 : Hid (Sl w4 n x4 m c4 (fit Zk n) zc4 ∧ RowU w4 x2 n (fit Zk n) ∧ Below w.heap.size w w4) := ⟨s4, H3.out.2.2.2.1.below hb4, bel_step H3.out.2.2.2.2 hb4⟩
      clear s4 hb4 H3
      go_wp2_with fail
      go_roundw
      case rel => exact ⟨k + 1, x4, c4, x2, c2, _, zc4, rfl, rfl, by go_num, by omega, by omega, H4.out⟩
      case measure => simp [intOf]; omega
    · by_cases g1 : k < len
      · have g2 : ¬ (k : Int) < 10 := by omega
        have g3 : decide ((k : Int) < 10) = false := by simp; omega
        clear hgo
        go_wp2_with fail
        go_ret3
        exact ⟨a', c, b, d, zo, zc, rfl, HI.out⟩
      · clear hgo
        go_wp2_with fail
        go_ret3
        exact ⟨a', c, b, d, zo, zc, rfl, HI.out⟩

end Go.Proofs.Ythbalnldfegobaa.slot
