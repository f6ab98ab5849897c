/- put: a record, wholly. -/
import Derived.Test.YtfllkhlnnihndaaDkW
import Derived.Test.YtfllkhlnnihndaaKkA
import Derived.Test.YtfllkhlnnihndaaClApp
import Derived.WalkKit
namespace Go.Proofs.Ytfllkhlnnihndaa.disk
open Go.RowKit Go.Proofs.Ytfllkhlnnihndaa.cell
set_option maxRecDepth 100000
set_option linter.unusedVariables false

/-- cell.Apply, behind so many of the writes of a record. -/
def AppliedD (w : World) (n : Nat) (z : List Int) (e : Ending) (w' : World) : Prop := ∃ a cap, e = .returned (.tuple #[.slice a n cap, .int .i64 0]) ∧ Dsk w' a n cap z ∧ Below w.heap.size w w'
theorem apply_dsk (a b : Option Addr) (n m c1 c2 k e : Nat) (c r : List Int) (l : List (List Int)) (w : World) (h : Dsk w a n c1 c) (ht : Tape c l e) (hr : RMay r) (hwr : Wds r) (hf : e + r.length < c.length) (hw : RowW w b m (appW c e r)) (hc : m ≤ c2) (hk : k ≤ m) :
    Calls Try.prog 21 #[.slice a n c1, .slice b m c2, .int .i64 (k : Int)] w fun e' w' => AppliedD w n (wrt c ((appW c e r).take k)) e' w' := by
  have hn : c.length = n := h.row.1
  have hm1 := ht.1.1
  have hm2 := ht.1.2
  have hm : m ≤ 4096 := by
    have h1 := hw.1
    rw [app_len] at h1
    have := hr.2
    split at h1 <;> omega
  refine (apply_cap a b n m c1 c2 k c (appW c e r) w h.row hw (by omega) (by omega) hm hc (by rw [← hn]; exact app_in c r e hf) hk).mono ?_
  rintro e' w' ⟨a', cap', he, hrow, hnil, hroom, hb⟩
  rw [wrt_len, hn] at he hrow hroom
  exact ⟨a', cap', he, ⟨hrow, hnil, hroom, wds_wrt h.wds _ (wrs_take (wrs_app hwr hr e) k)⟩, hb⟩
/-- What put gives back. -/
def PutPost (w : World) (n : Nat) (z : List Int) (e : Ending) (w' : World) : Prop := ∃ a cap, e = .returned (.tuple #[.slice a n cap, .bool true]) ∧ Dsk w' a n cap z ∧ Below w.heap.size w w'
set_option maxHeartbeats 2000000 in
theorem put_any (K : KAppend) (a b : Option Addr) (n c1 m c2 e0 : Nat) (c r : List Int) (l : List (List Int)) (w : World) (h : Dsk w a n c1 c) (hrow : RowU w b m r) (hnil : b = none → c2 = 0) (hroom : m ≤ c2) (hwr : Wds r) (ht : Tape c l e0) (hr : RMay r) (hf : e0 + r.length < c.length) :
    Calls Try.prog 22 #[.slice a n c1, .slice b m c2] w fun e w' => PutPost w n (wrt c (appW c e0 r)) e w' := by
  have hn : c.length = n := h.row.1
  have hm : r.length = m := hrow.1
  have HA : Hid (Calls Try.prog 14 #[.slice a n c1, .slice b m c2] w fun e w' => AppGot w c r e w') := K w a n c1 c b m c2 r h.row h.nil h.room (by have := ht.1.2; omega) h.wds hrow hnil hroom (by have := hr.2; omega) hwr
  have HD : Hid (Dsk w a n c1 c) := h
  have HP : Hid (∀ W x q cx, Below w.heap.size w W → RowW W x q (appW c e0 r) → q ≤ cx → Calls Try.prog 21 #[.slice a n c1, .slice x q cx, .int .i64 (q : Int)] W fun e' w' => AppliedD W n (wrt c (appW c e0 r)) e' w') := fun W x q cx hB hw hc => by
    have := apply_dsk a x n q c1 cx q e0 c r l W (h.below hB) ht hr hwr hf hw hc (Nat.le_refl _)
    rw [List.take_of_length_le (by rw [hw.1]; exact Nat.le_refl _)] at this
    exact this
  have HT : Hid (∀ ls f, AppIs c r ls f → ls = appW c e0 r ∧ f = 0) := fun ls f hi => by
    rcases ht.app hi hr with ⟨_, h1, h2⟩ | ⟨h1, _⟩
    · exact ⟨h1, h2⟩
    · omega
  clear h hrow hnil hroom hwr ht hr hf hn hm
  go_enter Try.func22, Try.ntmps22
  go_wp2_with fail
  refine HA.out.mono ?_
  rintro e w1 ⟨x, q, cx, ls, f, rfl, hw, _, hle, hq, hi, hb⟩
  obtain ⟨rfl, rfl⟩ := HT.out _ _ hi
  have HB1 : Hid (Below w.heap.size w w1) := hb
  have HP1 : Hid (Calls Try.prog 21 #[.slice a n c1, .slice x q cx, .int .i64 (q : Int)] w1 fun e' w' => AppliedD w1 n (wrt c (appW c e0 r)) e' w') := HP.out w1 x q cx hb hw hle
  clear hw hi hb HP HT HA
  go_wp2_with fail
  refine HP1.out.mono ?_
  rintro e w2 ⟨a2, cap2, rfl, hd, hb2⟩
  have HB2 : Hid (Below w.heap.size w w2) := HB1.out.trans (hb2.mono HB1.out.size)
  have HD2 : Hid (Dsk w2 a2 n cap2 (wrt c (appW c e0 r))) := hd
  clear hd hb2 HP1
  go_wp2_with fail
  go_ret2
  exact ⟨a2, cap2, rfl, HD2.out, HB2.out⟩

end Go.Proofs.Ytfllkhlnnihndaa.disk
