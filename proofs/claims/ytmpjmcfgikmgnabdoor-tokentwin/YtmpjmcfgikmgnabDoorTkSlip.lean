/- What the rest tells of a token's digits that were turned. -/
import Derived.Test.YtmpjmcfgikmgnabDoorTkN
import Derived.Test.YtmpjmcfgikmgnabDoorCkTxt
namespace Go.Proofs.YtmpjmcfgikmgnabDoor.token
open Go.Proofs.YtmpjmcfgikmgnabDoor.check
open Go.RowKit

theorem dg_ne {c c' : UInt8} (hc : isD c = true) (hc' : isD c' = true) (h : c ≠ c') : c.toNat - 48 ≠ c'.toNat - 48 := by
  have h1 := isD_bd hc
  have h2 := isD_bd hc'
  intro e
  exact h (UInt8.toNat_inj.1 (by omega))
theorem dg_lt {c : UInt8} (hc : isD c = true) : c.toNat - 48 < 10 := by have := isD_bd hc; omega
theorem mid_D {A B : List UInt8} {c : UInt8} (h : allD (A ++ c :: B) = true) : allD A = true ∧ isD c = true ∧ allD B = true := by
  rw [allD_append, Bool.and_eq_true] at h
  have h2 := h.2
  simp only [allD, List.all_cons, Bool.and_eq_true] at h2
  exact ⟨h.1, h2.1, h2.2⟩
theorem mk_D {A B : List UInt8} {c : UInt8} (h1 : allD A = true) (h2 : isD c = true) (h3 : allD B = true) : allD (A ++ c :: B) = true := by
  rw [allD_append, h1]
  simp only [allD, List.all_cons, Bool.true_and, Bool.and_eq_true]
  exact ⟨h2, h3⟩
theorem dg_cons (c : UInt8) (l : List UInt8) : digs (c :: l) = (c.toNat - 48) :: digs l := rfl

/-- One wrong digit makes no token. -/
theorem slip_no {k : Tok} (hk : k.ok) {t A B : List UInt8} {c c' : UInt8} (hs : fmtL (97 * k.num) = A ++ c :: B) (ht : t = A ++ c' :: B) (hc' : isD c' = true) (hne : c ≠ c') : parseE t = 8 ∨ parseE t = 2 := by
  have hb := num_bd hk
  have sd := fmt_D (97 * k.num)
  have sl := fmt_len (V := 97 * k.num) (by omega)
  have sr := fmt_rest (k := k)
  rw [hs] at sd sl sr
  have h3 := mid_D sd
  refine bad_rest (by rw [ht]; simpa using sl) (by rw [ht]; exact mk_D h3.1 hc' h3.2.2) ?_
  rw [ht]
  intro e
  rw [digs_append, dg_cons] at sr e
  exact dg_ne h3.2.1 hc' hne (rest_slip _ _ _ _ 0 (dg_lt h3.2.1) (dg_lt hc') (sr.trans e.symm))
/-- Two digits that changed places, neighbours or with one between, make no other token. -/
theorem swap_no {k : Tok} (hk : k.ok) {t A m B : List UInt8} {c c' : UInt8} (hs : fmtL (97 * k.num) = A ++ c :: (m ++ c' :: B)) (ht : t = A ++ c' :: (m ++ c :: B)) (hm : m.length ≤ 1) (hne : t ≠ fmtL (97 * k.num)) : parseE t = 8 ∨ parseE t = 2 := by
  have hcc : c ≠ c' := by
    intro e
    exact hne (by rw [ht, hs, e])
  have hb := num_bd hk
  have sd := fmt_D (97 * k.num)
  have sl := fmt_len (V := 97 * k.num) (by omega)
  have sr := fmt_rest (k := k)
  rw [hs] at sd sl sr
  have h3 := mid_D sd
  have h4 := mid_D h3.2.2
  refine bad_rest (by rw [ht]; simpa using sl) (by rw [ht]; exact mk_D h3.1 h4.2.1 (mk_D h4.1 h3.2.1 h4.2.2)) ?_
  rw [ht]
  intro e
  rw [digs_append, dg_cons, digs_append, dg_cons] at sr e
  have hd := dg_ne h3.2.1 h4.2.1 hcc
  match m, hm with
  | [], _ => exact hd (rest_swap _ _ _ _ 0 (dg_lt h3.2.1) (dg_lt h4.2.1) (sr.trans e.symm))
  | [x], _ => exact hd (rest_swap2 _ _ _ (x.toNat - 48) _ 0 (dg_lt h3.2.1) (dg_lt h4.2.1) (sr.trans e.symm))
  | x :: y :: r, h => simp at h
/-- A pair that is doubled wrongly is told. -/
theorem rest_twin (A B : List Nat) (d e c : Nat) (hd : d < 10) (he : e < 10) (h : restN c (A ++ d :: d :: B) = restN c (A ++ e :: e :: B)) : d = e := by
  rw [restN_append, restN_append, restN_cons, restN_cons, restN_cons, restN_cons] at h
  have := restN_inj B _ _ (Nat.mod_lt _ (by decide)) (Nat.mod_lt _ (by decide)) h
  omega
theorem twin_no {k : Tok} (hk : k.ok) {t A B : List UInt8} {c c' : UInt8} (hs : fmtL (97 * k.num) = A ++ c :: c :: B) (ht : t = A ++ c' :: c' :: B) (hc' : isD c' = true) (hne : c ≠ c') : parseE t = 8 ∨ parseE t = 2 := by
  have hb := num_bd hk
  have sd := fmt_D (97 * k.num)
  have sl := fmt_len (V := 97 * k.num) (by omega)
  have sr := fmt_rest (k := k)
  rw [hs] at sd sl sr
  have h3 := mid_D sd
  have h4 := mid_D (A := []) h3.2.2
  refine bad_rest (by rw [ht]; simpa using sl) (by rw [ht]; exact mk_D h3.1 hc' (mk_D (A := []) rfl hc' h4.2.2)) ?_
  rw [ht]
  intro e
  rw [digs_append, dg_cons, dg_cons] at sr e
  exact dg_ne h3.2.1 hc' hne (rest_twin _ _ _ _ 0 (dg_lt h3.2.1) (dg_lt hc') (sr.trans e.symm))

end Go.Proofs.YtmpjmcfgikmgnabDoor.token
