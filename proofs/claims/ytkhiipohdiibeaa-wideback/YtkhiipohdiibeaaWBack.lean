/- Digits are read as they were shown. -/
import Derived.Test.YtkhiipohdiibeaaWShow
import Derived.Test.YtkhiipohdiibeaaWReadOk
namespace Go.Proofs.Ytkhiipohdiibeaa.words
open Go.RowKit

theorem strOf_list (ns : List Int) : (strOf ns).data.toList = ns.map fun n => UInt8.ofNat n.toNat := by
  have h : ∀ (ns : List Int) (r : ByteArray), (ns.foldl (fun r n => r.push (UInt8.ofNat n.toNat)) r).data.toList = r.data.toList ++ ns.map fun n => UInt8.ofNat n.toNat := by
    intro ns
    induction ns with
    | nil => intro r; simp
    | cons x l ih => intro r; rw [List.foldl_cons, ih]; simp [ByteArray.push]
  have := h ns ByteArray.empty
  simpa [strOf] using this
theorem strOf_size (ns : List Int) : (strOf ns).size = ns.length := by
  rw [← len_eq, strOf_list]; simp

theorem byte_back {c : Int} (h0 : 0 ≤ c) (h1 : c < 256) : (((UInt8.ofNat c.toNat).toNat : Nat) : Int) = c := by
  rw [UInt8.toNat_ofNat']
  omega

theorem allD_str (ns : List Int) (h : ∀ c ∈ ns, 48 ≤ c ∧ c ≤ 57) : allD (ns.map fun n => UInt8.ofNat n.toNat) = true := by
  unfold allD
  rw [List.all_eq_true]
  intro b hb
  obtain ⟨c, hc, rfl⟩ := List.mem_map.1 hb
  have := h c hc
  have e := byte_back (c := c) (by omega) (by omega)
  exact isD_yes (by omega) (by omega)

theorem dval_str (ns : List Int) (h : ∀ c ∈ ns, 48 ≤ c ∧ c ≤ 57) : dval (ns.map fun n => UInt8.ofNat n.toNat) = dvalI ns := by
  have key : ∀ (l : List Int) (a : Int), (∀ c ∈ l, 48 ≤ c ∧ c ≤ 57) → (l.map fun n => UInt8.ofNat n.toNat).foldl (fun n c => n * 10 + ((c.toNat : Int) - 48)) a = l.foldl (fun n c => n * 10 + (c - 48)) a := by
    intro l
    induction l with
    | nil => intro a _; rfl
    | cons x r ih =>
      intro a hl
      have hx := hl x (List.mem_cons_self ..)
      rw [List.map_cons, List.foldl_cons, List.foldl_cons, byte_back (c := x) (by omega) (by omega)]
      exact ih _ fun c hc => hl c (List.mem_cons_of_mem _ hc)
  exact key ns 0 h

theorem whole_dec (u : Nat) : whole (strOf (decL u)).data.toList = true ∧ dval (strOf (decL u)).data.toList = u := by
  rw [strOf_list]
  have hd := decL_dig u
  refine ⟨?_, by rw [dval_str _ hd, decL_val]⟩
  by_cases h0 : u = 0
  · subst h0
    rw [decL_one (by omega)]
    rfl
  · unfold whole
    have ha := allD_str _ hd
    have hh := decL_head u (by omega)
    have hne : decL u ≠ [] := decL_ne u
    cases hl : decL u with
    | nil => exact absurd hl hne
    | cons x r =>
      rw [hl] at ha hh hd
      have hx := hd x (List.mem_cons_self ..)
      have hb := byte_back (c := x) (by omega) (by omega)
      have hx2 : x ≠ 48 := by simpa using hh
      have hx3 : UInt8.ofNat x.toNat ≠ 48 := by
        intro e
        rw [e] at hb
        apply hx2
        rw [← hb]; rfl
      rw [List.map_cons] at ha
      rw [List.map_cons, ha]
      simp [hx3]

end Go.Proofs.Ytkhiipohdiibeaa.words
