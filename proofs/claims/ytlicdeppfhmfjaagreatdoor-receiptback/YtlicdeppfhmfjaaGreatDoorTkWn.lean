/- Wide numbers, times a small one. -/
import Derived.Test.YtlicdeppfhmfjaaGreatDoorTkUnpack
import Derived.Test.YtlicdeppfhmfjaaGreatDoorTkBx
import Derived.Test.YtlicdeppfhmfjaaGreatDoorTkFlaw2
import Derived.Test.YtlicdeppfhmfjaaGreatDoorTimes
namespace Go.Proofs.YtlicdeppfhmfjaaGreatDoor.token
open Go.Proofs.YtlicdeppfhmfjaaGreatDoor.words
open Go.RowKit
set_option linter.unusedSimpArgs false

/-- Three words as a wide number, and back. -/
theorem wn_ok {a b c V : Nat} (h : WN a b c V) : W3.ok ⟨a, b, c⟩ ∧ W3.val ⟨a, b, c⟩ = V := by
  have h1 := h.a1; have h2 := h.b1; have h3 := h.c1
  have h4 := h.val
  refine ⟨⟨⟨by show (0 : Int) ≤ a; omega, by show (a : Int) < _; omega⟩, ⟨by show (0 : Int) ≤ b; omega, by show (b : Int) < _; omega⟩, by show (0 : Int) ≤ c; omega, by show (c : Int) < _; omega⟩, ?_⟩
  unfold bigV at h4
  unfold W3.val
  simp only
  omega
theorem wn_of {X : W3} (h : X.ok) {V : Nat} (hV : X.val = V) : ∃ a b c : Nat, X = ⟨a, b, c⟩ ∧ WN a b c V := by
  obtain ⟨x, y, z⟩ := X
  obtain ⟨⟨h0, h0'⟩, ⟨h1, h1'⟩, h2, h2'⟩ := h
  simp only at *
  obtain ⟨a, rfl⟩ := Int.eq_ofNat_of_zero_le h0
  obtain ⟨b, rfl⟩ := Int.eq_ofNat_of_zero_le h1
  obtain ⟨c, rfl⟩ := Int.eq_ofNat_of_zero_le h2
  refine ⟨a, b, c, rfl, by omega, by omega, by omega, ?_⟩
  unfold W3.val at hV
  unfold bigV
  simp only at hV
  omega
theorem times_wn (a b c V m : Nat) (w : World) (h : WN a b c V) (hm : m < 4294967296) (hv : V * m < 79228162514264337593543950336) :
    Calls Tryz.prog 84 #[.agg #[.int .u32 (a : Int), .int .u32 (b : Int), .int .u32 (c : Int)], .int .u32 (m : Int)] w fun e w' =>
      ∃ (a' b' c' : Nat) (o : Int), e = .returned (.tuple #[.agg #[.int .u32 (a' : Int), .int .u32 (b' : Int), .int .u32 (c' : Int)], .int .u32 o]) ∧ WN a' b' c' (V * m) ∧ Below w.heap.size w w' := by
  have hk := wn_ok h
  have ht := times_any ⟨a, b, c⟩ m w hk.1 (by omega) (by omega)
  obtain ⟨a', b', c', he, hn⟩ := wn_of (X := timesW ⟨a, b, c⟩ m) (carry3_ok _ _ _) (V := V * m) (by
    rw [times_mod, hk.2]
    unfold top
    rw [← Int.natCast_mul, Int.emod_eq_of_lt (by omega) (by omega)])
  refine ht.mono ?_
  rintro e w' ⟨rfl, hb⟩
  exact ⟨a', b', c', _, by rw [he], hn, hb⟩

end Go.Proofs.YtlicdeppfhmfjaaGreatDoor.token
