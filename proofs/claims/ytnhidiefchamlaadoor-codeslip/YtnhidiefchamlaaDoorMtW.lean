/- Meters in words: plain facts. -/
import Derived.Test.YtnhidiefchamlaaDoorMtN
namespace Go.Proofs.YtnhidiefchamlaaDoor.met

/-- The second word: four numbers, a byte each. -/
def four (m : Mt) : Int := m.me + 256 * (m.rev + 256 * (m.bad + 256 * m.lock))
/-- A meter's words. -/
def wds (m : Mt) : List Int := [m.cr, four m, m.h, ((m.b % 4294967296 : Nat) : Int), ((m.b / 4294967296 : Nat) : Int)]
/-- The meter of five words. -/
def rd (a b c d e : Int) : Mt := ⟨b % 256, b / 256 % 256, a, c, (e * 4294967296 + d).toNat, b / 65536 % 256, b / 16777216⟩
theorem may_high {m : Mt} (h : m.may) : 0 ≤ m.h ∧ m.h ≤ 1048575 := by
  rcases h.win with ⟨h0, _⟩ | ⟨h1, h2, _⟩ <;> omega
theorem four_bd {m : Mt} (h : m.may) : 0 ≤ four m ∧ four m < 4294967296 := by
  have h1 := h.me; have h2 := h.rev; have h3 := h.bad; have h4 := h.lock
  unfold four; omega
theorem rd_wds {m : Mt} (h : m.may) : rd m.cr (four m) m.h ((m.b % 4294967296 : Nat) : Int) ((m.b / 4294967296 : Nat) : Int) = m := by
  have h1 := h.me; have h2 := h.rev; have h3 := h.bad; have h4 := h.lock
  obtain ⟨me, rev, cr, hh, b, bad, lock⟩ := m
  simp only [rd, four] at *
  rw [show (me + 256 * (rev + 256 * (bad + 256 * lock))) % 256 = me by omega, show (me + 256 * (rev + 256 * (bad + 256 * lock))) / 256 % 256 = rev by omega,
    show (me + 256 * (rev + 256 * (bad + 256 * lock))) / 65536 % 256 = bad by omega, show (me + 256 * (rev + 256 * (bad + 256 * lock))) / 16777216 = lock by omega]
  rw [show (((b / 4294967296 : Nat) : Int) * 4294967296 + ((b % 4294967296 : Nat) : Int)).toNat = b by omega]
theorem wds_rd {a b c d e : Int} (hd : 0 ≤ d) (hd2 : d < 4294967296) (he : 0 ≤ e) : wds (rd a b c d e) = [a, b, c, d, e] := by
  unfold wds four rd
  simp only []
  rw [show b % 256 + 256 * (b / 256 % 256 + 256 * (b / 65536 % 256 + 256 * (b / 16777216))) = b by omega]
  rw [show (((e * 4294967296 + d).toNat % 4294967296 : Nat) : Int) = d by omega, show (((e * 4294967296 + d).toNat / 4294967296 : Nat) : Int) = e by omega]

end Go.Proofs.YtnhidiefchamlaaDoor.met
