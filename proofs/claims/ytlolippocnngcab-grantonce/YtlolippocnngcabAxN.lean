/- What prices come to. -/
import Derived.Test.YtlolippocnngcabAcX
namespace Go.Proofs.Ytlolippocnngcab.acc
open Go.Proofs.Ytlolippocnngcab.tar (Du du0 Came RowD Ld PairT)
open Go.RowKit
set_option maxRecDepth 100000
set_option linter.unusedVariables false
set_option linter.unusedSimpArgs false

theorem price_gotN {l : List Du} {x n p e : Int} (h : tar.PriceIs l x n p e) (hr : tar.Right l) (h0 : 0 ≤ x) (h1 : 0 ≤ n) (h2 : n ≤ 2097151) (h3 : x + n ≤ 10000000) : p = tar.cost l x (x + n) ∧ e = 0 := by
  have h4 : e = 0 := h.1.ok.2 ⟨hr, ⟨h0, by omega⟩, ⟨h1, h2⟩, h3⟩
  rcases h.2 with ⟨_, h5⟩ | ⟨h5, _⟩
  · exact ⟨h5, h4⟩
  · exact absurd h4 h5
theorem price_got {l : List Du} {x p e : Int} (h : tar.PriceIs l x 1 p e) (hr : tar.Right l) (h0 : 0 ≤ x) (h1 : x < 10000000) : p = tar.cost l x (x + 1) ∧ e = 0 := by
  have h2 : e = 0 := h.1.ok.2 ⟨hr, ⟨h0, by omega⟩, ⟨by omega, by omega⟩, by omega⟩
  rcases h.2 with ⟨_, h3⟩ | ⟨h3, _⟩
  · exact ⟨h3, h2⟩
  · exact absurd h2 h3
theorem most_last {l : List Du} {x m u : Int} (h : tar.MostOf l x m u) (h1 : x + u ≤ 10000000) (h2 : u ≤ 2097151) : u = 2097151 ∨ x + u = 10000000 ∨ (u < 2097151 ∧ x + u < 10000000 ∧ m < tar.cost l x (x + (u + 1))) := by
  by_cases a : u = 2097151
  · exact .inl a
  · by_cases b : x + u = 10000000
    · exact .inr (.inl b)
    · rcases h.2.2 with c | c
      · unfold tar.Top at c; omega
      · exact .inr (.inr ⟨by omega, by omega, c⟩)
theorem rest_bd {a : Ac} {t : Tm} {te m : Int} (h : Ready a t m) (h0 : 1 ≤ te) (h1 : te ≤ 100000000) : (0 ≤ paid a t te m ∧ paid a t te m ≤ te) ∧ (0 ≤ fee t te ∧ fee t te ≤ 100100000) ∧ rest a t te m = te - paid a t te m - fee t te := by
  obtain ⟨a1, ⟨b1, ⟨c1, c2⟩, ⟨d1, d2⟩, ⟨e1, e2⟩, _⟩, r⟩ := h
  have hs := mays_sum (rolled_may a1 r).1
  have h2 := rec_bd (te := te) (db := t.db) (by omega) h1 e1 e2
  have h3 := rec_bd (te := te) (db := t.fb) (by omega) h1 d1 d2
  refine ⟨⟨?_, ?_⟩, ⟨?_, ?_⟩, rfl⟩
  · show 0 ≤ min (te * t.db / 10000) _; omega
  · show min (te * t.db / 10000) _ ≤ te; omega
  · show 0 ≤ t.ff + te * t.fb / 10000; omega
  · show t.ff + te * t.fb / 10000 ≤ _; omega
theorem owed_got {l : List Du} {x e : Int} (h : deb.OwedIs l x e) (hm : deb.Mays l) : x = deb.sumD l ∧ e = 0 := by
  have h4 : e = 0 := by
    rcases h.1 with ⟨a, _⟩ | ⟨_, a, _⟩ | ⟨_, a⟩
    · exact absurd hm.1 a
    · exact absurd hm.2 a
    · exact a
  rcases h.2 with ⟨_, h5⟩ | ⟨h5, _⟩
  · exact ⟨h5, h4⟩
  · exact absurd h4 h5
theorem left_may {l : List Du} (h : deb.Mays l) (s : Int) : deb.Mays (deb.recK l s l.length) := ⟨by have := deb.recK_len l s l.length; have := h.1; omega, deb.fits_mem (fun d hd => (deb.recK_ok h s l.length (Nat.le_refl _) d hd).1)⟩
theorem left_sum {l : List Du} (h : deb.Mays l) (s : Int) (hs : 0 ≤ s) : deb.sumD l - deb.sumD (deb.recK l s l.length) = min s (deb.sumD l) := by
  have h1 := deb.recK_sum h s hs l.length (Nat.le_refl _)
  have h2 := mays_sum h
  rw [deb.sumK_all] at h1
  rw [h1]
  omega
theorem granted_may {a : Ac} {m : Int} (h : AMay a) (hr : RMay a m) (hn : a.nx ≤ 1048575) : AMay (granted a m) := by
  obtain ⟨h1, h2, h3, h4, h5, h6, h7⟩ := rolled_may h hr
  have hs := rolled_same a m
  obtain ⟨g1, g2, g3, g4, g5, g6, g7⟩ := h
  obtain ⟨⟨r1, r2⟩, r3⟩ := hr
  exact ⟨h1, g2, g3, ⟨by show 1 ≤ a.nx + 1; omega, by show a.nx + 1 ≤ _; omega⟩, ⟨r1, r2⟩, h6, by show -1 ≤ m; omega, by show m ≤ m; omega⟩
theorem grant_cases {a : Ac} {t : Tm} {m e : Int} {b : Ac} {l : Bi} (h : GrantIs a t m b l e) (hr : Ready a t m) (hn : a.nx ≤ 1048575) (ht : 1 ≤ t.al) : (a.fr = m ∧ e = 21 ∧ b = ac0 ∧ l = bi0) ∨ (a.fr ≠ m ∧ e = 0 ∧ b = granted a m ∧ l = ⟨a.nx, 0, 0, 0, 0, 0, t.al⟩) := by
  rcases h with ⟨p, _⟩ | ⟨_, p, _⟩ | ⟨_, _, p, rfl, rfl, rfl⟩ | ⟨_, _, _, p, _⟩ | ⟨_, _, p, _, rfl, rfl, rfl⟩
  · exact absurd hr p.not
  · omega
  · exact .inl ⟨p, rfl, rfl, rfl⟩
  · exact absurd hn p
  · exact .inr ⟨p, rfl, rfl, rfl⟩
theorem share_one {tn db s : Int} (h0 : 0 ≤ tn) (h2 : 0 ≤ db) : min (tn * db / 10000) s * 10000 ≤ tn * db ∧ (min (tn * db / 10000) s = s ∨ tn * db < (min (tn * db / 10000) s + 1) * 10000) := by
  have a := Int.mul_nonneg h0 h2
  generalize tn * db = q at *
  by_cases h : q / 10000 ≤ s
  · rw [show min (q / 10000) s = q / 10000 by omega]; omega
  · rw [show min (q / 10000) s = s by omega]; omega

end Go.Proofs.Ytlolippocnngcab.acc
