/- A store into another block leaves debts alone. -/
import Derived.Test.YtfhlokjpdkmdjaaAcD
import Derived.Test.YtfhlokjpdkmdjaaLet
namespace Go.Proofs.Ytfhlokjpdkmdjaa.acc
open Go.Proofs.Ytfhlokjpdkmdjaa.tar (Du du0 Came RowD Ld PairT)
open Go.RowKit
set_option maxRecDepth 100000
set_option linter.unusedVariables false
set_option linter.unusedSimpArgs false

theorem row_upd {w W : World} {g : Nat} {new : Array Value} {t : TypeId} {p : Option Addr} {len : Nat} {l : List Du} (h : RowD w p len l) (hU : Upd w W g new t) (hg : 0 < len → ∀ x, p = some x → x.block ≠ g) : RowD W p len l := by
  refine ⟨h.1, ?_⟩
  rcases h.2 with h0 | ⟨b, off, rfl, hc⟩
  · exact .inl h0
  · refine .inr ⟨b, off, rfl, fun i hi => ?_⟩
    have hne : b ≠ g := hg (by omega) _ rfl
    rw [hU.cell ⟨b, off + i * 2, none⟩ hne rfl, hU.cell ⟨b, off + i * 2 + 1, none⟩ hne rfl]
    exact hc i hi
theorem came_upd {w W : World} {g : Nat} {new : Array Value} {t : TypeId} {p : Option Addr} {len cap : Nat} {l : List Du} (h : Came w p len cap l) (hU : Upd w W g new t) (hg : 0 < len → ∀ x, p = some x → x.block ≠ g) : Came W p len cap l := ⟨row_upd h.row hU hg, h.nil, h.room, h.bytes, h.wf⟩
theorem fresh_upd {w W : World} {g base : Nat} {new : Array Value} {t : TypeId} {p : Option Addr} {len cap : Nat} {l : List Du} (h : deb.Fresh w base p len cap l) (hU : Upd w W g new t) (hg : g < base) : deb.Fresh W base p len cap l := ⟨came_upd h.came hU (fun hn x hx => by have := h.new hn x hx; omega), h.new⟩
theorem fresh_updN {w W : World} {g base : Nat} {new : Array Value} {t : TypeId} {p : Option Addr} {len cap : Nat} {l : List Du} (h : deb.Fresh w base p len cap l) (hU : Upd w W g new t) (hg : 0 < len → ∀ x, p = some x → x.block ≠ g) : deb.Fresh W base p len cap l := ⟨came_upd h.came hU hg, h.new⟩
theorem fresh_drew {w : World} {base : Nat} {p : Option Addr} {len cap : Nat} {l : List Du} (h : deb.Fresh w base p len cap l) : deb.Fresh w.drew base p len cap l := ⟨⟨h.came.row, h.came.nil, h.came.room, h.came.bytes, h.came.wf⟩, h.new⟩
theorem ld_upd {T : TypeId} {w W : World} {g base : Nat} {new : Array Value} {t : TypeId} {v : Value} {l : List Du} (h : Ld T w base v l) (hU : Upd w W g new t) (hg : g < base) : Ld T W base v l := by
  refine ⟨h.1, ?_⟩
  rcases h.2 with hn | ⟨q, cap, cur, hv, hq, hc, rest⟩
  · exact .inl hn
  · exact .inr ⟨q, cap, cur, hv, hq, hU.keep hc (by omega), rest⟩
/-- A row of debts lies in no block of another kind. -/
theorem ld_ne {T t : TypeId} {w : World} {base G n cap : Nat} {a : Option Addr} {cs : Array Value} {l : List Du} (h : Ld T w base (.slice a n cap) l) (hB : Blk w G cs t) (ht : t ≠ T) : 0 < n → ∀ x, a = some x → x.block ≠ G := fun hn x hx e => by
  rcases h.2 with ⟨hv, _⟩ | ⟨q, cp, cur, hv, hq, hc, _⟩
  · injection hv with h1 h2 h3
    omega
  · injection hv with h1 h2 h3
    rw [hx] at h1
    have h4 := Option.some.inj h1
    subst h4
    have e2 : q = G := e
    subst e2
    have hc2 : Blk w q _ T := hc
    unfold Blk at hB hc2
    rw [hB] at hc2
    injection hc2 with h5
    injection h5 with _ h6
    exact ht h6
/-- Debts that came in lie below what is made since. -/
theorem came_lt {w : World} {p : Option Addr} {len cap : Nat} {l : List Du} (h : Came w p len cap l) : 0 < len → ∀ x, p = some x → x.block < w.heap.size := fun hn x hx => by
  obtain ⟨b, off, hp, hb, _⟩ := h.row.at hn
  rw [hp] at hx
  cases hx
  exact hb

end Go.Proofs.Ytfhlokjpdkmdjaa.acc
