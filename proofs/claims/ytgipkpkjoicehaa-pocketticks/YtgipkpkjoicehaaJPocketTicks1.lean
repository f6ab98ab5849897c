import Derived.Test.YtgipkpkjoicehaaSlN
import Derived.Test.YtgipkpkjoicehaaMtP
import Derived.Test.YtgipkpkjoicehaaClRow
import Derived.Test.YtgipkpkjoicehaaMtD
import Derived.Test.YtgipkpkjoicehaaSlL
import Derived.Test.YtgipkpkjoicehaaMpR
import Derived.Test.YtgipkpkjoicehaaLet
import Derived.Laws.StructEq
import Derived.Test.YtgipkpkjoicehaaSlS
import Derived.Test.YtgipkpkjoicehaaMpW
import Derived.Test.YtgipkpkjoicehaaMpT
import Derived.Test.YtgipkpkjoicehaaMtR
import Derived.Deep.RegionHeld
import Derived.Test.YtgipkpkjoicehaaSlT
import Derived.Test.YtgipkpkjoicehaaMtX
import Derived.Test.YtgipkpkjoicehaaClGave
import Derived.Test.YtgipkpkjoicehaaClIn
import Derived.Test.YtgipkpkjoicehaaMtV
import Derived.Test.YtgipkpkjoicehaaWSame
import Derived.Test.YtgipkpkjoicehaaClSame
import Derived.Test.YtgipkpkjoicehaaClCopy
import Derived.Test.YtgipkpkjoicehaaRows
import Derived.WalkKit
import Derived.ProofKit
import Derived.OpenShut
import Derived.Below
import Derived.ChangeSame
import Derived.Lib.SmallJoins

/- A pocket's slots: plain facts. -/
namespace Go.Proofs.Ytgipkpkjoicehaa.pkt
open Go.Proofs.Ytgipkpkjoicehaa.met Go.Proofs.Ytgipkpkjoicehaa.slot Go.Proofs.Ytgipkpkjoicehaa.cell

/-- What booting gives. -/
def BootIs (xs : List Int) (m : Mt) (e : Int) : Prop :=
  (xs.length ≠ 12 ∧ m = mt0 ∧ e = 1) ∨ (xs.length = 12 ∧ which xs 5 = 2 ∧ m = mt0 ∧ e = 17) ∨ (xs.length = 12 ∧ which xs 5 ≤ 1 ∧ ReadIs (rcd xs 5 (which xs 5)) m e)
theorem BootIs.one {xs : List Int} {m m' : Mt} {e e' : Int} (h : BootIs xs m e) (h' : BootIs xs m' e') : m = m' ∧ e = e' := by
  rcases h with ⟨a0, rfl, rfl⟩ | ⟨a0, a1, rfl, rfl⟩ | ⟨a0, a1, a2⟩ <;> rcases h' with ⟨b0, rfl, rfl⟩ | ⟨b0, b1, rfl, rfl⟩ | ⟨b0, b1, b2⟩ <;>
    first | exact ⟨rfl, rfl⟩ | exact absurd a0 b0 | exact absurd b0 a0 | exact a2.one b2 | omega
theorem which_le (xs : List Int) (n : Nat) : which xs n ≤ 2 := cnt_le _ _
theorem rcd_word {xs : List Int} (h : ∀ x ∈ xs, 0 ≤ x ∧ x < 4294967296) (n s : Nat) : ∀ x ∈ rcd xs n s, 0 ≤ x ∧ x < 4294967296 := by
  intro x hx
  obtain ⟨i, _, rfl⟩ := List.mem_map.1 hx
  by_cases hi : beg n s + 1 + i < xs.length
  · rw [show xs.getD (beg n s + 1 + i) 0 = xs[beg n s + 1 + i] by simp [List.getD, List.getElem?_eq_getElem hi]]; exact h _ (List.getElem_mem hi)
  · rw [show xs.getD (beg n s + 1 + i) 0 = 0 by simp [List.getD, List.getElem?_eq_none (Nat.le_of_not_lt hi)]]; decide
/-- A meter that may be, and whose bits are a word of 64. -/
structure Mw (m : Mt) : Prop where
  may : m.may
  b : m.b < 18446744073709551616
theorem rdL_b {l : List Int} (h5 : l.length = 5) (h : ∀ x ∈ l, 0 ≤ x ∧ x < 4294967296) : (rdL l).b < 18446744073709551616 := by
  have e := list5 h5
  have h3 : 0 ≤ l.getD 3 0 ∧ l.getD 3 0 < 4294967296 := h _ (by rw [e]; simp)
  have h4 : 0 ≤ l.getD 4 0 ∧ l.getD 4 0 < 4294967296 := h _ (by rw [e]; simp)
  show ((l.getD 4 0) * 4294967296 + l.getD 3 0).toNat < _
  omega
theorem wds_len (m : Mt) : (wds m).length = 5 := rfl
theorem wds_words {m : Mt} (h : Mw m) : ∀ x ∈ wds m, 0 ≤ x ∧ x < 4294967296 := by
  have h1 := h.may.cr; have h2 := four_bd h.may; have h3 := may_high h.may; have h4 := h.b
  intro x hx
  simp only [wds, List.mem_cons, List.not_mem_nil, or_false] at hx
  rcases hx with rfl | rfl | rfl | rfl | rfl <;> omega
theorem wds_inj {m m' : Mt} (h : m.may) (h' : m'.may) (e : wds m = wds m') : m = m' := by rw [← rdL_wds h, ← rdL_wds h', e]
/-- Slots that boot hold the words of what they boot to. -/
theorem BootIs.sure {xs : List Int} {m : Mt} (hw : ∀ x ∈ rcd xs 5 (which xs 5), 0 ≤ x ∧ x < 4294967296) (h : BootIs xs m 0) : Holds xs 5 (wds m) ∧ Mw m := by
  rcases h with ⟨_, _, e⟩ | ⟨_, _, _, e⟩ | ⟨a0, a1, h⟩
  · exact absurd e (by decide)
  · exact absurd e (by decide)
  · rcases h with ⟨h, _⟩ | ⟨_, _, _, e⟩ | ⟨h5, hm, rfl, _⟩
    · exact absurd (rcd_len _ _ _) h
    · exact absurd e (by decide)
    · have hl := rcd_len xs 5 (which xs 5)
      exact ⟨⟨a0, a1, (wds_rdL hl hw).symm⟩, hm, rdL_b hl hw⟩
theorem boot_holds {xs : List Int} {m : Mt} (h : Holds xs 5 (wds m)) (hm : m.may) : BootIs xs m 0 := by
  refine .inr (.inr ⟨h.len, h.one, ?_⟩)
  rw [h.is]
  have := ReadIs.ok (l := wds m) (fun hx => hx rfl) (by rw [rdL_wds hm]; exact hm)
  rwa [rdL_wds hm] at this
theorem holds_word {xs : List Int} {m : Mt} (h : Holds xs 5 (wds m)) (hm : Mw m) : ∀ x ∈ rcd xs 5 (which xs 5), 0 ≤ x ∧ x < 4294967296 := by rw [h.is]; exact wds_words hm
/-- The writes of a step. -/
def WrIs (xs : List Int) (m m' : Mt) (ls : List Wr) : Prop := (m' = m ∧ ls = []) ∨ (m' ≠ m ∧ ls = sto xs (wds m') 5)
theorem WrIs.one {xs : List Int} {m m' : Mt} {ls ls' : List Wr} (h : WrIs xs m m' ls) (h' : WrIs xs m m' ls') : ls = ls' := by
  rcases h with ⟨a, rfl⟩ | ⟨a, rfl⟩ <;> rcases h' with ⟨b, rfl⟩ | ⟨b, rfl⟩ <;> first | rfl | exact absurd a b | exact absurd b a
theorem WrIs.len {xs : List Int} {m m' : Mt} {ls : List Wr} (h : WrIs xs m m' ls) : (m' = m ∧ ls.length = 0) ∨ (m' ≠ m ∧ ls.length = 7) := by
  rcases h with ⟨a, rfl⟩ | ⟨a, rfl⟩
  · exact .inl ⟨a, rfl⟩
  · exact .inr ⟨a, sto_len _ _ _⟩
/-- What a new pocket is. -/
def mk (me : Int) : List Int := [1, 0, me, 0, 0, 0, 0, 0, 0, 0, 0, 0]
def MakeIs (me : Int) (xs : List Int) (e : Int) : Prop := ((0 ≤ me ∧ me ≤ 49) ∧ xs = mk me ∧ e = 0) ∨ (¬ (0 ≤ me ∧ me ≤ 49) ∧ xs = [] ∧ e = 2)
theorem MakeIs.one {me : Int} {xs xs' : List Int} {e e' : Int} (h : MakeIs me xs e) (h' : MakeIs me xs' e') : xs = xs' ∧ e = e' := by
  rcases h with ⟨a0, rfl, rfl⟩ | ⟨a0, rfl, rfl⟩ <;> rcases h' with ⟨b0, rfl, rfl⟩ | ⟨b0, rfl, rfl⟩ <;> first | exact ⟨rfl, rfl⟩ | contradiction
theorem new_mw {me : Int} (h : 0 ≤ me ∧ me ≤ 49) : Mw (mtNew me) := ⟨⟨h, ⟨by show (0 : Int) ≤ 0; decide, by show (0 : Int) ≤ 15; decide⟩, ⟨by show (0 : Int) ≤ 0; decide, by show (0 : Int) ≤ 99999999; decide⟩, ⟨by show (0 : Int) ≤ 0; decide, by show (0 : Int) ≤ 4; decide⟩, ⟨by show (0 : Int) ≤ 0; decide, by show (0 : Int) ≤ 30; decide⟩, fun hx => hx.1 rfl, .inl ⟨rfl, rfl⟩⟩, by show (0 : Nat) < _; decide⟩
theorem wds_new (me : Int) : wds (mtNew me) = [0, me, 0, 0, 0] := by
  show [0, me + 256 * (0 + 256 * (0 + 256 * 0)), 0, ((0 % 4294967296 : Nat) : Int), ((0 / 4294967296 : Nat) : Int)] = _
  simp
theorem mk_holds (me : Int) : Holds (mk me) 5 (wds (mtNew me)) := by
  rw [wds_new]
  exact ⟨rfl, by show cnt 1 0 ≤ 1; decide, rfl⟩
theorem tick_mw {m m' : Mt} {ld x : Int} (h : Mw m) (ht : TickIs m ld m' x 0) : Mw m' := by
  rcases ht with ⟨_, _, _, e⟩ | ⟨_, _, _, _, e⟩ | ⟨h1, h2, rfl, _, _⟩
  · exact absurd e (by decide)
  · exact absurd e (by decide)
  · exact ⟨ticked_may h1 h2, h.b⟩
/-- What a tick of a pocket gives. -/
def TickedIs (xs : List Int) (ld : Int) (ls : List Wr) (x e : Int) : Prop :=
  (∃ m, BootIs xs m e ∧ e ≠ 0 ∧ ls = [] ∧ x = 0) ∨ (∃ m m' y, BootIs xs m 0 ∧ TickIs m ld m' y e ∧ e ≠ 0 ∧ ls = [] ∧ x = 0) ∨ (∃ m m', BootIs xs m 0 ∧ TickIs m ld m' x 0 ∧ e = 0 ∧ WrIs xs m m' ls)
theorem TickedIs.one {xs : List Int} {ld : Int} {ls ls' : List Wr} {x x' e e' : Int} (h : TickedIs xs ld ls x e) (h' : TickedIs xs ld ls' x' e') : ls = ls' ∧ x = x' ∧ e = e' := by
  rcases h with ⟨m, a0, a1, rfl, rfl⟩ | ⟨m, m1, y, a0, a2, a1, rfl, rfl⟩ | ⟨m, m1, a0, a2, rfl, a3⟩ <;> rcases h' with ⟨n, b0, b1, rfl, rfl⟩ | ⟨n, n1, z, b0, b2, b1, rfl, rfl⟩ | ⟨n, n1, b0, b2, rfl, b3⟩
  · exact ⟨rfl, rfl, (a0.one b0).2⟩
  · exact absurd (a0.one b0).2 a1
  · exact absurd (a0.one b0).2 a1
  · exact absurd (b0.one a0).2 b1
  · obtain ⟨rfl, _⟩ := a0.one b0; exact ⟨rfl, rfl, (a2.one b2).2.2⟩
  · obtain ⟨rfl, _⟩ := a0.one b0; exact absurd (a2.one b2).2.2 a1
  · exact absurd (b0.one a0).2 b1
  · obtain ⟨rfl, _⟩ := a0.one b0; exact absurd (b2.one a2).2.2 b1
  · obtain ⟨rfl, _⟩ := a0.one b0
    obtain ⟨rfl, rfl, _⟩ := a2.one b2
    exact ⟨a3.one b3, rfl, rfl⟩

end Go.Proofs.Ytgipkpkjoicehaa.pkt

/- A pocket's answers. -/
namespace Go.Proofs.Ytgipkpkjoicehaa.pkt
open Go.RowKit Go.Proofs.Ytgipkpkjoicehaa.met Go.Proofs.Ytgipkpkjoicehaa.slot Go.Proofs.Ytgipkpkjoicehaa.cell
set_option maxRecDepth 100000
set_option linter.unusedVariables false

/-- A meter and an answer were given back. -/
def BootPost (w : World) (xs : List Int) (e : Ending) (w' : World) : Prop := ∃ m f, e = .returned (.tuple #[Mt.v m, .int .i64 f]) ∧ BootIs xs m f ∧ Below w.heap.size w w'
/-- Writes that a step gave back. -/
structure Wg (w : World) (a : Option Addr) (n cap : Nat) (ls : List Wr) : Prop where
  row : RowW w a n ls
  nil : a = none → cap = 0
  le : n ≤ cap
  few : n ≤ 7
theorem Wg.below {w w' : World} {a : Option Addr} {n cap : Nat} {ls : List Wr} (h : Wg w a n cap ls) (hb : Below w.heap.size w w') : Wg w' a n cap ls := ⟨h.row.below hb, h.nil, h.le, h.few⟩
theorem Wg.none (w : World) : Wg w none 0 0 [] := ⟨RowW.nil _ _, fun _ => rfl, Nat.le_refl _, by decide⟩
def WritesPost (w : World) (xs : List Int) (m m' : Mt) (e : Ending) (w' : World) : Prop := ∃ a n cap ls, e = .returned (.slice a n cap) ∧ Wg w' a n cap ls ∧ WrIs xs m m' ls ∧ Below w.heap.size w w'
def TickedPost (w : World) (xs : List Int) (ld : Int) (e : Ending) (w' : World) : Prop := ∃ a n cap ls x f, e = .returned (.tuple #[.slice a n cap, .int .i64 x, .int .i64 f]) ∧ Wg w' a n cap ls ∧ TickedIs xs ld ls x f ∧ Below w.heap.size w w'
/-- Slots that came, or were made. -/
structure Sg (w : World) (a : Option Addr) (n cap : Nat) (xs : List Int) : Prop where
  row : RowU w a n xs
  nil : a = none → cap = 0
  le : n ≤ cap
theorem Sg.below {w w' : World} {a : Option Addr} {n cap : Nat} {xs : List Int} (h : Sg w a n cap xs) (hb : Below w.heap.size w w') : Sg w' a n cap xs := ⟨h.row.below hb, h.nil, h.le⟩
def MakePost (w : World) (me : Int) (e : Ending) (w' : World) : Prop := ∃ a n cap xs f, e = .returned (.tuple #[.slice a n cap, .int .i64 f]) ∧ Sg w' a n cap xs ∧ MakeIs me xs f ∧ Below w.heap.size w w'

end Go.Proofs.Ytgipkpkjoicehaa.pkt

/- The program boots a pocket. -/
namespace Go.Proofs.Ytgipkpkjoicehaa.pkt
open Go.RowKit Go.Proofs.Ytgipkpkjoicehaa.met Go.Proofs.Ytgipkpkjoicehaa.slot Go.Proofs.Ytgipkpkjoicehaa.cell
set_option maxRecDepth 100000
set_option linter.unusedVariables false
set_option linter.unusedSimpArgs false

set_option maxHeartbeats 1000000 in
theorem pboot_no (a : Option Addr) (n cap : Nat) (f : Int) (w : World) (hf : f ≠ 0) (hL : ∀ W, Below w.heap.size w W → Calls Try.prog 19 #[.slice a n cap, .int .i64 5] W fun e w' => GaveR W [] f e w') :
    Calls Try.prog 10 #[.slice a n cap] w fun e w' => e = .returned (.tuple #[.agg #[.int .i64 0, .int .i64 0, .int .i64 0, .int .i64 0, .int .u64 0, .int .i64 0, .int .i64 0], .int .i64 f]) ∧ Below w.heap.size w w' := by
  have HL : Hid (∀ W, Below w.heap.size w W → Calls Try.prog 19 #[.slice a n cap, .int .i64 5] W fun e w' => GaveR W [] f e w') := hL
  have hd : (f != 0) = true := by simpa using hf
  clear hL hf
  have H0r : Hid (Blk (w.alloc (.cells #[.int .i64 0, .int .i64 0, .int .i64 0, .int .i64 0, .int .u64 0, .int .i64 0, .int .i64 0] 33)) (w.heap.size) #[.int .i64 0, .int .i64 0, .int .i64 0, .int .i64 0, .int .u64 0, .int .i64 0, .int .i64 0] 33) := Blk.new w _ _
  have H0B : Hid (Below w.heap.size w (w.alloc (.cells #[.int .i64 0, .int .i64 0, .int .i64 0, .int .i64 0, .int .u64 0, .int .i64 0, .int .i64 0] 33))) := (Below.refl w.heap.size w).alloc (by simp) _
  go_enter Try.func10, Try.ntmps10
  go_wp2_with fail
  refine (HL.out _ H0B.out).mono ?_
  rintro e w1 ⟨x1, c1, rfl, hr1, _, hb1⟩
  have H1r : Hid (Blk w1 (w.heap.size) #[.int .i64 0, .int .i64 0, .int .i64 0, .int .i64 0, .int .u64 0, .int .i64 0, .int .i64 0] 33) := H0r.out.next hb1
  have H1B : Hid (Below w.heap.size w w1) := bel_step H0B.out hb1
  clear H0r H0B hb1 HL
  go_wp2_with (first | (refine wp_letAll rfl 33 _ _ rfl (w.heap.size) rfl #[.int .i64 0, .int .i64 0, .int .i64 0, .int .i64 0, .int .u64 0, .int .i64 0, .int .i64 0] rfl (by kernel_rfl) (by simp [Value.oneCell']) #[.int .i64 0, .int .i64 0, .int .i64 0, .int .i64 0, .int .u64 0, .int .i64 0, .int .i64 0] 33 H1r.out rfl ?_) | fail)
  intro WF hU
  have H2r : Hid (Blk WF (w.heap.size) #[.int .i64 0, .int .i64 0, .int .i64 0, .int .i64 0, .int .u64 0, .int .i64 0, .int .i64 0] 33) := hU.blk
  have H2B : Hid (Below w.heap.size w WF) := hU.bel _ _ (by omega) H1B.out
  clear hU H1r H1B  
  have HBF : Hid (Below w.heap.size w WF) := H2B.out
  have Rr0 : Hid (WF.cell? ⟨w.heap.size, 0, none⟩ = some (.int .i64 0)) := H2r.out.cell 0
  have Rr1 : Hid (WF.cell? ⟨w.heap.size, 1, none⟩ = some (.int .i64 0)) := H2r.out.cell 1
  have Rr2 : Hid (WF.cell? ⟨w.heap.size, 2, none⟩ = some (.int .i64 0)) := H2r.out.cell 2
  have Rr3 : Hid (WF.cell? ⟨w.heap.size, 3, none⟩ = some (.int .i64 0)) := H2r.out.cell 3
  have Rr4 : Hid (WF.cell? ⟨w.heap.size, 4, none⟩ = some (.int .u64 0)) := H2r.out.cell 4
  have Rr5 : Hid (WF.cell? ⟨w.heap.size, 5, none⟩ = some (.int .i64 0)) := H2r.out.cell 5
  have Rr6 : Hid (WF.cell? ⟨w.heap.size, 6, none⟩ = some (.int .i64 0)) := H2r.out.cell 6
  go_wp2_with fail
  exact bodyPost_ret (v := .tuple #[.agg #[.int .i64 0, .int .i64 0, .int .i64 0, .int .i64 0, .int .u64 0, .int .i64 0, .int .i64 0], .int .i64 f]) (by simp [results, Try.results10, Rr0.out, Rr1.out, Rr2.out, Rr3.out, Rr4.out, Rr5.out, Rr6.out, go_sem]) rfl ⟨rfl, HBF.out⟩
set_option maxHeartbeats 1000000 in
theorem pboot_yes (a : Option Addr) (n cap : Nat) (rs : List Int) (w : World) (hn : rs.length = 5) (hL : ∀ W, Below w.heap.size w W → Calls Try.prog 19 #[.slice a n cap, .int .i64 5] W fun e w' => GaveR W rs 0 e w') (hR : ∀ W r c, RowU W r 5 rs → Calls Try.prog 20 #[.slice r 5 c] W fun e w' => ReadPost W rs e w') :
    Calls Try.prog 10 #[.slice a n cap] w fun e w' => ReadPost w rs e w' := by
  have HL : Hid (∀ W, Below w.heap.size w W → Calls Try.prog 19 #[.slice a n cap, .int .i64 5] W fun e w' => GaveR W rs 0 e w') := hL
  have HR : Hid (∀ W r c, RowU W r 5 rs → Calls Try.prog 20 #[.slice r 5 c] W fun e w' => ReadPost W rs e w') := hR
  have HN : Hid (rs.length = 5) := hn
  clear hL hR hn
  have H0r : Hid (Blk (w.alloc (.cells #[.int .i64 0, .int .i64 0, .int .i64 0, .int .i64 0, .int .u64 0, .int .i64 0, .int .i64 0] 33)) (w.heap.size) #[.int .i64 0, .int .i64 0, .int .i64 0, .int .i64 0, .int .u64 0, .int .i64 0, .int .i64 0] 33) := Blk.new w _ _
  have H0B : Hid (Below w.heap.size w (w.alloc (.cells #[.int .i64 0, .int .i64 0, .int .i64 0, .int .i64 0, .int .u64 0, .int .i64 0, .int .i64 0] 33))) := (Below.refl w.heap.size w).alloc (by simp) _
  go_enter Try.func10, Try.ntmps10
  go_wp2_with fail
  refine (HL.out _ H0B.out).mono ?_
  rintro e w1 ⟨x1, c1, rfl, hr1, _, hb1⟩
  have H1r : Hid (Blk w1 (w.heap.size) #[.int .i64 0, .int .i64 0, .int .i64 0, .int .i64 0, .int .u64 0, .int .i64 0, .int .i64 0] 33) := H0r.out.next hb1
  have H1B : Hid (Below w.heap.size w w1) := bel_step H0B.out hb1
  have HX : Hid (RowU w1 x1 5 rs) := by have := HN.out; rw [this] at hr1; exact hr1
  have hn := HN.out
  rw [hn]
  clear H0r H0B hb1 hr1 hn HL HN
  go_wp2_with fail
  refine (HR.out _ _ _ HX.out).mono ?_
  rintro e w2 ⟨m2, f2, rfl, hi2, hb2⟩
  have H2r : Hid (Blk w2 (w.heap.size) #[.int .i64 0, .int .i64 0, .int .i64 0, .int .i64 0, .int .u64 0, .int .i64 0, .int .i64 0] 33) := H1r.out.next hb2
  have H2B : Hid (Below w.heap.size w w2) := bel_step H1B.out hb2
  have HI : Hid (ReadIs rs m2 f2) := hi2
  obtain ⟨me2, rev2, cr2, h2, b2, bad2, lock2⟩ := m2
  unfold Mt.v Mt.cells
  simp only []
  clear H1r H1B hb2 hi2 HR HX
  go_wp2_with (first | (refine wp_letAll rfl 33 _ _ rfl (w.heap.size) rfl #[.int .i64 me2, .int .i64 rev2, .int .i64 cr2, .int .i64 h2, .int .u64 (b2 : Int), .int .i64 bad2, .int .i64 lock2] rfl (by kernel_rfl) (by simp [Value.oneCell']) #[.int .i64 0, .int .i64 0, .int .i64 0, .int .i64 0, .int .u64 0, .int .i64 0, .int .i64 0] 33 H2r.out rfl ?_) | fail)
  intro WF hU
  have H3r : Hid (Blk WF (w.heap.size) #[.int .i64 me2, .int .i64 rev2, .int .i64 cr2, .int .i64 h2, .int .u64 (b2 : Int), .int .i64 bad2, .int .i64 lock2] 33) := hU.blk
  have H3B : Hid (Below w.heap.size w WF) := hU.bel _ _ (by omega) H2B.out
  clear hU H2r H2B  
  have HBF : Hid (Below w.heap.size w WF) := H3B.out
  have Rr0 : Hid (WF.cell? ⟨w.heap.size, 0, none⟩ = some (.int .i64 me2)) := H3r.out.cell 0
  have Rr1 : Hid (WF.cell? ⟨w.heap.size, 1, none⟩ = some (.int .i64 rev2)) := H3r.out.cell 1
  have Rr2 : Hid (WF.cell? ⟨w.heap.size, 2, none⟩ = some (.int .i64 cr2)) := H3r.out.cell 2
  have Rr3 : Hid (WF.cell? ⟨w.heap.size, 3, none⟩ = some (.int .i64 h2)) := H3r.out.cell 3
  have Rr4 : Hid (WF.cell? ⟨w.heap.size, 4, none⟩ = some (.int .u64 (b2 : Int))) := H3r.out.cell 4
  have Rr5 : Hid (WF.cell? ⟨w.heap.size, 5, none⟩ = some (.int .i64 bad2)) := H3r.out.cell 5
  have Rr6 : Hid (WF.cell? ⟨w.heap.size, 6, none⟩ = some (.int .i64 lock2)) := H3r.out.cell 6
  go_wp2_with fail
  exact bodyPost_ret (v := .tuple #[.agg #[.int .i64 me2, .int .i64 rev2, .int .i64 cr2, .int .i64 h2, .int .u64 (b2 : Int), .int .i64 bad2, .int .i64 lock2], .int .i64 f2]) (by simp [results, Try.results10, Rr0.out, Rr1.out, Rr2.out, Rr3.out, Rr4.out, Rr5.out, Rr6.out, go_sem]) rfl ⟨⟨me2, rev2, cr2, h2, b2, bad2, lock2⟩, f2, rfl, HI.out, HBF.out⟩
theorem pboot (a : Option Addr) (n cap : Nat) (xs : List Int) (w : World) (h : RowU w a n xs) (hc : n ≤ cap) (hw : ∀ x ∈ rcd xs 5 (which xs 5), 0 ≤ x ∧ x < 4294967296) :
    Calls Try.prog 10 #[.slice a n cap] w fun e w' => BootPost w xs e w' := by
  have hl := h.1
  by_cases h12 : n = 12
  · subst h12
    by_cases h2 : which xs 5 = 2
    · refine (pboot_no a 12 cap 17 w (by decide) (fun W hB => load_blank a 12 cap 5 xs W (h.below hB) (by decide) (by decide) rfl h2)).mono ?_
      rintro e w' ⟨rfl, hb⟩
      exact ⟨mt0, 17, rfl, .inr (.inl ⟨hl, h2, rfl, rfl⟩), hb⟩
    · have h1 : which xs 5 ≤ 1 := by have := which_le xs 5; omega
      refine (pboot_yes a 12 cap (rcd xs 5 (which xs 5)) w (rcd_len _ _ _) (fun W hB => load_yes a 12 cap 5 _ xs W (h.below hB) hc (by decide) (by decide) rfl rfl h1) (fun W r c hr => pread r 5 c _ W hr hw)).mono ?_
      rintro e w' ⟨m, f, rfl, hi, hb⟩
      exact ⟨m, f, rfl, .inr (.inr ⟨hl, h1, hi⟩), hb⟩
  · refine (pboot_no a n cap 1 w (by decide) (fun W hB => load_size a n cap 5 W (.inr (.inr (by omega))))).mono ?_
    rintro e w' ⟨rfl, hb⟩
    exact ⟨mt0, 1, rfl, .inl ⟨by omega, rfl, rfl⟩, hb⟩

end Go.Proofs.Ytgipkpkjoicehaa.pkt

/- The load of a whole block, under a test that came out so. -/
namespace Go.Proofs.Ytgipkpkjoicehaa
open Go.RowKit

theorem wp_wholeG {P : Program} {ops : Array Oper} {rest : List Oper} {o : Oper} {a : Act} {w : World} {Q : Exit → Act → World → Prop} (hw : Region.wanted o (yielded ops a.tmps) = true) (ty : TypeId) (x : Operand) (ho : o.op = .load ty x)
    (g : Nat) (hx : a.eval x = .pointer (some ⟨g, 0, none⟩)) (t : TypeId) (cs : Array Value) (d : TypeDesc) (hB : Blk w g cs t)
    (hu : P.underlying ty = some d) (hd : d.isRow = true) (hi : (P.info? ty).map (·.size) = some cs.size)
    (h : wpList P ops Q rest (a.put o.dst (.agg cs)) w) : wpList P ops Q (o :: rest) a w :=
  wpList_step fun K hK => by
    rw [if_pos hw]
    exact wp_load_mid (P := P) (op := o) (a := a) (w := w) (K := K) (Q := Q) ty x ho g 0 hx cs.toList d (fun j v hv => by rw [Nat.zero_add, hB.cell j]; simpa using hv) hu hd (by simpa using hi) (by simpa using hK _ _ h)

end Go.Proofs.Ytgipkpkjoicehaa

/- Meters, compared. -/
namespace Go.Proofs.Ytgipkpkjoicehaa.met
open Go.RowKit
set_option maxRecDepth 100000
set_option linter.unusedSimpArgs false

theorem meI (d : Nat) (a b : Int) (w : World) : (Op.equalIn (d + 1) 3 (.int .i64 a) (.int .i64 b)).run Try.prog w = .ok (a == b) w := run_equalIn_int w d _ _ _ a b Try.underlying3
theorem meU (d : Nat) (a b : Int) (w : World) : (Op.equalIn (d + 1) 29 (.int .u64 a) (.int .u64 b)).run Try.prog w = .ok (a == b) w := run_equalIn_int w d _ _ _ a b Try.underlying29
theorem mw0 (s c : Int) (w : World) : (part 3 #[.int .i64 s, .int .u64 c] 0).run Try.prog w = .ok (.int .i64 s) w := by kernel_rfl
theorem mw1 (s c : Int) (w : World) : (part 29 #[.int .i64 s, .int .u64 c] 1).run Try.prog w = .ok (.int .u64 c) w := by kernel_rfl
theorem mq0 (a b c d e f g : Int) (w : World) : (part 3 #[.int .i64 a, .int .i64 b, .int .i64 c, .int .i64 d, .int .u64 e, .int .i64 f, .int .i64 g] 0).run Try.prog w = .ok (.int .i64 a) w := by kernel_rfl
theorem mq1 (a b c d e f g : Int) (w : World) : (part 3 #[.int .i64 a, .int .i64 b, .int .i64 c, .int .i64 d, .int .u64 e, .int .i64 f, .int .i64 g] 1).run Try.prog w = .ok (.int .i64 b) w := by kernel_rfl
theorem mq2 (a b c d e f g : Int) (w : World) : (part 3 #[.int .i64 a, .int .i64 b, .int .i64 c, .int .i64 d, .int .u64 e, .int .i64 f, .int .i64 g] 2).run Try.prog w = .ok (.int .i64 c) w := by kernel_rfl
theorem mq3 (a b c d e f g : Int) (w : World) : (part 31 #[.int .i64 a, .int .i64 b, .int .i64 c, .int .i64 d, .int .u64 e, .int .i64 f, .int .i64 g] 3).run Try.prog w = .ok (.agg #[.int .i64 d, .int .u64 e]) w := by kernel_rfl
theorem mq5 (a b c d e f g : Int) (w : World) : (part 3 #[.int .i64 a, .int .i64 b, .int .i64 c, .int .i64 d, .int .u64 e, .int .i64 f, .int .i64 g] 5).run Try.prog w = .ok (.int .i64 f) w := by kernel_rfl
theorem mq6 (a b c d e f g : Int) (w : World) : (part 3 #[.int .i64 a, .int .i64 b, .int .i64 c, .int .i64 d, .int .u64 e, .int .i64 f, .int .i64 g] 6).run Try.prog w = .ok (.int .i64 g) w := by kernel_rfl
theorem eqWd (d : Nat) (s b : Int) (w : World) : (Op.equalIn (d + 1 + 1) 31 (.agg #[.int .i64 s, .int .u64 b]) (.agg #[.int .i64 s, .int .u64 b])).run Try.prog w = .ok true w := by
  rw [run_equalIn_agg w (d + 1) 31 _ _ (by kernel_rfl) (by kernel_rfl)]
  simp only [Program.fieldsOf, Try.underlying31, Op.eqFields, Sem.run_bind, Sem.run_ite]
  simp [mw0, mw1, meI, meU]
theorem eqMt (a b c d e f g : Int) (w : World) :
    (Op.equalIn 10000 33 (.agg #[.int .i64 a, .int .i64 b, .int .i64 c, .int .i64 d, .int .u64 e, .int .i64 f, .int .i64 g]) (.agg #[.int .i64 a, .int .i64 b, .int .i64 c, .int .i64 d, .int .u64 e, .int .i64 f, .int .i64 g])).run Try.prog w = .ok true w := by
  rw [show (10000 : Nat) = 9999 + 1 from rfl, run_equalIn_agg w 9999 33 _ _ (by kernel_rfl) (by kernel_rfl)]
  simp only [Program.fieldsOf, Try.underlying33, Op.eqFields, Sem.run_bind, Sem.run_ite]
  simp [mq0, mq1, mq2, mq3, mq5, mq6, show (9999 : Nat) = 9997 + 1 + 1 from rfl, meI, eqWd]

end Go.Proofs.Ytgipkpkjoicehaa.met

/- Two meters that are not one, compared. -/
namespace Go.Proofs.Ytgipkpkjoicehaa.met
open Go.RowKit
set_option maxRecDepth 100000
set_option linter.unusedSimpArgs false

theorem eqWd2 (d : Nat) (s b s' b' : Int) (w : World) : (Op.equalIn (d + 1 + 1) 31 (.agg #[.int .i64 s, .int .u64 b]) (.agg #[.int .i64 s', .int .u64 b'])).run Try.prog w = .ok (s == s' && b == b') w := by
  rw [run_equalIn_agg w (d + 1) 31 _ _ (by kernel_rfl) (by kernel_rfl)]
  simp only [Program.fieldsOf, Try.underlying31, Op.eqFields, Sem.run_bind, Sem.run_ite]
  by_cases h1 : s = s' <;> by_cases h2 : b = b' <;> simp [mw0, mw1, meI, meU, h1, h2]
theorem neMt (a b c d e f g a' b' c' d' e' f' g' : Int) (w : World) (h : ¬ (a = a' ∧ b = b' ∧ c = c' ∧ d = d' ∧ e = e' ∧ f = f' ∧ g = g')) :
    (Op.equalIn 10000 33 (.agg #[.int .i64 a, .int .i64 b, .int .i64 c, .int .i64 d, .int .u64 e, .int .i64 f, .int .i64 g]) (.agg #[.int .i64 a', .int .i64 b', .int .i64 c', .int .i64 d', .int .u64 e', .int .i64 f', .int .i64 g'])).run Try.prog w = .ok false w := by
  rw [show (10000 : Nat) = 9999 + 1 from rfl, run_equalIn_agg w 9999 33 _ _ (by kernel_rfl) (by kernel_rfl)]
  simp only [Program.fieldsOf, Try.underlying33, Op.eqFields, Sem.run_bind, Sem.run_ite]
  by_cases h1 : a = a'
  · by_cases h2 : b = b'
    · by_cases h3 : c = c'
      · by_cases h4 : d = d'
        · by_cases h5 : e = e'
          · by_cases h6 : f = f'
            · by_cases h7 : g = g'
              · exact absurd ⟨h1, h2, h3, h4, h5, h6, h7⟩ h
              · simp [mq0, mq1, mq2, mq3, mq5, mq6, show (9999 : Nat) = 9997 + 1 + 1 from rfl, meI, eqWd2, h1, h2, h3, h4, h5, h6, h7]
            · simp [mq0, mq1, mq2, mq3, mq5, mq6, show (9999 : Nat) = 9997 + 1 + 1 from rfl, meI, eqWd2, h1, h2, h3, h4, h5, h6]
          · simp [mq0, mq1, mq2, mq3, mq5, mq6, show (9999 : Nat) = 9997 + 1 + 1 from rfl, meI, eqWd2, h1, h2, h3, h4, h5]
        · simp [mq0, mq1, mq2, mq3, mq5, mq6, show (9999 : Nat) = 9997 + 1 + 1 from rfl, meI, eqWd2, h1, h2, h3, h4]
      · simp [mq0, mq1, mq2, mq3, mq5, mq6, show (9999 : Nat) = 9997 + 1 + 1 from rfl, meI, eqWd2, h1, h2, h3]
    · simp [mq0, mq1, mq2, mq3, mq5, mq6, show (9999 : Nat) = 9997 + 1 + 1 from rfl, meI, eqWd2, h1, h2]
  · simp [mq0, mq1, mq2, mq3, mq5, mq6, show (9999 : Nat) = 9997 + 1 + 1 from rfl, meI, eqWd2, h1]
/-- Meters compared: whatever they are. -/
theorem eqMt_one (m m' : Mt) (w : World) (h : m = m') : (Op.equalIn 10000 33 (.agg m.cells) (.agg m'.cells)).run Try.prog w = .ok true w := by
  subst h
  exact eqMt _ _ _ _ _ _ _ w
theorem eqMt_two (m m' : Mt) (w : World) (h : m ≠ m') : (Op.equalIn 10000 33 (.agg m.cells) (.agg m'.cells)).run Try.prog w = .ok false w := by
  obtain ⟨a, b, c, d, e, f, g⟩ := m
  obtain ⟨a', b', c', d', e', f', g'⟩ := m'
  refine neMt _ _ _ _ _ _ _ _ _ _ _ _ _ _ w ?_
  rintro ⟨h1, h2, h3, h4, h5, h6, h7⟩
  simp only [] at h1 h2 h3 h4 h5 h6 h7
  have h5' : e = e' := by omega
  subst h1 h2 h3 h4 h5' h6 h7
  exact h rfl

end Go.Proofs.Ytgipkpkjoicehaa.met

/- The writes of a step. -/
namespace Go.Proofs.Ytgipkpkjoicehaa.pkt
open Go.RowKit Go.Proofs.Ytgipkpkjoicehaa.met Go.Proofs.Ytgipkpkjoicehaa.slot Go.Proofs.Ytgipkpkjoicehaa.cell
set_option maxRecDepth 100000
set_option linter.unusedVariables false
set_option linter.unusedSimpArgs false

set_option maxHeartbeats 1000000 in
theorem pwrites_one (a : Option Addr) (cap : Nat) (xs : List Int) (m m' : Mt) (w : World) (h : RowU w a 12 xs) (hwh : which xs 5 ≤ 1) (hm : Mw m') (he : m' = m) :
    Calls Try.prog 24 #[.slice a 12 cap, m.v, m'.v] w fun e w' => WritesPost w xs m m' e w' := by
  have HQ : Hid (∀ W : World, (Op.equalIn 10000 33 (.agg m'.cells) (.agg m.cells)).run Try.prog W = .ok true W) := fun W => eqMt_one m' m W he
  have HE : Hid (m' = m) := he
  clear h hwh hm he
  obtain ⟨me, rev, cr, h, b, bad, lock⟩ := m
  obtain ⟨me1, rev1, cr1, h1, b1, bad1, lock1⟩ := m'
  unfold Mt.v Mt.cells at *
  simp only [] at *
  have hq := HQ.out
  clear HQ
  have H0m : Hid (Blk ((w.alloc (.cells #[.int .i64 me, .int .i64 rev, .int .i64 cr, .int .i64 h, .int .u64 (b : Int), .int .i64 bad, .int .i64 lock] 33)).alloc (.cells #[.int .i64 me1, .int .i64 rev1, .int .i64 cr1, .int .i64 h1, .int .u64 (b1 : Int), .int .i64 bad1, .int .i64 lock1] 33)) (w.heap.size) #[.int .i64 me, .int .i64 rev, .int .i64 cr, .int .i64 h, .int .u64 (b : Int), .int .i64 bad, .int .i64 lock] 33) := (Blk.new w _ _).alloc _
  have H0n : Hid (Blk ((w.alloc (.cells #[.int .i64 me, .int .i64 rev, .int .i64 cr, .int .i64 h, .int .u64 (b : Int), .int .i64 bad, .int .i64 lock] 33)).alloc (.cells #[.int .i64 me1, .int .i64 rev1, .int .i64 cr1, .int .i64 h1, .int .u64 (b1 : Int), .int .i64 bad1, .int .i64 lock1] 33)) (w.heap.size + 1) #[.int .i64 me1, .int .i64 rev1, .int .i64 cr1, .int .i64 h1, .int .u64 (b1 : Int), .int .i64 bad1, .int .i64 lock1] 33) := Blk.new1 w _ _ _
  have H0B : Hid (Below w.heap.size w ((w.alloc (.cells #[.int .i64 me, .int .i64 rev, .int .i64 cr, .int .i64 h, .int .u64 (b : Int), .int .i64 bad, .int .i64 lock] 33)).alloc (.cells #[.int .i64 me1, .int .i64 rev1, .int .i64 cr1, .int .i64 h1, .int .u64 (b1 : Int), .int .i64 bad1, .int .i64 lock1] 33))) := ((Below.refl w.heap.size w).alloc (by simp) _).alloc (by simp) _
  go_enter Try.func24, Try.ntmps24
  go_wp2_with (first
    | (refine wp_whole rfl 33 _ rfl (w.heap.size) rfl 33 #[.int .i64 me, .int .i64 rev, .int .i64 cr, .int .i64 h, .int .u64 (b : Int), .int .i64 bad, .int .i64 lock] _ H0m.out Try.underlying33 rfl (by kernel_rfl) ?_)
    | (refine wp_wholeG (by rfl) 33 _ rfl (w.heap.size) rfl 33 #[.int .i64 me, .int .i64 rev, .int .i64 cr, .int .i64 h, .int .u64 (b : Int), .int .i64 bad, .int .i64 lock] _ H0m.out Try.underlying33 rfl (by kernel_rfl) ?_)
    | (refine wp_whole rfl 33 _ rfl (w.heap.size + 1) rfl 33 #[.int .i64 me1, .int .i64 rev1, .int .i64 cr1, .int .i64 h1, .int .u64 (b1 : Int), .int .i64 bad1, .int .i64 lock1] _ H0n.out Try.underlying33 rfl (by kernel_rfl) ?_)
    | (refine wp_wholeG (by rfl) 33 _ rfl (w.heap.size + 1) rfl 33 #[.int .i64 me1, .int .i64 rev1, .int .i64 cr1, .int .i64 h1, .int .u64 (b1 : Int), .int .i64 bad1, .int .i64 lock1] _ H0n.out Try.underlying33 rfl (by kernel_rfl) ?_)
    | fail)
  go_ret
  exact ⟨none, 0, 0, [], rfl, Wg.none _, .inl ⟨HE.out, rfl⟩, H0B.out⟩
set_option maxHeartbeats 1000000 in
theorem pwrites_two (a : Option Addr) (cap : Nat) (xs : List Int) (m m' : Mt) (w : World) (h : RowU w a 12 xs) (hwh : which xs 5 ≤ 1) (hm : Mw m') (he : m' ≠ m) :
    Calls Try.prog 24 #[.slice a 12 cap, m.v, m'.v] w fun e w' => WritesPost w xs m m' e w' := by
  have HQ : Hid (∀ W : World, (Op.equalIn 10000 33 (.agg m'.cells) (.agg m.cells)).run Try.prog W = .ok false W) := fun W => eqMt_two m' m W he
  have HE : Hid (m' ≠ m) := he
  have HWD : Hid (∀ W, Calls Try.prog 16 #[m'.v] W fun e w' => met.WordsPost W m' e w') := fun W => pwords m' W hm.b
  have HST : Hid (∀ W r c2, Below w.heap.size w W → RowU W r 5 (wds m') → Calls Try.prog 35 #[.slice a 12 cap, .slice r 5 c2] W fun e w' => GaveL W (sto xs (wds m') 5) 0 e w') := fun W r c2 hB hr => store_yes a r 12 cap 5 c2 _ xs (wds m') W (h.below hB) hr (by decide) (by decide) rfl rfl hwh
  have HOK : Hid (Mt.may m') := hm.may
  clear h hwh hm he
  obtain ⟨me, rev, cr, h, b, bad, lock⟩ := m
  obtain ⟨me1, rev1, cr1, h1, b1, bad1, lock1⟩ := m'
  unfold Mt.v Mt.cells at *
  simp only [] at *
  have hq := HQ.out
  clear HQ
  have H0m : Hid (Blk ((w.alloc (.cells #[.int .i64 me, .int .i64 rev, .int .i64 cr, .int .i64 h, .int .u64 (b : Int), .int .i64 bad, .int .i64 lock] 33)).alloc (.cells #[.int .i64 me1, .int .i64 rev1, .int .i64 cr1, .int .i64 h1, .int .u64 (b1 : Int), .int .i64 bad1, .int .i64 lock1] 33)) (w.heap.size) #[.int .i64 me, .int .i64 rev, .int .i64 cr, .int .i64 h, .int .u64 (b : Int), .int .i64 bad, .int .i64 lock] 33) := (Blk.new w _ _).alloc _
  have H0n : Hid (Blk ((w.alloc (.cells #[.int .i64 me, .int .i64 rev, .int .i64 cr, .int .i64 h, .int .u64 (b : Int), .int .i64 bad, .int .i64 lock] 33)).alloc (.cells #[.int .i64 me1, .int .i64 rev1, .int .i64 cr1, .int .i64 h1, .int .u64 (b1 : Int), .int .i64 bad1, .int .i64 lock1] 33)) (w.heap.size + 1) #[.int .i64 me1, .int .i64 rev1, .int .i64 cr1, .int .i64 h1, .int .u64 (b1 : Int), .int .i64 bad1, .int .i64 lock1] 33) := Blk.new1 w _ _ _
  have H0B : Hid (Below w.heap.size w ((w.alloc (.cells #[.int .i64 me, .int .i64 rev, .int .i64 cr, .int .i64 h, .int .u64 (b : Int), .int .i64 bad, .int .i64 lock] 33)).alloc (.cells #[.int .i64 me1, .int .i64 rev1, .int .i64 cr1, .int .i64 h1, .int .u64 (b1 : Int), .int .i64 bad1, .int .i64 lock1] 33))) := ((Below.refl w.heap.size w).alloc (by simp) _).alloc (by simp) _
  go_enter Try.func24, Try.ntmps24
  go_wp2_with (first
    | (refine wp_whole rfl 33 _ rfl (w.heap.size) rfl 33 #[.int .i64 me, .int .i64 rev, .int .i64 cr, .int .i64 h, .int .u64 (b : Int), .int .i64 bad, .int .i64 lock] _ H0m.out Try.underlying33 rfl (by kernel_rfl) ?_)
    | (refine wp_wholeG (by rfl) 33 _ rfl (w.heap.size) rfl 33 #[.int .i64 me, .int .i64 rev, .int .i64 cr, .int .i64 h, .int .u64 (b : Int), .int .i64 bad, .int .i64 lock] _ H0m.out Try.underlying33 rfl (by kernel_rfl) ?_)
    | (refine wp_whole rfl 33 _ rfl (w.heap.size + 1) rfl 33 #[.int .i64 me1, .int .i64 rev1, .int .i64 cr1, .int .i64 h1, .int .u64 (b1 : Int), .int .i64 bad1, .int .i64 lock1] _ H0n.out Try.underlying33 rfl (by kernel_rfl) ?_)
    | (refine wp_wholeG (by rfl) 33 _ rfl (w.heap.size + 1) rfl 33 #[.int .i64 me1, .int .i64 rev1, .int .i64 cr1, .int .i64 h1, .int .u64 (b1 : Int), .int .i64 bad1, .int .i64 lock1] _ H0n.out Try.underlying33 rfl (by kernel_rfl) ?_)
    | fail)
  refine (HWD.out _).mono ?_
  rintro e w1 ⟨x1, n1, c1, zs, f1, rfl, hr1, _, _, hi1, hb1⟩
  have H1m : Hid (Blk w1 (w.heap.size) #[.int .i64 me, .int .i64 rev, .int .i64 cr, .int .i64 h, .int .u64 (b : Int), .int .i64 bad, .int .i64 lock] 33) := H0m.out.next hb1
  have H1n : Hid (Blk w1 (w.heap.size + 1) #[.int .i64 me1, .int .i64 rev1, .int .i64 cr1, .int .i64 h1, .int .u64 (b1 : Int), .int .i64 bad1, .int .i64 lock1] 33) := H0n.out.next hb1
  have H1B : Hid (Below w.heap.size w w1) := bel_step H0B.out hb1
  obtain ⟨rfl, rfl⟩ := hi1.one (WordsIs.ok HOK.out)
  obtain rfl : n1 = 5 := hr1.1.symm.trans rfl
  have HX : Hid (RowU w1 x1 5 (wds ⟨me1, rev1, cr1, h1, b1, bad1, lock1⟩)) := hr1
  clear H0m H0n H0B hb1 hr1 hi1 HWD hq
  go_wp2_with fail
  refine (HST.out _ _ _ H1B.out HX.out).mono ?_
  rintro e w2 ⟨v2, rfl, hv2, hb2⟩
  have H2m : Hid (Blk w2 (w.heap.size) #[.int .i64 me, .int .i64 rev, .int .i64 cr, .int .i64 h, .int .u64 (b : Int), .int .i64 bad, .int .i64 lock] 33) := H1m.out.next hb2
  have H2n : Hid (Blk w2 (w.heap.size + 1) #[.int .i64 me1, .int .i64 rev1, .int .i64 cr1, .int .i64 h1, .int .u64 (b1 : Int), .int .i64 bad1, .int .i64 lock1] 33) := H1n.out.next hb2
  have H2B : Hid (Below w.heap.size w w2) := bel_step H1B.out hb2
  obtain ⟨x2, c2, rfl, hr2, hn2, hc2, _⟩ := hv2.row
  have HL2 : Hid ((sto xs (wds ⟨me1, rev1, cr1, h1, b1, bad1, lock1⟩) 5).length = 7) := sto_len _ _ _
  have hl2 := HL2.out
  rw [hl2] at hr2 hc2
  rw [hl2]
  have HW2 : Hid (Wg w2 x2 7 c2 (sto xs (wds ⟨me1, rev1, cr1, h1, b1, bad1, lock1⟩) 5)) := ⟨hr2, hn2, hc2, by decide⟩
  clear H1m H1n H1B hb2 hv2 hr2 hn2 hc2 hl2 HL2 HST HX
  go_wp2_with fail
  go_ret
  exact ⟨x2, 7, c2, _, rfl, HW2.out, .inr ⟨HE.out, rfl⟩, H2B.out⟩
open Classical in
theorem pwrites (a : Option Addr) (cap : Nat) (xs : List Int) (m m' : Mt) (w : World) (h : RowU w a 12 xs) (hwh : which xs 5 ≤ 1) (hm : Mw m') :
    Calls Try.prog 24 #[.slice a 12 cap, m.v, m'.v] w fun e w' => WritesPost w xs m m' e w' := by
  by_cases he : m' = m
  · exact pwrites_one a cap xs m m' w h hwh hm he
  · exact pwrites_two a cap xs m m' w h hwh hm he

end Go.Proofs.Ytgipkpkjoicehaa.pkt

/- A tick of a pocket. -/
namespace Go.Proofs.Ytgipkpkjoicehaa.pkt
open Go.RowKit Go.Proofs.Ytgipkpkjoicehaa.met Go.Proofs.Ytgipkpkjoicehaa.slot Go.Proofs.Ytgipkpkjoicehaa.cell
set_option maxRecDepth 100000
set_option linter.unusedVariables false
set_option linter.unusedSimpArgs false

set_option maxHeartbeats 1000000 in
theorem pticked (a : Option Addr) (n cap : Nat) (xs : List Int) (ld : Int) (w : World) (h : RowU w a n xs) (hc : n ≤ cap) (hw : ∀ x ∈ rcd xs 5 (which xs 5), 0 ≤ x ∧ x < 4294967296) :
    Calls Try.prog 12 #[.slice a n cap, .int .i64 ld] w fun e w' => TickedPost w xs ld e w' := by
  have HBT : Hid (Calls Try.prog 10 #[.slice a n cap] w fun e w' => BootPost w xs e w') := pboot a n cap xs w h hc hw
  have HTK : Hid (∀ W (m : Mt), Mw m → Calls Try.prog 23 #[m.v, .int .i64 ld] W fun e w' => TickPost W m ld e w') := fun W m hm => ptick m ld W hm.b
  have HSU : Hid (∀ m, BootIs xs m 0 → Mw m ∧ n = 12 ∧ which xs 5 ≤ 1) := fun m hb => by
    obtain ⟨h1, h2⟩ := BootIs.sure hw hb
    exact ⟨h2, h.1.symm.trans h1.len, h1.one⟩
  have HRW : Hid (∀ W, Below w.heap.size w W → RowU W a n xs) := fun W hB => h.below hB
  clear h hc hw
  have H0B : Hid (Below w.heap.size w w) := Below.refl _ _
  go_enter Try.func12, Try.ntmps12
  go_wp2_with fail
  refine HBT.out.mono ?_
  rintro e w1 ⟨m1, f1, rfl, hi1, hb1⟩
  have H1B : Hid (Below w.heap.size w w1) := bel_step H0B.out hb1
  have HI1 : Hid (BootIs xs m1 f1) := hi1
  clear hi1 HBT
  by_cases hf : f1 = 0
  · subst hf
    obtain ⟨hmw, rfl, hwh⟩ := HSU.out _ HI1.out
    have HMW : Hid (Mw m1 ∧ which xs 5 ≤ 1) := ⟨hmw, hwh⟩
    have HT1 : Hid (∀ W, Calls Try.prog 23 #[m1.v, .int .i64 ld] W fun e w' => TickPost W m1 ld e w') := fun W => HTK.out W m1 hmw
    have HWR : Hid (∀ W m2, Below w.heap.size w W → Mw m2 → Calls Try.prog 24 #[.slice a 12 cap, m1.v, m2.v] W fun e w' => WritesPost W xs m1 m2 e w') := fun W m2 hB hm2 => pwrites a cap xs m1 m2 W (HRW.out W hB) hwh hm2
    clear hmw hwh HTK HSU HRW
    obtain ⟨me1, rev1, cr1, h1, b1, bad1, lock1⟩ := m1
    unfold Mt.v Mt.cells at *
    simp only [] at HT1 HWR ⊢
    have H2m : Hid (Blk (w1.alloc (.cells #[.int .i64 me1, .int .i64 rev1, .int .i64 cr1, .int .i64 h1, .int .u64 (b1 : Int), .int .i64 bad1, .int .i64 lock1] 33)) (w1.heap.size) #[.int .i64 me1, .int .i64 rev1, .int .i64 cr1, .int .i64 h1, .int .u64 (b1 : Int), .int .i64 bad1, .int .i64 lock1] 33) := (Blk.new w1 _ _)
    have H2B : Hid (Below w.heap.size w (w1.alloc (.cells #[.int .i64 me1, .int .i64 rev1, .int .i64 cr1, .int .i64 h1, .int .u64 (b1 : Int), .int .i64 bad1, .int .i64 lock1] 33))) := (H1B.out).alloc (Nat.le_trans H1B.out.size (by simp)) _
    have L20 : Hid (w.heap.size ≤ w1.heap.size) := H1B.out.size
    clear H0B H1B hb1
    go_wp2_with (first
      | (refine wp_whole rfl 33 _ rfl (w1.heap.size) rfl 33 #[.int .i64 me1, .int .i64 rev1, .int .i64 cr1, .int .i64 h1, .int .u64 (b1 : Int), .int .i64 bad1, .int .i64 lock1] _ H2m.out Try.underlying33 rfl (by kernel_rfl) ?_)
      | (refine wp_wholeG (by rfl) 33 _ rfl (w1.heap.size) rfl 33 #[.int .i64 me1, .int .i64 rev1, .int .i64 cr1, .int .i64 h1, .int .u64 (b1 : Int), .int .i64 bad1, .int .i64 lock1] _ H2m.out Try.underlying33 rfl (by kernel_rfl) ?_)
      | fail)
    refine (HT1.out _).mono ?_
    rintro e w2 ⟨m2, x2, f2, rfl, hi2, hb2⟩
    have H3m : Hid (Blk w2 (w1.heap.size) #[.int .i64 me1, .int .i64 rev1, .int .i64 cr1, .int .i64 h1, .int .u64 (b1 : Int), .int .i64 bad1, .int .i64 lock1] 33) := H2m.out.next hb2
    have H3B : Hid (Below w.heap.size w w2) := bel_step H2B.out hb2
    have HI2 : Hid (TickIs ⟨me1, rev1, cr1, h1, b1, bad1, lock1⟩ ld m2 x2 f2) := hi2
    clear hi2 HT1
    by_cases hf : f2 = 0
    · subst hf
      have HM2 : Hid (Mw m2) := tick_mw HMW.out.1 HI2.out
      have HW2 : Hid (∀ W, Below w.heap.size w W → Calls Try.prog 24 #[.slice a 12 cap, .agg #[.int .i64 me1, .int .i64 rev1, .int .i64 cr1, .int .i64 h1, .int .u64 (b1 : Int), .int .i64 bad1, .int .i64 lock1], m2.v] W fun e w' => WritesPost W xs ⟨me1, rev1, cr1, h1, b1, bad1, lock1⟩ m2 e w') := fun W hB => HWR.out W m2 hB HM2.out
      clear HWR
      obtain ⟨me2, rev2, cr2, h2, b2, bad2, lock2⟩ := m2
      unfold Mt.v Mt.cells at *
      simp only [] at HW2 ⊢
      have H4m : Hid (Blk (w2.alloc (.cells #[.int .i64 me2, .int .i64 rev2, .int .i64 cr2, .int .i64 h2, .int .u64 (b2 : Int), .int .i64 bad2, .int .i64 lock2] 33)) (w1.heap.size) #[.int .i64 me1, .int .i64 rev1, .int .i64 cr1, .int .i64 h1, .int .u64 (b1 : Int), .int .i64 bad1, .int .i64 lock1] 33) := (H3m.out).alloc _
      have H4n : Hid (Blk (w2.alloc (.cells #[.int .i64 me2, .int .i64 rev2, .int .i64 cr2, .int .i64 h2, .int .u64 (b2 : Int), .int .i64 bad2, .int .i64 lock2] 33)) (w2.heap.size) #[.int .i64 me2, .int .i64 rev2, .int .i64 cr2, .int .i64 h2, .int .u64 (b2 : Int), .int .i64 bad2, .int .i64 lock2] 33) := (Blk.new w2 _ _)
      have L4nm : Hid (w1.heap.size < w2.heap.size) := Nat.lt_of_lt_of_le H3m.out.lt (by simp)
      have H4B : Hid (Below w.heap.size w (w2.alloc (.cells #[.int .i64 me2, .int .i64 rev2, .int .i64 cr2, .int .i64 h2, .int .u64 (b2 : Int), .int .i64 bad2, .int .i64 lock2] 33))) := (H3B.out).alloc (Nat.le_trans H3B.out.size (by simp)) _
      have L40 : Hid (w.heap.size ≤ w2.heap.size) := H3B.out.size
      clear H2m H2B H3m H3B hb2
      go_wp2_with (first
        | (refine wp_whole rfl 33 _ rfl (w1.heap.size) rfl 33 #[.int .i64 me1, .int .i64 rev1, .int .i64 cr1, .int .i64 h1, .int .u64 (b1 : Int), .int .i64 bad1, .int .i64 lock1] _ H4m.out Try.underlying33 rfl (by kernel_rfl) ?_)
        | (refine wp_wholeG (by rfl) 33 _ rfl (w1.heap.size) rfl 33 #[.int .i64 me1, .int .i64 rev1, .int .i64 cr1, .int .i64 h1, .int .u64 (b1 : Int), .int .i64 bad1, .int .i64 lock1] _ H4m.out Try.underlying33 rfl (by kernel_rfl) ?_)
        | (refine wp_whole rfl 33 _ rfl (w2.heap.size) rfl 33 #[.int .i64 me2, .int .i64 rev2, .int .i64 cr2, .int .i64 h2, .int .u64 (b2 : Int), .int .i64 bad2, .int .i64 lock2] _ H4n.out Try.underlying33 rfl (by kernel_rfl) ?_)
        | (refine wp_wholeG (by rfl) 33 _ rfl (w2.heap.size) rfl 33 #[.int .i64 me2, .int .i64 rev2, .int .i64 cr2, .int .i64 h2, .int .u64 (b2 : Int), .int .i64 bad2, .int .i64 lock2] _ H4n.out Try.underlying33 rfl (by kernel_rfl) ?_)
        | fail)
      refine (HW2.out _ H4B.out).mono ?_
      rintro e w3 ⟨a3, n3, c3, ls, rfl, hg3, hi3, hb3⟩
      have H5m : Hid (Blk w3 (w1.heap.size) #[.int .i64 me1, .int .i64 rev1, .int .i64 cr1, .int .i64 h1, .int .u64 (b1 : Int), .int .i64 bad1, .int .i64 lock1] 33) := H4m.out.next hb3
      have H5n : Hid (Blk w3 (w2.heap.size) #[.int .i64 me2, .int .i64 rev2, .int .i64 cr2, .int .i64 h2, .int .u64 (b2 : Int), .int .i64 bad2, .int .i64 lock2] 33) := H4n.out.next hb3
      have H5B : Hid (Below w.heap.size w w3) := bel_step H4B.out hb3
      have HF : Hid (Wg w3 a3 n3 c3 ls ∧ WrIs xs ⟨me1, rev1, cr1, h1, b1, bad1, lock1⟩ ⟨me2, rev2, cr2, h2, b2, bad2, lock2⟩ ls) := ⟨hg3, hi3⟩
      clear H4m H4n H4B hb3 hg3 hi3 HW2
      go_wp2_with fail
      go_ret3
      exact ⟨a3, n3, c3, ls, x2, 0, rfl, HF.out.1, .inr (.inr ⟨_, _, HI1.out, HI2.out, rfl, HF.out.2⟩), H5B.out⟩
    · have hd : (f2 != 0) = true := by simpa using hf
      have HF : Hid (f2 ≠ 0) := hf
      clear hf
      obtain ⟨me2, rev2, cr2, h2, b2, bad2, lock2⟩ := m2
      unfold Mt.v Mt.cells at *
      simp only []
      have H4m : Hid (Blk (w2.alloc (.cells #[.int .i64 me2, .int .i64 rev2, .int .i64 cr2, .int .i64 h2, .int .u64 (b2 : Int), .int .i64 bad2, .int .i64 lock2] 33)) (w1.heap.size) #[.int .i64 me1, .int .i64 rev1, .int .i64 cr1, .int .i64 h1, .int .u64 (b1 : Int), .int .i64 bad1, .int .i64 lock1] 33) := (H3m.out).alloc _
      have H4n : Hid (Blk (w2.alloc (.cells #[.int .i64 me2, .int .i64 rev2, .int .i64 cr2, .int .i64 h2, .int .u64 (b2 : Int), .int .i64 bad2, .int .i64 lock2] 33)) (w2.heap.size) #[.int .i64 me2, .int .i64 rev2, .int .i64 cr2, .int .i64 h2, .int .u64 (b2 : Int), .int .i64 bad2, .int .i64 lock2] 33) := (Blk.new w2 _ _)
      have L4nm : Hid (w1.heap.size < w2.heap.size) := Nat.lt_of_lt_of_le H3m.out.lt (by simp)
      have H4B : Hid (Below w.heap.size w (w2.alloc (.cells #[.int .i64 me2, .int .i64 rev2, .int .i64 cr2, .int .i64 h2, .int .u64 (b2 : Int), .int .i64 bad2, .int .i64 lock2] 33))) := (H3B.out).alloc (Nat.le_trans H3B.out.size (by simp)) _
      have L40 : Hid (w.heap.size ≤ w2.heap.size) := H3B.out.size
      clear H2m H2B H3m H3B hb2 HWR
      go_wp2_with (first
        | (refine wp_whole rfl 33 _ rfl (w1.heap.size) rfl 33 #[.int .i64 me1, .int .i64 rev1, .int .i64 cr1, .int .i64 h1, .int .u64 (b1 : Int), .int .i64 bad1, .int .i64 lock1] _ H4m.out Try.underlying33 rfl (by kernel_rfl) ?_)
        | (refine wp_wholeG (by rfl) 33 _ rfl (w1.heap.size) rfl 33 #[.int .i64 me1, .int .i64 rev1, .int .i64 cr1, .int .i64 h1, .int .u64 (b1 : Int), .int .i64 bad1, .int .i64 lock1] _ H4m.out Try.underlying33 rfl (by kernel_rfl) ?_)
        | (refine wp_whole rfl 33 _ rfl (w2.heap.size) rfl 33 #[.int .i64 me2, .int .i64 rev2, .int .i64 cr2, .int .i64 h2, .int .u64 (b2 : Int), .int .i64 bad2, .int .i64 lock2] _ H4n.out Try.underlying33 rfl (by kernel_rfl) ?_)
        | (refine wp_wholeG (by rfl) 33 _ rfl (w2.heap.size) rfl 33 #[.int .i64 me2, .int .i64 rev2, .int .i64 cr2, .int .i64 h2, .int .u64 (b2 : Int), .int .i64 bad2, .int .i64 lock2] _ H4n.out Try.underlying33 rfl (by kernel_rfl) ?_)
        | fail)
      go_ret3
      exact ⟨none, 0, 0, [], 0, f2, rfl, Wg.none _, .inr (.inl ⟨_, _, _, HI1.out, HI2.out, HF.out, rfl, rfl⟩), H4B.out⟩
  · have hd : (f1 != 0) = true := by simpa using hf
    have HF : Hid (f1 ≠ 0) := hf
    clear hf HTK HSU HRW
    obtain ⟨me1, rev1, cr1, h1, b1, bad1, lock1⟩ := m1
    unfold Mt.v Mt.cells
    simp only []
    have H2m : Hid (Blk (w1.alloc (.cells #[.int .i64 me1, .int .i64 rev1, .int .i64 cr1, .int .i64 h1, .int .u64 (b1 : Int), .int .i64 bad1, .int .i64 lock1] 33)) (w1.heap.size) #[.int .i64 me1, .int .i64 rev1, .int .i64 cr1, .int .i64 h1, .int .u64 (b1 : Int), .int .i64 bad1, .int .i64 lock1] 33) := (Blk.new w1 _ _)
    have H2B : Hid (Below w.heap.size w (w1.alloc (.cells #[.int .i64 me1, .int .i64 rev1, .int .i64 cr1, .int .i64 h1, .int .u64 (b1 : Int), .int .i64 bad1, .int .i64 lock1] 33))) := (H1B.out).alloc (Nat.le_trans H1B.out.size (by simp)) _
    have L20 : Hid (w.heap.size ≤ w1.heap.size) := H1B.out.size
    clear H0B H1B hb1
    go_wp2_with (first
      | (refine wp_whole rfl 33 _ rfl (w1.heap.size) rfl 33 #[.int .i64 me1, .int .i64 rev1, .int .i64 cr1, .int .i64 h1, .int .u64 (b1 : Int), .int .i64 bad1, .int .i64 lock1] _ H2m.out Try.underlying33 rfl (by kernel_rfl) ?_)
      | (refine wp_wholeG (by rfl) 33 _ rfl (w1.heap.size) rfl 33 #[.int .i64 me1, .int .i64 rev1, .int .i64 cr1, .int .i64 h1, .int .u64 (b1 : Int), .int .i64 bad1, .int .i64 lock1] _ H2m.out Try.underlying33 rfl (by kernel_rfl) ?_)
      | fail)
    go_ret3
    exact ⟨none, 0, 0, [], 0, f1, rfl, Wg.none _, .inl ⟨_, HI1.out, HF.out, rfl, rfl⟩, H2B.out⟩

end Go.Proofs.Ytgipkpkjoicehaa.pkt

/- Meters: the document's ticking. -/
namespace Go.Proofs.Ytgipkpkjoicehaa.met
open Go.RowKit
set_option maxRecDepth 100000
set_option linter.unusedVariables false

/-- The boxes: the meter that came in, the one that goes out, empty as yet. -/
structure Bt (w wr : World) (m : Mt) : Prop where
  met : Blk wr w.heap.size m.cells 33
  out : Blk wr (w.heap.size + 1) #[.int .i64 0, .int .i64 0, .int .i64 0, .int .i64 0, .int .u64 0, .int .i64 0, .int .i64 0] 33
  bel : Below w.heap.size w wr
  size : w.heap.size + 2 ≤ wr.heap.size
theorem Bt.next {w wr w' : World} {m : Mt} (h : Bt w wr m) (hb : Below wr.heap.size wr w') : Bt w w' m := ⟨h.met.next hb, h.out.next hb, bel_step h.bel hb, Nat.le_trans h.size hb.size⟩
theorem Bt.alloc {w wr : World} {m : Mt} (h : Bt w wr m) (o : Obj) : Bt w (wr.alloc o) m := h.next ((Below.refl _ _).alloc (Nat.le_refl _) _)
theorem Bt.new (w : World) (m : Mt) : Bt w ((w.alloc (.cells m.cells 33)).alloc (.cells #[.int .i64 0, .int .i64 0, .int .i64 0, .int .i64 0, .int .u64 0, .int .i64 0, .int .i64 0] 33)) m :=
  ⟨(Blk.new w _ _).alloc _, Blk.new1 w _ _ _, ((Below.refl _ _).alloc (Nat.le_refl _) _).alloc (by simp) _, by simp⟩
theorem Bt.upd {w wr W : World} {m : Mt} {g : Nat} {cs : Array Value} {t : TypeId} (h : Bt w wr m) (hu : Upd wr W g cs t) (hg : w.heap.size + 2 ≤ g) : Bt w W m :=
  ⟨hu.keep h.met (by omega), hu.keep h.out (by omega), hu.bel _ _ (by omega) h.bel, by rw [hu.size]; exact h.size⟩

set_option maxHeartbeats 4000000 in
theorem ticked_any (m : Mt) (ld : Int) (w : World) (hb : m.b < 18446744073709551616) : Calls Try.prog 25 #[m.v, .int .i64 ld] w fun e w' => TickPost w m ld e w' := by
  have HB0 := Bt.new w m
  have HMM : Hid (∀ W, Calls Try.prog 34 #[m.v] W fun e w' => Told W m.may e w') := fun W => mmay_any m W hb
  have HIN : Hid (∀ W, Calls Try.prog 18 #[.int .i64 ld, .int .i64 0, .int .i64 1000] W fun e w' => e = .returned (.bool (decide (0 ≤ ld ∧ ld ≤ 1000))) ∧ w' = W) := fun W => in_told ld 0 1000 W
  clear hb
  obtain ⟨me, rev, cr, h, b, bad, lock⟩ := m
  unfold Mt.v at *
  unfold Mt.cells at *
  simp only [] at HB0 HMM ⊢
  have HI : Hid (Bt w ((w.alloc (.cells #[.int .i64 me, .int .i64 rev, .int .i64 cr, .int .i64 h, .int .u64 (b : Int), .int .i64 bad, .int .i64 lock] 33)).alloc (.cells #[.int .i64 0, .int .i64 0, .int .i64 0, .int .i64 0, .int .u64 0, .int .i64 0, .int .i64 0] 33)) ⟨me, rev, cr, h, b, bad, lock⟩) := HB0
  have HM0 : Hid (Blk ((w.alloc (.cells #[.int .i64 me, .int .i64 rev, .int .i64 cr, .int .i64 h, .int .u64 (b : Int), .int .i64 bad, .int .i64 lock] 33)).alloc (.cells #[.int .i64 0, .int .i64 0, .int .i64 0, .int .i64 0, .int .u64 0, .int .i64 0, .int .i64 0] 33)) w.heap.size #[.int .i64 me, .int .i64 rev, .int .i64 cr, .int .i64 h, .int .u64 (b : Int), .int .i64 bad, .int .i64 lock] 33) := HI.out.met
  clear HB0
  go_enter Try.func25, Try.ntmps25
  go_wp2_with (first
    | (refine wp_whole rfl 33 _ rfl w.heap.size rfl 33 #[.int .i64 me, .int .i64 rev, .int .i64 cr, .int .i64 h, .int .u64 (b : Int), .int .i64 bad, .int .i64 lock] _ HM0.out Try.underlying33 rfl (by kernel_rfl) ?_)
    | fail)
  refine (HMM.out _).mono ?_
  rintro e w1 ⟨r1, rfl, hr1, hb1⟩
  have HI1 : Hid (Bt w w1 ⟨me, rev, cr, h, b, bad, lock⟩) := HI.out.next hb1
  have HM1 : Hid (Blk w1 w.heap.size #[.int .i64 me, .int .i64 rev, .int .i64 cr, .int .i64 h, .int .u64 (b : Int), .int .i64 bad, .int .i64 lock] 33) := HI1.out.met
  clear hb1 HI HM0
  cases r1 with
  | false =>
    have HOU : Hid (Blk w1 (w.heap.size + 1) #[.int .i64 0, .int .i64 0, .int .i64 0, .int .i64 0, .int .u64 0, .int .i64 0, .int .i64 0] 33) := HI1.out.out
    have HBE : Hid (Below w.heap.size w w1) := HI1.out.bel
    have HF : Hid (TickIs ⟨me, rev, cr, h, b, bad, lock⟩ ld ⟨0, 0, 0, 0, 0, 0, 0⟩ 0 5) := TickIs.state fun hx => by have := hr1.2 hx; cases this
    clear hr1 HI1 HM1 HMM HIN
    go_wp2_with (first
      | (refine wp_letAll rfl 33 _ _ rfl (w.heap.size + 1) rfl #[.int .i64 0, .int .i64 0, .int .i64 0, .int .i64 0, .int .u64 0, .int .i64 0, .int .i64 0] rfl (by kernel_rfl) (by simp [Value.oneCell']) #[.int .i64 0, .int .i64 0, .int .i64 0, .int .i64 0, .int .u64 0, .int .i64 0, .int .i64 0] 33 HOU.out rfl ?_)
      | fail)
    intro WF hUF
    have R0 : Hid (WF.cell? ⟨w.heap.size + 1, 0, none⟩ = some (.int .i64 0)) := hUF.blk.cell 0
    have R1 : Hid (WF.cell? ⟨w.heap.size + 1, 1, none⟩ = some (.int .i64 0)) := hUF.blk.cell 1
    have R2 : Hid (WF.cell? ⟨w.heap.size + 1, 2, none⟩ = some (.int .i64 0)) := hUF.blk.cell 2
    have R3 : Hid (WF.cell? ⟨w.heap.size + 1, 3, none⟩ = some (.int .i64 0)) := hUF.blk.cell 3
    have R4 : Hid (WF.cell? ⟨w.heap.size + 1, 4, none⟩ = some (.int .u64 0)) := hUF.blk.cell 4
    have R5 : Hid (WF.cell? ⟨w.heap.size + 1, 5, none⟩ = some (.int .i64 0)) := hUF.blk.cell 5
    have R6 : Hid (WF.cell? ⟨w.heap.size + 1, 6, none⟩ = some (.int .i64 0)) := hUF.blk.cell 6
    have HB : Hid (Below w.heap.size w WF) := hUF.bel _ _ (by omega) HBE.out
    clear hUF HOU HBE
    go_wp2_with fail
    exact bodyPost_ret (v := .tuple #[.agg #[.int .i64 0, .int .i64 0, .int .i64 0, .int .i64 0, .int .u64 0, .int .i64 0, .int .i64 0], .int .i64 0, .int .i64 5]) (by simp [results, Try.results25, R0.out, R1.out, R2.out, R3.out, R4.out, R5.out, R6.out, go_sem]) rfl ⟨⟨0, 0, 0, 0, 0, 0, 0⟩, 0, 5, rfl, HF.out, HB.out⟩
  | true =>
    have HMY : Hid (Mt.may ⟨me, rev, cr, h, b, bad, lock⟩) := hr1.1 rfl
    clear hr1 HMM
    by_cases hl : 0 ≤ ld ∧ ld ≤ 1000
    · rw [decide_eq_true hl] at HIN
      have HOK : Hid (TickIs ⟨me, rev, cr, h, b, bad, lock⟩ ld (ticked ⟨me, rev, cr, h, b, bad, lock⟩ ld) (burnt ⟨me, rev, cr, h, b, bad, lock⟩ ld) 0) := TickIs.ok HMY.out hl
      have hcr := HMY.out.cr
      have hlo := HMY.out.lock
      simp only [] at hcr hlo
      obtain ⟨cr0, cr1⟩ := hcr
      obtain ⟨lo0, lo1⟩ := hlo
      obtain ⟨ld0, ld1⟩ := hl
      have HI2 : Hid (Bt w (w1.alloc (.cells #[.int .i64 me, .int .i64 rev, .int .i64 cr, .int .i64 h, .int .u64 (b : Int), .int .i64 bad, .int .i64 lock] 33)) ⟨me, rev, cr, h, b, bad, lock⟩) := HI1.out.alloc _
      have HG2 : Hid (Blk (w1.alloc (.cells #[.int .i64 me, .int .i64 rev, .int .i64 cr, .int .i64 h, .int .u64 (b : Int), .int .i64 bad, .int .i64 lock] 33)) w1.heap.size #[.int .i64 me, .int .i64 rev, .int .i64 cr, .int .i64 h, .int .u64 (b : Int), .int .i64 bad, .int .i64 lock] 33) := Blk.new _ _ _
      have HLT : Hid (w.heap.size + 2 ≤ w1.heap.size) := HI1.out.size
      have g6 : (w1.alloc (.cells #[.int .i64 me, .int .i64 rev, .int .i64 cr, .int .i64 h, .int .u64 (b : Int), .int .i64 bad, .int .i64 lock] 33)).cell? ⟨w1.heap.size, 6, none⟩ = some (.int .i64 lock) := HG2.out.cell 6
      clear HMY
      by_cases hlk : 0 < lock
      · have q1 : decide (0 < lock) = true := by simp [hlk]
        go_wp2_with fail
        refine (HIN.out _).mono ?_
        rintro e w2 ⟨rfl, rfl⟩
        go_wp2_with (first
          | (refine wp_whole rfl 33 _ rfl w.heap.size rfl 33 #[.int .i64 me, .int .i64 rev, .int .i64 cr, .int .i64 h, .int .u64 (b : Int), .int .i64 bad, .int .i64 lock] _ HM1.out Try.underlying33 rfl (by kernel_rfl) ?_)
          | (refine wp_let1 rfl 3 _ _ rfl w2.heap.size 6 rfl .i64 (lock - 1) rfl (by kernel_rfl) #[.int .i64 me, .int .i64 rev, .int .i64 cr, .int .i64 h, .int .u64 (b : Int), .int .i64 bad, .int .i64 lock] 33 HG2.out (by simp) ?_)
          | fail)
        intro W3 hU3
        have HI3 : Hid (Bt w W3 ⟨me, rev, cr, h, b, bad, lock⟩) := HI2.out.upd hU3 HLT.out
        have HG3 : Hid (Blk W3 w2.heap.size #[.int .i64 me, .int .i64 rev, .int .i64 cr, .int .i64 h, .int .u64 (b : Int), .int .i64 bad, .int .i64 (lock - 1)] 33) := hU3.blk
        clear hU3 g6 HI2 HG2 HI1 HM1 HIN
        generalize w2.heap.size = g at *
        have c2 : W3.cell? ⟨w.heap.size, 2, none⟩ = some (.int .i64 cr) := HI3.out.met.cell 2
        by_cases hcl : cr ≤ ld
        · have q2 : decide (cr ≤ ld) = true := by simp; omega
          have HTI : Hid (TickIs ⟨me, rev, cr, h, b, bad, lock⟩ ld ⟨me, rev, 0, h, b, bad, lock - 1⟩ cr 0) := by
            have := HOK.out
            rw [ticked, burnt] at this
            simp only [if_pos hcl, if_pos hlk] at this
            exact this
          clear hcl
          go_wp2_with (first
            | (refine wp_let1 rfl 3 _ _ rfl g 2 rfl .i64 0 rfl (by kernel_rfl) #[.int .i64 me, .int .i64 rev, .int .i64 cr, .int .i64 h, .int .u64 (b : Int), .int .i64 bad, .int .i64 (lock - 1)] 33 HG3.out (by simp) ?_)
            | fail)
          intro WE hUE
          have HIE : Hid (Bt w WE ⟨me, rev, cr, h, b, bad, lock⟩) := HI3.out.upd hUE HLT.out
          have HGE : Hid (Blk WE (g) #[.int .i64 me, .int .i64 rev, .int .i64 0, .int .i64 h, .int .u64 (b : Int), .int .i64 bad, .int .i64 (lock - 1)] 33) := hUE.blk
          clear hUE c2 HG3 HI3
          have e2 : WE.cell? ⟨w.heap.size, 2, none⟩ = some (.int .i64 cr) := HIE.out.met.cell 2
          go_wp2_with fail
          refine wp_region_held_drew (S := (fun v => Blk v g #[.int .i64 me, .int .i64 rev, .int .i64 0, .int .i64 h, .int .u64 (b : Int), .int .i64 bad, .int .i64 (lock - 1)] 33 ∧ Blk v w.heap.size #[.int .i64 me, .int .i64 rev, .int .i64 cr, .int .i64 h, .int .u64 (b : Int), .int .i64 bad, .int .i64 lock] 33)) (by kernel_rfl) ⟨HGE.out, HIE.out.met⟩ (fun hHeld => ?_)
          refine take_at 0 29 _ _ rfl rfl (by kernel_rfl) (by kernel_rfl) (by kernel_rfl) (fun _ _ _ h => h) (yieldsIf_whole (by rfl) 33 _ rfl g rfl 33 #[.int .i64 me, .int .i64 rev, .int .i64 0, .int .i64 h, .int .u64 (b : Int), .int .i64 bad, .int .i64 (lock - 1)] _ (fun v hv => hv.1) Try.underlying33 rfl (by kernel_rfl)) hHeld ?_
          simp only [Act.put, List.setIfInBounds_toArray, List.set_cons_zero, List.set_cons_succ]
          refine take_at 1 30 (.pointer (some ⟨w.heap.size, 2, none⟩)) _ rfl rfl (by kernel_rfl) (by kernel_rfl) (by kernel_rfl) (fun _ _ _ h => h) (Or.inl ⟨by rfl, fun v hv => by go_simp⟩) hHeld ?_
          simp only [Act.put, List.setIfInBounds_toArray, List.set_cons_zero, List.set_cons_succ]
          refine take_at 2 31 (.int .i64 cr) _ rfl rfl (by kernel_rfl) (by kernel_rfl) (by kernel_rfl) (fun _ _ _ h => h) (Or.inl ⟨by rfl, fun v hv => by have h2 : v.cell? ⟨w.heap.size, 2, none⟩ = some (.int .i64 cr) := hv.2.cell 2; clear hv; go_simp⟩) hHeld ?_
          simp only [Act.put, List.setIfInBounds_toArray, List.set_cons_zero, List.set_cons_succ]
          refine wpAnyH_ready (rs := [3]) (by kernel_rfl) (by simp) (AllReadyH.cons rfl (fun K hK => ?_) AllReadyH.nil)
          rw [if_pos (by rfl)]
          refine wp_letOp 33 _ _ rfl (w.heap.size + 1) rfl #[.int .i64 me, .int .i64 rev, .int .i64 0, .int .i64 h, .int .u64 (b : Int), .int .i64 bad, .int .i64 (lock - 1)] rfl (by kernel_rfl) (by simp [Value.oneCell']) #[.int .i64 0, .int .i64 0, .int .i64 0, .int .i64 0, .int .u64 0, .int .i64 0, .int .i64 0] 33 (Blk.drew HIE.out.out 1) rfl rfl ?_
          intro WZ hUZ
          have hlt := HLT.out
          refine hK.out _ _ ⟨hUZ.keep (Blk.drew HGE.out 1) (by omega), hUZ.keep (Blk.drew HIE.out.met 1) (by omega)⟩ (fun hHeld => ?_)
          refine take_at 4 5 (.int .i64 cr) _ rfl rfl (by kernel_rfl) (by kernel_rfl) (by kernel_rfl) (fun _ _ _ h => h) (Or.inl ⟨by rfl, fun v hv => by go_simp⟩) hHeld ?_
          simp only [Act.put, List.setIfInBounds_toArray, List.set_cons_zero, List.set_cons_succ]
          refine take_at 5 6 (.int .i64 0) _ rfl rfl (by kernel_rfl) (by kernel_rfl) (by kernel_rfl) (fun _ _ _ h => h) (Or.inl ⟨by rfl, fun v hv => by go_simp⟩) hHeld ?_
          simp only [Act.put, List.setIfInBounds_toArray, List.set_cons_zero, List.set_cons_succ]
          refine wpAnyH_done (by kernel_rfl) ?_ _
          have R0 : Hid (WZ.cell? ⟨w.heap.size + 1, 0, none⟩ = some (.int .i64 me)) := hUZ.blk.cell 0
          have R1 : Hid (WZ.cell? ⟨w.heap.size + 1, 1, none⟩ = some (.int .i64 rev)) := hUZ.blk.cell 1
          have R2 : Hid (WZ.cell? ⟨w.heap.size + 1, 2, none⟩ = some (.int .i64 0)) := hUZ.blk.cell 2
          have R3 : Hid (WZ.cell? ⟨w.heap.size + 1, 3, none⟩ = some (.int .i64 h)) := hUZ.blk.cell 3
          have R4 : Hid (WZ.cell? ⟨w.heap.size + 1, 4, none⟩ = some (.int .u64 (b : Int))) := hUZ.blk.cell 4
          have R5 : Hid (WZ.cell? ⟨w.heap.size + 1, 5, none⟩ = some (.int .i64 bad)) := hUZ.blk.cell 5
          have R6 : Hid (WZ.cell? ⟨w.heap.size + 1, 6, none⟩ = some (.int .i64 (lock - 1))) := hUZ.blk.cell 6
          have HB : Hid (Below w.heap.size w WZ) := hUZ.bel _ _ (by omega) (bel_drew HIE.out.bel 1)
          clear hUZ HIE HGE hlt hHeld hK
          go_wp2_with fail
          exact bodyPost_ret (v := .tuple #[.agg #[.int .i64 me, .int .i64 rev, .int .i64 0, .int .i64 h, .int .u64 (b : Int), .int .i64 bad, .int .i64 (lock - 1)], .int .i64 cr, .int .i64 0]) (by simp [results, Try.results25, R0.out, R1.out, R2.out, R3.out, R4.out, R5.out, R6.out, go_sem]) rfl ⟨⟨me, rev, 0, h, b, bad, lock - 1⟩, cr, 0, rfl, HTI.out, HB.out⟩
        · have q2 : decide (cr ≤ ld) = false := by simp; omega
          have HTI : Hid (TickIs ⟨me, rev, cr, h, b, bad, lock⟩ ld ⟨me, rev, cr - ld, h, b, bad, lock - 1⟩ ld 0) := by
            have := HOK.out
            rw [ticked, burnt] at this
            simp only [if_neg hcl, if_pos hlk] at this
            exact this
          clear hcl
          go_wp2_with (first
            | (refine wp_let1 rfl 3 _ _ rfl g 2 rfl .i64 (cr - ld) rfl (by kernel_rfl) #[.int .i64 me, .int .i64 rev, .int .i64 cr, .int .i64 h, .int .u64 (b : Int), .int .i64 bad, .int .i64 (lock - 1)] 33 HG3.out (by simp) ?_)
            | fail)
          intro WE hUE
          have HIE : Hid (Bt w WE ⟨me, rev, cr, h, b, bad, lock⟩) := HI3.out.upd hUE HLT.out
          have HGE : Hid (Blk WE (g) #[.int .i64 me, .int .i64 rev, .int .i64 (cr - ld), .int .i64 h, .int .u64 (b : Int), .int .i64 bad, .int .i64 (lock - 1)] 33) := hUE.blk
          clear hUE c2 HG3 HI3
          have e2 : WE.cell? ⟨w.heap.size, 2, none⟩ = some (.int .i64 cr) := HIE.out.met.cell 2
          have HOU : Hid (Blk WE (w.heap.size + 1) #[.int .i64 0, .int .i64 0, .int .i64 0, .int .i64 0, .int .u64 0, .int .i64 0, .int .i64 0] 33) := HIE.out.out
          have HBE : Hid (Below w.heap.size w WE) := HIE.out.bel
          have HF : Hid (TickIs ⟨me, rev, cr, h, b, bad, lock⟩ ld ⟨me, rev, cr - ld, h, b, bad, lock - 1⟩ ld 0) := HTI.out
          clear HIE HTI HOK
          go_wp2_with (first
            | (refine wp_whole rfl 33 _ rfl g rfl 33 #[.int .i64 me, .int .i64 rev, .int .i64 (cr - ld), .int .i64 h, .int .u64 (b : Int), .int .i64 bad, .int .i64 (lock - 1)] _ HGE.out Try.underlying33 rfl (by kernel_rfl) ?_)
            | (refine wp_letAll rfl 33 _ _ rfl (w.heap.size + 1) rfl #[.int .i64 me, .int .i64 rev, .int .i64 (cr - ld), .int .i64 h, .int .u64 (b : Int), .int .i64 bad, .int .i64 (lock - 1)] rfl (by kernel_rfl) (by simp [Value.oneCell']) #[.int .i64 0, .int .i64 0, .int .i64 0, .int .i64 0, .int .u64 0, .int .i64 0, .int .i64 0] 33 HOU.out rfl ?_)
            | fail)
          intro WF hUF
          have R0 : Hid (WF.cell? ⟨w.heap.size + 1, 0, none⟩ = some (.int .i64 me)) := hUF.blk.cell 0
          have R1 : Hid (WF.cell? ⟨w.heap.size + 1, 1, none⟩ = some (.int .i64 rev)) := hUF.blk.cell 1
          have R2 : Hid (WF.cell? ⟨w.heap.size + 1, 2, none⟩ = some (.int .i64 (cr - ld))) := hUF.blk.cell 2
          have R3 : Hid (WF.cell? ⟨w.heap.size + 1, 3, none⟩ = some (.int .i64 h)) := hUF.blk.cell 3
          have R4 : Hid (WF.cell? ⟨w.heap.size + 1, 4, none⟩ = some (.int .u64 (b : Int))) := hUF.blk.cell 4
          have R5 : Hid (WF.cell? ⟨w.heap.size + 1, 5, none⟩ = some (.int .i64 bad)) := hUF.blk.cell 5
          have R6 : Hid (WF.cell? ⟨w.heap.size + 1, 6, none⟩ = some (.int .i64 (lock - 1))) := hUF.blk.cell 6
          have HB : Hid (Below w.heap.size w WF) := hUF.bel _ _ (by omega) HBE.out
          clear hUF HOU HBE
          go_wp2_with fail
          exact bodyPost_ret (v := .tuple #[.agg #[.int .i64 me, .int .i64 rev, .int .i64 (cr - ld), .int .i64 h, .int .u64 (b : Int), .int .i64 bad, .int .i64 (lock - 1)], .int .i64 ld, .int .i64 0]) (by simp [results, Try.results25, R0.out, R1.out, R2.out, R3.out, R4.out, R5.out, R6.out, go_sem]) rfl ⟨⟨me, rev, cr - ld, h, b, bad, lock - 1⟩, ld, 0, rfl, HF.out, HB.out⟩
      · have q1 : decide (0 < lock) = false := by simp; omega
        have c2 : (w1.alloc (.cells #[.int .i64 me, .int .i64 rev, .int .i64 cr, .int .i64 h, .int .u64 (b : Int), .int .i64 bad, .int .i64 lock] 33)).cell? ⟨w.heap.size, 2, none⟩ = some (.int .i64 cr) := HI2.out.met.cell 2
        by_cases hcl : cr ≤ ld
        · have q2 : decide (cr ≤ ld) = true := by simp; omega
          have HTI : Hid (TickIs ⟨me, rev, cr, h, b, bad, lock⟩ ld ⟨me, rev, 0, h, b, bad, lock⟩ cr 0) := by
            have := HOK.out
            rw [ticked, burnt] at this
            simp only [if_pos hcl, if_neg (show ¬ 0 < lock by omega)] at this
            exact this
          clear hcl
          go_wp2_with fail
          refine (HIN.out _).mono ?_
          rintro e w2 ⟨rfl, rfl⟩
          go_wp2_with (first
            | (refine wp_whole rfl 33 _ rfl w.heap.size rfl 33 #[.int .i64 me, .int .i64 rev, .int .i64 cr, .int .i64 h, .int .u64 (b : Int), .int .i64 bad, .int .i64 lock] _ HM1.out Try.underlying33 rfl (by kernel_rfl) ?_)
            | (refine wp_let1 rfl 3 _ _ rfl w2.heap.size 2 rfl .i64 0 rfl (by kernel_rfl) #[.int .i64 me, .int .i64 rev, .int .i64 cr, .int .i64 h, .int .u64 (b : Int), .int .i64 bad, .int .i64 lock] 33 HG2.out (by simp) ?_)
            | fail)
          intro WE hUE
          have HIE : Hid (Bt w WE ⟨me, rev, cr, h, b, bad, lock⟩) := HI2.out.upd hUE HLT.out
          have HGE : Hid (Blk WE (w2.heap.size) #[.int .i64 me, .int .i64 rev, .int .i64 0, .int .i64 h, .int .u64 (b : Int), .int .i64 bad, .int .i64 lock] 33) := hUE.blk
          clear hUE c2 HG2 HI2
          clear HI1 HM1 HIN g6
          generalize w2.heap.size = g at *
          have e2 : WE.cell? ⟨w.heap.size, 2, none⟩ = some (.int .i64 cr) := HIE.out.met.cell 2
          go_wp2_with fail
          refine wp_region_held_drew (S := (fun v => Blk v g #[.int .i64 me, .int .i64 rev, .int .i64 0, .int .i64 h, .int .u64 (b : Int), .int .i64 bad, .int .i64 lock] 33 ∧ Blk v w.heap.size #[.int .i64 me, .int .i64 rev, .int .i64 cr, .int .i64 h, .int .u64 (b : Int), .int .i64 bad, .int .i64 lock] 33)) (by kernel_rfl) ⟨HGE.out, HIE.out.met⟩ (fun hHeld => ?_)
          refine take_at 0 29 _ _ rfl rfl (by kernel_rfl) (by kernel_rfl) (by kernel_rfl) (fun _ _ _ h => h) (yieldsIf_whole (by rfl) 33 _ rfl g rfl 33 #[.int .i64 me, .int .i64 rev, .int .i64 0, .int .i64 h, .int .u64 (b : Int), .int .i64 bad, .int .i64 lock] _ (fun v hv => hv.1) Try.underlying33 rfl (by kernel_rfl)) hHeld ?_
          simp only [Act.put, List.setIfInBounds_toArray, List.set_cons_zero, List.set_cons_succ]
          refine take_at 1 30 (.pointer (some ⟨w.heap.size, 2, none⟩)) _ rfl rfl (by kernel_rfl) (by kernel_rfl) (by kernel_rfl) (fun _ _ _ h => h) (Or.inl ⟨by rfl, fun v hv => by go_simp⟩) hHeld ?_
          simp only [Act.put, List.setIfInBounds_toArray, List.set_cons_zero, List.set_cons_succ]
          refine take_at 2 31 (.int .i64 cr) _ rfl rfl (by kernel_rfl) (by kernel_rfl) (by kernel_rfl) (fun _ _ _ h => h) (Or.inl ⟨by rfl, fun v hv => by have h2 : v.cell? ⟨w.heap.size, 2, none⟩ = some (.int .i64 cr) := hv.2.cell 2; clear hv; go_simp⟩) hHeld ?_
          simp only [Act.put, List.setIfInBounds_toArray, List.set_cons_zero, List.set_cons_succ]
          refine wpAnyH_ready (rs := [3]) (by kernel_rfl) (by simp) (AllReadyH.cons rfl (fun K hK => ?_) AllReadyH.nil)
          rw [if_pos (by rfl)]
          refine wp_letOp 33 _ _ rfl (w.heap.size + 1) rfl #[.int .i64 me, .int .i64 rev, .int .i64 0, .int .i64 h, .int .u64 (b : Int), .int .i64 bad, .int .i64 lock] rfl (by kernel_rfl) (by simp [Value.oneCell']) #[.int .i64 0, .int .i64 0, .int .i64 0, .int .i64 0, .int .u64 0, .int .i64 0, .int .i64 0] 33 (Blk.drew HIE.out.out 1) rfl rfl ?_
          intro WZ hUZ
          have hlt := HLT.out
          refine hK.out _ _ ⟨hUZ.keep (Blk.drew HGE.out 1) (by omega), hUZ.keep (Blk.drew HIE.out.met 1) (by omega)⟩ (fun hHeld => ?_)
          refine take_at 4 5 (.int .i64 cr) _ rfl rfl (by kernel_rfl) (by kernel_rfl) (by kernel_rfl) (fun _ _ _ h => h) (Or.inl ⟨by rfl, fun v hv => by go_simp⟩) hHeld ?_
          simp only [Act.put, List.setIfInBounds_toArray, List.set_cons_zero, List.set_cons_succ]
          refine take_at 5 6 (.int .i64 0) _ rfl rfl (by kernel_rfl) (by kernel_rfl) (by kernel_rfl) (fun _ _ _ h => h) (Or.inl ⟨by rfl, fun v hv => by go_simp⟩) hHeld ?_
          simp only [Act.put, List.setIfInBounds_toArray, List.set_cons_zero, List.set_cons_succ]
          refine wpAnyH_done (by kernel_rfl) ?_ _
          have R0 : Hid (WZ.cell? ⟨w.heap.size + 1, 0, none⟩ = some (.int .i64 me)) := hUZ.blk.cell 0
          have R1 : Hid (WZ.cell? ⟨w.heap.size + 1, 1, none⟩ = some (.int .i64 rev)) := hUZ.blk.cell 1
          have R2 : Hid (WZ.cell? ⟨w.heap.size + 1, 2, none⟩ = some (.int .i64 0)) := hUZ.blk.cell 2
          have R3 : Hid (WZ.cell? ⟨w.heap.size + 1, 3, none⟩ = some (.int .i64 h)) := hUZ.blk.cell 3
          have R4 : Hid (WZ.cell? ⟨w.heap.size + 1, 4, none⟩ = some (.int .u64 (b : Int))) := hUZ.blk.cell 4
          have R5 : Hid (WZ.cell? ⟨w.heap.size + 1, 5, none⟩ = some (.int .i64 bad)) := hUZ.blk.cell 5
          have R6 : Hid (WZ.cell? ⟨w.heap.size + 1, 6, none⟩ = some (.int .i64 lock)) := hUZ.blk.cell 6
          have HB : Hid (Below w.heap.size w WZ) := hUZ.bel _ _ (by omega) (bel_drew HIE.out.bel 1)
          clear hUZ HIE HGE hlt hHeld hK
          go_wp2_with fail
          exact bodyPost_ret (v := .tuple #[.agg #[.int .i64 me, .int .i64 rev, .int .i64 0, .int .i64 h, .int .u64 (b : Int), .int .i64 bad, .int .i64 lock], .int .i64 cr, .int .i64 0]) (by simp [results, Try.results25, R0.out, R1.out, R2.out, R3.out, R4.out, R5.out, R6.out, go_sem]) rfl ⟨⟨me, rev, 0, h, b, bad, lock⟩, cr, 0, rfl, HTI.out, HB.out⟩
        · have q2 : decide (cr ≤ ld) = false := by simp; omega
          have HTI : Hid (TickIs ⟨me, rev, cr, h, b, bad, lock⟩ ld ⟨me, rev, cr - ld, h, b, bad, lock⟩ ld 0) := by
            have := HOK.out
            rw [ticked, burnt] at this
            simp only [if_neg hcl, if_neg (show ¬ 0 < lock by omega)] at this
            exact this
          clear hcl
          go_wp2_with fail
          refine (HIN.out _).mono ?_
          rintro e w2 ⟨rfl, rfl⟩
          go_wp2_with (first
            | (refine wp_whole rfl 33 _ rfl w.heap.size rfl 33 #[.int .i64 me, .int .i64 rev, .int .i64 cr, .int .i64 h, .int .u64 (b : Int), .int .i64 bad, .int .i64 lock] _ HM1.out Try.underlying33 rfl (by kernel_rfl) ?_)
            | (refine wp_let1 rfl 3 _ _ rfl w2.heap.size 2 rfl .i64 (cr - ld) rfl (by kernel_rfl) #[.int .i64 me, .int .i64 rev, .int .i64 cr, .int .i64 h, .int .u64 (b : Int), .int .i64 bad, .int .i64 lock] 33 HG2.out (by simp) ?_)
            | fail)
          intro WE hUE
          have HIE : Hid (Bt w WE ⟨me, rev, cr, h, b, bad, lock⟩) := HI2.out.upd hUE HLT.out
          have HGE : Hid (Blk WE (w2.heap.size) #[.int .i64 me, .int .i64 rev, .int .i64 (cr - ld), .int .i64 h, .int .u64 (b : Int), .int .i64 bad, .int .i64 lock] 33) := hUE.blk
          clear hUE c2 HG2 HI2
          clear HI1 HM1 HIN g6
          generalize w2.heap.size = g at *
          have e2 : WE.cell? ⟨w.heap.size, 2, none⟩ = some (.int .i64 cr) := HIE.out.met.cell 2
          have HOU : Hid (Blk WE (w.heap.size + 1) #[.int .i64 0, .int .i64 0, .int .i64 0, .int .i64 0, .int .u64 0, .int .i64 0, .int .i64 0] 33) := HIE.out.out
          have HBE : Hid (Below w.heap.size w WE) := HIE.out.bel
          have HF : Hid (TickIs ⟨me, rev, cr, h, b, bad, lock⟩ ld ⟨me, rev, cr - ld, h, b, bad, lock⟩ ld 0) := HTI.out
          clear HIE HTI HOK
          go_wp2_with (first
            | (refine wp_whole rfl 33 _ rfl g rfl 33 #[.int .i64 me, .int .i64 rev, .int .i64 (cr - ld), .int .i64 h, .int .u64 (b : Int), .int .i64 bad, .int .i64 lock] _ HGE.out Try.underlying33 rfl (by kernel_rfl) ?_)
            | (refine wp_letAll rfl 33 _ _ rfl (w.heap.size + 1) rfl #[.int .i64 me, .int .i64 rev, .int .i64 (cr - ld), .int .i64 h, .int .u64 (b : Int), .int .i64 bad, .int .i64 lock] rfl (by kernel_rfl) (by simp [Value.oneCell']) #[.int .i64 0, .int .i64 0, .int .i64 0, .int .i64 0, .int .u64 0, .int .i64 0, .int .i64 0] 33 HOU.out rfl ?_)
            | fail)
          intro WF hUF
          have R0 : Hid (WF.cell? ⟨w.heap.size + 1, 0, none⟩ = some (.int .i64 me)) := hUF.blk.cell 0
          have R1 : Hid (WF.cell? ⟨w.heap.size + 1, 1, none⟩ = some (.int .i64 rev)) := hUF.blk.cell 1
          have R2 : Hid (WF.cell? ⟨w.heap.size + 1, 2, none⟩ = some (.int .i64 (cr - ld))) := hUF.blk.cell 2
          have R3 : Hid (WF.cell? ⟨w.heap.size + 1, 3, none⟩ = some (.int .i64 h)) := hUF.blk.cell 3
          have R4 : Hid (WF.cell? ⟨w.heap.size + 1, 4, none⟩ = some (.int .u64 (b : Int))) := hUF.blk.cell 4
          have R5 : Hid (WF.cell? ⟨w.heap.size + 1, 5, none⟩ = some (.int .i64 bad)) := hUF.blk.cell 5
          have R6 : Hid (WF.cell? ⟨w.heap.size + 1, 6, none⟩ = some (.int .i64 lock)) := hUF.blk.cell 6
          have HB : Hid (Below w.heap.size w WF) := hUF.bel _ _ (by omega) HBE.out
          clear hUF HOU HBE
          go_wp2_with fail
          exact bodyPost_ret (v := .tuple #[.agg #[.int .i64 me, .int .i64 rev, .int .i64 (cr - ld), .int .i64 h, .int .u64 (b : Int), .int .i64 bad, .int .i64 lock], .int .i64 ld, .int .i64 0]) (by simp [results, Try.results25, R0.out, R1.out, R2.out, R3.out, R4.out, R5.out, R6.out, go_sem]) rfl ⟨⟨me, rev, cr - ld, h, b, bad, lock⟩, ld, 0, rfl, HF.out, HB.out⟩
    · rw [decide_eq_false hl] at HIN
      have HTI : Hid (TickIs ⟨me, rev, cr, h, b, bad, lock⟩ ld ⟨me, rev, cr, h, b, bad, lock⟩ 0 2) := TickIs.range HMY.out hl
      clear hl HMY
      go_wp2_with fail
      refine (HIN.out _).mono ?_
      rintro e w2 ⟨rfl, rfl⟩
      have HOU : Hid (Blk w2 (w.heap.size + 1) #[.int .i64 0, .int .i64 0, .int .i64 0, .int .i64 0, .int .u64 0, .int .i64 0, .int .i64 0] 33) := HI1.out.out
      have HBE : Hid (Below w.heap.size w w2) := HI1.out.bel
      have HF : Hid (TickIs ⟨me, rev, cr, h, b, bad, lock⟩ ld ⟨me, rev, cr, h, b, bad, lock⟩ 0 2) := HTI.out
      clear HI1 HTI HIN
      go_wp2_with (first
        | (refine wp_whole rfl 33 _ rfl w.heap.size rfl 33 #[.int .i64 me, .int .i64 rev, .int .i64 cr, .int .i64 h, .int .u64 (b : Int), .int .i64 bad, .int .i64 lock] _ HM1.out Try.underlying33 rfl (by kernel_rfl) ?_)
        | (refine wp_letAll rfl 33 _ _ rfl (w.heap.size + 1) rfl #[.int .i64 me, .int .i64 rev, .int .i64 cr, .int .i64 h, .int .u64 (b : Int), .int .i64 bad, .int .i64 lock] rfl (by kernel_rfl) (by simp [Value.oneCell']) #[.int .i64 0, .int .i64 0, .int .i64 0, .int .i64 0, .int .u64 0, .int .i64 0, .int .i64 0] 33 HOU.out rfl ?_)
        | fail)
      intro WF hUF
      have R0 : Hid (WF.cell? ⟨w.heap.size + 1, 0, none⟩ = some (.int .i64 me)) := hUF.blk.cell 0
      have R1 : Hid (WF.cell? ⟨w.heap.size + 1, 1, none⟩ = some (.int .i64 rev)) := hUF.blk.cell 1
      have R2 : Hid (WF.cell? ⟨w.heap.size + 1, 2, none⟩ = some (.int .i64 cr)) := hUF.blk.cell 2
      have R3 : Hid (WF.cell? ⟨w.heap.size + 1, 3, none⟩ = some (.int .i64 h)) := hUF.blk.cell 3
      have R4 : Hid (WF.cell? ⟨w.heap.size + 1, 4, none⟩ = some (.int .u64 (b : Int))) := hUF.blk.cell 4
      have R5 : Hid (WF.cell? ⟨w.heap.size + 1, 5, none⟩ = some (.int .i64 bad)) := hUF.blk.cell 5
      have R6 : Hid (WF.cell? ⟨w.heap.size + 1, 6, none⟩ = some (.int .i64 lock)) := hUF.blk.cell 6
      have HB : Hid (Below w.heap.size w WF) := hUF.bel _ _ (by omega) HBE.out
      clear hUF HOU HBE
      go_wp2_with fail
      exact bodyPost_ret (v := .tuple #[.agg #[.int .i64 me, .int .i64 rev, .int .i64 cr, .int .i64 h, .int .u64 (b : Int), .int .i64 bad, .int .i64 lock], .int .i64 0, .int .i64 2]) (by simp [results, Try.results25, R0.out, R1.out, R2.out, R3.out, R4.out, R5.out, R6.out, go_sem]) rfl ⟨⟨me, rev, cr, h, b, bad, lock⟩, 0, 2, rfl, HF.out, HB.out⟩

end Go.Proofs.Ytgipkpkjoicehaa.met

/- A pocket boots, as the document says. -/
namespace Go.Proofs.Ytgipkpkjoicehaa.pkt
open Go.RowKit Go.Proofs.Ytgipkpkjoicehaa.met Go.Proofs.Ytgipkpkjoicehaa.slot Go.Proofs.Ytgipkpkjoicehaa.cell
set_option maxRecDepth 100000
set_option linter.unusedVariables false
set_option linter.unusedSimpArgs false

set_option maxHeartbeats 1000000 in
theorem rboot_no (a : Option Addr) (n cap : Nat) (f : Int) (w : World) (hf : f ≠ 0) (hL : ∀ W, Below w.heap.size w W → Calls Try.prog 21 #[.slice a n cap, .int .i64 5] W fun e w' => GaveR W [] f e w') :
    Calls Try.prog 11 #[.slice a n cap] w fun e w' => e = .returned (.tuple #[.agg #[.int .i64 0, .int .i64 0, .int .i64 0, .int .i64 0, .int .u64 0, .int .i64 0, .int .i64 0], .int .i64 f]) ∧ Below w.heap.size w w' := by
  have HL : Hid (∀ W, Below w.heap.size w W → Calls Try.prog 21 #[.slice a n cap, .int .i64 5] W fun e w' => GaveR W [] f e w') := hL
  have hd : (f != 0) = true := by simpa using hf
  clear hL hf
  have H0r : Hid (Blk (w.alloc (.cells #[.int .i64 0, .int .i64 0, .int .i64 0, .int .i64 0, .int .u64 0, .int .i64 0, .int .i64 0] 33)) (w.heap.size) #[.int .i64 0, .int .i64 0, .int .i64 0, .int .i64 0, .int .u64 0, .int .i64 0, .int .i64 0] 33) := Blk.new w _ _
  have H0B : Hid (Below w.heap.size w (w.alloc (.cells #[.int .i64 0, .int .i64 0, .int .i64 0, .int .i64 0, .int .u64 0, .int .i64 0, .int .i64 0] 33))) := (Below.refl w.heap.size w).alloc (by simp) _
  go_enter Try.func11, Try.ntmps11
  go_wp2_with fail
  refine (HL.out _ H0B.out).mono ?_
  rintro e w1 ⟨x1, c1, rfl, hr1, _, hb1⟩
  have H1r : Hid (Blk w1 (w.heap.size) #[.int .i64 0, .int .i64 0, .int .i64 0, .int .i64 0, .int .u64 0, .int .i64 0, .int .i64 0] 33) := H0r.out.next hb1
  have H1B : Hid (Below w.heap.size w w1) := bel_step H0B.out hb1
  clear H0r H0B hb1 HL
  go_wp2_with (first | (refine wp_letAll rfl 33 _ _ rfl (w.heap.size) rfl #[.int .i64 0, .int .i64 0, .int .i64 0, .int .i64 0, .int .u64 0, .int .i64 0, .int .i64 0] rfl (by kernel_rfl) (by simp [Value.oneCell']) #[.int .i64 0, .int .i64 0, .int .i64 0, .int .i64 0, .int .u64 0, .int .i64 0, .int .i64 0] 33 H1r.out rfl ?_) | fail)
  intro WF hU
  have H2r : Hid (Blk WF (w.heap.size) #[.int .i64 0, .int .i64 0, .int .i64 0, .int .i64 0, .int .u64 0, .int .i64 0, .int .i64 0] 33) := hU.blk
  have H2B : Hid (Below w.heap.size w WF) := hU.bel _ _ (by omega) H1B.out
  clear hU H1r H1B  
  have HBF : Hid (Below w.heap.size w WF) := H2B.out
  have Rr0 : Hid (WF.cell? ⟨w.heap.size, 0, none⟩ = some (.int .i64 0)) := H2r.out.cell 0
  have Rr1 : Hid (WF.cell? ⟨w.heap.size, 1, none⟩ = some (.int .i64 0)) := H2r.out.cell 1
  have Rr2 : Hid (WF.cell? ⟨w.heap.size, 2, none⟩ = some (.int .i64 0)) := H2r.out.cell 2
  have Rr3 : Hid (WF.cell? ⟨w.heap.size, 3, none⟩ = some (.int .i64 0)) := H2r.out.cell 3
  have Rr4 : Hid (WF.cell? ⟨w.heap.size, 4, none⟩ = some (.int .u64 0)) := H2r.out.cell 4
  have Rr5 : Hid (WF.cell? ⟨w.heap.size, 5, none⟩ = some (.int .i64 0)) := H2r.out.cell 5
  have Rr6 : Hid (WF.cell? ⟨w.heap.size, 6, none⟩ = some (.int .i64 0)) := H2r.out.cell 6
  go_wp2_with fail
  exact bodyPost_ret (v := .tuple #[.agg #[.int .i64 0, .int .i64 0, .int .i64 0, .int .i64 0, .int .u64 0, .int .i64 0, .int .i64 0], .int .i64 f]) (by simp [results, Try.results11, Rr0.out, Rr1.out, Rr2.out, Rr3.out, Rr4.out, Rr5.out, Rr6.out, go_sem]) rfl ⟨rfl, HBF.out⟩
set_option maxHeartbeats 1000000 in
theorem rboot_yes (a : Option Addr) (n cap : Nat) (rs : List Int) (w : World) (hn : rs.length = 5) (hL : ∀ W, Below w.heap.size w W → Calls Try.prog 21 #[.slice a n cap, .int .i64 5] W fun e w' => GaveR W rs 0 e w') (hR : ∀ W r c, RowU W r 5 rs → Calls Try.prog 22 #[.slice r 5 c] W fun e w' => ReadPost W rs e w') :
    Calls Try.prog 11 #[.slice a n cap] w fun e w' => ReadPost w rs e w' := by
  have HL : Hid (∀ W, Below w.heap.size w W → Calls Try.prog 21 #[.slice a n cap, .int .i64 5] W fun e w' => GaveR W rs 0 e w') := hL
  have HR : Hid (∀ W r c, RowU W r 5 rs → Calls Try.prog 22 #[.slice r 5 c] W fun e w' => ReadPost W rs e w') := hR
  have HN : Hid (rs.length = 5) := hn
  clear hL hR hn
  have H0r : Hid (Blk (w.alloc (.cells #[.int .i64 0, .int .i64 0, .int .i64 0, .int .i64 0, .int .u64 0, .int .i64 0, .int .i64 0] 33)) (w.heap.size) #[.int .i64 0, .int .i64 0, .int .i64 0, .int .i64 0, .int .u64 0, .int .i64 0, .int .i64 0] 33) := Blk.new w _ _
  have H0B : Hid (Below w.heap.size w (w.alloc (.cells #[.int .i64 0, .int .i64 0, .int .i64 0, .int .i64 0, .int .u64 0, .int .i64 0, .int .i64 0] 33))) := (Below.refl w.heap.size w).alloc (by simp) _
  go_enter Try.func11, Try.ntmps11
  go_wp2_with fail
  refine (HL.out _ H0B.out).mono ?_
  rintro e w1 ⟨x1, c1, rfl, hr1, _, hb1⟩
  have H1r : Hid (Blk w1 (w.heap.size) #[.int .i64 0, .int .i64 0, .int .i64 0, .int .i64 0, .int .u64 0, .int .i64 0, .int .i64 0] 33) := H0r.out.next hb1
  have H1B : Hid (Below w.heap.size w w1) := bel_step H0B.out hb1
  have HX : Hid (RowU w1 x1 5 rs) := by have := HN.out; rw [this] at hr1; exact hr1
  have hn := HN.out
  rw [hn]
  clear H0r H0B hb1 hr1 hn HL HN
  go_wp2_with fail
  refine (HR.out _ _ _ HX.out).mono ?_
  rintro e w2 ⟨m2, f2, rfl, hi2, hb2⟩
  have H2r : Hid (Blk w2 (w.heap.size) #[.int .i64 0, .int .i64 0, .int .i64 0, .int .i64 0, .int .u64 0, .int .i64 0, .int .i64 0] 33) := H1r.out.next hb2
  have H2B : Hid (Below w.heap.size w w2) := bel_step H1B.out hb2
  have HI : Hid (ReadIs rs m2 f2) := hi2
  obtain ⟨me2, rev2, cr2, h2, b2, bad2, lock2⟩ := m2
  unfold Mt.v Mt.cells
  simp only []
  have H3r : Hid (Blk (w2.alloc (.cells #[.int .i64 me2, .int .i64 rev2, .int .i64 cr2, .int .i64 h2, .int .u64 (b2 : Int), .int .i64 bad2, .int .i64 lock2] 33)) (w.heap.size) #[.int .i64 0, .int .i64 0, .int .i64 0, .int .i64 0, .int .u64 0, .int .i64 0, .int .i64 0] 33) := (H2r.out).alloc _
  have H3m : Hid (Blk (w2.alloc (.cells #[.int .i64 me2, .int .i64 rev2, .int .i64 cr2, .int .i64 h2, .int .u64 (b2 : Int), .int .i64 bad2, .int .i64 lock2] 33)) (w2.heap.size) #[.int .i64 me2, .int .i64 rev2, .int .i64 cr2, .int .i64 h2, .int .u64 (b2 : Int), .int .i64 bad2, .int .i64 lock2] 33) := (Blk.new w2 _ _)
  have L3mr : Hid (w.heap.size < w2.heap.size) := Nat.lt_of_lt_of_le H2r.out.lt (by simp)
  have H3B : Hid (Below w.heap.size w (w2.alloc (.cells #[.int .i64 me2, .int .i64 rev2, .int .i64 cr2, .int .i64 h2, .int .u64 (b2 : Int), .int .i64 bad2, .int .i64 lock2] 33))) := (H2B.out).alloc (Nat.le_trans H2B.out.size (by simp)) _
  have L30 : Hid (w.heap.size ≤ w2.heap.size) := H2B.out.size
  clear H1r H1B H2r H2B hb2 hi2 HR HX
  go_wp2_with (first
    | (refine wp_letAll rfl 33 _ _ rfl (w.heap.size) rfl #[.int .i64 me2, .int .i64 rev2, .int .i64 cr2, .int .i64 h2, .int .u64 (b2 : Int), .int .i64 bad2, .int .i64 lock2] rfl (by kernel_rfl) (by simp [Value.oneCell']) #[.int .i64 0, .int .i64 0, .int .i64 0, .int .i64 0, .int .u64 0, .int .i64 0, .int .i64 0] 33 H3r.out rfl ?_)
    | (refine wp_whole rfl 33 _ rfl (w.heap.size) rfl 33 #[.int .i64 0, .int .i64 0, .int .i64 0, .int .i64 0, .int .u64 0, .int .i64 0, .int .i64 0] _ H3r.out Try.underlying33 rfl (by kernel_rfl) ?_)
    | (refine wp_wholeG (by rfl) 33 _ rfl (w.heap.size) rfl 33 #[.int .i64 0, .int .i64 0, .int .i64 0, .int .i64 0, .int .u64 0, .int .i64 0, .int .i64 0] _ H3r.out Try.underlying33 rfl (by kernel_rfl) ?_)
    | (refine wp_whole rfl 33 _ rfl (w2.heap.size) rfl 33 #[.int .i64 me2, .int .i64 rev2, .int .i64 cr2, .int .i64 h2, .int .u64 (b2 : Int), .int .i64 bad2, .int .i64 lock2] _ H3m.out Try.underlying33 rfl (by kernel_rfl) ?_)
    | (refine wp_wholeG (by rfl) 33 _ rfl (w2.heap.size) rfl 33 #[.int .i64 me2, .int .i64 rev2, .int .i64 cr2, .int .i64 h2, .int .u64 (b2 : Int), .int .i64 bad2, .int .i64 lock2] _ H3m.out Try.underlying33 rfl (by kernel_rfl) ?_)
    | fail)
  intro WF hU
  have hL3mr := L3mr.out
  have hL30 := L30.out
  have H4r : Hid (Blk WF (w.heap.size) #[.int .i64 me2, .int .i64 rev2, .int .i64 cr2, .int .i64 h2, .int .u64 (b2 : Int), .int .i64 bad2, .int .i64 lock2] 33) := hU.blk
  have H4m : Hid (Blk WF (w2.heap.size) #[.int .i64 me2, .int .i64 rev2, .int .i64 cr2, .int .i64 h2, .int .u64 (b2 : Int), .int .i64 bad2, .int .i64 lock2] 33) := hU.keep H3m.out (by omega)
  have H4B : Hid (Below w.heap.size w WF) := hU.bel _ _ (by omega) H3B.out
  clear hU H3r H3m H3B hL3mr hL30 
  have HBF : Hid (Below w.heap.size w WF) := H4B.out
  have Rr0 : Hid (WF.cell? ⟨w.heap.size, 0, none⟩ = some (.int .i64 me2)) := H4r.out.cell 0
  have Rr1 : Hid (WF.cell? ⟨w.heap.size, 1, none⟩ = some (.int .i64 rev2)) := H4r.out.cell 1
  have Rr2 : Hid (WF.cell? ⟨w.heap.size, 2, none⟩ = some (.int .i64 cr2)) := H4r.out.cell 2
  have Rr3 : Hid (WF.cell? ⟨w.heap.size, 3, none⟩ = some (.int .i64 h2)) := H4r.out.cell 3
  have Rr4 : Hid (WF.cell? ⟨w.heap.size, 4, none⟩ = some (.int .u64 (b2 : Int))) := H4r.out.cell 4
  have Rr5 : Hid (WF.cell? ⟨w.heap.size, 5, none⟩ = some (.int .i64 bad2)) := H4r.out.cell 5
  have Rr6 : Hid (WF.cell? ⟨w.heap.size, 6, none⟩ = some (.int .i64 lock2)) := H4r.out.cell 6
  go_wp2_with fail
  exact bodyPost_ret (v := .tuple #[.agg #[.int .i64 me2, .int .i64 rev2, .int .i64 cr2, .int .i64 h2, .int .u64 (b2 : Int), .int .i64 bad2, .int .i64 lock2], .int .i64 f2]) (by simp [results, Try.results11, Rr0.out, Rr1.out, Rr2.out, Rr3.out, Rr4.out, Rr5.out, Rr6.out, go_sem]) rfl ⟨⟨me2, rev2, cr2, h2, b2, bad2, lock2⟩, f2, rfl, HI.out, HBF.out⟩
theorem booted (a : Option Addr) (n cap : Nat) (xs : List Int) (w : World) (h : RowU w a n xs) (hw : ∀ x ∈ rcd xs 5 (which xs 5), 0 ≤ x ∧ x < 4294967296) :
    Calls Try.prog 11 #[.slice a n cap] w fun e w' => BootPost w xs e w' := by
  have hl := h.1
  by_cases h12 : n = 12
  · subst h12
    by_cases h2 : which xs 5 = 2
    · refine (rboot_no a 12 cap 17 w (by decide) (fun W hB => sloaded_blank a 12 cap 5 xs W (h.below hB) (by decide) (by decide) rfl h2)).mono ?_
      rintro e w' ⟨rfl, hb⟩
      exact ⟨mt0, 17, rfl, .inr (.inl ⟨hl, h2, rfl, rfl⟩), hb⟩
    · have h1 : which xs 5 ≤ 1 := by have := which_le xs 5; omega
      refine (rboot_yes a 12 cap (rcd xs 5 (which xs 5)) w (rcd_len _ _ _) (fun W hB => sloaded_yes a 12 cap 5 _ xs W (h.below hB) (by decide) (by decide) rfl rfl h1) (fun W r c hr => mread_any r 5 c _ W hr hw)).mono ?_
      rintro e w' ⟨m, f, rfl, hi, hb⟩
      exact ⟨m, f, rfl, .inr (.inr ⟨hl, h1, hi⟩), hb⟩
  · refine (rboot_no a n cap 1 w (by decide) (fun W hB => sloaded_size a n cap 5 W (.inr (.inr (by omega))))).mono ?_
    rintro e w' ⟨rfl, hb⟩
    exact ⟨mt0, 1, rfl, .inl ⟨by omega, rfl, rfl⟩, hb⟩

end Go.Proofs.Ytgipkpkjoicehaa.pkt

/- What differs: the document's answer. -/
namespace Go.Proofs.Ytgipkpkjoicehaa.cell
open Go.RowKit
set_option maxRecDepth 100000

set_option maxHeartbeats 2000000 in
theorem differs_yes (a b : Option Addr) (n c1 c2 : Nat) (xs ys : List Int) (w : World) (h1 : RowU w a n xs) (h2 : RowU w b n ys) (hn : 1 ≤ n) (hn2 : n ≤ 2048) :
    Calls Try.prog 37 #[.slice a n c1, .slice b n c2] w fun e w' => GaveL w (dif xs ys n) 0 e w' := by
  have HM : Hid (∀ W, Calls Try.prog 18 #[.int .i64 (n : Int), .int .i64 1, .int .i64 2048] W fun e w' => e = .returned (.bool true) ∧ w' = W) := fun W => in_yes _ _ _ W (by omega) (by omega)
  have hne : ((n : Int) != (n : Int)) = false := by simp
  obtain ⟨b1, o1, rfl, l1, hc1⟩ := h1.at (by omega)
  obtain ⟨b2, o2, rfl, l2, hc2⟩ := h2.at (by omega)
  have HC1 : Hid (∀ wr, Below w.heap.size w wr → ∀ k, k < n → wr.cell? ⟨b1, o1 + k, none⟩ = some (.int .u32 (xs.getD k 0))) := fun wr hb k hk => (hb.cell (p := ⟨b1, o1 + k, none⟩) l1).trans (hc1 k hk)
  have HC2 : Hid (∀ wr, Below w.heap.size w wr → ∀ k, k < n → wr.cell? ⟨b2, o2 + k, none⟩ = some (.int .u32 (ys.getD k 0))) := fun wr hb k hk => (hb.cell (p := ⟨b2, o2 + k, none⟩) l2).trans (hc2 k hk)
  clear h1 h2 hc1 hc2 l1 l2
  go_enter Try.func37, Try.ntmps37
  go_wp2_with fail
  refine (HM.out _).mono ?_
  rintro e w1 ⟨rfl, rfl⟩
  go_wp2_with fail
  go_loopw [6, 7] (fun v i wr => ∃ (k : Nat) (V : Value), V = v ∧ k ≤ n ∧ i = .int .i64 (k : Int) ∧ Lw wr w1.heap.size V (dif xs ys k) ∧ Below w1.heap.size w1 wr) (fun _ i _ => n - (intOf i).toNat)
  case atStart => exact ⟨0, _, rfl, Nat.zero_le _, rfl, Lw.zero _ _, Below.refl _ _⟩
  case round =>
    obtain ⟨k, V, hV, hk, rfl, hown, hb⟩ := hrel
    subst hV
    have HO : Hid (Lw wr w1.heap.size V (dif xs ys k)) := hown
    have HB : Hid (Below w1.heap.size w1 wr) := hb
    clear hown hb
    by_cases hlt : k < n
    · have g1 := HC1.out wr HB.out k hlt
      have g2 := HC2.out wr HB.out k hlt
      by_cases he : xs.getD k 0 = ys.getD k 0
      · have HD : Hid (dif xs ys (k + 1) = dif xs ys k) := dif_same he
        rw [he] at g1
        clear he
        generalize ys.getD k 0 = z at *
        have hz : (z != z) = false := by simp
        have HO1 : Hid (Lw wr.drew w1.heap.size V (dif xs ys (k + 1))) := by rw [HD.out]; exact HO.out
        go_wp2_with fail
        go_region
        go_wp2_with fail
        go_roundw
        case rel => exact ⟨k + 1, _, rfl, by omega, by go_num, HO1.out, HB.out.drew⟩
        case measure => simp [intOf]; omega
      · have HD : Hid (dif xs ys (k + 1) = dif xs ys k ++ [⟨(k : Int), ys.getD k 0⟩]) := dif_other he
        have hz : (xs.getD k 0 != ys.getD k 0) = true := by simpa using he
        have HLN : Hid ((dif xs ys k).length ≤ 1000000) := by have := dif_len xs ys k; show _ ≤ _; omega
        clear he
        generalize xs.getD k 0 = x at *
        generalize ys.getD k 0 = y at *
        have HG : Hid ((wr.drew.alloc (.cells #[.int .i64 (k : Int), .int .u32 y] 51)).cell? ⟨wr.drew.heap.size, 0, none⟩ = some (.int .i64 (k : Int)) ∧ (wr.drew.alloc (.cells #[.int .i64 (k : Int), .int .u32 y] 51)).cell? ⟨wr.drew.heap.size, 1, none⟩ = some (.int .u32 y)) := pair_cell wr.drew (k : Int) y
        have HOA : Hid (Lw (wr.drew.alloc (.cells #[.int .i64 (k : Int), .int .u32 y] 51)) w1.heap.size V (dif xs ys k)) := Lw.alloc (w := wr.drew) HO.out _
        have HSZ : Hid (w1.heap.size ≤ (wr.drew.alloc (.cells #[.int .i64 (k : Int), .int .u32 y] 51)).heap.size) := alloc_le (w := wr.drew) HB.out.size _
        go_wp2_with fail
        go_region
        go_wp2_with (first
          | (at_builtin; refine wp_write rfl _ _ rfl w1.heap.size wr.drew.heap.size _ (dif xs ys k) ⟨(k : Int), y⟩ rfl rfl HOA.out HG.out HLN.out HSZ.out ?_)
          | go_in)
        intro v' w4 hL4 hg4
        have HL4 : Hid (Lw w4 w1.heap.size v' (dif xs ys (k + 1))) := by rw [HD.out]; exact hL4
        have HB4 : Hid (Below w1.heap.size w1 w4) := own_bel HOA.out hg4 (HB.out.drew.alloc HB.out.size _) (Nat.le_refl _) HSZ.out
        clear hL4 hg4 HOA HO HB HG HSZ HD
        go_wp2_with fail
        go_roundw
        case rel => exact ⟨k + 1, _, rfl, by omega, by go_num, HL4.out, HB4.out⟩
        case measure => simp [intOf]; omega
    · obtain rfl : k = n := by omega
      go_wp2_with fail
      go_ret2
      exact GaveL.mk HO.out HB.out

theorem differs_no (a b : Option Addr) (n m c1 c2 : Nat) (w : World) (h : n = 0 ∨ 2048 < n ∨ n ≠ m) :
    Calls Try.prog 37 #[.slice a n c1, .slice b m c2] w fun e w' => GaveL w [] 1 e w' := by
  by_cases h0 : n = 0 ∨ 2048 < n
  · have HM : Hid (∀ W, Calls Try.prog 18 #[.int .i64 (n : Int), .int .i64 1, .int .i64 2048] W fun e w' => e = .returned (.bool false) ∧ w' = W) := fun W => in_no _ _ _ W (by omega)
    clear h h0
    go_enter Try.func37, Try.ntmps37
    go_wp2_with fail
    refine (HM.out _).mono ?_
    rintro e w1 ⟨rfl, rfl⟩
    go_wp2_with fail
    go_ret2
    exact GaveL.mk (Lw.zero _ _) (Below.refl _ _)
  · have HM : Hid (∀ W, Calls Try.prog 18 #[.int .i64 (n : Int), .int .i64 1, .int .i64 2048] W fun e w' => e = .returned (.bool true) ∧ w' = W) := fun W => in_yes _ _ _ W (by omega) (by omega)
    have hne : ((n : Int) != (m : Int)) = true := by simp; omega
    clear h h0
    go_enter Try.func37, Try.ntmps37
    go_wp2_with fail
    refine (HM.out _).mono ?_
    rintro e w1 ⟨rfl, rfl⟩
    go_wp2_with fail
    go_ret2
    exact GaveL.mk (Lw.zero _ _) (Below.refl _ _)

end Go.Proofs.Ytgipkpkjoicehaa.cell

/- The writes of a step, as the document says. -/
namespace Go.Proofs.Ytgipkpkjoicehaa.pkt
open Go.RowKit Go.Proofs.Ytgipkpkjoicehaa.met Go.Proofs.Ytgipkpkjoicehaa.slot Go.Proofs.Ytgipkpkjoicehaa.cell
set_option maxRecDepth 100000
set_option linter.unusedVariables false
set_option linter.unusedSimpArgs false

theorem dif_self (a : List Int) (k : Nat) : dif a a k = [] := by
  induction k with
  | zero => rfl
  | succ k ih => rw [dif_same rfl, ih]
theorem dif_zero {m m' : Mt} (h : m.may) (h' : m'.may) (e : (dif (wds m) (wds m') 5).length = 0) : m' = m := by
  have h0 : dif (wds m) (wds m') 5 = [] := List.eq_nil_of_length_eq_zero e
  have h1 := dif_back (wds m) (wds m') rfl
  rw [wds_len, h0] at h1
  exact (wds_inj h h' h1).symm
set_option maxHeartbeats 1000000 in
theorem stored_one (a : Option Addr) (cap : Nat) (xs : List Int) (m m' : Mt) (w : World) (h : RowU w a 12 xs) (hwh : which xs 5 ≤ 1) (hm0 : Mw m) (hm : Mw m') (he : m' = m) :
    Calls Try.prog 26 #[.slice a 12 cap, m.v, m'.v] w fun e w' => WritesPost w xs m m' e w' := by
  have HE : Hid (m' = m) := he
  have HW0 : Hid (∀ W, Calls Try.prog 36 #[m.v] W fun e w' => met.WordsPost W m e w') := fun W => worded_any m W hm0.b
  have HW1 : Hid (∀ W, Calls Try.prog 36 #[m'.v] W fun e w' => met.WordsPost W m' e w') := fun W => worded_any m' W hm.b
  have HDF : Hid (∀ W r1 c1 r2 c2, RowU W r1 5 (wds m) → RowU W r2 5 (wds m') → Calls Try.prog 37 #[.slice r1 5 c1, .slice r2 5 c2] W fun e w' => GaveL W (dif (wds m) (wds m') 5) 0 e w') := fun W r1 c1 r2 c2 k1 k2 => differs_yes r1 r2 5 c1 c2 _ _ W k1 k2 (by decide) (by decide)
  have HOK : Hid (Mt.may m ∧ Mt.may m') := ⟨hm0.may, hm.may⟩
  have HDL : Hid ((dif (wds m) (wds m') 5).length = 0) := by show _ = _; rw [he, dif_self]; rfl
  clear h hwh hm hm0 he
  generalize hD : dif (wds m) (wds m') 5 = D at *
  clear hD
  obtain ⟨me, rev, cr, h, b, bad, lock⟩ := m
  obtain ⟨me1, rev1, cr1, h1, b1, bad1, lock1⟩ := m'
  unfold Mt.v Mt.cells at *
  simp only [] at HW0 HW1 ⊢
  have H0m : Hid (Blk ((w.alloc (.cells #[.int .i64 me, .int .i64 rev, .int .i64 cr, .int .i64 h, .int .u64 (b : Int), .int .i64 bad, .int .i64 lock] 33)).alloc (.cells #[.int .i64 me1, .int .i64 rev1, .int .i64 cr1, .int .i64 h1, .int .u64 (b1 : Int), .int .i64 bad1, .int .i64 lock1] 33)) (w.heap.size) #[.int .i64 me, .int .i64 rev, .int .i64 cr, .int .i64 h, .int .u64 (b : Int), .int .i64 bad, .int .i64 lock] 33) := (Blk.new w _ _).alloc _
  have H0n : Hid (Blk ((w.alloc (.cells #[.int .i64 me, .int .i64 rev, .int .i64 cr, .int .i64 h, .int .u64 (b : Int), .int .i64 bad, .int .i64 lock] 33)).alloc (.cells #[.int .i64 me1, .int .i64 rev1, .int .i64 cr1, .int .i64 h1, .int .u64 (b1 : Int), .int .i64 bad1, .int .i64 lock1] 33)) (w.heap.size + 1) #[.int .i64 me1, .int .i64 rev1, .int .i64 cr1, .int .i64 h1, .int .u64 (b1 : Int), .int .i64 bad1, .int .i64 lock1] 33) := Blk.new1 w _ _ _
  have H0B : Hid (Below w.heap.size w ((w.alloc (.cells #[.int .i64 me, .int .i64 rev, .int .i64 cr, .int .i64 h, .int .u64 (b : Int), .int .i64 bad, .int .i64 lock] 33)).alloc (.cells #[.int .i64 me1, .int .i64 rev1, .int .i64 cr1, .int .i64 h1, .int .u64 (b1 : Int), .int .i64 bad1, .int .i64 lock1] 33))) := ((Below.refl w.heap.size w).alloc (by simp) _).alloc (by simp) _
  go_enter Try.func26, Try.ntmps26
  go_wp2_with (first
    | (refine wp_whole rfl 33 _ rfl (w.heap.size) rfl 33 #[.int .i64 me, .int .i64 rev, .int .i64 cr, .int .i64 h, .int .u64 (b : Int), .int .i64 bad, .int .i64 lock] _ H0m.out Try.underlying33 rfl (by kernel_rfl) ?_)
    | (refine wp_wholeG (by rfl) 33 _ rfl (w.heap.size) rfl 33 #[.int .i64 me, .int .i64 rev, .int .i64 cr, .int .i64 h, .int .u64 (b : Int), .int .i64 bad, .int .i64 lock] _ H0m.out Try.underlying33 rfl (by kernel_rfl) ?_)
    | (refine wp_whole rfl 33 _ rfl (w.heap.size + 1) rfl 33 #[.int .i64 me1, .int .i64 rev1, .int .i64 cr1, .int .i64 h1, .int .u64 (b1 : Int), .int .i64 bad1, .int .i64 lock1] _ H0n.out Try.underlying33 rfl (by kernel_rfl) ?_)
    | (refine wp_wholeG (by rfl) 33 _ rfl (w.heap.size + 1) rfl 33 #[.int .i64 me1, .int .i64 rev1, .int .i64 cr1, .int .i64 h1, .int .u64 (b1 : Int), .int .i64 bad1, .int .i64 lock1] _ H0n.out Try.underlying33 rfl (by kernel_rfl) ?_)
    | fail)
  refine (HW0.out _).mono ?_
  rintro e w1 ⟨x1, n1, c1, zs, f1, rfl, hr1, _, _, hi1, hb1⟩
  have H1m : Hid (Blk w1 (w.heap.size) #[.int .i64 me, .int .i64 rev, .int .i64 cr, .int .i64 h, .int .u64 (b : Int), .int .i64 bad, .int .i64 lock] 33) := H0m.out.next hb1
  have H1n : Hid (Blk w1 (w.heap.size + 1) #[.int .i64 me1, .int .i64 rev1, .int .i64 cr1, .int .i64 h1, .int .u64 (b1 : Int), .int .i64 bad1, .int .i64 lock1] 33) := H0n.out.next hb1
  have H1B : Hid (Below w.heap.size w w1) := bel_step H0B.out hb1
  obtain ⟨rfl, rfl⟩ := hi1.one (WordsIs.ok HOK.out.1)
  obtain rfl : n1 = 5 := hr1.1.symm.trans rfl
  have HX : Hid (RowU w1 x1 5 (wds ⟨me, rev, cr, h, b, bad, lock⟩)) := hr1
  clear H0m H0n H0B hb1 hr1 hi1 HW0
  go_wp2_with (first
    | (refine wp_whole rfl 33 _ rfl (w.heap.size) rfl 33 #[.int .i64 me, .int .i64 rev, .int .i64 cr, .int .i64 h, .int .u64 (b : Int), .int .i64 bad, .int .i64 lock] _ H1m.out Try.underlying33 rfl (by kernel_rfl) ?_)
    | (refine wp_wholeG (by rfl) 33 _ rfl (w.heap.size) rfl 33 #[.int .i64 me, .int .i64 rev, .int .i64 cr, .int .i64 h, .int .u64 (b : Int), .int .i64 bad, .int .i64 lock] _ H1m.out Try.underlying33 rfl (by kernel_rfl) ?_)
    | (refine wp_whole rfl 33 _ rfl (w.heap.size + 1) rfl 33 #[.int .i64 me1, .int .i64 rev1, .int .i64 cr1, .int .i64 h1, .int .u64 (b1 : Int), .int .i64 bad1, .int .i64 lock1] _ H1n.out Try.underlying33 rfl (by kernel_rfl) ?_)
    | (refine wp_wholeG (by rfl) 33 _ rfl (w.heap.size + 1) rfl 33 #[.int .i64 me1, .int .i64 rev1, .int .i64 cr1, .int .i64 h1, .int .u64 (b1 : Int), .int .i64 bad1, .int .i64 lock1] _ H1n.out Try.underlying33 rfl (by kernel_rfl) ?_)
    | fail)
  refine (HW1.out _).mono ?_
  rintro e w2 ⟨x2, n2, c2, zs, f2, rfl, hr2, _, _, hi2, hb2⟩
  have H2m : Hid (Blk w2 (w.heap.size) #[.int .i64 me, .int .i64 rev, .int .i64 cr, .int .i64 h, .int .u64 (b : Int), .int .i64 bad, .int .i64 lock] 33) := H1m.out.next hb2
  have H2n : Hid (Blk w2 (w.heap.size + 1) #[.int .i64 me1, .int .i64 rev1, .int .i64 cr1, .int .i64 h1, .int .u64 (b1 : Int), .int .i64 bad1, .int .i64 lock1] 33) := H1n.out.next hb2
  have H2B : Hid (Below w.heap.size w w2) := bel_step H1B.out hb2
  obtain ⟨rfl, rfl⟩ := hi2.one (WordsIs.ok HOK.out.2)
  obtain rfl : n2 = 5 := hr2.1.symm.trans rfl
  have HY : Hid (RowU w2 x2 5 (wds ⟨me1, rev1, cr1, h1, b1, bad1, lock1⟩)) := hr2
  have HX2 : Hid (RowU w2 x1 5 (wds ⟨me, rev, cr, h, b, bad, lock⟩)) := HX.out.below hb2
  clear H1m H1n H1B hb2 hr2 hi2 HW1 HX
  go_wp2_with fail
  refine (HDF.out _ _ _ _ _ HX2.out HY.out).mono ?_
  rintro e w3 ⟨v3, rfl, hv3, hb3⟩
  have H3m : Hid (Blk w3 (w.heap.size) #[.int .i64 me, .int .i64 rev, .int .i64 cr, .int .i64 h, .int .u64 (b : Int), .int .i64 bad, .int .i64 lock] 33) := H2m.out.next hb3
  have H3n : Hid (Blk w3 (w.heap.size + 1) #[.int .i64 me1, .int .i64 rev1, .int .i64 cr1, .int .i64 h1, .int .u64 (b1 : Int), .int .i64 bad1, .int .i64 lock1] 33) := H2n.out.next hb3
  have H3B : Hid (Below w.heap.size w w3) := bel_step H2B.out hb3
  obtain ⟨x3, c3, rfl, hr3, hn3, hc3, _⟩ := hv3.row
  have HY3 : Hid (RowU w3 x2 5 (wds ⟨me1, rev1, cr1, h1, b1, bad1, lock1⟩)) := HY.out.below hb3
  have hdl := HDL.out
  rw [hdl]
  clear H2m H2n H2B hb3 hv3 hr3 hn3 hc3 hdl HDF HX2 HY HDL
  go_wp2_with fail
  go_ret
  exact ⟨none, 0, 0, [], rfl, Wg.none _, .inl ⟨HE.out, rfl⟩, H3B.out⟩
set_option maxHeartbeats 1000000 in
theorem stored_two (a : Option Addr) (cap : Nat) (xs : List Int) (m m' : Mt) (w : World) (h : RowU w a 12 xs) (hwh : which xs 5 ≤ 1) (hm0 : Mw m) (hm : Mw m') (he : m' ≠ m) :
    Calls Try.prog 26 #[.slice a 12 cap, m.v, m'.v] w fun e w' => WritesPost w xs m m' e w' := by
  have HE : Hid (m' ≠ m) := he
  have HW0 : Hid (∀ W, Calls Try.prog 36 #[m.v] W fun e w' => met.WordsPost W m e w') := fun W => worded_any m W hm0.b
  have HW1 : Hid (∀ W, Calls Try.prog 36 #[m'.v] W fun e w' => met.WordsPost W m' e w') := fun W => worded_any m' W hm.b
  have HDF : Hid (∀ W r1 c1 r2 c2, RowU W r1 5 (wds m) → RowU W r2 5 (wds m') → Calls Try.prog 37 #[.slice r1 5 c1, .slice r2 5 c2] W fun e w' => GaveL W (dif (wds m) (wds m') 5) 0 e w') := fun W r1 c1 r2 c2 k1 k2 => differs_yes r1 r2 5 c1 c2 _ _ W k1 k2 (by decide) (by decide)
  have HOK : Hid (Mt.may m ∧ Mt.may m') := ⟨hm0.may, hm.may⟩
  have HDL : Hid ((dif (wds m) (wds m') 5).length ≠ 0) := fun e => he (dif_zero hm0.may hm.may e)
  have HST : Hid (∀ W r c2, Below w.heap.size w W → RowU W r 5 (wds m') → Calls Try.prog 38 #[.slice a 12 cap, .slice r 5 c2] W fun e w' => GaveL W (sto xs (wds m') 5) 0 e w') := fun W r c2 hB hr => sstored_yes a r 12 cap 5 c2 _ xs (wds m') W (h.below hB) hr (by decide) (by decide) rfl rfl hwh
  clear h hwh hm hm0 he
  generalize hD : dif (wds m) (wds m') 5 = D at *
  clear hD
  obtain ⟨me, rev, cr, h, b, bad, lock⟩ := m
  obtain ⟨me1, rev1, cr1, h1, b1, bad1, lock1⟩ := m'
  unfold Mt.v Mt.cells at *
  simp only [] at HW0 HW1 ⊢
  have H0m : Hid (Blk ((w.alloc (.cells #[.int .i64 me, .int .i64 rev, .int .i64 cr, .int .i64 h, .int .u64 (b : Int), .int .i64 bad, .int .i64 lock] 33)).alloc (.cells #[.int .i64 me1, .int .i64 rev1, .int .i64 cr1, .int .i64 h1, .int .u64 (b1 : Int), .int .i64 bad1, .int .i64 lock1] 33)) (w.heap.size) #[.int .i64 me, .int .i64 rev, .int .i64 cr, .int .i64 h, .int .u64 (b : Int), .int .i64 bad, .int .i64 lock] 33) := (Blk.new w _ _).alloc _
  have H0n : Hid (Blk ((w.alloc (.cells #[.int .i64 me, .int .i64 rev, .int .i64 cr, .int .i64 h, .int .u64 (b : Int), .int .i64 bad, .int .i64 lock] 33)).alloc (.cells #[.int .i64 me1, .int .i64 rev1, .int .i64 cr1, .int .i64 h1, .int .u64 (b1 : Int), .int .i64 bad1, .int .i64 lock1] 33)) (w.heap.size + 1) #[.int .i64 me1, .int .i64 rev1, .int .i64 cr1, .int .i64 h1, .int .u64 (b1 : Int), .int .i64 bad1, .int .i64 lock1] 33) := Blk.new1 w _ _ _
  have H0B : Hid (Below w.heap.size w ((w.alloc (.cells #[.int .i64 me, .int .i64 rev, .int .i64 cr, .int .i64 h, .int .u64 (b : Int), .int .i64 bad, .int .i64 lock] 33)).alloc (.cells #[.int .i64 me1, .int .i64 rev1, .int .i64 cr1, .int .i64 h1, .int .u64 (b1 : Int), .int .i64 bad1, .int .i64 lock1] 33))) := ((Below.refl w.heap.size w).alloc (by simp) _).alloc (by simp) _
  go_enter Try.func26, Try.ntmps26
  go_wp2_with (first
    | (refine wp_whole rfl 33 _ rfl (w.heap.size) rfl 33 #[.int .i64 me, .int .i64 rev, .int .i64 cr, .int .i64 h, .int .u64 (b : Int), .int .i64 bad, .int .i64 lock] _ H0m.out Try.underlying33 rfl (by kernel_rfl) ?_)
    | (refine wp_wholeG (by rfl) 33 _ rfl (w.heap.size) rfl 33 #[.int .i64 me, .int .i64 rev, .int .i64 cr, .int .i64 h, .int .u64 (b : Int), .int .i64 bad, .int .i64 lock] _ H0m.out Try.underlying33 rfl (by kernel_rfl) ?_)
    | (refine wp_whole rfl 33 _ rfl (w.heap.size + 1) rfl 33 #[.int .i64 me1, .int .i64 rev1, .int .i64 cr1, .int .i64 h1, .int .u64 (b1 : Int), .int .i64 bad1, .int .i64 lock1] _ H0n.out Try.underlying33 rfl (by kernel_rfl) ?_)
    | (refine wp_wholeG (by rfl) 33 _ rfl (w.heap.size + 1) rfl 33 #[.int .i64 me1, .int .i64 rev1, .int .i64 cr1, .int .i64 h1, .int .u64 (b1 : Int), .int .i64 bad1, .int .i64 lock1] _ H0n.out Try.underlying33 rfl (by kernel_rfl) ?_)
    | fail)
  refine (HW0.out _).mono ?_
  rintro e w1 ⟨x1, n1, c1, zs, f1, rfl, hr1, _, _, hi1, hb1⟩
  have H1m : Hid (Blk w1 (w.heap.size) #[.int .i64 me, .int .i64 rev, .int .i64 cr, .int .i64 h, .int .u64 (b : Int), .int .i64 bad, .int .i64 lock] 33) := H0m.out.next hb1
  have H1n : Hid (Blk w1 (w.heap.size + 1) #[.int .i64 me1, .int .i64 rev1, .int .i64 cr1, .int .i64 h1, .int .u64 (b1 : Int), .int .i64 bad1, .int .i64 lock1] 33) := H0n.out.next hb1
  have H1B : Hid (Below w.heap.size w w1) := bel_step H0B.out hb1
  obtain ⟨rfl, rfl⟩ := hi1.one (WordsIs.ok HOK.out.1)
  obtain rfl : n1 = 5 := hr1.1.symm.trans rfl
  have HX : Hid (RowU w1 x1 5 (wds ⟨me, rev, cr, h, b, bad, lock⟩)) := hr1
  clear H0m H0n H0B hb1 hr1 hi1 HW0
  go_wp2_with (first
    | (refine wp_whole rfl 33 _ rfl (w.heap.size) rfl 33 #[.int .i64 me, .int .i64 rev, .int .i64 cr, .int .i64 h, .int .u64 (b : Int), .int .i64 bad, .int .i64 lock] _ H1m.out Try.underlying33 rfl (by kernel_rfl) ?_)
    | (refine wp_wholeG (by rfl) 33 _ rfl (w.heap.size) rfl 33 #[.int .i64 me, .int .i64 rev, .int .i64 cr, .int .i64 h, .int .u64 (b : Int), .int .i64 bad, .int .i64 lock] _ H1m.out Try.underlying33 rfl (by kernel_rfl) ?_)
    | (refine wp_whole rfl 33 _ rfl (w.heap.size + 1) rfl 33 #[.int .i64 me1, .int .i64 rev1, .int .i64 cr1, .int .i64 h1, .int .u64 (b1 : Int), .int .i64 bad1, .int .i64 lock1] _ H1n.out Try.underlying33 rfl (by kernel_rfl) ?_)
    | (refine wp_wholeG (by rfl) 33 _ rfl (w.heap.size + 1) rfl 33 #[.int .i64 me1, .int .i64 rev1, .int .i64 cr1, .int .i64 h1, .int .u64 (b1 : Int), .int .i64 bad1, .int .i64 lock1] _ H1n.out Try.underlying33 rfl (by kernel_rfl) ?_)
    | fail)
  refine (HW1.out _).mono ?_
  rintro e w2 ⟨x2, n2, c2, zs, f2, rfl, hr2, _, _, hi2, hb2⟩
  have H2m : Hid (Blk w2 (w.heap.size) #[.int .i64 me, .int .i64 rev, .int .i64 cr, .int .i64 h, .int .u64 (b : Int), .int .i64 bad, .int .i64 lock] 33) := H1m.out.next hb2
  have H2n : Hid (Blk w2 (w.heap.size + 1) #[.int .i64 me1, .int .i64 rev1, .int .i64 cr1, .int .i64 h1, .int .u64 (b1 : Int), .int .i64 bad1, .int .i64 lock1] 33) := H1n.out.next hb2
  have H2B : Hid (Below w.heap.size w w2) := bel_step H1B.out hb2
  obtain ⟨rfl, rfl⟩ := hi2.one (WordsIs.ok HOK.out.2)
  obtain rfl : n2 = 5 := hr2.1.symm.trans rfl
  have HY : Hid (RowU w2 x2 5 (wds ⟨me1, rev1, cr1, h1, b1, bad1, lock1⟩)) := hr2
  have HX2 : Hid (RowU w2 x1 5 (wds ⟨me, rev, cr, h, b, bad, lock⟩)) := HX.out.below hb2
  clear H1m H1n H1B hb2 hr2 hi2 HW1 HX
  go_wp2_with fail
  refine (HDF.out _ _ _ _ _ HX2.out HY.out).mono ?_
  rintro e w3 ⟨v3, rfl, hv3, hb3⟩
  have H3m : Hid (Blk w3 (w.heap.size) #[.int .i64 me, .int .i64 rev, .int .i64 cr, .int .i64 h, .int .u64 (b : Int), .int .i64 bad, .int .i64 lock] 33) := H2m.out.next hb3
  have H3n : Hid (Blk w3 (w.heap.size + 1) #[.int .i64 me1, .int .i64 rev1, .int .i64 cr1, .int .i64 h1, .int .u64 (b1 : Int), .int .i64 bad1, .int .i64 lock1] 33) := H2n.out.next hb3
  have H3B : Hid (Below w.heap.size w w3) := bel_step H2B.out hb3
  obtain ⟨x3, c3, rfl, hr3, hn3, hc3, _⟩ := hv3.row
  have HY3 : Hid (RowU w3 x2 5 (wds ⟨me1, rev1, cr1, h1, b1, bad1, lock1⟩)) := HY.out.below hb3
  have hdl := HDL.out
  generalize D.length = dn at *
  have hq : ((dn : Int) == 0) = false := by simp; omega
  clear H2m H2n H2B hb3 hv3 hr3 hn3 hc3 hdl HDF HX2 HY HDL
  go_wp2_with fail
  refine (HST.out _ _ _ H3B.out HY3.out).mono ?_
  rintro e w4 ⟨v4, rfl, hv4, hb4⟩
  have H4m : Hid (Blk w4 (w.heap.size) #[.int .i64 me, .int .i64 rev, .int .i64 cr, .int .i64 h, .int .u64 (b : Int), .int .i64 bad, .int .i64 lock] 33) := H3m.out.next hb4
  have H4n : Hid (Blk w4 (w.heap.size + 1) #[.int .i64 me1, .int .i64 rev1, .int .i64 cr1, .int .i64 h1, .int .u64 (b1 : Int), .int .i64 bad1, .int .i64 lock1] 33) := H3n.out.next hb4
  have H4B : Hid (Below w.heap.size w w4) := bel_step H3B.out hb4
  obtain ⟨x4, c4, rfl, hr4, hn4, hc4, _⟩ := hv4.row
  have HL4 : Hid ((sto xs (wds ⟨me1, rev1, cr1, h1, b1, bad1, lock1⟩) 5).length = 7) := sto_len _ _ _
  have hl4 := HL4.out
  rw [hl4] at hr4 hc4
  rw [hl4]
  have HW4 : Hid (Wg w4 x4 7 c4 (sto xs (wds ⟨me1, rev1, cr1, h1, b1, bad1, lock1⟩) 5)) := ⟨hr4, hn4, hc4, by decide⟩
  clear H3m H3n H3B hb4 hv4 hr4 hn4 hc4 hl4 HL4 HST HY3 hq
  go_wp2_with fail
  go_ret
  exact ⟨x4, 7, c4, _, rfl, HW4.out, .inr ⟨HE.out, rfl⟩, H4B.out⟩
open Classical in
theorem stored_any (a : Option Addr) (cap : Nat) (xs : List Int) (m m' : Mt) (w : World) (h : RowU w a 12 xs) (hwh : which xs 5 ≤ 1) (hm0 : Mw m) (hm : Mw m') :
    Calls Try.prog 26 #[.slice a 12 cap, m.v, m'.v] w fun e w' => WritesPost w xs m m' e w' := by
  by_cases he : m' = m
  · exact stored_one a cap xs m m' w h hwh hm0 hm he
  · exact stored_two a cap xs m m' w h hwh hm0 hm he

end Go.Proofs.Ytgipkpkjoicehaa.pkt

/- A tick of a pocket, as the document says. -/
namespace Go.Proofs.Ytgipkpkjoicehaa.pkt
open Go.RowKit Go.Proofs.Ytgipkpkjoicehaa.met Go.Proofs.Ytgipkpkjoicehaa.slot Go.Proofs.Ytgipkpkjoicehaa.cell
set_option maxRecDepth 100000
set_option linter.unusedVariables false
set_option linter.unusedSimpArgs false

set_option maxHeartbeats 1000000 in
theorem pktticked (a : Option Addr) (n cap : Nat) (xs : List Int) (ld : Int) (w : World) (h : RowU w a n xs) (hc : n ≤ cap) (hw : ∀ x ∈ rcd xs 5 (which xs 5), 0 ≤ x ∧ x < 4294967296) :
    Calls Try.prog 13 #[.slice a n cap, .int .i64 ld] w fun e w' => TickedPost w xs ld e w' := by
  have HBT : Hid (Calls Try.prog 11 #[.slice a n cap] w fun e w' => BootPost w xs e w') := booted a n cap xs w h hw
  have HTK : Hid (∀ W (m : Mt), Mw m → Calls Try.prog 25 #[m.v, .int .i64 ld] W fun e w' => TickPost W m ld e w') := fun W m hm => ticked_any m ld W hm.b
  have HSU : Hid (∀ m, BootIs xs m 0 → Mw m ∧ n = 12 ∧ which xs 5 ≤ 1) := fun m hb => by
    obtain ⟨h1, h2⟩ := BootIs.sure hw hb
    exact ⟨h2, h.1.symm.trans h1.len, h1.one⟩
  have HRW : Hid (∀ W, Below w.heap.size w W → RowU W a n xs) := fun W hB => h.below hB
  clear h hc hw
  have H0B : Hid (Below w.heap.size w w) := Below.refl _ _
  go_enter Try.func13, Try.ntmps13
  go_wp2_with fail
  refine HBT.out.mono ?_
  rintro e w1 ⟨m1, f1, rfl, hi1, hb1⟩
  have H1B : Hid (Below w.heap.size w w1) := bel_step H0B.out hb1
  have HI1 : Hid (BootIs xs m1 f1) := hi1
  clear hi1 HBT
  by_cases hf : f1 = 0
  · subst hf
    obtain ⟨hmw, rfl, hwh⟩ := HSU.out _ HI1.out
    have HMW : Hid (Mw m1 ∧ which xs 5 ≤ 1) := ⟨hmw, hwh⟩
    have HT1 : Hid (∀ W, Calls Try.prog 25 #[m1.v, .int .i64 ld] W fun e w' => TickPost W m1 ld e w') := fun W => HTK.out W m1 hmw
    have HWR : Hid (∀ W m2, Below w.heap.size w W → Mw m2 → Calls Try.prog 26 #[.slice a 12 cap, m1.v, m2.v] W fun e w' => WritesPost W xs m1 m2 e w') := fun W m2 hB hm2 => stored_any a cap xs m1 m2 W (HRW.out W hB) hwh hmw hm2
    clear hmw hwh HTK HSU HRW
    obtain ⟨me1, rev1, cr1, h1, b1, bad1, lock1⟩ := m1
    unfold Mt.v Mt.cells at *
    simp only [] at HT1 HWR ⊢
    have H2m : Hid (Blk (w1.alloc (.cells #[.int .i64 me1, .int .i64 rev1, .int .i64 cr1, .int .i64 h1, .int .u64 (b1 : Int), .int .i64 bad1, .int .i64 lock1] 33)) (w1.heap.size) #[.int .i64 me1, .int .i64 rev1, .int .i64 cr1, .int .i64 h1, .int .u64 (b1 : Int), .int .i64 bad1, .int .i64 lock1] 33) := (Blk.new w1 _ _)
    have H2B : Hid (Below w.heap.size w (w1.alloc (.cells #[.int .i64 me1, .int .i64 rev1, .int .i64 cr1, .int .i64 h1, .int .u64 (b1 : Int), .int .i64 bad1, .int .i64 lock1] 33))) := (H1B.out).alloc (Nat.le_trans H1B.out.size (by simp)) _
    have L20 : Hid (w.heap.size ≤ w1.heap.size) := H1B.out.size
    clear H0B H1B hb1
    go_wp2_with (first
      | (refine wp_whole rfl 33 _ rfl (w1.heap.size) rfl 33 #[.int .i64 me1, .int .i64 rev1, .int .i64 cr1, .int .i64 h1, .int .u64 (b1 : Int), .int .i64 bad1, .int .i64 lock1] _ H2m.out Try.underlying33 rfl (by kernel_rfl) ?_)
      | (refine wp_wholeG (by rfl) 33 _ rfl (w1.heap.size) rfl 33 #[.int .i64 me1, .int .i64 rev1, .int .i64 cr1, .int .i64 h1, .int .u64 (b1 : Int), .int .i64 bad1, .int .i64 lock1] _ H2m.out Try.underlying33 rfl (by kernel_rfl) ?_)
      | fail)
    refine (HT1.out _).mono ?_
    rintro e w2 ⟨m2, x2, f2, rfl, hi2, hb2⟩
    have H3m : Hid (Blk w2 (w1.heap.size) #[.int .i64 me1, .int .i64 rev1, .int .i64 cr1, .int .i64 h1, .int .u64 (b1 : Int), .int .i64 bad1, .int .i64 lock1] 33) := H2m.out.next hb2
    have H3B : Hid (Below w.heap.size w w2) := bel_step H2B.out hb2
    have HI2 : Hid (TickIs ⟨me1, rev1, cr1, h1, b1, bad1, lock1⟩ ld m2 x2 f2) := hi2
    clear hi2 HT1
    by_cases hf : f2 = 0
    · subst hf
      have HM2 : Hid (Mw m2) := tick_mw HMW.out.1 HI2.out
      have HW2 : Hid (∀ W, Below w.heap.size w W → Calls Try.prog 26 #[.slice a 12 cap, .agg #[.int .i64 me1, .int .i64 rev1, .int .i64 cr1, .int .i64 h1, .int .u64 (b1 : Int), .int .i64 bad1, .int .i64 lock1], m2.v] W fun e w' => WritesPost W xs ⟨me1, rev1, cr1, h1, b1, bad1, lock1⟩ m2 e w') := fun W hB => HWR.out W m2 hB HM2.out
      clear HWR
      obtain ⟨me2, rev2, cr2, h2, b2, bad2, lock2⟩ := m2
      unfold Mt.v Mt.cells at *
      simp only [] at HW2 ⊢
      have H4m : Hid (Blk (w2.alloc (.cells #[.int .i64 me2, .int .i64 rev2, .int .i64 cr2, .int .i64 h2, .int .u64 (b2 : Int), .int .i64 bad2, .int .i64 lock2] 33)) (w1.heap.size) #[.int .i64 me1, .int .i64 rev1, .int .i64 cr1, .int .i64 h1, .int .u64 (b1 : Int), .int .i64 bad1, .int .i64 lock1] 33) := (H3m.out).alloc _
      have H4n : Hid (Blk (w2.alloc (.cells #[.int .i64 me2, .int .i64 rev2, .int .i64 cr2, .int .i64 h2, .int .u64 (b2 : Int), .int .i64 bad2, .int .i64 lock2] 33)) (w2.heap.size) #[.int .i64 me2, .int .i64 rev2, .int .i64 cr2, .int .i64 h2, .int .u64 (b2 : Int), .int .i64 bad2, .int .i64 lock2] 33) := (Blk.new w2 _ _)
      have L4nm : Hid (w1.heap.size < w2.heap.size) := Nat.lt_of_lt_of_le H3m.out.lt (by simp)
      have H4B : Hid (Below w.heap.size w (w2.alloc (.cells #[.int .i64 me2, .int .i64 rev2, .int .i64 cr2, .int .i64 h2, .int .u64 (b2 : Int), .int .i64 bad2, .int .i64 lock2] 33))) := (H3B.out).alloc (Nat.le_trans H3B.out.size (by simp)) _
      have L40 : Hid (w.heap.size ≤ w2.heap.size) := H3B.out.size
      clear H2m H2B H3m H3B hb2
      go_wp2_with (first
        | (refine wp_whole rfl 33 _ rfl (w1.heap.size) rfl 33 #[.int .i64 me1, .int .i64 rev1, .int .i64 cr1, .int .i64 h1, .int .u64 (b1 : Int), .int .i64 bad1, .int .i64 lock1] _ H4m.out Try.underlying33 rfl (by kernel_rfl) ?_)
        | (refine wp_wholeG (by rfl) 33 _ rfl (w1.heap.size) rfl 33 #[.int .i64 me1, .int .i64 rev1, .int .i64 cr1, .int .i64 h1, .int .u64 (b1 : Int), .int .i64 bad1, .int .i64 lock1] _ H4m.out Try.underlying33 rfl (by kernel_rfl) ?_)
        | (refine wp_whole rfl 33 _ rfl (w2.heap.size) rfl 33 #[.int .i64 me2, .int .i64 rev2, .int .i64 cr2, .int .i64 h2, .int .u64 (b2 : Int), .int .i64 bad2, .int .i64 lock2] _ H4n.out Try.underlying33 rfl (by kernel_rfl) ?_)
        | (refine wp_wholeG (by rfl) 33 _ rfl (w2.heap.size) rfl 33 #[.int .i64 me2, .int .i64 rev2, .int .i64 cr2, .int .i64 h2, .int .u64 (b2 : Int), .int .i64 bad2, .int .i64 lock2] _ H4n.out Try.underlying33 rfl (by kernel_rfl) ?_)
        | fail)
      refine (HW2.out _ H4B.out).mono ?_
      rintro e w3 ⟨a3, n3, c3, ls, rfl, hg3, hi3, hb3⟩
      have H5m : Hid (Blk w3 (w1.heap.size) #[.int .i64 me1, .int .i64 rev1, .int .i64 cr1, .int .i64 h1, .int .u64 (b1 : Int), .int .i64 bad1, .int .i64 lock1] 33) := H4m.out.next hb3
      have H5n : Hid (Blk w3 (w2.heap.size) #[.int .i64 me2, .int .i64 rev2, .int .i64 cr2, .int .i64 h2, .int .u64 (b2 : Int), .int .i64 bad2, .int .i64 lock2] 33) := H4n.out.next hb3
      have H5B : Hid (Below w.heap.size w w3) := bel_step H4B.out hb3
      have HF : Hid (Wg w3 a3 n3 c3 ls ∧ WrIs xs ⟨me1, rev1, cr1, h1, b1, bad1, lock1⟩ ⟨me2, rev2, cr2, h2, b2, bad2, lock2⟩ ls) := ⟨hg3, hi3⟩
      clear H4m H4n H4B hb3 hg3 hi3 HW2
      go_wp2_with fail
      go_ret3
      exact ⟨a3, n3, c3, ls, x2, 0, rfl, HF.out.1, .inr (.inr ⟨_, _, HI1.out, HI2.out, rfl, HF.out.2⟩), H5B.out⟩
    · have hd : (f2 != 0) = true := by simpa using hf
      have HF : Hid (f2 ≠ 0) := hf
      clear hf
      obtain ⟨me2, rev2, cr2, h2, b2, bad2, lock2⟩ := m2
      unfold Mt.v Mt.cells at *
      simp only []
      have H4m : Hid (Blk (w2.alloc (.cells #[.int .i64 me2, .int .i64 rev2, .int .i64 cr2, .int .i64 h2, .int .u64 (b2 : Int), .int .i64 bad2, .int .i64 lock2] 33)) (w1.heap.size) #[.int .i64 me1, .int .i64 rev1, .int .i64 cr1, .int .i64 h1, .int .u64 (b1 : Int), .int .i64 bad1, .int .i64 lock1] 33) := (H3m.out).alloc _
      have H4n : Hid (Blk (w2.alloc (.cells #[.int .i64 me2, .int .i64 rev2, .int .i64 cr2, .int .i64 h2, .int .u64 (b2 : Int), .int .i64 bad2, .int .i64 lock2] 33)) (w2.heap.size) #[.int .i64 me2, .int .i64 rev2, .int .i64 cr2, .int .i64 h2, .int .u64 (b2 : Int), .int .i64 bad2, .int .i64 lock2] 33) := (Blk.new w2 _ _)
      have L4nm : Hid (w1.heap.size < w2.heap.size) := Nat.lt_of_lt_of_le H3m.out.lt (by simp)
      have H4B : Hid (Below w.heap.size w (w2.alloc (.cells #[.int .i64 me2, .int .i64 rev2, .int .i64 cr2, .int .i64 h2, .int .u64 (b2 : Int), .int .i64 bad2, .int .i64 lock2] 33))) := (H3B.out).alloc (Nat.le_trans H3B.out.size (by simp)) _
      have L40 : Hid (w.heap.size ≤ w2.heap.size) := H3B.out.size
      clear H2m H2B H3m H3B hb2 HWR
      go_wp2_with (first
        | (refine wp_whole rfl 33 _ rfl (w1.heap.size) rfl 33 #[.int .i64 me1, .int .i64 rev1, .int .i64 cr1, .int .i64 h1, .int .u64 (b1 : Int), .int .i64 bad1, .int .i64 lock1] _ H4m.out Try.underlying33 rfl (by kernel_rfl) ?_)
        | (refine wp_wholeG (by rfl) 33 _ rfl (w1.heap.size) rfl 33 #[.int .i64 me1, .int .i64 rev1, .int .i64 cr1, .int .i64 h1, .int .u64 (b1 : Int), .int .i64 bad1, .int .i64 lock1] _ H4m.out Try.underlying33 rfl (by kernel_rfl) ?_)
        | (refine wp_whole rfl 33 _ rfl (w2.heap.size) rfl 33 #[.int .i64 me2, .int .i64 rev2, .int .i64 cr2, .int .i64 h2, .int .u64 (b2 : Int), .int .i64 bad2, .int .i64 lock2] _ H4n.out Try.underlying33 rfl (by kernel_rfl) ?_)
        | (refine wp_wholeG (by rfl) 33 _ rfl (w2.heap.size) rfl 33 #[.int .i64 me2, .int .i64 rev2, .int .i64 cr2, .int .i64 h2, .int .u64 (b2 : Int), .int .i64 bad2, .int .i64 lock2] _ H4n.out Try.underlying33 rfl (by kernel_rfl) ?_)
        | fail)
      go_ret3
      exact ⟨none, 0, 0, [], 0, f2, rfl, Wg.none _, .inr (.inl ⟨_, _, _, HI1.out, HI2.out, HF.out, rfl, rfl⟩), H4B.out⟩
  · have hd : (f1 != 0) = true := by simpa using hf
    have HF : Hid (f1 ≠ 0) := hf
    clear hf HTK HSU HRW
    obtain ⟨me1, rev1, cr1, h1, b1, bad1, lock1⟩ := m1
    unfold Mt.v Mt.cells
    simp only []
    have H2m : Hid (Blk (w1.alloc (.cells #[.int .i64 me1, .int .i64 rev1, .int .i64 cr1, .int .i64 h1, .int .u64 (b1 : Int), .int .i64 bad1, .int .i64 lock1] 33)) (w1.heap.size) #[.int .i64 me1, .int .i64 rev1, .int .i64 cr1, .int .i64 h1, .int .u64 (b1 : Int), .int .i64 bad1, .int .i64 lock1] 33) := (Blk.new w1 _ _)
    have H2B : Hid (Below w.heap.size w (w1.alloc (.cells #[.int .i64 me1, .int .i64 rev1, .int .i64 cr1, .int .i64 h1, .int .u64 (b1 : Int), .int .i64 bad1, .int .i64 lock1] 33))) := (H1B.out).alloc (Nat.le_trans H1B.out.size (by simp)) _
    have L20 : Hid (w.heap.size ≤ w1.heap.size) := H1B.out.size
    clear H0B H1B hb1
    go_wp2_with (first
      | (refine wp_whole rfl 33 _ rfl (w1.heap.size) rfl 33 #[.int .i64 me1, .int .i64 rev1, .int .i64 cr1, .int .i64 h1, .int .u64 (b1 : Int), .int .i64 bad1, .int .i64 lock1] _ H2m.out Try.underlying33 rfl (by kernel_rfl) ?_)
      | (refine wp_wholeG (by rfl) 33 _ rfl (w1.heap.size) rfl 33 #[.int .i64 me1, .int .i64 rev1, .int .i64 cr1, .int .i64 h1, .int .u64 (b1 : Int), .int .i64 bad1, .int .i64 lock1] _ H2m.out Try.underlying33 rfl (by kernel_rfl) ?_)
      | fail)
    go_ret3
    exact ⟨none, 0, 0, [], 0, f1, rfl, Wg.none _, .inl ⟨_, HI1.out, HF.out, rfl, rfl⟩, H2B.out⟩

end Go.Proofs.Ytgipkpkjoicehaa.pkt

/- The statement of ticks. -/
namespace Go.Proofs.Ytgipkpkjoicehaa.pkt
open Go.RowKit Go.Proofs.Ytgipkpkjoicehaa.met Go.Proofs.Ytgipkpkjoicehaa.slot Go.Proofs.Ytgipkpkjoicehaa.cell
set_option maxRecDepth 100000
set_option linter.unusedVariables false
set_option linter.unusedSimpArgs false

set_option maxHeartbeats 1000000 in
theorem ticks_walk (a : Option Addr) (n cap : Nat) (l : List Int) (ld : Int) (w : World) (hr : RowU w a n l) (hn : a = none → cap = 0) (hle : n ≤ cap) (hs : n * 4 ≤ 140737488351232) (hl : ∀ x ∈ l, 0 ≤ x ∧ x < 4294967296) :
    Calls Try.prog 5 #[.slice a n cap, .int .i64 ld] w fun e w' => e = .returned (.bool true) ∧ Below w.heap.size w w' := by
  have HC : Hid (Calls Try.prog 9 #[.slice a n cap] w fun e w' => GaveU w l e w') := words_any a n cap l w hr hn hs
  have H1 : Hid (∀ W a1 cap1, RowU W a1 n l → n ≤ cap1 → Calls Try.prog 12 #[.slice a1 n cap1, .int .i64 ld] W fun e w' => TickedPost W l ld e w') := fun W a1 cap1 h1 h2 => pticked a1 n cap1 l ld W h1 h2 (rcd_word hl _ _)
  have H2 : Hid (∀ W, Below w.heap.size w W → Calls Try.prog 13 #[.slice a n cap, .int .i64 ld] W fun e w' => TickedPost W l ld e w') := fun W hB => pktticked a n cap l ld W (hr.below hB) hle (rcd_word hl _ _)
  have HSW : Hid (∀ W a1 cap1, RowU W a n l → RowU W a1 n l → Calls Try.prog 8 #[.slice a n cap, .slice a1 n cap1] W fun e w' => e = .returned (.bool true) ∧ Below W.heap.size W w') := fun W a1 cap1 h1 h2 => words_law a a1 n cap cap1 l W h1 h2 (by unfold maxLen; omega)
  have HSL : Hid (∀ W x1 c1 x2 c2 k ls, RowW W x1 k ls → RowW W x2 k ls → k ≤ 7 → Calls Try.prog 14 #[.slice x1 k c1, .slice x2 k c2] W fun e w' => e = .returned (.bool true) ∧ Below W.heap.size W w') := fun W x1 c1 x2 c2 k ls h1 h2 h3 => writes_law x1 x2 k c1 c2 ls W h1 h2 (by unfold maxLen; omega)
  have HR : Hid (RowU w a n l) := hr
  clear hr hl hs hn hle
  have H0B : Hid (Below w.heap.size w w) := Below.refl _ _
  go_enter Try.func5, Try.ntmps5
  go_wp2_with fail
  refine HC.out.mono ?_
  rintro e w1 ⟨v, rfl, hv, hb1⟩
  have H1B : Hid (Below w.heap.size w w1) := bel_step H0B.out hb1
  have H1Ca : Hid (RowU w1 a n l) := HR.out.below hb1
  obtain ⟨a1, cap1, rfl, hr1, hn1, hc1⟩ := hv.row
  have hL : l.length = n := H1Ca.out.1
  rw [hL] at hr1 hc1
  rw [hL]
  have HCd : Hid (RowU w1 a1 n l) := hr1
  have HC1 : Hid (n ≤ cap1) := hc1
  clear HR H0B hb1 hv hr1 hn1 hc1 hL HC
  go_wp2_with fail
  refine (H1.out _ _ _ HCd.out HC1.out).mono ?_
  rintro e w2 ⟨y1, k1, d1, ls, x1, f1, rfl, hg1, hi1, hb2⟩
  have H2B : Hid (Below w.heap.size w w2) := bel_step H1B.out hb2
  have H2Ca : Hid (RowU w2 a n l) := H1Ca.out.below hb2
  have H2Cd : Hid (RowU w2 a1 n l) := HCd.out.below hb2
  have HI1 : Hid (TickedIs l ld ls x1 f1) := hi1
  have HCg : Hid (Wg w2 y1 k1 d1 ls) := hg1
  clear H1Ca HCd H1B hb2 hi1 hg1 H1
  go_wp2_with fail
  refine (H2.out _ H2B.out).mono ?_
  rintro e w3 ⟨y2, k2, d2, ls2, x2, f2, rfl, hg2, hi2, hb3⟩
  have H3B : Hid (Below w.heap.size w w3) := bel_step H2B.out hb3
  have H3Ca : Hid (RowU w3 a n l) := H2Ca.out.below hb3
  have H3Cd : Hid (RowU w3 a1 n l) := H2Cd.out.below hb3
  have H3Cg : Hid (Wg w3 y1 k1 d1 ls) := HCg.out.below hb3
  obtain ⟨rfl, rfl, rfl⟩ := HI1.out.one hi2
  obtain rfl : k1 = k2 := H3Cg.out.row.1.symm.trans hg2.row.1
  have hf : (f1 == f1) = true := beq_self_eq_true f1
  have hx : (x1 == x1) = true := beq_self_eq_true x1
  have HS1 : Hid (Calls Try.prog 14 #[.slice y1 k1 d1, .slice y2 k1 d2] w3 fun e w' => e = .returned (.bool true) ∧ Below w3.heap.size w3 w') := HSL.out _ _ _ _ _ _ _ H3Cg.out.row hg2.row hg2.few
  clear H2Ca H2Cd HCg H2B hb3 hi2 hg2 H2 HI1 HSL
  go_wp2_with fail
  refine HS1.out.mono ?_
  rintro e w4 ⟨rfl, hb4⟩
  have H4B : Hid (Below w.heap.size w w4) := bel_step H3B.out hb4
  have H4Ca : Hid (RowU w4 a n l) := H3Ca.out.below hb4
  have H4Cd : Hid (RowU w4 a1 n l) := H3Cd.out.below hb4
  have H4Cg : Hid (Wg w4 y1 k1 d1 ls) := H3Cg.out.below hb4
  clear H3Ca H3Cd H3Cg H3B hb4 HS1
  go_wp2_with fail
  refine (HSW.out _ _ _ H4Ca.out H4Cd.out).mono ?_
  rintro e w5 ⟨rfl, hb5⟩
  have H5B : Hid (Below w.heap.size w w5) := bel_step H4B.out hb5
  have H5Ca : Hid (RowU w5 a n l) := H4Ca.out.below hb5
  have H5Cd : Hid (RowU w5 a1 n l) := H4Cd.out.below hb5
  have H5Cg : Hid (Wg w5 y1 k1 d1 ls) := H4Cg.out.below hb5
  clear H4Ca H4Cd H4Cg H4B hb5 HSW
  go_wp2_with fail
  go_ret
  exact ⟨rfl, H5B.out⟩

end Go.Proofs.Ytgipkpkjoicehaa.pkt

/- A meter that came in: its numbers. -/
namespace Go.Proofs.Ytgipkpkjoicehaa.met
open Go.ChangeShapes Go.WideShapes Go.ChangeAt Go.RowKit Go.Deep
set_option maxRecDepth 100000

theorem u64_nat {z : Int} (h : (Lit.int .u64 z).wf = true) : ∃ y : Nat, z = (y : Int) ∧ y < 18446744073709551616 := by
  have h2 : 0 ≤ z ∧ z < 18446744073709551616 := by
    simp only [Lit.wf, Bool.and_eq_true, decide_eq_true_eq] at h
    rw [show IntKind.u64.min = 0 from by decide, show IntKind.u64.max = 18446744073709551615 from by decide] at h
    omega
  exact ⟨z.toNat, by omega, by omega⟩
theorem open_met {H : Type} {enc : TypeId × Value → H} {W : World} {r : Reach} {b0 b1 : Nat} {spare : Nat → Bool} {held : Bool} {v : Value} {d : DataW H} {ps : List MemPlace}
    (hval : Value.okWide Try.prog W r b0 33 v) (h : DataW.Trod enc Try.prog W b1 spare held 33 v d ps) :
    ∃ m : Mt, v = m.v ∧ m.b < 18446744073709551616 := by
  have hu := Try.underlying33
  have hc : Try.prog.cellsOf 33 = 7 := by kernel_rfl
  have ci : Try.prog.cellsOf 3 = 1 := by kernel_rfl
  have cu : Try.prog.cellsOf 29 = 1 := by kernel_rfl
  have cw : Try.prog.cellsOf 31 = 2 := by kernel_rfl
  obtain ⟨cs, rfl, hsz⟩ := okWide_struct hu hval
  rw [hc] at hsz
  obtain ⟨c0, c1, c2, c3, c4, c5, c6, rfl⟩ : ∃ c0 c1 c2 c3 c4 c5 c6, cs = #[c0, c1, c2, c3, c4, c5, c6] := by
    cases cs with
    | mk l => match l, hsz with
      | [c0, c1, c2, c3, c4, c5, c6], _ => exact ⟨c0, c1, c2, c3, c4, c5, c6, rfl⟩
  obtain ⟨fuel, hf⟩ := h
  obtain ⟨xs, n, _, _, _, hlen, hg⟩ := DataW.trod_struct hu hf
  match xs, hlen with
  | [y0, y1, y2, y3, y4, y5], _ =>
    have g0 := hg 0 _ rfl
    have g1 := hg 1 _ rfl
    have g2 := hg 2 _ rfl
    have g3 := hg 3 _ rfl
    have g4 := hg 4 _ rfl
    have g5 := hg 5 _ rfl
    simp [Value.cells, ci, cw] at g0 g1 g2 g3 g4 g5
    obtain ⟨x0, e0, -, _⟩ := DataW.trod_int Try.underlying3 g0
    obtain ⟨x1, e1, -, _⟩ := DataW.trod_int Try.underlying3 g1
    obtain ⟨x2, e2, -, _⟩ := DataW.trod_int Try.underlying3 g2
    obtain ⟨x5, e5, -, _⟩ := DataW.trod_int Try.underlying3 g4
    obtain ⟨x6, e6, -, _⟩ := DataW.trod_int Try.underlying3 g5
    obtain ⟨z0, z1, k, _, _, q0, q1⟩ := trod_struct2 Try.underlying31 g3
    simp [ci, cu] at q0 q1
    obtain ⟨x3, e3, -, _⟩ := DataW.trod_int Try.underlying3 q0
    obtain ⟨x4, e4, -, w4⟩ := DataW.trod_int Try.underlying29 q1
    simp at e0 e1 e2 e3 e4 e5 e6
    subst e0 e1 e2 e3 e4 e5 e6
    obtain ⟨y, rfl, hy⟩ := u64_nat w4
    exact ⟨⟨x0, x1, x2, x3, y, x5, x6⟩, rfl, hy⟩
/-- A word is a word. -/
theorem _root_.Go.Proofs.Ytgipkpkjoicehaa.cell.word_of {z : Int} (h : (Lit.int .u32 z).wf = true) : 0 ≤ z ∧ z < 4294967296 := by
  simp only [Lit.wf, Bool.and_eq_true, decide_eq_true_eq] at h
  rw [show IntKind.u32.min = 0 from by decide, show IntKind.u32.max = 4294967295 from by decide] at h
  omega
/-- Four numbers that came in. -/
def wf4i (x y z u : Int) : Prop := (Lit.int .i64 x).wf = true ∧ (Lit.int .i64 y).wf = true ∧ (Lit.int .i64 z).wf = true ∧ (Lit.int .i64 u).wf = true
theorem open_four {H : Type} {enc : TypeId × Value → H} {W : World} {r : Reach} {b0 b1 : Nat} {spare : Nat → Bool} {held : Bool} {t : TypeId} {f0 f1 f2 f3 : Field} {v : Value} {d : DataW H} {ps : List MemPlace}
    (hs : Try.prog.underlying t = some (.struct #[f0, f1, f2, f3])) (hone : oneCellFields Try.prog #[f0, f1, f2, f3] = true) (hC : Try.prog.cellsOf t = 4) (e0 : f0.type = 3) (e1 : f1.type = 3) (e2 : f2.type = 3) (e3 : f3.type = 3)
    (hval : Value.okWide Try.prog W r b0 t v) (h : DataW.Trod enc Try.prog W b1 spare held t v d ps) : ∃ x y z u, v = .agg #[.int .i64 x, .int .i64 y, .int .i64 z, .int .i64 u] ∧ wf4i x y z u := by
  obtain ⟨v0, v1, v2, v3, y0, y1, y2, y3, n, rfl, -, -, h0, h1, h2, h3⟩ := Joins.open_agg4 hs hone hC hval h
  rw [e0] at h0
  rw [e1] at h1
  rw [e2] at h2
  rw [e3] at h3
  obtain ⟨x0, q0, -, w0⟩ := DataW.trod_int Try.underlying3 h0
  obtain ⟨x1, q1, -, w1⟩ := DataW.trod_int Try.underlying3 h1
  obtain ⟨x2, q2, -, w2⟩ := DataW.trod_int Try.underlying3 h2
  obtain ⟨x3, q3, -, w3⟩ := DataW.trod_int Try.underlying3 h3
  simp at q0 q1 q2 q3
  subst q0 q1 q2 q3
  exact ⟨x0, x1, x2, x3, rfl, w0, w1, w2, w3⟩

end Go.Proofs.Ytgipkpkjoicehaa.met
