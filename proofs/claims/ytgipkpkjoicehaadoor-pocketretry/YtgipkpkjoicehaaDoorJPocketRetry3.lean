import Derived.Test.YtgipkpkjoicehaaDoorJPocketRetry2
import Derived.Test.YtgipkpkjoicehaaDoorCkPick
import Derived.Test.YtgipkpkjoicehaaDoorRows
import Derived.Test.YtgipkpkjoicehaaDoorMtD
import Derived.WalkKit
import Derived.ProofKit
import Derived.OpenShut
import Derived.Below
import Derived.ChangeSame
import Derived.Lib.SmallJoins
import Derived.Test.YtgipkpkjoicehaaDoorOrD
import Derived.SizedLaws
import Derived.Deep.Slices

/- A token of credit that was sold here, keyed: plain facts. -/
namespace Go.Proofs.YtgipkpkjoicehaaDoor.pkt
open Go.Proofs.YtgipkpkjoicehaaDoor.met Go.Proofs.YtgipkpkjoicehaaDoor.slot Go.Proofs.YtgipkpkjoicehaaDoor.cell Go.Proofs.YtgipkpkjoicehaaDoor.ora Go.Proofs.YtgipkpkjoicehaaDoor.token
set_option linter.unusedVariables false

/-- It is good just now. -/
structure Good (m : Mt) (i a : Int) : Prop where
  lock : m.lock ≤ 0
  judge : win.JudgeIs m.h m.b i 0
  room : ¬ ((0 : Int) = 0 ∧ 99999999 - m.cr < a)
theorem key_credit {m : Mt} {l ls : List Pr} {k : Tok} {t : Nat} (hc : k.c = 0) (hs : SoldIs m l k ls t) (hm : Mw m) {m' : Mt} {x e : Int} (h : KeyIs m ls k.c k.i k.a t (bodyI k.c k.i k.a) m' x e) :
    (e ≠ 0 ∧ m' = m ∧ x = 0) ∨ (e = 0 ∧ m' = taken m 0 k.i k.a ∧ x = k.a ∧ Good m k.i k.a) := by
  have hc' : (k.c : Int) = 0 := by omega
  have hf : flawT k.c k.i k.a t = 0 := flaw_tok.2 hs.ok
  rcases h with ⟨a0, _⟩ | ⟨_, a1, _⟩ | ⟨_, _, _, r1, r2, r3⟩ | ⟨_, _, _, a3, _⟩ | ⟨_, _, _, _, h4, _⟩ | ⟨_, _, _, _, h4, _⟩ | ⟨_, _, _, _, _, _, an, r1, r2⟩ | ⟨_, _, _, _, _, _, _, r1, r2, r3⟩ | ⟨_, _, _, _, _, _, _, a7, _⟩ | ⟨_, _, a2, _, _, aj, a6, _, r1, r2, r3⟩
  · exact absurd ⟨hm.may, hs.may⟩ a0
  · exact absurd hf a1
  · exact .inl ⟨by rw [r3]; decide, r1, r2⟩
  · exact absurd (by omega) a3
  · exact absurd hs.here h4
  · exact absurd hs.here h4
  · exact .inl ⟨an, r1, r2⟩
  · exact .inl ⟨by rw [r3]; decide, r1, r2⟩
  · exact absurd (fun hx => by have := hx.1; omega) a7
  · rw [hc'] at r1 r2 a6
    exact .inr ⟨r3, r1, by rw [r2, if_pos rfl], ⟨a2, aj, a6⟩⟩
theorem credit_mw {m : Mt} {l ls : List Pr} {k : Tok} {t : Nat} (hc : k.c = 0) (hs : SoldIs m l k ls t) (hm : Mw m) (hg : Good m k.i k.a) : Mw (taken m 0 k.i k.a) := by
  refine ⟨taken_may hm.may hg.judge (by omega) hg.room (fun h => by cases h), ?_⟩
  show win.took m.h m.b k.i < _
  rcases hg.judge with ⟨_, e⟩ | ⟨_, _, e⟩ | ⟨_, _, _, e⟩ | ⟨_, _, _, _, e⟩ | ⟨_, _, _, hn, _⟩
  · exact absurd e (by decide)
  · exact absurd e (by decide)
  · exact absurd e (by decide)
  · exact absurd e (by decide)
  · have := win.took_lt hn
    omega
theorem credit_ne {m : Mt} {k : Tok} (hc : k.c = 0) (hk : 1 ≤ k.a) : taken m 0 k.i k.a ≠ m := by
  intro h
  have h1 : (taken m 0 k.i k.a).cr = m.cr := by rw [h]
  have h2 : (taken m 0 k.i k.a).cr = m.cr + k.a := by unfold taken; simp
  omega
theorem key_twice {m : Mt} {l ls : List Pr} {k : Tok} {t : Nat} (hc : k.c = 0) (hs : SoldIs m l k ls t) (hm : Mw m) (hg : Good m k.i k.a) {m' : Mt} {x e : Int} (h : KeyIs (taken m 0 k.i k.a) ls k.c k.i k.a t (bodyI k.c k.i k.a) m' x e) : m' = taken m 0 k.i k.a ∧ x = 0 ∧ e = 14 := by
  have hf : flawT k.c k.i k.a t = 0 := flaw_tok.2 hs.ok
  have hc' : (k.c : Int) = 0 := by omega
  have hh := hs.here
  rw [hc'] at h hf hh
  exact key_again hm.may hs.may hf hg.lock (by decide) (by decide) hh hg.judge (by omega) hg.room h

end Go.Proofs.YtgipkpkjoicehaaDoor.pkt

/- Who keys once more what a power cut took away adds it once. -/
namespace Go.Proofs.YtgipkpkjoicehaaDoor.pkt
open Go.RowKit Go.Proofs.YtgipkpkjoicehaaDoor.met Go.Proofs.YtgipkpkjoicehaaDoor.slot Go.Proofs.YtgipkpkjoicehaaDoor.cell Go.Proofs.YtgipkpkjoicehaaDoor.ora Go.Proofs.YtgipkpkjoicehaaDoor.token Go.Proofs.YtgipkpkjoicehaaDoor.check
set_option maxRecDepth 100000
set_option linter.unusedVariables false
set_option linter.unusedSimpArgs false

/-- What keying it gives. -/
def RKey (w : World) (xs : List Int) (m : Mt) (k : Tok) (e : Ending) (w' : World) : Prop :=
  ∃ b n d wl x f, e = .returned (.tuple #[.slice b n d, .int .i64 x, .int .i64 f]) ∧ Wg w' b n d wl ∧ ((f ≠ 0 ∧ n = 0 ∧ x = 0) ∨ (f = 0 ∧ n = 7 ∧ x = (k.a : Int) ∧ WrIs xs m (taken m 0 k.i k.a) wl ∧ Good m k.i k.a)) ∧ Below w.heap.size w w'
theorem rkey (a : Option Addr) (c : Nat) (xs : List Int) (m : Mt) (ao : Option Addr) (no co : Nat) (l ls : List Pr) (k : Tok) (t : Nat) (w : World) (ht : TTab w) (hc0 : k.c = 0) (ha : 1 ≤ k.a) (hs : SoldIs m l k ls t) (hm : Hm w a c xs m) (hc : Came w ao no co ls) :
    Calls Tryd.prog 11 #[.slice a 12 c, .agg #[.slice ao no co], .string (fmtB (97 * (Tok.num ⟨k.c, k.i, k.a, t⟩)))] w fun e w' => RKey w xs m k e w' := by
  refine (hkeyed a c xs m ao no co ls ⟨k.c, k.i, k.a, t⟩ hs.ok w ht hm hc.row hs.may).mono ?_
  rintro e w' ⟨b, n, d, wl, x, f, m', rfl, hg, hk, hw, hb⟩
  have hl := hg.row.1
  refine ⟨b, n, d, wl, x, f, rfl, hg, ?_, hb⟩
  rcases key_credit hc0 hs hm.mw hk with ⟨h1, rfl, rfl⟩ | ⟨h1, rfl, rfl, h4⟩
  · rcases hw.len with ⟨_, h0⟩ | ⟨h, _⟩
    · exact .inl ⟨h1, by omega, rfl⟩
    · exact absurd rfl h
  · rcases hw.len with ⟨h, _⟩ | ⟨_, h7⟩
    · exact absurd h (credit_ne hc0 ha)
    · exact .inr ⟨h1, by omega, rfl, hw, h4⟩
theorem rtwice (a : Option Addr) (c : Nat) (xs : List Int) (m : Mt) (ao : Option Addr) (no co : Nat) (l ls : List Pr) (k : Tok) (t : Nat) (w : World) (ht : TTab w) (hc0 : k.c = 0) (hs : SoldIs m l k ls t) (hmw : Mw m) (hg : Good m k.i k.a) (hm : Hm w a c xs (taken m 0 k.i k.a)) (hc : Came w ao no co ls) :
    Calls Tryd.prog 11 #[.slice a 12 c, .agg #[.slice ao no co], .string (fmtB (97 * (Tok.num ⟨k.c, k.i, k.a, t⟩)))] w fun e w' => ∃ b d, e = .returned (.tuple #[.slice b 0 d, .int .i64 0, .int .i64 14]) ∧ Below w.heap.size w w' := by
  refine (hkeyed a c xs _ ao no co ls ⟨k.c, k.i, k.a, t⟩ hs.ok w ht hm hc.row hs.may).mono ?_
  rintro e w' ⟨b, n, d, wl, x, f, m', rfl, hgw, hk, hw, hb⟩
  have hl := hgw.row.1
  obtain ⟨rfl, rfl, rfl⟩ := key_twice hc0 hs hmw hg hk
  rcases hw.len with ⟨_, h0⟩ | ⟨h, _⟩
  · obtain rfl : n = 0 := by omega
    exact ⟨b, d, rfl, hb⟩
  · exact absurd rfl h
/-- What lies in memory from there on. -/
structure Ry (w wr : World) (go gm gt : Nat) (a : Option Addr) (n c : Nat) (l : List Pr) (mc tc : Array Value) : Prop where
  bel : Below w.heap.size w wr
  o : Blk wr go #[.slice a n c] 28
  m : Blk wr gm mc 36
  t : Blk wr gt tc 40
  came : Came wr a n c l
theorem Ry.next {w wr w' : World} {go gm gt : Nat} {a : Option Addr} {n c : Nat} {l : List Pr} {mc tc : Array Value} (h : Ry w wr go gm gt a n c l mc tc) (hb : Below wr.heap.size wr w') : Ry w w' go gm gt a n c l mc tc := ⟨bel_step h.bel hb, h.o.next hb, h.m.next hb, h.t.next hb, h.came.below hb⟩
set_option maxHeartbeats 8000000 in
theorem retry_abs (me0 me : Int) (a0 : Option Addr) (len0 cap0 : Nat) (zs : List Pr) (x0 x1 x2 x3 : Int) (a3 : Option Addr) (len3 cap3 : Nat) (cs : List Int) (kk : Tok) (w : World) (hka : kk.a ≤ 2097151) (hri : irow.RowF w a3 len3 cs)
    (hp : ∀ W, Calls Tryd.prog 6 #[.int .i64 me0, .int .i64 50] W fun e w' => e = .returned (.int .i64 me) ∧ w' = W)
    (hat : ∀ W, Below w.heap.size w W → Calls Tryd.prog 5 #[.int .i64 me, .slice a0 len0 cap0] W fun e w' => AtPost W me zs (min len0 12) e w')
    (hbt : ∀ W a c xs m, Hm W a c xs m → Calls Tryd.prog 7 #[.slice a 12 c] W fun e w' => e = .returned (.tuple #[m.v, .int .i64 0]) ∧ Below W.heap.size W w')
    (hso : ∀ W ao no co l m, Below w.heap.size w W → Came W ao no co l → Alive W ao → May l → l.length ≤ 12 → Mw m → Calls Tryd.prog 8 #[.agg #[.slice ao no co], m.v, .agg #[.int .i64 0, .int .i64 x1, .int .i64 x2, .int .i64 x3]] W fun e w' => ∃ a' n' co' ls, ∃ t : Nat, e = .returned (.tuple #[.agg #[.slice a' n' co'], .agg #[.int .i64 (kk.c : Int), .int .i64 (kk.i : Int), .int .i64 (kk.a : Int), .int .i64 (t : Int)], .bool true]) ∧ Came w' a' n' co' ls ∧ Alive w' a' ∧ Near W ao a' ∧ SoldIs m l kk ls t ∧ Below W.heap.size W w')
    (hfm : ∀ W (t : Nat), (⟨kk.c, kk.i, kk.a, t⟩ : Tok).ok → Below w.heap.size w W → Calls Tryd.prog 9 #[.agg #[.int .i64 (kk.c : Int), .int .i64 (kk.i : Int), .int .i64 (kk.a : Int), .int .i64 (t : Int)]] W fun e w' => e = .returned (.tuple #[.string (fmtB (97 * (Tok.num ⟨kk.c, kk.i, kk.a, t⟩))), .int .i64 0]) ∧ Below W.heap.size W w')
    (hkd : ∀ W a c xs m ao no co l ls (t : Nat), Below w.heap.size w W → SoldIs m l kk ls t → Hm W a c xs m → Came W ao no co ls → Calls Tryd.prog 11 #[.slice a 12 c, .agg #[.slice ao no co], .string (fmtB (97 * (Tok.num ⟨kk.c, kk.i, kk.a, t⟩)))] W fun e w' => RKey W xs m kk e w')
    (hkt : ∀ W a c xs m ao no co l ls (t : Nat), Below w.heap.size w W → SoldIs m l kk ls t → Mw m → Good m kk.i kk.a → Hm W a c xs (taken m 0 kk.i kk.a) → Came W ao no co ls → Calls Tryd.prog 11 #[.slice a 12 c, .agg #[.slice ao no co], .string (fmtB (97 * (Tok.num ⟨kk.c, kk.i, kk.a, t⟩)))] W fun e w' => ∃ b d, e = .returned (.tuple #[.slice b 0 d, .int .i64 0, .int .i64 14]) ∧ Below W.heap.size W w')
    (hap : ∀ W a c xs m l ls (t : Nat) b d wl (q : Nat), SoldIs m l kk ls t → Good m kk.i kk.a → Hm W a c xs m → Wg W b 7 d wl → WrIs xs m (taken m 0 kk.i kk.a) wl → q ≤ 7 → Calls Tryd.prog 12 #[.slice a 12 c, .slice b 7 d, .int .i64 (q : Int)] W fun e w' => ∃ a' c' xs', e = .returned (.tuple #[.slice a' 12 c', .int .i64 0]) ∧ (q = 7 → Hm w' a' c' xs' (taken m 0 kk.i kk.a)) ∧ (q < 7 → Hm w' a' c' xs' m) ∧ Below W.heap.size W w')
    : Calls Tryd.prog 4 #[.int .i64 me0, .slice a0 len0 cap0, .agg #[.int .i64 x0, .int .i64 x1, .int .i64 x2, .int .i64 x3], .slice a3 len3 cap3] w fun e w' => e = .returned (.bool true) ∧ Below w.heap.size w w' := by
  have HP : Hid (∀ W, Calls Tryd.prog 6 #[.int .i64 me0, .int .i64 50] W fun e w' => e = .returned (.int .i64 me) ∧ w' = W) := hp
  have HAT : Hid (∀ W, Below w.heap.size w W → Calls Tryd.prog 5 #[.int .i64 me, .slice a0 len0 cap0] W fun e w' => AtPost W me zs (min len0 12) e w') := hat
  have HBT : Hid (∀ W a c xs m, Hm W a c xs m → Calls Tryd.prog 7 #[.slice a 12 c] W fun e w' => e = .returned (.tuple #[m.v, .int .i64 0]) ∧ Below W.heap.size W w') := hbt
  have HSO : Hid (∀ W ao no co l m, Below w.heap.size w W → Came W ao no co l → Alive W ao → May l → l.length ≤ 12 → Mw m → Calls Tryd.prog 8 #[.agg #[.slice ao no co], m.v, .agg #[.int .i64 0, .int .i64 x1, .int .i64 x2, .int .i64 x3]] W fun e w' => ∃ a' n' co' ls, ∃ t : Nat, e = .returned (.tuple #[.agg #[.slice a' n' co'], .agg #[.int .i64 (kk.c : Int), .int .i64 (kk.i : Int), .int .i64 (kk.a : Int), .int .i64 (t : Int)], .bool true]) ∧ Came w' a' n' co' ls ∧ Alive w' a' ∧ Near W ao a' ∧ SoldIs m l kk ls t ∧ Below W.heap.size W w') := hso
  have HFM : Hid (∀ W (t : Nat), (⟨kk.c, kk.i, kk.a, t⟩ : Tok).ok → Below w.heap.size w W → Calls Tryd.prog 9 #[.agg #[.int .i64 (kk.c : Int), .int .i64 (kk.i : Int), .int .i64 (kk.a : Int), .int .i64 (t : Int)]] W fun e w' => e = .returned (.tuple #[.string (fmtB (97 * (Tok.num ⟨kk.c, kk.i, kk.a, t⟩))), .int .i64 0]) ∧ Below W.heap.size W w') := hfm
  have HKD : Hid (∀ W a c xs m ao no co l ls (t : Nat), Below w.heap.size w W → SoldIs m l kk ls t → Hm W a c xs m → Came W ao no co ls → Calls Tryd.prog 11 #[.slice a 12 c, .agg #[.slice ao no co], .string (fmtB (97 * (Tok.num ⟨kk.c, kk.i, kk.a, t⟩)))] W fun e w' => RKey W xs m kk e w') := hkd
  have HKT : Hid (∀ W a c xs m ao no co l ls (t : Nat), Below w.heap.size w W → SoldIs m l kk ls t → Mw m → Good m kk.i kk.a → Hm W a c xs (taken m 0 kk.i kk.a) → Came W ao no co ls → Calls Tryd.prog 11 #[.slice a 12 c, .agg #[.slice ao no co], .string (fmtB (97 * (Tok.num ⟨kk.c, kk.i, kk.a, t⟩)))] W fun e w' => ∃ b d, e = .returned (.tuple #[.slice b 0 d, .int .i64 0, .int .i64 14]) ∧ Below W.heap.size W w') := hkt
  have HAP : Hid (∀ W a c xs m l ls (t : Nat) b d wl (q : Nat), SoldIs m l kk ls t → Good m kk.i kk.a → Hm W a c xs m → Wg W b 7 d wl → WrIs xs m (taken m 0 kk.i kk.a) wl → q ≤ 7 → Calls Tryd.prog 12 #[.slice a 12 c, .slice b 7 d, .int .i64 (q : Int)] W fun e w' => ∃ a' c' xs', e = .returned (.tuple #[.slice a' 12 c', .int .i64 0]) ∧ (q = 7 → Hm w' a' c' xs' (taken m 0 kk.i kk.a)) ∧ (q < 7 → Hm w' a' c' xs' m) ∧ Below W.heap.size W w') := hap
  have HRI : Hid (irow.RowF w a3 len3 cs) := hri
  have HKA : Hid (kk.a ≤ 2097151) := hka
  clear hri hka hp hat hbt hso hfm hkd hkt hap
  have H0x : Hid (Blk (w.alloc (.cells #[.int .i64 x0, .int .i64 x1, .int .i64 x2, .int .i64 x3] 24)) (w.heap.size) #[.int .i64 x0, .int .i64 x1, .int .i64 x2, .int .i64 x3] 24) := Blk.new w _ _
  have H0B : Hid (Below w.heap.size w (w.alloc (.cells #[.int .i64 x0, .int .i64 x1, .int .i64 x2, .int .i64 x3] 24))) := (Below.refl w.heap.size w).alloc (by simp) _
  go_enter Tryd.func4, Tryd.ntmps4
  go_wp2_with fail
  refine (HP.out _).mono ?_
  rintro e w0 ⟨rfl, rfl⟩
  go_wp2_with fail
  refine (HAT.out _ H0B.out).mono ?_
  rintro e w1 ⟨a, c, xs, m, ao, no, co, l, rfl, hm1, hc1, hal1, hlo1, hat1, hb1⟩
  have H1x : Hid (Blk w1 (w.heap.size) #[.int .i64 x0, .int .i64 x1, .int .i64 x2, .int .i64 x3] 24) := H0x.out.next hb1
  have H1B : Hid (Below w.heap.size w w1) := bel_step H0B.out hb1
  have HCh : Hid (Hm w1 a c xs m) := hm1
  have HCc : Hid (Came w1 ao no co l) := hc1
  have HCal : Hid (Alive w1 ao) := hal1
  have HLO : Hid (∀ y, ao = some y → y.block ≠ w.heap.size) := fun y hy e => by have := hlo1 y hy; simp at this; omega
  have HNO : Hid (∀ y, ao = some y → y.block ≠ w1.heap.size) := alive_ne hal1
  have HMY : Hid (May l ∧ l.length ≤ 12) := ⟨hat1.may, by have := hat1.len; omega⟩
  have H2x : Hid (Blk (w1.alloc (.cells #[.slice ao no co] 28)) (w.heap.size) #[.int .i64 x0, .int .i64 x1, .int .i64 x2, .int .i64 x3] 24) := (H1x.out).alloc _
  have H2o : Hid (Blk (w1.alloc (.cells #[.slice ao no co] 28)) (w1.heap.size) #[.slice ao no co] 28) := (Blk.new w1 _ _)
  have L2ox : Hid (w.heap.size < w1.heap.size) := Nat.lt_of_lt_of_le H1x.out.lt (by simp)
  have H2B : Hid (Below w.heap.size w (w1.alloc (.cells #[.slice ao no co] 28))) := (H1B.out).alloc (Nat.le_trans H1B.out.size (by simp)) _
  have L20 : Hid (w.heap.size ≤ w1.heap.size) := H1B.out.size
  have H2Ch : Hid (Hm (w1.alloc (.cells #[.slice ao no co] 28)) a c xs m) := HCh.out.below ((Below.refl w1.heap.size w1).alloc (by simp) _)
  have H2Cc : Hid (Came (w1.alloc (.cells #[.slice ao no co] 28)) ao no co l) := HCc.out.below ((Below.refl w1.heap.size w1).alloc (by simp) _)
  have H2Cal : Hid (Alive (w1.alloc (.cells #[.slice ao no co] 28)) ao) := HCal.out.below ((Below.refl w1.heap.size w1).alloc (by simp) _)
  clear H0x H0B H1x HCh HCc HCal H1B hb1 hm1 hc1 hal1 hlo1 hat1 HAT
  go_wp2_with (first
    | (refine wp_whole rfl 24 _ rfl (w.heap.size) rfl 24 #[.int .i64 x0, .int .i64 x1, .int .i64 x2, .int .i64 x3] _ H2x.out Tryd.underlying24 rfl (by kernel_rfl) ?_)
    | (refine wp_wholeG (by rfl) 24 _ rfl (w.heap.size) rfl 24 #[.int .i64 x0, .int .i64 x1, .int .i64 x2, .int .i64 x3] _ H2x.out Tryd.underlying24 rfl (by kernel_rfl) ?_)
    | (refine wp_whole rfl 28 _ rfl (w1.heap.size) rfl 28 #[.slice ao no co] _ H2o.out Tryd.underlying28 rfl (by kernel_rfl) ?_)
    | (refine wp_wholeG (by rfl) 28 _ rfl (w1.heap.size) rfl 28 #[.slice ao no co] _ H2o.out Tryd.underlying28 rfl (by kernel_rfl) ?_)
    | fail)
  refine (HBT.out _ _ _ _ _ H2Ch.out).mono ?_
  rintro e w2 ⟨rfl, hb2⟩
  have H3x : Hid (Blk w2 (w.heap.size) #[.int .i64 x0, .int .i64 x1, .int .i64 x2, .int .i64 x3] 24) := H2x.out.next hb2
  have H3o : Hid (Blk w2 (w1.heap.size) #[.slice ao no co] 28) := H2o.out.next hb2
  have H3B : Hid (Below w.heap.size w w2) := bel_step H2B.out hb2
  have H3Ch : Hid (Hm w2 a c xs m) := H2Ch.out.below hb2
  have H3Cc : Hid (Came w2 ao no co l) := H2Cc.out.below hb2
  have H3Cal : Hid (Alive w2 ao) := H2Cal.out.below hb2
  obtain ⟨me1, rev1, cr1, h1, b1, bad1, lock1⟩ := m
  unfold Mt.v Mt.cells
  simp only []
  have H4x : Hid (Blk (w2.alloc (.cells #[.int .i64 me1, .int .i64 rev1, .int .i64 cr1, .int .i64 h1, .int .u64 (b1 : Int), .int .i64 bad1, .int .i64 lock1] 36)) (w.heap.size) #[.int .i64 x0, .int .i64 x1, .int .i64 x2, .int .i64 x3] 24) := (H3x.out).alloc _
  have H4o : Hid (Blk (w2.alloc (.cells #[.int .i64 me1, .int .i64 rev1, .int .i64 cr1, .int .i64 h1, .int .u64 (b1 : Int), .int .i64 bad1, .int .i64 lock1] 36)) (w1.heap.size) #[.slice ao no co] 28) := (H3o.out).alloc _
  have H4m : Hid (Blk (w2.alloc (.cells #[.int .i64 me1, .int .i64 rev1, .int .i64 cr1, .int .i64 h1, .int .u64 (b1 : Int), .int .i64 bad1, .int .i64 lock1] 36)) (w2.heap.size) #[.int .i64 me1, .int .i64 rev1, .int .i64 cr1, .int .i64 h1, .int .u64 (b1 : Int), .int .i64 bad1, .int .i64 lock1] 36) := (Blk.new w2 _ _)
  have L4mx : Hid (w.heap.size < w2.heap.size) := Nat.lt_of_lt_of_le H3x.out.lt (by simp)
  have L4mo : Hid (w1.heap.size < w2.heap.size) := Nat.lt_of_lt_of_le H3o.out.lt (by simp)
  have H4B : Hid (Below w.heap.size w (w2.alloc (.cells #[.int .i64 me1, .int .i64 rev1, .int .i64 cr1, .int .i64 h1, .int .u64 (b1 : Int), .int .i64 bad1, .int .i64 lock1] 36))) := (H3B.out).alloc (Nat.le_trans H3B.out.size (by simp)) _
  have L40 : Hid (w.heap.size ≤ w2.heap.size) := H3B.out.size
  have H4Ch : Hid (Hm (w2.alloc (.cells #[.int .i64 me1, .int .i64 rev1, .int .i64 cr1, .int .i64 h1, .int .u64 (b1 : Int), .int .i64 bad1, .int .i64 lock1] 36)) a c xs ⟨me1, rev1, cr1, h1, b1, bad1, lock1⟩) := H3Ch.out.below ((Below.refl w2.heap.size w2).alloc (by simp) _)
  have H4Cc : Hid (Came (w2.alloc (.cells #[.int .i64 me1, .int .i64 rev1, .int .i64 cr1, .int .i64 h1, .int .u64 (b1 : Int), .int .i64 bad1, .int .i64 lock1] 36)) ao no co l) := H3Cc.out.below ((Below.refl w2.heap.size w2).alloc (by simp) _)
  have H4Cal : Hid (Alive (w2.alloc (.cells #[.int .i64 me1, .int .i64 rev1, .int .i64 cr1, .int .i64 h1, .int .u64 (b1 : Int), .int .i64 bad1, .int .i64 lock1] 36)) ao) := H3Cal.out.below ((Below.refl w2.heap.size w2).alloc (by simp) _)
  clear H2x H2o H2Ch H2Cc H2Cal H2B H3x H3o H3Ch H3Cc H3Cal H3B hb2
  go_wp2_with (first
    | (refine wp_let1 rfl 3 _ _ rfl (w.heap.size) 0 rfl .i64 0 rfl (by kernel_rfl) #[.int .i64 x0, .int .i64 x1, .int .i64 x2, .int .i64 x3] 24 H4x.out (by simp) ?_)
    | (refine wp_whole rfl 24 _ rfl (w.heap.size) rfl 24 #[.int .i64 x0, .int .i64 x1, .int .i64 x2, .int .i64 x3] _ H4x.out Tryd.underlying24 rfl (by kernel_rfl) ?_)
    | (refine wp_wholeG (by rfl) 24 _ rfl (w.heap.size) rfl 24 #[.int .i64 x0, .int .i64 x1, .int .i64 x2, .int .i64 x3] _ H4x.out Tryd.underlying24 rfl (by kernel_rfl) ?_)
    | (refine wp_whole rfl 28 _ rfl (w1.heap.size) rfl 28 #[.slice ao no co] _ H4o.out Tryd.underlying28 rfl (by kernel_rfl) ?_)
    | (refine wp_wholeG (by rfl) 28 _ rfl (w1.heap.size) rfl 28 #[.slice ao no co] _ H4o.out Tryd.underlying28 rfl (by kernel_rfl) ?_)
    | (refine wp_whole rfl 36 _ rfl (w2.heap.size) rfl 36 #[.int .i64 me1, .int .i64 rev1, .int .i64 cr1, .int .i64 h1, .int .u64 (b1 : Int), .int .i64 bad1, .int .i64 lock1] _ H4m.out Tryd.underlying36 rfl (by kernel_rfl) ?_)
    | (refine wp_wholeG (by rfl) 36 _ rfl (w2.heap.size) rfl 36 #[.int .i64 me1, .int .i64 rev1, .int .i64 cr1, .int .i64 h1, .int .u64 (b1 : Int), .int .i64 bad1, .int .i64 lock1] _ H4m.out Tryd.underlying36 rfl (by kernel_rfl) ?_)
    | fail)
  intro W3 hU
  have hL2ox := L2ox.out
  have hL20 := L20.out
  have hL4mx := L4mx.out
  have hL4mo := L4mo.out
  have hL40 := L40.out
  have H5x : Hid (Blk W3 (w.heap.size) #[.int .i64 0, .int .i64 x1, .int .i64 x2, .int .i64 x3] 24) := hU.blk
  have H5o : Hid (Blk W3 (w1.heap.size) #[.slice ao no co] 28) := hU.keep H4o.out (by omega)
  have H5m : Hid (Blk W3 (w2.heap.size) #[.int .i64 me1, .int .i64 rev1, .int .i64 cr1, .int .i64 h1, .int .u64 (b1 : Int), .int .i64 bad1, .int .i64 lock1] 36) := hU.keep H4m.out (by omega)
  have H5B : Hid (Below w.heap.size w W3) := hU.bel _ _ (by omega) H4B.out
  have H5Ch : Hid (Hm W3 a c xs ⟨me1, rev1, cr1, h1, b1, bad1, lock1⟩) := H4Ch.out.upd hU H4x.out (no_four _ _ _ _)
  have H5Cc : Hid (Came W3 ao no co l) := upd_came hU H4Cc.out HLO.out
  have H5Cal : Hid (Alive W3 ao) := fun y hy => by rw [hU.size]; exact H4Cal.out y hy
  clear hU H4x H4o H4m H4Ch H4Cc H4Cal H4B hL2ox hL20 hL4mx hL4mo hL40 
  have q_o_0 : W3.cell? ⟨w1.heap.size, 0, none⟩ = some (.slice ao no co) := H5o.out.cell 0
  go_wp2_with (first
    | (refine wp_whole rfl 24 _ rfl (w.heap.size) rfl 24 #[.int .i64 0, .int .i64 x1, .int .i64 x2, .int .i64 x3] _ H5x.out Tryd.underlying24 rfl (by kernel_rfl) ?_)
    | (refine wp_wholeG (by rfl) 24 _ rfl (w.heap.size) rfl 24 #[.int .i64 0, .int .i64 x1, .int .i64 x2, .int .i64 x3] _ H5x.out Tryd.underlying24 rfl (by kernel_rfl) ?_)
    | (refine wp_whole rfl 28 _ rfl (w1.heap.size) rfl 28 #[.slice ao no co] _ H5o.out Tryd.underlying28 rfl (by kernel_rfl) ?_)
    | (refine wp_wholeG (by rfl) 28 _ rfl (w1.heap.size) rfl 28 #[.slice ao no co] _ H5o.out Tryd.underlying28 rfl (by kernel_rfl) ?_)
    | (refine wp_whole rfl 36 _ rfl (w2.heap.size) rfl 36 #[.int .i64 me1, .int .i64 rev1, .int .i64 cr1, .int .i64 h1, .int .u64 (b1 : Int), .int .i64 bad1, .int .i64 lock1] _ H5m.out Tryd.underlying36 rfl (by kernel_rfl) ?_)
    | (refine wp_wholeG (by rfl) 36 _ rfl (w2.heap.size) rfl 36 #[.int .i64 me1, .int .i64 rev1, .int .i64 cr1, .int .i64 h1, .int .u64 (b1 : Int), .int .i64 bad1, .int .i64 lock1] _ H5m.out Tryd.underlying36 rfl (by kernel_rfl) ?_)
    | fail)
  clear q_o_0
  have HMW : Hid (Mw ⟨me1, rev1, cr1, h1, b1, bad1, lock1⟩) := H5Ch.out.mw
  refine (HSO.out _ _ _ _ _ ⟨me1, rev1, cr1, h1, b1, bad1, lock1⟩ H5B.out H5Cc.out H5Cal.out HMY.out.1 HMY.out.2 HMW.out).mono ?_
  rintro e w4 ⟨a', n', co', ls, t, rfl, hc4, hal4, hnr4, hsi4, hb4⟩
  have H6x : Hid (Blk w4 (w.heap.size) #[.int .i64 0, .int .i64 x1, .int .i64 x2, .int .i64 x3] 24) := H5x.out.next hb4
  have H6o : Hid (Blk w4 (w1.heap.size) #[.slice ao no co] 28) := H5o.out.next hb4
  have H6m : Hid (Blk w4 (w2.heap.size) #[.int .i64 me1, .int .i64 rev1, .int .i64 cr1, .int .i64 h1, .int .u64 (b1 : Int), .int .i64 bad1, .int .i64 lock1] 36) := H5m.out.next hb4
  have H6B : Hid (Below w.heap.size w w4) := bel_step H5B.out hb4
  have H6Ch : Hid (Hm w4 a c xs ⟨me1, rev1, cr1, h1, b1, bad1, lock1⟩) := H5Ch.out.below hb4
  have H6Cc : Hid (Came w4 ao no co l) := H5Cc.out.below hb4
  have H6Cal : Hid (Alive w4 ao) := H5Cal.out.below hb4
  have HNP : Hid (∀ y, a' = some y → y.block ≠ w1.heap.size) := near_ne hnr4 H5o.out.lt HNO.out
  have HNT : Hid (∀ y, a' = some y → y.block ≠ w4.heap.size) := alive_ne hal4
  have HSI : Hid (SoldIs ⟨me1, rev1, cr1, h1, b1, bad1, lock1⟩ l kk ls t) := hsi4
  have HCc : Hid (Came w4 a' n' co' ls) := hc4
  have H7x : Hid (Blk (w4.alloc (.cells #[.int .i64 0, .int .i64 0, .int .i64 0, .int .i64 0] 40)) (w.heap.size) #[.int .i64 0, .int .i64 x1, .int .i64 x2, .int .i64 x3] 24) := (H6x.out).alloc _
  have H7o : Hid (Blk (w4.alloc (.cells #[.int .i64 0, .int .i64 0, .int .i64 0, .int .i64 0] 40)) (w1.heap.size) #[.slice ao no co] 28) := (H6o.out).alloc _
  have H7m : Hid (Blk (w4.alloc (.cells #[.int .i64 0, .int .i64 0, .int .i64 0, .int .i64 0] 40)) (w2.heap.size) #[.int .i64 me1, .int .i64 rev1, .int .i64 cr1, .int .i64 h1, .int .u64 (b1 : Int), .int .i64 bad1, .int .i64 lock1] 36) := (H6m.out).alloc _
  have H7t : Hid (Blk (w4.alloc (.cells #[.int .i64 0, .int .i64 0, .int .i64 0, .int .i64 0] 40)) (w4.heap.size) #[.int .i64 0, .int .i64 0, .int .i64 0, .int .i64 0] 40) := (Blk.new w4 _ _)
  have L7tx : Hid (w.heap.size < w4.heap.size) := Nat.lt_of_lt_of_le H6x.out.lt (by simp)
  have L7to : Hid (w1.heap.size < w4.heap.size) := Nat.lt_of_lt_of_le H6o.out.lt (by simp)
  have L7tm : Hid (w2.heap.size < w4.heap.size) := Nat.lt_of_lt_of_le H6m.out.lt (by simp)
  have H7B : Hid (Below w.heap.size w (w4.alloc (.cells #[.int .i64 0, .int .i64 0, .int .i64 0, .int .i64 0] 40))) := (H6B.out).alloc (Nat.le_trans H6B.out.size (by simp)) _
  have L70 : Hid (w.heap.size ≤ w4.heap.size) := H6B.out.size
  have H7Ch : Hid (Hm (w4.alloc (.cells #[.int .i64 0, .int .i64 0, .int .i64 0, .int .i64 0] 40)) a c xs ⟨me1, rev1, cr1, h1, b1, bad1, lock1⟩) := H6Ch.out.below ((Below.refl w4.heap.size w4).alloc (by simp) _)
  have H7Cc : Hid (Came (w4.alloc (.cells #[.int .i64 0, .int .i64 0, .int .i64 0, .int .i64 0] 40)) a' n' co' ls) := HCc.out.below ((Below.refl w4.heap.size w4).alloc (by simp) _)
  clear H5x H5o H5m H5Ch H5Cc H5Cal H5B H6x H6o H6m H6Ch HCc H6B hb4 hc4 hal4 hnr4 hsi4 HSO HNO HLO
  go_wp2_with (first
    | (refine wp_letAll rfl 28 _ _ rfl (w1.heap.size) rfl #[.slice a' n' co'] rfl (by kernel_rfl) (by simp [Value.oneCell']) #[.slice ao no co] 28 H7o.out rfl ?_)
    | (refine wp_whole rfl 24 _ rfl (w.heap.size) rfl 24 #[.int .i64 0, .int .i64 x1, .int .i64 x2, .int .i64 x3] _ H7x.out Tryd.underlying24 rfl (by kernel_rfl) ?_)
    | (refine wp_wholeG (by rfl) 24 _ rfl (w.heap.size) rfl 24 #[.int .i64 0, .int .i64 x1, .int .i64 x2, .int .i64 x3] _ H7x.out Tryd.underlying24 rfl (by kernel_rfl) ?_)
    | (refine wp_whole rfl 28 _ rfl (w1.heap.size) rfl 28 #[.slice ao no co] _ H7o.out Tryd.underlying28 rfl (by kernel_rfl) ?_)
    | (refine wp_wholeG (by rfl) 28 _ rfl (w1.heap.size) rfl 28 #[.slice ao no co] _ H7o.out Tryd.underlying28 rfl (by kernel_rfl) ?_)
    | (refine wp_whole rfl 36 _ rfl (w2.heap.size) rfl 36 #[.int .i64 me1, .int .i64 rev1, .int .i64 cr1, .int .i64 h1, .int .u64 (b1 : Int), .int .i64 bad1, .int .i64 lock1] _ H7m.out Tryd.underlying36 rfl (by kernel_rfl) ?_)
    | (refine wp_wholeG (by rfl) 36 _ rfl (w2.heap.size) rfl 36 #[.int .i64 me1, .int .i64 rev1, .int .i64 cr1, .int .i64 h1, .int .u64 (b1 : Int), .int .i64 bad1, .int .i64 lock1] _ H7m.out Tryd.underlying36 rfl (by kernel_rfl) ?_)
    | (refine wp_whole rfl 40 _ rfl (w4.heap.size) rfl 40 #[.int .i64 0, .int .i64 0, .int .i64 0, .int .i64 0] _ H7t.out Tryd.underlying40 rfl (by kernel_rfl) ?_)
    | (refine wp_wholeG (by rfl) 40 _ rfl (w4.heap.size) rfl 40 #[.int .i64 0, .int .i64 0, .int .i64 0, .int .i64 0] _ H7t.out Tryd.underlying40 rfl (by kernel_rfl) ?_)
    | fail)
  intro W5 hU
  have hL2ox := L2ox.out
  have hL20 := L20.out
  have hL4mx := L4mx.out
  have hL4mo := L4mo.out
  have hL40 := L40.out
  have hL7tx := L7tx.out
  have hL7to := L7to.out
  have hL7tm := L7tm.out
  have hL70 := L70.out
  have H8x : Hid (Blk W5 (w.heap.size) #[.int .i64 0, .int .i64 x1, .int .i64 x2, .int .i64 x3] 24) := hU.keep H7x.out (by omega)
  have H8o : Hid (Blk W5 (w1.heap.size) #[.slice a' n' co'] 28) := hU.blk
  have H8m : Hid (Blk W5 (w2.heap.size) #[.int .i64 me1, .int .i64 rev1, .int .i64 cr1, .int .i64 h1, .int .u64 (b1 : Int), .int .i64 bad1, .int .i64 lock1] 36) := hU.keep H7m.out (by omega)
  have H8t : Hid (Blk W5 (w4.heap.size) #[.int .i64 0, .int .i64 0, .int .i64 0, .int .i64 0] 40) := hU.keep H7t.out (by omega)
  have H8B : Hid (Below w.heap.size w W5) := hU.bel _ _ (by omega) H7B.out
  have H8Ch : Hid (Hm W5 a c xs ⟨me1, rev1, cr1, h1, b1, bad1, lock1⟩) := H7Ch.out.upd hU H7o.out (no_slice _ _ _)
  have H8Cc : Hid (Came W5 a' n' co' ls) := upd_came hU H7Cc.out HNP.out
  clear hU H7x H7o H7m H7t H7Ch H7Cc H7B hL2ox hL20 hL4mx hL4mo hL40 hL7tx hL7to hL7tm hL70 
  go_wp2_with (first
    | (refine wp_letAll rfl 40 _ _ rfl (w4.heap.size) rfl #[.int .i64 (kk.c : Int), .int .i64 (kk.i : Int), .int .i64 (kk.a : Int), .int .i64 (t : Int)] rfl (by kernel_rfl) (by simp [Value.oneCell']) #[.int .i64 0, .int .i64 0, .int .i64 0, .int .i64 0] 40 H8t.out rfl ?_)
    | (refine wp_whole rfl 24 _ rfl (w.heap.size) rfl 24 #[.int .i64 0, .int .i64 x1, .int .i64 x2, .int .i64 x3] _ H8x.out Tryd.underlying24 rfl (by kernel_rfl) ?_)
    | (refine wp_wholeG (by rfl) 24 _ rfl (w.heap.size) rfl 24 #[.int .i64 0, .int .i64 x1, .int .i64 x2, .int .i64 x3] _ H8x.out Tryd.underlying24 rfl (by kernel_rfl) ?_)
    | (refine wp_whole rfl 28 _ rfl (w1.heap.size) rfl 28 #[.slice a' n' co'] _ H8o.out Tryd.underlying28 rfl (by kernel_rfl) ?_)
    | (refine wp_wholeG (by rfl) 28 _ rfl (w1.heap.size) rfl 28 #[.slice a' n' co'] _ H8o.out Tryd.underlying28 rfl (by kernel_rfl) ?_)
    | (refine wp_whole rfl 36 _ rfl (w2.heap.size) rfl 36 #[.int .i64 me1, .int .i64 rev1, .int .i64 cr1, .int .i64 h1, .int .u64 (b1 : Int), .int .i64 bad1, .int .i64 lock1] _ H8m.out Tryd.underlying36 rfl (by kernel_rfl) ?_)
    | (refine wp_wholeG (by rfl) 36 _ rfl (w2.heap.size) rfl 36 #[.int .i64 me1, .int .i64 rev1, .int .i64 cr1, .int .i64 h1, .int .u64 (b1 : Int), .int .i64 bad1, .int .i64 lock1] _ H8m.out Tryd.underlying36 rfl (by kernel_rfl) ?_)
    | (refine wp_whole rfl 40 _ rfl (w4.heap.size) rfl 40 #[.int .i64 0, .int .i64 0, .int .i64 0, .int .i64 0] _ H8t.out Tryd.underlying40 rfl (by kernel_rfl) ?_)
    | (refine wp_wholeG (by rfl) 40 _ rfl (w4.heap.size) rfl 40 #[.int .i64 0, .int .i64 0, .int .i64 0, .int .i64 0] _ H8t.out Tryd.underlying40 rfl (by kernel_rfl) ?_)
    | fail)
  intro W6 hU
  have hL2ox := L2ox.out
  have hL20 := L20.out
  have hL4mx := L4mx.out
  have hL4mo := L4mo.out
  have hL40 := L40.out
  have hL7tx := L7tx.out
  have hL7to := L7to.out
  have hL7tm := L7tm.out
  have hL70 := L70.out
  have H9x : Hid (Blk W6 (w.heap.size) #[.int .i64 0, .int .i64 x1, .int .i64 x2, .int .i64 x3] 24) := hU.keep H8x.out (by omega)
  have H9o : Hid (Blk W6 (w1.heap.size) #[.slice a' n' co'] 28) := hU.keep H8o.out (by omega)
  have H9m : Hid (Blk W6 (w2.heap.size) #[.int .i64 me1, .int .i64 rev1, .int .i64 cr1, .int .i64 h1, .int .u64 (b1 : Int), .int .i64 bad1, .int .i64 lock1] 36) := hU.keep H8m.out (by omega)
  have H9t : Hid (Blk W6 (w4.heap.size) #[.int .i64 (kk.c : Int), .int .i64 (kk.i : Int), .int .i64 (kk.a : Int), .int .i64 (t : Int)] 40) := hU.blk
  have H9B : Hid (Below w.heap.size w W6) := hU.bel _ _ (by omega) H8B.out
  have H9Ch : Hid (Hm W6 a c xs ⟨me1, rev1, cr1, h1, b1, bad1, lock1⟩) := H8Ch.out.upd hU H8t.out (no_four _ _ _ _)
  have H9Cc : Hid (Came W6 a' n' co' ls) := upd_came hU H8Cc.out HNT.out
  clear hU H8x H8o H8m H8t H8Ch H8Cc H8B hL2ox hL20 hL4mx hL4mo hL40 hL7tx hL7to hL7tm hL70 
  go_wp2_with (first
    | (refine wp_whole rfl 24 _ rfl (w.heap.size) rfl 24 #[.int .i64 0, .int .i64 x1, .int .i64 x2, .int .i64 x3] _ H9x.out Tryd.underlying24 rfl (by kernel_rfl) ?_)
    | (refine wp_wholeG (by rfl) 24 _ rfl (w.heap.size) rfl 24 #[.int .i64 0, .int .i64 x1, .int .i64 x2, .int .i64 x3] _ H9x.out Tryd.underlying24 rfl (by kernel_rfl) ?_)
    | (refine wp_whole rfl 28 _ rfl (w1.heap.size) rfl 28 #[.slice a' n' co'] _ H9o.out Tryd.underlying28 rfl (by kernel_rfl) ?_)
    | (refine wp_wholeG (by rfl) 28 _ rfl (w1.heap.size) rfl 28 #[.slice a' n' co'] _ H9o.out Tryd.underlying28 rfl (by kernel_rfl) ?_)
    | (refine wp_whole rfl 36 _ rfl (w2.heap.size) rfl 36 #[.int .i64 me1, .int .i64 rev1, .int .i64 cr1, .int .i64 h1, .int .u64 (b1 : Int), .int .i64 bad1, .int .i64 lock1] _ H9m.out Tryd.underlying36 rfl (by kernel_rfl) ?_)
    | (refine wp_wholeG (by rfl) 36 _ rfl (w2.heap.size) rfl 36 #[.int .i64 me1, .int .i64 rev1, .int .i64 cr1, .int .i64 h1, .int .u64 (b1 : Int), .int .i64 bad1, .int .i64 lock1] _ H9m.out Tryd.underlying36 rfl (by kernel_rfl) ?_)
    | (refine wp_whole rfl 40 _ rfl (w4.heap.size) rfl 40 #[.int .i64 (kk.c : Int), .int .i64 (kk.i : Int), .int .i64 (kk.a : Int), .int .i64 (t : Int)] _ H9t.out Tryd.underlying40 rfl (by kernel_rfl) ?_)
    | (refine wp_wholeG (by rfl) 40 _ rfl (w4.heap.size) rfl 40 #[.int .i64 (kk.c : Int), .int .i64 (kk.i : Int), .int .i64 (kk.a : Int), .int .i64 (t : Int)] _ H9t.out Tryd.underlying40 rfl (by kernel_rfl) ?_)
    | fail)
  refine (HFM.out _ _ HSI.out.ok H9B.out).mono ?_
  rintro e w7 ⟨rfl, hb7⟩
  have H10x : Hid (Blk w7 (w.heap.size) #[.int .i64 0, .int .i64 x1, .int .i64 x2, .int .i64 x3] 24) := H9x.out.next hb7
  have H10o : Hid (Blk w7 (w1.heap.size) #[.slice a' n' co'] 28) := H9o.out.next hb7
  have H10m : Hid (Blk w7 (w2.heap.size) #[.int .i64 me1, .int .i64 rev1, .int .i64 cr1, .int .i64 h1, .int .u64 (b1 : Int), .int .i64 bad1, .int .i64 lock1] 36) := H9m.out.next hb7
  have H10t : Hid (Blk w7 (w4.heap.size) #[.int .i64 (kk.c : Int), .int .i64 (kk.i : Int), .int .i64 (kk.a : Int), .int .i64 (t : Int)] 40) := H9t.out.next hb7
  have H10B : Hid (Below w.heap.size w w7) := bel_step H9B.out hb7
  have H10Ch : Hid (Hm w7 a c xs ⟨me1, rev1, cr1, h1, b1, bad1, lock1⟩) := H9Ch.out.below hb7
  have H10Cc : Hid (Came w7 a' n' co' ls) := H9Cc.out.below hb7
  clear H9x H9o H9m H9t H9Ch H9Cc H9B hb7 HFM
  clear H10x
  have HKR : Hid (∀ W a c xs, Below w.heap.size w W → Hm W a c xs ⟨me1, rev1, cr1, h1, b1, bad1, lock1⟩ → Came W a' n' co' ls → Calls Tryd.prog 11 #[.slice a 12 c, .agg #[.slice a' n' co'], .string (fmtB (97 * (Tok.num ⟨kk.c, kk.i, kk.a, t⟩)))] W fun e w' => RKey W xs ⟨me1, rev1, cr1, h1, b1, bad1, lock1⟩ kk e w') := fun W a c xs hB hm hc => HKD.out W a c xs ⟨me1, rev1, cr1, h1, b1, bad1, lock1⟩ a' n' co' l ls t hB HSI.out hm hc
  have HKU : Hid (∀ W a c xs, Good ⟨me1, rev1, cr1, h1, b1, bad1, lock1⟩ kk.i kk.a → Below w.heap.size w W → Hm W a c xs (taken ⟨me1, rev1, cr1, h1, b1, bad1, lock1⟩ 0 kk.i kk.a) → Came W a' n' co' ls → Calls Tryd.prog 11 #[.slice a 12 c, .agg #[.slice a' n' co'], .string (fmtB (97 * (Tok.num ⟨kk.c, kk.i, kk.a, t⟩)))] W fun e w' => ∃ b d, e = .returned (.tuple #[.slice b 0 d, .int .i64 0, .int .i64 14]) ∧ Below W.heap.size W w') := fun W a c xs hg hB hm hc => HKT.out W a c xs ⟨me1, rev1, cr1, h1, b1, bad1, lock1⟩ a' n' co' l ls t hB HSI.out HMW.out hg hm hc
  have HAQ : Hid (∀ W a c xs b d wl (q : Nat), Good ⟨me1, rev1, cr1, h1, b1, bad1, lock1⟩ kk.i kk.a → Hm W a c xs ⟨me1, rev1, cr1, h1, b1, bad1, lock1⟩ → Wg W b 7 d wl → WrIs xs ⟨me1, rev1, cr1, h1, b1, bad1, lock1⟩ (taken ⟨me1, rev1, cr1, h1, b1, bad1, lock1⟩ 0 kk.i kk.a) wl → q ≤ 7 → Calls Tryd.prog 12 #[.slice a 12 c, .slice b 7 d, .int .i64 (q : Int)] W fun e w' => ∃ a' c' xs', e = .returned (.tuple #[.slice a' 12 c', .int .i64 0]) ∧ (q = 7 → Hm w' a' c' xs' (taken ⟨me1, rev1, cr1, h1, b1, bad1, lock1⟩ 0 kk.i kk.a)) ∧ (q < 7 → Hm w' a' c' xs' ⟨me1, rev1, cr1, h1, b1, bad1, lock1⟩) ∧ Below W.heap.size W w') := fun W a c xs b d wl q hg hm hw hi hq => HAP.out W a c xs ⟨me1, rev1, cr1, h1, b1, bad1, lock1⟩ l ls t b d wl q HSI.out hg hm hw hi hq
  clear HKD HKT HAP
  generalize (fmtB (97 * (Tok.num ⟨kk.c, kk.i, kk.a, t⟩))) = S at *
  have HCR : Hid (0 ≤ cr1 ∧ cr1 ≤ 99999999) := HMW.out.may.cr
  have HST : Hid (Ry w w7 (w1.heap.size) (w2.heap.size) (w4.heap.size) a' n' co' ls #[.int .i64 me1, .int .i64 rev1, .int .i64 cr1, .int .i64 h1, .int .u64 (b1 : Int), .int .i64 bad1, .int .i64 lock1] #[.int .i64 (kk.c : Int), .int .i64 (kk.i : Int), .int .i64 (kk.a : Int), .int .i64 (t : Int)] ∧ Hm w7 a c xs ⟨me1, rev1, cr1, h1, b1, bad1, lock1⟩) := ⟨⟨H10B.out, H10o.out, H10m.out, H10t.out, H10Cc.out⟩, H10Ch.out⟩
  clear H10B H10o H10m H10t H10Cc H10Ch
  generalize w1.heap.size = go at *
  generalize w2.heap.size = gm at *
  generalize w4.heap.size = gt at *
  go_wp2_with fail
  go_loopw [9, 17] (fun v i wr => ∃ (k : Nat) (a : Option Addr) (c : Nat) (xs : List Int), k ≤ 8 ∧ i = .int .i64 (k : Int) ∧ v = .slice a 12 c ∧ Hm wr a c xs ⟨me1, rev1, cr1, h1, b1, bad1, lock1⟩ ∧ Ry w wr go gm gt a' n' co' ls #[.int .i64 me1, .int .i64 rev1, .int .i64 cr1, .int .i64 h1, .int .u64 (b1 : Int), .int .i64 bad1, .int .i64 lock1] #[.int .i64 (kk.c : Int), .int .i64 (kk.i : Int), .int .i64 (kk.a : Int), .int .i64 (t : Int)]) (fun _ i _ => 8 - (intOf i).toNat)
  case atStart => exact ⟨0, a, c, xs, by decide, rfl, rfl, HST.out.2, HST.out.1⟩
  case round =>
    clear HST
    obtain ⟨k, a, c, xs, hk, rfl, rfl, hm, hry⟩ := hrel
    have HM : Hid (Hm wr a c xs ⟨me1, rev1, cr1, h1, b1, bad1, lock1⟩) := hm
    have HR : Hid (Ry w wr go gm gt a' n' co' ls #[.int .i64 me1, .int .i64 rev1, .int .i64 cr1, .int .i64 h1, .int .u64 (b1 : Int), .int .i64 bad1, .int .i64 lock1] #[.int .i64 (kk.c : Int), .int .i64 (kk.i : Int), .int .i64 (kk.a : Int), .int .i64 (t : Int)]) := hry
    clear hm hry
    by_cases hl : k < len3
    · by_cases h8 : k < 8
      · obtain ⟨bl, off, rfl, hcl, hwf⟩ := HRI.out k hl
        have hcell : wr.cell? ⟨bl, off + k, none⟩ = some (.int .i64 (cs.getD k 0)) := (HR.out.bel.cell (p := ⟨bl, off + k, none⟩) (World.block_lt_of_cell? w _ hcl)).trans hcl
        have HPC : Hid (∀ W, Calls Tryd.prog 6 #[.int .i64 (cs.getD k 0), .int .i64 7] W fun e w' => e = .returned (.int .i64 (((pick (cs.getD k 0) 7).toNat : Nat) : Int)) ∧ w' = W) := fun W => picked_nat (cs.getD k 0) 7 W hwf (by decide) (by decide)
        have HQ : Hid ((pick (cs.getD k 0) 7).toNat < 7) := pick_toNat _ 7 (by decide)
        generalize (pick (cs.getD k 0) 7).toNat = q at *
        generalize cs.getD k 0 = cv at *
        have hd1 : decide ((k : Int) < (len3 : Int)) = true := by simp; omega
        have hd2 : decide ((k : Int) < 8) = true := by simp; omega
        have hd3 : (k : Int) < (len3 : Int) := by omega
        clear hcl hwf
        go_wp2_with (first | (refine wp_whole rfl 28 _ rfl (go) rfl 28 #[.slice a' n' co'] _ HR.out.o Tryd.underlying28 rfl (by kernel_rfl) ?_) | fail)
        refine (HKR.out _ _ _ _ HR.out.bel HM.out HR.out.came).mono ?_
        rintro e w2 ⟨b2, n2, d2, wl, x2, f2, rfl, hg2, hor, hb2⟩
        have HM2 : Hid (Hm w2 a c xs ⟨me1, rev1, cr1, h1, b1, bad1, lock1⟩) := HM.out.below hb2
        have HR2 : Hid (Ry w w2 go gm gt a' n' co' ls #[.int .i64 me1, .int .i64 rev1, .int .i64 cr1, .int .i64 h1, .int .u64 (b1 : Int), .int .i64 bad1, .int .i64 lock1] #[.int .i64 (kk.c : Int), .int .i64 (kk.i : Int), .int .i64 (kk.a : Int), .int .i64 (t : Int)]) := HR.out.next hb2
        have hcell2 : w2.cell? ⟨bl, off + k, none⟩ = some (.int .i64 cv) := (hb2.cell (p := ⟨bl, off + k, none⟩) (World.block_lt_of_cell? wr _ hcell)).trans hcell
        have HG2 : Hid (Wg w2 b2 n2 d2 wl) := hg2
        clear hb2 hg2 HM HR hcell hd1 hd2
        rcases hor with ⟨hf, rfl, rfl⟩ | ⟨rfl, rfl, rfl, hwi, hgo⟩
        · have hd : (f2 != 0) = true := by simpa using hf
          have HB : Hid (Below w.heap.size w w2) := HR2.out.bel
          clear hf hcell2 HR2 HM2 HG2
          go_wp2_with fail
          go_ret
          exact ⟨rfl, HB.out⟩
        · have HAR : Hid (Calls Tryd.prog 12 #[.slice a 12 c, .slice b2 7 d2, .int .i64 (q : Int)] w2 fun e w' => ∃ a' c' xs', e = .returned (.tuple #[.slice a' 12 c', .int .i64 0]) ∧ (q = 7 → Hm w' a' c' xs' (taken ⟨me1, rev1, cr1, h1, b1, bad1, lock1⟩ 0 kk.i kk.a)) ∧ (q < 7 → Hm w' a' c' xs' ⟨me1, rev1, cr1, h1, b1, bad1, lock1⟩) ∧ Below w2.heap.size w2 w') := HAQ.out w2 a c xs b2 d2 wl q hgo HM2.out HG2.out hwi (by have := HQ.out; omega)
          clear hwi hgo HM2 HG2
          go_wp2_with fail
          refine (HPC.out _).mono ?_
          rintro e w3 ⟨rfl, rfl⟩
          go_wp2_with fail
          refine HAR.out.mono ?_
          rintro e w4 ⟨a4, c4, xs4, rfl, _, hm4, hb4⟩
          have HM4 : Hid (Hm w4 a4 c4 xs4 ⟨me1, rev1, cr1, h1, b1, bad1, lock1⟩) := hm4 HQ.out
          have HR4 : Hid (Ry w w4 go gm gt a' n' co' ls #[.int .i64 me1, .int .i64 rev1, .int .i64 cr1, .int .i64 h1, .int .u64 (b1 : Int), .int .i64 bad1, .int .i64 lock1] #[.int .i64 (kk.c : Int), .int .i64 (kk.i : Int), .int .i64 (kk.a : Int), .int .i64 (t : Int)]) := HR2.out.next hb4
          clear hm4 hb4 HAR HPC hcell2 HR2
          go_wp2_with fail
          go_roundw
          case rel => exact ⟨k + 1, a4, c4, xs4, by omega, by go_num, rfl, HM4.out, HR4.out⟩
          case measure => simp [intOf]; omega
      · have hd1 : decide ((k : Int) < (len3 : Int)) = true := by simp; omega
        have hd2 : decide ((k : Int) < 8) = false := by simp; omega
        go_wp2_with (first | (refine wp_whole rfl 28 _ rfl (go) rfl 28 #[.slice a' n' co'] _ HR.out.o Tryd.underlying28 rfl (by kernel_rfl) ?_) | fail)
        refine (HKR.out _ _ _ _ HR.out.bel HM.out HR.out.came).mono ?_
        rintro e w2 ⟨b2, n2, d2, wl, x2, f2, rfl, hg2, hor, hb2⟩
        have HM2 : Hid (Hm w2 a c xs ⟨me1, rev1, cr1, h1, b1, bad1, lock1⟩) := HM.out.below hb2
        have HR2 : Hid (Ry w w2 go gm gt a' n' co' ls #[.int .i64 me1, .int .i64 rev1, .int .i64 cr1, .int .i64 h1, .int .u64 (b1 : Int), .int .i64 bad1, .int .i64 lock1] #[.int .i64 (kk.c : Int), .int .i64 (kk.i : Int), .int .i64 (kk.a : Int), .int .i64 (t : Int)]) := HR.out.next hb2
        have HG2 : Hid (Wg w2 b2 n2 d2 wl) := hg2
        clear hb2 hg2 HM HR HKR
        rcases hor with ⟨hf, rfl, rfl⟩ | ⟨rfl, rfl, rfl, hwi, hgo⟩
        · have hd : (f2 != 0) = true := by simpa using hf
          have HB : Hid (Below w.heap.size w w2) := HR2.out.bel
          clear hf HR2 HM2 HG2
          go_wp2_with fail
          go_ret
          exact ⟨rfl, HB.out⟩
        · have HAR : Hid (Calls Tryd.prog 12 #[.slice a 12 c, .slice b2 7 d2, .int .i64 7] w2 fun e w' => ∃ a' c' xs', e = .returned (.tuple #[.slice a' 12 c', .int .i64 0]) ∧ ((7 : Nat) = 7 → Hm w' a' c' xs' (taken ⟨me1, rev1, cr1, h1, b1, bad1, lock1⟩ 0 kk.i kk.a)) ∧ ((7 : Nat) < 7 → Hm w' a' c' xs' ⟨me1, rev1, cr1, h1, b1, bad1, lock1⟩) ∧ Below w2.heap.size w2 w') := HAQ.out w2 a c xs b2 d2 wl 7 hgo HM2.out HG2.out hwi (Nat.le_refl _)
          have HGO : Hid (Good ⟨me1, rev1, cr1, h1, b1, bad1, lock1⟩ kk.i kk.a) := hgo
          clear hwi hgo HM2 HG2 HAQ
          go_wp2_with fail
          refine HAR.out.mono ?_
          rintro e w4 ⟨a4, c4, xs4, rfl, hm4, _, hb4⟩
          have HM4 : Hid (Hm w4 a4 c4 xs4 (taken ⟨me1, rev1, cr1, h1, b1, bad1, lock1⟩ 0 kk.i kk.a)) := hm4 (by simp)
          have HR4 : Hid (Ry w w4 go gm gt a' n' co' ls #[.int .i64 me1, .int .i64 rev1, .int .i64 cr1, .int .i64 h1, .int .u64 (b1 : Int), .int .i64 bad1, .int .i64 lock1] #[.int .i64 (kk.c : Int), .int .i64 (kk.i : Int), .int .i64 (kk.a : Int), .int .i64 (t : Int)]) := HR2.out.next hb4
          clear hm4 hb4 HAR HR2
          have HTK : Hid (∃ (hT : Int) (bT : Nat), taken ⟨me1, rev1, cr1, h1, b1, bad1, lock1⟩ 0 kk.i kk.a = ⟨me1, rev1, cr1 + (kk.a : Int), hT, bT, 0, lock1⟩) := ⟨_, _, by unfold taken; simp; exact ⟨rfl, rfl⟩⟩
          obtain ⟨hT, bT, hTT⟩ := HTK.out
          have HKV : Hid (∀ W a c xs, Below w.heap.size w W → Hm W a c xs ⟨me1, rev1, cr1 + (kk.a : Int), hT, bT, 0, lock1⟩ → Came W a' n' co' ls → Calls Tryd.prog 11 #[.slice a 12 c, .agg #[.slice a' n' co'], .string S] W fun e w' => ∃ b d, e = .returned (.tuple #[.slice b 0 d, .int .i64 0, .int .i64 14]) ∧ Below W.heap.size W w') := fun W a c xs h1 h2 h3 => HKU.out W a c xs HGO.out h1 (by rw [hTT]; exact h2) h3
          have HM5 : Hid (Hm w4 a4 c4 xs4 ⟨me1, rev1, cr1 + (kk.a : Int), hT, bT, 0, lock1⟩) := by have := HM4.out; rw [hTT] at this; exact this
          clear HTK hTT HM4 HKU HGO
          go_wp2_with fail
          refine (HBT.out _ _ _ _ _ HM5.out).mono ?_
          rintro e w5 ⟨rfl, hb5⟩
          unfold Mt.v Mt.cells
          simp only []
          have HR5 : Hid (Ry w (w5.alloc (.cells #[.int .i64 me1, .int .i64 rev1, .int .i64 (cr1 + (kk.a : Int)), .int .i64 hT, .int .u64 (bT : Int), .int .i64 0, .int .i64 lock1] 36)) go gm gt a' n' co' ls #[.int .i64 me1, .int .i64 rev1, .int .i64 cr1, .int .i64 h1, .int .u64 (b1 : Int), .int .i64 bad1, .int .i64 lock1] #[.int .i64 (kk.c : Int), .int .i64 (kk.i : Int), .int .i64 (kk.a : Int), .int .i64 (t : Int)]) := (HR4.out.next hb5).next ((Below.refl _ _).alloc (Nat.le_refl _) _)
          have HM6 : Hid (Hm (w5.alloc (.cells #[.int .i64 me1, .int .i64 rev1, .int .i64 (cr1 + (kk.a : Int)), .int .i64 hT, .int .u64 (bT : Int), .int .i64 0, .int .i64 lock1] 36)) a4 c4 xs4 ⟨me1, rev1, cr1 + (kk.a : Int), hT, bT, 0, lock1⟩) := (HM5.out.below hb5).below ((Below.refl _ _).alloc (Nat.le_refl _) _)
          have HN5 : Hid (Blk (w5.alloc (.cells #[.int .i64 me1, .int .i64 rev1, .int .i64 (cr1 + (kk.a : Int)), .int .i64 hT, .int .u64 (bT : Int), .int .i64 0, .int .i64 lock1] 36)) w5.heap.size #[.int .i64 me1, .int .i64 rev1, .int .i64 (cr1 + (kk.a : Int)), .int .i64 hT, .int .u64 (bT : Int), .int .i64 0, .int .i64 lock1] 36) := Blk.new _ _ _
          clear hb5 HR4 HM5
          go_wp2_with (first | (refine wp_whole rfl 28 _ rfl (go) rfl 28 #[.slice a' n' co'] _ HR5.out.o Tryd.underlying28 rfl (by kernel_rfl) ?_) | fail)
          refine (HKV.out _ _ _ _ HR5.out.bel HM6.out HR5.out.came).mono ?_
          rintro e w6 ⟨b6, d6, rfl, hb6⟩
          have HB6 : Hid (Below w.heap.size w w6) := (HR5.out.next hb6).bel
          have t2 : w6.cell? ⟨gt, 2, none⟩ = some (.int .i64 (kk.a : Int)) := (HR5.out.next hb6).t.cell 2
          have m2 : w6.cell? ⟨gm, 2, none⟩ = some (.int .i64 cr1) := (HR5.out.next hb6).m.cell 2
          have n2 : w6.cell? ⟨w5.heap.size, 2, none⟩ = some (.int .i64 (cr1 + (kk.a : Int))) := (HN5.out.next hb6).cell 2
          obtain ⟨hc0, hc1⟩ := HCR.out
          have hka := HKA.out
          have e1 : (((kk.a : Nat) : Int) == ((kk.a : Nat) : Int)) = true := by simp
          have e2 : (cr1 + ((kk.a : Nat) : Int) == cr1 + ((kk.a : Nat) : Int)) = true := by simp
          clear hb6 HR5 HM6 HN5 HKV HCR HKA
          go_wp2_with fail
          go_ret
          exact ⟨rfl, HB6.out⟩
    · have hd1 : decide ((k : Int) < (len3 : Int)) = false := by simp; omega
      go_wp2_with (first | (refine wp_whole rfl 28 _ rfl (go) rfl 28 #[.slice a' n' co'] _ HR.out.o Tryd.underlying28 rfl (by kernel_rfl) ?_) | fail)
      refine (HKR.out _ _ _ _ HR.out.bel HM.out HR.out.came).mono ?_
      rintro e w2 ⟨b2, n2, d2, wl, x2, f2, rfl, hg2, hor, hb2⟩
      have HM2 : Hid (Hm w2 a c xs ⟨me1, rev1, cr1, h1, b1, bad1, lock1⟩) := HM.out.below hb2
      have HR2 : Hid (Ry w w2 go gm gt a' n' co' ls #[.int .i64 me1, .int .i64 rev1, .int .i64 cr1, .int .i64 h1, .int .u64 (b1 : Int), .int .i64 bad1, .int .i64 lock1] #[.int .i64 (kk.c : Int), .int .i64 (kk.i : Int), .int .i64 (kk.a : Int), .int .i64 (t : Int)]) := HR.out.next hb2
      have HG2 : Hid (Wg w2 b2 n2 d2 wl) := hg2
      clear hb2 hg2 HM HR HKR
      rcases hor with ⟨hf, rfl, rfl⟩ | ⟨rfl, rfl, rfl, hwi, hgo⟩
      · have hd : (f2 != 0) = true := by simpa using hf
        have HB : Hid (Below w.heap.size w w2) := HR2.out.bel
        clear hf HR2 HM2 HG2
        go_wp2_with fail
        go_ret
        exact ⟨rfl, HB.out⟩
      · have HAR : Hid (Calls Tryd.prog 12 #[.slice a 12 c, .slice b2 7 d2, .int .i64 7] w2 fun e w' => ∃ a' c' xs', e = .returned (.tuple #[.slice a' 12 c', .int .i64 0]) ∧ ((7 : Nat) = 7 → Hm w' a' c' xs' (taken ⟨me1, rev1, cr1, h1, b1, bad1, lock1⟩ 0 kk.i kk.a)) ∧ ((7 : Nat) < 7 → Hm w' a' c' xs' ⟨me1, rev1, cr1, h1, b1, bad1, lock1⟩) ∧ Below w2.heap.size w2 w') := HAQ.out w2 a c xs b2 d2 wl 7 hgo HM2.out HG2.out hwi (Nat.le_refl _)
        have HGO : Hid (Good ⟨me1, rev1, cr1, h1, b1, bad1, lock1⟩ kk.i kk.a) := hgo
        clear hwi hgo HM2 HG2 HAQ
        go_wp2_with fail
        refine HAR.out.mono ?_
        rintro e w4 ⟨a4, c4, xs4, rfl, hm4, _, hb4⟩
        have HM4 : Hid (Hm w4 a4 c4 xs4 (taken ⟨me1, rev1, cr1, h1, b1, bad1, lock1⟩ 0 kk.i kk.a)) := hm4 (by simp)
        have HR4 : Hid (Ry w w4 go gm gt a' n' co' ls #[.int .i64 me1, .int .i64 rev1, .int .i64 cr1, .int .i64 h1, .int .u64 (b1 : Int), .int .i64 bad1, .int .i64 lock1] #[.int .i64 (kk.c : Int), .int .i64 (kk.i : Int), .int .i64 (kk.a : Int), .int .i64 (t : Int)]) := HR2.out.next hb4
        clear hm4 hb4 HAR HR2
        have HTK : Hid (∃ (hT : Int) (bT : Nat), taken ⟨me1, rev1, cr1, h1, b1, bad1, lock1⟩ 0 kk.i kk.a = ⟨me1, rev1, cr1 + (kk.a : Int), hT, bT, 0, lock1⟩) := ⟨_, _, by unfold taken; simp; exact ⟨rfl, rfl⟩⟩
        obtain ⟨hT, bT, hTT⟩ := HTK.out
        have HKV : Hid (∀ W a c xs, Below w.heap.size w W → Hm W a c xs ⟨me1, rev1, cr1 + (kk.a : Int), hT, bT, 0, lock1⟩ → Came W a' n' co' ls → Calls Tryd.prog 11 #[.slice a 12 c, .agg #[.slice a' n' co'], .string S] W fun e w' => ∃ b d, e = .returned (.tuple #[.slice b 0 d, .int .i64 0, .int .i64 14]) ∧ Below W.heap.size W w') := fun W a c xs h1 h2 h3 => HKU.out W a c xs HGO.out h1 (by rw [hTT]; exact h2) h3
        have HM5 : Hid (Hm w4 a4 c4 xs4 ⟨me1, rev1, cr1 + (kk.a : Int), hT, bT, 0, lock1⟩) := by have := HM4.out; rw [hTT] at this; exact this
        clear HTK hTT HM4 HKU HGO
        go_wp2_with fail
        refine (HBT.out _ _ _ _ _ HM5.out).mono ?_
        rintro e w5 ⟨rfl, hb5⟩
        unfold Mt.v Mt.cells
        simp only []
        have HR5 : Hid (Ry w (w5.alloc (.cells #[.int .i64 me1, .int .i64 rev1, .int .i64 (cr1 + (kk.a : Int)), .int .i64 hT, .int .u64 (bT : Int), .int .i64 0, .int .i64 lock1] 36)) go gm gt a' n' co' ls #[.int .i64 me1, .int .i64 rev1, .int .i64 cr1, .int .i64 h1, .int .u64 (b1 : Int), .int .i64 bad1, .int .i64 lock1] #[.int .i64 (kk.c : Int), .int .i64 (kk.i : Int), .int .i64 (kk.a : Int), .int .i64 (t : Int)]) := (HR4.out.next hb5).next ((Below.refl _ _).alloc (Nat.le_refl _) _)
        have HM6 : Hid (Hm (w5.alloc (.cells #[.int .i64 me1, .int .i64 rev1, .int .i64 (cr1 + (kk.a : Int)), .int .i64 hT, .int .u64 (bT : Int), .int .i64 0, .int .i64 lock1] 36)) a4 c4 xs4 ⟨me1, rev1, cr1 + (kk.a : Int), hT, bT, 0, lock1⟩) := (HM5.out.below hb5).below ((Below.refl _ _).alloc (Nat.le_refl _) _)
        have HN5 : Hid (Blk (w5.alloc (.cells #[.int .i64 me1, .int .i64 rev1, .int .i64 (cr1 + (kk.a : Int)), .int .i64 hT, .int .u64 (bT : Int), .int .i64 0, .int .i64 lock1] 36)) w5.heap.size #[.int .i64 me1, .int .i64 rev1, .int .i64 (cr1 + (kk.a : Int)), .int .i64 hT, .int .u64 (bT : Int), .int .i64 0, .int .i64 lock1] 36) := Blk.new _ _ _
        clear hb5 HR4 HM5
        go_wp2_with (first | (refine wp_whole rfl 28 _ rfl (go) rfl 28 #[.slice a' n' co'] _ HR5.out.o Tryd.underlying28 rfl (by kernel_rfl) ?_) | fail)
        refine (HKV.out _ _ _ _ HR5.out.bel HM6.out HR5.out.came).mono ?_
        rintro e w6 ⟨b6, d6, rfl, hb6⟩
        have HB6 : Hid (Below w.heap.size w w6) := (HR5.out.next hb6).bel
        have t2 : w6.cell? ⟨gt, 2, none⟩ = some (.int .i64 (kk.a : Int)) := (HR5.out.next hb6).t.cell 2
        have m2 : w6.cell? ⟨gm, 2, none⟩ = some (.int .i64 cr1) := (HR5.out.next hb6).m.cell 2
        have n2 : w6.cell? ⟨w5.heap.size, 2, none⟩ = some (.int .i64 (cr1 + (kk.a : Int))) := (HN5.out.next hb6).cell 2
        obtain ⟨hc0, hc1⟩ := HCR.out
        have hka := HKA.out
        have e1 : (((kk.a : Nat) : Int) == ((kk.a : Nat) : Int)) = true := by simp
        have e2 : (cr1 + ((kk.a : Nat) : Int) == cr1 + ((kk.a : Nat) : Int)) = true := by simp
        clear hb6 HR5 HM6 HN5 HKV HCR HKA
        go_wp2_with fail
        go_ret
        exact ⟨rfl, HB6.out⟩
theorem retry_walk (me0 : Int) (a0 : Option Addr) (len0 cap0 : Nat) (zs : List Pr) (x0 x1 x2 x3 : Int) (a3 : Option Addr) (len3 cap3 : Nat) (cs : List Int) (w : World) (ht : TTab w) (hme0 : (Lit.int .i64 me0).wf = true) (hrw : RowA w a0 len0 zs) (hx : wf4 x0 x1 x2 x3) (hri : irow.RowF w a3 len3 cs) :
    Calls Tryd.prog 4 #[.int .i64 me0, .slice a0 len0 cap0, .agg #[.int .i64 x0, .int .i64 x1, .int .i64 x2, .int .i64 x3], .slice a3 len3 cap3] w fun e w' => e = .returned (.bool true) ∧ Below w.heap.size w w' := by
  have hp : (pick me0 50).toNat < 50 := pick_toNat me0 50 (by decide)
  have hmb : 0 ≤ (((pick me0 50).toNat : Nat) : Int) ∧ (((pick me0 50).toNat : Nat) : Int) ≤ 49 := by omega
  have hk := made_ok 0 x1 x2 x3
  have hc0 : (madeT 0 x1 x2 x3).c = 0 := by show (pick 0 4).toNat = 0; decide
  have w0 : (Lit.int .i64 0).wf = true := by decide
  refine retry_abs me0 _ a0 len0 cap0 zs x0 x1 x2 x3 a3 len3 cap3 cs (madeT 0 x1 x2 x3) w hk.a2 hri (fun W => picked_nat me0 50 W hme0 (by decide) (by decide)) (fun W hB => at_any _ hmb a0 len0 cap0 zs W (ht.below hB) (hrw.below hB)) (fun W a c xs m hm => hboot a c xs m W hm) (fun W ao no co l m hB hc hal hl hn hm => hsold m ao no co l 0 x1 x2 x3 W (ht.below hB) hc hal hl (by omega) hm.may ⟨w0, hx.2.1, hx.2.2.1, hx.2.2.2⟩) (fun W t hok hB => format_ok ⟨_, _, _, t⟩ W (ht.below hB) hok) (fun W a c xs m ao no co l ls t hB hs hm hc => rkey a c xs m ao no co l ls _ t W (ht.below hB) hc0 (hk.a0 hc0) hs hm hc) (fun W a c xs m ao no co l ls t hB hs hmw hg hm hc => rtwice a c xs m ao no co l ls _ t W (ht.below hB) hc0 hs hmw hg hm hc) (fun W a c xs m l ls t b d wl q hs hg hm hw hi hq => ?_)
  refine (happly a c xs m _ b 7 d q wl W hm hw hi (credit_mw hc0 hs hm.mw hg) hq).mono ?_
  rintro e w' ⟨a', c', xs', rfl, h1, h2, hb⟩
  exact ⟨a', c', xs', rfl, h1, h2, hb⟩

end Go.Proofs.YtgipkpkjoicehaaDoor.pkt

/- A meter that came in: its numbers. -/
namespace Go.Proofs.YtgipkpkjoicehaaDoor.met
open Go.ChangeShapes Go.WideShapes Go.ChangeAt Go.RowKit Go.Deep
set_option maxRecDepth 100000

theorem u64_nat {z : Int} (h : (Lit.int .u64 z).wf = true) : ∃ y : Nat, z = (y : Int) ∧ y < 18446744073709551616 := by
  have h2 : 0 ≤ z ∧ z < 18446744073709551616 := by
    simp only [Lit.wf, Bool.and_eq_true, decide_eq_true_eq] at h
    rw [show IntKind.u64.min = 0 from by decide, show IntKind.u64.max = 18446744073709551615 from by decide] at h
    omega
  exact ⟨z.toNat, by omega, by omega⟩
theorem open_met {H : Type} {enc : TypeId × Value → H} {W : World} {r : Reach} {b0 b1 : Nat} {spare : Nat → Bool} {held : Bool} {v : Value} {d : DataW H} {ps : List MemPlace}
    (hval : Value.okWide Tryd.prog W r b0 36 v) (h : DataW.Trod enc Tryd.prog W b1 spare held 36 v d ps) :
    ∃ m : Mt, v = m.v ∧ m.b < 18446744073709551616 := by
  have hu := Tryd.underlying36
  have hc : Tryd.prog.cellsOf 36 = 7 := by kernel_rfl
  have ci : Tryd.prog.cellsOf 3 = 1 := by kernel_rfl
  have cu : Tryd.prog.cellsOf 32 = 1 := by kernel_rfl
  have cw : Tryd.prog.cellsOf 34 = 2 := by kernel_rfl
  obtain ⟨cs, rfl, hsz⟩ := okWide_struct hu hval
  rw [hc] at hsz
  obtain ⟨c0, c1, c2, c3, c4, c5, c6, rfl⟩ : ∃ c0 c1 c2 c3 c4 c5 c6, cs = #[c0, c1, c2, c3, c4, c5, c6] := by
    cases cs with
    | mk l => match l, hsz with
      | [c0, c1, c2, c3, c4, c5, c6], _ => exact ⟨c0, c1, c2, c3, c4, c5, c6, rfl⟩
  obtain ⟨fuel, hf⟩ := h
  obtain ⟨xs, n, _, _, _, hlen, hg⟩ := DataW.trod_struct hu hf
  match xs, hlen with
  | [y0, y1, y2, y3, y4, y5], _ =>
    have g0 := hg 0 _ rfl
    have g1 := hg 1 _ rfl
    have g2 := hg 2 _ rfl
    have g3 := hg 3 _ rfl
    have g4 := hg 4 _ rfl
    have g5 := hg 5 _ rfl
    simp [Value.cells, ci, cw] at g0 g1 g2 g3 g4 g5
    obtain ⟨x0, e0, -, _⟩ := DataW.trod_int Tryd.underlying3 g0
    obtain ⟨x1, e1, -, _⟩ := DataW.trod_int Tryd.underlying3 g1
    obtain ⟨x2, e2, -, _⟩ := DataW.trod_int Tryd.underlying3 g2
    obtain ⟨x5, e5, -, _⟩ := DataW.trod_int Tryd.underlying3 g4
    obtain ⟨x6, e6, -, _⟩ := DataW.trod_int Tryd.underlying3 g5
    obtain ⟨z0, z1, k, _, _, q0, q1⟩ := trod_struct2 Tryd.underlying34 g3
    simp [ci, cu] at q0 q1
    obtain ⟨x3, e3, -, _⟩ := DataW.trod_int Tryd.underlying3 q0
    obtain ⟨x4, e4, -, w4⟩ := DataW.trod_int Tryd.underlying32 q1
    simp at e0 e1 e2 e3 e4 e5 e6
    subst e0 e1 e2 e3 e4 e5 e6
    obtain ⟨y, rfl, hy⟩ := u64_nat w4
    exact ⟨⟨x0, x1, x2, x3, y, x5, x6⟩, rfl, hy⟩
/-- A word is a word. -/
theorem _root_.Go.Proofs.YtgipkpkjoicehaaDoor.cell.word_of {z : Int} (h : (Lit.int .u32 z).wf = true) : 0 ≤ z ∧ z < 4294967296 := by
  simp only [Lit.wf, Bool.and_eq_true, decide_eq_true_eq] at h
  rw [show IntKind.u32.min = 0 from by decide, show IntKind.u32.max = 4294967295 from by decide] at h
  omega
/-- Four numbers that came in. -/
def wf4i (x y z u : Int) : Prop := (Lit.int .i64 x).wf = true ∧ (Lit.int .i64 y).wf = true ∧ (Lit.int .i64 z).wf = true ∧ (Lit.int .i64 u).wf = true
theorem open_four {H : Type} {enc : TypeId × Value → H} {W : World} {r : Reach} {b0 b1 : Nat} {spare : Nat → Bool} {held : Bool} {t : TypeId} {f0 f1 f2 f3 : Field} {v : Value} {d : DataW H} {ps : List MemPlace}
    (hs : Tryd.prog.underlying t = some (.struct #[f0, f1, f2, f3])) (hone : oneCellFields Tryd.prog #[f0, f1, f2, f3] = true) (hC : Tryd.prog.cellsOf t = 4) (e0 : f0.type = 3) (e1 : f1.type = 3) (e2 : f2.type = 3) (e3 : f3.type = 3)
    (hval : Value.okWide Tryd.prog W r b0 t v) (h : DataW.Trod enc Tryd.prog W b1 spare held t v d ps) : ∃ x y z u, v = .agg #[.int .i64 x, .int .i64 y, .int .i64 z, .int .i64 u] ∧ wf4i x y z u := by
  obtain ⟨v0, v1, v2, v3, y0, y1, y2, y3, n, rfl, -, -, h0, h1, h2, h3⟩ := Joins.open_agg4 hs hone hC hval h
  rw [e0] at h0
  rw [e1] at h1
  rw [e2] at h2
  rw [e3] at h3
  obtain ⟨x0, q0, -, w0⟩ := DataW.trod_int Tryd.underlying3 h0
  obtain ⟨x1, q1, -, w1⟩ := DataW.trod_int Tryd.underlying3 h1
  obtain ⟨x2, q2, -, w2⟩ := DataW.trod_int Tryd.underlying3 h2
  obtain ⟨x3, q3, -, w3⟩ := DataW.trod_int Tryd.underlying3 h3
  simp at q0 q1 q2 q3
  subst q0 q1 q2 q3
  exact ⟨x0, x1, x2, x3, rfl, w0, w1, w2, w3⟩

end Go.Proofs.YtgipkpkjoicehaaDoor.met

/- Oracles and lists of fours that came in: what the frame hands over. -/
namespace Go.Proofs.YtgipkpkjoicehaaDoor.ora
open Go.ChangeShapes Go.WideShapes Go.ChangeAt Go.RowKit Go.Deep
set_option maxRecDepth 100000
set_option linter.unusedVariables false

/-- A slice of structs of four numbers, opened. -/
theorem fours {H : Type} {enc : TypeId × Value → H} {w : World} {base : Nat} {held : Bool} {t e : TypeId} {f0 f1 f2 f3 : Field} {fuel : Nat} {cs : List Value} {x : DataW H × List MemPlace}
    (ht : Tryd.prog.underlying t = some (.slice e)) (he : Tryd.prog.underlying e = some (.struct #[f0, f1, f2, f3])) (ce : Tryd.prog.cellsOf e = 4)
    (o0 : f0.offset = 0) (o1 : f1.offset = 1) (o2 : f2.offset = 2) (o3 : f3.offset = 3) (t0 : f0.type = 3) (t1 : f1.type = 3) (t2 : f2.type = 3) (t3 : f3.type = 3)
    (h : DataW.trod enc Tryd.prog w base (fun _ => true) held fuel t cs = some x) :
    (cs = [.slice none 0 0] ∧ x = (.nil, [])) ∨
    ∃ (a : Addr) (len cap : Nat) (E S : List (DataW H)) (pl : List MemPlace) (f : Nat → Pr), cs = [.slice (some a) len cap] ∧ len ≤ cap ∧ x = (.slice E S, pl) ∧ E.length + S.length = cap ∧
      ∀ i, i < cap → w.cell? (a.add (i * 4)) = some (.int .i64 (f i).m) ∧ w.cell? (a.add (i * 4 + 1)) = some (.int .i64 (f i).r) ∧ w.cell? (a.add (i * 4 + 2)) = some (.int .i64 (f i).b) ∧ w.cell? (a.add (i * 4 + 3)) = some (.int .i64 (f i).t) ∧ wfP (f i) := by
  have c1 : Tryd.prog.cellsOf 3 = 1 := by kernel_rfl
  rcases open_slice ht h with h0 | ⟨a, len, cap, m, n, D, Pl, rfl, hb, hl, hm, hmm, rfl, hx⟩
  · exact Or.inl h0
  right
  simp only [if_true] at hmm
  subst hmm
  have each : ∀ i, ∃ p : Pr, i < m → w.cell? (a.add (i * 4)) = some (.int .i64 p.m) ∧ w.cell? (a.add (i * 4 + 1)) = some (.int .i64 p.r) ∧ w.cell? (a.add (i * 4 + 2)) = some (.int .i64 p.b) ∧ w.cell? (a.add (i * 4 + 3)) = some (.int .i64 p.t) ∧ wfP p := by
    intro i
    by_cases hi : i < m
    · obtain ⟨cs', h1, h2⟩ := hx i hi
      rw [ce] at h1
      obtain ⟨_, hlen, hcell⟩ := World.cells?_some h1
      obtain ⟨y0, y1, y2, y3, k, _, _, g0, g1, g2, g3⟩ := Joins.trod_struct4 he h2
      match cs', hlen with
      | [v0, v1, v2, v3], _ =>
        rw [o0, t0, c1] at g0
        rw [o1, t1, c1] at g1
        rw [o2, t2, c1] at g2
        rw [o3, t3, c1] at g3
        obtain ⟨z0, e0, _, w0⟩ := DataW.trod_int Tryd.underlying3 g0
        obtain ⟨z1, e1, _, w1⟩ := DataW.trod_int Tryd.underlying3 g1
        obtain ⟨z2, e2, _, w2⟩ := DataW.trod_int Tryd.underlying3 g2
        obtain ⟨z3, e3, _, w3⟩ := DataW.trod_int Tryd.underlying3 g3
        simp at e0 e1 e2 e3
        have k0 := hcell 0 (by omega)
        have k1 := hcell 1 (by omega)
        have k2 := hcell 2 (by omega)
        have k3 := hcell 3 (by omega)
        rw [add_add] at k0 k1 k2 k3
        simp at k0 k1 k2 k3
        refine ⟨⟨z0, z1, z2, z3⟩, fun _ => ⟨?_, ?_, ?_, ?_, w0, w1, w2, w3⟩⟩
        · rw [k0, e0]
        · rw [k1, e1]
        · rw [k2, e2]
        · rw [k3, e3]
    · exact ⟨pr0, fun hh => absurd hh hi⟩
  exact ⟨a, len, m, _, _, _, fun i => Classical.choose (each i), rfl, hl, rfl, by simp; omega, fun i hi => Classical.choose_spec (each i) hi⟩

/-- The first of them, as a list. -/
theorem fours_row {w : World} {a : Addr} {len cap : Nat} (hl : len ≤ cap) (f : Nat → Pr)
    (h : ∀ i, i < cap → w.cell? (a.add (i * 4)) = some (.int .i64 (f i).m) ∧ w.cell? (a.add (i * 4 + 1)) = some (.int .i64 (f i).r) ∧ w.cell? (a.add (i * 4 + 2)) = some (.int .i64 (f i).b) ∧ w.cell? (a.add (i * 4 + 3)) = some (.int .i64 (f i).t) ∧ wfP (f i)) :
    RowP w (some a) len ((List.range len).map f) ∧ RowA w (some a) len ((List.range len).map f) := by
  have key : ∀ i, i < len → ∃ b off, a = ⟨b, off, none⟩ ∧ PrAt w b (off + i * 4) (((List.range len).map f).getD i pr0) ∧ wfP (((List.range len).map f).getD i pr0) := by
    intro i hi
    have h0 := (h 0 (by omega)).1
    have h1 := h i (by omega)
    obtain ⟨b, off, spot⟩ := a
    have hs : spot = none := by simpa [Addr.add] using World.cell?_spot h0
    subst hs
    rw [Addr.add_lit, Addr.add_lit, Addr.add_lit, Addr.add_lit, ← Nat.add_assoc, ← Nat.add_assoc, ← Nat.add_assoc] at h1
    have e : ((List.range len).map f).getD i pr0 = f i := by simp [List.getD, hi]
    rw [e]
    exact ⟨b, off, rfl, ⟨h1.1, h1.2.1, h1.2.2.1, h1.2.2.2.1⟩, h1.2.2.2.2⟩
  constructor
  · refine ⟨by simp, ?_⟩
    by_cases hz : len = 0
    · exact .inl hz
    · obtain ⟨b, off, e, _⟩ := key 0 (by omega)
      refine .inr ⟨b, off, by rw [e], fun i hi => ?_⟩
      obtain ⟨b', off', e', h', _⟩ := key i hi
      rw [e] at e'
      obtain ⟨rfl, rfl, _⟩ := Addr.mk.inj e'
      exact h'
  · intro i hi
    obtain ⟨b, off, e, h1, h2⟩ := key i hi
    exact ⟨b, off, by rw [e], h1, h2⟩

theorem open_ora {H : Type} {enc : TypeId × Value → H} {W : World} {r : Reach} {b0 b1 : Nat} {held : Bool} {v : Value} {d : DataW H} {ps : List MemPlace}
    (hval : Value.okWide Tryd.prog W r b0 28 v) (h : DataW.Trod enc Tryd.prog W b1 (fun _ => true) held 28 v d ps) (hs : ∀ n ∈ d.weights Tryd.prog 28, n ≤ reachBytes) :
    ∃ (a : Option Addr) (len cap : Nat) (l : List Pr), v = .agg #[.slice a len cap] ∧ Came W a len cap l := by
  have hu := Tryd.underlying28
  have hc : Tryd.prog.cellsOf 28 = 1 := by kernel_rfl
  have hc2 : Tryd.prog.cellsOf 26 = 1 := by kernel_rfl
  obtain ⟨cs, rfl, hsz⟩ := okWide_struct hu hval
  rw [hc] at hsz
  obtain ⟨v0, rfl⟩ : ∃ v0, cs = #[v0] := by
    cases cs with
    | mk l => match l, hsz with
      | [v0], _ => exact ⟨v0, rfl⟩
  obtain ⟨fuel, hf⟩ := h
  obtain ⟨y0, n, hx, _, g0⟩ := trod_struct1 hu hf
  simp only [Prod.mk.injEq] at hx
  obtain ⟨rfl, rfl⟩ := hx
  simp only [Value.cells, List.drop_zero] at g0
  rw [hc2] at g0
  simp only [List.take_succ_cons, List.take_zero] at g0
  rcases fours Tryd.underlying26 Tryd.underlying98 (by kernel_rfl) rfl rfl rfl rfl rfl rfl rfl rfl g0 with ⟨hcs, _⟩ | ⟨a, len, cap, E, S, pl, f, hcs, hl, hy, hES, hall⟩
  · simp at hcs
    subst hcs
    exact ⟨none, 0, 0, [], rfl, RowP.nil _ _, fun _ => rfl, Nat.le_refl _, by decide⟩
  · simp at hcs
    subst hcs
    subst hy
    have h1 := hs ((E.length + S.length) * Tryd.prog.bytesOf 98) (by simp [DataW.weights, hu, DataW.weightsEach, Tryd.underlying26])
    rw [show Tryd.prog.bytesOf 98 = 32 from by kernel_rfl, hES] at h1
    simp only [reachBytes] at h1
    exact ⟨some a, len, cap, _, rfl, (fours_row hl f hall).1, fun h => (by cases h), hl, by omega⟩

end Go.Proofs.YtgipkpkjoicehaaDoor.ora
