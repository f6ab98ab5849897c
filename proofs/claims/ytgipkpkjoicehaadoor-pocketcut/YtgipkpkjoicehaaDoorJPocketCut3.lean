import Derived.Test.YtgipkpkjoicehaaDoorJPocketCut2
import Derived.Test.YtgipkpkjoicehaaDoorJPocketCut1
import Derived.Test.YtgipkpkjoicehaaDoorCkPick
import Derived.Test.YtgipkpkjoicehaaDoorCallFirst
import Derived.Test.YtgipkpkjoicehaaDoorOpAt
import Derived.Test.YtgipkpkjoicehaaDoorRows
import Derived.Test.YtgipkpkjoicehaaDoorMtD
import Derived.WalkKit
import Derived.ProofKit
import Derived.OpenShut
import Derived.Below
import Derived.ChangeSame
import Derived.Lib.SmallJoins
import Derived.Test.YtgipkpkjoicehaaDoorOrD
import Derived.SizedLaws
import Derived.Deep.Slices

/- Whenever the power goes, the meter is as it was or as it will be. -/
namespace Go.Proofs.YtgipkpkjoicehaaDoor.pkt
open Go.RowKit Go.Proofs.YtgipkpkjoicehaaDoor.met Go.Proofs.YtgipkpkjoicehaaDoor.slot Go.Proofs.YtgipkpkjoicehaaDoor.cell Go.Proofs.YtgipkpkjoicehaaDoor.ora Go.Proofs.YtgipkpkjoicehaaDoor.token Go.Proofs.YtgipkpkjoicehaaDoor.check
set_option maxRecDepth 100000
set_option linter.unusedVariables false
set_option linter.unusedSimpArgs false

set_option maxHeartbeats 8000000 in
theorem cut_true (me0 me k0 : Int) (q : Nat) (a0 : Option Addr) (len0 cap0 : Nat) (zs : List Pr) (x0 x1 x2 x3 : Int) (kk : Tok) (w : World) (hq : q ≤ 7)
    (hp : ∀ W, Calls Tryd.prog 6 #[.int .i64 me0, .int .i64 50] W fun e w' => e = .returned (.int .i64 me) ∧ w' = W)
    (hpk : ∀ W, Calls Tryd.prog 6 #[.int .i64 k0, .int .i64 8] W fun e w' => e = .returned (.int .i64 (q : Int)) ∧ w' = W)
    (hat : ∀ W, Below w.heap.size w W → Calls Tryd.prog 5 #[.int .i64 me, .slice a0 len0 cap0] W fun e w' => AtPost W me zs (min len0 12) e w')
    (hbt : ∀ W a c xs m, Hm W a c xs m → Calls Tryd.prog 7 #[.slice a 12 c] W fun e w' => e = .returned (.tuple #[m.v, .int .i64 0]) ∧ Below W.heap.size W w')
    (hso : ∀ W ao no co l m, Below w.heap.size w W → Came W ao no co l → Alive W ao → May l → l.length ≤ 12 → Mw m → Calls Tryd.prog 8 #[.agg #[.slice ao no co], m.v, .agg #[.int .i64 x0, .int .i64 x1, .int .i64 x2, .int .i64 x3]] W fun e w' => ∃ a' n' co' ls, ∃ t : Nat, e = .returned (.tuple #[.agg #[.slice a' n' co'], .agg #[.int .i64 (kk.c : Int), .int .i64 (kk.i : Int), .int .i64 (kk.a : Int), .int .i64 (t : Int)], .bool true]) ∧ Came w' a' n' co' ls ∧ Alive w' a' ∧ Near W ao a' ∧ SoldIs m l kk ls t ∧ Below W.heap.size W w')
    (hfm : ∀ W (t : Nat), (⟨kk.c, kk.i, kk.a, t⟩ : Tok).ok → Below w.heap.size w W → Calls Tryd.prog 9 #[.agg #[.int .i64 (kk.c : Int), .int .i64 (kk.i : Int), .int .i64 (kk.a : Int), .int .i64 (t : Int)]] W fun e w' => e = .returned (.tuple #[.string (fmtB (97 * (Tok.num ⟨kk.c, kk.i, kk.a, t⟩))), .int .i64 0]) ∧ Below W.heap.size W w')
    (hke : ∀ W (m : Mt) ao no co ls (t : Nat), Below w.heap.size w W → Mw m → Came W ao no co ls → Calls Tryd.prog 10 #[m.v, .agg #[.slice ao no co], .agg #[.int .i64 (kk.c : Int), .int .i64 (kk.i : Int), .int .i64 (kk.a : Int), .int .i64 (t : Int)]] W fun e w' => KeyPost W m ls kk.c kk.i kk.a t e w')
    (hkd : ∀ W a c xs m ao no co ls (t : Nat), Below w.heap.size w W → (⟨kk.c, kk.i, kk.a, t⟩ : Tok).ok → Hm W a c xs m → Came W ao no co ls → May ls → Calls Tryd.prog 11 #[.slice a 12 c, .agg #[.slice ao no co], .string (fmtB (97 * (Tok.num ⟨kk.c, kk.i, kk.a, t⟩)))] W fun e w' => HKeyed W xs m ls kk.c kk.i kk.a t e w')
    (hap : ∀ W a c xs m m' b d wl (q : Nat), Hm W a c xs m → Wg W b 7 d wl → WrIs xs m m' wl → Mw m' → q ≤ 7 → Calls Tryd.prog 12 #[.slice a 12 c, .slice b 7 d, .int .i64 (q : Int)] W fun e w' => ∃ a' c' xs', e = .returned (.tuple #[.slice a' 12 c', .int .i64 0]) ∧ (q = 7 → Hm w' a' c' xs' m') ∧ (q < 7 → Hm w' a' c' xs' m) ∧ Below W.heap.size W w')
    : Calls Tryd.prog 3 #[.int .i64 me0, .slice a0 len0 cap0, .agg #[.int .i64 x0, .int .i64 x1, .int .i64 x2, .int .i64 x3], .bool true, .int .i64 k0] w fun e w' => e = .returned (.bool true) ∧ Below w.heap.size w w' := by
  have HP : Hid (∀ W, Calls Tryd.prog 6 #[.int .i64 me0, .int .i64 50] W fun e w' => e = .returned (.int .i64 me) ∧ w' = W) := hp
  have HPK : Hid (∀ W, Calls Tryd.prog 6 #[.int .i64 k0, .int .i64 8] W fun e w' => e = .returned (.int .i64 (q : Int)) ∧ w' = W) := hpk
  have HAT : Hid (∀ W, Below w.heap.size w W → Calls Tryd.prog 5 #[.int .i64 me, .slice a0 len0 cap0] W fun e w' => AtPost W me zs (min len0 12) e w') := hat
  have HBT : Hid (∀ W a c xs m, Hm W a c xs m → Calls Tryd.prog 7 #[.slice a 12 c] W fun e w' => e = .returned (.tuple #[m.v, .int .i64 0]) ∧ Below W.heap.size W w') := hbt
  have HSO : Hid (∀ W ao no co l m, Below w.heap.size w W → Came W ao no co l → Alive W ao → May l → l.length ≤ 12 → Mw m → Calls Tryd.prog 8 #[.agg #[.slice ao no co], m.v, .agg #[.int .i64 x0, .int .i64 x1, .int .i64 x2, .int .i64 x3]] W fun e w' => ∃ a' n' co' ls, ∃ t : Nat, e = .returned (.tuple #[.agg #[.slice a' n' co'], .agg #[.int .i64 (kk.c : Int), .int .i64 (kk.i : Int), .int .i64 (kk.a : Int), .int .i64 (t : Int)], .bool true]) ∧ Came w' a' n' co' ls ∧ Alive w' a' ∧ Near W ao a' ∧ SoldIs m l kk ls t ∧ Below W.heap.size W w') := hso
  have HFM : Hid (∀ W (t : Nat), (⟨kk.c, kk.i, kk.a, t⟩ : Tok).ok → Below w.heap.size w W → Calls Tryd.prog 9 #[.agg #[.int .i64 (kk.c : Int), .int .i64 (kk.i : Int), .int .i64 (kk.a : Int), .int .i64 (t : Int)]] W fun e w' => e = .returned (.tuple #[.string (fmtB (97 * (Tok.num ⟨kk.c, kk.i, kk.a, t⟩))), .int .i64 0]) ∧ Below W.heap.size W w') := hfm
  have HKE : Hid (∀ W (m : Mt) ao no co ls (t : Nat), Below w.heap.size w W → Mw m → Came W ao no co ls → Calls Tryd.prog 10 #[m.v, .agg #[.slice ao no co], .agg #[.int .i64 (kk.c : Int), .int .i64 (kk.i : Int), .int .i64 (kk.a : Int), .int .i64 (t : Int)]] W fun e w' => KeyPost W m ls kk.c kk.i kk.a t e w') := hke
  have HKD : Hid (∀ W a c xs m ao no co ls (t : Nat), Below w.heap.size w W → (⟨kk.c, kk.i, kk.a, t⟩ : Tok).ok → Hm W a c xs m → Came W ao no co ls → May ls → Calls Tryd.prog 11 #[.slice a 12 c, .agg #[.slice ao no co], .string (fmtB (97 * (Tok.num ⟨kk.c, kk.i, kk.a, t⟩)))] W fun e w' => HKeyed W xs m ls kk.c kk.i kk.a t e w') := hkd
  have HAP : Hid (∀ W a c xs m m' b d wl (q : Nat), Hm W a c xs m → Wg W b 7 d wl → WrIs xs m m' wl → Mw m' → q ≤ 7 → Calls Tryd.prog 12 #[.slice a 12 c, .slice b 7 d, .int .i64 (q : Int)] W fun e w' => ∃ a' c' xs', e = .returned (.tuple #[.slice a' 12 c', .int .i64 0]) ∧ (q = 7 → Hm w' a' c' xs' m') ∧ (q < 7 → Hm w' a' c' xs' m) ∧ Below W.heap.size W w') := hap
  have HQ7 : Hid (q ≤ 7) := hq
  clear hq hp hpk hat hbt hso hfm hke hkd hap
  have H0x : Hid (Blk (w.alloc (.cells #[.int .i64 x0, .int .i64 x1, .int .i64 x2, .int .i64 x3] 24)) (w.heap.size) #[.int .i64 x0, .int .i64 x1, .int .i64 x2, .int .i64 x3] 24) := Blk.new w _ _
  have H0B : Hid (Below w.heap.size w (w.alloc (.cells #[.int .i64 x0, .int .i64 x1, .int .i64 x2, .int .i64 x3] 24))) := (Below.refl w.heap.size w).alloc (by simp) _
  go_enter Tryd.func3, Tryd.ntmps3
  go_wp2_with fail
  refine (HP.out _).mono ?_
  rintro e w0 ⟨rfl, rfl⟩
  go_wp2_with fail
  refine (HAT.out _ H0B.out).mono ?_
  rintro e w1 ⟨a, c, xs, m, ao, no, co, l, rfl, hm1, hc1, hal1, hlo1, hat1, hb1⟩
  have H1x : Hid (Blk w1 (w.heap.size) #[.int .i64 x0, .int .i64 x1, .int .i64 x2, .int .i64 x3] 24) := H0x.out.next hb1
  have H1B : Hid (Below w.heap.size w w1) := bel_step H0B.out hb1
  have HCh : Hid (Hm w1 a c xs m) := hm1
  have HCc : Hid (Came w1 ao no co l) := hc1
  have HCal : Hid (Alive w1 ao) := hal1
  have HNO : Hid (∀ y, ao = some y → y.block ≠ w1.heap.size) := alive_ne hal1
  have HMY : Hid (May l ∧ l.length ≤ 12 ∧ m.me = me) := ⟨hat1.may, by have := hat1.len; omega, hat1.me⟩
  have H2x : Hid (Blk (w1.alloc (.cells #[.slice ao no co] 28)) (w.heap.size) #[.int .i64 x0, .int .i64 x1, .int .i64 x2, .int .i64 x3] 24) := (H1x.out).alloc _
  have H2o : Hid (Blk (w1.alloc (.cells #[.slice ao no co] 28)) (w1.heap.size) #[.slice ao no co] 28) := (Blk.new w1 _ _)
  have L2ox : Hid (w.heap.size < w1.heap.size) := Nat.lt_of_lt_of_le H1x.out.lt (by simp)
  have H2B : Hid (Below w.heap.size w (w1.alloc (.cells #[.slice ao no co] 28))) := (H1B.out).alloc (Nat.le_trans H1B.out.size (by simp)) _
  have L20 : Hid (w.heap.size ≤ w1.heap.size) := H1B.out.size
  have H2Ch : Hid (Hm (w1.alloc (.cells #[.slice ao no co] 28)) a c xs m) := HCh.out.below ((Below.refl w1.heap.size w1).alloc (by simp) _)
  have H2Cc : Hid (Came (w1.alloc (.cells #[.slice ao no co] 28)) ao no co l) := HCc.out.below ((Below.refl w1.heap.size w1).alloc (by simp) _)
  have H2Cal : Hid (Alive (w1.alloc (.cells #[.slice ao no co] 28)) ao) := HCal.out.below ((Below.refl w1.heap.size w1).alloc (by simp) _)
  clear H0x H0B H1x HCh HCc HCal H1B hb1 hm1 hc1 hal1 hlo1 hat1 HAT
  go_wp2_with (first
    | (refine wp_whole rfl 24 _ rfl (w.heap.size) rfl 24 #[.int .i64 x0, .int .i64 x1, .int .i64 x2, .int .i64 x3] _ H2x.out Tryd.underlying24 rfl (by kernel_rfl) ?_)
    | (refine wp_wholeG (by rfl) 24 _ rfl (w.heap.size) rfl 24 #[.int .i64 x0, .int .i64 x1, .int .i64 x2, .int .i64 x3] _ H2x.out Tryd.underlying24 rfl (by kernel_rfl) ?_)
    | (refine wp_whole rfl 28 _ rfl (w1.heap.size) rfl 28 #[.slice ao no co] _ H2o.out Tryd.underlying28 rfl (by kernel_rfl) ?_)
    | (refine wp_wholeG (by rfl) 28 _ rfl (w1.heap.size) rfl 28 #[.slice ao no co] _ H2o.out Tryd.underlying28 rfl (by kernel_rfl) ?_)
    | fail)
  refine (HBT.out _ _ _ _ _ H2Ch.out).mono ?_
  rintro e w2 ⟨rfl, hb2⟩
  have H3x : Hid (Blk w2 (w.heap.size) #[.int .i64 x0, .int .i64 x1, .int .i64 x2, .int .i64 x3] 24) := H2x.out.next hb2
  have H3o : Hid (Blk w2 (w1.heap.size) #[.slice ao no co] 28) := H2o.out.next hb2
  have H3B : Hid (Below w.heap.size w w2) := bel_step H2B.out hb2
  have H3Ch : Hid (Hm w2 a c xs m) := H2Ch.out.below hb2
  have H3Cc : Hid (Came w2 ao no co l) := H2Cc.out.below hb2
  have H3Cal : Hid (Alive w2 ao) := H2Cal.out.below hb2
  obtain ⟨me1, rev1, cr1, h1, b1, bad1, lock1⟩ := m
  obtain ⟨hmy1, hmy2, hmy3⟩ := HMY.out
  simp only [] at hmy3
  subst hmy3
  have HMZ : Hid (May l ∧ l.length ≤ 12) := ⟨hmy1, hmy2⟩
  unfold Mt.v Mt.cells
  simp only []
  have H4x : Hid (Blk (w2.alloc (.cells #[.int .i64 me1, .int .i64 rev1, .int .i64 cr1, .int .i64 h1, .int .u64 (b1 : Int), .int .i64 bad1, .int .i64 lock1] 36)) (w.heap.size) #[.int .i64 x0, .int .i64 x1, .int .i64 x2, .int .i64 x3] 24) := (H3x.out).alloc _
  have H4o : Hid (Blk (w2.alloc (.cells #[.int .i64 me1, .int .i64 rev1, .int .i64 cr1, .int .i64 h1, .int .u64 (b1 : Int), .int .i64 bad1, .int .i64 lock1] 36)) (w1.heap.size) #[.slice ao no co] 28) := (H3o.out).alloc _
  have H4m : Hid (Blk (w2.alloc (.cells #[.int .i64 me1, .int .i64 rev1, .int .i64 cr1, .int .i64 h1, .int .u64 (b1 : Int), .int .i64 bad1, .int .i64 lock1] 36)) (w2.heap.size) #[.int .i64 me1, .int .i64 rev1, .int .i64 cr1, .int .i64 h1, .int .u64 (b1 : Int), .int .i64 bad1, .int .i64 lock1] 36) := (Blk.new w2 _ _)
  have L4mx : Hid (w.heap.size < w2.heap.size) := Nat.lt_of_lt_of_le H3x.out.lt (by simp)
  have L4mo : Hid (w1.heap.size < w2.heap.size) := Nat.lt_of_lt_of_le H3o.out.lt (by simp)
  have H4B : Hid (Below w.heap.size w (w2.alloc (.cells #[.int .i64 me1, .int .i64 rev1, .int .i64 cr1, .int .i64 h1, .int .u64 (b1 : Int), .int .i64 bad1, .int .i64 lock1] 36))) := (H3B.out).alloc (Nat.le_trans H3B.out.size (by simp)) _
  have L40 : Hid (w.heap.size ≤ w2.heap.size) := H3B.out.size
  have H4Ch : Hid (Hm (w2.alloc (.cells #[.int .i64 me1, .int .i64 rev1, .int .i64 cr1, .int .i64 h1, .int .u64 (b1 : Int), .int .i64 bad1, .int .i64 lock1] 36)) a c xs ⟨me1, rev1, cr1, h1, b1, bad1, lock1⟩) := H3Ch.out.below ((Below.refl w2.heap.size w2).alloc (by simp) _)
  have H4Cc : Hid (Came (w2.alloc (.cells #[.int .i64 me1, .int .i64 rev1, .int .i64 cr1, .int .i64 h1, .int .u64 (b1 : Int), .int .i64 bad1, .int .i64 lock1] 36)) ao no co l) := H3Cc.out.below ((Below.refl w2.heap.size w2).alloc (by simp) _)
  have H4Cal : Hid (Alive (w2.alloc (.cells #[.int .i64 me1, .int .i64 rev1, .int .i64 cr1, .int .i64 h1, .int .u64 (b1 : Int), .int .i64 bad1, .int .i64 lock1] 36)) ao) := H3Cal.out.below ((Below.refl w2.heap.size w2).alloc (by simp) _)
  clear H2x H2o H2Ch H2Cc H2Cal H2B H3x H3o H3Ch H3Cc H3Cal H3B hb2 hmy1 hmy2 HMY
  have q_o_0 : (w2.alloc (.cells #[.int .i64 me1, .int .i64 rev1, .int .i64 cr1, .int .i64 h1, .int .u64 (b1 : Int), .int .i64 bad1, .int .i64 lock1] 36)).cell? ⟨w1.heap.size, 0, none⟩ = some (.slice ao no co) := H4o.out.cell 0
  go_wp2_with (first
    | (refine wp_whole rfl 24 _ rfl (w.heap.size) rfl 24 #[.int .i64 x0, .int .i64 x1, .int .i64 x2, .int .i64 x3] _ H4x.out Tryd.underlying24 rfl (by kernel_rfl) ?_)
    | (refine wp_wholeG (by rfl) 24 _ rfl (w.heap.size) rfl 24 #[.int .i64 x0, .int .i64 x1, .int .i64 x2, .int .i64 x3] _ H4x.out Tryd.underlying24 rfl (by kernel_rfl) ?_)
    | (refine wp_whole rfl 28 _ rfl (w1.heap.size) rfl 28 #[.slice ao no co] _ H4o.out Tryd.underlying28 rfl (by kernel_rfl) ?_)
    | (refine wp_wholeG (by rfl) 28 _ rfl (w1.heap.size) rfl 28 #[.slice ao no co] _ H4o.out Tryd.underlying28 rfl (by kernel_rfl) ?_)
    | (refine wp_whole rfl 36 _ rfl (w2.heap.size) rfl 36 #[.int .i64 me1, .int .i64 rev1, .int .i64 cr1, .int .i64 h1, .int .u64 (b1 : Int), .int .i64 bad1, .int .i64 lock1] _ H4m.out Tryd.underlying36 rfl (by kernel_rfl) ?_)
    | (refine wp_wholeG (by rfl) 36 _ rfl (w2.heap.size) rfl 36 #[.int .i64 me1, .int .i64 rev1, .int .i64 cr1, .int .i64 h1, .int .u64 (b1 : Int), .int .i64 bad1, .int .i64 lock1] _ H4m.out Tryd.underlying36 rfl (by kernel_rfl) ?_)
    | fail)
  clear q_o_0
  have HMW : Hid (Mw ⟨me1, rev1, cr1, h1, b1, bad1, lock1⟩) := H4Ch.out.mw
  refine (HSO.out _ _ _ _ _ ⟨me1, rev1, cr1, h1, b1, bad1, lock1⟩ H4B.out H4Cc.out H4Cal.out HMZ.out.1 HMZ.out.2 HMW.out).mono ?_
  rintro e w4 ⟨a', n', co', ls, t, rfl, hc4, hal4, hnr4, hsi4, hb4⟩
  have H5x : Hid (Blk w4 (w.heap.size) #[.int .i64 x0, .int .i64 x1, .int .i64 x2, .int .i64 x3] 24) := H4x.out.next hb4
  have H5o : Hid (Blk w4 (w1.heap.size) #[.slice ao no co] 28) := H4o.out.next hb4
  have H5m : Hid (Blk w4 (w2.heap.size) #[.int .i64 me1, .int .i64 rev1, .int .i64 cr1, .int .i64 h1, .int .u64 (b1 : Int), .int .i64 bad1, .int .i64 lock1] 36) := H4m.out.next hb4
  have H5B : Hid (Below w.heap.size w w4) := bel_step H4B.out hb4
  have H5Ch : Hid (Hm w4 a c xs ⟨me1, rev1, cr1, h1, b1, bad1, lock1⟩) := H4Ch.out.below hb4
  have H5Cc : Hid (Came w4 ao no co l) := H4Cc.out.below hb4
  have H5Cal : Hid (Alive w4 ao) := H4Cal.out.below hb4
  have HNP : Hid (∀ y, a' = some y → y.block ≠ w1.heap.size) := near_ne hnr4 H4o.out.lt HNO.out
  have HNT : Hid (∀ y, a' = some y → y.block ≠ w4.heap.size) := alive_ne hal4
  have HSI : Hid ((⟨kk.c, kk.i, kk.a, t⟩ : Tok).ok ∧ May ls) := ⟨hsi4.ok, hsi4.may⟩
  have HCc : Hid (Came w4 a' n' co' ls) := hc4
  have H6x : Hid (Blk (w4.alloc (.cells #[.int .i64 0, .int .i64 0, .int .i64 0, .int .i64 0] 40)) (w.heap.size) #[.int .i64 x0, .int .i64 x1, .int .i64 x2, .int .i64 x3] 24) := (H5x.out).alloc _
  have H6o : Hid (Blk (w4.alloc (.cells #[.int .i64 0, .int .i64 0, .int .i64 0, .int .i64 0] 40)) (w1.heap.size) #[.slice ao no co] 28) := (H5o.out).alloc _
  have H6m : Hid (Blk (w4.alloc (.cells #[.int .i64 0, .int .i64 0, .int .i64 0, .int .i64 0] 40)) (w2.heap.size) #[.int .i64 me1, .int .i64 rev1, .int .i64 cr1, .int .i64 h1, .int .u64 (b1 : Int), .int .i64 bad1, .int .i64 lock1] 36) := (H5m.out).alloc _
  have H6t : Hid (Blk (w4.alloc (.cells #[.int .i64 0, .int .i64 0, .int .i64 0, .int .i64 0] 40)) (w4.heap.size) #[.int .i64 0, .int .i64 0, .int .i64 0, .int .i64 0] 40) := (Blk.new w4 _ _)
  have L6tx : Hid (w.heap.size < w4.heap.size) := Nat.lt_of_lt_of_le H5x.out.lt (by simp)
  have L6to : Hid (w1.heap.size < w4.heap.size) := Nat.lt_of_lt_of_le H5o.out.lt (by simp)
  have L6tm : Hid (w2.heap.size < w4.heap.size) := Nat.lt_of_lt_of_le H5m.out.lt (by simp)
  have H6B : Hid (Below w.heap.size w (w4.alloc (.cells #[.int .i64 0, .int .i64 0, .int .i64 0, .int .i64 0] 40))) := (H5B.out).alloc (Nat.le_trans H5B.out.size (by simp)) _
  have L60 : Hid (w.heap.size ≤ w4.heap.size) := H5B.out.size
  have H6Ch : Hid (Hm (w4.alloc (.cells #[.int .i64 0, .int .i64 0, .int .i64 0, .int .i64 0] 40)) a c xs ⟨me1, rev1, cr1, h1, b1, bad1, lock1⟩) := H5Ch.out.below ((Below.refl w4.heap.size w4).alloc (by simp) _)
  have H6Cc : Hid (Came (w4.alloc (.cells #[.int .i64 0, .int .i64 0, .int .i64 0, .int .i64 0] 40)) a' n' co' ls) := HCc.out.below ((Below.refl w4.heap.size w4).alloc (by simp) _)
  clear H4x H4o H4m H4Ch H4Cc H4Cal H4B H5x H5o H5m H5Ch HCc H5B hb4 hc4 hal4 hnr4 hsi4 HSO HNO
  go_wp2_with (first
    | (refine wp_letAll rfl 28 _ _ rfl (w1.heap.size) rfl #[.slice a' n' co'] rfl (by kernel_rfl) (by simp [Value.oneCell']) #[.slice ao no co] 28 H6o.out rfl ?_)
    | (refine wp_whole rfl 24 _ rfl (w.heap.size) rfl 24 #[.int .i64 x0, .int .i64 x1, .int .i64 x2, .int .i64 x3] _ H6x.out Tryd.underlying24 rfl (by kernel_rfl) ?_)
    | (refine wp_wholeG (by rfl) 24 _ rfl (w.heap.size) rfl 24 #[.int .i64 x0, .int .i64 x1, .int .i64 x2, .int .i64 x3] _ H6x.out Tryd.underlying24 rfl (by kernel_rfl) ?_)
    | (refine wp_whole rfl 28 _ rfl (w1.heap.size) rfl 28 #[.slice ao no co] _ H6o.out Tryd.underlying28 rfl (by kernel_rfl) ?_)
    | (refine wp_wholeG (by rfl) 28 _ rfl (w1.heap.size) rfl 28 #[.slice ao no co] _ H6o.out Tryd.underlying28 rfl (by kernel_rfl) ?_)
    | (refine wp_whole rfl 36 _ rfl (w2.heap.size) rfl 36 #[.int .i64 me1, .int .i64 rev1, .int .i64 cr1, .int .i64 h1, .int .u64 (b1 : Int), .int .i64 bad1, .int .i64 lock1] _ H6m.out Tryd.underlying36 rfl (by kernel_rfl) ?_)
    | (refine wp_wholeG (by rfl) 36 _ rfl (w2.heap.size) rfl 36 #[.int .i64 me1, .int .i64 rev1, .int .i64 cr1, .int .i64 h1, .int .u64 (b1 : Int), .int .i64 bad1, .int .i64 lock1] _ H6m.out Tryd.underlying36 rfl (by kernel_rfl) ?_)
    | (refine wp_whole rfl 40 _ rfl (w4.heap.size) rfl 40 #[.int .i64 0, .int .i64 0, .int .i64 0, .int .i64 0] _ H6t.out Tryd.underlying40 rfl (by kernel_rfl) ?_)
    | (refine wp_wholeG (by rfl) 40 _ rfl (w4.heap.size) rfl 40 #[.int .i64 0, .int .i64 0, .int .i64 0, .int .i64 0] _ H6t.out Tryd.underlying40 rfl (by kernel_rfl) ?_)
    | fail)
  intro W5 hU
  have hL2ox := L2ox.out
  have hL20 := L20.out
  have hL4mx := L4mx.out
  have hL4mo := L4mo.out
  have hL40 := L40.out
  have hL6tx := L6tx.out
  have hL6to := L6to.out
  have hL6tm := L6tm.out
  have hL60 := L60.out
  have H7x : Hid (Blk W5 (w.heap.size) #[.int .i64 x0, .int .i64 x1, .int .i64 x2, .int .i64 x3] 24) := hU.keep H6x.out (by omega)
  have H7o : Hid (Blk W5 (w1.heap.size) #[.slice a' n' co'] 28) := hU.blk
  have H7m : Hid (Blk W5 (w2.heap.size) #[.int .i64 me1, .int .i64 rev1, .int .i64 cr1, .int .i64 h1, .int .u64 (b1 : Int), .int .i64 bad1, .int .i64 lock1] 36) := hU.keep H6m.out (by omega)
  have H7t : Hid (Blk W5 (w4.heap.size) #[.int .i64 0, .int .i64 0, .int .i64 0, .int .i64 0] 40) := hU.keep H6t.out (by omega)
  have H7B : Hid (Below w.heap.size w W5) := hU.bel _ _ (by omega) H6B.out
  have H7Ch : Hid (Hm W5 a c xs ⟨me1, rev1, cr1, h1, b1, bad1, lock1⟩) := H6Ch.out.upd hU H6o.out (no_slice _ _ _)
  have H7Cc : Hid (Came W5 a' n' co' ls) := upd_came hU H6Cc.out HNP.out
  clear hU H6x H6o H6m H6t H6Ch H6Cc H6B hL2ox hL20 hL4mx hL4mo hL40 hL6tx hL6to hL6tm hL60 
  go_wp2_with (first
    | (refine wp_letAll rfl 40 _ _ rfl (w4.heap.size) rfl #[.int .i64 (kk.c : Int), .int .i64 (kk.i : Int), .int .i64 (kk.a : Int), .int .i64 (t : Int)] rfl (by kernel_rfl) (by simp [Value.oneCell']) #[.int .i64 0, .int .i64 0, .int .i64 0, .int .i64 0] 40 H7t.out rfl ?_)
    | (refine wp_whole rfl 24 _ rfl (w.heap.size) rfl 24 #[.int .i64 x0, .int .i64 x1, .int .i64 x2, .int .i64 x3] _ H7x.out Tryd.underlying24 rfl (by kernel_rfl) ?_)
    | (refine wp_wholeG (by rfl) 24 _ rfl (w.heap.size) rfl 24 #[.int .i64 x0, .int .i64 x1, .int .i64 x2, .int .i64 x3] _ H7x.out Tryd.underlying24 rfl (by kernel_rfl) ?_)
    | (refine wp_whole rfl 28 _ rfl (w1.heap.size) rfl 28 #[.slice a' n' co'] _ H7o.out Tryd.underlying28 rfl (by kernel_rfl) ?_)
    | (refine wp_wholeG (by rfl) 28 _ rfl (w1.heap.size) rfl 28 #[.slice a' n' co'] _ H7o.out Tryd.underlying28 rfl (by kernel_rfl) ?_)
    | (refine wp_whole rfl 36 _ rfl (w2.heap.size) rfl 36 #[.int .i64 me1, .int .i64 rev1, .int .i64 cr1, .int .i64 h1, .int .u64 (b1 : Int), .int .i64 bad1, .int .i64 lock1] _ H7m.out Tryd.underlying36 rfl (by kernel_rfl) ?_)
    | (refine wp_wholeG (by rfl) 36 _ rfl (w2.heap.size) rfl 36 #[.int .i64 me1, .int .i64 rev1, .int .i64 cr1, .int .i64 h1, .int .u64 (b1 : Int), .int .i64 bad1, .int .i64 lock1] _ H7m.out Tryd.underlying36 rfl (by kernel_rfl) ?_)
    | (refine wp_whole rfl 40 _ rfl (w4.heap.size) rfl 40 #[.int .i64 0, .int .i64 0, .int .i64 0, .int .i64 0] _ H7t.out Tryd.underlying40 rfl (by kernel_rfl) ?_)
    | (refine wp_wholeG (by rfl) 40 _ rfl (w4.heap.size) rfl 40 #[.int .i64 0, .int .i64 0, .int .i64 0, .int .i64 0] _ H7t.out Tryd.underlying40 rfl (by kernel_rfl) ?_)
    | fail)
  intro W6 hU
  have hL2ox := L2ox.out
  have hL20 := L20.out
  have hL4mx := L4mx.out
  have hL4mo := L4mo.out
  have hL40 := L40.out
  have hL6tx := L6tx.out
  have hL6to := L6to.out
  have hL6tm := L6tm.out
  have hL60 := L60.out
  have H8x : Hid (Blk W6 (w.heap.size) #[.int .i64 x0, .int .i64 x1, .int .i64 x2, .int .i64 x3] 24) := hU.keep H7x.out (by omega)
  have H8o : Hid (Blk W6 (w1.heap.size) #[.slice a' n' co'] 28) := hU.keep H7o.out (by omega)
  have H8m : Hid (Blk W6 (w2.heap.size) #[.int .i64 me1, .int .i64 rev1, .int .i64 cr1, .int .i64 h1, .int .u64 (b1 : Int), .int .i64 bad1, .int .i64 lock1] 36) := hU.keep H7m.out (by omega)
  have H8t : Hid (Blk W6 (w4.heap.size) #[.int .i64 (kk.c : Int), .int .i64 (kk.i : Int), .int .i64 (kk.a : Int), .int .i64 (t : Int)] 40) := hU.blk
  have H8B : Hid (Below w.heap.size w W6) := hU.bel _ _ (by omega) H7B.out
  have H8Ch : Hid (Hm W6 a c xs ⟨me1, rev1, cr1, h1, b1, bad1, lock1⟩) := H7Ch.out.upd hU H7t.out (no_four _ _ _ _)
  have H8Cc : Hid (Came W6 a' n' co' ls) := upd_came hU H7Cc.out HNT.out
  clear hU H7x H7o H7m H7t H7Ch H7Cc H7B hL2ox hL20 hL4mx hL4mo hL40 hL6tx hL6to hL6tm hL60 
  have ht0 : (0 : Int) ≤ (t : Int) := by omega
  have ht1 : (t : Int) ≤ 65535 := by have h9 : t ≤ 65535 := HSI.out.1.t2; omega
  have HTT : Hid (∃ u : Nat, ((t : Int) + 1) % 65536 = (u : Int) ∧ u ≤ 65535) := ⟨((t : Int) + 1).toNat % 65536, by omega, by omega⟩
  obtain ⟨u, hu, hu1⟩ := HTT.out
  have hut : Int.tmod ((t : Int) + 1) 65536 = (u : Int) := by rw [← hu]; exact Int.tmod_eq_emod_of_nonneg (by omega)
  have HSU : Hid ((⟨kk.c, kk.i, kk.a, u⟩ : Tok).ok ∧ May ls) := by
    have h0 := HSI.out.1
    exact ⟨⟨h0.c3, h0.i1, h0.i2, hu1, h0.a2, h0.a0, h0.ac, h0.az⟩, HSI.out.2⟩
  clear HTT hu hu1
  have q_t_3 : W6.cell? ⟨w4.heap.size, 3, none⟩ = some (.int .i64 (t : Int)) := H8t.out.cell 3
  go_wp2_with (first
    | (refine wp_let1 rfl 3 _ _ rfl (w4.heap.size) 3 rfl .i64 (u : Int) rfl (by kernel_rfl) #[.int .i64 (kk.c : Int), .int .i64 (kk.i : Int), .int .i64 (kk.a : Int), .int .i64 (t : Int)] 40 H8t.out (by simp) ?_)
    | (refine wp_whole rfl 24 _ rfl (w.heap.size) rfl 24 #[.int .i64 x0, .int .i64 x1, .int .i64 x2, .int .i64 x3] _ H8x.out Tryd.underlying24 rfl (by kernel_rfl) ?_)
    | (refine wp_wholeG (by rfl) 24 _ rfl (w.heap.size) rfl 24 #[.int .i64 x0, .int .i64 x1, .int .i64 x2, .int .i64 x3] _ H8x.out Tryd.underlying24 rfl (by kernel_rfl) ?_)
    | (refine wp_whole rfl 28 _ rfl (w1.heap.size) rfl 28 #[.slice a' n' co'] _ H8o.out Tryd.underlying28 rfl (by kernel_rfl) ?_)
    | (refine wp_wholeG (by rfl) 28 _ rfl (w1.heap.size) rfl 28 #[.slice a' n' co'] _ H8o.out Tryd.underlying28 rfl (by kernel_rfl) ?_)
    | (refine wp_whole rfl 36 _ rfl (w2.heap.size) rfl 36 #[.int .i64 me1, .int .i64 rev1, .int .i64 cr1, .int .i64 h1, .int .u64 (b1 : Int), .int .i64 bad1, .int .i64 lock1] _ H8m.out Tryd.underlying36 rfl (by kernel_rfl) ?_)
    | (refine wp_wholeG (by rfl) 36 _ rfl (w2.heap.size) rfl 36 #[.int .i64 me1, .int .i64 rev1, .int .i64 cr1, .int .i64 h1, .int .u64 (b1 : Int), .int .i64 bad1, .int .i64 lock1] _ H8m.out Tryd.underlying36 rfl (by kernel_rfl) ?_)
    | (refine wp_whole rfl 40 _ rfl (w4.heap.size) rfl 40 #[.int .i64 (kk.c : Int), .int .i64 (kk.i : Int), .int .i64 (kk.a : Int), .int .i64 (t : Int)] _ H8t.out Tryd.underlying40 rfl (by kernel_rfl) ?_)
    | (refine wp_wholeG (by rfl) 40 _ rfl (w4.heap.size) rfl 40 #[.int .i64 (kk.c : Int), .int .i64 (kk.i : Int), .int .i64 (kk.a : Int), .int .i64 (t : Int)] _ H8t.out Tryd.underlying40 rfl (by kernel_rfl) ?_)
    | fail)
  intro W7 hU
  have hL2ox := L2ox.out
  have hL20 := L20.out
  have hL4mx := L4mx.out
  have hL4mo := L4mo.out
  have hL40 := L40.out
  have hL6tx := L6tx.out
  have hL6to := L6to.out
  have hL6tm := L6tm.out
  have hL60 := L60.out
  have H9x : Hid (Blk W7 (w.heap.size) #[.int .i64 x0, .int .i64 x1, .int .i64 x2, .int .i64 x3] 24) := hU.keep H8x.out (by omega)
  have H9o : Hid (Blk W7 (w1.heap.size) #[.slice a' n' co'] 28) := hU.keep H8o.out (by omega)
  have H9m : Hid (Blk W7 (w2.heap.size) #[.int .i64 me1, .int .i64 rev1, .int .i64 cr1, .int .i64 h1, .int .u64 (b1 : Int), .int .i64 bad1, .int .i64 lock1] 36) := hU.keep H8m.out (by omega)
  have H9t : Hid (Blk W7 (w4.heap.size) #[.int .i64 (kk.c : Int), .int .i64 (kk.i : Int), .int .i64 (kk.a : Int), .int .i64 (u : Int)] 40) := hU.blk
  have H9B : Hid (Below w.heap.size w W7) := hU.bel _ _ (by omega) H8B.out
  have H9Ch : Hid (Hm W7 a c xs ⟨me1, rev1, cr1, h1, b1, bad1, lock1⟩) := H8Ch.out.upd hU H8t.out (no_four _ _ _ _)
  have H9Cc : Hid (Came W7 a' n' co' ls) := upd_came hU H8Cc.out HNT.out
  clear hU H8x H8o H8m H8t H8Ch H8Cc H8B hL2ox hL20 hL4mx hL4mo hL40 hL6tx hL6to hL6tm hL60 q_t_3 ht0 ht1 hut
  clear HNT HNP
  go_wp2_with (first
    | (refine wp_whole rfl 24 _ rfl (w.heap.size) rfl 24 #[.int .i64 x0, .int .i64 x1, .int .i64 x2, .int .i64 x3] _ H9x.out Tryd.underlying24 rfl (by kernel_rfl) ?_)
    | (refine wp_wholeG (by rfl) 24 _ rfl (w.heap.size) rfl 24 #[.int .i64 x0, .int .i64 x1, .int .i64 x2, .int .i64 x3] _ H9x.out Tryd.underlying24 rfl (by kernel_rfl) ?_)
    | (refine wp_whole rfl 28 _ rfl (w1.heap.size) rfl 28 #[.slice a' n' co'] _ H9o.out Tryd.underlying28 rfl (by kernel_rfl) ?_)
    | (refine wp_wholeG (by rfl) 28 _ rfl (w1.heap.size) rfl 28 #[.slice a' n' co'] _ H9o.out Tryd.underlying28 rfl (by kernel_rfl) ?_)
    | (refine wp_whole rfl 36 _ rfl (w2.heap.size) rfl 36 #[.int .i64 me1, .int .i64 rev1, .int .i64 cr1, .int .i64 h1, .int .u64 (b1 : Int), .int .i64 bad1, .int .i64 lock1] _ H9m.out Tryd.underlying36 rfl (by kernel_rfl) ?_)
    | (refine wp_wholeG (by rfl) 36 _ rfl (w2.heap.size) rfl 36 #[.int .i64 me1, .int .i64 rev1, .int .i64 cr1, .int .i64 h1, .int .u64 (b1 : Int), .int .i64 bad1, .int .i64 lock1] _ H9m.out Tryd.underlying36 rfl (by kernel_rfl) ?_)
    | (refine wp_whole rfl 40 _ rfl (w4.heap.size) rfl 40 #[.int .i64 (kk.c : Int), .int .i64 (kk.i : Int), .int .i64 (kk.a : Int), .int .i64 (u : Int)] _ H9t.out Tryd.underlying40 rfl (by kernel_rfl) ?_)
    | (refine wp_wholeG (by rfl) 40 _ rfl (w4.heap.size) rfl 40 #[.int .i64 (kk.c : Int), .int .i64 (kk.i : Int), .int .i64 (kk.a : Int), .int .i64 (u : Int)] _ H9t.out Tryd.underlying40 rfl (by kernel_rfl) ?_)
    | fail)
  refine (HFM.out _ _ HSU.out.1 H9B.out).mono ?_
  rintro e w7 ⟨rfl, hb7⟩
  have H10x : Hid (Blk w7 (w.heap.size) #[.int .i64 x0, .int .i64 x1, .int .i64 x2, .int .i64 x3] 24) := H9x.out.next hb7
  have H10o : Hid (Blk w7 (w1.heap.size) #[.slice a' n' co'] 28) := H9o.out.next hb7
  have H10m : Hid (Blk w7 (w2.heap.size) #[.int .i64 me1, .int .i64 rev1, .int .i64 cr1, .int .i64 h1, .int .u64 (b1 : Int), .int .i64 bad1, .int .i64 lock1] 36) := H9m.out.next hb7
  have H10t : Hid (Blk w7 (w4.heap.size) #[.int .i64 (kk.c : Int), .int .i64 (kk.i : Int), .int .i64 (kk.a : Int), .int .i64 (u : Int)] 40) := H9t.out.next hb7
  have H10B : Hid (Below w.heap.size w w7) := bel_step H9B.out hb7
  have H10Ch : Hid (Hm w7 a c xs ⟨me1, rev1, cr1, h1, b1, bad1, lock1⟩) := H9Ch.out.below hb7
  have H10Cc : Hid (Came w7 a' n' co' ls) := H9Cc.out.below hb7
  clear H9x H9o H9m H9t H9Ch H9Cc H9B hb7 HFM
  have HKQ : Hid (∀ W, Below w.heap.size w W → Hm W a c xs ⟨me1, rev1, cr1, h1, b1, bad1, lock1⟩ → Came W a' n' co' ls → Calls Tryd.prog 11 #[.slice a 12 c, .agg #[.slice a' n' co'], .string (fmtB (97 * (Tok.num ⟨kk.c, kk.i, kk.a, u⟩)))] W fun e w' => HKeyed W xs ⟨me1, rev1, cr1, h1, b1, bad1, lock1⟩ ls kk.c kk.i kk.a u e w') := fun W hB hm hc => HKD.out W a c xs ⟨me1, rev1, cr1, h1, b1, bad1, lock1⟩ a' n' co' ls u hB HSU.out.1 hm hc HSU.out.2
  have HKF : Hid (∀ W, Below w.heap.size w W → Came W a' n' co' ls → Calls Tryd.prog 10 #[.agg #[.int .i64 me1, .int .i64 rev1, .int .i64 cr1, .int .i64 h1, .int .u64 (b1 : Int), .int .i64 bad1, .int .i64 lock1], .agg #[.slice a' n' co'], .agg #[.int .i64 (kk.c : Int), .int .i64 (kk.i : Int), .int .i64 (kk.a : Int), .int .i64 (u : Int)]] W fun e w' => KeyPost W ⟨me1, rev1, cr1, h1, b1, bad1, lock1⟩ ls kk.c kk.i kk.a u e w') := fun W hB hc => HKE.out W ⟨me1, rev1, cr1, h1, b1, bad1, lock1⟩ a' n' co' ls u hB HMW.out hc
  clear HKD HKE
  generalize (fmtB (97 * (Tok.num ⟨kk.c, kk.i, kk.a, u⟩))) = S at *
  have q_o_0 : w7.cell? ⟨w1.heap.size, 0, none⟩ = some (.slice a' n' co') := H10o.out.cell 0
  go_wp2_with (first
    | (refine wp_whole rfl 24 _ rfl (w.heap.size) rfl 24 #[.int .i64 x0, .int .i64 x1, .int .i64 x2, .int .i64 x3] _ H10x.out Tryd.underlying24 rfl (by kernel_rfl) ?_)
    | (refine wp_wholeG (by rfl) 24 _ rfl (w.heap.size) rfl 24 #[.int .i64 x0, .int .i64 x1, .int .i64 x2, .int .i64 x3] _ H10x.out Tryd.underlying24 rfl (by kernel_rfl) ?_)
    | (refine wp_whole rfl 28 _ rfl (w1.heap.size) rfl 28 #[.slice a' n' co'] _ H10o.out Tryd.underlying28 rfl (by kernel_rfl) ?_)
    | (refine wp_wholeG (by rfl) 28 _ rfl (w1.heap.size) rfl 28 #[.slice a' n' co'] _ H10o.out Tryd.underlying28 rfl (by kernel_rfl) ?_)
    | (refine wp_whole rfl 36 _ rfl (w2.heap.size) rfl 36 #[.int .i64 me1, .int .i64 rev1, .int .i64 cr1, .int .i64 h1, .int .u64 (b1 : Int), .int .i64 bad1, .int .i64 lock1] _ H10m.out Tryd.underlying36 rfl (by kernel_rfl) ?_)
    | (refine wp_wholeG (by rfl) 36 _ rfl (w2.heap.size) rfl 36 #[.int .i64 me1, .int .i64 rev1, .int .i64 cr1, .int .i64 h1, .int .u64 (b1 : Int), .int .i64 bad1, .int .i64 lock1] _ H10m.out Tryd.underlying36 rfl (by kernel_rfl) ?_)
    | (refine wp_whole rfl 40 _ rfl (w4.heap.size) rfl 40 #[.int .i64 (kk.c : Int), .int .i64 (kk.i : Int), .int .i64 (kk.a : Int), .int .i64 (u : Int)] _ H10t.out Tryd.underlying40 rfl (by kernel_rfl) ?_)
    | (refine wp_wholeG (by rfl) 40 _ rfl (w4.heap.size) rfl 40 #[.int .i64 (kk.c : Int), .int .i64 (kk.i : Int), .int .i64 (kk.a : Int), .int .i64 (u : Int)] _ H10t.out Tryd.underlying40 rfl (by kernel_rfl) ?_)
    | fail)
  clear q_o_0
  refine (HKF.out _ H10B.out H10Cc.out).mono ?_
  rintro e w8 ⟨m2, y8, f8, rfl, hi8, hb8⟩
  have H11x : Hid (Blk w8 (w.heap.size) #[.int .i64 x0, .int .i64 x1, .int .i64 x2, .int .i64 x3] 24) := H10x.out.next hb8
  have H11o : Hid (Blk w8 (w1.heap.size) #[.slice a' n' co'] 28) := H10o.out.next hb8
  have H11m : Hid (Blk w8 (w2.heap.size) #[.int .i64 me1, .int .i64 rev1, .int .i64 cr1, .int .i64 h1, .int .u64 (b1 : Int), .int .i64 bad1, .int .i64 lock1] 36) := H10m.out.next hb8
  have H11t : Hid (Blk w8 (w4.heap.size) #[.int .i64 (kk.c : Int), .int .i64 (kk.i : Int), .int .i64 (kk.a : Int), .int .i64 (u : Int)] 40) := H10t.out.next hb8
  have H11B : Hid (Below w.heap.size w w8) := bel_step H10B.out hb8
  have H11Ch : Hid (Hm w8 a c xs ⟨me1, rev1, cr1, h1, b1, bad1, lock1⟩) := H10Ch.out.below hb8
  have H11Cc : Hid (Came w8 a' n' co' ls) := H10Cc.out.below hb8
  have HI8 : Hid (KeyIs ⟨me1, rev1, cr1, h1, b1, bad1, lock1⟩ ls kk.c kk.i kk.a u (bodyI kk.c kk.i kk.a) m2 y8 f8) := hi8
  have HM2 : Hid (Mw m2) := key_mw (k := ⟨kk.c, kk.i, kk.a, u⟩) hi8 HMW.out HSU.out.2 HSU.out.1
  obtain ⟨me2, rev2, cr2, h2, b2, bad2, lock2⟩ := m2
  unfold Mt.v Mt.cells
  simp only []
  have H12x : Hid (Blk (w8.alloc (.cells #[.int .i64 me2, .int .i64 rev2, .int .i64 cr2, .int .i64 h2, .int .u64 (b2 : Int), .int .i64 bad2, .int .i64 lock2] 36)) (w.heap.size) #[.int .i64 x0, .int .i64 x1, .int .i64 x2, .int .i64 x3] 24) := (H11x.out).alloc _
  have H12o : Hid (Blk (w8.alloc (.cells #[.int .i64 me2, .int .i64 rev2, .int .i64 cr2, .int .i64 h2, .int .u64 (b2 : Int), .int .i64 bad2, .int .i64 lock2] 36)) (w1.heap.size) #[.slice a' n' co'] 28) := (H11o.out).alloc _
  have H12m : Hid (Blk (w8.alloc (.cells #[.int .i64 me2, .int .i64 rev2, .int .i64 cr2, .int .i64 h2, .int .u64 (b2 : Int), .int .i64 bad2, .int .i64 lock2] 36)) (w2.heap.size) #[.int .i64 me1, .int .i64 rev1, .int .i64 cr1, .int .i64 h1, .int .u64 (b1 : Int), .int .i64 bad1, .int .i64 lock1] 36) := (H11m.out).alloc _
  have H12t : Hid (Blk (w8.alloc (.cells #[.int .i64 me2, .int .i64 rev2, .int .i64 cr2, .int .i64 h2, .int .u64 (b2 : Int), .int .i64 bad2, .int .i64 lock2] 36)) (w4.heap.size) #[.int .i64 (kk.c : Int), .int .i64 (kk.i : Int), .int .i64 (kk.a : Int), .int .i64 (u : Int)] 40) := (H11t.out).alloc _
  have H12n : Hid (Blk (w8.alloc (.cells #[.int .i64 me2, .int .i64 rev2, .int .i64 cr2, .int .i64 h2, .int .u64 (b2 : Int), .int .i64 bad2, .int .i64 lock2] 36)) (w8.heap.size) #[.int .i64 me2, .int .i64 rev2, .int .i64 cr2, .int .i64 h2, .int .u64 (b2 : Int), .int .i64 bad2, .int .i64 lock2] 36) := (Blk.new w8 _ _)
  have L12nx : Hid (w.heap.size < w8.heap.size) := Nat.lt_of_lt_of_le H11x.out.lt (by simp)
  have L12no : Hid (w1.heap.size < w8.heap.size) := Nat.lt_of_lt_of_le H11o.out.lt (by simp)
  have L12nm : Hid (w2.heap.size < w8.heap.size) := Nat.lt_of_lt_of_le H11m.out.lt (by simp)
  have L12nt : Hid (w4.heap.size < w8.heap.size) := Nat.lt_of_lt_of_le H11t.out.lt (by simp)
  have H12B : Hid (Below w.heap.size w (w8.alloc (.cells #[.int .i64 me2, .int .i64 rev2, .int .i64 cr2, .int .i64 h2, .int .u64 (b2 : Int), .int .i64 bad2, .int .i64 lock2] 36))) := (H11B.out).alloc (Nat.le_trans H11B.out.size (by simp)) _
  have L120 : Hid (w.heap.size ≤ w8.heap.size) := H11B.out.size
  have H12Ch : Hid (Hm (w8.alloc (.cells #[.int .i64 me2, .int .i64 rev2, .int .i64 cr2, .int .i64 h2, .int .u64 (b2 : Int), .int .i64 bad2, .int .i64 lock2] 36)) a c xs ⟨me1, rev1, cr1, h1, b1, bad1, lock1⟩) := H11Ch.out.below ((Below.refl w8.heap.size w8).alloc (by simp) _)
  have H12Cc : Hid (Came (w8.alloc (.cells #[.int .i64 me2, .int .i64 rev2, .int .i64 cr2, .int .i64 h2, .int .u64 (b2 : Int), .int .i64 bad2, .int .i64 lock2] 36)) a' n' co' ls) := H11Cc.out.below ((Below.refl w8.heap.size w8).alloc (by simp) _)
  clear H10x H10o H10m H10t H10Ch H10Cc H10B H11x H11o H11m H11t H11Ch H11Cc H11B hb8 hi8 HKF
  have q_o_0 : (w8.alloc (.cells #[.int .i64 me2, .int .i64 rev2, .int .i64 cr2, .int .i64 h2, .int .u64 (b2 : Int), .int .i64 bad2, .int .i64 lock2] 36)).cell? ⟨w1.heap.size, 0, none⟩ = some (.slice a' n' co') := H12o.out.cell 0
  go_wp2_with (first
    | (refine wp_whole rfl 24 _ rfl (w.heap.size) rfl 24 #[.int .i64 x0, .int .i64 x1, .int .i64 x2, .int .i64 x3] _ H12x.out Tryd.underlying24 rfl (by kernel_rfl) ?_)
    | (refine wp_wholeG (by rfl) 24 _ rfl (w.heap.size) rfl 24 #[.int .i64 x0, .int .i64 x1, .int .i64 x2, .int .i64 x3] _ H12x.out Tryd.underlying24 rfl (by kernel_rfl) ?_)
    | (refine wp_whole rfl 28 _ rfl (w1.heap.size) rfl 28 #[.slice a' n' co'] _ H12o.out Tryd.underlying28 rfl (by kernel_rfl) ?_)
    | (refine wp_wholeG (by rfl) 28 _ rfl (w1.heap.size) rfl 28 #[.slice a' n' co'] _ H12o.out Tryd.underlying28 rfl (by kernel_rfl) ?_)
    | (refine wp_whole rfl 36 _ rfl (w2.heap.size) rfl 36 #[.int .i64 me1, .int .i64 rev1, .int .i64 cr1, .int .i64 h1, .int .u64 (b1 : Int), .int .i64 bad1, .int .i64 lock1] _ H12m.out Tryd.underlying36 rfl (by kernel_rfl) ?_)
    | (refine wp_wholeG (by rfl) 36 _ rfl (w2.heap.size) rfl 36 #[.int .i64 me1, .int .i64 rev1, .int .i64 cr1, .int .i64 h1, .int .u64 (b1 : Int), .int .i64 bad1, .int .i64 lock1] _ H12m.out Tryd.underlying36 rfl (by kernel_rfl) ?_)
    | (refine wp_whole rfl 40 _ rfl (w4.heap.size) rfl 40 #[.int .i64 (kk.c : Int), .int .i64 (kk.i : Int), .int .i64 (kk.a : Int), .int .i64 (u : Int)] _ H12t.out Tryd.underlying40 rfl (by kernel_rfl) ?_)
    | (refine wp_wholeG (by rfl) 40 _ rfl (w4.heap.size) rfl 40 #[.int .i64 (kk.c : Int), .int .i64 (kk.i : Int), .int .i64 (kk.a : Int), .int .i64 (u : Int)] _ H12t.out Tryd.underlying40 rfl (by kernel_rfl) ?_)
    | (refine wp_whole rfl 36 _ rfl (w8.heap.size) rfl 36 #[.int .i64 me2, .int .i64 rev2, .int .i64 cr2, .int .i64 h2, .int .u64 (b2 : Int), .int .i64 bad2, .int .i64 lock2] _ H12n.out Tryd.underlying36 rfl (by kernel_rfl) ?_)
    | (refine wp_wholeG (by rfl) 36 _ rfl (w8.heap.size) rfl 36 #[.int .i64 me2, .int .i64 rev2, .int .i64 cr2, .int .i64 h2, .int .u64 (b2 : Int), .int .i64 bad2, .int .i64 lock2] _ H12n.out Tryd.underlying36 rfl (by kernel_rfl) ?_)
    | fail)
  clear q_o_0
  refine (HKQ.out _ H12B.out H12Ch.out H12Cc.out).mono ?_
  rintro e w9 ⟨b9, n9, d9, wl, y9, f9, m9, rfl, hg9, hi9, hw9, hb9⟩
  have H13x : Hid (Blk w9 (w.heap.size) #[.int .i64 x0, .int .i64 x1, .int .i64 x2, .int .i64 x3] 24) := H12x.out.next hb9
  have H13o : Hid (Blk w9 (w1.heap.size) #[.slice a' n' co'] 28) := H12o.out.next hb9
  have H13m : Hid (Blk w9 (w2.heap.size) #[.int .i64 me1, .int .i64 rev1, .int .i64 cr1, .int .i64 h1, .int .u64 (b1 : Int), .int .i64 bad1, .int .i64 lock1] 36) := H12m.out.next hb9
  have H13t : Hid (Blk w9 (w4.heap.size) #[.int .i64 (kk.c : Int), .int .i64 (kk.i : Int), .int .i64 (kk.a : Int), .int .i64 (u : Int)] 40) := H12t.out.next hb9
  have H13n : Hid (Blk w9 (w8.heap.size) #[.int .i64 me2, .int .i64 rev2, .int .i64 cr2, .int .i64 h2, .int .u64 (b2 : Int), .int .i64 bad2, .int .i64 lock2] 36) := H12n.out.next hb9
  have H13B : Hid (Below w.heap.size w w9) := bel_step H12B.out hb9
  have H13Ch : Hid (Hm w9 a c xs ⟨me1, rev1, cr1, h1, b1, bad1, lock1⟩) := H12Ch.out.below hb9
  have H13Cc : Hid (Came w9 a' n' co' ls) := H12Cc.out.below hb9
  obtain ⟨rfl, rfl, rfl⟩ := HI8.out.one hi9
  have HCg : Hid (Wg w9 b9 n9 d9 wl) := hg9
  have hln := hg9.row.1
  have HWI : Hid (WrIs xs ⟨me1, rev1, cr1, h1, b1, bad1, lock1⟩ ⟨me2, rev2, cr2, h2, b2, bad2, lock2⟩ wl) := hw9
  have hor := hw9.len
  clear H12x H12o H12m H12t H12n H12Ch H12Cc H12B hb9 hi9 hg9 hw9 HKQ HI8
  have e1 : (f8 != f8) = false := by simp
  have e2 : (y8 != y8) = false := by simp
  have e3 : (me1 != me1) = false := by simp
  clear H13x
  clear H13t
  clear H13o
  clear H13Cc
  rcases hor with ⟨hmm, h0⟩ | ⟨hmm, h7⟩
  · obtain rfl : n9 = 0 := hln.symm.trans h0
    have hqm : ∀ W : World, (Op.equalIn 10000 36 (.agg #[.int .i64 me1, .int .i64 rev1, .int .i64 cr1, .int .i64 h1, .int .u64 (b1 : Int), .int .i64 bad1, .int .i64 lock1]) (.agg #[.int .i64 me2, .int .i64 rev2, .int .i64 cr2, .int .i64 h2, .int .u64 (b2 : Int), .int .i64 bad2, .int .i64 lock2])).run Tryd.prog W = .ok true W := fun W => eqMt_one ⟨me1, rev1, cr1, h1, b1, bad1, lock1⟩ ⟨me2, rev2, cr2, h2, b2, bad2, lock2⟩ W hmm.symm
    clear hln h0 hmm
    go_upto_region 11 with fail
    have HBK : Hid (Blk w9.drew (w2.heap.size) #[.int .i64 me1, .int .i64 rev1, .int .i64 cr1, .int .i64 h1, .int .u64 (b1 : Int), .int .i64 bad1, .int .i64 lock1] 36 ∧ Blk w9.drew (w8.heap.size) #[.int .i64 me2, .int .i64 rev2, .int .i64 cr2, .int .i64 h2, .int .u64 (b2 : Int), .int .i64 bad2, .int .i64 lock2] 36) := ⟨Blk.drew H13m.out 1, Blk.drew H13n.out 1⟩
    refine wp_region_held_drew (S := fun v => Blk v (w2.heap.size) #[.int .i64 me1, .int .i64 rev1, .int .i64 cr1, .int .i64 h1, .int .u64 (b1 : Int), .int .i64 bad1, .int .i64 lock1] 36 ∧ Blk v (w8.heap.size) #[.int .i64 me2, .int .i64 rev2, .int .i64 cr2, .int .i64 h2, .int .u64 (b2 : Int), .int .i64 bad2, .int .i64 lock2] 36) (by kernel_rfl) HBK.out (fun hHeld => ?_)
    refine take_at 0 80 (.bool true) _ rfl rfl (by kernel_rfl) (by kernel_rfl) (by kernel_rfl) (fun _ _ _ h => h) (Or.inl ⟨by rfl, fun v hv => by skip; clear hv; go_simp⟩) hHeld ?_
    simp only [Act.put, List.setIfInBounds_toArray, List.set_cons_zero, List.set_cons_succ]
    refine take_at 1 81 (.bool false) _ rfl rfl (by kernel_rfl) (by kernel_rfl) (by kernel_rfl) (fun _ _ _ h => h) (Or.inl ⟨by rfl, fun v hv => by skip; clear hv; go_simp⟩) hHeld ?_
    simp only [Act.put, List.setIfInBounds_toArray, List.set_cons_zero, List.set_cons_succ]
    refine take_at 2 82 (.bool false) _ rfl rfl (by kernel_rfl) (by kernel_rfl) (by kernel_rfl) (fun _ _ _ h => h) (Or.inl ⟨by rfl, fun v hv => by skip; clear hv; go_simp⟩) hHeld ?_
    simp only [Act.put, List.setIfInBounds_toArray, List.set_cons_zero, List.set_cons_succ]
    refine take_at 3 83 (.int .i64 0) _ rfl rfl (by kernel_rfl) (by kernel_rfl) (by kernel_rfl) (fun _ _ _ h => h) (Or.inl ⟨by rfl, fun v hv => by skip; clear hv; go_simp⟩) hHeld ?_
    simp only [Act.put, List.setIfInBounds_toArray, List.set_cons_zero, List.set_cons_succ]
    refine take_at 4 84 (.bool false) _ rfl rfl (by kernel_rfl) (by kernel_rfl) (by kernel_rfl) (fun _ _ _ h => h) (Or.inl ⟨by rfl, fun v hv => by skip; clear hv; go_simp⟩) hHeld ?_
    simp only [Act.put, List.setIfInBounds_toArray, List.set_cons_zero, List.set_cons_succ]
    refine take_at 5 85 (.bool false) _ rfl rfl (by kernel_rfl) (by kernel_rfl) (by kernel_rfl) (fun _ _ _ h => h) (Or.inl ⟨by rfl, fun v hv => by skip; clear hv; go_simp⟩) hHeld ?_
    simp only [Act.put, List.setIfInBounds_toArray, List.set_cons_zero, List.set_cons_succ]
    refine take_at 6 86 (.bool false) _ rfl rfl (by kernel_rfl) (by kernel_rfl) (by kernel_rfl) (fun _ _ _ h => h) (Or.inl ⟨by rfl, fun v hv => by skip; clear hv; go_simp⟩) hHeld ?_
    simp only [Act.put, List.setIfInBounds_toArray, List.set_cons_zero, List.set_cons_succ]
    refine take_at 7 87 (.int .i64 0) _ rfl rfl (by kernel_rfl) (by kernel_rfl) (by kernel_rfl) (fun _ _ _ h => h) (Or.inl ⟨by rfl, fun v hv => by skip; clear hv; go_simp⟩) hHeld ?_
    simp only [Act.put, List.setIfInBounds_toArray, List.set_cons_zero, List.set_cons_succ]
    refine take_at 8 88 (.bool false) _ rfl rfl (by kernel_rfl) (by kernel_rfl) (by kernel_rfl) (fun _ _ _ h => h) (Or.inl ⟨by rfl, fun v hv => by skip; clear hv; go_simp⟩) hHeld ?_
    simp only [Act.put, List.setIfInBounds_toArray, List.set_cons_zero, List.set_cons_succ]
    refine take_at 9 89 (.bool false) _ rfl rfl (by kernel_rfl) (by kernel_rfl) (by kernel_rfl) (fun _ _ _ h => h) (Or.inl ⟨by rfl, fun v hv => by skip; clear hv; go_simp⟩) hHeld ?_
    simp only [Act.put, List.setIfInBounds_toArray, List.set_cons_zero, List.set_cons_succ]
    refine take_at 10 90 (.bool false) _ rfl rfl (by kernel_rfl) (by kernel_rfl) (by kernel_rfl) (fun _ _ _ h => h) (Or.inl ⟨by rfl, fun v hv => by skip; clear hv; go_simp⟩) hHeld ?_
    simp only [Act.put, List.setIfInBounds_toArray, List.set_cons_zero, List.set_cons_succ]
    refine take_at 11 91 (.int .i64 f8) _ rfl rfl (by kernel_rfl) (by kernel_rfl) (by kernel_rfl) (fun _ _ _ h => h) (Or.inl ⟨by rfl, fun v hv => by skip; clear hv; go_simp⟩) hHeld ?_
    simp only [Act.put, List.setIfInBounds_toArray, List.set_cons_zero, List.set_cons_succ]
    refine take_at 12 92 (.int .i64 f8) _ rfl rfl (by kernel_rfl) (by kernel_rfl) (by kernel_rfl) (fun _ _ _ h => h) (Or.inl ⟨by rfl, fun v hv => by skip; clear hv; go_simp⟩) hHeld ?_
    simp only [Act.put, List.setIfInBounds_toArray, List.set_cons_zero, List.set_cons_succ]
    refine take_at 13 93 (.bool false) _ rfl rfl (by kernel_rfl) (by kernel_rfl) (by kernel_rfl) (fun _ _ _ h => h) (Or.inl ⟨by rfl, fun v hv => by skip; clear hv; go_simp⟩) hHeld ?_
    simp only [Act.put, List.setIfInBounds_toArray, List.set_cons_zero, List.set_cons_succ]
    refine take_at 14 94 (.bool false) _ rfl rfl (by kernel_rfl) (by kernel_rfl) (by kernel_rfl) (fun _ _ _ h => h) (Or.inl ⟨by rfl, fun v hv => by skip; clear hv; go_simp⟩) hHeld ?_
    simp only [Act.put, List.setIfInBounds_toArray, List.set_cons_zero, List.set_cons_succ]
    refine take_at 15 95 (.bool false) _ rfl rfl (by kernel_rfl) (by kernel_rfl) (by kernel_rfl) (fun _ _ _ h => h) (Or.inl ⟨by rfl, fun v hv => by skip; clear hv; go_simp⟩) hHeld ?_
    simp only [Act.put, List.setIfInBounds_toArray, List.set_cons_zero, List.set_cons_succ]
    refine take_at 16 96 (.int .i64 y8) _ rfl rfl (by kernel_rfl) (by kernel_rfl) (by kernel_rfl) (fun _ _ _ h => h) (Or.inl ⟨by rfl, fun v hv => by skip; clear hv; go_simp⟩) hHeld ?_
    simp only [Act.put, List.setIfInBounds_toArray, List.set_cons_zero, List.set_cons_succ]
    refine take_at 17 97 (.int .i64 y8) _ rfl rfl (by kernel_rfl) (by kernel_rfl) (by kernel_rfl) (fun _ _ _ h => h) (Or.inl ⟨by rfl, fun v hv => by skip; clear hv; go_simp⟩) hHeld ?_
    simp only [Act.put, List.setIfInBounds_toArray, List.set_cons_zero, List.set_cons_succ]
    refine take_at 18 98 (.bool false) _ rfl rfl (by kernel_rfl) (by kernel_rfl) (by kernel_rfl) (fun _ _ _ h => h) (Or.inl ⟨by rfl, fun v hv => by skip; clear hv; go_simp⟩) hHeld ?_
    simp only [Act.put, List.setIfInBounds_toArray, List.set_cons_zero, List.set_cons_succ]
    refine take_at 19 99 (.bool false) _ rfl rfl (by kernel_rfl) (by kernel_rfl) (by kernel_rfl) (fun _ _ _ h => h) (Or.inl ⟨by rfl, fun v hv => by skip; clear hv; go_simp⟩) hHeld ?_
    simp only [Act.put, List.setIfInBounds_toArray, List.set_cons_zero, List.set_cons_succ]
    refine take_at 20 100 (.bool false) _ rfl rfl (by kernel_rfl) (by kernel_rfl) (by kernel_rfl) (fun _ _ _ h => h) (Or.inl ⟨by rfl, fun v hv => by skip; clear hv; go_simp⟩) hHeld ?_
    simp only [Act.put, List.setIfInBounds_toArray, List.set_cons_zero, List.set_cons_succ]
    refine take_at 21 101 (.slice b9 0 d9) _ rfl rfl (by kernel_rfl) (by kernel_rfl) (by kernel_rfl) (fun _ _ _ h => h) (Or.inl ⟨by rfl, fun v hv => by skip; clear hv; go_simp⟩) hHeld ?_
    simp only [Act.put, List.setIfInBounds_toArray, List.set_cons_zero, List.set_cons_succ]
    refine take_at 22 102 (.int .i64 0) _ rfl rfl (by kernel_rfl) (by kernel_rfl) (by kernel_rfl) (fun _ _ _ h => h) (Or.inl ⟨by rfl, fun v hv => by skip; clear hv; go_simp⟩) hHeld ?_
    simp only [Act.put, List.setIfInBounds_toArray, List.set_cons_zero, List.set_cons_succ]
    refine take_at 23 103 (.bool true) _ rfl rfl (by kernel_rfl) (by kernel_rfl) (by kernel_rfl) (fun _ _ _ h => h) (Or.inl ⟨by rfl, fun v hv => by skip; clear hv; go_simp⟩) hHeld ?_
    simp only [Act.put, List.setIfInBounds_toArray, List.set_cons_zero, List.set_cons_succ]
    refine take_at 24 104 (.agg #[.int .i64 me1, .int .i64 rev1, .int .i64 cr1, .int .i64 h1, .int .u64 (b1 : Int), .int .i64 bad1, .int .i64 lock1]) _ rfl rfl (by kernel_rfl) (by kernel_rfl) (by kernel_rfl) (fun _ _ _ h => h) (yieldsIf_whole (by rfl) 36 _ rfl (w2.heap.size) rfl 36 #[.int .i64 me1, .int .i64 rev1, .int .i64 cr1, .int .i64 h1, .int .u64 (b1 : Int), .int .i64 bad1, .int .i64 lock1] _ (fun v hv => hv.1) Tryd.underlying36 rfl (by kernel_rfl)) hHeld ?_
    simp only [Act.put, List.setIfInBounds_toArray, List.set_cons_zero, List.set_cons_succ]
    refine take_at 25 105 (.agg #[.int .i64 me2, .int .i64 rev2, .int .i64 cr2, .int .i64 h2, .int .u64 (b2 : Int), .int .i64 bad2, .int .i64 lock2]) _ rfl rfl (by kernel_rfl) (by kernel_rfl) (by kernel_rfl) (fun _ _ _ h => h) (yieldsIf_whole (by rfl) 36 _ rfl (w8.heap.size) rfl 36 #[.int .i64 me2, .int .i64 rev2, .int .i64 cr2, .int .i64 h2, .int .u64 (b2 : Int), .int .i64 bad2, .int .i64 lock2] _ (fun v hv => hv.2) Tryd.underlying36 rfl (by kernel_rfl)) hHeld ?_
    simp only [Act.put, List.setIfInBounds_toArray, List.set_cons_zero, List.set_cons_succ]
    refine take_at 26 106 (.bool true) _ rfl rfl (by kernel_rfl) (by kernel_rfl) (by kernel_rfl) (fun _ _ _ h => h) (Or.inl ⟨by rfl, fun v hv => by skip; clear hv; go_simp⟩) hHeld ?_
    simp only [Act.put, List.setIfInBounds_toArray, List.set_cons_zero, List.set_cons_succ]
    refine take_at 27 107 (.bool false) _ rfl rfl (by kernel_rfl) (by kernel_rfl) (by kernel_rfl) (fun _ _ _ h => h) (Or.inl ⟨by rfl, fun v hv => by skip; clear hv; go_simp⟩) hHeld ?_
    simp only [Act.put, List.setIfInBounds_toArray, List.set_cons_zero, List.set_cons_succ]
    refine take_at 28 108 (.bool false) _ rfl rfl (by kernel_rfl) (by kernel_rfl) (by kernel_rfl) (fun _ _ _ h => h) (Or.inl ⟨by rfl, fun v hv => by skip; clear hv; go_simp⟩) hHeld ?_
    simp only [Act.put, List.setIfInBounds_toArray, List.set_cons_zero, List.set_cons_succ]
    refine take_at 29 109 (.bool false) _ rfl rfl (by kernel_rfl) (by kernel_rfl) (by kernel_rfl) (fun _ _ _ h => h) (Or.inl ⟨by rfl, fun v hv => by skip; clear hv; go_simp⟩) hHeld ?_
    simp only [Act.put, List.setIfInBounds_toArray, List.set_cons_zero, List.set_cons_succ]
    refine take_at 30 110 (.pointer (some ⟨w2.heap.size, 0, none⟩)) _ rfl rfl (by kernel_rfl) (by kernel_rfl) (by kernel_rfl) (fun _ _ _ h => h) (Or.inl ⟨by rfl, fun v hv => by skip; clear hv; go_simp⟩) hHeld ?_
    simp only [Act.put, List.setIfInBounds_toArray, List.set_cons_zero, List.set_cons_succ]
    refine take_at 31 111 (.int .i64 me1) _ rfl rfl (by kernel_rfl) (by kernel_rfl) (by kernel_rfl) (fun _ _ _ h => h) (Or.inl ⟨by rfl, fun v hv => by have h2 := hv.1.cell 0; clear hv; go_simp⟩) hHeld ?_
    simp only [Act.put, List.setIfInBounds_toArray, List.set_cons_zero, List.set_cons_succ]
    refine take_at 32 112 (.int .i64 me0) _ rfl rfl (by kernel_rfl) (by kernel_rfl) (by kernel_rfl) (fun _ _ _ h => h) (Or.inl ⟨by rfl, fun v hv => by skip; clear hv; go_simp⟩) hHeld ?_
    simp only [Act.put, List.setIfInBounds_toArray, List.set_cons_zero, List.set_cons_succ]
    refine call_at 33 113 (.int .i64 me1) _ rfl rfl (by kernel_rfl) (by kernel_rfl) (by kernel_rfl) (fun _ _ _ h => h) 6 #[.int .i64 me0, .int .i64 50] ⟨by rfl, fun v hv => by clear hv; go_simp⟩ (fun v _ => HP.out v) hHeld ?_
    simp only [Act.put, List.setIfInBounds_toArray, List.set_cons_zero, List.set_cons_succ]
    refine take_at 34 114 (.bool false) _ rfl rfl (by kernel_rfl) (by kernel_rfl) (by kernel_rfl) (fun _ _ _ h => h) (Or.inl ⟨by rfl, fun v hv => by skip; clear hv; go_simp⟩) hHeld ?_
    simp only [Act.put, List.setIfInBounds_toArray, List.set_cons_zero, List.set_cons_succ]
    refine take_at 35 115 (.bool false) _ rfl rfl (by kernel_rfl) (by kernel_rfl) (by kernel_rfl) (fun _ _ _ h => h) (Or.inl ⟨by rfl, fun v hv => by skip; clear hv; go_simp⟩) hHeld ?_
    simp only [Act.put, List.setIfInBounds_toArray, List.set_cons_zero, List.set_cons_succ]
    refine wpAnyH_done (by kernel_rfl) ?_ _
    clear hHeld HBK
    have H14m : Hid (Blk w9.drew (w2.heap.size) #[.int .i64 me1, .int .i64 rev1, .int .i64 cr1, .int .i64 h1, .int .u64 (b1 : Int), .int .i64 bad1, .int .i64 lock1] 36) := Blk.drew H13m.out 1
    have H14n : Hid (Blk w9.drew (w8.heap.size) #[.int .i64 me2, .int .i64 rev2, .int .i64 cr2, .int .i64 h2, .int .u64 (b2 : Int), .int .i64 bad2, .int .i64 lock2] 36) := Blk.drew H13n.out 1
    have H14B : Hid (Below w.heap.size w w9.drew) := H13B.out.drew
    have H14Ch : Hid (Hm w9.drew a c xs ⟨me1, rev1, cr1, h1, b1, bad1, lock1⟩) := H13Ch.out.below (Below.refl _ _).drew
    have H14Cg : Hid (Wg w9.drew b9 0 d9 wl) := HCg.out.below (Below.refl _ _).drew
    clear H13m H13n H13Ch HCg H13B
    generalize w9.drew = WD at *
    go_wp2_with fail
    go_ret
    exact ⟨rfl, H14B.out⟩
  · obtain rfl : n9 = 7 := hln.symm.trans h7
    have hqm : ∀ W : World, (Op.equalIn 10000 36 (.agg #[.int .i64 me1, .int .i64 rev1, .int .i64 cr1, .int .i64 h1, .int .u64 (b1 : Int), .int .i64 bad1, .int .i64 lock1]) (.agg #[.int .i64 me2, .int .i64 rev2, .int .i64 cr2, .int .i64 h2, .int .u64 (b2 : Int), .int .i64 bad2, .int .i64 lock2])).run Tryd.prog W = .ok false W := fun W => eqMt_two ⟨me1, rev1, cr1, h1, b1, bad1, lock1⟩ ⟨me2, rev2, cr2, h2, b2, bad2, lock2⟩ W (fun h => hmm h.symm)
    clear hln h7 hmm
    go_upto_region 11 with fail
    have HBK : Hid (Blk w9.drew (w2.heap.size) #[.int .i64 me1, .int .i64 rev1, .int .i64 cr1, .int .i64 h1, .int .u64 (b1 : Int), .int .i64 bad1, .int .i64 lock1] 36 ∧ Blk w9.drew (w8.heap.size) #[.int .i64 me2, .int .i64 rev2, .int .i64 cr2, .int .i64 h2, .int .u64 (b2 : Int), .int .i64 bad2, .int .i64 lock2] 36) := ⟨Blk.drew H13m.out 1, Blk.drew H13n.out 1⟩
    refine wp_region_held_drew (S := fun v => Blk v (w2.heap.size) #[.int .i64 me1, .int .i64 rev1, .int .i64 cr1, .int .i64 h1, .int .u64 (b1 : Int), .int .i64 bad1, .int .i64 lock1] 36 ∧ Blk v (w8.heap.size) #[.int .i64 me2, .int .i64 rev2, .int .i64 cr2, .int .i64 h2, .int .u64 (b2 : Int), .int .i64 bad2, .int .i64 lock2] 36) (by kernel_rfl) HBK.out (fun hHeld => ?_)
    refine take_at 0 80 (.bool true) _ rfl rfl (by kernel_rfl) (by kernel_rfl) (by kernel_rfl) (fun _ _ _ h => h) (Or.inl ⟨by rfl, fun v hv => by skip; clear hv; go_simp⟩) hHeld ?_
    simp only [Act.put, List.setIfInBounds_toArray, List.set_cons_zero, List.set_cons_succ]
    refine take_at 1 81 (.bool false) _ rfl rfl (by kernel_rfl) (by kernel_rfl) (by kernel_rfl) (fun _ _ _ h => h) (Or.inl ⟨by rfl, fun v hv => by skip; clear hv; go_simp⟩) hHeld ?_
    simp only [Act.put, List.setIfInBounds_toArray, List.set_cons_zero, List.set_cons_succ]
    refine take_at 2 82 (.bool false) _ rfl rfl (by kernel_rfl) (by kernel_rfl) (by kernel_rfl) (fun _ _ _ h => h) (Or.inl ⟨by rfl, fun v hv => by skip; clear hv; go_simp⟩) hHeld ?_
    simp only [Act.put, List.setIfInBounds_toArray, List.set_cons_zero, List.set_cons_succ]
    refine take_at 3 83 (.int .i64 0) _ rfl rfl (by kernel_rfl) (by kernel_rfl) (by kernel_rfl) (fun _ _ _ h => h) (Or.inl ⟨by rfl, fun v hv => by skip; clear hv; go_simp⟩) hHeld ?_
    simp only [Act.put, List.setIfInBounds_toArray, List.set_cons_zero, List.set_cons_succ]
    refine take_at 4 84 (.bool false) _ rfl rfl (by kernel_rfl) (by kernel_rfl) (by kernel_rfl) (fun _ _ _ h => h) (Or.inl ⟨by rfl, fun v hv => by skip; clear hv; go_simp⟩) hHeld ?_
    simp only [Act.put, List.setIfInBounds_toArray, List.set_cons_zero, List.set_cons_succ]
    refine take_at 5 85 (.bool false) _ rfl rfl (by kernel_rfl) (by kernel_rfl) (by kernel_rfl) (fun _ _ _ h => h) (Or.inl ⟨by rfl, fun v hv => by skip; clear hv; go_simp⟩) hHeld ?_
    simp only [Act.put, List.setIfInBounds_toArray, List.set_cons_zero, List.set_cons_succ]
    refine take_at 6 86 (.bool false) _ rfl rfl (by kernel_rfl) (by kernel_rfl) (by kernel_rfl) (fun _ _ _ h => h) (Or.inl ⟨by rfl, fun v hv => by skip; clear hv; go_simp⟩) hHeld ?_
    simp only [Act.put, List.setIfInBounds_toArray, List.set_cons_zero, List.set_cons_succ]
    refine take_at 7 87 (.int .i64 0) _ rfl rfl (by kernel_rfl) (by kernel_rfl) (by kernel_rfl) (fun _ _ _ h => h) (Or.inl ⟨by rfl, fun v hv => by skip; clear hv; go_simp⟩) hHeld ?_
    simp only [Act.put, List.setIfInBounds_toArray, List.set_cons_zero, List.set_cons_succ]
    refine take_at 8 88 (.bool false) _ rfl rfl (by kernel_rfl) (by kernel_rfl) (by kernel_rfl) (fun _ _ _ h => h) (Or.inl ⟨by rfl, fun v hv => by skip; clear hv; go_simp⟩) hHeld ?_
    simp only [Act.put, List.setIfInBounds_toArray, List.set_cons_zero, List.set_cons_succ]
    refine take_at 9 89 (.bool false) _ rfl rfl (by kernel_rfl) (by kernel_rfl) (by kernel_rfl) (fun _ _ _ h => h) (Or.inl ⟨by rfl, fun v hv => by skip; clear hv; go_simp⟩) hHeld ?_
    simp only [Act.put, List.setIfInBounds_toArray, List.set_cons_zero, List.set_cons_succ]
    refine take_at 10 90 (.bool false) _ rfl rfl (by kernel_rfl) (by kernel_rfl) (by kernel_rfl) (fun _ _ _ h => h) (Or.inl ⟨by rfl, fun v hv => by skip; clear hv; go_simp⟩) hHeld ?_
    simp only [Act.put, List.setIfInBounds_toArray, List.set_cons_zero, List.set_cons_succ]
    refine take_at 11 91 (.int .i64 f8) _ rfl rfl (by kernel_rfl) (by kernel_rfl) (by kernel_rfl) (fun _ _ _ h => h) (Or.inl ⟨by rfl, fun v hv => by skip; clear hv; go_simp⟩) hHeld ?_
    simp only [Act.put, List.setIfInBounds_toArray, List.set_cons_zero, List.set_cons_succ]
    refine take_at 12 92 (.int .i64 f8) _ rfl rfl (by kernel_rfl) (by kernel_rfl) (by kernel_rfl) (fun _ _ _ h => h) (Or.inl ⟨by rfl, fun v hv => by skip; clear hv; go_simp⟩) hHeld ?_
    simp only [Act.put, List.setIfInBounds_toArray, List.set_cons_zero, List.set_cons_succ]
    refine take_at 13 93 (.bool false) _ rfl rfl (by kernel_rfl) (by kernel_rfl) (by kernel_rfl) (fun _ _ _ h => h) (Or.inl ⟨by rfl, fun v hv => by skip; clear hv; go_simp⟩) hHeld ?_
    simp only [Act.put, List.setIfInBounds_toArray, List.set_cons_zero, List.set_cons_succ]
    refine take_at 14 94 (.bool false) _ rfl rfl (by kernel_rfl) (by kernel_rfl) (by kernel_rfl) (fun _ _ _ h => h) (Or.inl ⟨by rfl, fun v hv => by skip; clear hv; go_simp⟩) hHeld ?_
    simp only [Act.put, List.setIfInBounds_toArray, List.set_cons_zero, List.set_cons_succ]
    refine take_at 15 95 (.bool false) _ rfl rfl (by kernel_rfl) (by kernel_rfl) (by kernel_rfl) (fun _ _ _ h => h) (Or.inl ⟨by rfl, fun v hv => by skip; clear hv; go_simp⟩) hHeld ?_
    simp only [Act.put, List.setIfInBounds_toArray, List.set_cons_zero, List.set_cons_succ]
    refine take_at 16 96 (.int .i64 y8) _ rfl rfl (by kernel_rfl) (by kernel_rfl) (by kernel_rfl) (fun _ _ _ h => h) (Or.inl ⟨by rfl, fun v hv => by skip; clear hv; go_simp⟩) hHeld ?_
    simp only [Act.put, List.setIfInBounds_toArray, List.set_cons_zero, List.set_cons_succ]
    refine take_at 17 97 (.int .i64 y8) _ rfl rfl (by kernel_rfl) (by kernel_rfl) (by kernel_rfl) (fun _ _ _ h => h) (Or.inl ⟨by rfl, fun v hv => by skip; clear hv; go_simp⟩) hHeld ?_
    simp only [Act.put, List.setIfInBounds_toArray, List.set_cons_zero, List.set_cons_succ]
    refine take_at 18 98 (.bool false) _ rfl rfl (by kernel_rfl) (by kernel_rfl) (by kernel_rfl) (fun _ _ _ h => h) (Or.inl ⟨by rfl, fun v hv => by skip; clear hv; go_simp⟩) hHeld ?_
    simp only [Act.put, List.setIfInBounds_toArray, List.set_cons_zero, List.set_cons_succ]
    refine take_at 19 99 (.bool false) _ rfl rfl (by kernel_rfl) (by kernel_rfl) (by kernel_rfl) (fun _ _ _ h => h) (Or.inl ⟨by rfl, fun v hv => by skip; clear hv; go_simp⟩) hHeld ?_
    simp only [Act.put, List.setIfInBounds_toArray, List.set_cons_zero, List.set_cons_succ]
    refine take_at 20 100 (.bool false) _ rfl rfl (by kernel_rfl) (by kernel_rfl) (by kernel_rfl) (fun _ _ _ h => h) (Or.inl ⟨by rfl, fun v hv => by skip; clear hv; go_simp⟩) hHeld ?_
    simp only [Act.put, List.setIfInBounds_toArray, List.set_cons_zero, List.set_cons_succ]
    refine take_at 21 101 (.slice b9 7 d9) _ rfl rfl (by kernel_rfl) (by kernel_rfl) (by kernel_rfl) (fun _ _ _ h => h) (Or.inl ⟨by rfl, fun v hv => by skip; clear hv; go_simp⟩) hHeld ?_
    simp only [Act.put, List.setIfInBounds_toArray, List.set_cons_zero, List.set_cons_succ]
    refine take_at 22 102 (.int .i64 7) _ rfl rfl (by kernel_rfl) (by kernel_rfl) (by kernel_rfl) (fun _ _ _ h => h) (Or.inl ⟨by rfl, fun v hv => by skip; clear hv; go_simp⟩) hHeld ?_
    simp only [Act.put, List.setIfInBounds_toArray, List.set_cons_zero, List.set_cons_succ]
    refine take_at 23 103 (.bool false) _ rfl rfl (by kernel_rfl) (by kernel_rfl) (by kernel_rfl) (fun _ _ _ h => h) (Or.inl ⟨by rfl, fun v hv => by skip; clear hv; go_simp⟩) hHeld ?_
    simp only [Act.put, List.setIfInBounds_toArray, List.set_cons_zero, List.set_cons_succ]
    refine take_at 24 104 (.agg #[.int .i64 me1, .int .i64 rev1, .int .i64 cr1, .int .i64 h1, .int .u64 (b1 : Int), .int .i64 bad1, .int .i64 lock1]) _ rfl rfl (by kernel_rfl) (by kernel_rfl) (by kernel_rfl) (fun _ _ _ h => h) (yieldsIf_whole (by rfl) 36 _ rfl (w2.heap.size) rfl 36 #[.int .i64 me1, .int .i64 rev1, .int .i64 cr1, .int .i64 h1, .int .u64 (b1 : Int), .int .i64 bad1, .int .i64 lock1] _ (fun v hv => hv.1) Tryd.underlying36 rfl (by kernel_rfl)) hHeld ?_
    simp only [Act.put, List.setIfInBounds_toArray, List.set_cons_zero, List.set_cons_succ]
    refine take_at 25 105 (.agg #[.int .i64 me2, .int .i64 rev2, .int .i64 cr2, .int .i64 h2, .int .u64 (b2 : Int), .int .i64 bad2, .int .i64 lock2]) _ rfl rfl (by kernel_rfl) (by kernel_rfl) (by kernel_rfl) (fun _ _ _ h => h) (yieldsIf_whole (by rfl) 36 _ rfl (w8.heap.size) rfl 36 #[.int .i64 me2, .int .i64 rev2, .int .i64 cr2, .int .i64 h2, .int .u64 (b2 : Int), .int .i64 bad2, .int .i64 lock2] _ (fun v hv => hv.2) Tryd.underlying36 rfl (by kernel_rfl)) hHeld ?_
    simp only [Act.put, List.setIfInBounds_toArray, List.set_cons_zero, List.set_cons_succ]
    refine take_at 26 106 (.bool false) _ rfl rfl (by kernel_rfl) (by kernel_rfl) (by kernel_rfl) (fun _ _ _ h => h) (Or.inl ⟨by rfl, fun v hv => by skip; clear hv; go_simp⟩) hHeld ?_
    simp only [Act.put, List.setIfInBounds_toArray, List.set_cons_zero, List.set_cons_succ]
    refine take_at 27 107 (.bool false) _ rfl rfl (by kernel_rfl) (by kernel_rfl) (by kernel_rfl) (fun _ _ _ h => h) (Or.inl ⟨by rfl, fun v hv => by skip; clear hv; go_simp⟩) hHeld ?_
    simp only [Act.put, List.setIfInBounds_toArray, List.set_cons_zero, List.set_cons_succ]
    refine take_at 28 108 (.bool false) _ rfl rfl (by kernel_rfl) (by kernel_rfl) (by kernel_rfl) (fun _ _ _ h => h) (Or.inl ⟨by rfl, fun v hv => by skip; clear hv; go_simp⟩) hHeld ?_
    simp only [Act.put, List.setIfInBounds_toArray, List.set_cons_zero, List.set_cons_succ]
    refine take_at 29 109 (.bool false) _ rfl rfl (by kernel_rfl) (by kernel_rfl) (by kernel_rfl) (fun _ _ _ h => h) (Or.inl ⟨by rfl, fun v hv => by skip; clear hv; go_simp⟩) hHeld ?_
    simp only [Act.put, List.setIfInBounds_toArray, List.set_cons_zero, List.set_cons_succ]
    refine take_at 30 110 (.pointer (some ⟨w2.heap.size, 0, none⟩)) _ rfl rfl (by kernel_rfl) (by kernel_rfl) (by kernel_rfl) (fun _ _ _ h => h) (Or.inl ⟨by rfl, fun v hv => by skip; clear hv; go_simp⟩) hHeld ?_
    simp only [Act.put, List.setIfInBounds_toArray, List.set_cons_zero, List.set_cons_succ]
    refine take_at 31 111 (.int .i64 me1) _ rfl rfl (by kernel_rfl) (by kernel_rfl) (by kernel_rfl) (fun _ _ _ h => h) (Or.inl ⟨by rfl, fun v hv => by have h2 := hv.1.cell 0; clear hv; go_simp⟩) hHeld ?_
    simp only [Act.put, List.setIfInBounds_toArray, List.set_cons_zero, List.set_cons_succ]
    refine take_at 32 112 (.int .i64 me0) _ rfl rfl (by kernel_rfl) (by kernel_rfl) (by kernel_rfl) (fun _ _ _ h => h) (Or.inl ⟨by rfl, fun v hv => by skip; clear hv; go_simp⟩) hHeld ?_
    simp only [Act.put, List.setIfInBounds_toArray, List.set_cons_zero, List.set_cons_succ]
    refine call_at 33 113 (.int .i64 me1) _ rfl rfl (by kernel_rfl) (by kernel_rfl) (by kernel_rfl) (fun _ _ _ h => h) 6 #[.int .i64 me0, .int .i64 50] ⟨by rfl, fun v hv => by clear hv; go_simp⟩ (fun v _ => HP.out v) hHeld ?_
    simp only [Act.put, List.setIfInBounds_toArray, List.set_cons_zero, List.set_cons_succ]
    refine take_at 34 114 (.bool false) _ rfl rfl (by kernel_rfl) (by kernel_rfl) (by kernel_rfl) (fun _ _ _ h => h) (Or.inl ⟨by rfl, fun v hv => by skip; clear hv; go_simp⟩) hHeld ?_
    simp only [Act.put, List.setIfInBounds_toArray, List.set_cons_zero, List.set_cons_succ]
    refine take_at 35 115 (.bool false) _ rfl rfl (by kernel_rfl) (by kernel_rfl) (by kernel_rfl) (fun _ _ _ h => h) (Or.inl ⟨by rfl, fun v hv => by skip; clear hv; go_simp⟩) hHeld ?_
    simp only [Act.put, List.setIfInBounds_toArray, List.set_cons_zero, List.set_cons_succ]
    refine wpAnyH_done (by kernel_rfl) ?_ _
    clear hHeld HBK
    have H14m : Hid (Blk w9.drew (w2.heap.size) #[.int .i64 me1, .int .i64 rev1, .int .i64 cr1, .int .i64 h1, .int .u64 (b1 : Int), .int .i64 bad1, .int .i64 lock1] 36) := Blk.drew H13m.out 1
    have H14n : Hid (Blk w9.drew (w8.heap.size) #[.int .i64 me2, .int .i64 rev2, .int .i64 cr2, .int .i64 h2, .int .u64 (b2 : Int), .int .i64 bad2, .int .i64 lock2] 36) := Blk.drew H13n.out 1
    have H14B : Hid (Below w.heap.size w w9.drew) := H13B.out.drew
    have H14Ch : Hid (Hm w9.drew a c xs ⟨me1, rev1, cr1, h1, b1, bad1, lock1⟩) := H13Ch.out.below (Below.refl _ _).drew
    have H14Cg : Hid (Wg w9.drew b9 7 d9 wl) := HCg.out.below (Below.refl _ _).drew
    clear H13m H13n H13Ch HCg H13B
    generalize w9.drew = WD at *
    clear hqm e1 e2 e3
    have HAQ : Hid (Calls Tryd.prog 12 #[.slice a 12 c, .slice b9 7 d9, .int .i64 (q : Int)] WD fun e w' => ∃ a' c' xs', e = .returned (.tuple #[.slice a' 12 c', .int .i64 0]) ∧ (q = 7 → Hm w' a' c' xs' ⟨me2, rev2, cr2, h2, b2, bad2, lock2⟩) ∧ (q < 7 → Hm w' a' c' xs' ⟨me1, rev1, cr1, h1, b1, bad1, lock1⟩) ∧ Below WD.heap.size WD w') := HAP.out WD a c xs ⟨me1, rev1, cr1, h1, b1, bad1, lock1⟩ ⟨me2, rev2, cr2, h2, b2, bad2, lock2⟩ b9 d9 wl q H14Ch.out H14Cg.out HWI.out HM2.out HQ7.out
    clear H14Ch H14Cg HWI
    go_wp2_with fail
    refine (HPK.out _).mono ?_
    rintro e wq ⟨rfl, hwq⟩
    subst hwq
    go_wp2_with fail
    refine HAQ.out.mono ?_
    rintro e w10 ⟨a10, c10, xs10, rfl, hA, hB, hb10⟩
    have H15m : Hid (Blk w10 (w2.heap.size) #[.int .i64 me1, .int .i64 rev1, .int .i64 cr1, .int .i64 h1, .int .u64 (b1 : Int), .int .i64 bad1, .int .i64 lock1] 36) := H14m.out.next hb10
    have H15n : Hid (Blk w10 (w8.heap.size) #[.int .i64 me2, .int .i64 rev2, .int .i64 cr2, .int .i64 h2, .int .u64 (b2 : Int), .int .i64 bad2, .int .i64 lock2] 36) := H14n.out.next hb10
    have H15B : Hid (Below w.heap.size w w10) := bel_step H14B.out hb10
    clear H14m H14n H14B hb10 HAQ
    have hqq := HQ7.out
    by_cases hq : q < 7
    · have HH : Hid (Hm w10 a10 c10 xs10 ⟨me1, rev1, cr1, h1, b1, bad1, lock1⟩) := hB hq
      have hdq : decide ((q : Int) < 7) = true := by simp; omega
      have hqm : ∀ W : World, (Op.equalIn 10000 36 (.agg #[.int .i64 me1, .int .i64 rev1, .int .i64 cr1, .int .i64 h1, .int .u64 (b1 : Int), .int .i64 bad1, .int .i64 lock1]) (.agg #[.int .i64 me1, .int .i64 rev1, .int .i64 cr1, .int .i64 h1, .int .u64 (b1 : Int), .int .i64 bad1, .int .i64 lock1])).run Tryd.prog W = .ok true W := fun W => eqMt _ _ _ _ _ _ _ W
      clear hA hB hq hqq
      go_wp2_with fail
      refine (HBT.out _ _ _ _ _ HH.out).mono ?_
      rintro e w11 ⟨rfl, hb11⟩
      have H16m : Hid (Blk w11 (w2.heap.size) #[.int .i64 me1, .int .i64 rev1, .int .i64 cr1, .int .i64 h1, .int .u64 (b1 : Int), .int .i64 bad1, .int .i64 lock1] 36) := H15m.out.next hb11
      have H16n : Hid (Blk w11 (w8.heap.size) #[.int .i64 me2, .int .i64 rev2, .int .i64 cr2, .int .i64 h2, .int .u64 (b2 : Int), .int .i64 bad2, .int .i64 lock2] 36) := H15n.out.next hb11
      have H16B : Hid (Below w.heap.size w w11) := bel_step H15B.out hb11
      unfold Mt.v Mt.cells
      simp only []
      have H17m : Hid (Blk (w11.alloc (.cells #[.int .i64 me1, .int .i64 rev1, .int .i64 cr1, .int .i64 h1, .int .u64 (b1 : Int), .int .i64 bad1, .int .i64 lock1] 36)) (w2.heap.size) #[.int .i64 me1, .int .i64 rev1, .int .i64 cr1, .int .i64 h1, .int .u64 (b1 : Int), .int .i64 bad1, .int .i64 lock1] 36) := (H16m.out).alloc _
      have H17n : Hid (Blk (w11.alloc (.cells #[.int .i64 me1, .int .i64 rev1, .int .i64 cr1, .int .i64 h1, .int .u64 (b1 : Int), .int .i64 bad1, .int .i64 lock1] 36)) (w8.heap.size) #[.int .i64 me2, .int .i64 rev2, .int .i64 cr2, .int .i64 h2, .int .u64 (b2 : Int), .int .i64 bad2, .int .i64 lock2] 36) := (H16n.out).alloc _
      have H17z : Hid (Blk (w11.alloc (.cells #[.int .i64 me1, .int .i64 rev1, .int .i64 cr1, .int .i64 h1, .int .u64 (b1 : Int), .int .i64 bad1, .int .i64 lock1] 36)) (w11.heap.size) #[.int .i64 me1, .int .i64 rev1, .int .i64 cr1, .int .i64 h1, .int .u64 (b1 : Int), .int .i64 bad1, .int .i64 lock1] 36) := (Blk.new w11 _ _)
      have L17zm : Hid (w2.heap.size < w11.heap.size) := Nat.lt_of_lt_of_le H16m.out.lt (by simp)
      have L17zn : Hid (w8.heap.size < w11.heap.size) := Nat.lt_of_lt_of_le H16n.out.lt (by simp)
      have H17B : Hid (Below w.heap.size w (w11.alloc (.cells #[.int .i64 me1, .int .i64 rev1, .int .i64 cr1, .int .i64 h1, .int .u64 (b1 : Int), .int .i64 bad1, .int .i64 lock1] 36))) := (H16B.out).alloc (Nat.le_trans H16B.out.size (by simp)) _
      have L170 : Hid (w.heap.size ≤ w11.heap.size) := H16B.out.size
      clear H15m H15n H15B H16m H16n H16B hb11 HH HBT
      go_wp2_with (first
        | (refine wp_whole rfl 36 _ rfl (w2.heap.size) rfl 36 #[.int .i64 me1, .int .i64 rev1, .int .i64 cr1, .int .i64 h1, .int .u64 (b1 : Int), .int .i64 bad1, .int .i64 lock1] _ H17m.out Tryd.underlying36 rfl (by kernel_rfl) ?_)
        | (refine wp_wholeG (by rfl) 36 _ rfl (w2.heap.size) rfl 36 #[.int .i64 me1, .int .i64 rev1, .int .i64 cr1, .int .i64 h1, .int .u64 (b1 : Int), .int .i64 bad1, .int .i64 lock1] _ H17m.out Tryd.underlying36 rfl (by kernel_rfl) ?_)
        | (refine wp_whole rfl 36 _ rfl (w8.heap.size) rfl 36 #[.int .i64 me2, .int .i64 rev2, .int .i64 cr2, .int .i64 h2, .int .u64 (b2 : Int), .int .i64 bad2, .int .i64 lock2] _ H17n.out Tryd.underlying36 rfl (by kernel_rfl) ?_)
        | (refine wp_wholeG (by rfl) 36 _ rfl (w8.heap.size) rfl 36 #[.int .i64 me2, .int .i64 rev2, .int .i64 cr2, .int .i64 h2, .int .u64 (b2 : Int), .int .i64 bad2, .int .i64 lock2] _ H17n.out Tryd.underlying36 rfl (by kernel_rfl) ?_)
        | (refine wp_whole rfl 36 _ rfl (w11.heap.size) rfl 36 #[.int .i64 me1, .int .i64 rev1, .int .i64 cr1, .int .i64 h1, .int .u64 (b1 : Int), .int .i64 bad1, .int .i64 lock1] _ H17z.out Tryd.underlying36 rfl (by kernel_rfl) ?_)
        | (refine wp_wholeG (by rfl) 36 _ rfl (w11.heap.size) rfl 36 #[.int .i64 me1, .int .i64 rev1, .int .i64 cr1, .int .i64 h1, .int .u64 (b1 : Int), .int .i64 bad1, .int .i64 lock1] _ H17z.out Tryd.underlying36 rfl (by kernel_rfl) ?_)
        | fail)
      go_ret
      exact ⟨rfl, H17B.out⟩
    · have HH : Hid (Hm w10 a10 c10 xs10 ⟨me2, rev2, cr2, h2, b2, bad2, lock2⟩) := hA (by omega)
      have hdq : decide ((q : Int) < 7) = false := by simp; omega
      have hqm : ∀ W : World, (Op.equalIn 10000 36 (.agg #[.int .i64 me2, .int .i64 rev2, .int .i64 cr2, .int .i64 h2, .int .u64 (b2 : Int), .int .i64 bad2, .int .i64 lock2]) (.agg #[.int .i64 me2, .int .i64 rev2, .int .i64 cr2, .int .i64 h2, .int .u64 (b2 : Int), .int .i64 bad2, .int .i64 lock2])).run Tryd.prog W = .ok true W := fun W => eqMt _ _ _ _ _ _ _ W
      clear hA hB hq hqq
      go_wp2_with fail
      refine (HBT.out _ _ _ _ _ HH.out).mono ?_
      rintro e w11 ⟨rfl, hb11⟩
      have H16m : Hid (Blk w11 (w2.heap.size) #[.int .i64 me1, .int .i64 rev1, .int .i64 cr1, .int .i64 h1, .int .u64 (b1 : Int), .int .i64 bad1, .int .i64 lock1] 36) := H15m.out.next hb11
      have H16n : Hid (Blk w11 (w8.heap.size) #[.int .i64 me2, .int .i64 rev2, .int .i64 cr2, .int .i64 h2, .int .u64 (b2 : Int), .int .i64 bad2, .int .i64 lock2] 36) := H15n.out.next hb11
      have H16B : Hid (Below w.heap.size w w11) := bel_step H15B.out hb11
      unfold Mt.v Mt.cells
      simp only []
      have H17m : Hid (Blk (w11.alloc (.cells #[.int .i64 me2, .int .i64 rev2, .int .i64 cr2, .int .i64 h2, .int .u64 (b2 : Int), .int .i64 bad2, .int .i64 lock2] 36)) (w2.heap.size) #[.int .i64 me1, .int .i64 rev1, .int .i64 cr1, .int .i64 h1, .int .u64 (b1 : Int), .int .i64 bad1, .int .i64 lock1] 36) := (H16m.out).alloc _
      have H17n : Hid (Blk (w11.alloc (.cells #[.int .i64 me2, .int .i64 rev2, .int .i64 cr2, .int .i64 h2, .int .u64 (b2 : Int), .int .i64 bad2, .int .i64 lock2] 36)) (w8.heap.size) #[.int .i64 me2, .int .i64 rev2, .int .i64 cr2, .int .i64 h2, .int .u64 (b2 : Int), .int .i64 bad2, .int .i64 lock2] 36) := (H16n.out).alloc _
      have H17z : Hid (Blk (w11.alloc (.cells #[.int .i64 me2, .int .i64 rev2, .int .i64 cr2, .int .i64 h2, .int .u64 (b2 : Int), .int .i64 bad2, .int .i64 lock2] 36)) (w11.heap.size) #[.int .i64 me2, .int .i64 rev2, .int .i64 cr2, .int .i64 h2, .int .u64 (b2 : Int), .int .i64 bad2, .int .i64 lock2] 36) := (Blk.new w11 _ _)
      have L17zm : Hid (w2.heap.size < w11.heap.size) := Nat.lt_of_lt_of_le H16m.out.lt (by simp)
      have L17zn : Hid (w8.heap.size < w11.heap.size) := Nat.lt_of_lt_of_le H16n.out.lt (by simp)
      have H17B : Hid (Below w.heap.size w (w11.alloc (.cells #[.int .i64 me2, .int .i64 rev2, .int .i64 cr2, .int .i64 h2, .int .u64 (b2 : Int), .int .i64 bad2, .int .i64 lock2] 36))) := (H16B.out).alloc (Nat.le_trans H16B.out.size (by simp)) _
      have L170 : Hid (w.heap.size ≤ w11.heap.size) := H16B.out.size
      clear H15m H15n H15B H16m H16n H16B hb11 HH HBT
      go_wp2_with (first
        | (refine wp_whole rfl 36 _ rfl (w2.heap.size) rfl 36 #[.int .i64 me1, .int .i64 rev1, .int .i64 cr1, .int .i64 h1, .int .u64 (b1 : Int), .int .i64 bad1, .int .i64 lock1] _ H17m.out Tryd.underlying36 rfl (by kernel_rfl) ?_)
        | (refine wp_wholeG (by rfl) 36 _ rfl (w2.heap.size) rfl 36 #[.int .i64 me1, .int .i64 rev1, .int .i64 cr1, .int .i64 h1, .int .u64 (b1 : Int), .int .i64 bad1, .int .i64 lock1] _ H17m.out Tryd.underlying36 rfl (by kernel_rfl) ?_)
        | (refine wp_whole rfl 36 _ rfl (w8.heap.size) rfl 36 #[.int .i64 me2, .int .i64 rev2, .int .i64 cr2, .int .i64 h2, .int .u64 (b2 : Int), .int .i64 bad2, .int .i64 lock2] _ H17n.out Tryd.underlying36 rfl (by kernel_rfl) ?_)
        | (refine wp_wholeG (by rfl) 36 _ rfl (w8.heap.size) rfl 36 #[.int .i64 me2, .int .i64 rev2, .int .i64 cr2, .int .i64 h2, .int .u64 (b2 : Int), .int .i64 bad2, .int .i64 lock2] _ H17n.out Tryd.underlying36 rfl (by kernel_rfl) ?_)
        | (refine wp_whole rfl 36 _ rfl (w11.heap.size) rfl 36 #[.int .i64 me2, .int .i64 rev2, .int .i64 cr2, .int .i64 h2, .int .u64 (b2 : Int), .int .i64 bad2, .int .i64 lock2] _ H17z.out Tryd.underlying36 rfl (by kernel_rfl) ?_)
        | (refine wp_wholeG (by rfl) 36 _ rfl (w11.heap.size) rfl 36 #[.int .i64 me2, .int .i64 rev2, .int .i64 cr2, .int .i64 h2, .int .u64 (b2 : Int), .int .i64 bad2, .int .i64 lock2] _ H17z.out Tryd.underlying36 rfl (by kernel_rfl) ?_)
        | fail)
      go_ret
      exact ⟨rfl, H17B.out⟩
set_option maxHeartbeats 8000000 in
theorem cut_false (me0 me k0 : Int) (q : Nat) (a0 : Option Addr) (len0 cap0 : Nat) (zs : List Pr) (x0 x1 x2 x3 : Int) (kk : Tok) (w : World) (hq : q ≤ 7)
    (hp : ∀ W, Calls Tryd.prog 6 #[.int .i64 me0, .int .i64 50] W fun e w' => e = .returned (.int .i64 me) ∧ w' = W)
    (hpk : ∀ W, Calls Tryd.prog 6 #[.int .i64 k0, .int .i64 8] W fun e w' => e = .returned (.int .i64 (q : Int)) ∧ w' = W)
    (hat : ∀ W, Below w.heap.size w W → Calls Tryd.prog 5 #[.int .i64 me, .slice a0 len0 cap0] W fun e w' => AtPost W me zs (min len0 12) e w')
    (hbt : ∀ W a c xs m, Hm W a c xs m → Calls Tryd.prog 7 #[.slice a 12 c] W fun e w' => e = .returned (.tuple #[m.v, .int .i64 0]) ∧ Below W.heap.size W w')
    (hso : ∀ W ao no co l m, Below w.heap.size w W → Came W ao no co l → Alive W ao → May l → l.length ≤ 12 → Mw m → Calls Tryd.prog 8 #[.agg #[.slice ao no co], m.v, .agg #[.int .i64 x0, .int .i64 x1, .int .i64 x2, .int .i64 x3]] W fun e w' => ∃ a' n' co' ls, ∃ t : Nat, e = .returned (.tuple #[.agg #[.slice a' n' co'], .agg #[.int .i64 (kk.c : Int), .int .i64 (kk.i : Int), .int .i64 (kk.a : Int), .int .i64 (t : Int)], .bool true]) ∧ Came w' a' n' co' ls ∧ Alive w' a' ∧ Near W ao a' ∧ SoldIs m l kk ls t ∧ Below W.heap.size W w')
    (hfm : ∀ W (t : Nat), (⟨kk.c, kk.i, kk.a, t⟩ : Tok).ok → Below w.heap.size w W → Calls Tryd.prog 9 #[.agg #[.int .i64 (kk.c : Int), .int .i64 (kk.i : Int), .int .i64 (kk.a : Int), .int .i64 (t : Int)]] W fun e w' => e = .returned (.tuple #[.string (fmtB (97 * (Tok.num ⟨kk.c, kk.i, kk.a, t⟩))), .int .i64 0]) ∧ Below W.heap.size W w')
    (hke : ∀ W (m : Mt) ao no co ls (t : Nat), Below w.heap.size w W → Mw m → Came W ao no co ls → Calls Tryd.prog 10 #[m.v, .agg #[.slice ao no co], .agg #[.int .i64 (kk.c : Int), .int .i64 (kk.i : Int), .int .i64 (kk.a : Int), .int .i64 (t : Int)]] W fun e w' => KeyPost W m ls kk.c kk.i kk.a t e w')
    (hkd : ∀ W a c xs m ao no co ls (t : Nat), Below w.heap.size w W → (⟨kk.c, kk.i, kk.a, t⟩ : Tok).ok → Hm W a c xs m → Came W ao no co ls → May ls → Calls Tryd.prog 11 #[.slice a 12 c, .agg #[.slice ao no co], .string (fmtB (97 * (Tok.num ⟨kk.c, kk.i, kk.a, t⟩)))] W fun e w' => HKeyed W xs m ls kk.c kk.i kk.a t e w')
    (hap : ∀ W a c xs m m' b d wl (q : Nat), Hm W a c xs m → Wg W b 7 d wl → WrIs xs m m' wl → Mw m' → q ≤ 7 → Calls Tryd.prog 12 #[.slice a 12 c, .slice b 7 d, .int .i64 (q : Int)] W fun e w' => ∃ a' c' xs', e = .returned (.tuple #[.slice a' 12 c', .int .i64 0]) ∧ (q = 7 → Hm w' a' c' xs' m') ∧ (q < 7 → Hm w' a' c' xs' m) ∧ Below W.heap.size W w')
    : Calls Tryd.prog 3 #[.int .i64 me0, .slice a0 len0 cap0, .agg #[.int .i64 x0, .int .i64 x1, .int .i64 x2, .int .i64 x3], .bool false, .int .i64 k0] w fun e w' => e = .returned (.bool true) ∧ Below w.heap.size w w' := by
  have HP : Hid (∀ W, Calls Tryd.prog 6 #[.int .i64 me0, .int .i64 50] W fun e w' => e = .returned (.int .i64 me) ∧ w' = W) := hp
  have HPK : Hid (∀ W, Calls Tryd.prog 6 #[.int .i64 k0, .int .i64 8] W fun e w' => e = .returned (.int .i64 (q : Int)) ∧ w' = W) := hpk
  have HAT : Hid (∀ W, Below w.heap.size w W → Calls Tryd.prog 5 #[.int .i64 me, .slice a0 len0 cap0] W fun e w' => AtPost W me zs (min len0 12) e w') := hat
  have HBT : Hid (∀ W a c xs m, Hm W a c xs m → Calls Tryd.prog 7 #[.slice a 12 c] W fun e w' => e = .returned (.tuple #[m.v, .int .i64 0]) ∧ Below W.heap.size W w') := hbt
  have HSO : Hid (∀ W ao no co l m, Below w.heap.size w W → Came W ao no co l → Alive W ao → May l → l.length ≤ 12 → Mw m → Calls Tryd.prog 8 #[.agg #[.slice ao no co], m.v, .agg #[.int .i64 x0, .int .i64 x1, .int .i64 x2, .int .i64 x3]] W fun e w' => ∃ a' n' co' ls, ∃ t : Nat, e = .returned (.tuple #[.agg #[.slice a' n' co'], .agg #[.int .i64 (kk.c : Int), .int .i64 (kk.i : Int), .int .i64 (kk.a : Int), .int .i64 (t : Int)], .bool true]) ∧ Came w' a' n' co' ls ∧ Alive w' a' ∧ Near W ao a' ∧ SoldIs m l kk ls t ∧ Below W.heap.size W w') := hso
  have HFM : Hid (∀ W (t : Nat), (⟨kk.c, kk.i, kk.a, t⟩ : Tok).ok → Below w.heap.size w W → Calls Tryd.prog 9 #[.agg #[.int .i64 (kk.c : Int), .int .i64 (kk.i : Int), .int .i64 (kk.a : Int), .int .i64 (t : Int)]] W fun e w' => e = .returned (.tuple #[.string (fmtB (97 * (Tok.num ⟨kk.c, kk.i, kk.a, t⟩))), .int .i64 0]) ∧ Below W.heap.size W w') := hfm
  have HKE : Hid (∀ W (m : Mt) ao no co ls (t : Nat), Below w.heap.size w W → Mw m → Came W ao no co ls → Calls Tryd.prog 10 #[m.v, .agg #[.slice ao no co], .agg #[.int .i64 (kk.c : Int), .int .i64 (kk.i : Int), .int .i64 (kk.a : Int), .int .i64 (t : Int)]] W fun e w' => KeyPost W m ls kk.c kk.i kk.a t e w') := hke
  have HKD : Hid (∀ W a c xs m ao no co ls (t : Nat), Below w.heap.size w W → (⟨kk.c, kk.i, kk.a, t⟩ : Tok).ok → Hm W a c xs m → Came W ao no co ls → May ls → Calls Tryd.prog 11 #[.slice a 12 c, .agg #[.slice ao no co], .string (fmtB (97 * (Tok.num ⟨kk.c, kk.i, kk.a, t⟩)))] W fun e w' => HKeyed W xs m ls kk.c kk.i kk.a t e w') := hkd
  have HAP : Hid (∀ W a c xs m m' b d wl (q : Nat), Hm W a c xs m → Wg W b 7 d wl → WrIs xs m m' wl → Mw m' → q ≤ 7 → Calls Tryd.prog 12 #[.slice a 12 c, .slice b 7 d, .int .i64 (q : Int)] W fun e w' => ∃ a' c' xs', e = .returned (.tuple #[.slice a' 12 c', .int .i64 0]) ∧ (q = 7 → Hm w' a' c' xs' m') ∧ (q < 7 → Hm w' a' c' xs' m) ∧ Below W.heap.size W w') := hap
  have HQ7 : Hid (q ≤ 7) := hq
  clear hq hp hpk hat hbt hso hfm hke hkd hap
  have H0x : Hid (Blk (w.alloc (.cells #[.int .i64 x0, .int .i64 x1, .int .i64 x2, .int .i64 x3] 24)) (w.heap.size) #[.int .i64 x0, .int .i64 x1, .int .i64 x2, .int .i64 x3] 24) := Blk.new w _ _
  have H0B : Hid (Below w.heap.size w (w.alloc (.cells #[.int .i64 x0, .int .i64 x1, .int .i64 x2, .int .i64 x3] 24))) := (Below.refl w.heap.size w).alloc (by simp) _
  go_enter Tryd.func3, Tryd.ntmps3
  go_wp2_with fail
  refine (HP.out _).mono ?_
  rintro e w0 ⟨rfl, rfl⟩
  go_wp2_with fail
  refine (HAT.out _ H0B.out).mono ?_
  rintro e w1 ⟨a, c, xs, m, ao, no, co, l, rfl, hm1, hc1, hal1, hlo1, hat1, hb1⟩
  have H1x : Hid (Blk w1 (w.heap.size) #[.int .i64 x0, .int .i64 x1, .int .i64 x2, .int .i64 x3] 24) := H0x.out.next hb1
  have H1B : Hid (Below w.heap.size w w1) := bel_step H0B.out hb1
  have HCh : Hid (Hm w1 a c xs m) := hm1
  have HCc : Hid (Came w1 ao no co l) := hc1
  have HCal : Hid (Alive w1 ao) := hal1
  have HNO : Hid (∀ y, ao = some y → y.block ≠ w1.heap.size) := alive_ne hal1
  have HMY : Hid (May l ∧ l.length ≤ 12 ∧ m.me = me) := ⟨hat1.may, by have := hat1.len; omega, hat1.me⟩
  have H2x : Hid (Blk (w1.alloc (.cells #[.slice ao no co] 28)) (w.heap.size) #[.int .i64 x0, .int .i64 x1, .int .i64 x2, .int .i64 x3] 24) := (H1x.out).alloc _
  have H2o : Hid (Blk (w1.alloc (.cells #[.slice ao no co] 28)) (w1.heap.size) #[.slice ao no co] 28) := (Blk.new w1 _ _)
  have L2ox : Hid (w.heap.size < w1.heap.size) := Nat.lt_of_lt_of_le H1x.out.lt (by simp)
  have H2B : Hid (Below w.heap.size w (w1.alloc (.cells #[.slice ao no co] 28))) := (H1B.out).alloc (Nat.le_trans H1B.out.size (by simp)) _
  have L20 : Hid (w.heap.size ≤ w1.heap.size) := H1B.out.size
  have H2Ch : Hid (Hm (w1.alloc (.cells #[.slice ao no co] 28)) a c xs m) := HCh.out.below ((Below.refl w1.heap.size w1).alloc (by simp) _)
  have H2Cc : Hid (Came (w1.alloc (.cells #[.slice ao no co] 28)) ao no co l) := HCc.out.below ((Below.refl w1.heap.size w1).alloc (by simp) _)
  have H2Cal : Hid (Alive (w1.alloc (.cells #[.slice ao no co] 28)) ao) := HCal.out.below ((Below.refl w1.heap.size w1).alloc (by simp) _)
  clear H0x H0B H1x HCh HCc HCal H1B hb1 hm1 hc1 hal1 hlo1 hat1 HAT
  go_wp2_with (first
    | (refine wp_whole rfl 24 _ rfl (w.heap.size) rfl 24 #[.int .i64 x0, .int .i64 x1, .int .i64 x2, .int .i64 x3] _ H2x.out Tryd.underlying24 rfl (by kernel_rfl) ?_)
    | (refine wp_wholeG (by rfl) 24 _ rfl (w.heap.size) rfl 24 #[.int .i64 x0, .int .i64 x1, .int .i64 x2, .int .i64 x3] _ H2x.out Tryd.underlying24 rfl (by kernel_rfl) ?_)
    | (refine wp_whole rfl 28 _ rfl (w1.heap.size) rfl 28 #[.slice ao no co] _ H2o.out Tryd.underlying28 rfl (by kernel_rfl) ?_)
    | (refine wp_wholeG (by rfl) 28 _ rfl (w1.heap.size) rfl 28 #[.slice ao no co] _ H2o.out Tryd.underlying28 rfl (by kernel_rfl) ?_)
    | fail)
  refine (HBT.out _ _ _ _ _ H2Ch.out).mono ?_
  rintro e w2 ⟨rfl, hb2⟩
  have H3x : Hid (Blk w2 (w.heap.size) #[.int .i64 x0, .int .i64 x1, .int .i64 x2, .int .i64 x3] 24) := H2x.out.next hb2
  have H3o : Hid (Blk w2 (w1.heap.size) #[.slice ao no co] 28) := H2o.out.next hb2
  have H3B : Hid (Below w.heap.size w w2) := bel_step H2B.out hb2
  have H3Ch : Hid (Hm w2 a c xs m) := H2Ch.out.below hb2
  have H3Cc : Hid (Came w2 ao no co l) := H2Cc.out.below hb2
  have H3Cal : Hid (Alive w2 ao) := H2Cal.out.below hb2
  obtain ⟨me1, rev1, cr1, h1, b1, bad1, lock1⟩ := m
  obtain ⟨hmy1, hmy2, hmy3⟩ := HMY.out
  simp only [] at hmy3
  subst hmy3
  have HMZ : Hid (May l ∧ l.length ≤ 12) := ⟨hmy1, hmy2⟩
  unfold Mt.v Mt.cells
  simp only []
  have H4x : Hid (Blk (w2.alloc (.cells #[.int .i64 me1, .int .i64 rev1, .int .i64 cr1, .int .i64 h1, .int .u64 (b1 : Int), .int .i64 bad1, .int .i64 lock1] 36)) (w.heap.size) #[.int .i64 x0, .int .i64 x1, .int .i64 x2, .int .i64 x3] 24) := (H3x.out).alloc _
  have H4o : Hid (Blk (w2.alloc (.cells #[.int .i64 me1, .int .i64 rev1, .int .i64 cr1, .int .i64 h1, .int .u64 (b1 : Int), .int .i64 bad1, .int .i64 lock1] 36)) (w1.heap.size) #[.slice ao no co] 28) := (H3o.out).alloc _
  have H4m : Hid (Blk (w2.alloc (.cells #[.int .i64 me1, .int .i64 rev1, .int .i64 cr1, .int .i64 h1, .int .u64 (b1 : Int), .int .i64 bad1, .int .i64 lock1] 36)) (w2.heap.size) #[.int .i64 me1, .int .i64 rev1, .int .i64 cr1, .int .i64 h1, .int .u64 (b1 : Int), .int .i64 bad1, .int .i64 lock1] 36) := (Blk.new w2 _ _)
  have L4mx : Hid (w.heap.size < w2.heap.size) := Nat.lt_of_lt_of_le H3x.out.lt (by simp)
  have L4mo : Hid (w1.heap.size < w2.heap.size) := Nat.lt_of_lt_of_le H3o.out.lt (by simp)
  have H4B : Hid (Below w.heap.size w (w2.alloc (.cells #[.int .i64 me1, .int .i64 rev1, .int .i64 cr1, .int .i64 h1, .int .u64 (b1 : Int), .int .i64 bad1, .int .i64 lock1] 36))) := (H3B.out).alloc (Nat.le_trans H3B.out.size (by simp)) _
  have L40 : Hid (w.heap.size ≤ w2.heap.size) := H3B.out.size
  have H4Ch : Hid (Hm (w2.alloc (.cells #[.int .i64 me1, .int .i64 rev1, .int .i64 cr1, .int .i64 h1, .int .u64 (b1 : Int), .int .i64 bad1, .int .i64 lock1] 36)) a c xs ⟨me1, rev1, cr1, h1, b1, bad1, lock1⟩) := H3Ch.out.below ((Below.refl w2.heap.size w2).alloc (by simp) _)
  have H4Cc : Hid (Came (w2.alloc (.cells #[.int .i64 me1, .int .i64 rev1, .int .i64 cr1, .int .i64 h1, .int .u64 (b1 : Int), .int .i64 bad1, .int .i64 lock1] 36)) ao no co l) := H3Cc.out.below ((Below.refl w2.heap.size w2).alloc (by simp) _)
  have H4Cal : Hid (Alive (w2.alloc (.cells #[.int .i64 me1, .int .i64 rev1, .int .i64 cr1, .int .i64 h1, .int .u64 (b1 : Int), .int .i64 bad1, .int .i64 lock1] 36)) ao) := H3Cal.out.below ((Below.refl w2.heap.size w2).alloc (by simp) _)
  clear H2x H2o H2Ch H2Cc H2Cal H2B H3x H3o H3Ch H3Cc H3Cal H3B hb2 hmy1 hmy2 HMY
  have q_o_0 : (w2.alloc (.cells #[.int .i64 me1, .int .i64 rev1, .int .i64 cr1, .int .i64 h1, .int .u64 (b1 : Int), .int .i64 bad1, .int .i64 lock1] 36)).cell? ⟨w1.heap.size, 0, none⟩ = some (.slice ao no co) := H4o.out.cell 0
  go_wp2_with (first
    | (refine wp_whole rfl 24 _ rfl (w.heap.size) rfl 24 #[.int .i64 x0, .int .i64 x1, .int .i64 x2, .int .i64 x3] _ H4x.out Tryd.underlying24 rfl (by kernel_rfl) ?_)
    | (refine wp_wholeG (by rfl) 24 _ rfl (w.heap.size) rfl 24 #[.int .i64 x0, .int .i64 x1, .int .i64 x2, .int .i64 x3] _ H4x.out Tryd.underlying24 rfl (by kernel_rfl) ?_)
    | (refine wp_whole rfl 28 _ rfl (w1.heap.size) rfl 28 #[.slice ao no co] _ H4o.out Tryd.underlying28 rfl (by kernel_rfl) ?_)
    | (refine wp_wholeG (by rfl) 28 _ rfl (w1.heap.size) rfl 28 #[.slice ao no co] _ H4o.out Tryd.underlying28 rfl (by kernel_rfl) ?_)
    | (refine wp_whole rfl 36 _ rfl (w2.heap.size) rfl 36 #[.int .i64 me1, .int .i64 rev1, .int .i64 cr1, .int .i64 h1, .int .u64 (b1 : Int), .int .i64 bad1, .int .i64 lock1] _ H4m.out Tryd.underlying36 rfl (by kernel_rfl) ?_)
    | (refine wp_wholeG (by rfl) 36 _ rfl (w2.heap.size) rfl 36 #[.int .i64 me1, .int .i64 rev1, .int .i64 cr1, .int .i64 h1, .int .u64 (b1 : Int), .int .i64 bad1, .int .i64 lock1] _ H4m.out Tryd.underlying36 rfl (by kernel_rfl) ?_)
    | fail)
  clear q_o_0
  have HMW : Hid (Mw ⟨me1, rev1, cr1, h1, b1, bad1, lock1⟩) := H4Ch.out.mw
  refine (HSO.out _ _ _ _ _ ⟨me1, rev1, cr1, h1, b1, bad1, lock1⟩ H4B.out H4Cc.out H4Cal.out HMZ.out.1 HMZ.out.2 HMW.out).mono ?_
  rintro e w4 ⟨a', n', co', ls, t, rfl, hc4, hal4, hnr4, hsi4, hb4⟩
  have H5x : Hid (Blk w4 (w.heap.size) #[.int .i64 x0, .int .i64 x1, .int .i64 x2, .int .i64 x3] 24) := H4x.out.next hb4
  have H5o : Hid (Blk w4 (w1.heap.size) #[.slice ao no co] 28) := H4o.out.next hb4
  have H5m : Hid (Blk w4 (w2.heap.size) #[.int .i64 me1, .int .i64 rev1, .int .i64 cr1, .int .i64 h1, .int .u64 (b1 : Int), .int .i64 bad1, .int .i64 lock1] 36) := H4m.out.next hb4
  have H5B : Hid (Below w.heap.size w w4) := bel_step H4B.out hb4
  have H5Ch : Hid (Hm w4 a c xs ⟨me1, rev1, cr1, h1, b1, bad1, lock1⟩) := H4Ch.out.below hb4
  have H5Cc : Hid (Came w4 ao no co l) := H4Cc.out.below hb4
  have H5Cal : Hid (Alive w4 ao) := H4Cal.out.below hb4
  have HNP : Hid (∀ y, a' = some y → y.block ≠ w1.heap.size) := near_ne hnr4 H4o.out.lt HNO.out
  have HNT : Hid (∀ y, a' = some y → y.block ≠ w4.heap.size) := alive_ne hal4
  have HSI : Hid ((⟨kk.c, kk.i, kk.a, t⟩ : Tok).ok ∧ May ls) := ⟨hsi4.ok, hsi4.may⟩
  have HCc : Hid (Came w4 a' n' co' ls) := hc4
  have H6x : Hid (Blk (w4.alloc (.cells #[.int .i64 0, .int .i64 0, .int .i64 0, .int .i64 0] 40)) (w.heap.size) #[.int .i64 x0, .int .i64 x1, .int .i64 x2, .int .i64 x3] 24) := (H5x.out).alloc _
  have H6o : Hid (Blk (w4.alloc (.cells #[.int .i64 0, .int .i64 0, .int .i64 0, .int .i64 0] 40)) (w1.heap.size) #[.slice ao no co] 28) := (H5o.out).alloc _
  have H6m : Hid (Blk (w4.alloc (.cells #[.int .i64 0, .int .i64 0, .int .i64 0, .int .i64 0] 40)) (w2.heap.size) #[.int .i64 me1, .int .i64 rev1, .int .i64 cr1, .int .i64 h1, .int .u64 (b1 : Int), .int .i64 bad1, .int .i64 lock1] 36) := (H5m.out).alloc _
  have H6t : Hid (Blk (w4.alloc (.cells #[.int .i64 0, .int .i64 0, .int .i64 0, .int .i64 0] 40)) (w4.heap.size) #[.int .i64 0, .int .i64 0, .int .i64 0, .int .i64 0] 40) := (Blk.new w4 _ _)
  have L6tx : Hid (w.heap.size < w4.heap.size) := Nat.lt_of_lt_of_le H5x.out.lt (by simp)
  have L6to : Hid (w1.heap.size < w4.heap.size) := Nat.lt_of_lt_of_le H5o.out.lt (by simp)
  have L6tm : Hid (w2.heap.size < w4.heap.size) := Nat.lt_of_lt_of_le H5m.out.lt (by simp)
  have H6B : Hid (Below w.heap.size w (w4.alloc (.cells #[.int .i64 0, .int .i64 0, .int .i64 0, .int .i64 0] 40))) := (H5B.out).alloc (Nat.le_trans H5B.out.size (by simp)) _
  have L60 : Hid (w.heap.size ≤ w4.heap.size) := H5B.out.size
  have H6Ch : Hid (Hm (w4.alloc (.cells #[.int .i64 0, .int .i64 0, .int .i64 0, .int .i64 0] 40)) a c xs ⟨me1, rev1, cr1, h1, b1, bad1, lock1⟩) := H5Ch.out.below ((Below.refl w4.heap.size w4).alloc (by simp) _)
  have H6Cc : Hid (Came (w4.alloc (.cells #[.int .i64 0, .int .i64 0, .int .i64 0, .int .i64 0] 40)) a' n' co' ls) := HCc.out.below ((Below.refl w4.heap.size w4).alloc (by simp) _)
  clear H4x H4o H4m H4Ch H4Cc H4Cal H4B H5x H5o H5m H5Ch HCc H5B hb4 hc4 hal4 hnr4 hsi4 HSO HNO
  go_wp2_with (first
    | (refine wp_letAll rfl 28 _ _ rfl (w1.heap.size) rfl #[.slice a' n' co'] rfl (by kernel_rfl) (by simp [Value.oneCell']) #[.slice ao no co] 28 H6o.out rfl ?_)
    | (refine wp_whole rfl 24 _ rfl (w.heap.size) rfl 24 #[.int .i64 x0, .int .i64 x1, .int .i64 x2, .int .i64 x3] _ H6x.out Tryd.underlying24 rfl (by kernel_rfl) ?_)
    | (refine wp_wholeG (by rfl) 24 _ rfl (w.heap.size) rfl 24 #[.int .i64 x0, .int .i64 x1, .int .i64 x2, .int .i64 x3] _ H6x.out Tryd.underlying24 rfl (by kernel_rfl) ?_)
    | (refine wp_whole rfl 28 _ rfl (w1.heap.size) rfl 28 #[.slice ao no co] _ H6o.out Tryd.underlying28 rfl (by kernel_rfl) ?_)
    | (refine wp_wholeG (by rfl) 28 _ rfl (w1.heap.size) rfl 28 #[.slice ao no co] _ H6o.out Tryd.underlying28 rfl (by kernel_rfl) ?_)
    | (refine wp_whole rfl 36 _ rfl (w2.heap.size) rfl 36 #[.int .i64 me1, .int .i64 rev1, .int .i64 cr1, .int .i64 h1, .int .u64 (b1 : Int), .int .i64 bad1, .int .i64 lock1] _ H6m.out Tryd.underlying36 rfl (by kernel_rfl) ?_)
    | (refine wp_wholeG (by rfl) 36 _ rfl (w2.heap.size) rfl 36 #[.int .i64 me1, .int .i64 rev1, .int .i64 cr1, .int .i64 h1, .int .u64 (b1 : Int), .int .i64 bad1, .int .i64 lock1] _ H6m.out Tryd.underlying36 rfl (by kernel_rfl) ?_)
    | (refine wp_whole rfl 40 _ rfl (w4.heap.size) rfl 40 #[.int .i64 0, .int .i64 0, .int .i64 0, .int .i64 0] _ H6t.out Tryd.underlying40 rfl (by kernel_rfl) ?_)
    | (refine wp_wholeG (by rfl) 40 _ rfl (w4.heap.size) rfl 40 #[.int .i64 0, .int .i64 0, .int .i64 0, .int .i64 0] _ H6t.out Tryd.underlying40 rfl (by kernel_rfl) ?_)
    | fail)
  intro W5 hU
  have hL2ox := L2ox.out
  have hL20 := L20.out
  have hL4mx := L4mx.out
  have hL4mo := L4mo.out
  have hL40 := L40.out
  have hL6tx := L6tx.out
  have hL6to := L6to.out
  have hL6tm := L6tm.out
  have hL60 := L60.out
  have H7x : Hid (Blk W5 (w.heap.size) #[.int .i64 x0, .int .i64 x1, .int .i64 x2, .int .i64 x3] 24) := hU.keep H6x.out (by omega)
  have H7o : Hid (Blk W5 (w1.heap.size) #[.slice a' n' co'] 28) := hU.blk
  have H7m : Hid (Blk W5 (w2.heap.size) #[.int .i64 me1, .int .i64 rev1, .int .i64 cr1, .int .i64 h1, .int .u64 (b1 : Int), .int .i64 bad1, .int .i64 lock1] 36) := hU.keep H6m.out (by omega)
  have H7t : Hid (Blk W5 (w4.heap.size) #[.int .i64 0, .int .i64 0, .int .i64 0, .int .i64 0] 40) := hU.keep H6t.out (by omega)
  have H7B : Hid (Below w.heap.size w W5) := hU.bel _ _ (by omega) H6B.out
  have H7Ch : Hid (Hm W5 a c xs ⟨me1, rev1, cr1, h1, b1, bad1, lock1⟩) := H6Ch.out.upd hU H6o.out (no_slice _ _ _)
  have H7Cc : Hid (Came W5 a' n' co' ls) := upd_came hU H6Cc.out HNP.out
  clear hU H6x H6o H6m H6t H6Ch H6Cc H6B hL2ox hL20 hL4mx hL4mo hL40 hL6tx hL6to hL6tm hL60 
  go_wp2_with (first
    | (refine wp_letAll rfl 40 _ _ rfl (w4.heap.size) rfl #[.int .i64 (kk.c : Int), .int .i64 (kk.i : Int), .int .i64 (kk.a : Int), .int .i64 (t : Int)] rfl (by kernel_rfl) (by simp [Value.oneCell']) #[.int .i64 0, .int .i64 0, .int .i64 0, .int .i64 0] 40 H7t.out rfl ?_)
    | (refine wp_whole rfl 24 _ rfl (w.heap.size) rfl 24 #[.int .i64 x0, .int .i64 x1, .int .i64 x2, .int .i64 x3] _ H7x.out Tryd.underlying24 rfl (by kernel_rfl) ?_)
    | (refine wp_wholeG (by rfl) 24 _ rfl (w.heap.size) rfl 24 #[.int .i64 x0, .int .i64 x1, .int .i64 x2, .int .i64 x3] _ H7x.out Tryd.underlying24 rfl (by kernel_rfl) ?_)
    | (refine wp_whole rfl 28 _ rfl (w1.heap.size) rfl 28 #[.slice a' n' co'] _ H7o.out Tryd.underlying28 rfl (by kernel_rfl) ?_)
    | (refine wp_wholeG (by rfl) 28 _ rfl (w1.heap.size) rfl 28 #[.slice a' n' co'] _ H7o.out Tryd.underlying28 rfl (by kernel_rfl) ?_)
    | (refine wp_whole rfl 36 _ rfl (w2.heap.size) rfl 36 #[.int .i64 me1, .int .i64 rev1, .int .i64 cr1, .int .i64 h1, .int .u64 (b1 : Int), .int .i64 bad1, .int .i64 lock1] _ H7m.out Tryd.underlying36 rfl (by kernel_rfl) ?_)
    | (refine wp_wholeG (by rfl) 36 _ rfl (w2.heap.size) rfl 36 #[.int .i64 me1, .int .i64 rev1, .int .i64 cr1, .int .i64 h1, .int .u64 (b1 : Int), .int .i64 bad1, .int .i64 lock1] _ H7m.out Tryd.underlying36 rfl (by kernel_rfl) ?_)
    | (refine wp_whole rfl 40 _ rfl (w4.heap.size) rfl 40 #[.int .i64 0, .int .i64 0, .int .i64 0, .int .i64 0] _ H7t.out Tryd.underlying40 rfl (by kernel_rfl) ?_)
    | (refine wp_wholeG (by rfl) 40 _ rfl (w4.heap.size) rfl 40 #[.int .i64 0, .int .i64 0, .int .i64 0, .int .i64 0] _ H7t.out Tryd.underlying40 rfl (by kernel_rfl) ?_)
    | fail)
  intro W6 hU
  have hL2ox := L2ox.out
  have hL20 := L20.out
  have hL4mx := L4mx.out
  have hL4mo := L4mo.out
  have hL40 := L40.out
  have hL6tx := L6tx.out
  have hL6to := L6to.out
  have hL6tm := L6tm.out
  have hL60 := L60.out
  have H8x : Hid (Blk W6 (w.heap.size) #[.int .i64 x0, .int .i64 x1, .int .i64 x2, .int .i64 x3] 24) := hU.keep H7x.out (by omega)
  have H8o : Hid (Blk W6 (w1.heap.size) #[.slice a' n' co'] 28) := hU.keep H7o.out (by omega)
  have H8m : Hid (Blk W6 (w2.heap.size) #[.int .i64 me1, .int .i64 rev1, .int .i64 cr1, .int .i64 h1, .int .u64 (b1 : Int), .int .i64 bad1, .int .i64 lock1] 36) := hU.keep H7m.out (by omega)
  have H8t : Hid (Blk W6 (w4.heap.size) #[.int .i64 (kk.c : Int), .int .i64 (kk.i : Int), .int .i64 (kk.a : Int), .int .i64 (t : Int)] 40) := hU.blk
  have H8B : Hid (Below w.heap.size w W6) := hU.bel _ _ (by omega) H7B.out
  have H8Ch : Hid (Hm W6 a c xs ⟨me1, rev1, cr1, h1, b1, bad1, lock1⟩) := H7Ch.out.upd hU H7t.out (no_four _ _ _ _)
  have H8Cc : Hid (Came W6 a' n' co' ls) := upd_came hU H7Cc.out HNT.out
  clear hU H7x H7o H7m H7t H7Ch H7Cc H7B hL2ox hL20 hL4mx hL4mo hL40 hL6tx hL6to hL6tm hL60 
  clear HNT HNP
  go_wp2_with (first
    | (refine wp_whole rfl 24 _ rfl (w.heap.size) rfl 24 #[.int .i64 x0, .int .i64 x1, .int .i64 x2, .int .i64 x3] _ H8x.out Tryd.underlying24 rfl (by kernel_rfl) ?_)
    | (refine wp_wholeG (by rfl) 24 _ rfl (w.heap.size) rfl 24 #[.int .i64 x0, .int .i64 x1, .int .i64 x2, .int .i64 x3] _ H8x.out Tryd.underlying24 rfl (by kernel_rfl) ?_)
    | (refine wp_whole rfl 28 _ rfl (w1.heap.size) rfl 28 #[.slice a' n' co'] _ H8o.out Tryd.underlying28 rfl (by kernel_rfl) ?_)
    | (refine wp_wholeG (by rfl) 28 _ rfl (w1.heap.size) rfl 28 #[.slice a' n' co'] _ H8o.out Tryd.underlying28 rfl (by kernel_rfl) ?_)
    | (refine wp_whole rfl 36 _ rfl (w2.heap.size) rfl 36 #[.int .i64 me1, .int .i64 rev1, .int .i64 cr1, .int .i64 h1, .int .u64 (b1 : Int), .int .i64 bad1, .int .i64 lock1] _ H8m.out Tryd.underlying36 rfl (by kernel_rfl) ?_)
    | (refine wp_wholeG (by rfl) 36 _ rfl (w2.heap.size) rfl 36 #[.int .i64 me1, .int .i64 rev1, .int .i64 cr1, .int .i64 h1, .int .u64 (b1 : Int), .int .i64 bad1, .int .i64 lock1] _ H8m.out Tryd.underlying36 rfl (by kernel_rfl) ?_)
    | (refine wp_whole rfl 40 _ rfl (w4.heap.size) rfl 40 #[.int .i64 (kk.c : Int), .int .i64 (kk.i : Int), .int .i64 (kk.a : Int), .int .i64 (t : Int)] _ H8t.out Tryd.underlying40 rfl (by kernel_rfl) ?_)
    | (refine wp_wholeG (by rfl) 40 _ rfl (w4.heap.size) rfl 40 #[.int .i64 (kk.c : Int), .int .i64 (kk.i : Int), .int .i64 (kk.a : Int), .int .i64 (t : Int)] _ H8t.out Tryd.underlying40 rfl (by kernel_rfl) ?_)
    | fail)
  refine (HFM.out _ _ HSI.out.1 H8B.out).mono ?_
  rintro e w7 ⟨rfl, hb7⟩
  have H9x : Hid (Blk w7 (w.heap.size) #[.int .i64 x0, .int .i64 x1, .int .i64 x2, .int .i64 x3] 24) := H8x.out.next hb7
  have H9o : Hid (Blk w7 (w1.heap.size) #[.slice a' n' co'] 28) := H8o.out.next hb7
  have H9m : Hid (Blk w7 (w2.heap.size) #[.int .i64 me1, .int .i64 rev1, .int .i64 cr1, .int .i64 h1, .int .u64 (b1 : Int), .int .i64 bad1, .int .i64 lock1] 36) := H8m.out.next hb7
  have H9t : Hid (Blk w7 (w4.heap.size) #[.int .i64 (kk.c : Int), .int .i64 (kk.i : Int), .int .i64 (kk.a : Int), .int .i64 (t : Int)] 40) := H8t.out.next hb7
  have H9B : Hid (Below w.heap.size w w7) := bel_step H8B.out hb7
  have H9Ch : Hid (Hm w7 a c xs ⟨me1, rev1, cr1, h1, b1, bad1, lock1⟩) := H8Ch.out.below hb7
  have H9Cc : Hid (Came w7 a' n' co' ls) := H8Cc.out.below hb7
  clear H8x H8o H8m H8t H8Ch H8Cc H8B hb7 HFM
  have HKQ : Hid (∀ W, Below w.heap.size w W → Hm W a c xs ⟨me1, rev1, cr1, h1, b1, bad1, lock1⟩ → Came W a' n' co' ls → Calls Tryd.prog 11 #[.slice a 12 c, .agg #[.slice a' n' co'], .string (fmtB (97 * (Tok.num ⟨kk.c, kk.i, kk.a, t⟩)))] W fun e w' => HKeyed W xs ⟨me1, rev1, cr1, h1, b1, bad1, lock1⟩ ls kk.c kk.i kk.a t e w') := fun W hB hm hc => HKD.out W a c xs ⟨me1, rev1, cr1, h1, b1, bad1, lock1⟩ a' n' co' ls t hB HSI.out.1 hm hc HSI.out.2
  have HKF : Hid (∀ W, Below w.heap.size w W → Came W a' n' co' ls → Calls Tryd.prog 10 #[.agg #[.int .i64 me1, .int .i64 rev1, .int .i64 cr1, .int .i64 h1, .int .u64 (b1 : Int), .int .i64 bad1, .int .i64 lock1], .agg #[.slice a' n' co'], .agg #[.int .i64 (kk.c : Int), .int .i64 (kk.i : Int), .int .i64 (kk.a : Int), .int .i64 (t : Int)]] W fun e w' => KeyPost W ⟨me1, rev1, cr1, h1, b1, bad1, lock1⟩ ls kk.c kk.i kk.a t e w') := fun W hB hc => HKE.out W ⟨me1, rev1, cr1, h1, b1, bad1, lock1⟩ a' n' co' ls t hB HMW.out hc
  clear HKD HKE
  generalize (fmtB (97 * (Tok.num ⟨kk.c, kk.i, kk.a, t⟩))) = S at *
  have q_o_0 : w7.cell? ⟨w1.heap.size, 0, none⟩ = some (.slice a' n' co') := H9o.out.cell 0
  go_wp2_with (first
    | (refine wp_whole rfl 24 _ rfl (w.heap.size) rfl 24 #[.int .i64 x0, .int .i64 x1, .int .i64 x2, .int .i64 x3] _ H9x.out Tryd.underlying24 rfl (by kernel_rfl) ?_)
    | (refine wp_wholeG (by rfl) 24 _ rfl (w.heap.size) rfl 24 #[.int .i64 x0, .int .i64 x1, .int .i64 x2, .int .i64 x3] _ H9x.out Tryd.underlying24 rfl (by kernel_rfl) ?_)
    | (refine wp_whole rfl 28 _ rfl (w1.heap.size) rfl 28 #[.slice a' n' co'] _ H9o.out Tryd.underlying28 rfl (by kernel_rfl) ?_)
    | (refine wp_wholeG (by rfl) 28 _ rfl (w1.heap.size) rfl 28 #[.slice a' n' co'] _ H9o.out Tryd.underlying28 rfl (by kernel_rfl) ?_)
    | (refine wp_whole rfl 36 _ rfl (w2.heap.size) rfl 36 #[.int .i64 me1, .int .i64 rev1, .int .i64 cr1, .int .i64 h1, .int .u64 (b1 : Int), .int .i64 bad1, .int .i64 lock1] _ H9m.out Tryd.underlying36 rfl (by kernel_rfl) ?_)
    | (refine wp_wholeG (by rfl) 36 _ rfl (w2.heap.size) rfl 36 #[.int .i64 me1, .int .i64 rev1, .int .i64 cr1, .int .i64 h1, .int .u64 (b1 : Int), .int .i64 bad1, .int .i64 lock1] _ H9m.out Tryd.underlying36 rfl (by kernel_rfl) ?_)
    | (refine wp_whole rfl 40 _ rfl (w4.heap.size) rfl 40 #[.int .i64 (kk.c : Int), .int .i64 (kk.i : Int), .int .i64 (kk.a : Int), .int .i64 (t : Int)] _ H9t.out Tryd.underlying40 rfl (by kernel_rfl) ?_)
    | (refine wp_wholeG (by rfl) 40 _ rfl (w4.heap.size) rfl 40 #[.int .i64 (kk.c : Int), .int .i64 (kk.i : Int), .int .i64 (kk.a : Int), .int .i64 (t : Int)] _ H9t.out Tryd.underlying40 rfl (by kernel_rfl) ?_)
    | fail)
  clear q_o_0
  refine (HKF.out _ H9B.out H9Cc.out).mono ?_
  rintro e w8 ⟨m2, y8, f8, rfl, hi8, hb8⟩
  have H10x : Hid (Blk w8 (w.heap.size) #[.int .i64 x0, .int .i64 x1, .int .i64 x2, .int .i64 x3] 24) := H9x.out.next hb8
  have H10o : Hid (Blk w8 (w1.heap.size) #[.slice a' n' co'] 28) := H9o.out.next hb8
  have H10m : Hid (Blk w8 (w2.heap.size) #[.int .i64 me1, .int .i64 rev1, .int .i64 cr1, .int .i64 h1, .int .u64 (b1 : Int), .int .i64 bad1, .int .i64 lock1] 36) := H9m.out.next hb8
  have H10t : Hid (Blk w8 (w4.heap.size) #[.int .i64 (kk.c : Int), .int .i64 (kk.i : Int), .int .i64 (kk.a : Int), .int .i64 (t : Int)] 40) := H9t.out.next hb8
  have H10B : Hid (Below w.heap.size w w8) := bel_step H9B.out hb8
  have H10Ch : Hid (Hm w8 a c xs ⟨me1, rev1, cr1, h1, b1, bad1, lock1⟩) := H9Ch.out.below hb8
  have H10Cc : Hid (Came w8 a' n' co' ls) := H9Cc.out.below hb8
  have HI8 : Hid (KeyIs ⟨me1, rev1, cr1, h1, b1, bad1, lock1⟩ ls kk.c kk.i kk.a t (bodyI kk.c kk.i kk.a) m2 y8 f8) := hi8
  have HM2 : Hid (Mw m2) := key_mw (k := ⟨kk.c, kk.i, kk.a, t⟩) hi8 HMW.out HSI.out.2 HSI.out.1
  obtain ⟨me2, rev2, cr2, h2, b2, bad2, lock2⟩ := m2
  unfold Mt.v Mt.cells
  simp only []
  have H11x : Hid (Blk (w8.alloc (.cells #[.int .i64 me2, .int .i64 rev2, .int .i64 cr2, .int .i64 h2, .int .u64 (b2 : Int), .int .i64 bad2, .int .i64 lock2] 36)) (w.heap.size) #[.int .i64 x0, .int .i64 x1, .int .i64 x2, .int .i64 x3] 24) := (H10x.out).alloc _
  have H11o : Hid (Blk (w8.alloc (.cells #[.int .i64 me2, .int .i64 rev2, .int .i64 cr2, .int .i64 h2, .int .u64 (b2 : Int), .int .i64 bad2, .int .i64 lock2] 36)) (w1.heap.size) #[.slice a' n' co'] 28) := (H10o.out).alloc _
  have H11m : Hid (Blk (w8.alloc (.cells #[.int .i64 me2, .int .i64 rev2, .int .i64 cr2, .int .i64 h2, .int .u64 (b2 : Int), .int .i64 bad2, .int .i64 lock2] 36)) (w2.heap.size) #[.int .i64 me1, .int .i64 rev1, .int .i64 cr1, .int .i64 h1, .int .u64 (b1 : Int), .int .i64 bad1, .int .i64 lock1] 36) := (H10m.out).alloc _
  have H11t : Hid (Blk (w8.alloc (.cells #[.int .i64 me2, .int .i64 rev2, .int .i64 cr2, .int .i64 h2, .int .u64 (b2 : Int), .int .i64 bad2, .int .i64 lock2] 36)) (w4.heap.size) #[.int .i64 (kk.c : Int), .int .i64 (kk.i : Int), .int .i64 (kk.a : Int), .int .i64 (t : Int)] 40) := (H10t.out).alloc _
  have H11n : Hid (Blk (w8.alloc (.cells #[.int .i64 me2, .int .i64 rev2, .int .i64 cr2, .int .i64 h2, .int .u64 (b2 : Int), .int .i64 bad2, .int .i64 lock2] 36)) (w8.heap.size) #[.int .i64 me2, .int .i64 rev2, .int .i64 cr2, .int .i64 h2, .int .u64 (b2 : Int), .int .i64 bad2, .int .i64 lock2] 36) := (Blk.new w8 _ _)
  have L11nx : Hid (w.heap.size < w8.heap.size) := Nat.lt_of_lt_of_le H10x.out.lt (by simp)
  have L11no : Hid (w1.heap.size < w8.heap.size) := Nat.lt_of_lt_of_le H10o.out.lt (by simp)
  have L11nm : Hid (w2.heap.size < w8.heap.size) := Nat.lt_of_lt_of_le H10m.out.lt (by simp)
  have L11nt : Hid (w4.heap.size < w8.heap.size) := Nat.lt_of_lt_of_le H10t.out.lt (by simp)
  have H11B : Hid (Below w.heap.size w (w8.alloc (.cells #[.int .i64 me2, .int .i64 rev2, .int .i64 cr2, .int .i64 h2, .int .u64 (b2 : Int), .int .i64 bad2, .int .i64 lock2] 36))) := (H10B.out).alloc (Nat.le_trans H10B.out.size (by simp)) _
  have L110 : Hid (w.heap.size ≤ w8.heap.size) := H10B.out.size
  have H11Ch : Hid (Hm (w8.alloc (.cells #[.int .i64 me2, .int .i64 rev2, .int .i64 cr2, .int .i64 h2, .int .u64 (b2 : Int), .int .i64 bad2, .int .i64 lock2] 36)) a c xs ⟨me1, rev1, cr1, h1, b1, bad1, lock1⟩) := H10Ch.out.below ((Below.refl w8.heap.size w8).alloc (by simp) _)
  have H11Cc : Hid (Came (w8.alloc (.cells #[.int .i64 me2, .int .i64 rev2, .int .i64 cr2, .int .i64 h2, .int .u64 (b2 : Int), .int .i64 bad2, .int .i64 lock2] 36)) a' n' co' ls) := H10Cc.out.below ((Below.refl w8.heap.size w8).alloc (by simp) _)
  clear H9x H9o H9m H9t H9Ch H9Cc H9B H10x H10o H10m H10t H10Ch H10Cc H10B hb8 hi8 HKF
  have q_o_0 : (w8.alloc (.cells #[.int .i64 me2, .int .i64 rev2, .int .i64 cr2, .int .i64 h2, .int .u64 (b2 : Int), .int .i64 bad2, .int .i64 lock2] 36)).cell? ⟨w1.heap.size, 0, none⟩ = some (.slice a' n' co') := H11o.out.cell 0
  go_wp2_with (first
    | (refine wp_whole rfl 24 _ rfl (w.heap.size) rfl 24 #[.int .i64 x0, .int .i64 x1, .int .i64 x2, .int .i64 x3] _ H11x.out Tryd.underlying24 rfl (by kernel_rfl) ?_)
    | (refine wp_wholeG (by rfl) 24 _ rfl (w.heap.size) rfl 24 #[.int .i64 x0, .int .i64 x1, .int .i64 x2, .int .i64 x3] _ H11x.out Tryd.underlying24 rfl (by kernel_rfl) ?_)
    | (refine wp_whole rfl 28 _ rfl (w1.heap.size) rfl 28 #[.slice a' n' co'] _ H11o.out Tryd.underlying28 rfl (by kernel_rfl) ?_)
    | (refine wp_wholeG (by rfl) 28 _ rfl (w1.heap.size) rfl 28 #[.slice a' n' co'] _ H11o.out Tryd.underlying28 rfl (by kernel_rfl) ?_)
    | (refine wp_whole rfl 36 _ rfl (w2.heap.size) rfl 36 #[.int .i64 me1, .int .i64 rev1, .int .i64 cr1, .int .i64 h1, .int .u64 (b1 : Int), .int .i64 bad1, .int .i64 lock1] _ H11m.out Tryd.underlying36 rfl (by kernel_rfl) ?_)
    | (refine wp_wholeG (by rfl) 36 _ rfl (w2.heap.size) rfl 36 #[.int .i64 me1, .int .i64 rev1, .int .i64 cr1, .int .i64 h1, .int .u64 (b1 : Int), .int .i64 bad1, .int .i64 lock1] _ H11m.out Tryd.underlying36 rfl (by kernel_rfl) ?_)
    | (refine wp_whole rfl 40 _ rfl (w4.heap.size) rfl 40 #[.int .i64 (kk.c : Int), .int .i64 (kk.i : Int), .int .i64 (kk.a : Int), .int .i64 (t : Int)] _ H11t.out Tryd.underlying40 rfl (by kernel_rfl) ?_)
    | (refine wp_wholeG (by rfl) 40 _ rfl (w4.heap.size) rfl 40 #[.int .i64 (kk.c : Int), .int .i64 (kk.i : Int), .int .i64 (kk.a : Int), .int .i64 (t : Int)] _ H11t.out Tryd.underlying40 rfl (by kernel_rfl) ?_)
    | (refine wp_whole rfl 36 _ rfl (w8.heap.size) rfl 36 #[.int .i64 me2, .int .i64 rev2, .int .i64 cr2, .int .i64 h2, .int .u64 (b2 : Int), .int .i64 bad2, .int .i64 lock2] _ H11n.out Tryd.underlying36 rfl (by kernel_rfl) ?_)
    | (refine wp_wholeG (by rfl) 36 _ rfl (w8.heap.size) rfl 36 #[.int .i64 me2, .int .i64 rev2, .int .i64 cr2, .int .i64 h2, .int .u64 (b2 : Int), .int .i64 bad2, .int .i64 lock2] _ H11n.out Tryd.underlying36 rfl (by kernel_rfl) ?_)
    | fail)
  clear q_o_0
  refine (HKQ.out _ H11B.out H11Ch.out H11Cc.out).mono ?_
  rintro e w9 ⟨b9, n9, d9, wl, y9, f9, m9, rfl, hg9, hi9, hw9, hb9⟩
  have H12x : Hid (Blk w9 (w.heap.size) #[.int .i64 x0, .int .i64 x1, .int .i64 x2, .int .i64 x3] 24) := H11x.out.next hb9
  have H12o : Hid (Blk w9 (w1.heap.size) #[.slice a' n' co'] 28) := H11o.out.next hb9
  have H12m : Hid (Blk w9 (w2.heap.size) #[.int .i64 me1, .int .i64 rev1, .int .i64 cr1, .int .i64 h1, .int .u64 (b1 : Int), .int .i64 bad1, .int .i64 lock1] 36) := H11m.out.next hb9
  have H12t : Hid (Blk w9 (w4.heap.size) #[.int .i64 (kk.c : Int), .int .i64 (kk.i : Int), .int .i64 (kk.a : Int), .int .i64 (t : Int)] 40) := H11t.out.next hb9
  have H12n : Hid (Blk w9 (w8.heap.size) #[.int .i64 me2, .int .i64 rev2, .int .i64 cr2, .int .i64 h2, .int .u64 (b2 : Int), .int .i64 bad2, .int .i64 lock2] 36) := H11n.out.next hb9
  have H12B : Hid (Below w.heap.size w w9) := bel_step H11B.out hb9
  have H12Ch : Hid (Hm w9 a c xs ⟨me1, rev1, cr1, h1, b1, bad1, lock1⟩) := H11Ch.out.below hb9
  have H12Cc : Hid (Came w9 a' n' co' ls) := H11Cc.out.below hb9
  obtain ⟨rfl, rfl, rfl⟩ := HI8.out.one hi9
  have HCg : Hid (Wg w9 b9 n9 d9 wl) := hg9
  have hln := hg9.row.1
  have HWI : Hid (WrIs xs ⟨me1, rev1, cr1, h1, b1, bad1, lock1⟩ ⟨me2, rev2, cr2, h2, b2, bad2, lock2⟩ wl) := hw9
  have hor := hw9.len
  clear H11x H11o H11m H11t H11n H11Ch H11Cc H11B hb9 hi9 hg9 hw9 HKQ HI8
  have e1 : (f8 != f8) = false := by simp
  have e2 : (y8 != y8) = false := by simp
  have e3 : (me1 != me1) = false := by simp
  clear H12x
  clear H12t
  clear H12o
  clear H12Cc
  rcases hor with ⟨hmm, h0⟩ | ⟨hmm, h7⟩
  · obtain rfl : n9 = 0 := hln.symm.trans h0
    have hqm : ∀ W : World, (Op.equalIn 10000 36 (.agg #[.int .i64 me1, .int .i64 rev1, .int .i64 cr1, .int .i64 h1, .int .u64 (b1 : Int), .int .i64 bad1, .int .i64 lock1]) (.agg #[.int .i64 me2, .int .i64 rev2, .int .i64 cr2, .int .i64 h2, .int .u64 (b2 : Int), .int .i64 bad2, .int .i64 lock2])).run Tryd.prog W = .ok true W := fun W => eqMt_one ⟨me1, rev1, cr1, h1, b1, bad1, lock1⟩ ⟨me2, rev2, cr2, h2, b2, bad2, lock2⟩ W hmm.symm
    clear hln h0 hmm
    go_upto_region 11 with fail
    have HBK : Hid (Blk w9.drew (w2.heap.size) #[.int .i64 me1, .int .i64 rev1, .int .i64 cr1, .int .i64 h1, .int .u64 (b1 : Int), .int .i64 bad1, .int .i64 lock1] 36 ∧ Blk w9.drew (w8.heap.size) #[.int .i64 me2, .int .i64 rev2, .int .i64 cr2, .int .i64 h2, .int .u64 (b2 : Int), .int .i64 bad2, .int .i64 lock2] 36) := ⟨Blk.drew H12m.out 1, Blk.drew H12n.out 1⟩
    refine wp_region_held_drew (S := fun v => Blk v (w2.heap.size) #[.int .i64 me1, .int .i64 rev1, .int .i64 cr1, .int .i64 h1, .int .u64 (b1 : Int), .int .i64 bad1, .int .i64 lock1] 36 ∧ Blk v (w8.heap.size) #[.int .i64 me2, .int .i64 rev2, .int .i64 cr2, .int .i64 h2, .int .u64 (b2 : Int), .int .i64 bad2, .int .i64 lock2] 36) (by kernel_rfl) HBK.out (fun hHeld => ?_)
    refine take_at 0 80 (.bool true) _ rfl rfl (by kernel_rfl) (by kernel_rfl) (by kernel_rfl) (fun _ _ _ h => h) (Or.inl ⟨by rfl, fun v hv => by skip; clear hv; go_simp⟩) hHeld ?_
    simp only [Act.put, List.setIfInBounds_toArray, List.set_cons_zero, List.set_cons_succ]
    refine take_at 1 81 (.bool false) _ rfl rfl (by kernel_rfl) (by kernel_rfl) (by kernel_rfl) (fun _ _ _ h => h) (Or.inl ⟨by rfl, fun v hv => by skip; clear hv; go_simp⟩) hHeld ?_
    simp only [Act.put, List.setIfInBounds_toArray, List.set_cons_zero, List.set_cons_succ]
    refine take_at 2 82 (.bool false) _ rfl rfl (by kernel_rfl) (by kernel_rfl) (by kernel_rfl) (fun _ _ _ h => h) (Or.inl ⟨by rfl, fun v hv => by skip; clear hv; go_simp⟩) hHeld ?_
    simp only [Act.put, List.setIfInBounds_toArray, List.set_cons_zero, List.set_cons_succ]
    refine take_at 3 83 (.int .i64 0) _ rfl rfl (by kernel_rfl) (by kernel_rfl) (by kernel_rfl) (fun _ _ _ h => h) (Or.inl ⟨by rfl, fun v hv => by skip; clear hv; go_simp⟩) hHeld ?_
    simp only [Act.put, List.setIfInBounds_toArray, List.set_cons_zero, List.set_cons_succ]
    refine take_at 4 84 (.bool false) _ rfl rfl (by kernel_rfl) (by kernel_rfl) (by kernel_rfl) (fun _ _ _ h => h) (Or.inl ⟨by rfl, fun v hv => by skip; clear hv; go_simp⟩) hHeld ?_
    simp only [Act.put, List.setIfInBounds_toArray, List.set_cons_zero, List.set_cons_succ]
    refine take_at 5 85 (.bool false) _ rfl rfl (by kernel_rfl) (by kernel_rfl) (by kernel_rfl) (fun _ _ _ h => h) (Or.inl ⟨by rfl, fun v hv => by skip; clear hv; go_simp⟩) hHeld ?_
    simp only [Act.put, List.setIfInBounds_toArray, List.set_cons_zero, List.set_cons_succ]
    refine take_at 6 86 (.bool false) _ rfl rfl (by kernel_rfl) (by kernel_rfl) (by kernel_rfl) (fun _ _ _ h => h) (Or.inl ⟨by rfl, fun v hv => by skip; clear hv; go_simp⟩) hHeld ?_
    simp only [Act.put, List.setIfInBounds_toArray, List.set_cons_zero, List.set_cons_succ]
    refine take_at 7 87 (.int .i64 0) _ rfl rfl (by kernel_rfl) (by kernel_rfl) (by kernel_rfl) (fun _ _ _ h => h) (Or.inl ⟨by rfl, fun v hv => by skip; clear hv; go_simp⟩) hHeld ?_
    simp only [Act.put, List.setIfInBounds_toArray, List.set_cons_zero, List.set_cons_succ]
    refine take_at 8 88 (.bool false) _ rfl rfl (by kernel_rfl) (by kernel_rfl) (by kernel_rfl) (fun _ _ _ h => h) (Or.inl ⟨by rfl, fun v hv => by skip; clear hv; go_simp⟩) hHeld ?_
    simp only [Act.put, List.setIfInBounds_toArray, List.set_cons_zero, List.set_cons_succ]
    refine take_at 9 89 (.bool false) _ rfl rfl (by kernel_rfl) (by kernel_rfl) (by kernel_rfl) (fun _ _ _ h => h) (Or.inl ⟨by rfl, fun v hv => by skip; clear hv; go_simp⟩) hHeld ?_
    simp only [Act.put, List.setIfInBounds_toArray, List.set_cons_zero, List.set_cons_succ]
    refine take_at 10 90 (.bool false) _ rfl rfl (by kernel_rfl) (by kernel_rfl) (by kernel_rfl) (fun _ _ _ h => h) (Or.inl ⟨by rfl, fun v hv => by skip; clear hv; go_simp⟩) hHeld ?_
    simp only [Act.put, List.setIfInBounds_toArray, List.set_cons_zero, List.set_cons_succ]
    refine take_at 11 91 (.int .i64 f8) _ rfl rfl (by kernel_rfl) (by kernel_rfl) (by kernel_rfl) (fun _ _ _ h => h) (Or.inl ⟨by rfl, fun v hv => by skip; clear hv; go_simp⟩) hHeld ?_
    simp only [Act.put, List.setIfInBounds_toArray, List.set_cons_zero, List.set_cons_succ]
    refine take_at 12 92 (.int .i64 f8) _ rfl rfl (by kernel_rfl) (by kernel_rfl) (by kernel_rfl) (fun _ _ _ h => h) (Or.inl ⟨by rfl, fun v hv => by skip; clear hv; go_simp⟩) hHeld ?_
    simp only [Act.put, List.setIfInBounds_toArray, List.set_cons_zero, List.set_cons_succ]
    refine take_at 13 93 (.bool false) _ rfl rfl (by kernel_rfl) (by kernel_rfl) (by kernel_rfl) (fun _ _ _ h => h) (Or.inl ⟨by rfl, fun v hv => by skip; clear hv; go_simp⟩) hHeld ?_
    simp only [Act.put, List.setIfInBounds_toArray, List.set_cons_zero, List.set_cons_succ]
    refine take_at 14 94 (.bool false) _ rfl rfl (by kernel_rfl) (by kernel_rfl) (by kernel_rfl) (fun _ _ _ h => h) (Or.inl ⟨by rfl, fun v hv => by skip; clear hv; go_simp⟩) hHeld ?_
    simp only [Act.put, List.setIfInBounds_toArray, List.set_cons_zero, List.set_cons_succ]
    refine take_at 15 95 (.bool false) _ rfl rfl (by kernel_rfl) (by kernel_rfl) (by kernel_rfl) (fun _ _ _ h => h) (Or.inl ⟨by rfl, fun v hv => by skip; clear hv; go_simp⟩) hHeld ?_
    simp only [Act.put, List.setIfInBounds_toArray, List.set_cons_zero, List.set_cons_succ]
    refine take_at 16 96 (.int .i64 y8) _ rfl rfl (by kernel_rfl) (by kernel_rfl) (by kernel_rfl) (fun _ _ _ h => h) (Or.inl ⟨by rfl, fun v hv => by skip; clear hv; go_simp⟩) hHeld ?_
    simp only [Act.put, List.setIfInBounds_toArray, List.set_cons_zero, List.set_cons_succ]
    refine take_at 17 97 (.int .i64 y8) _ rfl rfl (by kernel_rfl) (by kernel_rfl) (by kernel_rfl) (fun _ _ _ h => h) (Or.inl ⟨by rfl, fun v hv => by skip; clear hv; go_simp⟩) hHeld ?_
    simp only [Act.put, List.setIfInBounds_toArray, List.set_cons_zero, List.set_cons_succ]
    refine take_at 18 98 (.bool false) _ rfl rfl (by kernel_rfl) (by kernel_rfl) (by kernel_rfl) (fun _ _ _ h => h) (Or.inl ⟨by rfl, fun v hv => by skip; clear hv; go_simp⟩) hHeld ?_
    simp only [Act.put, List.setIfInBounds_toArray, List.set_cons_zero, List.set_cons_succ]
    refine take_at 19 99 (.bool false) _ rfl rfl (by kernel_rfl) (by kernel_rfl) (by kernel_rfl) (fun _ _ _ h => h) (Or.inl ⟨by rfl, fun v hv => by skip; clear hv; go_simp⟩) hHeld ?_
    simp only [Act.put, List.setIfInBounds_toArray, List.set_cons_zero, List.set_cons_succ]
    refine take_at 20 100 (.bool false) _ rfl rfl (by kernel_rfl) (by kernel_rfl) (by kernel_rfl) (fun _ _ _ h => h) (Or.inl ⟨by rfl, fun v hv => by skip; clear hv; go_simp⟩) hHeld ?_
    simp only [Act.put, List.setIfInBounds_toArray, List.set_cons_zero, List.set_cons_succ]
    refine take_at 21 101 (.slice b9 0 d9) _ rfl rfl (by kernel_rfl) (by kernel_rfl) (by kernel_rfl) (fun _ _ _ h => h) (Or.inl ⟨by rfl, fun v hv => by skip; clear hv; go_simp⟩) hHeld ?_
    simp only [Act.put, List.setIfInBounds_toArray, List.set_cons_zero, List.set_cons_succ]
    refine take_at 22 102 (.int .i64 0) _ rfl rfl (by kernel_rfl) (by kernel_rfl) (by kernel_rfl) (fun _ _ _ h => h) (Or.inl ⟨by rfl, fun v hv => by skip; clear hv; go_simp⟩) hHeld ?_
    simp only [Act.put, List.setIfInBounds_toArray, List.set_cons_zero, List.set_cons_succ]
    refine take_at 23 103 (.bool true) _ rfl rfl (by kernel_rfl) (by kernel_rfl) (by kernel_rfl) (fun _ _ _ h => h) (Or.inl ⟨by rfl, fun v hv => by skip; clear hv; go_simp⟩) hHeld ?_
    simp only [Act.put, List.setIfInBounds_toArray, List.set_cons_zero, List.set_cons_succ]
    refine take_at 24 104 (.agg #[.int .i64 me1, .int .i64 rev1, .int .i64 cr1, .int .i64 h1, .int .u64 (b1 : Int), .int .i64 bad1, .int .i64 lock1]) _ rfl rfl (by kernel_rfl) (by kernel_rfl) (by kernel_rfl) (fun _ _ _ h => h) (yieldsIf_whole (by rfl) 36 _ rfl (w2.heap.size) rfl 36 #[.int .i64 me1, .int .i64 rev1, .int .i64 cr1, .int .i64 h1, .int .u64 (b1 : Int), .int .i64 bad1, .int .i64 lock1] _ (fun v hv => hv.1) Tryd.underlying36 rfl (by kernel_rfl)) hHeld ?_
    simp only [Act.put, List.setIfInBounds_toArray, List.set_cons_zero, List.set_cons_succ]
    refine take_at 25 105 (.agg #[.int .i64 me2, .int .i64 rev2, .int .i64 cr2, .int .i64 h2, .int .u64 (b2 : Int), .int .i64 bad2, .int .i64 lock2]) _ rfl rfl (by kernel_rfl) (by kernel_rfl) (by kernel_rfl) (fun _ _ _ h => h) (yieldsIf_whole (by rfl) 36 _ rfl (w8.heap.size) rfl 36 #[.int .i64 me2, .int .i64 rev2, .int .i64 cr2, .int .i64 h2, .int .u64 (b2 : Int), .int .i64 bad2, .int .i64 lock2] _ (fun v hv => hv.2) Tryd.underlying36 rfl (by kernel_rfl)) hHeld ?_
    simp only [Act.put, List.setIfInBounds_toArray, List.set_cons_zero, List.set_cons_succ]
    refine take_at 26 106 (.bool true) _ rfl rfl (by kernel_rfl) (by kernel_rfl) (by kernel_rfl) (fun _ _ _ h => h) (Or.inl ⟨by rfl, fun v hv => by skip; clear hv; go_simp⟩) hHeld ?_
    simp only [Act.put, List.setIfInBounds_toArray, List.set_cons_zero, List.set_cons_succ]
    refine take_at 27 107 (.bool false) _ rfl rfl (by kernel_rfl) (by kernel_rfl) (by kernel_rfl) (fun _ _ _ h => h) (Or.inl ⟨by rfl, fun v hv => by skip; clear hv; go_simp⟩) hHeld ?_
    simp only [Act.put, List.setIfInBounds_toArray, List.set_cons_zero, List.set_cons_succ]
    refine take_at 28 108 (.bool false) _ rfl rfl (by kernel_rfl) (by kernel_rfl) (by kernel_rfl) (fun _ _ _ h => h) (Or.inl ⟨by rfl, fun v hv => by skip; clear hv; go_simp⟩) hHeld ?_
    simp only [Act.put, List.setIfInBounds_toArray, List.set_cons_zero, List.set_cons_succ]
    refine take_at 29 109 (.bool false) _ rfl rfl (by kernel_rfl) (by kernel_rfl) (by kernel_rfl) (fun _ _ _ h => h) (Or.inl ⟨by rfl, fun v hv => by skip; clear hv; go_simp⟩) hHeld ?_
    simp only [Act.put, List.setIfInBounds_toArray, List.set_cons_zero, List.set_cons_succ]
    refine take_at 30 110 (.pointer (some ⟨w2.heap.size, 0, none⟩)) _ rfl rfl (by kernel_rfl) (by kernel_rfl) (by kernel_rfl) (fun _ _ _ h => h) (Or.inl ⟨by rfl, fun v hv => by skip; clear hv; go_simp⟩) hHeld ?_
    simp only [Act.put, List.setIfInBounds_toArray, List.set_cons_zero, List.set_cons_succ]
    refine take_at 31 111 (.int .i64 me1) _ rfl rfl (by kernel_rfl) (by kernel_rfl) (by kernel_rfl) (fun _ _ _ h => h) (Or.inl ⟨by rfl, fun v hv => by have h2 := hv.1.cell 0; clear hv; go_simp⟩) hHeld ?_
    simp only [Act.put, List.setIfInBounds_toArray, List.set_cons_zero, List.set_cons_succ]
    refine take_at 32 112 (.int .i64 me0) _ rfl rfl (by kernel_rfl) (by kernel_rfl) (by kernel_rfl) (fun _ _ _ h => h) (Or.inl ⟨by rfl, fun v hv => by skip; clear hv; go_simp⟩) hHeld ?_
    simp only [Act.put, List.setIfInBounds_toArray, List.set_cons_zero, List.set_cons_succ]
    refine call_at 33 113 (.int .i64 me1) _ rfl rfl (by kernel_rfl) (by kernel_rfl) (by kernel_rfl) (fun _ _ _ h => h) 6 #[.int .i64 me0, .int .i64 50] ⟨by rfl, fun v hv => by clear hv; go_simp⟩ (fun v _ => HP.out v) hHeld ?_
    simp only [Act.put, List.setIfInBounds_toArray, List.set_cons_zero, List.set_cons_succ]
    refine take_at 34 114 (.bool false) _ rfl rfl (by kernel_rfl) (by kernel_rfl) (by kernel_rfl) (fun _ _ _ h => h) (Or.inl ⟨by rfl, fun v hv => by skip; clear hv; go_simp⟩) hHeld ?_
    simp only [Act.put, List.setIfInBounds_toArray, List.set_cons_zero, List.set_cons_succ]
    refine take_at 35 115 (.bool false) _ rfl rfl (by kernel_rfl) (by kernel_rfl) (by kernel_rfl) (fun _ _ _ h => h) (Or.inl ⟨by rfl, fun v hv => by skip; clear hv; go_simp⟩) hHeld ?_
    simp only [Act.put, List.setIfInBounds_toArray, List.set_cons_zero, List.set_cons_succ]
    refine wpAnyH_done (by kernel_rfl) ?_ _
    clear hHeld HBK
    have H13m : Hid (Blk w9.drew (w2.heap.size) #[.int .i64 me1, .int .i64 rev1, .int .i64 cr1, .int .i64 h1, .int .u64 (b1 : Int), .int .i64 bad1, .int .i64 lock1] 36) := Blk.drew H12m.out 1
    have H13n : Hid (Blk w9.drew (w8.heap.size) #[.int .i64 me2, .int .i64 rev2, .int .i64 cr2, .int .i64 h2, .int .u64 (b2 : Int), .int .i64 bad2, .int .i64 lock2] 36) := Blk.drew H12n.out 1
    have H13B : Hid (Below w.heap.size w w9.drew) := H12B.out.drew
    have H13Ch : Hid (Hm w9.drew a c xs ⟨me1, rev1, cr1, h1, b1, bad1, lock1⟩) := H12Ch.out.below (Below.refl _ _).drew
    have H13Cg : Hid (Wg w9.drew b9 0 d9 wl) := HCg.out.below (Below.refl _ _).drew
    clear H12m H12n H12Ch HCg H12B
    generalize w9.drew = WD at *
    go_wp2_with fail
    go_ret
    exact ⟨rfl, H13B.out⟩
  · obtain rfl : n9 = 7 := hln.symm.trans h7
    have hqm : ∀ W : World, (Op.equalIn 10000 36 (.agg #[.int .i64 me1, .int .i64 rev1, .int .i64 cr1, .int .i64 h1, .int .u64 (b1 : Int), .int .i64 bad1, .int .i64 lock1]) (.agg #[.int .i64 me2, .int .i64 rev2, .int .i64 cr2, .int .i64 h2, .int .u64 (b2 : Int), .int .i64 bad2, .int .i64 lock2])).run Tryd.prog W = .ok false W := fun W => eqMt_two ⟨me1, rev1, cr1, h1, b1, bad1, lock1⟩ ⟨me2, rev2, cr2, h2, b2, bad2, lock2⟩ W (fun h => hmm h.symm)
    clear hln h7 hmm
    go_upto_region 11 with fail
    have HBK : Hid (Blk w9.drew (w2.heap.size) #[.int .i64 me1, .int .i64 rev1, .int .i64 cr1, .int .i64 h1, .int .u64 (b1 : Int), .int .i64 bad1, .int .i64 lock1] 36 ∧ Blk w9.drew (w8.heap.size) #[.int .i64 me2, .int .i64 rev2, .int .i64 cr2, .int .i64 h2, .int .u64 (b2 : Int), .int .i64 bad2, .int .i64 lock2] 36) := ⟨Blk.drew H12m.out 1, Blk.drew H12n.out 1⟩
    refine wp_region_held_drew (S := fun v => Blk v (w2.heap.size) #[.int .i64 me1, .int .i64 rev1, .int .i64 cr1, .int .i64 h1, .int .u64 (b1 : Int), .int .i64 bad1, .int .i64 lock1] 36 ∧ Blk v (w8.heap.size) #[.int .i64 me2, .int .i64 rev2, .int .i64 cr2, .int .i64 h2, .int .u64 (b2 : Int), .int .i64 bad2, .int .i64 lock2] 36) (by kernel_rfl) HBK.out (fun hHeld => ?_)
    refine take_at 0 80 (.bool true) _ rfl rfl (by kernel_rfl) (by kernel_rfl) (by kernel_rfl) (fun _ _ _ h => h) (Or.inl ⟨by rfl, fun v hv => by skip; clear hv; go_simp⟩) hHeld ?_
    simp only [Act.put, List.setIfInBounds_toArray, List.set_cons_zero, List.set_cons_succ]
    refine take_at 1 81 (.bool false) _ rfl rfl (by kernel_rfl) (by kernel_rfl) (by kernel_rfl) (fun _ _ _ h => h) (Or.inl ⟨by rfl, fun v hv => by skip; clear hv; go_simp⟩) hHeld ?_
    simp only [Act.put, List.setIfInBounds_toArray, List.set_cons_zero, List.set_cons_succ]
    refine take_at 2 82 (.bool false) _ rfl rfl (by kernel_rfl) (by kernel_rfl) (by kernel_rfl) (fun _ _ _ h => h) (Or.inl ⟨by rfl, fun v hv => by skip; clear hv; go_simp⟩) hHeld ?_
    simp only [Act.put, List.setIfInBounds_toArray, List.set_cons_zero, List.set_cons_succ]
    refine take_at 3 83 (.int .i64 0) _ rfl rfl (by kernel_rfl) (by kernel_rfl) (by kernel_rfl) (fun _ _ _ h => h) (Or.inl ⟨by rfl, fun v hv => by skip; clear hv; go_simp⟩) hHeld ?_
    simp only [Act.put, List.setIfInBounds_toArray, List.set_cons_zero, List.set_cons_succ]
    refine take_at 4 84 (.bool false) _ rfl rfl (by kernel_rfl) (by kernel_rfl) (by kernel_rfl) (fun _ _ _ h => h) (Or.inl ⟨by rfl, fun v hv => by skip; clear hv; go_simp⟩) hHeld ?_
    simp only [Act.put, List.setIfInBounds_toArray, List.set_cons_zero, List.set_cons_succ]
    refine take_at 5 85 (.bool false) _ rfl rfl (by kernel_rfl) (by kernel_rfl) (by kernel_rfl) (fun _ _ _ h => h) (Or.inl ⟨by rfl, fun v hv => by skip; clear hv; go_simp⟩) hHeld ?_
    simp only [Act.put, List.setIfInBounds_toArray, List.set_cons_zero, List.set_cons_succ]
    refine take_at 6 86 (.bool false) _ rfl rfl (by kernel_rfl) (by kernel_rfl) (by kernel_rfl) (fun _ _ _ h => h) (Or.inl ⟨by rfl, fun v hv => by skip; clear hv; go_simp⟩) hHeld ?_
    simp only [Act.put, List.setIfInBounds_toArray, List.set_cons_zero, List.set_cons_succ]
    refine take_at 7 87 (.int .i64 0) _ rfl rfl (by kernel_rfl) (by kernel_rfl) (by kernel_rfl) (fun _ _ _ h => h) (Or.inl ⟨by rfl, fun v hv => by skip; clear hv; go_simp⟩) hHeld ?_
    simp only [Act.put, List.setIfInBounds_toArray, List.set_cons_zero, List.set_cons_succ]
    refine take_at 8 88 (.bool false) _ rfl rfl (by kernel_rfl) (by kernel_rfl) (by kernel_rfl) (fun _ _ _ h => h) (Or.inl ⟨by rfl, fun v hv => by skip; clear hv; go_simp⟩) hHeld ?_
    simp only [Act.put, List.setIfInBounds_toArray, List.set_cons_zero, List.set_cons_succ]
    refine take_at 9 89 (.bool false) _ rfl rfl (by kernel_rfl) (by kernel_rfl) (by kernel_rfl) (fun _ _ _ h => h) (Or.inl ⟨by rfl, fun v hv => by skip; clear hv; go_simp⟩) hHeld ?_
    simp only [Act.put, List.setIfInBounds_toArray, List.set_cons_zero, List.set_cons_succ]
    refine take_at 10 90 (.bool false) _ rfl rfl (by kernel_rfl) (by kernel_rfl) (by kernel_rfl) (fun _ _ _ h => h) (Or.inl ⟨by rfl, fun v hv => by skip; clear hv; go_simp⟩) hHeld ?_
    simp only [Act.put, List.setIfInBounds_toArray, List.set_cons_zero, List.set_cons_succ]
    refine take_at 11 91 (.int .i64 f8) _ rfl rfl (by kernel_rfl) (by kernel_rfl) (by kernel_rfl) (fun _ _ _ h => h) (Or.inl ⟨by rfl, fun v hv => by skip; clear hv; go_simp⟩) hHeld ?_
    simp only [Act.put, List.setIfInBounds_toArray, List.set_cons_zero, List.set_cons_succ]
    refine take_at 12 92 (.int .i64 f8) _ rfl rfl (by kernel_rfl) (by kernel_rfl) (by kernel_rfl) (fun _ _ _ h => h) (Or.inl ⟨by rfl, fun v hv => by skip; clear hv; go_simp⟩) hHeld ?_
    simp only [Act.put, List.setIfInBounds_toArray, List.set_cons_zero, List.set_cons_succ]
    refine take_at 13 93 (.bool false) _ rfl rfl (by kernel_rfl) (by kernel_rfl) (by kernel_rfl) (fun _ _ _ h => h) (Or.inl ⟨by rfl, fun v hv => by skip; clear hv; go_simp⟩) hHeld ?_
    simp only [Act.put, List.setIfInBounds_toArray, List.set_cons_zero, List.set_cons_succ]
    refine take_at 14 94 (.bool false) _ rfl rfl (by kernel_rfl) (by kernel_rfl) (by kernel_rfl) (fun _ _ _ h => h) (Or.inl ⟨by rfl, fun v hv => by skip; clear hv; go_simp⟩) hHeld ?_
    simp only [Act.put, List.setIfInBounds_toArray, List.set_cons_zero, List.set_cons_succ]
    refine take_at 15 95 (.bool false) _ rfl rfl (by kernel_rfl) (by kernel_rfl) (by kernel_rfl) (fun _ _ _ h => h) (Or.inl ⟨by rfl, fun v hv => by skip; clear hv; go_simp⟩) hHeld ?_
    simp only [Act.put, List.setIfInBounds_toArray, List.set_cons_zero, List.set_cons_succ]
    refine take_at 16 96 (.int .i64 y8) _ rfl rfl (by kernel_rfl) (by kernel_rfl) (by kernel_rfl) (fun _ _ _ h => h) (Or.inl ⟨by rfl, fun v hv => by skip; clear hv; go_simp⟩) hHeld ?_
    simp only [Act.put, List.setIfInBounds_toArray, List.set_cons_zero, List.set_cons_succ]
    refine take_at 17 97 (.int .i64 y8) _ rfl rfl (by kernel_rfl) (by kernel_rfl) (by kernel_rfl) (fun _ _ _ h => h) (Or.inl ⟨by rfl, fun v hv => by skip; clear hv; go_simp⟩) hHeld ?_
    simp only [Act.put, List.setIfInBounds_toArray, List.set_cons_zero, List.set_cons_succ]
    refine take_at 18 98 (.bool false) _ rfl rfl (by kernel_rfl) (by kernel_rfl) (by kernel_rfl) (fun _ _ _ h => h) (Or.inl ⟨by rfl, fun v hv => by skip; clear hv; go_simp⟩) hHeld ?_
    simp only [Act.put, List.setIfInBounds_toArray, List.set_cons_zero, List.set_cons_succ]
    refine take_at 19 99 (.bool false) _ rfl rfl (by kernel_rfl) (by kernel_rfl) (by kernel_rfl) (fun _ _ _ h => h) (Or.inl ⟨by rfl, fun v hv => by skip; clear hv; go_simp⟩) hHeld ?_
    simp only [Act.put, List.setIfInBounds_toArray, List.set_cons_zero, List.set_cons_succ]
    refine take_at 20 100 (.bool false) _ rfl rfl (by kernel_rfl) (by kernel_rfl) (by kernel_rfl) (fun _ _ _ h => h) (Or.inl ⟨by rfl, fun v hv => by skip; clear hv; go_simp⟩) hHeld ?_
    simp only [Act.put, List.setIfInBounds_toArray, List.set_cons_zero, List.set_cons_succ]
    refine take_at 21 101 (.slice b9 7 d9) _ rfl rfl (by kernel_rfl) (by kernel_rfl) (by kernel_rfl) (fun _ _ _ h => h) (Or.inl ⟨by rfl, fun v hv => by skip; clear hv; go_simp⟩) hHeld ?_
    simp only [Act.put, List.setIfInBounds_toArray, List.set_cons_zero, List.set_cons_succ]
    refine take_at 22 102 (.int .i64 7) _ rfl rfl (by kernel_rfl) (by kernel_rfl) (by kernel_rfl) (fun _ _ _ h => h) (Or.inl ⟨by rfl, fun v hv => by skip; clear hv; go_simp⟩) hHeld ?_
    simp only [Act.put, List.setIfInBounds_toArray, List.set_cons_zero, List.set_cons_succ]
    refine take_at 23 103 (.bool false) _ rfl rfl (by kernel_rfl) (by kernel_rfl) (by kernel_rfl) (fun _ _ _ h => h) (Or.inl ⟨by rfl, fun v hv => by skip; clear hv; go_simp⟩) hHeld ?_
    simp only [Act.put, List.setIfInBounds_toArray, List.set_cons_zero, List.set_cons_succ]
    refine take_at 24 104 (.agg #[.int .i64 me1, .int .i64 rev1, .int .i64 cr1, .int .i64 h1, .int .u64 (b1 : Int), .int .i64 bad1, .int .i64 lock1]) _ rfl rfl (by kernel_rfl) (by kernel_rfl) (by kernel_rfl) (fun _ _ _ h => h) (yieldsIf_whole (by rfl) 36 _ rfl (w2.heap.size) rfl 36 #[.int .i64 me1, .int .i64 rev1, .int .i64 cr1, .int .i64 h1, .int .u64 (b1 : Int), .int .i64 bad1, .int .i64 lock1] _ (fun v hv => hv.1) Tryd.underlying36 rfl (by kernel_rfl)) hHeld ?_
    simp only [Act.put, List.setIfInBounds_toArray, List.set_cons_zero, List.set_cons_succ]
    refine take_at 25 105 (.agg #[.int .i64 me2, .int .i64 rev2, .int .i64 cr2, .int .i64 h2, .int .u64 (b2 : Int), .int .i64 bad2, .int .i64 lock2]) _ rfl rfl (by kernel_rfl) (by kernel_rfl) (by kernel_rfl) (fun _ _ _ h => h) (yieldsIf_whole (by rfl) 36 _ rfl (w8.heap.size) rfl 36 #[.int .i64 me2, .int .i64 rev2, .int .i64 cr2, .int .i64 h2, .int .u64 (b2 : Int), .int .i64 bad2, .int .i64 lock2] _ (fun v hv => hv.2) Tryd.underlying36 rfl (by kernel_rfl)) hHeld ?_
    simp only [Act.put, List.setIfInBounds_toArray, List.set_cons_zero, List.set_cons_succ]
    refine take_at 26 106 (.bool false) _ rfl rfl (by kernel_rfl) (by kernel_rfl) (by kernel_rfl) (fun _ _ _ h => h) (Or.inl ⟨by rfl, fun v hv => by skip; clear hv; go_simp⟩) hHeld ?_
    simp only [Act.put, List.setIfInBounds_toArray, List.set_cons_zero, List.set_cons_succ]
    refine take_at 27 107 (.bool false) _ rfl rfl (by kernel_rfl) (by kernel_rfl) (by kernel_rfl) (fun _ _ _ h => h) (Or.inl ⟨by rfl, fun v hv => by skip; clear hv; go_simp⟩) hHeld ?_
    simp only [Act.put, List.setIfInBounds_toArray, List.set_cons_zero, List.set_cons_succ]
    refine take_at 28 108 (.bool false) _ rfl rfl (by kernel_rfl) (by kernel_rfl) (by kernel_rfl) (fun _ _ _ h => h) (Or.inl ⟨by rfl, fun v hv => by skip; clear hv; go_simp⟩) hHeld ?_
    simp only [Act.put, List.setIfInBounds_toArray, List.set_cons_zero, List.set_cons_succ]
    refine take_at 29 109 (.bool false) _ rfl rfl (by kernel_rfl) (by kernel_rfl) (by kernel_rfl) (fun _ _ _ h => h) (Or.inl ⟨by rfl, fun v hv => by skip; clear hv; go_simp⟩) hHeld ?_
    simp only [Act.put, List.setIfInBounds_toArray, List.set_cons_zero, List.set_cons_succ]
    refine take_at 30 110 (.pointer (some ⟨w2.heap.size, 0, none⟩)) _ rfl rfl (by kernel_rfl) (by kernel_rfl) (by kernel_rfl) (fun _ _ _ h => h) (Or.inl ⟨by rfl, fun v hv => by skip; clear hv; go_simp⟩) hHeld ?_
    simp only [Act.put, List.setIfInBounds_toArray, List.set_cons_zero, List.set_cons_succ]
    refine take_at 31 111 (.int .i64 me1) _ rfl rfl (by kernel_rfl) (by kernel_rfl) (by kernel_rfl) (fun _ _ _ h => h) (Or.inl ⟨by rfl, fun v hv => by have h2 := hv.1.cell 0; clear hv; go_simp⟩) hHeld ?_
    simp only [Act.put, List.setIfInBounds_toArray, List.set_cons_zero, List.set_cons_succ]
    refine take_at 32 112 (.int .i64 me0) _ rfl rfl (by kernel_rfl) (by kernel_rfl) (by kernel_rfl) (fun _ _ _ h => h) (Or.inl ⟨by rfl, fun v hv => by skip; clear hv; go_simp⟩) hHeld ?_
    simp only [Act.put, List.setIfInBounds_toArray, List.set_cons_zero, List.set_cons_succ]
    refine call_at 33 113 (.int .i64 me1) _ rfl rfl (by kernel_rfl) (by kernel_rfl) (by kernel_rfl) (fun _ _ _ h => h) 6 #[.int .i64 me0, .int .i64 50] ⟨by rfl, fun v hv => by clear hv; go_simp⟩ (fun v _ => HP.out v) hHeld ?_
    simp only [Act.put, List.setIfInBounds_toArray, List.set_cons_zero, List.set_cons_succ]
    refine take_at 34 114 (.bool false) _ rfl rfl (by kernel_rfl) (by kernel_rfl) (by kernel_rfl) (fun _ _ _ h => h) (Or.inl ⟨by rfl, fun v hv => by skip; clear hv; go_simp⟩) hHeld ?_
    simp only [Act.put, List.setIfInBounds_toArray, List.set_cons_zero, List.set_cons_succ]
    refine take_at 35 115 (.bool false) _ rfl rfl (by kernel_rfl) (by kernel_rfl) (by kernel_rfl) (fun _ _ _ h => h) (Or.inl ⟨by rfl, fun v hv => by skip; clear hv; go_simp⟩) hHeld ?_
    simp only [Act.put, List.setIfInBounds_toArray, List.set_cons_zero, List.set_cons_succ]
    refine wpAnyH_done (by kernel_rfl) ?_ _
    clear hHeld HBK
    have H13m : Hid (Blk w9.drew (w2.heap.size) #[.int .i64 me1, .int .i64 rev1, .int .i64 cr1, .int .i64 h1, .int .u64 (b1 : Int), .int .i64 bad1, .int .i64 lock1] 36) := Blk.drew H12m.out 1
    have H13n : Hid (Blk w9.drew (w8.heap.size) #[.int .i64 me2, .int .i64 rev2, .int .i64 cr2, .int .i64 h2, .int .u64 (b2 : Int), .int .i64 bad2, .int .i64 lock2] 36) := Blk.drew H12n.out 1
    have H13B : Hid (Below w.heap.size w w9.drew) := H12B.out.drew
    have H13Ch : Hid (Hm w9.drew a c xs ⟨me1, rev1, cr1, h1, b1, bad1, lock1⟩) := H12Ch.out.below (Below.refl _ _).drew
    have H13Cg : Hid (Wg w9.drew b9 7 d9 wl) := HCg.out.below (Below.refl _ _).drew
    clear H12m H12n H12Ch HCg H12B
    generalize w9.drew = WD at *
    clear hqm e1 e2 e3
    have HAQ : Hid (Calls Tryd.prog 12 #[.slice a 12 c, .slice b9 7 d9, .int .i64 (q : Int)] WD fun e w' => ∃ a' c' xs', e = .returned (.tuple #[.slice a' 12 c', .int .i64 0]) ∧ (q = 7 → Hm w' a' c' xs' ⟨me2, rev2, cr2, h2, b2, bad2, lock2⟩) ∧ (q < 7 → Hm w' a' c' xs' ⟨me1, rev1, cr1, h1, b1, bad1, lock1⟩) ∧ Below WD.heap.size WD w') := HAP.out WD a c xs ⟨me1, rev1, cr1, h1, b1, bad1, lock1⟩ ⟨me2, rev2, cr2, h2, b2, bad2, lock2⟩ b9 d9 wl q H13Ch.out H13Cg.out HWI.out HM2.out HQ7.out
    clear H13Ch H13Cg HWI
    go_wp2_with fail
    refine (HPK.out _).mono ?_
    rintro e wq ⟨rfl, hwq⟩
    subst hwq
    go_wp2_with fail
    refine HAQ.out.mono ?_
    rintro e w10 ⟨a10, c10, xs10, rfl, hA, hB, hb10⟩
    have H14m : Hid (Blk w10 (w2.heap.size) #[.int .i64 me1, .int .i64 rev1, .int .i64 cr1, .int .i64 h1, .int .u64 (b1 : Int), .int .i64 bad1, .int .i64 lock1] 36) := H13m.out.next hb10
    have H14n : Hid (Blk w10 (w8.heap.size) #[.int .i64 me2, .int .i64 rev2, .int .i64 cr2, .int .i64 h2, .int .u64 (b2 : Int), .int .i64 bad2, .int .i64 lock2] 36) := H13n.out.next hb10
    have H14B : Hid (Below w.heap.size w w10) := bel_step H13B.out hb10
    clear H13m H13n H13B hb10 HAQ
    have hqq := HQ7.out
    by_cases hq : q < 7
    · have HH : Hid (Hm w10 a10 c10 xs10 ⟨me1, rev1, cr1, h1, b1, bad1, lock1⟩) := hB hq
      have hdq : decide ((q : Int) < 7) = true := by simp; omega
      have hqm : ∀ W : World, (Op.equalIn 10000 36 (.agg #[.int .i64 me1, .int .i64 rev1, .int .i64 cr1, .int .i64 h1, .int .u64 (b1 : Int), .int .i64 bad1, .int .i64 lock1]) (.agg #[.int .i64 me1, .int .i64 rev1, .int .i64 cr1, .int .i64 h1, .int .u64 (b1 : Int), .int .i64 bad1, .int .i64 lock1])).run Tryd.prog W = .ok true W := fun W => eqMt _ _ _ _ _ _ _ W
      clear hA hB hq hqq
      go_wp2_with fail
      refine (HBT.out _ _ _ _ _ HH.out).mono ?_
      rintro e w11 ⟨rfl, hb11⟩
      have H15m : Hid (Blk w11 (w2.heap.size) #[.int .i64 me1, .int .i64 rev1, .int .i64 cr1, .int .i64 h1, .int .u64 (b1 : Int), .int .i64 bad1, .int .i64 lock1] 36) := H14m.out.next hb11
      have H15n : Hid (Blk w11 (w8.heap.size) #[.int .i64 me2, .int .i64 rev2, .int .i64 cr2, .int .i64 h2, .int .u64 (b2 : Int), .int .i64 bad2, .int .i64 lock2] 36) := H14n.out.next hb11
      have H15B : Hid (Below w.heap.size w w11) := bel_step H14B.out hb11
      unfold Mt.v Mt.cells
      simp only []
      have H16m : Hid (Blk (w11.alloc (.cells #[.int .i64 me1, .int .i64 rev1, .int .i64 cr1, .int .i64 h1, .int .u64 (b1 : Int), .int .i64 bad1, .int .i64 lock1] 36)) (w2.heap.size) #[.int .i64 me1, .int .i64 rev1, .int .i64 cr1, .int .i64 h1, .int .u64 (b1 : Int), .int .i64 bad1, .int .i64 lock1] 36) := (H15m.out).alloc _
      have H16n : Hid (Blk (w11.alloc (.cells #[.int .i64 me1, .int .i64 rev1, .int .i64 cr1, .int .i64 h1, .int .u64 (b1 : Int), .int .i64 bad1, .int .i64 lock1] 36)) (w8.heap.size) #[.int .i64 me2, .int .i64 rev2, .int .i64 cr2, .int .i64 h2, .int .u64 (b2 : Int), .int .i64 bad2, .int .i64 lock2] 36) := (H15n.out).alloc _
      have H16z : Hid (Blk (w11.alloc (.cells #[.int .i64 me1, .int .i64 rev1, .int .i64 cr1, .int .i64 h1, .int .u64 (b1 : Int), .int .i64 bad1, .int .i64 lock1] 36)) (w11.heap.size) #[.int .i64 me1, .int .i64 rev1, .int .i64 cr1, .int .i64 h1, .int .u64 (b1 : Int), .int .i64 bad1, .int .i64 lock1] 36) := (Blk.new w11 _ _)
      have L16zm : Hid (w2.heap.size < w11.heap.size) := Nat.lt_of_lt_of_le H15m.out.lt (by simp)
      have L16zn : Hid (w8.heap.size < w11.heap.size) := Nat.lt_of_lt_of_le H15n.out.lt (by simp)
      have H16B : Hid (Below w.heap.size w (w11.alloc (.cells #[.int .i64 me1, .int .i64 rev1, .int .i64 cr1, .int .i64 h1, .int .u64 (b1 : Int), .int .i64 bad1, .int .i64 lock1] 36))) := (H15B.out).alloc (Nat.le_trans H15B.out.size (by simp)) _
      have L160 : Hid (w.heap.size ≤ w11.heap.size) := H15B.out.size
      clear H14m H14n H14B H15m H15n H15B hb11 HH HBT
      go_wp2_with (first
        | (refine wp_whole rfl 36 _ rfl (w2.heap.size) rfl 36 #[.int .i64 me1, .int .i64 rev1, .int .i64 cr1, .int .i64 h1, .int .u64 (b1 : Int), .int .i64 bad1, .int .i64 lock1] _ H16m.out Tryd.underlying36 rfl (by kernel_rfl) ?_)
        | (refine wp_wholeG (by rfl) 36 _ rfl (w2.heap.size) rfl 36 #[.int .i64 me1, .int .i64 rev1, .int .i64 cr1, .int .i64 h1, .int .u64 (b1 : Int), .int .i64 bad1, .int .i64 lock1] _ H16m.out Tryd.underlying36 rfl (by kernel_rfl) ?_)
        | (refine wp_whole rfl 36 _ rfl (w8.heap.size) rfl 36 #[.int .i64 me2, .int .i64 rev2, .int .i64 cr2, .int .i64 h2, .int .u64 (b2 : Int), .int .i64 bad2, .int .i64 lock2] _ H16n.out Tryd.underlying36 rfl (by kernel_rfl) ?_)
        | (refine wp_wholeG (by rfl) 36 _ rfl (w8.heap.size) rfl 36 #[.int .i64 me2, .int .i64 rev2, .int .i64 cr2, .int .i64 h2, .int .u64 (b2 : Int), .int .i64 bad2, .int .i64 lock2] _ H16n.out Tryd.underlying36 rfl (by kernel_rfl) ?_)
        | (refine wp_whole rfl 36 _ rfl (w11.heap.size) rfl 36 #[.int .i64 me1, .int .i64 rev1, .int .i64 cr1, .int .i64 h1, .int .u64 (b1 : Int), .int .i64 bad1, .int .i64 lock1] _ H16z.out Tryd.underlying36 rfl (by kernel_rfl) ?_)
        | (refine wp_wholeG (by rfl) 36 _ rfl (w11.heap.size) rfl 36 #[.int .i64 me1, .int .i64 rev1, .int .i64 cr1, .int .i64 h1, .int .u64 (b1 : Int), .int .i64 bad1, .int .i64 lock1] _ H16z.out Tryd.underlying36 rfl (by kernel_rfl) ?_)
        | fail)
      go_ret
      exact ⟨rfl, H16B.out⟩
    · have HH : Hid (Hm w10 a10 c10 xs10 ⟨me2, rev2, cr2, h2, b2, bad2, lock2⟩) := hA (by omega)
      have hdq : decide ((q : Int) < 7) = false := by simp; omega
      have hqm : ∀ W : World, (Op.equalIn 10000 36 (.agg #[.int .i64 me2, .int .i64 rev2, .int .i64 cr2, .int .i64 h2, .int .u64 (b2 : Int), .int .i64 bad2, .int .i64 lock2]) (.agg #[.int .i64 me2, .int .i64 rev2, .int .i64 cr2, .int .i64 h2, .int .u64 (b2 : Int), .int .i64 bad2, .int .i64 lock2])).run Tryd.prog W = .ok true W := fun W => eqMt _ _ _ _ _ _ _ W
      clear hA hB hq hqq
      go_wp2_with fail
      refine (HBT.out _ _ _ _ _ HH.out).mono ?_
      rintro e w11 ⟨rfl, hb11⟩
      have H15m : Hid (Blk w11 (w2.heap.size) #[.int .i64 me1, .int .i64 rev1, .int .i64 cr1, .int .i64 h1, .int .u64 (b1 : Int), .int .i64 bad1, .int .i64 lock1] 36) := H14m.out.next hb11
      have H15n : Hid (Blk w11 (w8.heap.size) #[.int .i64 me2, .int .i64 rev2, .int .i64 cr2, .int .i64 h2, .int .u64 (b2 : Int), .int .i64 bad2, .int .i64 lock2] 36) := H14n.out.next hb11
      have H15B : Hid (Below w.heap.size w w11) := bel_step H14B.out hb11
      unfold Mt.v Mt.cells
      simp only []
      have H16m : Hid (Blk (w11.alloc (.cells #[.int .i64 me2, .int .i64 rev2, .int .i64 cr2, .int .i64 h2, .int .u64 (b2 : Int), .int .i64 bad2, .int .i64 lock2] 36)) (w2.heap.size) #[.int .i64 me1, .int .i64 rev1, .int .i64 cr1, .int .i64 h1, .int .u64 (b1 : Int), .int .i64 bad1, .int .i64 lock1] 36) := (H15m.out).alloc _
      have H16n : Hid (Blk (w11.alloc (.cells #[.int .i64 me2, .int .i64 rev2, .int .i64 cr2, .int .i64 h2, .int .u64 (b2 : Int), .int .i64 bad2, .int .i64 lock2] 36)) (w8.heap.size) #[.int .i64 me2, .int .i64 rev2, .int .i64 cr2, .int .i64 h2, .int .u64 (b2 : Int), .int .i64 bad2, .int .i64 lock2] 36) := (H15n.out).alloc _
      have H16z : Hid (Blk (w11.alloc (.cells #[.int .i64 me2, .int .i64 rev2, .int .i64 cr2, .int .i64 h2, .int .u64 (b2 : Int), .int .i64 bad2, .int .i64 lock2] 36)) (w11.heap.size) #[.int .i64 me2, .int .i64 rev2, .int .i64 cr2, .int .i64 h2, .int .u64 (b2 : Int), .int .i64 bad2, .int .i64 lock2] 36) := (Blk.new w11 _ _)
      have L16zm : Hid (w2.heap.size < w11.heap.size) := Nat.lt_of_lt_of_le H15m.out.lt (by simp)
      have L16zn : Hid (w8.heap.size < w11.heap.size) := Nat.lt_of_lt_of_le H15n.out.lt (by simp)
      have H16B : Hid (Below w.heap.size w (w11.alloc (.cells #[.int .i64 me2, .int .i64 rev2, .int .i64 cr2, .int .i64 h2, .int .u64 (b2 : Int), .int .i64 bad2, .int .i64 lock2] 36))) := (H15B.out).alloc (Nat.le_trans H15B.out.size (by simp)) _
      have L160 : Hid (w.heap.size ≤ w11.heap.size) := H15B.out.size
      clear H14m H14n H14B H15m H15n H15B hb11 HH HBT
      go_wp2_with (first
        | (refine wp_whole rfl 36 _ rfl (w2.heap.size) rfl 36 #[.int .i64 me1, .int .i64 rev1, .int .i64 cr1, .int .i64 h1, .int .u64 (b1 : Int), .int .i64 bad1, .int .i64 lock1] _ H16m.out Tryd.underlying36 rfl (by kernel_rfl) ?_)
        | (refine wp_wholeG (by rfl) 36 _ rfl (w2.heap.size) rfl 36 #[.int .i64 me1, .int .i64 rev1, .int .i64 cr1, .int .i64 h1, .int .u64 (b1 : Int), .int .i64 bad1, .int .i64 lock1] _ H16m.out Tryd.underlying36 rfl (by kernel_rfl) ?_)
        | (refine wp_whole rfl 36 _ rfl (w8.heap.size) rfl 36 #[.int .i64 me2, .int .i64 rev2, .int .i64 cr2, .int .i64 h2, .int .u64 (b2 : Int), .int .i64 bad2, .int .i64 lock2] _ H16n.out Tryd.underlying36 rfl (by kernel_rfl) ?_)
        | (refine wp_wholeG (by rfl) 36 _ rfl (w8.heap.size) rfl 36 #[.int .i64 me2, .int .i64 rev2, .int .i64 cr2, .int .i64 h2, .int .u64 (b2 : Int), .int .i64 bad2, .int .i64 lock2] _ H16n.out Tryd.underlying36 rfl (by kernel_rfl) ?_)
        | (refine wp_whole rfl 36 _ rfl (w11.heap.size) rfl 36 #[.int .i64 me2, .int .i64 rev2, .int .i64 cr2, .int .i64 h2, .int .u64 (b2 : Int), .int .i64 bad2, .int .i64 lock2] _ H16z.out Tryd.underlying36 rfl (by kernel_rfl) ?_)
        | (refine wp_wholeG (by rfl) 36 _ rfl (w11.heap.size) rfl 36 #[.int .i64 me2, .int .i64 rev2, .int .i64 cr2, .int .i64 h2, .int .u64 (b2 : Int), .int .i64 bad2, .int .i64 lock2] _ H16z.out Tryd.underlying36 rfl (by kernel_rfl) ?_)
        | fail)
      go_ret
      exact ⟨rfl, H16B.out⟩
theorem cut_walk (me0 : Int) (a0 : Option Addr) (len0 cap0 : Nat) (zs : List Pr) (x0 x1 x2 x3 : Int) (wrong : Bool) (k0 : Int) (w : World) (ht : TTab w) (hme0 : (Lit.int .i64 me0).wf = true) (hrw : RowA w a0 len0 zs) (hx : wf4 x0 x1 x2 x3) (hk0 : (Lit.int .i64 k0).wf = true) :
    Calls Tryd.prog 3 #[.int .i64 me0, .slice a0 len0 cap0, .agg #[.int .i64 x0, .int .i64 x1, .int .i64 x2, .int .i64 x3], .bool wrong, .int .i64 k0] w fun e w' => e = .returned (.bool true) ∧ Below w.heap.size w w' := by
  have hp : (pick me0 50).toNat < 50 := pick_toNat me0 50 (by decide)
  have hmb : 0 ≤ (((pick me0 50).toNat : Nat) : Int) ∧ (((pick me0 50).toNat : Nat) : Int) ≤ 49 := by omega
  have hq := pick_toNat k0 8 (by decide)
  have HP := fun W => picked_nat me0 50 W hme0 (by decide) (by decide)
  have HPK := fun W => picked_nat k0 8 W hk0 (by decide) (by decide)
  have HAT := fun W (hB : Below w.heap.size w W) => at_any _ hmb a0 len0 cap0 zs W (ht.below hB) (hrw.below hB)
  have HAP : ∀ W a c xs m m' b d wl (q : Nat), Hm W a c xs m → Wg W b 7 d wl → WrIs xs m m' wl → Mw m' → q ≤ 7 → Calls Tryd.prog 12 #[.slice a 12 c, .slice b 7 d, .int .i64 (q : Int)] W fun e w' => ∃ a' c' xs', e = .returned (.tuple #[.slice a' 12 c', .int .i64 0]) ∧ (q = 7 → Hm w' a' c' xs' m') ∧ (q < 7 → Hm w' a' c' xs' m) ∧ Below W.heap.size W w' := fun W a c xs m m' b d wl q hm hw hi hmw hq => (happly a c xs m m' b 7 d q wl W hm hw hi hmw hq).mono fun e w' h => h
  cases wrong with
  | true => exact cut_true me0 _ k0 _ a0 len0 cap0 zs x0 x1 x2 x3 (madeT x0 x1 x2 x3) w (by omega) HP HPK HAT (fun W a c xs m hm => hboot a c xs m W hm) (fun W ao no co l m hB hc hal hl hn hm => hsold m ao no co l x0 x1 x2 x3 W (ht.below hB) hc hal hl (by omega) hm.may hx) (fun W t hok hB => format_ok ⟨_, _, _, t⟩ W (ht.below hB) hok) (fun W m ao no co ls t hB hm hc => pkey m ao no co ls _ _ _ _ W (ht.below hB) hm.b hc.row) (fun W a c xs m ao no co ls t hB hok hm hc hl => hkeyed a c xs m ao no co ls ⟨_, _, _, t⟩ hok W (ht.below hB) hm hc.row hl) HAP
  | false => exact cut_false me0 _ k0 _ a0 len0 cap0 zs x0 x1 x2 x3 (madeT x0 x1 x2 x3) w (by omega) HP HPK HAT (fun W a c xs m hm => hboot a c xs m W hm) (fun W ao no co l m hB hc hal hl hn hm => hsold m ao no co l x0 x1 x2 x3 W (ht.below hB) hc hal hl (by omega) hm.may hx) (fun W t hok hB => format_ok ⟨_, _, _, t⟩ W (ht.below hB) hok) (fun W m ao no co ls t hB hm hc => pkey m ao no co ls _ _ _ _ W (ht.below hB) hm.b hc.row) (fun W a c xs m ao no co ls t hB hok hm hc hl => hkeyed a c xs m ao no co ls ⟨_, _, _, t⟩ hok W (ht.below hB) hm hc.row hl) HAP

end Go.Proofs.YtgipkpkjoicehaaDoor.pkt

/- A meter that came in: its numbers. -/
namespace Go.Proofs.YtgipkpkjoicehaaDoor.met
open Go.ChangeShapes Go.WideShapes Go.ChangeAt Go.RowKit Go.Deep
set_option maxRecDepth 100000

theorem u64_nat {z : Int} (h : (Lit.int .u64 z).wf = true) : ∃ y : Nat, z = (y : Int) ∧ y < 18446744073709551616 := by
  have h2 : 0 ≤ z ∧ z < 18446744073709551616 := by
    simp only [Lit.wf, Bool.and_eq_true, decide_eq_true_eq] at h
    rw [show IntKind.u64.min = 0 from by decide, show IntKind.u64.max = 18446744073709551615 from by decide] at h
    omega
  exact ⟨z.toNat, by omega, by omega⟩
theorem open_met {H : Type} {enc : TypeId × Value → H} {W : World} {r : Reach} {b0 b1 : Nat} {spare : Nat → Bool} {held : Bool} {v : Value} {d : DataW H} {ps : List MemPlace}
    (hval : Value.okWide Tryd.prog W r b0 36 v) (h : DataW.Trod enc Tryd.prog W b1 spare held 36 v d ps) :
    ∃ m : Mt, v = m.v ∧ m.b < 18446744073709551616 := by
  have hu := Tryd.underlying36
  have hc : Tryd.prog.cellsOf 36 = 7 := by kernel_rfl
  have ci : Tryd.prog.cellsOf 3 = 1 := by kernel_rfl
  have cu : Tryd.prog.cellsOf 32 = 1 := by kernel_rfl
  have cw : Tryd.prog.cellsOf 34 = 2 := by kernel_rfl
  obtain ⟨cs, rfl, hsz⟩ := okWide_struct hu hval
  rw [hc] at hsz
  obtain ⟨c0, c1, c2, c3, c4, c5, c6, rfl⟩ : ∃ c0 c1 c2 c3 c4 c5 c6, cs = #[c0, c1, c2, c3, c4, c5, c6] := by
    cases cs with
    | mk l => match l, hsz with
      | [c0, c1, c2, c3, c4, c5, c6], _ => exact ⟨c0, c1, c2, c3, c4, c5, c6, rfl⟩
  obtain ⟨fuel, hf⟩ := h
  obtain ⟨xs, n, _, _, _, hlen, hg⟩ := DataW.trod_struct hu hf
  match xs, hlen with
  | [y0, y1, y2, y3, y4, y5], _ =>
    have g0 := hg 0 _ rfl
    have g1 := hg 1 _ rfl
    have g2 := hg 2 _ rfl
    have g3 := hg 3 _ rfl
    have g4 := hg 4 _ rfl
    have g5 := hg 5 _ rfl
    simp [Value.cells, ci, cw] at g0 g1 g2 g3 g4 g5
    obtain ⟨x0, e0, -, _⟩ := DataW.trod_int Tryd.underlying3 g0
    obtain ⟨x1, e1, -, _⟩ := DataW.trod_int Tryd.underlying3 g1
    obtain ⟨x2, e2, -, _⟩ := DataW.trod_int Tryd.underlying3 g2
    obtain ⟨x5, e5, -, _⟩ := DataW.trod_int Tryd.underlying3 g4
    obtain ⟨x6, e6, -, _⟩ := DataW.trod_int Tryd.underlying3 g5
    obtain ⟨z0, z1, k, _, _, q0, q1⟩ := trod_struct2 Tryd.underlying34 g3
    simp [ci, cu] at q0 q1
    obtain ⟨x3, e3, -, _⟩ := DataW.trod_int Tryd.underlying3 q0
    obtain ⟨x4, e4, -, w4⟩ := DataW.trod_int Tryd.underlying32 q1
    simp at e0 e1 e2 e3 e4 e5 e6
    subst e0 e1 e2 e3 e4 e5 e6
    obtain ⟨y, rfl, hy⟩ := u64_nat w4
    exact ⟨⟨x0, x1, x2, x3, y, x5, x6⟩, rfl, hy⟩
/-- A word is a word. -/
theorem _root_.Go.Proofs.YtgipkpkjoicehaaDoor.cell.word_of {z : Int} (h : (Lit.int .u32 z).wf = true) : 0 ≤ z ∧ z < 4294967296 := by
  simp only [Lit.wf, Bool.and_eq_true, decide_eq_true_eq] at h
  rw [show IntKind.u32.min = 0 from by decide, show IntKind.u32.max = 4294967295 from by decide] at h
  omega
/-- Four numbers that came in. -/
def wf4i (x y z u : Int) : Prop := (Lit.int .i64 x).wf = true ∧ (Lit.int .i64 y).wf = true ∧ (Lit.int .i64 z).wf = true ∧ (Lit.int .i64 u).wf = true
theorem open_four {H : Type} {enc : TypeId × Value → H} {W : World} {r : Reach} {b0 b1 : Nat} {spare : Nat → Bool} {held : Bool} {t : TypeId} {f0 f1 f2 f3 : Field} {v : Value} {d : DataW H} {ps : List MemPlace}
    (hs : Tryd.prog.underlying t = some (.struct #[f0, f1, f2, f3])) (hone : oneCellFields Tryd.prog #[f0, f1, f2, f3] = true) (hC : Tryd.prog.cellsOf t = 4) (e0 : f0.type = 3) (e1 : f1.type = 3) (e2 : f2.type = 3) (e3 : f3.type = 3)
    (hval : Value.okWide Tryd.prog W r b0 t v) (h : DataW.Trod enc Tryd.prog W b1 spare held t v d ps) : ∃ x y z u, v = .agg #[.int .i64 x, .int .i64 y, .int .i64 z, .int .i64 u] ∧ wf4i x y z u := by
  obtain ⟨v0, v1, v2, v3, y0, y1, y2, y3, n, rfl, -, -, h0, h1, h2, h3⟩ := Joins.open_agg4 hs hone hC hval h
  rw [e0] at h0
  rw [e1] at h1
  rw [e2] at h2
  rw [e3] at h3
  obtain ⟨x0, q0, -, w0⟩ := DataW.trod_int Tryd.underlying3 h0
  obtain ⟨x1, q1, -, w1⟩ := DataW.trod_int Tryd.underlying3 h1
  obtain ⟨x2, q2, -, w2⟩ := DataW.trod_int Tryd.underlying3 h2
  obtain ⟨x3, q3, -, w3⟩ := DataW.trod_int Tryd.underlying3 h3
  simp at q0 q1 q2 q3
  subst q0 q1 q2 q3
  exact ⟨x0, x1, x2, x3, rfl, w0, w1, w2, w3⟩

end Go.Proofs.YtgipkpkjoicehaaDoor.met

/- Oracles and lists of fours that came in: what the frame hands over. -/
namespace Go.Proofs.YtgipkpkjoicehaaDoor.ora
open Go.ChangeShapes Go.WideShapes Go.ChangeAt Go.RowKit Go.Deep
set_option maxRecDepth 100000
set_option linter.unusedVariables false

/-- A slice of structs of four numbers, opened. -/
theorem fours {H : Type} {enc : TypeId × Value → H} {w : World} {base : Nat} {held : Bool} {t e : TypeId} {f0 f1 f2 f3 : Field} {fuel : Nat} {cs : List Value} {x : DataW H × List MemPlace}
    (ht : Tryd.prog.underlying t = some (.slice e)) (he : Tryd.prog.underlying e = some (.struct #[f0, f1, f2, f3])) (ce : Tryd.prog.cellsOf e = 4)
    (o0 : f0.offset = 0) (o1 : f1.offset = 1) (o2 : f2.offset = 2) (o3 : f3.offset = 3) (t0 : f0.type = 3) (t1 : f1.type = 3) (t2 : f2.type = 3) (t3 : f3.type = 3)
    (h : DataW.trod enc Tryd.prog w base (fun _ => true) held fuel t cs = some x) :
    (cs = [.slice none 0 0] ∧ x = (.nil, [])) ∨
    ∃ (a : Addr) (len cap : Nat) (E S : List (DataW H)) (pl : List MemPlace) (f : Nat → Pr), cs = [.slice (some a) len cap] ∧ len ≤ cap ∧ x = (.slice E S, pl) ∧ E.length + S.length = cap ∧
      ∀ i, i < cap → w.cell? (a.add (i * 4)) = some (.int .i64 (f i).m) ∧ w.cell? (a.add (i * 4 + 1)) = some (.int .i64 (f i).r) ∧ w.cell? (a.add (i * 4 + 2)) = some (.int .i64 (f i).b) ∧ w.cell? (a.add (i * 4 + 3)) = some (.int .i64 (f i).t) ∧ wfP (f i) := by
  have c1 : Tryd.prog.cellsOf 3 = 1 := by kernel_rfl
  rcases open_slice ht h with h0 | ⟨a, len, cap, m, n, D, Pl, rfl, hb, hl, hm, hmm, rfl, hx⟩
  · exact Or.inl h0
  right
  simp only [if_true] at hmm
  subst hmm
  have each : ∀ i, ∃ p : Pr, i < m → w.cell? (a.add (i * 4)) = some (.int .i64 p.m) ∧ w.cell? (a.add (i * 4 + 1)) = some (.int .i64 p.r) ∧ w.cell? (a.add (i * 4 + 2)) = some (.int .i64 p.b) ∧ w.cell? (a.add (i * 4 + 3)) = some (.int .i64 p.t) ∧ wfP p := by
    intro i
    by_cases hi : i < m
    · obtain ⟨cs', h1, h2⟩ := hx i hi
      rw [ce] at h1
      obtain ⟨_, hlen, hcell⟩ := World.cells?_some h1
      obtain ⟨y0, y1, y2, y3, k, _, _, g0, g1, g2, g3⟩ := Joins.trod_struct4 he h2
      match cs', hlen with
      | [v0, v1, v2, v3], _ =>
        rw [o0, t0, c1] at g0
        rw [o1, t1, c1] at g1
        rw [o2, t2, c1] at g2
        rw [o3, t3, c1] at g3
        obtain ⟨z0, e0, _, w0⟩ := DataW.trod_int Tryd.underlying3 g0
        obtain ⟨z1, e1, _, w1⟩ := DataW.trod_int Tryd.underlying3 g1
        obtain ⟨z2, e2, _, w2⟩ := DataW.trod_int Tryd.underlying3 g2
        obtain ⟨z3, e3, _, w3⟩ := DataW.trod_int Tryd.underlying3 g3
        simp at e0 e1 e2 e3
        have k0 := hcell 0 (by omega)
        have k1 := hcell 1 (by omega)
        have k2 := hcell 2 (by omega)
        have k3 := hcell 3 (by omega)
        rw [add_add] at k0 k1 k2 k3
        simp at k0 k1 k2 k3
        refine ⟨⟨z0, z1, z2, z3⟩, fun _ => ⟨?_, ?_, ?_, ?_, w0, w1, w2, w3⟩⟩
        · rw [k0, e0]
        · rw [k1, e1]
        · rw [k2, e2]
        · rw [k3, e3]
    · exact ⟨pr0, fun hh => absurd hh hi⟩
  exact ⟨a, len, m, _, _, _, fun i => Classical.choose (each i), rfl, hl, rfl, by simp; omega, fun i hi => Classical.choose_spec (each i) hi⟩

/-- The first of them, as a list. -/
theorem fours_row {w : World} {a : Addr} {len cap : Nat} (hl : len ≤ cap) (f : Nat → Pr)
    (h : ∀ i, i < cap → w.cell? (a.add (i * 4)) = some (.int .i64 (f i).m) ∧ w.cell? (a.add (i * 4 + 1)) = some (.int .i64 (f i).r) ∧ w.cell? (a.add (i * 4 + 2)) = some (.int .i64 (f i).b) ∧ w.cell? (a.add (i * 4 + 3)) = some (.int .i64 (f i).t) ∧ wfP (f i)) :
    RowP w (some a) len ((List.range len).map f) ∧ RowA w (some a) len ((List.range len).map f) := by
  have key : ∀ i, i < len → ∃ b off, a = ⟨b, off, none⟩ ∧ PrAt w b (off + i * 4) (((List.range len).map f).getD i pr0) ∧ wfP (((List.range len).map f).getD i pr0) := by
    intro i hi
    have h0 := (h 0 (by omega)).1
    have h1 := h i (by omega)
    obtain ⟨b, off, spot⟩ := a
    have hs : spot = none := by simpa [Addr.add] using World.cell?_spot h0
    subst hs
    rw [Addr.add_lit, Addr.add_lit, Addr.add_lit, Addr.add_lit, ← Nat.add_assoc, ← Nat.add_assoc, ← Nat.add_assoc] at h1
    have e : ((List.range len).map f).getD i pr0 = f i := by simp [List.getD, hi]
    rw [e]
    exact ⟨b, off, rfl, ⟨h1.1, h1.2.1, h1.2.2.1, h1.2.2.2.1⟩, h1.2.2.2.2⟩
  constructor
  · refine ⟨by simp, ?_⟩
    by_cases hz : len = 0
    · exact .inl hz
    · obtain ⟨b, off, e, _⟩ := key 0 (by omega)
      refine .inr ⟨b, off, by rw [e], fun i hi => ?_⟩
      obtain ⟨b', off', e', h', _⟩ := key i hi
      rw [e] at e'
      obtain ⟨rfl, rfl, _⟩ := Addr.mk.inj e'
      exact h'
  · intro i hi
    obtain ⟨b, off, e, h1, h2⟩ := key i hi
    exact ⟨b, off, by rw [e], h1, h2⟩

theorem open_ora {H : Type} {enc : TypeId × Value → H} {W : World} {r : Reach} {b0 b1 : Nat} {held : Bool} {v : Value} {d : DataW H} {ps : List MemPlace}
    (hval : Value.okWide Tryd.prog W r b0 28 v) (h : DataW.Trod enc Tryd.prog W b1 (fun _ => true) held 28 v d ps) (hs : ∀ n ∈ d.weights Tryd.prog 28, n ≤ reachBytes) :
    ∃ (a : Option Addr) (len cap : Nat) (l : List Pr), v = .agg #[.slice a len cap] ∧ Came W a len cap l := by
  have hu := Tryd.underlying28
  have hc : Tryd.prog.cellsOf 28 = 1 := by kernel_rfl
  have hc2 : Tryd.prog.cellsOf 26 = 1 := by kernel_rfl
  obtain ⟨cs, rfl, hsz⟩ := okWide_struct hu hval
  rw [hc] at hsz
  obtain ⟨v0, rfl⟩ : ∃ v0, cs = #[v0] := by
    cases cs with
    | mk l => match l, hsz with
      | [v0], _ => exact ⟨v0, rfl⟩
  obtain ⟨fuel, hf⟩ := h
  obtain ⟨y0, n, hx, _, g0⟩ := trod_struct1 hu hf
  simp only [Prod.mk.injEq] at hx
  obtain ⟨rfl, rfl⟩ := hx
  simp only [Value.cells, List.drop_zero] at g0
  rw [hc2] at g0
  simp only [List.take_succ_cons, List.take_zero] at g0
  rcases fours Tryd.underlying26 Tryd.underlying98 (by kernel_rfl) rfl rfl rfl rfl rfl rfl rfl rfl g0 with ⟨hcs, _⟩ | ⟨a, len, cap, E, S, pl, f, hcs, hl, hy, hES, hall⟩
  · simp at hcs
    subst hcs
    exact ⟨none, 0, 0, [], rfl, RowP.nil _ _, fun _ => rfl, Nat.le_refl _, by decide⟩
  · simp at hcs
    subst hcs
    subst hy
    have h1 := hs ((E.length + S.length) * Tryd.prog.bytesOf 98) (by simp [DataW.weights, hu, DataW.weightsEach, Tryd.underlying26])
    rw [show Tryd.prog.bytesOf 98 = 32 from by kernel_rfl, hES] at h1
    simp only [reachBytes] at h1
    exact ⟨some a, len, cap, _, rfl, (fours_row hl f hall).1, fun h => (by cases h), hl, by omega⟩

end Go.Proofs.YtgipkpkjoicehaaDoor.ora
